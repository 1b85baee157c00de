import PyProof.Rows.All
import Wide.All
import OpenK.AllK
import Wide.FinOn
import HandS.ForMost
import HandS.Wide
import HandS.IsInst
import HandS.Gcd
import HandS.Defaults
import HandS.Comp
import HandS.Zip
import HandS.Iter
import HandS.Style
import PyProof.ReprRoads
import PyProof.ReprLen
import HandS.Rev
import HandS.ForExc
import HandS.ExcInit
import HandS.ExcIs
import HandS.TryMany
import HandS.MakeKwOnly
import HandS.Flow
import HandS.More
import HandS.Dict
import HandS.TryOnly
import HandS.Walk
import HandS.FStr
import HandS.ExcField
import HandS.Head2
import HandS.Head3
import HandS.HeadEnd
import HandS.HeadHook3
import HandS.WordsDict
import HandS.TupLe
import PySem.Challenge.RW_fleuron_k25_statuses_and_automata
set_option Elab.async false
set_option linter.all false
set_option maxRecDepth 100000
set_option maxHeartbeats 4000000
namespace Fl
open PySem PySem.Spec PyProof.Rows L2

/-! ### defs of the text, and what they promise -/
structure DefIn (K : PySem.W.Frag) (mg : Str → Option Value) (x : Str) (st : Stmt) : Prop where
  ex : ∃ (f : Addr) (fd : FuncData), Fun K x x st f fd ∧ mg x = some (.ref f)

structure Has (P : Program) (w : World) (K : PySem.W.Frag) (mg : Str → Option Value) (base : Heap) (k : Nat) (x : Str) (ps : List Str) (sp : Sp) : Prop where
  ex : ∃ (f : Addr) (fd : FuncData), FnOk P w K mg base CX0 k f fd ps sp ∧ mg x = some (.ref f) ∧ PySem.W.keepIn K (.ref f) = true ∧ Binds K fd ps []

section
variable {P : Program} {w : World} {K : PySem.W.Frag} {mg : Str → Option Value} {base : Heap}
theorem Has.mono {j k : Nat} {x : Str} {ps : List Str} {sp : Sp} (h : Has P w K mg base j x ps sp) (e : j ≤ k) : Has P w K mg base k x ps sp := by
  obtain ⟨f, fd, a, b, c, d⟩ := h.ex
  exact ⟨f, fd, a.mono e, b, c, d⟩
/-- the context of a def's body -/
abbrev bx (P : Program) (w : World) (K : PySem.W.Frag) (mg : Str → Option Value) (base : Heap) (N : List Str) (x : Str) (st : Stmt) (f : Addr) (cdv : Value) (A : Around) (outer : List Env) (s : Shared) (H : Hp) (E : XK) : Cx :=
  (cxOf CX0 P w K mg base N x (defScope st) f cdv A outer s H E).nox
theorem fnok_of {x : Str} {st : Stmt} {N ps : List Str} {k : Nat} {sp : Sp} {f : Addr} {fd : FuncData} (F : Fun K x x st f fd) (S : FnScope N ps (defScope st))
    (len : ∀ vs H Q E, sp vs H Q E → vs.length = ps.length)
    (hbody : ∀ (f : Addr) (cdv : Value) (A : Around) (outer : List Env) (s : Shared) (H : Hp) (vs : List V) (Q : VK) (E : XK), Room k (A.deeper (envOfC x (defScope st) s.heap.objs.size f cdv)) → sp vs H Q E →
      ∃ t, PSs (bx P w K mg base N x st f cdv A outer s H E) (defBody st) t ∧ t { nx := fun _ H' => Q .non H', rt := Q } (start N vs) H) : FnOk P w K mg base CX0 (k + 1) f fd ps sp :=
  F.ok S len fun cdv A outer s H vs Q E hr h => hbody f cdv A outer s H vs Q E hr h
theorem has_of {x : Str} {st : Stmt} {N ps : List Str} {k : Nat} {sp : Sp} (D : DefIn K mg x st) (S : FnScope N ps (defScope st))
    (hb : ∀ (kV doc pm : Value) (an : Option Addr) (cdv ct : Value) (us : List Value), us.length = ps.length → bindArgs (PySem.W.fnOf x x (defArgs st) (defBody st) (defScope st) .none kV doc pm an cdv ct) ⟨us, []⟩ = pure (ps.zip us))
    (len : ∀ vs H Q E, sp vs H Q E → vs.length = ps.length)
    (hbody : ∀ (f : Addr) (cdv : Value) (A : Around) (outer : List Env) (s : Shared) (H : Hp) (vs : List V) (Q : VK) (E : XK), Room k (A.deeper (envOfC x (defScope st) s.heap.objs.size f cdv)) → sp vs H Q E →
      ∃ t, PSs (bx P w K mg base N x st f cdv A outer s H E) (defBody st) t ∧ t { nx := fun _ H' => Q .non H', rt := Q } (start N vs) H) : Has P w K mg base (k + 1) x ps sp := by
  obtain ⟨f, fd, F, m⟩ := D.ex
  exact ⟨f, fd, fnok_of F S len hbody, m, F.kp, F.binds hb⟩
end
section
variable {X : Cx}
theorem pe_h {k : Nat} {x : Str} {ps : List Str} {sp : Sp} {e : Expr} {es : List Expr} {t : TA} {p pos : Pos} (h : Has X.prog X.w X.K X.mg X.base k x ps sp) (hr : Room k X.A) (ha : PA X (e :: es) t) (hg : Gl X x := by rfl)
    (hdb : (x == ("__debug__" : Str)) = false := by decide) (he : starEach (e :: es) X.env = (false, eval e X.env) :: starEach es X.env := by rfl) (hpl : (backTo pos (starEach es X.env)).any (·.1) = false := by rfl) :
    PE X (.Call (.Name x p) (e :: es) [] pos) (tCall sp [] E0 t) := by
  obtain ⟨f, fd, a, b, c, d⟩ := h.ex
  exact pe_call a hr hg b c d .nil pass0 ha hdb he hpl
end

/-! ### heaps: all stands but at one address -/
def Ex1 (d : Addr) (H H' : Hp) : Prop := ∀ a o, a ≠ d → H a = some o → H' a = some o
theorem Ex1.refl {d : Addr} {H : Hp} : Ex1 d H H := fun _ _ _ h => h
theorem Ex1.trans {d : Addr} {H H1 H2 : Hp} (a : Ex1 d H H1) (b : Ex1 d H1 H2) : Ex1 d H H2 := fun x o n h => b x o n (a x o n h)
theorem Ex1.upd {d : Addr} {H : Hp} {o : HO} : Ex1 d H (upd H d o) := fun a u n h => by rw [upd_ne n]; exact h
theorem Ex1.of {d : Addr} {H H' : Hp} (h : Same H H') : Ex1 d H H' := fun a o _ e => h a o e
theorem Ex1.rd {d : Addr} {H H' : Hp} {a : Addr} {u : HO} (e : Ex1 d H H') (n : a ≠ d) (h : Rd H a u) : Rd H' a u := by
  rcases h with h | ⟨o, h⟩
  · exact Or.inl (e a _ n h)
  · exact Or.inr ⟨o, e a _ n h⟩
theorem Ex1.l {K : PySem.W.Frag} {d : Addr} {H H' : Hp} {a : Addr} {xs : List V} (e : Ex1 d H H') (n : a ≠ d) (h : SqL K H a xs) : SqL K H' a xs := by
  rcases h with h | h
  · exact Or.inl (e.rd n h)
  · exact Or.inr h
theorem Ex1.t {K : PySem.W.Frag} {d : Addr} {H H' : Hp} {a : Addr} {xs : List V} (e : Ex1 d H H') (n : a ≠ d) (h : SqT K H a xs) : SqT K H' a xs := by
  rcases h with h | h
  · exact Or.inl (e.rd n h)
  · exact Or.inr h

/-! ### the deck -/
def DeckAt (K : PySem.W.Frag) (H : Hp) (d : Addr) : Prop := ∃ (s : Addr) (ns : List Int) (pos rest seed : Int), H d = some (.lst [.ref s, .int pos, .int rest, .int seed]) ∧ SqL K H s (ns.map V.int) ∧ s ≠ d ∧ 0 ≤ pos
theorem DeckAt.same {K : PySem.W.Frag} {H H' : Hp} {d : Addr} (h : DeckAt K H d) (e : Same H H') : DeckAt K H' d := by
  obtain ⟨s, ns, p, r, q, h1, h2, h3, h4⟩ := h
  exact ⟨s, ns, p, r, q, e _ _ h1, e.seq h2, h3, h4⟩
theorem Same.new {H : Hp} {p : Addr} {o : HO} (h : H p = none) : Same H (upd H p o) := fun a u e => by
  rw [upd_ne (ne_of_none e h)]
  exact e
def spDraw (K : PySem.W.Frag) : Sp := fun vs H Q _ => ∃ (d : Addr) (m : Int), vs = [.ref d, .int m] ∧ DeckAt K H d ∧ 0 < m ∧ m < 10 ^ 62 ∧ ∀ v H', 0 ≤ v → v < m → DeckAt K H' d → Ex1 d H H' → Q (.int v) H'
def spDeck (K : PySem.W.Frag) : Sp := fun vs H Q _ => ∃ (a : Addr) (ns : List Int), vs = [.ref a] ∧ SqL K H a (ns.map V.int) ∧ ∀ d H', H d = none → DeckAt K H' d → Same H H' → Q (.ref d) H'
theorem div62 {i m : Int} (h : 0 < m) (h1 : m < 10 ^ 62) : CDivW i m := by
  have e : (10 : Int) ^ 62 < 2 ^ 250 := by decide
  refine wide_div (b := 250) h ?_ (by decide) (by decide)
  have e1 : (10 : Nat) ^ 62 < 2 ^ 250 := by decide
  have e2 : m.natAbs < 10 ^ 62 := by omega
  omega

/-! ### readings, step by step -/
section
variable {σ : L2.St} {H : Hp} {Q : VK} {v x y : V} {ta tb tc te : TE} {K : PySem.W.Frag} {D : Ends} {t u : TS}
theorem g_var {i : Nat} (h : σ[i]? = some (some v)) (q : Q v H) : tVar i σ H Q := ⟨v, h, q⟩
theorem g_c (q : Q v H) : tC v σ H Q := q
theorem g_op {r : R2} (h : ta σ H fun x H1 => tb σ H1 fun y H2 => r x y H2 Q) : tOp r ta tb σ H Q := h
theorem g_un {r : V → Hp → VK → Prop} (h : ta σ H fun x H1 => r x H1 Q) : tUn r ta σ H Q := h
theorem g_I0 {g : Int → Int → V} {i j : Int} (q : Q (g i j) H) : rI0 g (.int i) (.int j) H Q := ⟨i, j, rfl, rfl, q⟩
theorem g_I {C : Int → Int → Prop} {g : Int → Int → V} {i j : Int} (c : C i j) (q : Q (g i j) H) : rI C g (.int i) (.int j) H Q := ⟨i, j, rfl, rfl, c, q⟩
theorem g_U {g : Int → V} {i : Int} (q : Q (g i) H) : rU g (.int i) H Q := ⟨i, rfl, q⟩
theorem g_ixL {p : Addr} {xs : List V} {i : Int} (h : SqL K H p xs) (a : atI xs i = some v) (q : Q v H) : rIxL K (.ref p) (.int i) H Q := ⟨p, xs, i, v, rfl, rfl, h, a, q⟩
theorem g_ixT {p : Addr} {xs : List V} {i : Int} (h : SqT K H p xs) (a : atI xs i = some v) (q : Q v H) : rIxT K (.ref p) (.int i) H Q := ⟨p, xs, i, v, rfl, rfl, h, a, q⟩
theorem g_eq (h : scal x y = true) (q : Q (.bl (decide (x = y))) H) : rEq x y H Q := ⟨h, q⟩
theorem g_ne (h : scal x y = true) (q : Q (.bl (!decide (x = y))) H) : rNe x y H Q := ⟨h, q⟩
theorem g_eqI {i j : Int} (q : Q (.bl (decide (i = j))) H) : rEq (.int i) (.int j) H Q := ⟨rfl, by
  have e : decide (V.int i = V.int j) = decide (i = j) := by simp
  rw [e]; exact q⟩
theorem g_neI {i j : Int} (q : Q (.bl (!decide (i = j))) H) : rNe (.int i) (.int j) H Q := ⟨rfl, by
  have e : decide (V.int i = V.int j) = decide (i = j) := by simp
  rw [e]; exact q⟩
theorem g_eqB {i j : Bool} (q : Q (.bl (decide (i = j))) H) : rEq (.bl i) (.bl j) H Q := ⟨rfl, by
  have e : decide (V.bl i = V.bl j) = decide (i = j) := by simp
  rw [e]; exact q⟩
/-! calls of built-ins, by named readings -/
def rInt : List V → Hp → VK → Prop := fun xs H Q => ∃ i, xs = [.int i] ∧ Q (.int i) H
def rIntB : List V → Hp → VK → Prop := fun xs H Q => ∃ k, xs = [.bl k] ∧ Q (.int (if k then 1 else 0)) H
def rAbs : List V → Hp → VK → Prop := fun xs H Q => ∃ i, xs = [.int i] ∧ Q (.int (if i < 0 then -i else i)) H
def rMax : List V → Hp → VK → Prop := fun xs H Q => ∃ i j, xs = [.int i, .int j] ∧ Q (.int (if j > i then j else i)) H
def rMin : List V → Hp → VK → Prop := fun xs H Q => ∃ i j, xs = [.int i, .int j] ∧ Q (.int (if j < i then j else i)) H
def rLen (K : PySem.W.Frag) : List V → Hp → VK → Prop := fun xs H Q => ∃ p ys, xs = [.ref p] ∧ (SqL K H p ys ∨ SqT K H p ys) ∧ Q (.int (ys.length : Int)) H
def rList (K : PySem.W.Frag) : List V → Hp → VK → Prop := fun xs H Q => ∃ p ys, xs = [.ref p] ∧ (SqL K H p ys ∨ SqT K H p ys) ∧ ∀ l, H l = none → Q (.ref l) (upd H l (.lst ys))
theorem g_cb1 {r : List V → Hp → VK → Prop} (h : ta σ H fun x H1 => r [x] H1 Q) : tCB r (tCons ta tNil) σ H Q := h
theorem g_cb2 {r : List V → Hp → VK → Prop} (h : ta σ H fun x H1 => tb σ H1 fun y H2 => r [x, y] H2 Q) : tCB r (tCons ta (tCons tb tNil)) σ H Q := h
theorem g_int {i : Int} (q : Q (.int i) H) : rInt [.int i] H Q := ⟨i, rfl, q⟩
theorem g_intB {k : Bool} (q : Q (.int (if k then 1 else 0)) H) : rIntB [.bl k] H Q := ⟨k, rfl, q⟩
theorem g_abs {i : Int} (q : Q (.int (if i < 0 then -i else i)) H) : rAbs [.int i] H Q := ⟨i, rfl, q⟩
theorem g_max {i j : Int} (q : Q (.int (if j > i then j else i)) H) : rMax [.int i, .int j] H Q := ⟨i, j, rfl, q⟩
theorem g_min {i j : Int} (q : Q (.int (if j < i then j else i)) H) : rMin [.int i, .int j] H Q := ⟨i, j, rfl, q⟩
theorem g_lenL {p : Addr} {ys : List V} (h : SqL K H p ys) (q : Q (.int (ys.length : Int)) H) : rLen K [.ref p] H Q := ⟨p, ys, rfl, .inl h, q⟩
theorem g_lenT {p : Addr} {ys : List V} (h : SqT K H p ys) (q : Q (.int (ys.length : Int)) H) : rLen K [.ref p] H Q := ⟨p, ys, rfl, .inr h, q⟩
theorem g_listL {p : Addr} {ys : List V} (h : SqL K H p ys) (q : ∀ l, H l = none → Q (.ref l) (upd H l (.lst ys))) : rList K [.ref p] H Q := ⟨p, ys, rfl, .inl h, q⟩
theorem g_gcd {a b : Int} (q : Q (.int ((Nat.gcd a.natAbs b.natAbs : Nat) : Int)) H) : rGcd [.int a, .int b] H Q := ⟨a, b, rfl, q⟩
theorem g_isi {c : V} {ty w : Value} {b : Bool} (hc : ClsV c w) (ht : TyX K H x ty) (e : PySem.W.kitOne K ty w = some b) (q : Q (.bl b) H) : rIsi K [x, c] H Q := ⟨x, c, ty, w, b, rfl, hc, ht, e, q⟩
/-- isinstance(x, T), T a built-in type's name, x of the built-in type n -/
theorem g_isiT {n m : String} {b : Bool} (ht : TyX K H x (.type n)) (e : kitB n m = some b) (q : Q (.bl b) H) : rIsi K [x, .ty m] H Q := ⟨x, .ty m, .type n, .type m, b, rfl, .ty m, ht, kit_ty e, q⟩
/-! displays -/
theorem g_tup2 (h : ta σ H fun x H1 => tb σ H1 fun y H2 => ∀ p, H2 p = none → Q (.ref p) (upd H2 p (.tup [x, y]))) : tTup (tCons ta (tCons tb tNil)) σ H Q := by
  show ta σ H fun x H1 => tb σ H1 fun y H2 => 2 ≤ sizeLine ∧ ∀ p, H2 p = none → Q (.ref p) (upd H2 p (.tup [x, y]))
  simpa [show (2 : Nat) ≤ sizeLine by decide] using h
theorem g_tupN {ta : TA} (h : ta σ H fun xs H1 => xs.length ≤ sizeLine ∧ ∀ p, H1 p = none → Q (.ref p) (upd H1 p (.tup xs))) : tTup ta σ H Q := h
theorem g_lstN {ta : TA} (h : ta σ H fun xs H1 => xs.length ≤ sizeLine ∧ ∀ p, H1 p = none → Q (.ref p) (upd H1 p (.lst xs))) : tLst ta σ H Q := h
theorem g_nil {Q : List V → Hp → Prop} (q : Q [] H) : tNil σ H Q := q
theorem g_cons {tr : TA} {Q : List V → Hp → Prop} (h : ta σ H fun x H1 => tr σ H1 fun xs H2 => Q (x :: xs) H2) : tCons ta tr σ H Q := h
theorem g_new {n : Nat} {Q : Addr → Hp → Prop} {f : Addr → Hp} (hn : n ≤ 1000) (h : ∀ p, H p = none → Q p (f p)) : n ≤ sizeLine ∧ ∀ p, H p = none → Q p (f p) := ⟨Nat.le_trans hn (by decide), h⟩
/-! tests -/
variable {QB : Bool → Hp → Prop} {tt tu : TT}
theorem g_test (h : te σ H fun x H1 => ∃ k, x = .bl k ∧ QB k H1) : tTest te σ H QB := h
theorem g_B (h : te σ H fun x H1 => ∃ k, x = .bl k ∧ QB k H1) : tB te σ H QB := h
theorem g_bl {b : Bool} (q : QB b H) : ∃ k, V.bl b = .bl k ∧ QB k H := ⟨b, rfl, q⟩
theorem g_not (h : tt σ H fun b H1 => QB (!b) H1) : tNot tt σ H QB := h
theorem g_and (h : tt σ H fun b H1 => if b = true then tu σ H1 QB else QB false H1) : tAnd tt tu σ H QB := h
theorem g_or (h : tt σ H fun b H1 => if b = true then QB true H1 else tu σ H1 QB) : tOr tt tu σ H QB := h
theorem g_andV (h : ta σ H fun x H1 => ∃ c, x = .bl c ∧ if c = true then tb σ H1 Q else Q (.bl false) H1) : tAndV ta tb σ H Q := h
theorem g_orV (h : ta σ H fun x H1 => ∃ c, x = .bl c ∧ if c = true then Q (.bl true) H1 else tb σ H1 Q) : tOrV ta tb σ H Q := h
theorem g_notV (h : ta σ H fun x H1 => ∃ c, x = .bl c ∧ Q (.bl (!c)) H1) : tNotV ta σ H Q := h
theorem g_ex {b : Bool} {P : Bool → Prop} (q : P b) : ∃ c, V.bl b = .bl c ∧ P c := ⟨b, rfl, q⟩
theorem g_ite {p : Prop} [Decidable p] {A B : Prop} (h1 : p → A) (h2 : ¬ p → B) : if decide p = true then A else B := by
  by_cases h : p
  · rw [decide_eq_true h, if_pos rfl]; exact h1 h
  · rw [decide_eq_false h, if_neg Bool.false_ne_true]; exact h2 h
theorem g_iteN {p : Prop} [Decidable p] {A B : Prop} (h1 : ¬ p → A) (h2 : p → B) : if (!decide p) = true then A else B := by
  by_cases h : p
  · rw [decide_eq_true h, if_neg (by decide)]; exact h2 h
  · rw [decide_eq_false h, if_pos (by decide)]; exact h1 h
theorem g_iteT {A B : Prop} (h : A) : if true = true then A else B := by rw [if_pos rfl]; exact h
theorem g_iteF {A B : Prop} (h : B) : if false = true then A else B := by rw [if_neg Bool.false_ne_true]; exact h
theorem g_iteNT {A B : Prop} (h : B) : if (!true) = true then A else B := by rw [if_neg (by decide)]; exact h
theorem g_iteNF {A B : Prop} (h : A) : if (!false) = true then A else B := by rw [if_pos (by decide)]; exact h
theorem g_iteB {b : Bool} {A B : Prop} (h1 : b = true → A) (h2 : b = false → B) : if b = true then A else B := by
  cases b with
  | true => rw [if_pos rfl]; exact h1 rfl
  | false => rw [if_neg Bool.false_ne_true]; exact h2 rfl
/-! statements -/
variable {g : TG}
theorem g_seq (h : t { D with nx := u D } σ H) : tSeq t u D σ H := h
theorem g_next (q : D.nx σ H) : tNext D σ H := q
theorem g_ret (h : te σ H D.rt) : tRet te D σ H := h
theorem g_if {c : TT} (h : c σ H fun b H1 => if b = true then t D σ H1 else u D σ H1) : tIfS c t u D σ H := h
theorem g_set {i : Nat} (h : te σ H fun x H1 => D.nx (σ.set i (some x)) H1) : tAsg te (gName i) D σ H := h
theorem g_setS (h : te σ H fun x H1 => ta σ H1 fun o H2 => tb σ H2 fun i H3 => rSetL o i x H3 fun H4 => D.nx σ H4) : tAsg te (gSub ta tb rSetL) D σ H := h
theorem g_setL {p : Addr} {xs : List V} {k : Int} {j : Nat} {Q : Hp → Prop} (h : H p = some (.lst xs)) (e : ixN xs.length k = some j) (q : Q (upd H p (.lst (xs.set j v)))) : rSetL (.ref p) (.int k) v H Q := ⟨p, xs, k, j, rfl, rfl, h, e, q⟩
theorem g_drop (h : te σ H fun _ H1 => D.nx σ H1) : tDrop te D σ H := h
theorem g_aug {i : Nat} {r : TIp} (hx : σ[i]? = some (some x)) (h : te σ H fun y H1 => r x y H1 fun z H2 => D.nx (σ.set i (some z)) H2) : tAug i te r D σ H := ⟨x, hx, h⟩
theorem g_ipI {f : Int → Int → Int} {i j : Int} (q : Q (.int (f i j)) H) : ipI f (.int i) (.int j) H Q := ⟨i, j, rfl, rfl, q⟩
theorem g_call {sp : Sp} {E : XK} {ta : TA} (h : ta σ H fun vs H1 => sp vs H1 Q E) : tCall sp [] E ta σ H Q := by
  show ta σ H fun vs H1 => sp (vs ++ []) H1 Q E
  simpa using h
end
section
variable {X : Cx}
theorem pe_powc {a b r : Int} {j1 j2 : Nat} {p1 p2 pos : Pos} (h : 0 ≤ b ∧ b ≤ 1000000 ∧ a.natAbs < 2 ^ 64) (e : a ^ b.toNat = r) : PE X (.BinOp (.Constant (.int a) j1 p1) .Pow (.Constant (.int b) j2 p2) pos) (tC (.int r)) :=
  ⟨fun pins s σ H Q I q => (pe_op op_pow pe_int pe_int).run pins s σ H Q I ⟨a, b, rfl, rfl, h, by subst e; exact q⟩⟩
theorem call_int' : CallR X (.type "int") rInt := fun pins s σ H xs us Q I r h => call_int1 pins s σ H xs us Q I r (.inl h)
theorem call_intB : CallR X (.type "int") rIntB := fun pins s σ H xs us Q I r h => call_int1 pins s σ H xs us Q I r (.inr h)
theorem call_abs' : CallR X (.builtin "abs") rAbs := call_abs
theorem call_max' (hc : X.calm = true) : CallR X (.builtin "max") rMax := call_max2 hc
theorem call_min' (hc : X.calm = true) : CallR X (.builtin "min") rMin := call_min2 hc
theorem call_len' : CallR X (.builtin "len") (rLen X.K) := call_len_seq
theorem call_list' : CallR X (.type "list") (rList X.K) := call_list_of
end
/-! isinstance, by the built-in kinds -/
theorem kit_int_int : kitB "int" "int" = some true := by decide +kernel
theorem kit_int_bool : kitB "int" "bool" = some false := by decide +kernel
theorem kit_int_tuple : kitB "int" "tuple" = some false := by decide +kernel
theorem kit_int_str : kitB "int" "str" = some false := by decide +kernel
theorem kit_int_list : kitB "int" "list" = some false := by decide +kernel
theorem kit_int_dict : kitB "int" "dict" = some false := by decide +kernel
theorem kit_bool_int : kitB "bool" "int" = some true := by decide +kernel
theorem kit_bool_bool : kitB "bool" "bool" = some true := by decide +kernel
theorem kit_bool_tuple : kitB "bool" "tuple" = some false := by decide +kernel
theorem kit_bool_str : kitB "bool" "str" = some false := by decide +kernel
theorem kit_bool_list : kitB "bool" "list" = some false := by decide +kernel
theorem kit_bool_dict : kitB "bool" "dict" = some false := by decide +kernel
theorem kit_tuple_int : kitB "tuple" "int" = some false := by decide +kernel
theorem kit_tuple_bool : kitB "tuple" "bool" = some false := by decide +kernel
theorem kit_tuple_tuple : kitB "tuple" "tuple" = some true := by decide +kernel
theorem kit_tuple_str : kitB "tuple" "str" = some false := by decide +kernel
theorem kit_tuple_list : kitB "tuple" "list" = some false := by decide +kernel
theorem kit_tuple_dict : kitB "tuple" "dict" = some false := by decide +kernel
theorem kit_str_int : kitB "str" "int" = some false := by decide +kernel
theorem kit_str_bool : kitB "str" "bool" = some false := by decide +kernel
theorem kit_str_tuple : kitB "str" "tuple" = some false := by decide +kernel
theorem kit_str_str : kitB "str" "str" = some true := by decide +kernel
theorem kit_str_list : kitB "str" "list" = some false := by decide +kernel
theorem kit_str_dict : kitB "str" "dict" = some false := by decide +kernel
theorem kit_list_int : kitB "list" "int" = some false := by decide +kernel
theorem kit_list_bool : kitB "list" "bool" = some false := by decide +kernel
theorem kit_list_tuple : kitB "list" "tuple" = some false := by decide +kernel
theorem kit_list_str : kitB "list" "str" = some false := by decide +kernel
theorem kit_list_list : kitB "list" "list" = some true := by decide +kernel
theorem kit_list_dict : kitB "list" "dict" = some false := by decide +kernel
theorem kit_NoneType_int : kitB "NoneType" "int" = some false := by decide +kernel
theorem kit_NoneType_bool : kitB "NoneType" "bool" = some false := by decide +kernel
theorem kit_NoneType_tuple : kitB "NoneType" "tuple" = some false := by decide +kernel
theorem kit_NoneType_str : kitB "NoneType" "str" = some false := by decide +kernel
theorem kit_NoneType_list : kitB "NoneType" "list" = some false := by decide +kernel
theorem kit_NoneType_dict : kitB "NoneType" "dict" = some false := by decide +kernel
theorem kit_dict_int : kitB "dict" "int" = some false := by decide +kernel
theorem kit_dict_bool : kitB "dict" "bool" = some false := by decide +kernel
theorem kit_dict_tuple : kitB "dict" "tuple" = some false := by decide +kernel
theorem kit_dict_str : kitB "dict" "str" = some false := by decide +kernel
theorem kit_dict_list : kitB "dict" "list" = some false := by decide +kernel
theorem kit_dict_dict : kitB "dict" "dict" = some true := by decide +kernel

/-! defs with defaults -/
structure DefInD (K : PySem.W.Frag) (mg : Str → Option Value) (x : Str) (st : Stmt) (dvs : List V) : Prop where
  ex : ∃ (f : Addr) (fd : FuncData), FunD K x x (defArgs st) (defBody st) (defScope st) dvs [] f fd ∧ mg x = some (.ref f)
structure HasD (P : Program) (w : World) (K : PySem.W.Frag) (mg : Str → Option Value) (base : Heap) (k : Nat) (x : Str) (ps : List Str) (dvs : List V) (sp : Sp) : Prop where
  ex : ∃ (f : Addr) (fd : FuncData) (ds : List Value), FnOk P w K mg base CX0 k f fd ps sp ∧ mg x = some (.ref f) ∧ PySem.W.keepIn K (.ref f) = true ∧ Vals dvs ds ∧ Binds K fd ps ds
section
variable {P : Program} {w : World} {K : PySem.W.Frag} {mg : Str → Option Value} {base : Heap}
/-- the def's promise; its calls with n values written, the defaults behind the first j filling up -/
theorem hasD_of {x : Str} {st : Stmt} {N ps : List Str} {k : Nat} {sp : Sp} {dvs : List V} (D : DefInD K mg x st dvs) (S : FnScope N ps (defScope st)) (n j : Nat) (hd : dvs ≠ []) (hn : n + (dvs.length - j) = ps.length)
    (hb : ∀ (T : Addr) (kV doc pm : Value) (an : Option Addr) (cdv ct : Value) (us its : List Value), us.length = n → its.length = dvs.length →
      ∃ k, bindArgs (PySem.W.fnOf x x (defArgs st) (defBody st) (defScope st) (.ref T) kV doc pm an cdv ct) ⟨us, []⟩ = seqItems? (.ref T) >>= k ∧ k (some its.toArray) = pure (ps.zip (us ++ its.drop j)))
    (len : ∀ vs H Q E, sp vs H Q E → vs.length = ps.length)
    (hbody : ∀ (f : Addr) (cdv : Value) (A : Around) (outer : List Env) (s : Shared) (H : Hp) (vs : List V) (Q : VK) (E : XK), Room k (A.deeper (envOfC x (defScope st) s.heap.objs.size f cdv)) → sp vs H Q E →
      ∃ t, PSs (bx P w K mg base N x st f cdv A outer s H E) (defBody st) t ∧ t { nx := fun _ H' => Q .non H', rt := Q } (start N vs) H) : HasD P w K mg base (k + 1) x ps (dvs.drop j) sp := by
  obtain ⟨f, fd, F, m⟩ := D.ex
  obtain ⟨ds, r, b⟩ := F.binds1 n j hd hn hb
  refine ⟨f, fd, ds, F.ok S len fun cdv A outer s H vs Q E hr h => ?_, m, F.kp, r, b⟩
  obtain ⟨t, ht, q⟩ := hbody f cdv A outer s H vs Q E hr h
  exact ⟨t, ht.nox, q⟩
end
theorem pe_hD {X : Cx} {k : Nat} {x : Str} {ps : List Str} {dvs : List V} {sp : Sp} {e : Expr} {es : List Expr} {t : TA} {p pos : Pos} (h : HasD X.prog X.w X.K X.mg X.base k x ps dvs sp) (hr : Room k X.A) (ha : PA X (e :: es) t) (hg : Gl X x := by rfl)
    (hdb : (x == ("__debug__" : Str)) = false := by decide) (he : starEach (e :: es) X.env = (false, eval e X.env) :: starEach es X.env := by rfl) (hpl : (backTo pos (starEach es X.env)).any (·.1) = false := by rfl) :
    PE X (.Call (.Name x p) (e :: es) [] pos) (tCall sp dvs E0 t) := by
  obtain ⟨f, fd, ds, a, b, c, r, d⟩ := h.ex
  exact pe_call a hr hg b c d r pass0 ha hdb he hpl
theorem g_callD {sp : Sp} {dvs : List V} {E : XK} {ta : TA} {σ : L2.St} {H : Hp} {Q : VK} (h : ta σ H fun vs H1 => sp (vs ++ dvs) H1 Q E) : tCall sp dvs E ta σ H Q := h
end Fl

set_option Elab.async false
set_option linter.all false
set_option maxRecDepth 100000
set_option maxHeartbeats 4000000
set_option exponentiation.threshold 20000
/-! fractions: the mathematics, and what the helpers promise -/
namespace Fl
open PySem PySem.Spec PyProof.Rows L2

def gg (p q : Int) : Int := ((Nat.gcd p.natAbs q.natAbs : Nat) : Int)
def rp (p q : Int) : Int := if q < 0 then -(p / gg p q) else p / gg p q
def rq (p q : Int) : Int := if q < 0 then -(q / gg p q) else q / gg p q
theorem gg_pos {p q : Int} (h : q ≠ 0) : 0 < gg p q := by
  have : 0 < Nat.gcd p.natAbs q.natAbs := Nat.gcd_pos_of_pos_right _ (by omega)
  unfold gg; omega
theorem gg_dvd_l (p q : Int) : gg p q ∣ p := by
  unfold gg
  exact Int.ofNat_dvd_left.mpr (Nat.gcd_dvd_left _ _)
theorem gg_dvd_r (p q : Int) : gg p q ∣ q := by
  unfold gg
  exact Int.ofNat_dvd_left.mpr (Nat.gcd_dvd_right _ _)
theorem abs_div_le {p g : Int} (hg : 0 < g) : (p / g).natAbs ≤ p.natAbs := by
  have h := Int.natAbs_ediv_le_natAbs p g
  exact h
theorem fdiv_neg_exact {p g : Int} (hg : 0 < g) (hd : g ∣ p) : Int.fdiv p (-g) = -(p / g) := by
  obtain ⟨k, rfl⟩ := hd
  have h1 : g * k / g = k := Int.mul_ediv_cancel_left k (by omega)
  rw [h1]
  have h2 : g * k = (-g) * (-k) := by rw [Int.neg_mul_neg]
  rw [h2]
  exact Int.mul_fdiv_cancel_left (-k) (by omega)
theorem fdiv_pos_exact {p g : Int} (hg : 0 < g) : Int.fdiv p g = p / g := Int.fdiv_eq_ediv_of_nonneg p (by omega)
theorem rp_abs (p q : Int) (h : q ≠ 0) : (rp p q).natAbs ≤ p.natAbs := by
  have := abs_div_le (p := p) (gg_pos (p := p) h)
  unfold rp
  split <;> omega
theorem rq_abs (p q : Int) (h : q ≠ 0) : (rq p q).natAbs ≤ q.natAbs := by
  have := abs_div_le (p := q) (gg_pos (p := p) h)
  unfold rq
  split <;> omega
theorem rq_pos (p q : Int) (h : q ≠ 0) : 0 < rq p q := by
  have hg := gg_pos (p := p) h
  obtain ⟨k, hk⟩ := gg_dvd_r p q
  have e : q / gg p q = k := Int.ediv_eq_of_eq_mul_right (by omega) hk
  unfold rq
  rw [e]
  by_cases hq : q < 0
  · rw [if_pos hq]
    have : k < 0 := by
      rcases (by omega : k < 0 ∨ 0 ≤ k) with h1 | h1
      · exact h1
      · have : 0 ≤ gg p q * k := Int.mul_nonneg (by omega) h1
        omega
    omega
  · rw [if_neg hq]
    rcases (by omega : 0 < k ∨ k ≤ 0) with h1 | h1
    · exact h1
    · have h2 : gg p q * k ≤ 0 := Int.mul_nonpos_of_nonneg_of_nonpos (by omega) h1
      omega
theorem rp_mul (p q : Int) (h : q ≠ 0) : rp p q * q = p * rq p q := by
  have hg := gg_pos (p := p) h
  obtain ⟨k, hk⟩ := gg_dvd_r p q
  obtain ⟨l, hl⟩ := gg_dvd_l p q
  have e : q / gg p q = k := Int.ediv_eq_of_eq_mul_right (by omega) hk
  have e2 : p / gg p q = l := Int.ediv_eq_of_eq_mul_right (by omega) hl
  have key : l * q = p * k := by
    generalize gg p q = g at hk hl
    subst hk hl
    rw [Int.mul_comm g l, Int.mul_assoc]
  unfold rp rq
  rw [e, e2]
  split
  · rw [Int.neg_mul, key, Int.mul_neg]
  · exact key

/-! the loop of Euclid -/
theorem euclid_step {m n : Nat} (hn : 0 < n) : Nat.gcd n (m % n) = Nat.gcd m n := by
  rw [Nat.gcd_comm n (m % n), Nat.gcd_comm m n]
  exact (Nat.gcd_rec n m).symm
structure Eu (g B i m n : Nat) : Prop where
  gcd : Nat.gcd m n = g
  lt : (i = 0 ∧ m * n ≤ B) ∨ n < m
  le : m * n * 2 ^ i ≤ 2 * B
theorem Eu.start {m n B : Nat} (h : m * n ≤ B) : Eu (Nat.gcd m n) B 0 m n := ⟨rfl, .inl ⟨rfl, h⟩, by simp; omega⟩
theorem Eu.step {g B i m n : Nat} (h : Eu g B i m n) (hn : 0 < n) : Eu g B (i + 1) n (m % n) := by
  refine ⟨(euclid_step hn).trans h.gcd, .inr (Nat.mod_lt _ hn), ?_⟩
  have hle := h.le
  rcases h.lt with e | e
  · obtain ⟨e, e'⟩ := e
    subst e
    have h1 : m % n ≤ m := Nat.mod_le _ _
    have h2 : n * (m % n) ≤ n * m := Nat.mul_le_mul_left _ h1
    have h3 : n * m = m * n := Nat.mul_comm _ _
    rw [Nat.zero_add, Nat.pow_one]
    omega
  · have h1 : 2 * (m % n) ≤ m := by
      have q1 := Nat.div_add_mod m n
      have q2 : m % n < n := Nat.mod_lt _ hn
      have q3 : 1 ≤ m / n := (Nat.le_div_iff_mul_le hn).mpr (by omega)
      have q4 : n * 1 ≤ n * (m / n) := Nat.mul_le_mul_left _ q3
      omega
    have h2 : n * (m % n) * 2 ^ (i + 1) = n * (2 * (m % n)) * 2 ^ i := by
      rw [Nat.pow_succ]
      simp only [Nat.mul_assoc, Nat.mul_comm, Nat.mul_left_comm]
    have h3 : n * (2 * (m % n)) ≤ n * m := Nat.mul_le_mul_left _ h1
    have h4 : n * (2 * (m % n)) * 2 ^ i ≤ n * m * 2 ^ i := Nat.mul_le_mul_right _ h3
    rw [h2, Nat.mul_comm n m] at *
    omega
theorem Eu.fin {g B m n : Nat} (h : Eu g B 5000 m n) (hB : B < 2 ^ 4990) : m = g := by
  have h0 : n = 0 := by
    rcases Nat.eq_zero_or_pos n with e | e
    · exact e
    · exfalso
      have hm : n < m := by
        rcases h.lt with q | q
        · cases q.1
        · exact q
      have h1 : 1 * 1 ≤ m * n := Nat.mul_le_mul (by omega) e
      have h2 : 1 * 2 ^ 5000 ≤ m * n * 2 ^ 5000 := Nat.mul_le_mul_right _ (by omega)
      have h3 := h.le
      have h4 : 2 * 2 ^ 4990 ≤ 1 * 2 ^ 5000 := by decide +kernel
      omega
  have := h.gcd
  rw [h0, Nat.gcd_zero_right] at this
  exact this
theorem Eu.done {g B i m : Nat} (h : Eu g B i m 0) : m = g := by
  have := h.gcd
  rw [Nat.gcd_zero_right] at this
  exact this

/-! sizes -/
theorem mulW {i j : Int} (hi : i.natAbs < 2 ^ 4000) (hj : j.natAbs < 2 ^ 4000) : CMulW i j := wide_mul hi hj (by decide) (by decide) (by decide)
theorem divW {i j : Int} (h : 0 < j) (hj : j.natAbs < 2 ^ 4000) : CDivW i j := wide_div h hj (by decide) (by decide)
/-- // by a divisor of either sign -/
def CDivS (_ j : Int) : Prop := j ≠ 0 ∧ j.natAbs.log2 < 9000
theorem op_fdivS {X : Cx} : OpR X (binaryOp .FloorDiv) (rI CDivS fun i j => .int (i.fdiv j)) := opI fun i j _ _ _ _ _ hc q =>
  floordiv_int hc.1 q (.inl (PyProof.noPylong_of_log2 hc.2))
theorem divS {i j : Int} (h : j ≠ 0) (hj : j.natAbs < 2 ^ 4000) : CDivS i j := ⟨h, Nat.lt_of_lt_of_le (PySem.Flt.log2_lt_of (by decide) hj) (by decide)⟩

/-! loops -/
section
variable {σ : L2.St} {H : Hp} {te : TE} {D : Ends} {g : TG} {tb : TS}
theorem g_forR (n : Int) (Pv : Nat → L2.St → Hp → Prop) (h : te σ H fun x H1 => x = .int n ∧ -(2 ^ 62) ≤ n ∧ n < 2 ^ 62 ∧ Pv 0 σ H1)
    (hs : ∀ (i : Nat) σ' H', (i : Int) < n → Pv i σ' H' → g (.int (i : Int)) σ' H' fun σ2 H2 => tb { D with nx := Pv (i + 1), ct := Pv (i + 1), bk := D.nx } σ2 H2)
    (hd : ∀ σ' H', Pv n.toNat σ' H' → D.nx σ' H') (mono : ∀ Q Q' : VK, (∀ x H1, Q x H1 → Q' x H1) → te σ H Q → te σ H Q') : tFor (iRng1 (tCons te tNil)) g tb D σ H := by
  refine mono _ _ (fun x H1 q => ?_) h
  obtain ⟨rfl, h1, h2, p⟩ := q
  show ∃ j : Int, [V.int n] = [V.int j] ∧ _
  refine ⟨n, rfl, h1, h2, for_range Pv p (fun i σ' H' hi p' => ?_) hd⟩
  have e0 : (0 : Int) + (i : Int) = (i : Int) := Int.zero_add _
  rw [e0]
  exact hs i σ' H' (by omega) p'
end

/-! promises -/
/-- the frame: what stood stands -/
def spGcd : Sp := fun vs H Q _ => ∃ (m n : Nat), vs = [.int (m : Int), .int (n : Int)] ∧ m * n < 2 ^ 4990 ∧ Q (.int ((Nat.gcd m n : Nat) : Int)) H
def spRat : Sp := fun vs H Q _ => ∃ (p q : Int), vs = [.int p, .int q] ∧ q ≠ 0 ∧ p.natAbs < 2 ^ 2000 ∧ q.natAbs < 2 ^ 2000 ∧ ∀ t, H t = none → Q (.ref t) (upd H t (.tup [.int (rp p q), .int (rq p q)]))
/-- a fraction stands at a -/
def FrAt (K : PySem.W.Frag) (H : Hp) (a : Addr) (p q : Int) : Prop := SqT K H a [.int p, .int q]
theorem rat_app {p q : Int} {H : Hp} {Q : VK} {E : XK} (h : q ≠ 0) (h1 : p.natAbs < 2 ^ 2000) (h2 : q.natAbs < 2 ^ 2000) (k : ∀ t, H t = none → Q (.ref t) (upd H t (.tup [.int (rp p q), .int (rq p q)]))) : spRat [.int p, .int q] H Q E :=
  ⟨p, q, rfl, h, h1, h2, k⟩
theorem draw_app {K : PySem.W.Frag} {d : Addr} {m : Int} {H : Hp} {Q : VK} {E : XK} (h : DeckAt K H d) (h1 : 0 < m) (h2 : m < 10 ^ 62) (k : ∀ v H', 0 ≤ v → v < m → DeckAt K H' d → Ex1 d H H' → Q (.int v) H') : spDraw K [.ref d, .int m] H Q E :=
  ⟨d, m, rfl, h, h1, h2, k⟩
theorem deck_app {K : PySem.W.Frag} {a : Addr} {ns : List Int} {H : Hp} {Q : VK} {E : XK} (h : SqL K H a (ns.map V.int)) (k : ∀ d H', H d = none → DeckAt K H' d → Same H H' → Q (.ref d) H') : spDeck K [.ref a] H Q E :=
  ⟨a, ns, rfl, h, k⟩
theorem DeckAt.ne {K : PySem.W.Frag} {H : Hp} {d p : Addr} (h : DeckAt K H d) (hp : H p = none) : p ≠ d := by
  obtain ⟨s, ns, a, b, c, h1, _⟩ := h
  exact fun e => by rw [e, h1] at hp; cases hp
theorem Same.t {K : PySem.W.Frag} {H H' : Hp} {a : Addr} {xs : List V} (e : Same H H') (h : SqT K H a xs) : SqT K H' a xs := by
  rcases h with (h | ⟨o, h⟩) | h
  · exact .inl (.inl (e _ _ h))
  · exact .inl (.inr ⟨o, e _ _ h⟩)
  · exact .inr h

theorem at_int {ns : List Int} {i : Int} (h0 : 0 ≤ i) (h : i < ns.length) : ∃ n, atI (ns.map V.int) i = some (.int n) := by
  obtain ⟨k, rfl⟩ : ∃ k : Nat, i = (k : Int) := ⟨i.toNat, by omega⟩
  have hk : k < ns.length := by omega
  refine ⟨ns[k], atI_nat ?_⟩
  rw [List.getElem?_map, List.getElem?_eq_getElem hk]
  rfl

theorem natAbs_ediv_of_dvd {p g : Int} (hg : 0 < g) (hd : g ∣ p) : (p / g).natAbs = p.natAbs / g.natAbs := by
  obtain ⟨k, rfl⟩ := hd
  rw [Int.mul_ediv_cancel_left k (by omega), Int.natAbs_mul, Nat.mul_div_cancel_left _ (by omega)]
theorem rat_cop (p q : Int) (h : q ≠ 0) : Nat.gcd (rp p q).natAbs (rq p q).natAbs = 1 := by
  have hg := gg_pos (p := p) h
  have e : (gg p q).natAbs = Nat.gcd p.natAbs q.natAbs := rfl
  have h0 : 0 < Nat.gcd p.natAbs q.natAbs := by omega
  have key : Nat.gcd (p / gg p q).natAbs (q / gg p q).natAbs = 1 := by
    rw [natAbs_ediv_of_dvd hg (gg_dvd_l p q), natAbs_ediv_of_dvd hg (gg_dvd_r p q), e]
    exact Nat.gcd_div_gcd_div_gcd_of_pos_right (by omega)
  unfold rp rq
  split
  · rw [Int.natAbs_neg, Int.natAbs_neg]
    exact key
  · exact key
/-- a drawn fraction -/
structure Fra (n e : Int) : Prop where
  pos : 0 < e
  bn : n.natAbs ≤ 10 ^ 12
  be : e.natAbs ≤ 10 ^ 12
  cop : Nat.gcd n.natAbs e.natAbs = 1
theorem big12 {x : Int} (h : x.natAbs ≤ 10 ^ 12) : x.natAbs < 2 ^ 2000 := by
  have : (10 : Nat) ^ 12 < 2 ^ 2000 := by decide +kernel
  omega
theorem big40 {x : Int} (h : x.natAbs < 2 ^ 2000) : x.natAbs < 2 ^ 4000 := by
  have : (2 : Nat) ^ 2000 < 2 ^ 4000 := by decide +kernel
  omega
theorem Fra.int {n : Int} (h : n.natAbs ≤ 10 ^ 12) : Fra n 1 := ⟨by decide, h, by decide, Nat.gcd_one_right _⟩
theorem Fra.rat {p q : Int} (h : q ≠ 0) (h1 : p.natAbs ≤ 10 ^ 12) (h2 : q.natAbs ≤ 10 ^ 12) : Fra (rp p q) (rq p q) :=
  ⟨rq_pos p q h, Nat.le_trans (rp_abs p q h) h1, Nat.le_trans (rq_abs p q h) h2, rat_cop p q h⟩
def spBig (K : PySem.W.Frag) : Sp := fun vs H Q _ => ∃ (d : Addr), vs = [.ref d] ∧ DeckAt K H d ∧ ∀ t H' n e, DeckAt K H' d → Ex1 d H H' → t ≠ d → SqT K H' t [.int n, .int e] → Fra n e → Q (.ref t) H'
theorem big_app {K : PySem.W.Frag} {d : Addr} {H : Hp} {Q : VK} {E : XK} (h : DeckAt K H d) (k : ∀ t H' n e, DeckAt K H' d → Ex1 d H H' → t ≠ d → SqT K H' t [.int n, .int e] → Fra n e → Q (.ref t) H') : spBig K [.ref d] H Q E := ⟨d, rfl, h, k⟩
def sg (x : Int) : Int := if 0 < x then 1 else if x < 0 then -1 else 0
theorem sg_neg (x : Int) : sg (-x) = -sg x := by
  unfold sg
  rcases (by omega : x < 0 ∨ x = 0 ∨ 0 < x) with h | h | h
  · rw [if_pos (by omega), if_neg (by omega), if_pos h]; rfl
  · subst h; rfl
  · rw [if_neg (by omega), if_pos (by omega), if_pos h]

def spCmp (K : PySem.W.Frag) : Sp := fun vs H Q _ => ∃ (a b : Addr) (n e m k : Int), vs = [.ref a, .ref b] ∧ SqT K H a [.int n, .int e] ∧ SqT K H b [.int m, .int k] ∧
  n.natAbs < 2 ^ 4000 ∧ e.natAbs < 2 ^ 4000 ∧ m.natAbs < 2 ^ 4000 ∧ k.natAbs < 2 ^ 4000 ∧ Q (.int (sg (n * k - m * e))) H
theorem cmp_app {K : PySem.W.Frag} {a b : Addr} {n e m k : Int} {H : Hp} {Q : VK} {E : XK} (h1 : SqT K H a [.int n, .int e]) (h2 : SqT K H b [.int m, .int k])
  (f1 : Fra n e) (f2 : Fra m k) (q : Q (.int (sg (n * k - m * e))) H) : spCmp K [.ref a, .ref b] H Q E :=
  ⟨a, b, n, e, m, k, rfl, h1, h2, big40 (big12 f1.bn), big40 (big12 f1.be), big40 (big12 f2.bn), big40 (big12 f2.be), q⟩
def spDown (K : PySem.W.Frag) : Sp := fun vs H Q _ => ∃ (a : Addr) (n e : Int), vs = [.ref a] ∧ SqT K H a [.int n, .int e] ∧ 0 < e ∧ e.natAbs < 2 ^ 4000 ∧ Q (.int (n / e)) H
def spNear (K : PySem.W.Frag) : Sp := fun vs H Q _ => ∃ (a : Addr) (n e : Int), vs = [.ref a] ∧ SqT K H a [.int n, .int e] ∧ 0 < e ∧ (2 * e).natAbs < 2 ^ 4000 ∧ Q (.int ((2 * n + e) / (2 * e))) H
theorem down_app {K : PySem.W.Frag} {a : Addr} {n e : Int} {H : Hp} {Q : VK} {E : XK} (h1 : SqT K H a [.int n, .int e]) (f1 : Fra n e) (q : Q (.int (n / e)) H) : spDown K [.ref a] H Q E := ⟨a, n, e, rfl, h1, f1.pos, big40 (big12 f1.be), q⟩
theorem near_app {K : PySem.W.Frag} {a : Addr} {n e : Int} {H : Hp} {Q : VK} {E : XK} (h1 : SqT K H a [.int n, .int e]) (f1 : Fra n e) (q : Q (.int ((2 * n + e) / (2 * e))) H) : spNear K [.ref a] H Q E :=
  ⟨a, n, e, rfl, h1, f1.pos, by
    have h2 := f1.be
    have h3 : (2 : Nat) * 10 ^ 12 < 2 ^ 4000 := by decide +kernel
    omega, q⟩
def spIsInt : Sp := fun vs H Q _ => ∃ (i : Int), vs = [.int i] ∧ Q (.bl true) H
theorem isint_app {i : Int} {H : Hp} {Q : VK} {E : XK} (q : Q (.bl true) H) : spIsInt [.int i] H Q E := ⟨i, rfl, q⟩
def spSameI : Sp := fun vs H Q _ => ∃ (i j : Int), vs = [.int i, .int j] ∧ Q (.bl (decide (i = j))) H
theorem sameI_app {i j : Int} {H : Hp} {Q : VK} {E : XK} (q : Q (.bl (decide (i = j))) H) : spSameI [.int i, .int j] H Q E := ⟨i, j, rfl, q⟩

theorem fra_app {p q : Int} {H : Hp} {Q : VK} {E : XK} (h : q ≠ 0) (h1 : p.natAbs ≤ 10 ^ 12) (h2 : q.natAbs ≤ 10 ^ 12) (k : ∀ t n e, H t = none → Fra n e → Q (.ref t) (upd H t (.tup [.int n, .int e]))) : spRat [.int p, .int q] H Q E :=
  rat_app h (big12 h1) (big12 h2) fun t ht => k t _ _ ht (Fra.rat h h1 h2)
theorem down2_app {K : PySem.W.Frag} {a : Addr} {n e : Int} {H : Hp} {Q : VK} {E : XK} (h1 : SqT K H a [.int n, .int e]) (f1 : Fra n e)
    (q : ∀ v, v.natAbs < 2 ^ 4000 → (v + 1).natAbs < 2 ^ 4000 → e.natAbs < 2 ^ 4000 → v * e ≤ n → n < (v + 1) * e → Q (.int v) H) : spDown K [.ref a] H Q E := by
  have hp := f1.pos
  have b1 := f1.bn
  have b2 := f1.be
  have big : (10 : Nat) ^ 12 + 1 < 2 ^ 4000 := by decide +kernel
  have b3 : (n / e).natAbs ≤ n.natAbs := Int.natAbs_ediv_le_natAbs n e
  refine down_app h1 f1 (q _ (by omega) (by omega) (by omega) ?_ ?_)
  · exact Int.ediv_mul_le n (by omega)
  · exact Int.lt_ediv_add_one_mul_self n hp
theorem near2_app {K : PySem.W.Frag} {a : Addr} {n e : Int} {H : Hp} {Q : VK} {E : XK} (h1 : SqT K H a [.int n, .int e]) (f1 : Fra n e)
    (q : ∀ v, (2 * v).natAbs < 2 ^ 4000 → e.natAbs < 2 ^ 4000 → 2 * v * e ≤ 2 * n + e → 2 * n - e < 2 * v * e → Q (.int v) H) : spNear K [.ref a] H Q E := by
  have hp := f1.pos
  have b1 := f1.bn
  have b2 := f1.be
  have big : (10 : Nat) ^ 14 < 2 ^ 4000 := by decide +kernel
  have b3 : ((2 * n + e) / (2 * e)).natAbs ≤ (2 * n + e).natAbs := Int.natAbs_ediv_le_natAbs _ _
  have c1 := Int.ediv_mul_le (2 * n + e) (b := 2 * e) (by omega)
  have c2 := Int.lt_ediv_add_one_mul_self (2 * n + e) (b := 2 * e) (by omega)
  generalize hv : (2 * n + e) / (2 * e) = v at *
  have e1 : v * (2 * e) = 2 * v * e := by rw [Int.mul_left_comm, Int.mul_assoc]
  have e2 : (v + 1) * (2 * e) = 2 * v * e + 2 * e := by rw [Int.add_mul, e1, Int.one_mul]
  refine near_app h1 f1 ?_
  rw [hv]
  exact q v (by omega) (by omega) (by omega) (by omega)

theorem sg_opp (x y : Int) : sg (x - y) = -sg (y - x) := by
  rw [← sg_neg]
  congr 1
  omega
theorem of_dec {p : Prop} [Decidable p] {Q : VK} {H : Hp} (h : p) (q : Q (.bl true) H) : Q (.bl (decide p)) H := by
  rw [decide_eq_true h]
  exact q
theorem DeckAt.ne' {K : PySem.W.Frag} {H : Hp} {d p : Addr} (hp : H p = none) (h : DeckAt K H d) : p ≠ d := h.ne hp
end Fl

set_option Elab.async false
set_option linter.all false
set_option maxRecDepth 100000
set_option maxHeartbeats 4000000
set_option exponentiation.threshold 20000
/-! fractions as numbers -/
namespace Fl
open PySem PySem.Spec PyProof.Rows L2

theorem gg_comm (p q : Int) : gg p q = ((Int.gcd q p : Nat) : Int) := by
  unfold gg Int.gcd
  rw [Nat.gcd_comm]
theorem rp_num {p q : Int} (h : q ≠ 0) : rp p q = (Rat.divInt p q).num := by
  rw [Rat.num_divInt, ← gg_comm]
  have hg := gg_pos (p := p) h
  obtain ⟨k, hk⟩ := gg_dvd_l p q
  have e : p / gg p q = k := Int.ediv_eq_of_eq_mul_right (by omega) hk
  unfold rp
  rw [e]
  split
  · rename_i hq
    rw [Int.sign_eq_neg_one_of_neg hq]
    refine (Int.ediv_eq_of_eq_mul_right (by omega) ?_).symm
    rw [Int.mul_neg, ← hk, Int.neg_mul, Int.one_mul]
  · rw [Int.sign_eq_one_of_pos (by omega), Int.one_mul, e]
theorem rq_den {p q : Int} (h : q ≠ 0) : rq p q = ((Rat.divInt p q).den : Int) := by
  rw [Rat.den_divInt, if_neg h]
  have hg := gg_pos (p := p) h
  obtain ⟨k, hk⟩ := gg_dvd_r p q
  have e : q / gg p q = k := Int.ediv_eq_of_eq_mul_right (by omega) hk
  have e2 : ((q.natAbs / Int.gcd q p : Nat) : Int) = (q.natAbs : Int) / gg p q := by
    rw [gg_comm]
    exact Int.natCast_ediv _ _
  rw [e2]
  unfold rq
  rw [e]
  split
  · rename_i hq
    refine (Int.ediv_eq_of_eq_mul_right (by omega) ?_).symm
    rw [Int.mul_neg, ← hk]
    omega
  · refine (Int.ediv_eq_of_eq_mul_right (by omega) ?_).symm
    rw [← hk]
    omega

/-- the fraction x stands at a -/
def RV (K : PySem.W.Frag) (H : Hp) (a : Addr) (x : Rat) : Prop := SqT K H a [.int x.num, .int (x.den : Int)]
theorem RV.ex1 {K : PySem.W.Frag} {d : Addr} {H H' : Hp} {a : Addr} {x : Rat} (e : Ex1 d H H') (n : a ≠ d) (h : RV K H a x) : RV K H' a x := Ex1.t e n h
theorem RV.same {K : PySem.W.Frag} {H H' : Hp} {a : Addr} {x : Rat} (e : Same H H') (h : RV K H a x) : RV K H' a x := Same.t e h
theorem RV.sq {K : PySem.W.Frag} {H : Hp} {a : Addr} {x : Rat} (h : RV K H a x) : SqT K H a [.int x.num, .int (x.den : Int)] := h
/-- of moderate size -/
structure Md (x : Rat) : Prop where
  n : x.num.natAbs < 2 ^ 900
  d : x.den < 2 ^ 900
structure Szq (k : Nat) (x : Rat) : Prop where
  n : x.num.natAbs < 2 ^ k
  d : x.den < 2 ^ k
theorem Szq.md {k : Nat} {x : Rat} (h : Szq k x) (hk : k ≤ 900) : Md x :=
  ⟨Nat.lt_of_lt_of_le h.n (Nat.pow_le_pow_right (by decide) hk), Nat.lt_of_lt_of_le h.d (Nat.pow_le_pow_right (by decide) hk)⟩
theorem szq_div {p q : Int} {k : Nat} (h : q ≠ 0) (h1 : p.natAbs < 2 ^ k) (h2 : q.natAbs < 2 ^ k) : Szq k (Rat.divInt p q) := by
  have e1 := rp_abs p q h
  have e2 := rq_abs p q h
  rw [rp_num h] at e1
  rw [rq_den h] at e2
  exact ⟨by omega, by omega⟩
theorem pw_add {a b j k : Nat} (ha : a < 2 ^ j) (hb : b < 2 ^ k) : a * b < 2 ^ (j + k) := by
  rw [Nat.pow_add]
  exact Nat.mul_lt_mul'' ha hb
theorem add_div (x y : Rat) : Rat.divInt (x.num * y.den + y.num * x.den) ((x.den : Int) * y.den) = x + y := by
  rw [Rat.add_def', ← Rat.divInt_ofNat, Int.natCast_mul]
theorem sub_div (x y : Rat) : Rat.divInt (x.num * y.den - y.num * x.den) ((x.den : Int) * y.den) = x - y := by
  rw [Rat.sub_def', ← Rat.divInt_ofNat, Int.natCast_mul]
theorem mul_div' (x y : Rat) : Rat.divInt (x.num * y.num) ((x.den : Int) * y.den) = x * y := by
  rw [Rat.mul_def', ← Rat.divInt_ofNat, Int.natCast_mul]
theorem div_div' (x y : Rat) : Rat.divInt (x.num * y.den) ((x.den : Int) * y.num) = x / y := by
  rw [Rat.div_def, Rat.inv_def]
  conv => rhs; rw [← Rat.num_divInt_den x]
  rw [Rat.divInt_mul_divInt]
theorem den0 (x : Rat) : (x.den : Int) ≠ 0 := by
  have := x.den_nz
  omega
theorem sz_cross {x y : Rat} {j k : Nat} (hx : Szq j x) (hy : Szq k y) : (x.num * y.den).natAbs < 2 ^ (j + k) ∧ (y.num * x.den).natAbs < 2 ^ (j + k) ∧ ((x.den : Int) * y.den).natAbs < 2 ^ (j + k) ∧ (x.num * y.num).natAbs < 2 ^ (j + k) ∧ ((x.den : Int) * y.num).natAbs < 2 ^ (j + k) := by
  simp only [Int.natAbs_mul, Int.natAbs_natCast]
  refine ⟨pw_add hx.n hy.d, ?_, pw_add hx.d hy.d, pw_add hx.n hy.n, pw_add hx.d hy.n⟩
  rw [Nat.mul_comm]
  exact pw_add hx.d hy.n
theorem Szq.add {x y : Rat} {j k : Nat} (hx : Szq j x) (hy : Szq k y) : Szq (j + k + 1) (x + y) := by
  obtain ⟨h1, h2, h3, h4, h5⟩ := sz_cross hx hy
  rw [← add_div]
  have e : 2 ^ (j + k + 1) = 2 * 2 ^ (j + k) := by rw [Nat.pow_succ, Nat.mul_comm]
  exact szq_div (Int.mul_ne_zero (den0 x) (den0 y)) (by omega) (by omega)
theorem Szq.sub {x y : Rat} {j k : Nat} (hx : Szq j x) (hy : Szq k y) : Szq (j + k + 1) (x - y) := by
  obtain ⟨h1, h2, h3, h4, h5⟩ := sz_cross hx hy
  rw [← sub_div]
  have e : 2 ^ (j + k + 1) = 2 * 2 ^ (j + k) := by rw [Nat.pow_succ, Nat.mul_comm]
  exact szq_div (Int.mul_ne_zero (den0 x) (den0 y)) (by omega) (by omega)
theorem Szq.mul {x y : Rat} {j k : Nat} (hx : Szq j x) (hy : Szq k y) : Szq (j + k) (x * y) := by
  obtain ⟨h1, h2, h3, h4, h5⟩ := sz_cross hx hy
  rw [← mul_div']
  exact szq_div (Int.mul_ne_zero (den0 x) (den0 y)) (by omega) (by omega)
theorem num0 {x : Rat} (h : x ≠ 0) : x.num ≠ 0 := fun e => h (Rat.num_eq_zero.mp e)
theorem Szq.div {x y : Rat} {j k : Nat} (hx : Szq j x) (hy : Szq k y) (h : y ≠ 0) : Szq (j + k) (x / y) := by
  obtain ⟨h1, h2, h3, h4, h5⟩ := sz_cross hx hy
  rw [← div_div']
  exact szq_div (Int.mul_ne_zero (den0 x) (num0 h)) (by omega) (by omega)
theorem Fra.rat_of {n e : Int} (h : Fra n e) : ∃ x : Rat, x.num = n ∧ (x.den : Int) = e ∧ Szq 41 x := by
  have hp := h.pos
  obtain ⟨k, rfl⟩ : ∃ k : Nat, e = (k : Int) := ⟨e.toNat, by omega⟩
  refine ⟨⟨n, k, by omega, h.cop⟩, rfl, rfl, ?_, ?_⟩
  · have := h.bn
    show n.natAbs < _
    have e : (10 : Nat) ^ 12 < 2 ^ 41 := by decide
    omega
  · have := h.be
    show k < _
    have e : (10 : Nat) ^ 12 < 2 ^ 41 := by decide
    omega

/-! promises -/
def spRatP : Sp := spRat
def spBin (K : PySem.W.Frag) (f : Rat → Rat → Rat) (pre : Rat → Rat → Prop) : Sp := fun vs H Q _ => ∃ (a b : Addr) (x y : Rat), vs = [.ref a, .ref b] ∧ RV K H a x ∧ RV K H b y ∧ Md x ∧ Md y ∧ pre x y ∧
  ∀ t H', H t = none → Same H H' → RV K H' t (f x y) → Q (.ref t) H'
theorem bin_app {K : PySem.W.Frag} {f : Rat → Rat → Rat} {pre : Rat → Rat → Prop} {a b : Addr} {x y : Rat} {H : Hp} {Q : VK} {E : XK} (h1 : RV K H a x) (h2 : RV K H b y) (m1 : Md x) (m2 : Md y) (hp : pre x y)
  (k : ∀ t H', H t = none → Same H H' → RV K H' t (f x y) → Q (.ref t) H') : spBin K f pre [.ref a, .ref b] H Q E := ⟨a, b, x, y, rfl, h1, h2, m1, m2, hp, k⟩
def cq (x y : Rat) : Int := if x < y then -1 else if y < x then 1 else 0
def spCq (K : PySem.W.Frag) : Sp := fun vs H Q _ => ∃ (a b : Addr) (x y : Rat), vs = [.ref a, .ref b] ∧ RV K H a x ∧ RV K H b y ∧ Md x ∧ Md y ∧ Q (.int (cq x y)) H
theorem cq_app {K : PySem.W.Frag} {a b : Addr} {x y : Rat} {H : Hp} {Q : VK} {E : XK} (h1 : RV K H a x) (h2 : RV K H b y) (m1 : Md x) (m2 : Md y) (q : Q (.int (cq x y)) H) : spCq K [.ref a, .ref b] H Q E := ⟨a, b, x, y, rfl, h1, h2, m1, m2, q⟩
theorem cq_add (x y z : Rat) : cq (x + z) (y + z) = cq x y := by
  unfold cq
  simp only [Rat.add_lt_add_right]
def nr (x : Rat) : Int := (2 * x.num + x.den) / (2 * x.den)
def spNr (K : PySem.W.Frag) : Sp := fun vs H Q _ => ∃ (a : Addr) (x : Rat), vs = [.ref a] ∧ RV K H a x ∧ Md x ∧ Q (.int (nr x)) H
theorem nr_app {K : PySem.W.Frag} {a : Addr} {x : Rat} {H : Hp} {Q : VK} {E : XK} (h1 : RV K H a x) (m1 : Md x) (q : Q (.int (nr x)) H) : spNr K [.ref a] H Q E := ⟨a, x, rfl, h1, m1, q⟩
def spRatq (K : PySem.W.Frag) : Sp := fun vs H Q _ => ∃ (p q : Int), vs = [.int p, .int q] ∧ q ≠ 0 ∧ p.natAbs < 2 ^ 1900 ∧ q.natAbs < 2 ^ 1900 ∧ ∀ t H', H t = none → Same H H' → RV K H' t (Rat.divInt p q) → Q (.ref t) H'
theorem ratq_app {K : PySem.W.Frag} {p q : Int} {H : Hp} {Q : VK} {E : XK} (h : q ≠ 0) (h1 : p.natAbs < 2 ^ 1900) (h2 : q.natAbs < 2 ^ 1900) (k : ∀ t H', H t = none → Same H H' → RV K H' t (Rat.divInt p q) → Q (.ref t) H') : spRatq K [.int p, .int q] H Q E := ⟨p, q, rfl, h, h1, h2, k⟩
theorem nr_add (x : Rat) (w : Int) : nr (x + Rat.divInt w 1) = nr x + w := by
  generalize hy : x + Rat.divInt w 1 = y
  have key : y.num * x.den = (x.num + w * x.den) * y.den := by
    have e : Rat.divInt (x.num + w * x.den) x.den = y := by
      rw [← hy]
      conv => rhs; lhs; rw [← Rat.num_divInt_den x]
      rw [Rat.divInt_add_divInt _ _ (den0 x) (by decide), Int.mul_one, Int.mul_one]
    rw [← Rat.num_divInt_den y] at e
    exact ((Rat.divInt_eq_divInt_iff (den0 x) (den0 y)).mp e).symm
  unfold nr
  have hx := x.den_pos
  have hyp := y.den_pos
  generalize x.num = n at *
  generalize (y.num) = m at *
  have hx' : (0 : Int) < x.den := by omega
  have hy' : (0 : Int) < y.den := by omega
  generalize (x.den : Int) = e at *
  generalize (y.den : Int) = k at *
  have c1 := Int.ediv_mul_le (2 * n + e) (b := 2 * e) (by omega)
  have c2 := Int.lt_ediv_add_one_mul_self (2 * n + e) (b := 2 * e) (by omega)
  generalize (2 * n + e) / (2 * e) = v at *
  have g1 : (v + w) * (2 * k) ≤ 2 * m + k := by
    refine Int.le_of_mul_le_mul_right (a := e) ?_ hx'
    have h1 : v * (2 * e) * k ≤ (2 * n + e) * k := Int.mul_le_mul_of_nonneg_right c1 (by omega)
    have e1 : (v + w) * (2 * k) * e = v * (2 * e) * k + 2 * (w * e * k) := by grind
    have e2 : (2 * m + k) * e = 2 * (m * e) + k * e := by grind
    rw [e1, e2, key]
    have e3 : 2 * ((n + w * e) * k) + k * e = (2 * n + e) * k + 2 * (w * e * k) := by grind
    rw [e3]
    omega
  have g2 : 2 * m + k < (v + w + 1) * (2 * k) := by
    refine Int.lt_of_mul_lt_mul_right (a := e) ?_ (by omega)
    have h1 : (2 * n + e) * k < (v + 1) * (2 * e) * k := Int.mul_lt_mul_of_pos_right c2 hy'
    have e1 : (v + w + 1) * (2 * k) * e = (v + 1) * (2 * e) * k + 2 * (w * e * k) := by grind
    have e2 : (2 * m + k) * e = 2 * (m * e) + k * e := by grind
    rw [e1, e2, key]
    have e3 : 2 * ((n + w * e) * k) + k * e = (2 * n + e) * k + 2 * (w * e * k) := by grind
    rw [e3]
    omega
  have f1 : v + w ≤ (2 * m + k) / (2 * k) := (Int.le_ediv_iff_mul_le (by omega)).mpr g1
  have f2 : (2 * m + k) / (2 * k) < v + w + 1 := (Int.ediv_lt_iff_lt_mul (by omega)).mpr g2
  omega
/-- != of two fractions that are the same number -/
theorem ne_app {K : PySem.W.Frag} {a b : Addr} {x y : Rat} {H : Hp} {Q : VK} (h1 : RV K H a x) (h2 : RV K H b y) (e : x = y) (q : Q (.bl false) H) : rNeD K (.ref a) (.ref b) H Q := by
  subst e
  have d1 : ∀ {a : Addr}, RV K H a x → Dp K H (.ref a) (.tuple [.int x.num, .int x.den]) := fun h => .tup h (.cons (.int _) (.cons (.int _) .nil))
  refine ⟨_, _, d1 h1, d1 h2, rfl, rfl, ?_⟩
  have e2 : PyData.eqv (.tuple [.int x.num, .int x.den]) (.tuple [.int x.num, .int x.den]) = true := SeqAt.eqv_refl _ rfl
  rw [e2]
  exact q
theorem g_neD {r : R2} {x y : V} {H : Hp} {Q : VK} (h : r x y H Q) : r x y H Q := h

theorem Md.big {x : Rat} (h : Md x) : x.num.natAbs < 2 ^ 4000 ∧ ((x.den : Int)).natAbs < 2 ^ 4000 := by
  have h1 := h.n
  have h2 := h.d
  have e : (2 : Nat) ^ 900 < 2 ^ 4000 := by decide +kernel
  constructor <;> omega
theorem md_cross {x y : Rat} (hx : Md x) (hy : Md y) : (x.num * y.den + y.num * x.den).natAbs < 2 ^ 1900 ∧ (x.num * y.den - y.num * x.den).natAbs < 2 ^ 1900 ∧ ((x.den : Int) * y.den).natAbs < 2 ^ 1900 ∧ (x.num * y.num).natAbs < 2 ^ 1900 ∧ ((x.den : Int) * y.num).natAbs < 2 ^ 1900 ∧ (x.num * y.den).natAbs < 2 ^ 1900 := by
  obtain ⟨h1, h2, h3, h4, h5⟩ := sz_cross (j := 900) (k := 900) ⟨hx.n, hx.d⟩ ⟨hy.n, hy.d⟩
  have e : 2 * 2 ^ (900 + 900) < (2 : Nat) ^ 1900 := by decide +kernel
  refine ⟨?_, ?_, ?_, ?_, ?_, ?_⟩ <;> omega

theorem bigq_app {K : PySem.W.Frag} {d : Addr} {H : Hp} {Q : VK} {E : XK} (h : DeckAt K H d) (k : ∀ t H' (x : Rat), DeckAt K H' d → Ex1 d H H' → t ≠ d → RV K H' t x → Szq 41 x → Q (.ref t) H') : spBig K [.ref d] H Q E := by
  refine big_app h fun t H' n e hD hE hn hS hF => ?_
  obtain ⟨x, rfl, rfl, hz⟩ := hF.rat_of
  exact k t H' x hD hE hn hS hz
theorem ne_of_num {x : Rat} (h : ¬ x.num = 0) : x ≠ 0 := fun e => h (by rw [e]; rfl)
end Fl

set_option Elab.async false
set_option linter.all false
set_option maxRecDepth 100000
set_option maxHeartbeats 4000000
set_option exponentiation.threshold 20000
/-! data at any depth, apart from the addresses S that are being written -/
namespace Fl
open PySem PySem.Spec PyProof.Rows L2

mutual
inductive Dq (S : List Addr) (H : Hp) : V → PyData → Prop
  | non : Dq S H .non .none
  | bl (b : Bool) : Dq S H (.bl b) (.bool b)
  | int (i : Int) : Dq S H (.int i) (.int i)
  | str (x : Str) : Dq S H (.str x) (.str x)
  | lst {a : Addr} {xs : List V} {ds : List PyData} : a ∉ S → H a = some (.lst xs) → DqA S H xs ds → Dq S H (.ref a) (.list ds)
  | tup {a : Addr} {xs : List V} {ds : List PyData} : a ∉ S → H a = some (.tup xs) → DqA S H xs ds → Dq S H (.ref a) (.tuple ds)
  | ins {a C dx : Addr} {fs : List (Str × V)} {ds : List (PyData × PyData)} : a ∉ S → H a = some (.ins C dx fs) → DqF S H fs ds → Dq S H (.ref a) (.dict ((.none, .int (C : Int)) :: ds))
inductive DqA (S : List Addr) (H : Hp) : List V → List PyData → Prop
  | nil : DqA S H [] []
  | cons {v : V} {vs : List V} {d : PyData} {ds : List PyData} : Dq S H v d → DqA S H vs ds → DqA S H (v :: vs) (d :: ds)
inductive DqF (S : List Addr) (H : Hp) : List (Str × V) → List (PyData × PyData) → Prop
  | nil : DqF S H [] []
  | cons {n : Str} {v : V} {fs : List (Str × V)} {d : PyData} {ds : List (PyData × PyData)} : Dq S H v d → DqF S H fs ds → DqF S H ((n, v) :: fs) ((.str n, d) :: ds)
end
mutual
theorem Dq.to {S S' : List Addr} {H H' : Hp} (k : ∀ a o, a ∉ S → H a = some o → a ∉ S' ∧ H' a = some o) : ∀ {v : V} {d : PyData}, Dq S H v d → Dq S' H' v d
  | _, _, .non => .non
  | _, _, .bl b => .bl b
  | _, _, .int i => .int i
  | _, _, .str x => .str x
  | _, _, .lst n h r => .lst (k _ _ n h).1 (k _ _ n h).2 (DqA.to k r)
  | _, _, .tup n h r => .tup (k _ _ n h).1 (k _ _ n h).2 (DqA.to k r)
  | _, _, .ins n h r => .ins (k _ _ n h).1 (k _ _ n h).2 (DqF.to k r)
theorem DqA.to {S S' : List Addr} {H H' : Hp} (k : ∀ a o, a ∉ S → H a = some o → a ∉ S' ∧ H' a = some o) : ∀ {vs : List V} {ds : List PyData}, DqA S H vs ds → DqA S' H' vs ds
  | _, _, .nil => .nil
  | _, _, .cons h r => .cons (Dq.to k h) (DqA.to k r)
theorem DqF.to {S S' : List Addr} {H H' : Hp} (k : ∀ a o, a ∉ S → H a = some o → a ∉ S' ∧ H' a = some o) : ∀ {fs : List (Str × V)} {ds : List (PyData × PyData)}, DqF S H fs ds → DqF S' H' fs ds
  | _, _, .nil => .nil
  | _, _, .cons h r => .cons (Dq.to k h) (DqF.to k r)
end
mutual
theorem Dq.dp {S : List Addr} {H : Hp} {K : PySem.W.Frag} : ∀ {v : V} {d : PyData}, Dq S H v d → d.hasDict = false → Dp K H v d
  | _, _, .non, _ => .non
  | _, _, .bl b, _ => .bl b
  | _, _, .int i, _ => .int i
  | _, _, .str x, _ => .str x
  | _, _, .lst _ h r, n => .lst (SqL.of h) (DqA.dp r (by simpa [PyData.hasDict] using n))
  | _, _, .tup _ h r, n => .tup (SqT.of h) (DqA.dp r (by simpa [PyData.hasDict] using n))
  | _, _, .ins _ _ _, n => by simp [PyData.hasDict] at n
theorem DqA.dp {S : List Addr} {H : Hp} {K : PySem.W.Frag} : ∀ {vs : List V} {ds : List PyData}, DqA S H vs ds → PyData.hasDictAll ds = false → DpAll K H vs ds
  | _, _, .nil, _ => .nil
  | _, _, .cons h r, n => .cons (Dq.dp h (by simp [PyData.hasDictAll] at n; exact n.1)) (DqA.dp r (by simp [PyData.hasDictAll] at n; exact n.2))
end
mutual
theorem nodict_lay : ∀ d : PyData, d.canLay0 = true → d.hasDict = false
  | .none, _ | .bool _, _ | .int _, _ | .str _, _ => rfl
  | .list xs, h => by
    simp only [PyData.hasDict]
    exact nodictAll_lay xs (by simpa [PyData.canLay0] using h)
  | .tuple xs, h => by
    simp only [PyData.hasDict]
    exact nodictAll_lay xs (by simpa [PyData.canLay0] using h)
  | .dict _, h => by simp [PyData.canLay0] at h
theorem nodictAll_lay : ∀ ds : List PyData, PyData.canLayAll0 ds = true → PyData.hasDictAll ds = false
  | [], _ => rfl
  | d :: ds, h => by
    simp [PyData.canLayAll0] at h
    simp [PyData.hasDictAll, nodict_lay d h.1, nodictAll_lay ds h.2]
end
theorem nodict_sh {d : PyData} (h : SeqAt.shaped d = true) : d.hasDict = false := by
  unfold SeqAt.shaped at h
  simp only [Bool.and_eq_true] at h
  exact nodict_lay d h.1
/-- all but what stands at S stands -/
def Fr (S : List Addr) (H H' : Hp) : Prop := ∀ a o, a ∉ S → H a = some o → H' a = some o
/-- these are there -/
def Al (S : List Addr) (H : Hp) : Prop := ∀ a, a ∈ S → H a ≠ none
section
variable {S T : List Addr} {H H' H2 : Hp} {a p D : Addr} {v : V} {d : PyData} {vs ws : List V} {ds es : List PyData} {o : HO}
theorem Fr.refl : Fr S H H := fun _ _ _ h => h
theorem Fr.trans (h : Fr S H H') (k : Fr S H' H2) : Fr S H H2 := fun a o n e => k a o n (h a o n e)
theorem Fr.mono (h : Fr S H H') (k : ∀ a, a ∈ S → a ∈ T) : Fr T H H' := fun a o n e => h a o (fun m => n (k a m)) e
theorem Fr.same (h : Same H H') : Fr S H H' := fun a o _ e => h a o e
theorem Fr.new (h : H p = none) : Fr S H (upd H p o) := Fr.same (Fl.Same.new h)
theorem Fr.upd (h : p ∈ S) : Fr S H (upd H p o) := fun a u n e => by
  rw [upd_ne (fun q => n (by rw [q]; exact h))]
  exact e
theorem Fr.sm (h : Fr [] H H') : Same H H' := fun a o e => h a o (List.not_mem_nil) e
theorem Al.nil : Al [] H := fun a h => nomatch h
theorem Al.cons (h : H a ≠ none) (k : Al S H) : Al (a :: S) H := fun b m => by
  rcases List.mem_cons.mp m with rfl | m
  · exact h
  · exact k b m
theorem Al.same (k : Al S H) (e : Same H H') : Al S H' := fun b m q => by
  cases z : H b with
  | none => exact k b m z
  | some o => rw [e b o z] at q; cases q
theorem Al.fr (k : Al S H) (e : Fr T H H') (k2 : Al T H') : Al S H' := fun b m q => by
  by_cases hb : b ∈ T
  · exact k2 b hb q
  · cases z : H b with
    | none => exact k b m z
    | some o => rw [e b o hb z] at q; cases q
theorem Al.ni (k : Al S H) (e : H p = none) : p ∉ S := fun m => k p m e
theorem Dq.fr (h : Dq S H v d) (e : Fr S H H') : Dq S H' v d := h.to fun a o n q => ⟨n, e a o n q⟩
theorem Dq.same (h : Dq S H v d) (e : Same H H') : Dq S H' v d := h.fr (Fr.same e)
theorem Dq.mono (h : Dq S H v d) (k : ∀ a, a ∈ T → a ∈ S) : Dq T H v d := h.to fun a o n q => ⟨fun m => n (k a m), q⟩
theorem Dq.new (h : Dq S H v d) (e : H D = none) : Dq (D :: S) H v d := h.to fun a o n q => ⟨fun m => by
  rcases List.mem_cons.mp m with rfl | m
  · rw [e] at q; cases q
  · exact n m, q⟩
theorem Dq.tail (h : Dq (D :: S) H v d) : Dq S H v d := h.mono fun _ m => List.mem_cons_of_mem _ m
theorem DqA.fr (h : DqA S H vs ds) (e : Fr S H H') : DqA S H' vs ds := h.to fun a o n q => ⟨n, e a o n q⟩
theorem DqA.same (h : DqA S H vs ds) (e : Same H H') : DqA S H' vs ds := h.fr (Fr.same e)
theorem DqA.mono (h : DqA S H vs ds) (k : ∀ a, a ∈ T → a ∈ S) : DqA T H vs ds := h.to fun a o n q => ⟨fun m => n (k a m), q⟩
theorem DqA.new (h : DqA S H vs ds) (e : H D = none) : DqA (D :: S) H vs ds := h.to fun a o n q => ⟨fun m => by
  rcases List.mem_cons.mp m with rfl | m
  · rw [e] at q; cases q
  · exact n m, q⟩
theorem DqA.tail (h : DqA (D :: S) H vs ds) : DqA S H vs ds := h.mono fun _ m => List.mem_cons_of_mem _ m
theorem DqA.len : ∀ {vs : List V} {ds : List PyData}, DqA S H vs ds → vs.length = ds.length
  | _, _, .nil => rfl
  | _, _, .cons _ r => congrArg (· + 1) (DqA.len r)
theorem DqA.app : ∀ {vs : List V} {ds : List PyData}, DqA S H vs ds → DqA S H ws es → DqA S H (vs ++ ws) (ds ++ es)
  | _, _, .nil, k => k
  | _, _, .cons h r, k => .cons h (DqA.app r k)
theorem DqA.one (h : Dq S H v d) : DqA S H [v] [d] := .cons h .nil
theorem DqA.drop : ∀ {vs : List V} {ds : List PyData} (n : Nat), DqA S H vs ds → DqA S H (vs.drop n) (ds.drop n)
  | _, _, 0, h => h
  | _, _, _ + 1, .nil => .nil
  | _, _, n + 1, .cons _ r => DqA.drop n r
theorem DqA.take : ∀ {vs : List V} {ds : List PyData} (n : Nat), DqA S H vs ds → DqA S H (vs.take n) (ds.take n)
  | _, _, 0, _ => .nil
  | _, _, _ + 1, .nil => .nil
  | _, _, n + 1, .cons h r => .cons h (DqA.take n r)
theorem DqA.rev : ∀ {vs : List V} {ds : List PyData}, DqA S H vs ds → DqA S H vs.reverse ds.reverse
  | _, _, .nil => .nil
  | _, _, .cons h r => by
    rw [List.reverse_cons, List.reverse_cons]
    exact (DqA.rev r).app (.one h)
theorem DqA.get : ∀ {vs : List V} {ds : List PyData} {i : Nat}, DqA S H vs ds → vs[i]? = some v → ∃ d, ds[i]? = some d ∧ Dq S H v d
  | _, _, _, .nil, e => by simp at e
  | _, _, 0, .cons h _, e => by simp at e; subst e; exact ⟨_, rfl, h⟩
  | _, _, i + 1, .cons _ r, e => by
    obtain ⟨d, h1, h2⟩ := DqA.get (i := i) r (by simpa using e)
    exact ⟨d, by simpa using h1, h2⟩
theorem DqA.getD : ∀ {vs : List V} {ds : List PyData} {i : Nat}, DqA S H vs ds → ds[i]? = some d → ∃ v, vs[i]? = some v ∧ Dq S H v d
  | _, _, _, .nil, e => by simp at e
  | _, _, 0, .cons h _, e => by simp at e; subst e; exact ⟨_, rfl, h⟩
  | _, _, i + 1, .cons _ r, e => by
    obtain ⟨v, h1, h2⟩ := DqA.getD (i := i) r (by simpa using e)
    exact ⟨v, by simpa using h1, h2⟩
theorem Dq.lstE (h : Dq S H v (.list ds)) : ∃ a xs, v = .ref a ∧ a ∉ S ∧ H a = some (.lst xs) ∧ DqA S H xs ds := by
  cases h with
  | lst n q r => exact ⟨_, _, rfl, n, q, r⟩
theorem Dq.tupE (h : Dq S H v (.tuple ds)) : ∃ a xs, v = .ref a ∧ a ∉ S ∧ H a = some (.tup xs) ∧ DqA S H xs ds := by
  cases h with
  | tup n q r => exact ⟨_, _, rfl, n, q, r⟩
theorem Dq.intE {i : Int} (h : Dq S H v (.int i)) : v = .int i := by cases h; rfl
theorem Dq.blE {b : Bool} (h : Dq S H v (.bool b)) : v = .bl b := by cases h; rfl
theorem Dq.nonE (h : Dq S H v .none) : v = .non := by cases h; rfl
theorem DqA.nilE (h : DqA S H vs []) : vs = [] := by cases h; rfl
theorem DqA.consE (h : DqA S H vs (d :: ds)) : ∃ v ws, vs = v :: ws ∧ Dq S H v d ∧ DqA S H ws ds := by
  cases h with
  | cons h r => exact ⟨_, _, rfl, h, r⟩
end
/-- a new list or tuple of data -/
theorem Dq.newL {S : List Addr} {H : Hp} {p : Addr} {xs : List V} {ds : List PyData} (k : Al S H) (e : H p = none) (h : DqA S H xs ds) : Dq S (upd H p (.lst xs)) (.ref p) (.list ds) :=
  .lst (k.ni e) upd_same (h.fr (Fr.new e))
theorem Dq.newT {S : List Addr} {H : Hp} {p : Addr} {xs : List V} {ds : List PyData} (k : Al S H) (e : H p = none) (h : DqA S H xs ds) : Dq S (upd H p (.tup xs)) (.ref p) (.tuple ds) :=
  .tup (k.ni e) upd_same (h.fr (Fr.new e))

/-- a function of data: nothing that stands is changed -/
def spD (f : List PyData → PyData → Prop) : Sp := fun vs H Q _ => ∃ S ds d, Al S H ∧ DqA S H vs ds ∧ f ds d ∧ ∀ v H', Same H H' → Dq S H' v d → Q v H'
theorem spD_app {f : List PyData → PyData → Prop} {vs : List V} {H : Hp} {Q : VK} {E : XK} (S : List Addr) (ds : List PyData) (d : PyData) (hS : Al S H) (hd : DqA S H vs ds) (hf : f ds d) (q : ∀ v H', Same H H' → Dq S H' v d → Q v H') : spD f vs H Q E :=
  ⟨S, ds, d, hS, hd, hf, q⟩

/-! ### points -/
abbrev Pt := Int × Int × Bool
def ptD (p : Pt) : PyData := .tuple [.int p.1, .int p.2.1, .bool p.2.2]
def ctD (c : List Pt) : PyData := .list (c.map ptD)
def ouD (o : List (List Pt)) : PyData := .list (o.map ctD)
theorem ptE {S : List Addr} {H : Hp} {v : V} {p : Pt} (h : Dq S H v (ptD p)) : ∃ a, v = .ref a ∧ a ∉ S ∧ H a = some (.tup [.int p.1, .int p.2.1, .bl p.2.2]) := by
  obtain ⟨a, xs, rfl, n, q, r⟩ := h.tupE
  obtain ⟨x1, w1, rfl, h1, r⟩ := r.consE
  obtain ⟨x2, w2, rfl, h2, r⟩ := r.consE
  obtain ⟨x3, w3, rfl, h3, r⟩ := r.consE
  cases r.nilE
  cases h1.intE
  cases h2.intE
  cases h3.blE
  exact ⟨a, rfl, n, q⟩
theorem ptI {S : List Addr} {H : Hp} {a : Addr} {x y : Int} {b : Bool} (n : a ∉ S) (q : H a = some (.tup [.int x, .int y, .bl b])) : Dq S H (.ref a) (ptD (x, y, b)) := .tup n q (.cons (.int _) (.cons (.int _) (.cons (.bl _) .nil)))

/-! ### comprehensions -/
section
variable {H1 : Hp} {Q : VK} {g : TG} {tt : TT} {te : TE} {tb : TS} {vs : List Nat} {σ : L2.St} {D : Ends}
/-- what is left of a comprehension when it is known what is walked -/
def lcK (J : It) (g : TG) (tt : TT) (te : TE) (vs : List Nat) (σ : L2.St) (H1 : Hp) (Q : VK) : Prop :=
  ∀ B, H1 B = none → ∃ W : Nat → Nat → Hp → Prop, (∃ m, W 0 m (upd H1 B (.lst []))) ∧ ∀ i m H, W i m H →
    (J.stop i H ∧ Q (.ref B) H) ∨ (J.go i H ∧ ∃ Nx : Hp → Prop, (∀ H', Nx H' → ∃ m', m' < m ∧ W (i + 1) m' H') ∧
      ∀ x H', J.yld i H x H' → g x (wipe σ vs) H' fun σ2 H2 => wipe σ2 vs = wipe σ vs ∧ tt σ2 H2 fun b H3 =>
        if b = true then te σ2 H3 fun y H4 => ∃ acc, H4 B = some (.lst acc) ∧ acc.length < sizeLine ∧ Nx (upd H4 B (.lst (acc ++ [y]))) else Nx H3)
/-- the same of a loop -/
def forK (J : It) (g : TG) (tb : TS) (D : Ends) (σ : L2.St) (H1 : Hp) : Prop :=
  ∃ W : Nat → Nat → L2.St → Hp → Prop, (∃ m, W 0 m σ H1) ∧ ∀ i m σ H, W i m σ H →
    (J.stop i H ∧ D.nx σ H) ∨ (J.go i H ∧ ∃ N : L2.St → Hp → Prop, (∀ σ' H', N σ' H' → ∃ m', m' < m ∧ W (i + 1) m' σ' H') ∧
      ∀ x H', J.yld i H x H' → g x σ H' fun σ2 H2 => tb { D with nx := N, ct := N, bk := D.nx } σ2 H2)
end
section
variable {S : List Addr} {H1 : Hp} {K : PySem.W.Frag} {g : TG} {tt : TT} {te : TE} {vs : List Nat} {σ : L2.St} {Q : VK}
theorem fm_succ {f : Nat → Option PyData} (i : Nat) : (List.range (i + 1)).filterMap f = (List.range i).filterMap f ++ (f i).toList := by
  rw [List.range_succ, List.filterMap_append]
  cases h : f i <;> simp [h]
theorem sm_of {D : Addr} {H : Hp} (hD : H1 D = none) (f : Fr [D] H1 H) : Same H1 H := fun b o q => f b o (fun m => by
  have : b = D := by simpa using m
  rw [this, hD] at q; cases q) q
/-- the list D at turn i: the items that f has given so far -/
structure CompAt (S : List Addr) (H1 : Hp) (D : Addr) (f : Nat → Option PyData) (i : Nat) (H : Hp) : Prop where
  ex : ∃ acc, H D = some (.lst acc) ∧ DqA (D :: S) H acc ((List.range i).filterMap f)
  fr : Fr [D] H1 H
theorem CompAt.zero {D : Addr} {f : Nat → Option PyData} (hD : H1 D = none) : CompAt S H1 D f 0 (upd H1 D (.lst [])) := ⟨⟨[], upd_same, .nil⟩, Fr.same (Fl.Same.new hD)⟩
theorem CompAt.same {D : Addr} {f : Nat → Option PyData} {i : Nat} {H H' : Hp} (h : CompAt S H1 D f i H) (e : Same H H') : CompAt S H1 D f i H' := by
  obtain ⟨⟨acc, h1, h2⟩, h3⟩ := h
  exact ⟨⟨acc, e _ _ h1, h2.same e⟩, h3.trans (Fr.same e)⟩
theorem CompAt.skip {D : Addr} {f : Nat → Option PyData} {i : Nat} {H : Hp} (h : CompAt S H1 D f i H) (e : f i = none) : CompAt S H1 D f (i + 1) H := by
  obtain ⟨⟨acc, h1, h2⟩, h3⟩ := h
  refine ⟨⟨acc, h1, ?_⟩, h3⟩
  rw [fm_succ, e]
  simpa using h2
theorem CompAt.len {D : Addr} {f : Nat → Option PyData} {i : Nat} {H : Hp} (h : CompAt S H1 D f i H) (hi : i < 1000) : ∀ acc, H D = some (.lst acc) → acc.length < sizeLine := by
  obtain ⟨⟨acc, h1, h2⟩, h3⟩ := h
  intro acc' h'
  rw [h1] at h'
  cases h'
  have e := h2.len
  have e2 := List.length_filterMap_le f (List.range i)
  rw [List.length_range] at e2
  have : (1000 : Nat) ≤ sizeLine := by decide
  omega
theorem CompAt.put {D : Addr} {f : Nat → Option PyData} {i : Nat} {H H4 : Hp} {y : V} {r : PyData} (h : CompAt S H1 D f i H) (hi : i < 1000) (e : f i = some r) (s : Same H H4) (d : Dq (D :: S) H4 y r) :
    ∃ acc, H4 D = some (.lst acc) ∧ acc.length < sizeLine ∧ CompAt S H1 D f (i + 1) (upd H4 D (.lst (acc ++ [y]))) := by
  have h4 := h.same s
  obtain ⟨⟨acc, h1, h2⟩, h3⟩ := h4
  refine ⟨acc, h1, (h.same s).len hi acc h1, ⟨acc ++ [y], upd_same, ?_⟩, h3.trans (Fr.upd (by simp))⟩
  rw [fm_succ, e]
  exact (h2.app (.one d)).fr (Fr.upd (by simp))
theorem CompAt.al {D : Addr} {f : Nat → Option PyData} {i : Nat} {H : Hp} (h : CompAt S H1 D f i H) (hS : Al S H1) (hD : H1 D = none) : Al (D :: S) H := by
  obtain ⟨⟨acc, h1, h2⟩, h3⟩ := h
  exact .cons (by rw [h1]; simp) (hS.same (sm_of hD h3))
theorem CompAt.fin {D : Addr} {f : Nat → Option PyData} {i : Nat} {H : Hp} (h : CompAt S H1 D f i H) (hS : Al S H1) (hD : H1 D = none) : Dq S H (.ref D) (.list ((List.range i).filterMap f)) := by
  obtain ⟨⟨acc, h1, h2⟩, h3⟩ := h
  exact .lst (hS.ni hD) h1 h2.tail
/-- [elt for x in list if test], nothing changed: es the items, f what becomes of each -/
theorem lcL {a : Addr} {es : List PyData} (f : Nat → Option PyData) (hS : Al S H1) (ha : Dq S H1 (.ref a) (.list es)) (hz : es.length < 1000)
    (step : ∀ (D : Addr) (i : Nat) (x : V) (e : PyData) (H : Hp), H1 D = none → es[i]? = some e → Same H1 H → Al (D :: S) H → Dq (D :: S) H x e →
      ∀ (R : V → Hp → Prop) (N : Hp → Prop), (∀ r y H4, f i = some r → Same H H4 → Dq (D :: S) H4 y r → R y H4) → (f i = none → ∀ H4, Same H H4 → N H4) →
      g x (wipe σ vs) H fun σ2 H2 => wipe σ2 vs = wipe σ vs ∧ tt σ2 H2 fun b H3 => if b = true then te σ2 H3 R else N H3)
    (q : ∀ (D : Addr) (H : Hp), Same H1 H → H1 D = none → Dq S H (.ref D) (.list ((List.range es.length).filterMap f)) → Q (.ref D) H) :
    lcK (Itl K a) g tt te vs σ H1 Q := by
  unfold lcK
  intro D hD
  obtain ⟨a', xs, ea, na, hxs, hall⟩ := ha.lstE
  cases ea
  have hlx := hall.len
  have hDa : a ≠ D := fun e => by rw [e, hD] at hxs; cases hxs
  refine lc_list (xs := xs) (CompAt S H1 D f) (CompAt.zero hD) ?_ ?_ ?_
  · intro i H _ h
    exact SqL.of (h.fr a _ (by simpa using hDa) hxs)
  · intro i x H hx h
    have hlt : i < xs.length := (List.getElem?_eq_some_iff.mp hx).1
    have hsm : Same H1 H := sm_of hD h.fr
    have hall' : DqA (D :: S) H xs es := (hall.new hD).same hsm
    obtain ⟨e, he, hxe⟩ := hall'.get hx
    exact step D i x e H hD he hsm (h.al hS hD) hxe _ _ (fun r y H4 er s d => h.put (by omega) er s d) fun en H4 s => (h.same s).skip en
  · intro H h
    rw [hlx] at h
    exact q D H (sm_of hD h.fr) hD (h.fin hS hD)
/-- the same over range(lo, ..) of n numbers -/
theorem lcR {lo : Int} {n : Nat} (f : Nat → Option PyData) (hS : Al S H1) (hz : n < 1000)
    (step : ∀ (D : Addr) (i : Nat) (H : Hp), H1 D = none → i < n → Same H1 H → Al (D :: S) H →
      ∀ (R : V → Hp → Prop) (N : Hp → Prop), (∀ r y H4, f i = some r → Same H H4 → Dq (D :: S) H4 y r → R y H4) → (f i = none → ∀ H4, Same H H4 → N H4) →
      g (.int (lo + i)) (wipe σ vs) H fun σ2 H2 => wipe σ2 vs = wipe σ vs ∧ tt σ2 H2 fun b H3 => if b = true then te σ2 H3 R else N H3)
    (q : ∀ (D : Addr) (H : Hp), Same H1 H → H1 D = none → Dq S H (.ref D) (.list ((List.range n).filterMap f)) → Q (.ref D) H) :
    lcK (Itr lo n) g tt te vs σ H1 Q := by
  unfold lcK
  intro D hD
  refine lc_range (CompAt S H1 D f) (CompAt.zero hD) ?_ ?_
  · intro i H hlt h
    exact step D i H hD hlt (sm_of hD h.fr) (h.al hS hD) _ _ (fun r y H4 er s d => h.put (by omega) er s d) fun en H4 s => (h.same s).skip en
  · intro H h
    exact q D H (sm_of hD h.fr) hD (h.fin hS hD)
theorem fm_take (rs : List PyData) : ∀ n : Nat, (List.range n).filterMap (fun i => rs[i]?) = rs.take n
  | 0 => by simp
  | n + 1 => by rw [fm_succ, fm_take rs n, List.take_succ]
theorem fm_map {es rs : List PyData} (hl : rs.length = es.length) : (List.range es.length).filterMap (fun i => rs[i]?) = rs := by
  rw [fm_take, List.take_of_length_le (by omega)]
end

/-! ### the deck -/
def Dk (d s : Addr) (ns : List Int) (H : Hp) : Prop := s ≠ d ∧ H s = some (.lst (ns.map V.int)) ∧ ∃ pos rest seed : Int, H d = some (.lst [.ref s, .int pos, .int rest, .int seed]) ∧ 0 ≤ pos
/-- only what stands at d is another -/
def On (d : Addr) (H H' : Hp) : Prop := ∀ b, b ≠ d → H' b = H b
section
variable {d s D : Addr} {ns : List Int} {H H' H2 : Hp} {o : HO} {S : List Addr}
theorem On.refl : On d H H := fun _ _ => rfl
theorem On.trans (h : On d H H') (k : On d H' H2) : On d H H2 := fun b n => (k b n).trans (h b n)
theorem On.upd : On d H (upd H d o) := fun b n => upd_ne n
theorem On.fr (h : On d H H') : Fr [d] H H' := fun a u n e => by
  rw [h a (by simpa using n)]
  exact e
theorem On.frS (h : On d H H') (m : d ∈ S) : Fr S H H' := h.fr.mono fun a k => by
  rw [show a = d by simpa using k]
  exact m
theorem Dk.hd (h : Dk d s ns H) : H d ≠ none := by
  obtain ⟨_, _, _, _, _, e, _⟩ := h
  rw [e]
  simp
theorem Dk.hs (h : Dk d s ns H) : H s ≠ none := by
  obtain ⟨_, e, _⟩ := h
  rw [e]
  simp
theorem Dk.fr (h : Dk d s ns H) (e : Fr S H H') (h1 : d ∉ S) (h2 : s ∉ S) : Dk d s ns H' := by
  obtain ⟨a, b, p, r, q, c, e0⟩ := h
  exact ⟨a, e _ _ h2 b, p, r, q, e _ _ h1 c, e0⟩
theorem Dk.same (h : Dk d s ns H) (e : Same H H') : Dk d s ns H' := h.fr (S := []) (Fr.same e) (by simp) (by simp)
theorem Dk.put (h : Dk d s ns H) (hD : D ≠ d) (hs : D ≠ s) : Dk d s ns (upd H D o) := h.fr (S := [D]) (Fr.upd (by simp)) (by simpa using hD.symm) (by simpa using hs.symm)
theorem Dk.ned (h : Dk d s ns H) (hD : H D = none) : D ≠ d := fun e => h.hd (e ▸ hD)
theorem Dk.nes (h : Dk d s ns H) (hD : H D = none) : D ≠ s := fun e => h.hs (e ▸ hD)
end
def spDk (K : PySem.W.Frag) : Sp := fun vs H Q _ => ∃ (a : Addr) (ns : List Int), vs = [.ref a] ∧ SqL K H a (ns.map V.int) ∧ ∀ d s H', Same H H' → Dk d s ns H' → Q (.ref d) H'
def spDr : Sp := fun vs H Q _ => ∃ (d s : Addr) (ns : List Int) (m : Int), vs = [.ref d, .int m] ∧ Dk d s ns H ∧ 0 < m ∧ m < 10 ^ 62 ∧ ∀ v H', 0 ≤ v → v < m → Dk d s ns H' → On d H H' → Q (.int v) H'
theorem dr_app {d s : Addr} {ns : List Int} {m : Int} {H : Hp} {Q : VK} {E : XK} (h : Dk d s ns H) (h1 : 0 < m) (h2 : m < 10 ^ 62) (k : ∀ v H', 0 ≤ v → v < m → Dk d s ns H' → On d H H' → Q (.int v) H') : spDr [.ref d, .int m] H Q E := ⟨d, s, ns, m, rfl, h, h1, h2, k⟩
/-- how far a point lies -/
def PtIn (b : Int) (p : Pt) : Prop := -b ≤ p.1 ∧ p.1 ≤ b ∧ -b ≤ p.2.1 ∧ p.2.1 ≤ b
def spPt : Sp := fun vs H Q _ => ∃ (S : List Addr) (d s : Addr) (ns : List Int) (far : Int), vs = [.ref d, .int far] ∧ d ∈ S ∧ Al S H ∧ Dk d s ns H ∧ 130 ≤ far ∧ far ≤ 10 ^ 6 ∧
  ∀ t H' p, Fr [d] H H' → Dk d s ns H' → Dq S H' (.ref t) (ptD p) → PtIn far p → Q (.ref t) H'

/-! ### more readings -/
section
variable {σ : L2.St} {H H' H2 : Hp} {Q : VK} {v x y : V} {ta tb tc te : TE} {K : PySem.W.Frag} {p a b l : Addr} {xs zs : List V} {o : HO}
theorem raw_new (h : H p = none) (e : H a = some o) {u : HO} : upd H p u a = some o := Fl.Same.new h a o e
theorem raw_same (h : Same H H') (e : H a = some o) : H' a = some o := h a o e
theorem none_upd {u : HO} (h : H p = none) (n : p ≠ a) : upd H a u p = none := by rw [upd_ne n]; exact h
theorem Dq.newH {S : List Addr} {d : PyData} {u : HO} (e : H p = none) (h : Dq S H v d) : Dq S (upd H p u) v d := h.same (Fl.Same.new e)
theorem DqA.newH {S : List Addr} {vs : List V} {ds : List PyData} {u : HO} (e : H p = none) (h : DqA S H vs ds) : DqA S (upd H p u) vs ds := h.same (Fl.Same.new e)
theorem Al.newH {S : List Addr} {u : HO} (e : H p = none) (h : Al S H) : Al S (upd H p u) := h.same (Fl.Same.new e)
theorem g_sl {r : V → Option Int → Option Int → Hp → VK → Prop} {tl th : TO} (h : te σ H fun x H1 => tl σ H1 fun l H2 => th σ H2 fun u H3 => r x l u H3 Q) : L2.tSl r te tl th σ H Q := h
theorem g_part {QO : Option Int → Hp → Prop} (h : te σ H fun x H1 => ∃ i, x = .int i ∧ QO (some i) H1) : tPart te σ H QO := h
theorem g_nop {QO : Option Int → Hp → Prop} (h : QO none H) : tNoPart σ H QO := h
theorem g_ei {i : Int} {R : Int → Prop} (q : R i) : ∃ j, V.int i = .int j ∧ R j := ⟨i, rfl, q⟩
theorem g_slL {lo hi : Option Int} (h : SqL K H a xs) (q : ∀ p, H p = none → Q (.ref p) (upd H p (.lst (cutV xs lo hi)))) : rSlL K (.ref a) lo hi H Q := ⟨a, xs, rfl, h, q⟩
theorem g_slT {lo hi : Option Int} (h : SqT K H a xs) (n : ¬ (HT.sIx xs.length 0 lo = 0 ∧ HT.sIx xs.length xs.length hi = xs.length)) (q : ∀ p, H p = none → Q (.ref p) (upd H p (.tup (cutV xs lo hi)))) : rSlT K (.ref a) lo hi H Q := ⟨a, xs, rfl, h, n, q⟩
theorem cut_from (k : Nat) : cutV xs (some (k : Int)) none = xs.drop k := by
  show (xs.drop (HT.sIx xs.length 0 (some (k : Int)))).take (HT.sIx xs.length xs.length none - HT.sIx xs.length 0 (some (k : Int))) = _
  rw [HT.sIx_nat, HT.sIx_none]
  rcases Nat.le_total k xs.length with h | h
  · rw [Nat.min_eq_left h, List.take_of_length_le (by rw [List.length_drop]; omega)]
  · rw [Nat.min_eq_right h, Nat.sub_self, List.take_zero, List.drop_of_length_le h]
theorem cut_to (k : Nat) : cutV xs none (some (k : Int)) = xs.take k := by
  show (xs.drop (HT.sIx xs.length 0 none)).take (HT.sIx xs.length xs.length (some (k : Int)) - HT.sIx xs.length 0 none) = _
  rw [HT.sIx_nat, HT.sIx_none, List.drop_zero, Nat.sub_zero]
  rcases Nat.le_total k xs.length with h | h
  · rw [Nat.min_eq_left h]
  · rw [Nat.min_eq_right h, List.take_of_length_le (Nat.le_refl _), List.take_of_length_le h]
theorem cut_last : cutV xs none (some (-1)) = xs.dropLast := by
  show (xs.drop (HT.sIx xs.length 0 none)).take (HT.sIx xs.length xs.length (some (-1)) - HT.sIx xs.length 0 none) = _
  rw [HT.sIx_none, List.drop_zero, Nat.sub_zero, List.dropLast_eq_take]
  congr 1
  show (if (-1 : Int) < 0 then ((-1 : Int) + (xs.length : Int)).toNat else min (-1 : Int).toNat xs.length) = _
  rw [if_pos (by decide)]
  omega
theorem cut_fromLast : cutV xs (some (-1)) none = xs.drop (xs.length - 1) := by
  show (xs.drop (HT.sIx xs.length 0 (some (-1)))).take (HT.sIx xs.length xs.length none - HT.sIx xs.length 0 (some (-1))) = _
  have e : HT.sIx xs.length 0 (some (-1)) = xs.length - 1 := by
    show (if (-1 : Int) < 0 then ((-1 : Int) + (xs.length : Int)).toNat else min (-1 : Int).toNat xs.length) = _
    rw [if_pos (by decide)]
    omega
  rw [e, HT.sIx_none, List.take_of_length_le (by rw [List.length_drop]; omega)]
theorem g_cat (h1 : H l = some (.lst xs)) (h2 : H b = some (.lst zs)) (hz : xs.length + zs.length ≤ 2000) (q : ∀ p, H p = none → Q (.ref p) (upd H p (.lst (xs ++ zs)))) : rCat (.ref l) (.ref b) H Q :=
  ⟨l, b, xs, zs, rfl, rfl, h1, h2, Nat.le_trans hz (by decide), q⟩
end
/-! promises about outlines -/
def beg (c : List α) (k : Nat) : List α := c.drop k ++ c.take k
def fBeg (ds : List PyData) (d : PyData) : Prop := ∃ (c : List PyData) (k : Nat), ds = [.list c, .int (k : Int)] ∧ c.length ≤ 900 ∧ d = .list (beg c k)

section
variable {d s D : Addr} {ns : List Int} {H H' H1 H2 : Hp} {o : HO} {S : List Addr} {a : Addr} {v : V} {e : PyData}
theorem raw_on (h : On d H H') (n : a ≠ d) (e : H a = some o) : H' a = some o := by rw [h a n]; exact e
theorem raw_frd (h : Fr [d] H H') (n : a ≠ d) (e : H a = some o) : H' a = some o := h a o (by simpa using n) e
theorem Dq.frd (h : Fr [d] H H') (m : d ∈ S) (k : Dq S H v e) : Dq S H' v e := k.fr (h.mono fun a q => by
  rw [show a = d by simpa using q]
  exact m)
theorem Al.frd (h : Fr [d] H H') (k : Dk d s ns H') (q : Al S H) : Al S H' := q.fr h (.cons k.hd .nil)
theorem spread_at {v far : Int} (h0 : 0 ≤ v) (h1 : v < 3) (hf : 130 ≤ far) : ∃ sp : Int, atI [V.int 9, V.int 130, V.int far] v = some (.int sp) ∧ 9 ≤ sp ∧ sp ≤ far := by
  rcases (by omega : v = 0 ∨ v = 1 ∨ v = 2) with rfl | rfl | rfl
  · exact ⟨9, rfl, by omega, by omega⟩
  · exact ⟨130, rfl, by omega, by omega⟩
  · exact ⟨far, rfl, by omega, by omega⟩
theorem pt_app {far : Int} {Q : VK} {E : XK} (S : List Addr) (h1 : d ∈ S) (h2 : Al S H) (h3 : Dk d s ns H) (h4 : 130 ≤ far) (h5 : far ≤ 10 ^ 6) (q : ∀ t H' p, Fr [d] H H' → Dk d s ns H' → Dq S H' (.ref t) (ptD p) → PtIn far p → Q (.ref t) H') : spPt [.ref d, .int far] H Q E :=
  ⟨S, d, s, ns, far, rfl, h1, h2, h3, h4, h5, q⟩
/-- the list of points D at turn i -/
structure PtsAt (S : List Addr) (H1 : Hp) (d s : Addr) (ns : List Int) (far : Int) (D : Addr) (i : Nat) (H : Hp) : Prop where
  ex : ∃ (acc : List V) (c : List Pt), H D = some (.lst acc) ∧ DqA (D :: S) H acc (c.map ptD) ∧ c.length = i ∧ ∀ p, p ∈ c → PtIn far p
  fr : Fr [D, d] H1 H
  dk : Dk d s ns H
/-- [point for j in range(n)], points drawn from the deck at d -/
theorem lcDk {n : Nat} {lo far : Int} {g : TG} {te : TE} {vs : List Nat} {σ : L2.St} {Q : VK} (hS : Al S H1) (hd : d ∈ S) (hk : Dk d s ns H1) (hz : n < 1000)
    (step : ∀ (D : Addr) (i : Nat) (H : Hp), Al (D :: S) H → Dk d s ns H →
      ∀ (R : V → Hp → Prop), (∀ t H' p, Fr [d] H H' → Dk d s ns H' → Dq (D :: S) H' (.ref t) (ptD p) → PtIn far p → R (.ref t) H') →
      g (.int (lo + i)) (wipe σ vs) H fun σ2 H2 => wipe σ2 vs = wipe σ vs ∧ te σ2 H2 R)
    (q : ∀ (D : Addr) (H : Hp) (c : List Pt), Fr [d] H1 H → Dk d s ns H → Dq S H (.ref D) (ctD c) → c.length = n → (∀ p, p ∈ c → PtIn far p) → Q (.ref D) H)
    (gm : ∀ x σ' H' (Q1 Q2 : L2.St → Hp → Prop), (∀ s h, Q1 s h → Q2 s h) → g x σ' H' Q1 → g x σ' H' Q2) :
    lcK (Itr lo n) g tYes te vs σ H1 Q := by
  unfold lcK
  intro D hD
  have hnd : D ≠ d := hk.ned hD
  have hns : D ≠ s := hk.nes hD
  refine lc_range (PtsAt S H1 d s ns far D) ⟨⟨[], [], upd_same, .nil, rfl, fun _ m => nomatch m⟩, Fr.same (Fl.Same.new hD), hk.put hnd hns⟩ ?_ ?_
  · intro i H hlt h
    obtain ⟨⟨acc, c, hacc, hA, hl, hp⟩, hf, hk'⟩ := h
    have hAl : Al (D :: S) H := .cons (by rw [hacc]; simp) (hS.fr hf fun b m => by
      rcases List.mem_cons.mp m with rfl | m
      · rw [hacc]; simp
      · rw [show b = d by simpa using m]
        exact hk'.hd)
    refine gm _ _ _ _ _ (fun σ2 H2 hq => ⟨hq.1, ?_⟩) (step D i H hAl hk' (fun y H4 => ∃ acc, H4 D = some (.lst acc) ∧ acc.length < sizeLine ∧ PtsAt S H1 d s ns far D (i + 1) (upd H4 D (.lst (acc ++ [y])))) ?_)
    · exact hq.2
    · intro t H' p f k dq hp'
      have f' : Fr (D :: S) H H' := f.mono fun b m => by
        rw [show b = d by simpa using m]
        exact List.mem_cons_of_mem _ hd
      refine ⟨acc, f D _ (by simpa using hnd) hacc, ?_, ⟨acc ++ [.ref t], c ++ [p], upd_same, ?_, ?_, ?_⟩, ?_, ?_⟩
      · have := hA.len
        rw [List.length_map] at this
        have : (1000 : Nat) ≤ sizeLine := by decide
        omega
      · rw [List.map_append]
        exact ((hA.fr f').app (.one dq)).fr (Fr.upd (by simp))
      · rw [List.length_append, hl]
        rfl
      · intro p2 m
        rcases List.mem_append.mp m with m | m
        · exact hp p2 m
        · rw [show p2 = p by simpa using m]
          exact hp'
      · exact (hf.trans (f.mono fun b m => by simpa using Or.inr (show b = d by simpa using m))).trans (Fr.upd (by simp))
      · exact k.put hnd hns
  · intro H h
    obtain ⟨⟨acc, c, hacc, hA, hl, hp⟩, hf, hk'⟩ := h
    refine q D H c (fun b o n e => hf b o (fun m => ?_) e) hk' (.lst (hS.ni hD) hacc hA.tail) hl hp
    rcases List.mem_cons.mp m with rfl | m
    · rw [hD] at e; cases e
    · exact n m
/-- an outline that was drawn -/
structure OuIn (least : Nat) (far : Int) (o : List (List Pt)) : Prop where
  len : o.length ≤ 3
  cs : ∀ c, c ∈ o → least ≤ c.length ∧ c.length ≤ least + 5 ∧ ∀ p, p ∈ c → PtIn far p
end
def spOu : Sp := fun vs H Q _ => ∃ (d s : Addr) (ns : List Int) (least : Nat) (far : Int), vs = [.ref d, .int (least : Int), .int far] ∧ Dk d s ns H ∧ least ≤ 2 ∧ 130 ≤ far ∧ far ≤ 10 ^ 6 ∧
  ∀ t H' o, Fr [d] H H' → Dk d s ns H' → Dq [d] H' (.ref t) (ouD o) → OuIn least far o → Q (.ref t) H'
theorem g_sz {n : Nat} {A : Prop} (hn : n ≤ 1000) (h : A) : n ≤ sizeLine ∧ A := ⟨Nat.le_trans hn (by decide), h⟩
section
variable {σ : L2.St} {H : Hp} {te : TE} {D : Ends} {g : TG} {tb : TS}
/-- for _ in range(n): the number first, then the turns (te keeps its continuation: what it gives is put into te's own reading) -/
theorem g_forR_ (Pv : Nat → L2.St → Hp → Prop)
    (h : te σ H fun x H1 => ∃ n : Int, x = .int n ∧ -(2 ^ 62) ≤ n ∧ n < 2 ^ 62 ∧ Pv 0 σ H1 ∧ (∀ (i : Nat) σ' H', (i : Int) < n → Pv i σ' H' → g (.int (i : Int)) σ' H' fun σ2 H2 => tb { D with nx := Pv (i + 1), ct := Pv (i + 1), bk := D.nx } σ2 H2) ∧ ∀ σ' H', Pv n.toNat σ' H' → D.nx σ' H')
    (mono : ∀ Q Q' : VK, (∀ x H1, Q x H1 → Q' x H1) → te σ H Q → te σ H Q') : tFor (iRng1 (tCons te tNil)) g tb D σ H := by
  refine mono _ _ (fun x H1 q => ?_) h
  obtain ⟨n, rfl, h1, h2, p, hs, hd⟩ := q
  show ∃ j : Int, [V.int n] = [V.int j] ∧ _
  refine ⟨n, rfl, h1, h2, for_range Pv p (fun i σ' H' hi p' => ?_) hd⟩
  have e0 : (0 : Int) + (i : Int) = (i : Int) := Int.zero_add _
  rw [e0]
  exact hs i σ' H' (by omega) p'
end
section
variable {S : List Addr} {d s p : Addr} {ns : List Int} {H H' H2 : Hp} {v : V} {e : PyData} {u o : HO} {vs : List V} {es : List PyData}
theorem Dk.newH (h : H p = none) (k : Dk d s ns H) : Dk d s ns (upd H p u) := k.same (Fl.Same.new h)
theorem Dk.sm (h : Same H H') (k : Dk d s ns H) : Dk d s ns H' := k.same h
theorem Dq.sm (h : Same H H') (k : Dq S H v e) : Dq S H' v e := k.same h
theorem DqA.sm (h : Same H H') (k : DqA S H vs es) : DqA S H' vs es := k.same h
theorem Al.sm (h : Same H H') (k : Al S H) : Al S H' := k.same h
theorem Dq.ond (h : On d H H') (m : d ∈ S) (k : Dq S H v e) : Dq S H' v e := Dq.frd h.fr m k
theorem Al.ond (h : On d H H') (k : Dk d s ns H') (q : Al S H) : Al S H' := Al.frd h.fr k q
theorem Same.newT (h : H2 p = none) (k : Same H H2) : Same H (upd H2 p u) := L2.Same.trans k (Fl.Same.new h)
theorem Same.sm (h : Same H2 H') (k : Same H H2) : Same H H' := L2.Same.trans k h
theorem Fr.newT (h : H2 p = none) (k : Fr S H H2) : Fr S H (L2.upd H2 p u) := k.trans (Fr.new h)
theorem Fr.ond (h : On d H2 H') (k : Fr [d] H H2) : Fr [d] H H' := k.trans h.fr
theorem Fr.smT (h : Same H2 H') (k : Fr S H H2) : Fr S H H' := k.trans (Fr.same h)
theorem Fr.frT (h : Fr S H2 H') (k : Fr S H H2) : Fr S H H' := k.trans h
end
theorem Dk.ned2 {d s D : Addr} {ns : List Int} {H : Hp} (hD : H D = none) (h : Dk d s ns H) : D ≠ d := h.ned hD
theorem g_name {i : Nat} {v : V} {σ : L2.St} {H : Hp} {Q : L2.St → Hp → Prop} (q : Q (σ.set i (some v)) H) : gName i v σ H Q := q
theorem g_bm {K : PySem.W.Frag} {T : String} {r : V → List V → Hp → VK → Prop} {to : TE} {t : TA} {σ : L2.St} {H : Hp} {Q : VK} (h : to σ H fun x H1 => tyV K T x H1 ∧ t σ H1 fun xs H2 => r x xs H2 Q) : tBM K T r to t σ H Q := h
theorem g_app {l : Addr} {xs : List V} {y : V} {H : Hp} {Q : VK} (h : H l = some (.lst xs)) (hz : xs.length < 2000) (q : Q .non (upd H l (.lst (xs ++ [y])))) : rAppend (.ref l) [y] H Q := ⟨l, xs, y, rfl, rfl, h, Nat.lt_of_lt_of_le hz (by decide), q⟩
theorem g_ext {l b : Addr} {xs zs : List V} {H : Hp} {Q : VK} (h : H l = some (.lst xs)) (h2 : H b = some (.lst zs)) (hz : xs.length + zs.length ≤ 2000) (q : Q .non (upd H l (.lst (xs ++ zs)))) : rExtend (.ref l) [.ref b] H Q := ⟨l, b, xs, zs, rfl, rfl, h, h2, Nat.le_trans hz (by decide), q⟩
section
variable {K : PySem.W.Frag} {σ : L2.St} {H H1 : Hp} {Q : VK} {g : TG} {tt : TT} {te tx ty : TE} {tb : TS} {vs : List Nat} {D : Ends} {wi : TI} {R : It → Hp → Prop} {a b : Addr} {xs ys : List V}
theorem g_tyL {A : Prop} (h : SqL K H a xs) (q : A) : tyV K "list" (.ref a) H ∧ A := ⟨.inl ⟨rfl, _, h⟩, q⟩
theorem g_lc (h : wi σ H fun J H1 => lcK J g tt te vs σ H1 Q) : tLc wi g tt te vs σ H Q := h
theorem g_for (h : wi σ H fun J H1 => forK J g tb D σ H1) : tFor wi g tb D σ H := h
theorem g_rng1 (h : te σ H fun x H1 => ∃ j : Int, [x] = [V.int j] ∧ -(2 ^ 62) ≤ j ∧ j < 2 ^ 62 ∧ R (Itr 0 j.toNat) H1) : iRng1 (tCons te tNil) σ H R := h
theorem g_rng2 (h : tx σ H fun x H1 => ty σ H1 fun y H2 => ∃ i j : Int, [x, y] = [V.int i, V.int j] ∧ (-(2 ^ 62) ≤ i ∧ i < 2 ^ 62 ∧ -(2 ^ 62) ≤ j ∧ j < 2 ^ 62) ∧ R (Itr i (j - i).toNat) H2) : iRng2 (tCons tx (tCons ty tNil)) σ H R := h
theorem g_e1 {n : Int} {Z : Int → Prop} (h1 : -(2 ^ 62) ≤ n) (h2 : n < 2 ^ 62) (q : Z n) : ∃ j : Int, [V.int n] = [V.int j] ∧ -(2 ^ 62) ≤ j ∧ j < 2 ^ 62 ∧ Z j := ⟨n, rfl, h1, h2, q⟩
theorem g_e2 {i j : Int} {Z : Int → Int → Prop} (h : -(2 ^ 62) ≤ i ∧ i < 2 ^ 62 ∧ -(2 ^ 62) ≤ j ∧ j < 2 ^ 62) (q : Z i j) : ∃ k l : Int, [V.int i, V.int j] = [V.int k, V.int l] ∧ (-(2 ^ 62) ≤ k ∧ k < 2 ^ 62 ∧ -(2 ^ 62) ≤ l ∧ l < 2 ^ 62) ∧ Z k l := ⟨i, j, rfl, h, q⟩
theorem g_il (h : te σ H fun x H1 => ∃ a, x = .ref a ∧ (∃ xs, SqL K H1 a xs) ∧ R (Itl K a) H1) : iList K te σ H R := h
theorem g_el {Z : Addr → Prop} (h : SqL K H a xs) (q : Z a) : ∃ c, V.ref a = .ref c ∧ (∃ xs, SqL K H c xs) ∧ Z c := ⟨a, rfl, ⟨xs, h⟩, q⟩
theorem g_zip (h : tx σ H fun x H1 => ty σ H1 fun y H2 => ∃ a b xs ys, [x, y] = [V.ref a, V.ref b] ∧ SqL K H2 a xs ∧ SqL K H2 b ys ∧ R (Itz K a b) H2) : iZip K (tCons tx (tCons ty tNil)) σ H R := h
theorem g_ez {Z : Addr → Addr → Prop} (h1 : SqL K H a xs) (h2 : SqL K H b ys) (q : Z a b) : ∃ c d zs ws, [V.ref a, V.ref b] = [V.ref c, V.ref d] ∧ SqL K H c zs ∧ SqL K H d ws ∧ Z c d := ⟨a, b, xs, ys, rfl, h1, h2, q⟩
theorem forK_r {lo : Int} {n : Nat} (Pv : Nat → L2.St → Hp → Prop) (h0 : Pv 0 σ H)
    (hs : ∀ i σ H, i < n → Pv i σ H → g (.int (lo + i)) σ H fun σ2 H2 => tb { D with nx := Pv (i + 1), ct := Pv (i + 1), bk := D.nx } σ2 H2) (hd : ∀ σ H, Pv n σ H → D.nx σ H) : forK (Itr lo n) g tb D σ H := for_range Pv h0 hs hd
theorem forK_l (Pv : Nat → L2.St → Hp → Prop) (h0 : Pv 0 σ H) (hl : ∀ i σ H, i ≤ xs.length → Pv i σ H → SqL K H a xs)
    (hs : ∀ i x σ H, xs[i]? = some x → Pv i σ H → g x σ H fun σ2 H2 => tb { D with nx := Pv (i + 1), ct := Pv (i + 1), bk := D.nx } σ2 H2) (hd : ∀ σ H, Pv xs.length σ H → D.nx σ H) : forK (Itl K a) g tb D σ H := for_list Pv h0 hl hs hd
theorem forK_z (hl : xs.length = ys.length) (Pv : Nat → L2.St → Hp → Prop) (h0 : Pv 0 σ H) (hq : ∀ i σ H, Pv i σ H → SqL K H a xs ∧ SqL K H b ys)
    (hs : ∀ (i : Nat) (x y : V) (T : Addr) (σ : L2.St) (H : Hp), xs[i]? = some x → ys[i]? = some y → Pv i σ H → H T = none → g (.ref T) σ (upd H T (.tup [x, y])) fun σ2 H2 => tb { D with nx := Pv (i + 1), ct := Pv (i + 1), bk := D.nx } σ2 H2)
    (hd : ∀ σ H, Pv xs.length σ H → D.nx σ H) : forK (Itz K a b) g tb D σ H := RZ.for_zipL hl Pv h0 hq hs hd
end
section
variable {K : PySem.W.Frag} {H : Hp} {Q : VK} {a : Addr} {xs : List V} {x y z : V}
theorem g_slF {k : Nat} (h : SqL K H a xs) (q : ∀ p, H p = none → Q (.ref p) (upd H p (.lst (xs.drop k)))) : rSlL K (.ref a) (some (k : Int)) none H Q := g_slL h (by rw [cut_from]; exact q)
theorem g_slF1 (h : SqL K H a xs) (q : ∀ p, H p = none → Q (.ref p) (upd H p (.lst (xs.drop 1)))) : rSlL K (.ref a) (some 1) none H Q := g_slF (k := 1) h q
theorem g_slTo {k : Nat} (h : SqL K H a xs) (q : ∀ p, H p = none → Q (.ref p) (upd H p (.lst (xs.take k)))) : rSlL K (.ref a) none (some (k : Int)) H Q := g_slL h (by rw [cut_to]; exact q)
theorem g_slT1 (h : SqL K H a xs) (q : ∀ p, H p = none → Q (.ref p) (upd H p (.lst (xs.take 1)))) : rSlL K (.ref a) none (some 1) H Q := g_slTo (k := 1) h q
theorem g_slB (h : SqL K H a xs) (q : ∀ p, H p = none → Q (.ref p) (upd H p (.lst xs.dropLast))) : rSlL K (.ref a) none (some (-1)) H Q := g_slL h (by rw [cut_last]; exact q)
theorem g_slE (h : SqL K H a xs) (q : ∀ p, H p = none → Q (.ref p) (upd H p (.lst (xs.drop (xs.length - 1))))) : rSlL K (.ref a) (some (-1)) none H Q := g_slL h (by rw [cut_fromLast]; exact q)
theorem g_sl2 (h : SqT K H a [x, y, z]) (q : ∀ p, H p = none → Q (.ref p) (upd H p (.tup [x, y]))) : rSlT K (.ref a) none (some 2) H Q := g_slT h (by show ¬ (0 = 0 ∧ 2 = 3); decide) q
end
/-- a global number -/
theorem pe_gv {X : Cx} {x : Str} {pos : Pos} {v : V} (g : Gl X x) (h : ∃ u, X.mg x = some u ∧ RelV v u)
    (n : (x == ("__debug__" : Str)) = false := by decide) : PE X (.Name x pos) (tC v) := pe_glob g h.choose_spec.1 h.choose_spec.2 n
/-! the rules whose readings name the written part, for blocks within defs -/
section
variable {X : Cx} {K : PySem.W.Frag}
theorem ixT (e : X.K = K) : IxR X (rIxT K) := by subst e; exact ix_tup
theorem ixL (e : X.K = K) : IxR X (rIxL K) := by subst e; exact ix_list
theorem slL' (e : X.K = K) : SlR X (rSlL K) := by subst e; exact sl_list
theorem slT' (e : X.K = K) : SlR X (rSlT K) := by subst e; exact sl_tup
theorem clLen (e : X.K = K) : CallR X (.builtin "len") (Fl.rLen K) := by subst e; exact call_len'
theorem clList (e : X.K = K) : CallR X (.type "list") (Fl.rList K) := by subst e; exact call_list'
theorem clIsi (e : X.K = K) : CallR X (.builtin "isinstance") (rIsi K) := by subst e; exact call_isi
theorem opEqD (e : X.K = K) (hu : X.A.units + 64 < cLine) : OpR X (compareOp .Eq) (rEqD K) := by subst e; exact op_eqD hu
theorem opNeD (e : X.K = K) (hu : X.A.units + 64 < cLine) : OpR X (compareOp .NotEq) (rNeD K) := by subst e; exact op_neD hu
theorem opIn (e : X.K = K) : OpR X (compareOp .In) (rIn K false) := by subst e; exact op_in_seq
theorem opNotIn (e : X.K = K) : OpR X (compareOp .NotIn) (rIn K true) := by subst e; exact op_notIn_seq
def tTru (K : PySem.W.Frag) (ta : TE) : TT := fun σ H Q => ta σ H fun x H' => ∃ k, TruV K x H' k ∧ Q k H'
theorem ptTru {a : Expr} {ta : TE} (e : X.K = K) (ha : PE X a ta) (he : ∀ whole, isTrue a X.env whole = (do let v ← whole; standAt a.pos; holding [v] (truthy v))) : PT X a (tTru K ta) := by subst e; exact pt_truth ha he
theorem piL {l tg : Expr} {tl : TE} (e : X.K = K) (h : PE X l tl) : PI X tg l (iList K tl) := by subst e; exact pi_list h
theorem piT {l tg : Expr} {tl : TE} (e : X.K = K) (h : PE X l tl) : PI X tg l (iTup K tl) := by subst e; exact pi_tup h
theorem pgT {es : List Expr} {j : Nat} {t : TGs} {n : Nat} {pos : Pos} (e : X.K = K) (hc : X.calm = true) (h : PGs X es t)
    (hn : (assignEach es X.env).length = n := by rfl)
    (hst : (assignEach es X.env).findIdx? (·.1) = none := by rfl) : PG X (.Tuple es j pos) (gTup K n t) := by subst e; exact pg_tup hc h hn hst
theorem g_gtup {n : Nat} {t : TGs} {a : Addr} {xs : List V} {σ : L2.St} {H : Hp} {Q : L2.St → Hp → Prop} (h : SqT K H a xs) (e : xs.length = n) (q : t xs σ H Q) : gTup K n t (.ref a) σ H Q := ⟨a, xs, rfl, h, e, q⟩
theorem g_gcons {t : TG} {u : TGs} {v : V} {r : List V} {σ : L2.St} {H : Hp} {Q : L2.St → Hp → Prop} (q : t v σ H fun σ' H' => u r σ' H' Q) : gCons t u (v :: r) σ H Q := ⟨v, r, rfl, q⟩
theorem g_gnil {σ : L2.St} {H : Hp} {Q : L2.St → Hp → Prop} (q : Q σ H) : gNil [] σ H Q := ⟨rfl, q⟩
theorem g_truL {a : Addr} {xs : List V} {te : TE} {σ : L2.St} {H : Hp} {Q : Bool → Hp → Prop} (h : te σ H fun x H' => ∃ k, TruV K x H' k ∧ Q k H') : tTru K te σ H Q := h
end
theorem g_yes {te : TE} {R : VK} {N : Hp → Prop} {σ : L2.St} {H : Hp} (h : te σ H R) : tYes σ H fun b H3 => if b = true then te σ H3 R else N H3 := h
theorem fm_all {rs : List PyData} {n : Nat} (h : rs.length ≤ n) : (List.range n).filterMap (fun i => rs[i]?) = rs := by rw [fm_take, List.take_of_length_le h]
theorem DqA.getM {α : Type} {f : α → PyData} {S : List Addr} {H : Hp} {vs : List V} {c : List α} {i : Nat} {x : V} (h : DqA S H vs (c.map f)) (e : vs[i]? = some x) : ∃ p, c[i]? = some p ∧ Dq S H x (f p) := by
  obtain ⟨d, h1, h2⟩ := h.get e
  rw [List.getElem?_map] at h1
  cases hc : c[i]? with
  | none => rw [hc] at h1; cases h1
  | some p =>
    rw [hc] at h1
    cases h1
    exact ⟨p, rfl, h2⟩
theorem take_zip {α β : Type} {l : List α} {m : List β} {i : Nat} {x : α} {y : β} (h1 : l[i]? = some x) (h2 : m[i]? = some y) : (l.zip m).take (i + 1) = (l.zip m).take i ++ [(x, y)] := by
  rw [List.take_succ, (List.getElem?_zip_eq_some (z := (x, y))).mpr ⟨h1, h2⟩]
  rfl
theorem g_tru {K : PySem.W.Frag} {te : TE} {σ : L2.St} {H : Hp} {Q : Bool → Hp → Prop} (h : te σ H fun x H' => ∃ k, TruV K x H' k ∧ Q k H') : tTru K te σ H Q := h
theorem g_tru0 {K : PySem.W.Frag} {a : Addr} {H : Hp} {Z : Bool → Prop} (h : SqL K H a []) (q : Z false) : ∃ k, TruV K (.ref a) H k ∧ Z k := ⟨_, .inl ⟨_, h, rfl⟩, q⟩
theorem g_tru1 {K : PySem.W.Frag} {a : Addr} {x : V} {xs : List V} {H : Hp} {Z : Bool → Prop} (h : SqL K H a (x :: xs)) (q : Z true) : ∃ k, TruV K (.ref a) H k ∧ Z k := ⟨_, .inl ⟨_, h, rfl⟩, q⟩
theorem at0 {x : V} {xs : List V} : atI (x :: xs) 0 = some x := atI_nat (j := 0) rfl
theorem DqA.dl {S : List Addr} {H : Hp} {vs : List V} {ds : List PyData} (h : DqA S H vs ds) : DqA S H vs.dropLast ds.dropLast := by
  rw [List.dropLast_eq_take, List.dropLast_eq_take, h.len]
  exact h.take _
theorem dk_app {K : PySem.W.Frag} {a : Addr} {ns : List Int} {H : Hp} {Q : VK} {E : XK} (h : SqL K H a (ns.map V.int)) (k : ∀ d s H', Same H H' → Dk d s ns H' → Q (.ref d) H') : spDk K [.ref a] H Q E := ⟨a, ns, rfl, h, k⟩
def spLaw (K : PySem.W.Frag) : Sp := fun vs H Q _ => ∃ (a : Addr) (ns : List Int), vs = [.ref a] ∧ SqL K H a (ns.map V.int) ∧ ns.length ≤ 63 ∧ ∀ H', Q (.bl true) H'
theorem g_nn {A : Prop} (h : A) : V.non = V.non ∧ A := ⟨rfl, h⟩
end Fl

set_option Elab.async false
set_option linter.all false
set_option maxRecDepth 100000
set_option maxHeartbeats 4000000
/-! lines of contours: the mathematics -/
namespace Fl
open PySem PySem.Spec PyProof.Rows L2

abbrev Pr := Int × Int
def prD (p : Pr) : PyData := .tuple [.int p.1, .int p.2]
def lnD (l : List Pr) : PyData := .list (l.map prD)
def lsD (ls : List (List Pr)) : PyData := .list (ls.map lnD)
def pr (p : Pt) : Pr := (p.1, p.2.1)
def mid (p q : Pt) : Pt := ((p.1 + q.1) / 2, (p.2.1 + q.2.1) / 2, true)
def w1 (p q : Pt) : List Pt := if p.2.2 = true then [p] else if q.2.2 = true then [p] else [p, mid p q]
/-- a path and the point behind it, with its middle points -/
def wp : List Pt → Pt → List Pt
  | [], _ => []
  | [p], nx => w1 p nx
  | p :: q :: l, nx => w1 p q ++ wp (q :: l) nx
def wm : List Pt → List Pt
  | [] => []
  | p :: l => wp (p :: l) p
def cv (n a c b : Int) : Int := ((8 - n) * (8 - n) * a + 2 * n * (8 - n) * c + n * n * b + 32) / 64
def cp (a c b : Pt) (n : Nat) : Pr := (cv (n + 1) a.1 c.1 b.1, cv (n + 1) a.2.1 c.2.1 b.2.1)
def cvs (a c b : Pt) : List Pr := (List.range 8).map (cp a c b)
def cv7 (a c b : Pt) : List Pr := (List.range 7).map (cp a c b)
theorem cv_end (a c b : Int) : cv 8 a c b = b := by
  show ((8 - 8) * (8 - 8) * a + 2 * 8 * (8 - 8) * c + 8 * 8 * b + 32) / 64 = b
  omega
theorem cvs_eq (a c b : Pt) : cvs a c b = cv7 a c b ++ [pr b] := by
  have e : cp a c b 7 = pr b := Prod.ext (cv_end _ _ _) (cv_end _ _ _)
  rw [← e]
  rfl
/-- what the walk along a closed ring gives at a point -/
def s1 (a p b : Pt) : List Pr := if p.2.2 = true then (if b.2.2 = true then [pr b] else []) else cvs a p b
def e1 (a p b : Pt) : List Pr := if p.2.2 = true then [pr p] else cv7 a p b
def sp' : Pt → List Pt → List Pr
  | pv, p :: q :: l => s1 pv p q ++ sp' p (q :: l)
  | _, _ => []
def ep : Pt → List Pt → Pt → List Pr
  | _, [], _ => []
  | pv, [p], nx => e1 pv p nx
  | pv, p :: q :: l, nx => e1 pv p q ++ ep p (q :: l) nx
/-- no two neighbours are off -/
def Na : List Pt → Prop
  | p :: q :: l => (p.2.2 = true ∨ q.2.2 = true) ∧ Na (q :: l)
  | _ => True
theorem tele (h : Pt) (hh : h.2.2 = true) : ∀ (l : List Pt) (pv p : Pt), Na (p :: l ++ [h]) → (if p.2.2 = true then [pr p] else []) ++ sp' pv (p :: l ++ [h]) = ep pv (p :: l) h ++ [pr h]
  | [], pv, p, _ => by
    show (if p.2.2 = true then [pr p] else []) ++ (s1 pv p h ++ []) = e1 pv p h ++ [pr h]
    unfold s1 e1
    by_cases hp : p.2.2 = true
    · simp [hp, hh]
    · simp [hp, cvs_eq]
  | q :: l, pv, p, na => by
    have ih := tele h hh l p q na.2
    have hpq : p.2.2 = true ∨ q.2.2 = true := na.1
    show (if p.2.2 = true then [pr p] else []) ++ (s1 pv p q ++ sp' p (q :: l ++ [h])) = (e1 pv p q ++ ep p (q :: l) h) ++ [pr h]
    rw [List.append_assoc, ← ih]
    unfold s1 e1
    by_cases hp : p.2.2 = true
    · simp [hp]
    · have hq : q.2.2 = true := hpq.resolve_left hp
      simp [hp, hq, cvs_eq]

/-! by index -/
def p0 : Pt := (0, 0, false)
def st (pv : Pt) (cl : List Pt) (k : Nat) : List Pr := s1 (if k = 0 then pv else cl.getD (k - 1) p0) (cl.getD k p0) (cl.getD (k + 1) p0)
theorem st_sp : ∀ (l : List Pt) (pv p : Pt), (List.range l.length).flatMap (st pv (p :: l)) = sp' pv (p :: l)
  | [], _, _ => rfl
  | q :: l, pv, p => by
    have ih := st_sp l p q
    show (List.range (l.length + 1)).flatMap (st pv (p :: q :: l)) = s1 pv p q ++ sp' p (q :: l)
    rw [List.range_succ_eq_map, List.flatMap_cons, ← ih, List.flatMap_map]
    congr 1
    congr 1
    funext k
    cases k with
    | zero => rfl
    | succ k => rfl
def wz (c : List Pt) : List Pt := (c.zip (beg c 1)).flatMap fun z => w1 z.1 z.2
theorem wz_wp : ∀ (l : List Pt) (p nx : Pt), ((p :: l).zip (l ++ [nx])).flatMap (fun z => w1 z.1 z.2) = wp (p :: l) nx
  | [], _, _ => by simp [wp]
  | q :: l, p, nx => by
    have ih := wz_wp l q nx
    show w1 p q ++ ((q :: l).zip (l ++ [nx])).flatMap (fun z => w1 z.1 z.2) = w1 p q ++ wp (q :: l) nx
    rw [ih]
theorem wz_wm (c : List Pt) : wz c = wm c := by
  cases c with
  | nil => rfl
  | cons p l => exact wz_wp l p p
theorem w1_len (p q : Pt) : 1 ≤ (w1 p q).length ∧ (w1 p q).length ≤ 2 := by
  unfold w1
  split
  · simp
  · split <;> simp
theorem wp_len : ∀ (l : List Pt) (nx : Pt), l.length ≤ (wp l nx).length ∧ (wp l nx).length ≤ 2 * l.length
  | [], _ => ⟨Nat.le_refl _, Nat.le_refl _⟩
  | [p], nx => w1_len p nx
  | p :: q :: l, nx => by
    have ih := wp_len (q :: l) nx
    have := w1_len p q
    show _ ≤ (w1 p q ++ wp (q :: l) nx).length ∧ (w1 p q ++ wp (q :: l) nx).length ≤ _
    rw [List.length_append]
    simp only [List.length_cons] at *
    omega
theorem wm_len (c : List Pt) : c.length ≤ (wm c).length ∧ (wm c).length ≤ 2 * c.length := by
  cases c with
  | nil => exact ⟨Nat.le_refl _, Nat.le_refl _⟩
  | cons p l => exact wp_len _ _
theorem w1_head (p q : Pt) : ∃ t, w1 p q = p :: t := by
  unfold w1
  split
  · exact ⟨_, rfl⟩
  · split <;> exact ⟨_, rfl⟩
theorem wp_head (p : Pt) (l : List Pt) (nx : Pt) : ∃ t, wp (p :: l) nx = p :: t := by
  cases l with
  | nil => exact w1_head p nx
  | cons q l =>
    obtain ⟨t, e⟩ := w1_head p q
    refine ⟨t ++ wp (q :: l) nx, ?_⟩
    show w1 p q ++ _ = _
    rw [e]
    rfl
/-- in which box -/
def InB (P : Pt → Prop) : Prop := ∀ p q, P p → P q → P (mid p q)
theorem w1_in {P : Pt → Prop} (hP : InB P) {p q x : Pt} (hp : P p) (hq : P q) (m : x ∈ w1 p q) : P x := by
  unfold w1 at m
  split at m
  · rw [show x = p by simpa using m]; exact hp
  · split at m
    · rw [show x = p by simpa using m]; exact hp
    · rcases List.mem_cons.mp m with rfl | m
      · exact hp
      · rw [show x = mid p q by simpa using m]
        exact hP p q hp hq
theorem wp_in {P : Pt → Prop} (hP : InB P) : ∀ (l : List Pt) (nx : Pt), (∀ p, p ∈ l → P p) → P nx → ∀ x, x ∈ wp l nx → P x
  | [], _, _, _, _, m => nomatch m
  | [p], nx, h, hn, x, m => w1_in hP (h p (by simp)) hn m
  | p :: q :: l, nx, h, hn, x, m => by
    rcases List.mem_append.mp (show x ∈ w1 p q ++ wp (q :: l) nx from m) with m | m
    · exact w1_in hP (h p (by simp)) (h q (by simp)) m
    · exact wp_in hP (q :: l) nx (fun z mz => h z (List.mem_cons_of_mem _ mz)) hn x m
theorem wm_in {P : Pt → Prop} (hP : InB P) {c : List Pt} (h : ∀ p, p ∈ c → P p) : ∀ x, x ∈ wm c → P x := by
  cases c with
  | nil => intro x m; cases m
  | cons p l => exact wp_in hP _ _ h (h p (by simp))
theorem mem_beg {α : Type} {c : List α} {k : Nat} {x : α} : x ∈ beg c k ↔ x ∈ c := by
  unfold beg
  rw [List.mem_append]
  constructor
  · rintro (m | m)
    · exact List.mem_of_mem_drop m
    · exact List.mem_of_mem_take m
  · intro m
    rw [← List.take_append_drop k c] at m
    rcases List.mem_append.mp m with m | m
    · exact .inr m
    · exact .inl m
theorem beg_len {α : Type} (c : List α) (k : Nat) : (beg c k).length = c.length := by
  unfold beg
  rw [List.length_append, List.length_drop, List.length_take]
  omega
/-- the indexes of the points that are on -/
def ps (c : List Pt) : List Nat := (List.range c.length).filter fun i => (c.getD i p0).2.2
def ro (c : List Pt) : List Pt := match ps c with
  | [] => (wm c).drop ((wm c).length - 1) ++ (wm c).dropLast
  | k :: _ => wm (beg c k)
theorem inB_in (b : Int) : InB (PtIn b) := fun p q hp hq => by
  obtain ⟨h1, h2, h3, h4⟩ := hp
  obtain ⟨g1, g2, g3, g4⟩ := hq
  refine ⟨?_, ?_, ?_, ?_⟩
  · show -b ≤ (p.1 + q.1) / 2; omega
  · show (p.1 + q.1) / 2 ≤ b; omega
  · show -b ≤ (p.2.1 + q.2.1) / 2; omega
  · show (p.2.1 + q.2.1) / 2 ≤ b; omega
theorem ro_in {P : Pt → Prop} (hP : InB P) {c : List Pt} (h : ∀ p, p ∈ c → P p) : ∀ x, x ∈ ro c → P x := by
  intro x m
  unfold ro at m
  split at m
  · refine wm_in hP h x ?_
    rcases List.mem_append.mp m with m | m
    · exact List.mem_of_mem_drop m
    · exact List.dropLast_subset _ m
  · exact wm_in hP (fun p mp => h p (mem_beg.mp mp)) x m
theorem ro_len (c : List Pt) : (ro c).length ≤ 2 * c.length ∧ c.length ≤ (ro c).length := by
  unfold ro
  split
  · have := wm_len c
    rw [List.length_append, List.length_drop, List.length_dropLast]
    omega
  · rename_i k _ _
    have := wm_len (beg c k)
    rw [beg_len] at this
    omega
/-- the line of a contour -/
def lnOf (c : List Pt) : List Pr := match ro c with
  | [] => []
  | r :: l => (pr r :: (List.range (r :: l).length).flatMap (st p0 (r :: l ++ [r]))).dropLast
/-! promises -/
def fMid (ds : List PyData) (d : PyData) : Prop := ∃ p q : Pt, ds = [ptD p, ptD q] ∧ d = ptD (mid p q)
def spCv : Sp := fun vs H Q _ => ∃ n a c b : Int, vs = [.int n, .int a, .int c, .int b] ∧ 0 ≤ n ∧ n ≤ 8 ∧ a.natAbs ≤ 10 ^ 7 ∧ c.natAbs ≤ 10 ^ 7 ∧ b.natAbs ≤ 10 ^ 7 ∧ Q (.int (cv n a c b)) H
theorem cv_app {n a c b : Int} {H : Hp} {Q : VK} {E : XK} (h1 : 0 ≤ n) (h2 : n ≤ 8) (h3 : a.natAbs ≤ 10 ^ 7) (h4 : c.natAbs ≤ 10 ^ 7) (h5 : b.natAbs ≤ 10 ^ 7) (q : Q (.int (cv n a c b)) H) : spCv [.int n, .int a, .int c, .int b] H Q E := ⟨n, a, c, b, rfl, h1, h2, h3, h4, h5, q⟩
def fCur (ds : List PyData) (d : PyData) : Prop := ∃ a c b : Pt, ds = [ptD a, ptD c, ptD b] ∧ PtIn (10 ^ 6) a ∧ PtIn (10 ^ 6) c ∧ PtIn (10 ^ 6) b ∧ d = lnD (cvs a c b)
def fWm (ds : List PyData) (d : PyData) : Prop := ∃ c : List Pt, ds = [ctD c] ∧ c.length ≤ 100 ∧ d = ctD (wm c)
def fRo (ds : List PyData) (d : PyData) : Prop := ∃ c : List Pt, ds = [ctD c] ∧ c.length ≤ 100 ∧ d = ctD (ro c)
def fLo (ds : List PyData) (d : PyData) : Prop := ∃ c : List Pt, ds = [ctD c] ∧ c.length ≤ 100 ∧ (∀ p, p ∈ c → PtIn (10 ^ 6) p) ∧ d = lnD (lnOf c)
def fLs (ds : List PyData) (d : PyData) : Prop := ∃ o : List (List Pt), ds = [ouD o] ∧ o.length ≤ 100 ∧ (∀ c, c ∈ o → c.length ≤ 100 ∧ ∀ p, p ∈ c → PtIn (10 ^ 6) p) ∧ d = lsD (o.map lnOf)
theorem fm_filter {α β : Type} (p : α → Bool) (f : α → β) : ∀ l : List α, l.filterMap (fun i => if p i = true then some (f i) else none) = (l.filter p).map f
  | [] => rfl
  | x :: l => by
    rw [List.filterMap_cons, List.filter_cons, fm_filter p f l]
    by_cases h : p x = true
    · simp [h]
    · simp [h]
theorem ps_fm (c : List Pt) : (List.range c.length).filterMap (fun i => if (c.getD i p0).2.2 = true then some (PyData.int (i : Int)) else none) = (ps c).map fun i : Nat => PyData.int (i : Int) := fm_filter _ _ _
theorem ps_lt {c : List Pt} {k : Nat} (h : k ∈ ps c) : k < c.length := by
  unfold ps at h
  exact List.mem_range.mp (List.mem_filter.mp h).1
theorem ps_on {c : List Pt} {k : Nat} (h : k ∈ ps c) : (c.getD k p0).2.2 = true := (List.mem_filter.mp h).2
/-! a ring begins with a point that is on -/
theorem w1_last (p q : Pt) : p.2.2 = false → q.2.2 = false → (w1 p q).getLast? = some (mid p q) := fun h1 h2 => by
  unfold w1
  simp [h1, h2]
theorem wp_last_off : ∀ (l : List Pt) (p nx : Pt), (∀ x, x ∈ p :: l → x.2.2 = false) → nx.2.2 = false → ∃ z, (wp (p :: l) nx).getLast? = some z ∧ z.2.2 = true
  | [], p, nx, h, hn => ⟨mid p nx, w1_last p nx (h p (by simp)) hn, rfl⟩
  | q :: l, p, nx, h, hn => by
    obtain ⟨z, e, hz⟩ := wp_last_off l q nx (fun x m => h x (List.mem_cons_of_mem _ m)) hn
    refine ⟨z, ?_, hz⟩
    show (w1 p q ++ wp (q :: l) nx).getLast? = _
    rw [List.getLast?_append, e]
    rfl
theorem beg_head {α : Type} {c : List α} {k : Nat} {x : α} (h : c[k]? = some x) : ∃ t, beg c k = x :: t := by
  unfold beg
  have hk := (List.getElem?_eq_some_iff.mp h).1
  rw [List.drop_eq_getElem_cons hk, (List.getElem?_eq_some_iff.mp h).2]
  exact ⟨_, rfl⟩
theorem getD_of {c : List Pt} {k : Nat} {x : Pt} (h : c[k]? = some x) : c.getD k p0 = x := by
  rw [List.getD_eq_getElem?_getD, h]
  rfl
theorem ro_on {c : List Pt} {r : Pt} {l : List Pt} (h : ro c = r :: l) : r.2.2 = true := by
  unfold ro at h
  cases hps : ps c with
  | nil =>
    rw [hps] at h
    have h : (wm c).drop ((wm c).length - 1) ++ (wm c).dropLast = r :: l := h
    cases c with
    | nil => cases h
    | cons p t =>
      have off : ∀ x, x ∈ p :: t → x.2.2 = false := fun x m => by
        obtain ⟨i, hi⟩ := List.getElem?_of_mem m
        cases hx : x.2.2 with
        | false => rfl
        | true =>
          have : i ∈ ps (p :: t) := by
            refine List.mem_filter.mpr ⟨List.mem_range.mpr (List.getElem?_eq_some_iff.mp hi).1, ?_⟩
            rw [getD_of hi]
            exact hx
          rw [hps] at this
          cases this
      obtain ⟨z, e, hz⟩ := wp_last_off t p p off (off p (by simp))
      have e' : (wm (p :: t)).drop ((wm (p :: t)).length - 1) = [z] := by
        have e2 : (wm (p :: t)).getLast? = some z := e
        rw [List.getLast?_eq_getElem?] at e2
        have hlt := (List.getElem?_eq_some_iff.mp e2).1
        rw [List.drop_eq_getElem_cons hlt, (List.getElem?_eq_some_iff.mp e2).2, List.drop_of_length_le (by omega)]
      rw [e'] at h
      have : z = r := by
        have h : z :: (wm (p :: t)).dropLast = r :: l := h
        exact (List.cons.inj h).1
      rw [← this]
      exact hz
  | cons k t =>
    rw [hps] at h
    have h : wm (beg c k) = r :: l := h
    have hk : k ∈ ps c := by rw [hps]; simp
    have hkl : k < c.length := ps_lt hk
    have hx : c[k]? = some c[k] := List.getElem?_eq_getElem hkl
    have hon := ps_on hk
    rw [getD_of hx] at hon
    obtain ⟨u, hu⟩ := beg_head hx
    rw [hu] at h
    obtain ⟨v, hv⟩ := wp_head c[k] u c[k]
    have h : wp (c[k] :: u) c[k] = r :: l := h
    rw [hv] at h
    rw [← (List.cons.inj h).1]
    exact hon
end Fl

set_option Elab.async false
set_option linter.all false
set_option maxRecDepth 100000
set_option maxHeartbeats 4000000
/-! the line of a contour, in a closed form; it goes around with the contour -/
namespace Fl
open PySem PySem.Spec PyProof.Rows L2

def Rot {α : Type} (a b : List α) : Prop := ∃ u v, a = u ++ v ∧ b = v ++ u
theorem Rot.refl {α : Type} (a : List α) : Rot a a := ⟨a, [], by simp, by simp⟩
theorem Rot.symm {α : Type} {a b : List α} (h : Rot a b) : Rot b a := by
  obtain ⟨u, v, rfl, rfl⟩ := h
  exact ⟨v, u, rfl, rfl⟩
theorem Rot.trans {α : Type} {a b c : List α} (h : Rot a b) (k : Rot b c) : Rot a c := by
  obtain ⟨u, v, rfl, hb⟩ := h
  obtain ⟨u', v', rfl, rfl⟩ := k
  rcases List.append_eq_append_iff.mp hb with ⟨w, h1, h2⟩ | ⟨w, h1, h2⟩
  · -- v = u' ++ w, v' = w ++ u
    subst h1 h2
    exact ⟨u ++ u', w, by simp, by simp⟩
  · subst h1 h2
    exact ⟨w, v' ++ v, by simp, by simp⟩
theorem Rot.beg {α : Type} (a : List α) (k : Nat) : Rot a (Fl.beg a k) := ⟨a.take k, a.drop k, (List.take_append_drop k a).symm, rfl⟩
theorem Rot.len {α : Type} {a b : List α} (h : Rot a b) : a.length = b.length := by
  obtain ⟨u, v, rfl, rfl⟩ := h
  simp [Nat.add_comm]
/-- a turn by less than the whole length -/
theorem Rot.ex {α : Type} {a b : List α} (h : Rot a b) (n : a ≠ []) : ∃ k, k < a.length ∧ Fl.beg a k = b := by
  obtain ⟨u, v, rfl, rfl⟩ := h
  cases v with
  | nil =>
    refine ⟨0, ?_, ?_⟩
    · cases u with
      | nil => exact absurd rfl n
      | cons x u => simp
    · unfold Fl.beg
      simp
  | cons x v =>
    refine ⟨u.length, by simp, ?_⟩
    unfold Fl.beg
    simp

/-! middle points go around -/
theorem wp_app : ∀ (u : List Pt) (p : Pt) (v : List Pt) (nx : Pt), wp (u ++ p :: v) nx = wp u p ++ wp (p :: v) nx
  | [], _, _, _ => rfl
  | [x], p, v, nx => rfl
  | x :: y :: u, p, v, nx => by
    show w1 x y ++ wp (y :: u ++ p :: v) nx = (w1 x y ++ wp (y :: u) p) ++ wp (p :: v) nx
    rw [wp_app (y :: u) p v nx, List.append_assoc]
theorem wm_rot {a b : List Pt} (h : Rot a b) : Rot (wm a) (wm b) := by
  obtain ⟨u, v, rfl, rfl⟩ := h
  cases u with
  | nil => simpa using Rot.refl _
  | cons x u =>
    cases v with
    | nil => simpa using Rot.refl _
    | cons y v =>
      have e1 : wm (x :: u ++ y :: v) = wp (x :: u) y ++ wp (y :: v) x := wp_app (x :: u) y v x
      have e2 : wm (y :: v ++ x :: u) = wp (y :: v) x ++ wp (x :: u) y := wp_app (y :: v) x u y
      exact ⟨_, _, e1, e2⟩
theorem ro_rot (c : List Pt) : Rot (wm c) (ro c) := by
  unfold ro
  cases ps c with
  | nil =>
    refine ⟨(wm c).dropLast, (wm c).drop ((wm c).length - 1), ?_, rfl⟩
    rw [List.dropLast_eq_take, List.take_append_drop]
  | cons k l => exact wm_rot (Rot.beg c k)

/-! no two neighbours are off, around -/
def Nc : List Pt → Pt → Prop
  | [], _ => True
  | [p], nx => p.2.2 = true ∨ nx.2.2 = true
  | p :: q :: l, nx => (p.2.2 = true ∨ q.2.2 = true) ∧ Nc (q :: l) nx
theorem Nc.app : ∀ (u : List Pt) (p : Pt) (v : List Pt) (nx : Pt), Nc (u ++ p :: v) nx ↔ Nc u p ∧ Nc (p :: v) nx
  | [], _, _, _ => by simp [Nc]
  | [x], p, v, nx => by
    show (x.2.2 = true ∨ p.2.2 = true) ∧ Nc (p :: v) nx ↔ _
    rfl
  | x :: y :: u, p, v, nx => by
    show (x.2.2 = true ∨ y.2.2 = true) ∧ Nc (y :: u ++ p :: v) nx ↔ ((x.2.2 = true ∨ y.2.2 = true) ∧ Nc (y :: u) p) ∧ Nc (p :: v) nx
    rw [Nc.app (y :: u) p v nx, and_assoc]
theorem Nc.na : ∀ (l : List Pt) (nx : Pt), Nc l nx → Na (l ++ [nx])
  | [], _, _ => trivial
  | [p], nx, h => ⟨h, trivial⟩
  | p :: q :: l, nx, h => ⟨h.1, Nc.na (q :: l) nx h.2⟩
theorem w1_nc (p q : Pt) : Nc (w1 p q) q := by
  unfold w1
  by_cases hp : p.2.2 = true
  · rw [if_pos hp]; exact .inl hp
  · rw [if_neg hp]
    by_cases hq : q.2.2 = true
    · rw [if_pos hq]; exact .inr hq
    · rw [if_neg hq]
      exact ⟨.inr rfl, .inl rfl⟩
theorem wp_nc : ∀ (l : List Pt) (nx : Pt), Nc (wp l nx) nx
  | [], _ => trivial
  | [p], nx => w1_nc p nx
  | p :: q :: l, nx => by
    obtain ⟨t, e⟩ := wp_head q l nx
    have ih := wp_nc (q :: l) nx
    show Nc (w1 p q ++ wp (q :: l) nx) nx
    rw [e] at ih ⊢
    exact (Nc.app _ _ _ _).mpr ⟨w1_nc p q, ih⟩
/-- around -/
def Nr : List Pt → Prop
  | [] => True
  | p :: l => Nc (p :: l) p
theorem Nr.rot {a b : List Pt} (h : Rot a b) (k : Nr a) : Nr b := by
  obtain ⟨u, v, rfl, rfl⟩ := h
  cases u with
  | nil => simpa using k
  | cons x u =>
    cases v with
    | nil => simpa using k
    | cons y v =>
      have k : Nc (x :: u ++ y :: v) x := k
      show Nc (y :: v ++ x :: u) y
      rw [Nc.app] at k ⊢
      exact ⟨k.2, k.1⟩
theorem wm_nr (c : List Pt) : Nr (wm c) := by
  cases c with
  | nil => trivial
  | cons p l =>
    obtain ⟨t, e⟩ := wp_head p l p
    have h := wp_nc (p :: l) p
    show Nr (wp (p :: l) p)
    rw [e] at h ⊢
    exact h
theorem ro_nr (c : List Pt) : Nr (ro c) := (wm_nr c).rot (ro_rot c)

/-! the line, around -/
def er (l : List Pt) : List Pr := match l with
  | [] => []
  | p :: t => ep ((p :: t).getLast (by simp)) (p :: t) p
theorem ep_app : ∀ (u : List Pt) (pv p : Pt) (v : List Pt) (nx x : Pt), ep pv (x :: u ++ p :: v) nx = ep pv (x :: u) p ++ ep ((x :: u).getLast (by simp)) (p :: v) nx
  | [], _, _, _, _, _ => rfl
  | y :: u, pv, p, v, nx, x => by
    have ih := ep_app u x p v nx y
    show e1 pv x y ++ ep x (y :: u ++ p :: v) nx = (e1 pv x y ++ ep x (y :: u) p) ++ ep ((x :: y :: u).getLast (by simp)) (p :: v) nx
    rw [ih, List.append_assoc]
    rfl
theorem er_rot {a b : List Pt} (h : Rot a b) : Rot (er a) (er b) := by
  obtain ⟨u, v, rfl, rfl⟩ := h
  cases u with
  | nil => simpa using Rot.refl _
  | cons x u =>
    cases v with
    | nil => simpa using Rot.refl _
    | cons y v =>
      have g1 : (x :: u ++ y :: v).getLast (by simp) = (y :: v).getLast (by simp) := List.getLast_append_of_ne_nil (by simp) (by simp)
      have g2 : (y :: v ++ x :: u).getLast (by simp) = (x :: u).getLast (by simp) := List.getLast_append_of_ne_nil (by simp) (by simp)
      refine ⟨ep ((y :: v).getLast (by simp)) (x :: u) y, ep ((x :: u).getLast (by simp)) (y :: v) x, ?_, ?_⟩
      · show ep ((x :: u ++ y :: v).getLast (by simp)) (x :: u ++ y :: v) x = _
        rw [g1, ep_app]
      · show ep ((y :: v ++ x :: u).getLast (by simp)) (y :: v ++ x :: u) y = _
        rw [g2, ep_app]
theorem lnOf_er (c : List Pt) : lnOf c = er (ro c) := by
  unfold lnOf
  have hn := ro_nr c
  cases hro : ro c with
  | nil => rfl
  | cons r l =>
    have hr := ro_on hro
    rw [hro] at hn
    have hna : Na (r :: l ++ [r]) := Nc.na _ _ hn
    have h1 := tele r hr l ((r :: l).getLast (by simp)) r hna
    rw [if_pos hr] at h1
    have h2 : (List.range (r :: l).length).flatMap (st p0 (r :: l ++ [r])) = sp' p0 (r :: l ++ [r]) := by
      have := st_sp (l ++ [r]) p0 r
      rw [List.length_append] at this
      exact this
    have h3 : sp' p0 (r :: l ++ [r]) = sp' ((r :: l).getLast (by simp)) (r :: l ++ [r]) := by
      cases l with
      | nil =>
        show s1 _ r r ++ [] = s1 _ r r ++ []
        unfold s1
        simp [hr]
      | cons q l =>
        show s1 _ r q ++ _ = s1 _ r q ++ _
        unfold s1
        simp [hr]
    show (pr r :: (List.range (r :: l).length).flatMap (st p0 (r :: l ++ [r]))).dropLast = ep ((r :: l).getLast (by simp)) (r :: l) r
    rw [h2, h3]
    have h4 : pr r :: sp' ((r :: l).getLast (by simp)) (r :: l ++ [r]) = ep ((r :: l).getLast (by simp)) (r :: l) r ++ [pr r] := h1
    rw [h4, List.dropLast_concat]
theorem lnOf_rot {a b : List Pt} (h : Rot a b) : Rot (lnOf a) (lnOf b) := by
  rw [lnOf_er, lnOf_er]
  exact er_rot ((ro_rot a).symm.trans ((wm_rot h).trans (ro_rot b)))
theorem lnOf_ne {c : List Pt} (h : c ≠ []) : lnOf c ≠ [] := by
  rw [lnOf_er]
  have hl := ro_len c
  cases hro : ro c with
  | nil =>
    rw [hro] at hl
    exact absurd (List.eq_nil_of_length_eq_zero (by simpa using hl.2)) h
  | cons r l =>
    have hr := ro_on hro
    show ep _ (r :: l) r ≠ []
    cases l with
    | nil =>
      show e1 _ r r ≠ []
      unfold e1
      rw [if_pos hr]
      simp
    | cons q l =>
      show e1 _ r q ++ _ ≠ []
      unfold e1
      rw [if_pos hr]
      simp
end Fl
namespace Fl
open PySem PySem.Spec PyProof.Rows L2
theorem canLay_all (P : PyData → Prop) (h : ∀ d, P d → d.canLay0 = true) : ∀ ds : List PyData, (∀ d, d ∈ ds → P d) → PyData.canLayAll0 ds = true
  | [], _ => by simp [PyData.canLayAll0]
  | d :: ds, k => by
    simp [PyData.canLayAll0, h d (k d (by simp)), canLay_all P h ds (fun e m => k e (List.mem_cons_of_mem _ m))]
theorem depth_all (n : Nat) : ∀ ds : List PyData, (∀ d, d ∈ ds → d.depth ≤ n) → PyData.depthAll ds ≤ n
  | [], _ => by simp [PyData.depthAll]
  | d :: ds, k => by
    have h1 := k d (by simp)
    have h2 := depth_all n ds (fun e m => k e (List.mem_cons_of_mem _ m))
    simp only [PyData.depthAll]
    omega
theorem sh_list {ds : List PyData} {n : Nat} (h : ∀ d, d ∈ ds → d.canLay0 = true ∧ d.depth ≤ n) (hn : n < 64) : SeqAt.shaped (.list ds) = true := by
  unfold SeqAt.shaped
  have h1 := canLay_all (fun d => d.canLay0 = true) (fun _ h => h) ds (fun d m => (h d m).1)
  have h2 := depth_all n ds (fun d m => (h d m).2)
  have h3 : (PyData.list ds).depth = PyData.depthAll ds + 1 := by simp [PyData.depth]
  have h4 : (PyData.list ds).canLay0 = true := by simp [PyData.canLay0, h1]
  rw [h4, Bool.true_and, decide_eq_true_eq, h3]
  omega
theorem pr_lay (p : Pr) : (prD p).canLay0 = true ∧ (prD p).depth ≤ 1 := by
  unfold prD
  simp [PyData.canLay0, PyData.canLayAll0, PyData.depth, PyData.depthAll]
theorem sh_ln (l : List Pr) : SeqAt.shaped (lnD l) = true := sh_list (n := 1) (fun d m => by
  obtain ⟨p, _, rfl⟩ := List.mem_map.mp m
  exact pr_lay p) (by decide)
theorem eqv_self {d : PyData} (h : SeqAt.shaped d = true) : PyData.eqv d d = true := SeqAt.eqv_refl d (SeqAt.canLay_of_shaped h)
theorem g_eqD {K : PySem.W.Frag} {S T : List Addr} {H : Hp} {x y : V} {d e : PyData} {Q : VK} (h1 : Dq S H x d) (h2 : Dq T H y e) (s1 : SeqAt.shaped d = true) (s2 : SeqAt.shaped e = true) (q : Q (.bl (PyData.eqv d e)) H) : rEqD K x y H Q :=
  ⟨d, e, h1.dp (nodict_sh s1), h2.dp (nodict_sh s2), s1, s2, q⟩
theorem g_neD' {K : PySem.W.Frag} {S T : List Addr} {H : Hp} {x y : V} {d e : PyData} {Q : VK} (h1 : Dq S H x d) (h2 : Dq T H y e) (s1 : SeqAt.shaped d = true) (s2 : SeqAt.shaped e = true) (q : Q (.bl (!PyData.eqv d e)) H) : rNeD K x y H Q :=
  ⟨d, e, h1.dp (nodict_sh s1), h2.dp (nodict_sh s2), s1, s2, q⟩
end Fl
namespace Fl
open PySem PySem.Spec PyProof.Rows L2
theorem e1_len (a p b : Pt) : (e1 a p b).length ≤ 7 := by
  unfold e1
  split
  · simp
  · simp [cv7]
theorem ep_len : ∀ (l : List Pt) (pv nx : Pt), (ep pv l nx).length ≤ 7 * l.length
  | [], _, _ => Nat.le_refl _
  | [p], pv, nx => e1_len pv p nx
  | p :: q :: l, pv, nx => by
    have ih := ep_len (q :: l) p nx
    have h := e1_len pv p q
    show (e1 pv p q ++ ep p (q :: l) nx).length ≤ _
    rw [List.length_append]
    simp only [List.length_cons] at *
    omega
theorem lnOf_len (c : List Pt) : (lnOf c).length ≤ 14 * c.length := by
  rw [lnOf_er]
  have h := (ro_len c).1
  unfold er
  cases hro : ro c with
  | nil => simp
  | cons r l =>
    rw [hro] at h
    have := ep_len (r :: l) ((r :: l).getLast (by simp)) r
    show (ep ((r :: l).getLast (by simp)) (r :: l) r).length ≤ _
    omega
end Fl

set_option Elab.async false
set_option linter.all false
set_option maxRecDepth 100000
set_option maxHeartbeats 4000000
/-! flattened lists; least and greatest numbers; the same data twice -/
namespace Fl
open PySem PySem.Spec PyProof.Rows L2
section
variable {K : PySem.W.Frag} {S : List Addr} {H1 : Hp} {Q : VK}
def lc2K (J : It) (g : TG) (tt : TT) (wi1 : TI) (g1 : TG) (tt1 : TT) (te : TE) (vs vs1 : List Nat) (σ : L2.St) (H1 : Hp) (Q : VK) : Prop :=
  ∀ B, H1 B = none → ∃ W : Nat → Nat → Hp → Prop, (∃ m, W 0 m (upd H1 B (.lst []))) ∧ ∀ i m H, W i m H →
    (J.stop i H ∧ Q (.ref B) H) ∨ (J.go i H ∧ ∃ Nx : Hp → Prop, (∀ H', Nx H' → ∃ m', m' < m ∧ W (i + 1) m' H') ∧
      ∀ x H', J.yld i H x H' → g x (wipe σ vs) H' fun σ2 H2 => wipe σ2 vs = wipe σ vs ∧ tt σ2 H2 fun b H3 =>
        if b = true then wi1 σ2 H3 fun J1 H4 => ∃ W1 : Nat → Nat → Hp → Prop, (∃ m, W1 0 m H4) ∧ ∀ j k H, W1 j k H →
          (J1.stop j H ∧ Nx H) ∨ (J1.go j H ∧ ∃ Nx1 : Hp → Prop, (∀ H', Nx1 H' → ∃ k', k' < k ∧ W1 (j + 1) k' H') ∧
            ∀ x H', J1.yld j H x H' → g1 x (wipe σ2 vs1) H' fun σ3 H5 => wipe σ3 vs1 = wipe σ2 vs1 ∧ tt1 σ3 H5 fun b H6 =>
              if b = true then te σ3 H6 fun y H7 => ∃ acc, H7 B = some (.lst acc) ∧ acc.length < sizeLine ∧ Nx1 (upd H7 B (.lst (acc ++ [y]))) else Nx1 H6)
        else Nx H3)
theorem g_lc2 {wi : TI} {g : TG} {tt : TT} {wi1 : TI} {g1 : TG} {tt1 : TT} {te : TE} {vs vs1 : List Nat} {σ : L2.St} {H : Hp} (h : wi σ H fun J H1 => lc2K J g tt wi1 g1 tt1 te vs vs1 σ H1 Q) : tLc2 wi g tt wi1 g1 tt1 te vs vs1 σ H Q := h
theorem g_yesI {A B : Hp → Prop} {σ : L2.St} {H : Hp} (h : A H) : tYes σ H (fun b H3 => if b = true then A H3 else B H3) := h
structure FlatAt (S : List Addr) (H1 : Hp) (D : Addr) (ds : List PyData) (H : Hp) : Prop where
  ex : ∃ acc, H D = some (.lst acc) ∧ DqA (D :: S) H acc ds
  fr : Fr [D] H1 H
/-- [y for x in xs for y in x] -/
theorem lcLL {a : Addr} {es : List (List PyData)} {vs vs1 : List Nat} {σ : L2.St} {i0 j0 : Nat} (hS : Al S H1) (ha : Dq S H1 (.ref a) (.list (es.map PyData.list))) (hz : es.flatten.length < 1000)
    (hw : ∀ x, wipe ((wipe σ vs).set i0 (some x)) vs = wipe σ vs) (hw1 : ∀ x y, wipe ((wipe ((wipe σ vs).set i0 (some x)) vs1).set j0 (some y)) vs1 = wipe ((wipe σ vs).set i0 (some x)) vs1)
    (hi0 : ∀ x, ((wipe σ vs).set i0 (some x))[i0]? = some (some x)) (hj0 : ∀ x y, ((wipe ((wipe σ vs).set i0 (some x)) vs1).set j0 (some y))[j0]? = some (some y))
    (q : ∀ (D : Addr) (H : Hp), Same H1 H → H1 D = none → Dq S H (.ref D) (.list es.flatten) → Q (.ref D) H) :
    lc2K (Itl K a) (gName i0) tYes (iList K (tVar i0)) (gName j0) tYes (tVar j0) vs vs1 σ H1 Q := by
  intro D hD
  obtain ⟨a', xs, ea, na, hxs, hall⟩ := ha.lstE
  cases ea
  have hlx := hall.len
  rw [List.length_map] at hlx
  have hDa : a ≠ D := fun e => by rw [e, hD] at hxs; cases hxs
  have hDS : D ∉ S := hS.ni hD
  refine ⟨fun i m H => m = xs.length - i ∧ i ≤ xs.length ∧ FlatAt S H1 D (es.take i).flatten H, ⟨_, rfl, Nat.zero_le _, ⟨⟨[], upd_same, .nil⟩, Fr.same (Fl.Same.new hD)⟩⟩, ?_⟩
  rintro i m H ⟨rfl, hle, F⟩
  have hsm : Same H1 H := sm_of hD F.fr
  have qa : SqL K H a xs := SqL.of (F.fr a _ (by simpa using hDa) hxs)
  by_cases hlt : i < xs.length
  · refine .inr ⟨⟨xs, xs[i], qa, by simp [hlt]⟩, FlatAt S H1 D (es.take (i + 1)).flatten, fun H' p => ⟨xs.length - (i + 1), by omega, rfl, hlt, p⟩, fun x H' y => ?_⟩
    obtain ⟨e, y⟩ := y
    subst e
    have hx := y xs qa
    refine g_name ⟨hw x, g_yesI ?_⟩
    obtain ⟨e, he, dx⟩ := ((hall.new hD).same hsm).getM hx
    obtain ⟨b, zs, rfl, nb, hb, hB⟩ := dx.lstE
    have hDb : b ≠ D := fun e => nb (by rw [e]; simp)
    have hlz := hB.len
    have hflat : (es.take (i + 1)).flatten = (es.take i).flatten ++ e := by
      rw [List.take_succ, he, List.flatten_append]
      simp
    have hsub : (es.take (i + 1)).flatten.length ≤ es.flatten.length := by
      conv => rhs; rw [← List.take_append_drop (i + 1) es, List.flatten_append, List.length_append]
      omega
    refine g_il (g_var (hi0 _) (g_el (SqL.of hb) ?_))
    refine ⟨fun j k H => k = zs.length - j ∧ j ≤ zs.length ∧ FlatAt S H1 D ((es.take i).flatten ++ e.take j) H ∧ Fr [D] H' H, ⟨_, rfl, Nat.zero_le _, by simpa using F, Fr.refl⟩, ?_⟩
    rintro j k H2 ⟨rfl, hj, F2, f2⟩
    have qb : SqL K H2 b zs := SqL.of (f2 b _ (by simpa using hDb) hb)
    by_cases hjl : j < zs.length
    · refine .inr ⟨⟨zs, zs[j], qb, by simp [hjl]⟩, fun H => FlatAt S H1 D ((es.take i).flatten ++ e.take (j + 1)) H ∧ Fr [D] H' H, fun H3 p => ⟨zs.length - (j + 1), by omega, rfl, hjl, p⟩, fun x2 H3 y2 => ?_⟩
      obtain ⟨e2, y2⟩ := y2
      subst e2
      have hx2 := y2 zs qb
      refine g_name ⟨hw1 _ x2, g_yesI (g_var (hj0 _ x2) ?_)⟩
      obtain ⟨⟨acc, hacc, hA⟩, hf⟩ := F2
      have hfS : Fr (D :: S) H' H3 := f2.mono fun b m => by simpa using Or.inl (show b = D by simpa using m)
      obtain ⟨e', he', dx2⟩ := (hB.fr hfS).get hx2
      have hal := hA.len
      have hlen : ((es.take i).flatten ++ e.take j).length < 1000 := by
        rw [hflat] at hsub
        rw [List.length_append] at hsub ⊢
        rw [List.length_take]
        omega
      refine ⟨acc, hacc, ?_, ⟨⟨acc ++ [x2], upd_same, ?_⟩, hf.trans (Fr.upd (by simp))⟩, f2.trans (Fr.upd (by simp))⟩
      · have : (1000 : Nat) ≤ sizeLine := by decide
        omega
      · rw [List.take_succ, he', ← List.append_assoc]
        exact (hA.app (.one dx2)).fr (Fr.upd (by simp))
    · have ej : j = zs.length := by omega
      subst ej
      refine .inl ⟨⟨zs, qb, Nat.le_refl _⟩, ?_⟩
      rw [hflat]
      rw [List.take_of_length_le (l := e) (i := zs.length) (by omega)] at F2
      exact F2
  · have e : i = xs.length := by omega
    subst e
    refine .inl ⟨⟨xs, qa, Nat.le_refl _⟩, ?_⟩
    rw [List.take_of_length_le (by omega)] at F
    obtain ⟨⟨acc, hacc, hA⟩, hf⟩ := F
    exact q D _ hsm hD (.lst hDS hacc hA.tail)
end

/-! the least and the greatest -/
def IsMin (m : Int) (l : List Int) : Prop := m ∈ l ∧ ∀ y, y ∈ l → m ≤ y
def IsMax (m : Int) (l : List Int) : Prop := m ∈ l ∧ ∀ y, y ∈ l → y ≤ m
theorem ex_min : ∀ l : List Int, l ≠ [] → ∃ m, IsMin m l
  | [], h => absurd rfl h
  | [x], _ => ⟨x, by simp, fun y m => by rw [show y = x by simpa using m]; exact Int.le_refl _⟩
  | x :: z :: l, _ => by
    obtain ⟨m, h1, h2⟩ := ex_min (z :: l) (by simp)
    rcases Int.le_total x m with h | h
    · refine ⟨x, by simp, fun y my => ?_⟩
      rcases List.mem_cons.mp my with rfl | my
      · exact Int.le_refl _
      · exact Int.le_trans h (h2 y my)
    · refine ⟨m, List.mem_cons_of_mem _ h1, fun y my => ?_⟩
      rcases List.mem_cons.mp my with rfl | my
      · exact h
      · exact h2 y my
theorem ex_max : ∀ l : List Int, l ≠ [] → ∃ m, IsMax m l
  | [], h => absurd rfl h
  | [x], _ => ⟨x, by simp, fun y m => by rw [show y = x by simpa using m]; exact Int.le_refl _⟩
  | x :: z :: l, _ => by
    obtain ⟨m, h1, h2⟩ := ex_max (z :: l) (by simp)
    rcases Int.le_total x m with h | h
    · refine ⟨m, List.mem_cons_of_mem _ h1, fun y my => ?_⟩
      rcases List.mem_cons.mp my with rfl | my
      · exact h
      · exact h2 y my
    · refine ⟨x, by simp, fun y my => ?_⟩
      rcases List.mem_cons.mp my with rfl | my
      · exact Int.le_refl _
      · exact Int.le_trans (h2 y my) h
theorem IsMin.eq {m n : Int} {l : List Int} (h : IsMin m l) (k : IsMin n l) : m = n := Int.le_antisymm (h.2 n k.1) (k.2 m h.1)
theorem IsMax.eq {m n : Int} {l : List Int} (h : IsMax m l) (k : IsMax n l) : m = n := Int.le_antisymm (k.2 m h.1) (h.2 n k.1)
theorem ints_of {S : List Addr} {H : Hp} : ∀ {xs : List V} {ns : List Int}, DqA S H xs (ns.map PyData.int) → xs = ns.map V.int
  | _, [], h => h.nilE
  | _, n :: ns, h => by
    obtain ⟨v, ws, rfl, hv, hw⟩ := h.consE
    rw [hv.intE, ints_of hw]
    rfl
def rMinL (K : PySem.W.Frag) : List V → Hp → VK → Prop := fun vs H Q => ∃ (a : Addr) (ns : List Int), vs = [V.ref a] ∧ SqL K H a (ns.map V.int) ∧ ∃ m, IsMin m ns ∧ Q (.int m) H
def rMaxL (K : PySem.W.Frag) : List V → Hp → VK → Prop := fun vs H Q => ∃ (a : Addr) (ns : List Int), vs = [V.ref a] ∧ SqL K H a (ns.map V.int) ∧ ∃ m, IsMax m ns ∧ Q (.int m) H
section
variable {X : Cx} {K : PySem.W.Frag}
theorem clMin (e : X.K = K) (hc : X.calm = true) : CallR X (.builtin "min") (Fl.rMinL K) := by
  subst e
  intro pins s σ H xs us Q I r h
  obtain ⟨a, ns, rfl, hs, m, hm, q⟩ := h
  exact cr_min hc pins s σ H _ us Q I r ⟨a, ns, rfl, hs, List.length_pos_of_mem hm.1, fun m' h1 h2 => by rw [IsMin.eq ⟨h1, h2⟩ hm]; exact q⟩
theorem clMax (e : X.K = K) (hc : X.calm = true) : CallR X (.builtin "max") (Fl.rMaxL K) := by
  subst e
  intro pins s σ H xs us Q I r h
  obtain ⟨a, ns, rfl, hs, m, hm, q⟩ := h
  exact cr_max hc pins s σ H _ us Q I r ⟨a, ns, rfl, hs, List.length_pos_of_mem hm.1, fun m' h1 h2 => by rw [IsMax.eq ⟨h1, h2⟩ hm]; exact q⟩
theorem clSum (e : X.K = K) (hc : X.calm = true) : CallR X (.builtin "sum") (rSum K) := by subst e; exact cr_sum hc
theorem g_minL {a : Addr} {ns : List Int} {m : Int} {H : Hp} {Q : VK} (h : SqL K H a (ns.map V.int)) (hm : IsMin m ns) (q : Q (.int m) H) : Fl.rMinL K [.ref a] H Q := ⟨a, ns, rfl, h, m, hm, q⟩
theorem g_maxL {a : Addr} {ns : List Int} {m : Int} {H : Hp} {Q : VK} (h : SqL K H a (ns.map V.int)) (hm : IsMax m ns) (q : Q (.int m) H) : Fl.rMaxL K [.ref a] H Q := ⟨a, ns, rfl, h, m, hm, q⟩
theorem g_sum {a : Addr} {ns : List Int} {H : Hp} {Q : VK} (h : SqL K H a (ns.map V.int)) (q : Q (.int ns.sum) H) : rSum K [.ref a] H Q := ⟨a, ns, rfl, h, q⟩
end

/-! promises -/
def xsOf (o : List (List Pt)) : List Int := o.flatten.map fun p => p.1
def ysOf (o : List (List Pt)) : List Int := o.flatten.map fun p => p.2.1
def fBox (ds : List PyData) (d : PyData) : Prop := ∃ o : List (List Pt), ds = [ouD o] ∧ o.flatten.length < 900 ∧
  ((o.flatten = [] ∧ d = .none) ∨ ∃ x1 y1 x2 y2 : Int, IsMin x1 (xsOf o) ∧ IsMin y1 (ysOf o) ∧ IsMax x2 (xsOf o) ∧ IsMax y2 (ysOf o) ∧ d = .tuple [.int x1, .int y1, .int x2, .int y2])
def mv (x y : Int) (p : Pt) : Pt := (p.1 + x, p.2.1 + y, p.2.2)
def fMv (ds : List PyData) (d : PyData) : Prop := ∃ (o : List (List Pt)) (x y : Int), ds = [ouD o, .int x, .int y] ∧ o.length ≤ 100 ∧ (∀ c, c ∈ o → c.length ≤ 900) ∧ d = ouD (o.map fun c => c.map (mv x y))
/-- flat data -/
def FlD : PyData → Prop
  | .int _ | .bool _ | .none => True
  | _ => False
def TfD (d : PyData) : Prop := ∃ es, d = .tuple es ∧ es.length ≤ 10 ∧ ∀ e, e ∈ es → FlD e
/-- same(x, y), x and y the same flat data -/
def spSm1 : Sp := fun vs H Q _ => ∃ (S T : List Addr) (d : PyData) (x y : V), vs = [x, y] ∧ FlD d ∧ Dq S H x d ∧ Dq T H y d ∧ Q (.bl true) H
def spSm2 : Sp := fun vs H Q _ => ∃ (S T : List Addr) (d : PyData) (x y : V), vs = [x, y] ∧ TfD d ∧ Dq S H x d ∧ Dq T H y d ∧ Q (.bl true) H
def spSml : Sp := fun vs H Q _ => ∃ (S T : List Addr) (ds : List PyData) (x y : V), vs = [x, y] ∧ ds.length ≤ 900 ∧ (∀ d, d ∈ ds → TfD d) ∧ Dq S H x (.list ds) ∧ Dq T H y (.list ds) ∧ Q (.bl true) H
def spSmr : Sp := fun vs H Q _ => ∃ (S T : List Addr) (dss : List (List PyData)) (x y : V), vs = [x, y] ∧ Al S H ∧ dss.length ≤ 900 ∧ (∀ ds, ds ∈ dss → ds.length ≤ 900 ∧ ∀ d, d ∈ ds → TfD d) ∧ Dq S H x (.list (dss.map PyData.list)) ∧ Dq T H y (.list (dss.map PyData.list)) ∧ ∀ H', Same H H' → Q (.bl true) H'
theorem tf_pt (p : Pt) : TfD (ptD p) := ⟨_, rfl, by simp, fun e m => by
  simp only [List.mem_cons, List.not_mem_nil, or_false] at m
  rcases m with rfl | rfl | rfl <;> trivial⟩
theorem tf_pr (p : Pr) : TfD (prD p) := ⟨_, rfl, by simp, fun e m => by
  simp only [List.mem_cons, List.not_mem_nil, or_false] at m
  rcases m with rfl | rfl <;> trivial⟩
theorem trues_of {S : List Addr} {H : Hp} : ∀ (l : List Nat) (zs : List V), DqA S H zs (l.filterMap fun _ => some (PyData.bool true)) → zs.all flatV = true ∧ inV (.bl false) zs = false
  | [], zs, h => by
    rw [h.nilE]
    exact ⟨rfl, rfl⟩
  | _ :: l, zs, h => by
    obtain ⟨v, ws, rfl, hv, hw⟩ := h.consE
    obtain ⟨h1, h2⟩ := trues_of l ws hw
    rw [hv.blE]
    exact ⟨by rw [List.all_cons, h1]; rfl, by
      show (eqV (.bl true) (.bl false) || inV (.bl false) ws) = false
      rw [h2]
      rfl⟩
end Fl

set_option Elab.async false
set_option linter.all false
set_option maxRecDepth 100000
set_option maxHeartbeats 4000000
/-! lines: where they lie, where they begin, how they move -/
namespace Fl
open PySem PySem.Spec PyProof.Rows L2
theorem e1_in {P : Pt → Prop} {R : Pr → Prop} (h1 : ∀ p, P p → R (pr p)) (h2 : ∀ a p b n, n < 7 → P a → P p → P b → R (cp a p b n)) {a p b : Pt} (ha : P a) (hp : P p) (hb : P b) {x : Pr} (m : x ∈ e1 a p b) : R x := by
  unfold e1 at m
  split at m
  · rw [show x = pr p by simpa using m]
    exact h1 p hp
  · unfold cv7 at m
    obtain ⟨n, hn, rfl⟩ := List.mem_map.mp m
    exact h2 a p b n (List.mem_range.mp hn) ha hp hb
theorem ep_in {P : Pt → Prop} {R : Pr → Prop} (h1 : ∀ p, P p → R (pr p)) (h2 : ∀ a p b n, n < 7 → P a → P p → P b → R (cp a p b n)) : ∀ (l : List Pt) (pv nx : Pt), P pv → P nx → (∀ p, p ∈ l → P p) → ∀ x, x ∈ ep pv l nx → R x
  | [], _, _, _, _, _, _, m => nomatch m
  | [p], pv, nx, hv, hn, h, x, m => e1_in h1 h2 hv (h p (by simp)) hn m
  | p :: q :: l, pv, nx, hv, hn, h, x, m => by
    rcases List.mem_append.mp (show x ∈ e1 pv p q ++ ep p (q :: l) nx from m) with m | m
    · exact e1_in h1 h2 hv (h p (by simp)) (h q (by simp)) m
    · exact ep_in h1 h2 (q :: l) p nx (h p (by simp)) hn (fun z mz => h z (List.mem_cons_of_mem _ mz)) x m
theorem lnOf_in {P : Pt → Prop} {R : Pr → Prop} (hP : InB P) (h1 : ∀ p, P p → R (pr p)) (h2 : ∀ a p b n, n < 7 → P a → P p → P b → R (cp a p b n)) {c : List Pt} (h : ∀ p, p ∈ c → P p) : ∀ x, x ∈ lnOf c → R x := by
  intro x m
  rw [lnOf_er] at m
  have hr := ro_in hP h
  cases hro : ro c with
  | nil => rw [hro] at m; cases m
  | cons r l =>
    rw [hro] at m hr
    exact ep_in h1 h2 (r :: l) _ r (hr _ (List.getLast_mem _)) (hr r (by simp)) hr x m
theorem cv_box {lo hi n a c b : Int} (h0 : 1 ≤ n) (h1 : n ≤ 7) (ha : lo ≤ a ∧ a ≤ hi) (hc : lo ≤ c ∧ c ≤ hi) (hb : lo ≤ b ∧ b ≤ hi) : lo ≤ cv n a c b ∧ cv n a c b ≤ hi := by
  unfold cv
  rcases (by omega : n = 1 ∨ n = 2 ∨ n = 3 ∨ n = 4 ∨ n = 5 ∨ n = 6 ∨ n = 7) with rfl | rfl | rfl | rfl | rfl | rfl | rfl <;> omega
theorem ln_box {x1 y1 x2 y2 : Int} {c : List Pt} (h : ∀ p, p ∈ c → (x1 ≤ p.1 ∧ p.1 ≤ x2) ∧ y1 ≤ p.2.1 ∧ p.2.1 ≤ y2) : ∀ z, z ∈ lnOf c → (x1 ≤ z.1 ∧ z.1 ≤ x2) ∧ y1 ≤ z.2 ∧ z.2 ≤ y2 := by
  refine lnOf_in (P := fun p => (x1 ≤ p.1 ∧ p.1 ≤ x2) ∧ y1 ≤ p.2.1 ∧ p.2.1 ≤ y2) (R := fun z => (x1 ≤ z.1 ∧ z.1 ≤ x2) ∧ y1 ≤ z.2 ∧ z.2 ≤ y2) ?_ (fun p hp => hp) ?_ h
  · intro p q hp hq
    refine ⟨⟨?_, ?_⟩, ?_, ?_⟩
    · show _ ≤ (p.1 + q.1) / 2; omega
    · show (p.1 + q.1) / 2 ≤ _; omega
    · show _ ≤ (p.2.1 + q.2.1) / 2; omega
    · show (p.2.1 + q.2.1) / 2 ≤ _; omega
  · intro a p b n hn ha hp hb
    exact ⟨cv_box (by omega) (by omega) ha.1 hp.1 hb.1, cv_box (by omega) (by omega) ha.2 hp.2 hb.2⟩

/-! the points that are on -/
def fon (c : List Pt) : List Pt := c.filter fun p => p.2.2
theorem range_map (c : List Pt) : (List.range c.length).map (fun i => c.getD i p0) = c := by
  apply List.ext_getElem
  · simp
  · intro i h1 h2
    rw [List.getElem_map, List.getElem_range, List.getD_eq_getElem?_getD, List.getElem?_eq_getElem h2]
    rfl
theorem fon_ps (c : List Pt) : fon c = (ps c).map fun i => c.getD i p0 := by
  have h : fon c = fon ((List.range c.length).map fun i => c.getD i p0) := by rw [range_map]
  rw [h]
  unfold fon ps
  rw [List.filter_map]
  rfl
theorem lnOf_head {c : List Pt} {f : Pt} {t : List Pt} (h : fon c = f :: t) : ∃ l, lnOf c = pr f :: l := by
  rw [fon_ps] at h
  cases hps : ps c with
  | nil => rw [hps] at h; cases h
  | cons k u =>
    rw [hps] at h
    have hk : k ∈ ps c := by rw [hps]; simp
    have hkl : k < c.length := ps_lt hk
    have hx : c[k]? = some c[k] := List.getElem?_eq_getElem hkl
    have hf : c[k] = f := by
      rw [List.map_cons] at h
      rw [← (List.cons.inj h).1, getD_of hx]
    have hon := ps_on hk
    rw [getD_of hx] at hon
    obtain ⟨v, hv⟩ := beg_head hx
    have hro : ro c = wm (beg c k) := by unfold ro; rw [hps]
    obtain ⟨z, hz⟩ := wp_head c[k] v c[k]
    rw [hv] at hro
    have hro : ro c = c[k] :: z := hro.trans hz
    rw [lnOf_er, hro, ← hf]
    show ∃ l, ep _ (c[k] :: z) c[k] = _
    cases z with
    | nil =>
      refine ⟨[], ?_⟩
      show e1 _ _ _ = _
      unfold e1
      rw [if_pos hon]
    | cons q z =>
      refine ⟨ep c[k] (q :: z) c[k], ?_⟩
      show e1 _ _ _ ++ _ = _
      unfold e1
      rw [if_pos hon]
      rfl
theorem wp_on : ∀ (l : List Pt) (nx : Pt), (∀ p, p ∈ l → p.2.2 = true) → wp l nx = l
  | [], _, _ => rfl
  | [p], nx, h => by
    show w1 p nx = _
    unfold w1
    rw [if_pos (h p (by simp))]
  | p :: q :: l, nx, h => by
    show w1 p q ++ wp (q :: l) nx = _
    rw [wp_on (q :: l) nx (fun x m => h x (List.mem_cons_of_mem _ m))]
    unfold w1
    rw [if_pos (h p (by simp))]
    rfl
theorem ep_on : ∀ (l : List Pt) (pv nx : Pt), (∀ p, p ∈ l → p.2.2 = true) → ep pv l nx = l.map pr
  | [], _, _, _ => rfl
  | [p], pv, nx, h => by
    show e1 pv p nx = _
    unfold e1
    rw [if_pos (h p (by simp))]
    rfl
  | p :: q :: l, pv, nx, h => by
    show e1 pv p q ++ ep p (q :: l) nx = _
    rw [ep_on (q :: l) p nx (fun x m => h x (List.mem_cons_of_mem _ m))]
    unfold e1
    rw [if_pos (h p (by simp))]
    rfl
theorem lnOf_on {c : List Pt} (h : ∀ p, p ∈ c → p.2.2 = true) : lnOf c = c.map pr := by
  have hr : ro c = c := by
    cases c with
    | nil => rfl
    | cons p l =>
      have h0 : ps (p :: l) = List.range (p :: l).length := by
        unfold ps
        rw [List.filter_eq_self]
        intro i hi
        have hi := List.mem_range.mp hi
        have hx : (p :: l)[i]? = some (p :: l)[i] := List.getElem?_eq_getElem hi
        show ((p :: l).getD i p0).2.2 = true
        rw [getD_of hx]
        exact h _ (List.mem_of_getElem? hx)
      unfold ro
      rw [h0, show (p :: l).length = l.length + 1 from rfl, List.range_succ_eq_map]
      show wm (beg (p :: l) 0) = p :: l
      have hb : beg (p :: l) 0 = p :: l := by unfold beg; simp
      rw [hb]
      exact wp_on (p :: l) p h
  rw [lnOf_er, hr]
  cases c with
  | nil => rfl
  | cons p l => exact ep_on (p :: l) _ p h
theorem fon_all {c : List Pt} (h : (fon c).length = c.length) : (∀ p, p ∈ c → p.2.2 = true) ∧ fon c = c := by
  have h2 : fon c = c := List.Sublist.eq_of_length (List.filter_sublist) h
  refine ⟨fun p m => ?_, h2⟩
  rw [← h2] at m
  exact (List.mem_filter.mp m).2

/-! moving -/
def mp (x y : Int) (p : Pr) : Pr := (p.1 + x, p.2 + y)
section
variable (x y : Int)
theorem w1_mv (p q : Pt) : w1 (mv x y p) (mv x y q) = (w1 p q).map (mv x y) := by
  have h : mid (mv x y p) (mv x y q) = mv x y (mid p q) := by
    refine Prod.ext ?_ (Prod.ext ?_ rfl)
    · show (p.1 + x + (q.1 + x)) / 2 = (p.1 + q.1) / 2 + x
      omega
    · show (p.2.1 + y + (q.2.1 + y)) / 2 = (p.2.1 + q.2.1) / 2 + y
      omega
  have e1 : (mv x y p).2.2 = p.2.2 := rfl
  have e2 : (mv x y q).2.2 = q.2.2 := rfl
  unfold w1
  rw [e1, e2, h]
  split
  · rfl
  · split <;> rfl
theorem wp_mv : ∀ (l : List Pt) (nx : Pt), wp (l.map (mv x y)) (mv x y nx) = (wp l nx).map (mv x y)
  | [], _ => rfl
  | [p], nx => w1_mv x y p nx
  | p :: q :: l, nx => by
    have ih := wp_mv (q :: l) nx
    show w1 (mv x y p) (mv x y q) ++ wp ((q :: l).map (mv x y)) (mv x y nx) = (w1 p q ++ wp (q :: l) nx).map (mv x y)
    rw [ih, w1_mv, List.map_append]
theorem wm_mv (c : List Pt) : wm (c.map (mv x y)) = (wm c).map (mv x y) := by
  cases c with
  | nil => rfl
  | cons p l => exact wp_mv x y (p :: l) p
theorem ps_mv (c : List Pt) : ps (c.map (mv x y)) = ps c := by
  unfold ps
  rw [List.length_map]
  apply List.filter_congr
  intro i hi
  have hi := List.mem_range.mp hi
  have hx : c[i]? = some c[i] := List.getElem?_eq_getElem hi
  have hy : (c.map (mv x y))[i]? = some (mv x y c[i]) := by rw [List.getElem?_map, hx]; rfl
  rw [getD_of hx, getD_of hy]
  rfl
theorem beg_map {α β : Type} (f : α → β) (c : List α) (k : Nat) : beg (c.map f) k = (beg c k).map f := by
  unfold beg
  rw [List.map_append, List.map_drop, List.map_take]
theorem ro_mv (c : List Pt) : ro (c.map (mv x y)) = (ro c).map (mv x y) := by
  unfold ro
  rw [ps_mv, wm_mv]
  cases ps c with
  | nil =>
    show ((wm c).map (mv x y)).drop (((wm c).map (mv x y)).length - 1) ++ ((wm c).map (mv x y)).dropLast = ((wm c).drop ((wm c).length - 1) ++ (wm c).dropLast).map (mv x y)
    rw [List.map_append, List.map_drop, List.length_map, List.map_dropLast]
  | cons k l =>
    show wm (beg (c.map (mv x y)) k) = (wm (beg c k)).map (mv x y)
    rw [beg_map, wm_mv]
theorem cv_mv {n : Int} (h0 : 1 ≤ n) (h1 : n ≤ 7) (a c b z : Int) : cv n (a + z) (c + z) (b + z) = cv n a c b + z := by
  unfold cv
  rcases (by omega : n = 1 ∨ n = 2 ∨ n = 3 ∨ n = 4 ∨ n = 5 ∨ n = 6 ∨ n = 7) with rfl | rfl | rfl | rfl | rfl | rfl | rfl <;> omega
theorem e1_mv (a p b : Pt) : e1 (mv x y a) (mv x y p) (mv x y b) = (e1 a p b).map (mp x y) := by
  have e1' : (mv x y p).2.2 = p.2.2 := rfl
  unfold e1
  rw [e1']
  split
  · rfl
  · unfold cv7
    rw [List.map_map]
    apply List.map_congr_left
    intro n hn
    have hn := List.mem_range.mp hn
    exact Prod.ext (cv_mv (by omega) (by omega) _ _ _ _) (cv_mv (by omega) (by omega) _ _ _ _)
theorem ep_mv : ∀ (l : List Pt) (pv nx : Pt), ep (mv x y pv) (l.map (mv x y)) (mv x y nx) = (ep pv l nx).map (mp x y)
  | [], _, _ => rfl
  | [p], pv, nx => e1_mv x y pv p nx
  | p :: q :: l, pv, nx => by
    have ih := ep_mv (q :: l) p nx
    show e1 (mv x y pv) (mv x y p) (mv x y q) ++ ep (mv x y p) ((q :: l).map (mv x y)) (mv x y nx) = (e1 pv p q ++ ep p (q :: l) nx).map (mp x y)
    rw [ih, e1_mv, List.map_append]
theorem lnOf_mv (c : List Pt) : lnOf (c.map (mv x y)) = (lnOf c).map (mp x y) := by
  rw [lnOf_er, lnOf_er, ro_mv]
  cases ro c with
  | nil => rfl
  | cons r l =>
    have hg : ((r :: l).map (mv x y)).getLast (by simp) = mv x y ((r :: l).getLast (by simp)) := List.getLast_map (by simp)
    show ep (((r :: l).map (mv x y)).getLast (by simp)) ((r :: l).map (mv x y)) (mv x y r) = (ep ((r :: l).getLast (by simp)) (r :: l) r).map (mp x y)
    rw [hg, ep_mv]
end
end Fl
namespace Fl
open PySem PySem.Spec PyProof.Rows L2
theorem fon_fm (c : List Pt) : (List.range c.length).filterMap (fun i => if (c.getD i p0).2.2 = true then some (prD (pr (c.getD i p0))) else none) = ((fon c).map pr).map prD := by
  rw [fm_filter (fun i => (c.getD i p0).2.2) (fun i => prD (pr (c.getD i p0))), fon_ps, List.map_map, List.map_map]
  rfl
theorem xs_one (c : List Pt) : xsOf [c] = c.map fun p => p.1 := by unfold xsOf; simp
theorem ys_one (c : List Pt) : ysOf [c] = c.map fun p => p.2.1 := by unfold ysOf; simp
/-- a box of one contour -/
theorem box_one {c : List Pt} (h : c ≠ []) : ∃ x1 y1 x2 y2 : Int, (IsMin x1 (xsOf [c]) ∧ IsMin y1 (ysOf [c]) ∧ IsMax x2 (xsOf [c]) ∧ IsMax y2 (ysOf [c])) ∧ ∀ z, z ∈ lnOf c → (x1 ≤ z.1 ∧ z.1 ≤ x2) ∧ y1 ≤ z.2 ∧ z.2 ≤ y2 := by
  obtain ⟨x1, m1⟩ := ex_min (xsOf [c]) (by rw [xs_one]; simpa using h)
  obtain ⟨y1, m2⟩ := ex_min (ysOf [c]) (by rw [ys_one]; simpa using h)
  obtain ⟨x2, m3⟩ := ex_max (xsOf [c]) (by rw [xs_one]; simpa using h)
  obtain ⟨y2, m4⟩ := ex_max (ysOf [c]) (by rw [ys_one]; simpa using h)
  refine ⟨x1, y1, x2, y2, ⟨m1, m2, m3, m4⟩, ln_box fun p hp => ?_⟩
  have a1 : p.1 ∈ xsOf [c] := by rw [xs_one]; exact List.mem_map.mpr ⟨p, hp, rfl⟩
  have a2 : p.2.1 ∈ ysOf [c] := by rw [ys_one]; exact List.mem_map.mpr ⟨p, hp, rfl⟩
  exact ⟨⟨m1.2 _ a1, m3.2 _ a1⟩, m2.2 _ a2, m4.2 _ a2⟩
theorem sh_pr (p : Pr) : SeqAt.shaped (prD p) = true := by
  have h := pr_lay p
  unfold SeqAt.shaped
  rw [h.1, Bool.true_and, decide_eq_true_eq]
  omega
theorem sh_nil : SeqAt.shaped (PyData.list []) = true := sh_list (n := 0) (fun _ m => nomatch m) (by decide)
theorem eqv_cons_nil (x : PyData) (l : List PyData) : PyData.eqv (.list (x :: l)) (.list []) = false := by simp [PyData.eqv, PyData.eqvAll]
theorem prE {S : List Addr} {H : Hp} {v : V} {p : Pr} (h : Dq S H v (prD p)) : ∃ a, v = .ref a ∧ a ∉ S ∧ H a = some (.tup [.int p.1, .int p.2]) := by
  obtain ⟨a, xs, rfl, n, q, r⟩ := h.tupE
  obtain ⟨x1, w1, rfl, h1, r⟩ := r.consE
  obtain ⟨x2, w2, rfl, h2, r⟩ := r.consE
  cases r.nilE
  cases h1.intE
  cases h2.intE
  exact ⟨a, rfl, n, q⟩
end Fl
namespace Fl
open PySem PySem.Spec PyProof.Rows L2
theorem g_andF {k : Bool} {t2 : TT} {σ : L2.St} {H : Hp} {Q : Bool → Hp → Prop} (h : Q false H) (h2 : k = true → Q false H → t2 σ H Q) : if k = true then t2 σ H Q else Q false H := by
  cases k with
  | true => rw [if_pos rfl]; exact h2 rfl h
  | false => rw [if_neg Bool.false_ne_true]; exact h
end Fl

set_option Elab.async false
set_option linter.all false
set_option maxRecDepth 100000
set_option maxHeartbeats 4000000
/-! repr of data; the law's def, called from outside (no guard stands below it) -/
namespace Fl
open PySem PySem.Spec PyProof.Rows L2

/-! ### repr -/
structure Shw (d : PyData) : Prop where
  sh : d.showable = true
  nd : d.hasDict = false
  dp : d.depth ≤ 40
  lv : d.leavesShort 13 = true
  wt : d.weight ≤ 2 ^ 20
def rRp (K : PySem.W.Frag) : List V → Hp → VK → Prop := fun xs H Q => ∃ (a : Addr) (d : PyData), xs = [.ref a] ∧ Dp K H (.ref a) d ∧ Shw d ∧ Q (.str d.shown) H
theorem clRepr {X : Cx} {K : PySem.W.Frag} (e : X.K = K) (hg : X.A.guards = some []) (hu : X.A.units + 64 < cLine) : CallR X (.builtin "repr") (rRp K) := by
  subst e
  intro pins s σ H xs us Q I r h
  obtain ⟨a, d, rfl, hd, hw, q⟩ := h
  obtain ⟨u, rfl, hu1⟩ := vals1 r
  cases hu1
  obtain ⟨as, rd⟩ := Dp.reads I d (.ref a) (.ref a) hd rfl
  have hdp := hw.dp
  refine repr_of_reads' rd hw.sh (fun z => ?_) hg (by omega) (fun b o z => z) (fun h' u tk hk => ⟨.str _, H, I.kept hk, ⟨u, rfl⟩, q⟩) (PyData.shown_fits (B := 13) (by decide) (by decide) hw.lv hw.wt)
  rw [hw.nd] at z
  cases z
theorem g_rp {K : PySem.W.Frag} {H : Hp} {Q : VK} {S : List Addr} {a : Addr} {d : PyData} (h : Dq S H (.ref a) d) (w : Shw d) (q : Q (.str d.shown) H) : rRp K [.ref a] H Q := ⟨a, d, rfl, h.dp w.nd, w, q⟩

/-! ### the law's def -/
def AtLaw (P : Program) (w : World) (K : PySem.W.Frag) (mg : Str → Option Value) (f : Addr) (fd : FuncData) (x : Str) (sp : Sp) : Prop :=
  ∀ base : Heap, K.In base → base.Ns mainGlobals mg → ∀ (s : Shared) (H : Hp) (a : Addr) (Q : VK), Env0 P w K mg base callerA [] s H → BindsTo s fd ⟨[.ref a], []⟩ [(x, .ref a)] → sp [.ref a] H Q E0 →
    codeAny (model P w) callerA (.call (.ref f) ⟨[.ref a], []⟩) (CR CX0 [] P w H s Q E0) s
theorem atLaw_of {P : Program} {w : World} {K : PySem.W.Frag} {mg : Str → Option Value} {k : Nat} {x y : Str} {st : Stmt} {N : List Str} {sp : Sp} {f : Addr} {fd : FuncData} (F : Fun K x x st f fd) (S : FnScope N [y] (defScope st)) (hr : Room (k + 1) callerA)
    (body : ∀ (base : Heap) (cdv : Value) (s : Shared) (H : Hp) (a : Addr) (Q : VK), Room k (callerA.deeper (envOfC x (defScope st) s.heap.objs.size f cdv)) → sp [.ref a] H Q E0 →
      ∃ t, PSs (bx P w K mg base N x st f cdv callerA [] s H E0) (defBody st) t ∧ t { nx := fun _ H' => Q .non H', rt := Q } (start N [.ref a]) H) : AtLaw P w K mg f fd y sp := by
  obtain ⟨_, _, kV, doc, pm, an, cdv, ct, _, rfl, atf, code⟩ := F.ex
  intro base kb nb s H a Q e0 bind hsp
  have here : ∀ {b : Addr} {o : Obj}, base.get? b = some o → s.heap.get? b = some o := fun e => (e0.bs _ _ e).1
  have Ks : K.In s.heap := e0.mod.kin.keeps fun _ _ => here
  have kinds : ∀ z ∈ [(y, Value.ref a)], (defScope st).names.lookup z.1 = some .local ∨ ((defScope st).names.lookup z.1 = some .cell ∧ ((cellsFrom (s.heap.objs.size + 1) (defScope st).names []).lookup z.1).isSome = true) := by
    intro z hz
    obtain rfl := List.mem_singleton.mp hz
    cases S.par y (List.mem_singleton.mpr rfl) with
    | inl q => exact .inl q
    | inr q => exact .inr ⟨q, PySem.W.cellsFrom_some _ _ _ (.inl q)⟩
  have vals : Vals [V.ref a] [Value.ref a] := .cons rfl .nil
  obtain ⟨t, ht, hq⟩ := body base cdv s H a Q (hr.deeper _) hsp
  exact codeAny_call_function hr.depth (Ks _ _ atf) rfl S.co S.gen rfl (PySem.W.codeRec_of Ks code) (bind _ _ _ _ (wpAny_newFunctionEnv_cells S.kind kinds (fun env he s1 z => by
    subst he
    refine ⟨(e0.mod.nolimit.keeps fun _ _ => here).keeps z.toInCall.keep, codeAny_func ?_⟩
    have I := inv_start (N := N) (E := E0) (CX := CX0) S hr.hd e0 rfl vals z
    have R := (PSs.nox (X := cxOf CX0 P w K mg base N x (defScope st) f cdv callerA [] s H E0) ht).run [] s1 (start N [.ref a]) H _ I hq
    exact wpAny_mono R (fun fl s' hs => (match fl, hs with
      | .ret u, ⟨v, σ', H', J, rv, q⟩ => ⟨v, H', J.os, J.bare, J.base, J.hok, rv, q⟩
      | .next, ⟨σ', H', J, q⟩ => ⟨.non, H', J.os, J.bare, J.base, J.hok, rfl, q⟩
      | .brk, ⟨_, _, _, q⟩ => q.elim
      | .cont, ⟨_, _, _, q⟩ => q.elim)) (fun _ _ z => z))))
/-- the goal of the end, from the law's def called from outside: nothing is tracked but the script -/
theorem atLaw_end {l : PySem.W.OpenLaw} {n : Nat} {q : Program} {loose : List Str} {XP : (Str → Option Value) → Heap → Prop} {YP : World → Heap → Prop} {d : DefRec} {K : Params → PySem.W.Frag} {sp : PySem.W.Frag → Sp} {x : Str}
    (hn : l.most = some n) (hn2 : n ≤ sizeLine) (hdf : d.params.defaults = []) (hY : ∀ (w : World) (h : Heap), YP w h → (K w.params).In h)
    (F : ∀ (w : World) (mg : Str → Option Value) (fa : Addr) (h : Heap), (K w.params).In h → h.Ns mainGlobals mg → mg d.name = some (.ref fa) →
      ∃ fd : FuncData, (∀ (s : Shared) (u : Value), BindsTo s fd ⟨[u], []⟩ [(x, u)]) ∧ AtLaw l.prog w (K w.params) mg fa fd x (sp (K w.params)))
    (hsp : ∀ (K : PySem.W.Frag) (H : Hp) (a : Addr) (ns : List Int), ns.length ≤ n → SqL K H a (ns.map V.int) → sp K [.ref a] H (fun v _ => v = .bl true) E0) :
    PySem.W.WalkO q loose XP YP l.row.toRowW d [] (fun f vs => PySem.call f vs) := by
  refine Att.attach_call hn hdf fun w s₀ s₁ mg mb fa o pm cd doc a vs ns G Y ho hd hcd hmg hobj hints hlen hg => ?_
  have Kh := hY w _ Y
  obtain ⟨fd, bind, run⟩ := F w mg fa _ Kh G.T.g hmg
  have vals := vals_ints hints
  -- the script: one of the module's own lists, or the one object that is tracked
  obtain ⟨H, only, sq, hok, none_of, own⟩ : ∃ H : Hp, Only H ∧ SqL (K w.params) H a (ns.map V.int) ∧ HOk l.prog w H s₁.heap ∧ (∀ b, b ≠ a → H b = none) ∧ (H a ≠ none → (K w.params).lookup a = none) := by
    have fits : (ns.map V.int).length ≤ sizeLine := by rw [List.length_map]; exact Nat.le_trans hlen hn2
    cases hk : (K w.params).lookup a with
    | some u =>
      cases hobj.symm.trans (Kh a u hk)
      refine ⟨fun _ => none, fun _ => .inl rfl, .inr ⟨_, vs.toArray, _, hk, rfl, rfl, rfl, ?_, by simpa using vals⟩, fun b u z => (nomatch (show (none : Option HO) = some u from z)), fun _ _ => rfl, fun z => (z rfl).elim⟩
      rw [List.size_toArray, hints.length]
      exact Nat.le_trans hlen hn2
    | none =>
      have at_a : ∀ {b : Addr}, b = a → (if b = a then some (HO.frz { cls := .type "list", data := .seq vs.toArray } (.lst (ns.map V.int))) else none) = some (HO.frz { cls := .type "list", data := .seq vs.toArray } (.lst (ns.map V.int))) := fun e => if_pos e
      refine ⟨fun b => if b = a then some (HO.frz { cls := .type "list", data := .seq vs.toArray } (.lst (ns.map V.int))) else none, fun b => ?_, .inl (.inr ⟨_, at_a rfl⟩), fun b u z => ?_, fun b e => if_neg e, fun _ => rfl⟩
      · rcases Decidable.em (b = a) with e | e
        · exact .inr ⟨_, _, at_a e⟩
        · exact .inl (if_neg e)
      · rcases Decidable.em (b = a) with e | e
        · cases (at_a e).symm.trans z
          exact ⟨by rw [e]; exact hobj, fits, vs, _, vals, by rw [e]; exact hobj⟩
        · cases (if_neg e).symm.trans z
  have keep : ∀ {b : Addr} {u : Obj}, s₁.heap.get? b = some u → H b = none → (hidT s₁.heap H).get? b = some u := fun e z => hidT_get e z
  have plain : ∀ {b : Addr} {u : Obj} {es : Array DictEntry} {ep : Nat}, s₁.heap.get? b = some u → u.data = .dict es ep → H b = none := by
    intro b u es ep e z
    rcases Decidable.em (b = a) with e2 | e2
    · rw [e2] at e
      cases hobj.symm.trans e
      exact (nomatch (show Data.seq vs.toArray _ = Data.dict es ep from z))
    · exact none_of b e2
  have space : ∀ {b : Addr} {m : Str → Option Value}, s₁.heap.Ns b m → (hidT s₁.heap H).Ns b m := fun ⟨u, es, ep, e, z, r⟩ => ⟨u, es, ep, keep e (plain e z), z, r⟩
  have Kb : (K w.params).In (hidT s₁.heap H) := fun b u e => keep (Kh b u e) (by
    rcases Decidable.em (b = a) with e2 | e2
    · cases z : H b with
      | none => rfl
      | some v =>
        rw [e2] at e z
        rw [own (by rw [z]; exact Option.some_ne_none _)] at e
        cases e
    · exact none_of b e2)
  obtain ⟨mc, lim1, lim2⟩ := G.T.nolimit
  have e0 : Env0 l.prog w (K w.params) mg (hidT s₁.heap H) callerA [] s₁ H := ⟨rfl, ⟨Kb, space G.T.g, ⟨mb, space G.T.b, G.T.builtins⟩, ⟨mc, space lim1, lim2⟩⟩, fun b u e => of_hidT e, Nat.le_of_eq (hidT_size _ _), trivial, fun b hb => (nomatch (show b ∈ ([] : List Addr) from hb)), hok, .of_eq hg⟩
  refine codeAny_mono (run _ Kb (space G.T.g) s₁ H a _ e0 (bind s₁ (.ref a)) (hsp _ H a ns hlen sq)) fun r s' h => ?_
  match r, h with
  | .ok (.ret u), ⟨v, H', os, bare, un, hok', rv, q⟩ =>
    obtain rfl : v = .bl true := q
    obtain rfl : u = Value.bool true := rv
    refine ⟨rfl, OldK.of_keep fun b u e => ?_, os, bare⟩
    cases z : H b with
    | none => exact un.keep b u e z (fun m => (nomatch (show b ∈ ([] : List Addr) from m))) (List.not_mem_nil)
    | some v =>
      rcases only b with y | ⟨u2, xs, y⟩
      · cases y.symm.trans z
      · have later := (hok' b _ (un.frzs b u2 _ y)).1
        rw [e.symm.trans (hok b _ y).1]
        exact later
end Fl

set_option Elab.async false
set_option linter.all false
set_option maxRecDepth 100000
set_option maxHeartbeats 4000000
/-! slices of lists backwards, by ones -/
namespace Fl
open PySem PySem.Spec PyProof.Rows L2

/-- what xs[lo:hi:-1] takes -/
def pickR {α : Type} (xs : List α) (lo hi : Option Int) : List α := (let (a, b, c) := sliceBounds lo hi (some (-1)) xs.length; sliceRange a b c).filterMap (xs[·]?)
theorem pick_vals {xs : List V} {its : List Value} (r : Vals xs its) : ∀ ks : List Nat, Vals (ks.filterMap (xs[·]?)) (ks.filterMap (its[·]?))
  | [] => .nil
  | k :: ks => by
    have ih := pick_vals r ks
    have hl := r.length
    rw [List.filterMap_cons, List.filterMap_cons]
    cases hx : xs[k]? with
    | none =>
      have : its[k]? = none := by
        rw [List.getElem?_eq_none_iff] at hx ⊢
        omega
      rw [this]
      exact ih
    | some x =>
      obtain ⟨u, hu, rv⟩ := r.get hx
      rw [hu]
      exact .cons rv ih
def rSlR (K : PySem.W.Frag) : V → Option Int → Option Int → Hp → VK → Prop := fun x lo hi H Q => ∃ a xs, x = .ref a ∧ SqL K H a xs ∧ (pickR xs lo hi).length ≤ xs.length ∧ ∀ p, H p = none → Q (.ref p) (upd H p (.lst (pickR xs lo hi)))
theorem pe_slR {X : Cx} {K : PySem.W.Frag} {e : Expr} {te : TE} {lo hi : Option Expr} {tl th : TO} {k : Nat} {p1 p2 p3 pos : Pos} (eK : X.K = K) (he : PE X e te) (hl : PO X lo tl) (hh : PO X hi th) :
    PE X (.Subscript e (.Slice lo hi (some (.UnaryOp .USub (.Constant (.int 1) k p1) p2)) p3) pos) (L2.tSl (rSlR K) te tl th) := by
  subst eK
  refine ⟨fun pins s σ H Q I h => ?_⟩
  have one : PO X (some (.UnaryOp .USub (.Constant (.int 1) k p1) p2)) (tPart (tUn (rU fun i => .int (-i)) (tC (.int 1)))) := po_some (pe_un un_neg pe_int)
  refine Subscript_ (thn (he.run pins s σ H _ I h) fun v s1 ⟨x, H1, I1, r1, q1⟩ => ?_)
  refine wpAny_Slice (thn (hl.run pins s1 σ H1 _ I1 q1) fun vl s2 ⟨l, H2, I2, pl, q2⟩ => thn (hh.run pins s2 σ H2 _ I2 q2) fun vu s3 ⟨u, H3, I3, pu, a, xs, ex, hx, hz1, q⟩ =>
    thn (one.run pins s3 σ H3 (fun o H4 => o = some (-1) ∧ H4 = H3) I3 ⟨1, rfl, -1, rfl, rfl, rfl⟩) fun vs s4 ⟨o, H4, I4, ps, eo, e4⟩ => ?_)
  subst eo e4 ex
  cases r1
  have I5 : Inv X pins σ H4 { s4 with heap := s4.heap.push { cls := .type "slice", data := .fields #[vl, vu, vs] } } := I4.kept (t' := s4.toks) fun _ _ z => Heap.get?_push_of_some _ z
  obtain ⟨its, r, ht, hz⟩ := I5.list hx
  have hlen := r.length
  have hsz : its.toArray.size ≤ sizeLine := by rw [List.size_toArray]; omega
  refine tail_any (ops := [.ref a, .ref s4.heap.objs.size]) ht.isList.typeIs (PySem.slot_list_getitem.lookup) (wpAny_getItem_list_slice ht.isList (Heap.IsSliceOf.new _ vl vu vs) pl pu ps (by decide) ?_ hsz) (by with_unfolding_all rfl)
  have hp : slicePick its.toArray l u (some (-1)) = (pickR its l u).toArray := by
    unfold slicePick pickR
    simp only [List.size_toArray]
    congr 1
    congr 1
    funext i
    simp
  rw [hp]
  have hv : Vals (pickR xs l u) (pickR its l u) := by
    unfold pickR
    rw [hlen]
    exact pick_vals r _
  exact ⟨.ref _, _, I5.laid (t' := s4.toks) (o := .lst (pickR xs l u)) (fun _ _ z => Heap.get?_push_of_some _ z) (Nat.le_refl _) ⟨Nat.le_trans hz1 hz, _, 0, hv, Heap.get?_push_size _ rfl⟩, rfl, q _ (I5.hok.fresh (Nat.le_refl _))⟩
theorem fmc {α β : Type} {f g : α → Option β} : ∀ {l : List α}, (∀ x, x ∈ l → f x = g x) → l.filterMap f = l.filterMap g
  | [], _ => rfl
  | x :: l, h => by
    rw [List.filterMap_cons, List.filterMap_cons, h x (by simp), fmc fun y m => h y (List.mem_cons_of_mem _ m)]
theorem fm_takeG {α : Type} (rs : List α) : ∀ n : Nat, (List.range n).filterMap (fun i => rs[i]?) = rs.take n
  | 0 => by simp
  | n + 1 => by
    rw [List.range_succ, List.filterMap_append, fm_takeG rs n, List.take_succ]
    cases h : rs[n]? <;> simp [h]
/-- xs[:0:-1] -/
theorem pickR_0 {α : Type} (xs : List α) : pickR xs none (some 0) = (xs.drop 1).reverse := by
  have e0 : pickR xs none (some 0) = (sliceRange ((xs.length : Int) - 1) 0 (-1)).filterMap (xs[·]?) := by
    unfold pickR
    have : sliceBounds none (some 0) (some (-1)) xs.length = ((xs.length : Int) - 1, 0, -1) ∨ xs.length = 0 := by
      rcases Nat.eq_zero_or_pos xs.length with h | h
      · exact .inr h
      · left
        unfold sliceBounds
        simp
        omega
    rcases this with h | h
    · rw [h]
    · have : xs = [] := List.eq_nil_of_length_eq_zero h
      subst this
      rfl
  rw [e0]
  have e1 : sliceRange ((xs.length : Int) - 1) 0 (-1) = (List.range (xs.length - 1)).map fun k => xs.length - 1 - k := by
    unfold sliceRange
    rw [if_neg (by decide)]
    have : (if (xs.length : Int) - 1 > 0 then ((xs.length : Int) - 1 - 0 - -1 - 1) / - -1 else 0).toNat = xs.length - 1 := by
      split
      · rw [show (- -1 : Int) = 1 from rfl, Int.ediv_one]
        omega
      · omega
    show (List.range (if (xs.length : Int) - 1 > 0 then ((xs.length : Int) - 1 - 0 - -1 - 1) / - -1 else 0).toNat).map _ = _
    rw [this]
    refine List.map_congr_left fun k hk => ?_
    have := List.mem_range.mp hk
    omega
  rw [e1]
  rw [List.filterMap_map]
  have e2 : ((List.range (xs.length - 1)).filterMap ((fun x => xs[x]?) ∘ fun k => xs.length - 1 - k)) = (List.range (xs.length - 1)).filterMap fun k => ((xs.drop 1).reverse)[k]? := by
    refine fmc fun k hk => ?_
    have hk := List.mem_range.mp hk
    show xs[xs.length - 1 - k]? = _
    rw [List.getElem?_reverse (by rw [List.length_drop]; omega), List.length_drop, List.getElem?_drop]
    congr 1
    omega
  rw [e2, fm_takeG, List.take_of_length_le (by simp)]
theorem g_slR0 {K : PySem.W.Frag} {H : Hp} {Q : VK} {a : Addr} {xs : List V} (h : SqL K H a xs) (q : ∀ p, H p = none → Q (.ref p) (upd H p (.lst (xs.drop 1).reverse))) : rSlR K (.ref a) none (some 0) H Q :=
  ⟨a, xs, rfl, h, by rw [pickR_0]; simp, by rw [pickR_0]; exact q⟩
end Fl

set_option Elab.async false
set_option linter.all false
set_option maxRecDepth 100000
set_option maxHeartbeats 4000000
/-! list(reversed(xs)), xs a list -/
namespace Fl
open PySem PySem.Spec PyProof.Rows L2
section
variable {prog : Program} {w : World} {A : Around} {E : Value → Shared → Prop} {s : Shared}
abbrev nilO : Obj := { cls := .type "list", data := .seq #[] }
/-- S.extend(it), S a new list, it a list's iterator from its end -/
theorem ext_rev {it l S : Addr} {items : Array Value} {c0 : Nat} {R : Result → Shared → Prop} (hh : A.handled = none) (hit : s.heap.IsRevIter it l ((items.size : Int) - 1)) (hl : s.heap.IsList l items) (hne : l ≠ it) (hn : items.size ≤ sizeLine)
    (hSf : S ∉ [it, l]) (hS : s.heap.get? S = some { cls := .type "list", data := .seq #[] c0 })
    (hR : ∀ s' acc' c', Moved [S, it] (fun a b => b = a) s s' → s'.heap.get? S = some { cls := .type "list", dict := none, data := .seq acc' c', slots := #[] } → ItemsOf (fun i v => items[items.size - 1 - i]? = some v) acc' items.size → R (.ok (.ret .none)) s') :
    wpAny (model prog w) A.in1 (Builtin.List.listExtendWith (.ref S) (.ref it) .none)
      (fun fin s' => match fin with | .done f => R (.ok f) s' | .again c' => c'.quiet = true ∧ codeAny (model prog w) A c' R s') (fun e s' => R (.error e) s') s := by
  have W := (Walks.listRev (prog := prog) (w := w) (A := A.in1) hh it l hne items).toS
  have T := hit.typeIs (s := s)
  have ne : S ≠ it := fun e => hSf (by rw [e]; exact List.mem_cons_self)
  have same : Builtin.List.listSameRef (.ref S) (.ref it) = false := by simp [Builtin.List.listSameRef, ne]
  unfold Builtin.List.listExtendWith
  refine wpAny_bind (wpAny_typeOf T ?_); rw [if_neg (by rw [same]; decide)]
  refine wpAny_bind (wpAny_pyIter_revIter hit ?_); refine wpAny_bind (wpAny_holding ?_)
  unfold Builtin.List.listLengthHint
  refine wpAny_bind (wpAny_specialOf T RT.nolen_lri ?_); show wpAny _ A.in1 (specialOf (Value.ref it) (Str.ofString "__length_hint__") >>= _) _ _ s
  refine wpAny_bind (wpAny_specialOf T RT.hint_lri ?_); generalize hid : ("list_reverseiterator.__length_hint__" : String) = id0
  wp_delta
  rw [show splitId id0 = some ("list_reverseiterator", "__length_hint__") from by subst hid; decide +kernel]; subst hid
  refine wpAny_bind (wpAny_isInstance (b := true) T (by rw [isSubtype_type]; kernel_rfl) (wpAny_pure ?_)); rw [if_neg (by decide)]
  have e0 : ((items.size : Nat) : Int) - 1 - ((0 : Nat) : Int) = (items.size : Int) - 1 := Int.sub_zero _
  refine wpAny_pure ⟨plainId_quiet F.plain_extend_loop _, codeAny_extend_loopS W hn _ hSf _ items.size 0 _ _ _ rfl (Nat.zero_le _) ⟨Nat.zero_le _, by rw [e0]; exact hit, hl⟩ hS (ItemsOf.nil _) hR⟩
theorem make_rev {it l : Addr} {items : Array Value} {Q : Value → Shared → Prop} (hh : A.handled = none) (hit : s.heap.IsRevIter it l ((items.size : Int) - 1)) (hl : s.heap.IsList l items) (hne : l ≠ it) (hn : items.size ≤ sizeLine)
    (hQ : ∀ s' acc' c', Moved [s.heap.objs.size, it] (fun a b => b = a) { s with heap := s.heap.push nilO } s' → s'.heap.get? s.heap.objs.size = some { cls := .type "list", dict := none, data := .seq acc' c', slots := #[] } →
      ItemsOf (fun i v => items[items.size - 1 - i]? = some v) acc' items.size → Q (.ref s.heap.objs.size) s') : wpAny (model prog w) A (call (.type "list") [.ref it]) Q E s := by
  obtain ⟨oi, hoi, _⟩ := id hit
  obtain ⟨ol, hol, _⟩ := id hl
  have n1 : s.heap.objs.size ≠ it := Nat.ne_of_gt (Heap.lt_size hoi)
  have n2 : s.heap.objs.size ≠ l := Nat.ne_of_gt (Heap.lt_size hol)
  refine callType_codes (Q₁ := fun obj s₁ => obj = .ref s.heap.objs.size ∧ s₁ = { s with heap := s.heap.push nilO }) F.called_list (F.typeCall_list_1 _) F.entry_list_init (code_list_new _ ⟨rfl, rfl⟩) fun obj s₁ ⟨e1, e2⟩ => ?_
  subst e1 e2
  have hS : (s.heap.push nilO).get? s.heap.objs.size = some nilO := Heap.get?_push_size _ rfl
  refine ⟨⟨_, hS, rfl⟩, F.args_list_init_2 _ _, ?_⟩
  show wpAny _ A.in1.in1 (do let old ← Builtin.List.listItems (.ref s.heap.objs.size); Builtin.List.listUpdate (.ref s.heap.objs.size) (fun _ => #[]); letGo old.toList.reverse; Builtin.List.listExtendWith (.ref s.heap.objs.size) (.ref it) .none) _ _ _
  unfold Builtin.List.listItems
  refine wpAny_bind (wpAny_bind (wpAny_seqItems hS rfl (wpAny_pure ?_)))
  all_goals first
    | (refine wpAny_bind (wpAny_updateSeq hS rfl (wpAny_bind (wpAny_letGo ?_)))
       have hS2 := Heap.get?_update_self (Obj.mapSeq (fun _ => (#[] : Array Value))) hS rfl
       have oth : ∀ b o, b ≠ s.heap.objs.size → s.heap.get? b = some o → ((s.heap.push nilO).update s.heap.objs.size (Obj.mapSeq (fun _ => (#[] : Array Value)))).get? b = some o := fun b o hb e => (Heap.get?_update_other _ _ (Ne.symm hb)).trans (Heap.get?_push_of_some _ e)
       refine ext_rev (A := A.in1) hh (hit.at fun o e => oth it o (Ne.symm n1) e) (hl.at fun o e => oth l o (Ne.symm n2) e) hne hn (by simp [n1, n2]) hS2 fun s' acc' c' hm hS' hacc => ?_
       refine ⟨rfl, hQ s' acc' c' (Moved.trans (G := fun a b => b = a) (fun a b c h k => k.trans h) ((Moved.refl (G := fun a b => b = a) fun _ => rfl).then_heap (Nat.le_refl _) fun b o hb e => ?_) hm) hS' hacc⟩
       exact (Heap.get?_update_other _ _ (fun z => hb (by rw [z]; exact List.mem_cons_self))).trans e)
end
/-- list(reversed(x)), x a list: a new list -/
def tListRev (K : PySem.W.Frag) (te : TE) : TE := fun σ H Q => te σ H fun v H1 => ∃ (a : Addr) (xs : List V), v = .ref a ∧ SqL K H1 a xs ∧ ∀ q, H1 q = none → Q (.ref q) (upd H1 q (.lst xs.reverse))
theorem pe_listRev {X : Cx} {K : PySem.W.Frag} {e : Expr} {te : TE} {p p2 pos pos2 : Pos} (eK : X.K = K) (hc : X.calm = true) (hg : Gl X "list") (hm : X.mg "list" = none) (hg2 : Gl X "reversed") (hm2 : X.mg "reversed" = none) (he : PE X e te)
    (hs : starEach [e] X.env = (false, eval e X.env) :: starEach [] X.env := by rfl)
    (hs2 : starEach [.Call (.Name "reversed" p2) [e] [] pos2] X.env = (false, eval (.Call (.Name "reversed" p2) [e] [] pos2) X.env) :: starEach [] X.env := by rfl) :
    PE X (.Call (.Name "list" p) [.Call (.Name "reversed" p2) [e] [] pos2] [] pos) (tListRev K te) := by
  subst eK
  refine ⟨fun pins s σ H Q I h => Call_ (ld_blt I hg hm boot_list (PyProof.Rows.callWith_type1 (args_cons (Call_ (ld_blt I hg2 hm2 PyProof.Rows.boot_reversed (PyProof.Rows.callWith_type1 (args_cons (thn (he.run pins s σ H _ I h) fun u s1 ⟨v, H1, I1, r1, a, xs, ev, hq, q⟩ => args_nil ?_) hs) hs rfl))) hs2) hs2 rfl))⟩
  subst ev
  obtain rfl : u = Value.ref a := r1
  obtain ⟨its, rv, pl, hz⟩ := I1.list hq
  have hl := pl.isList
  have hlen := rv.length
  obtain ⟨ol, hol, _⟩ := id hl
  refine call_reversed_list hl (args_nil ?_)
  have I2 : Inv X pins σ H1 { s1 with heap := s1.heap.push (revObj a ((its.toArray.size : Int) - 1)) } := I1.kept (t' := s1.toks) fun b o z => Heap.get?_push_of_some _ z
  obtain ⟨f0, f1, f2, f3, f4, f5⟩ := I1.fpOk (H' := H1) (b := s1.heap.objs.size) (Nat.le_refl _) (I1.hok.fresh (Nat.le_refl _))
  refine make_rev (s := { s1 with heap := s1.heap.push (revObj a ((its.toArray.size : Int) - 1)) }) (items := its.toArray) (I1.ok.hd hc) ⟨_, Heap.get?_push_size _ rfl, rfl, rfl⟩ (hl.push _) (Nat.ne_of_lt (Heap.lt_size hol)) (by rw [List.size_toArray]; omega) fun s' acc' c' hm hS hi => ?_
  rw [Moved.eq_with hm]
  have new : H1 (s1.heap.objs.size + 1) = none := I1.hok.fresh (Nat.le_succ _)
  have at1 : ({ s1 with heap := s1.heap.push (revObj a ((its.toArray.size : Int) - 1)) } : Shared).heap.objs.size = s1.heap.objs.size + 1 := by simp [Heap.push]
  rw [at1] at hS hm ⊢
  have keep : ∀ b o, b ≠ s1.heap.objs.size → b ≠ s1.heap.objs.size + 1 → ((s1.heap.push (revObj a ((its.toArray.size : Int) - 1))).push nilO).get? b = some o → s'.heap.get? b = some o := fun b o n n1 z => hm.heap b o (by simp [n, n1]) z
  have I3 : Inv X pins σ (upd H1 (s1.heap.objs.size + 1) (.lst [])) { s1 with heap := (s1.heap.push (revObj a ((its.toArray.size : Int) - 1))).push nilO } :=
    I2.laid (t' := s1.toks) (fun b o z => Heap.get?_push_of_some _ z) (Nat.le_of_eq at1) ⟨Nat.zero_le _, [], 0, .nil, by rw [← at1]; exact Heap.get?_push_size _ rfl⟩
  have n2 : s1.heap.objs.size ≠ s1.heap.objs.size + 1 := Nat.ne_of_lt (Nat.lt_succ_self _)
  have mid : (s'.heap.update (s1.heap.objs.size + 1) (fun _ => nilO)).get? (s1.heap.objs.size + 1) = some nilO := Heap.get?_update_self _ hS rfl
  have I4 : Inv X pins σ (upd H1 (s1.heap.objs.size + 1) (.lst [])) { s1 with heap := s'.heap.update (s1.heap.objs.size + 1) (fun _ => nilO), toks := s'.toks } := by
    refine I3.turned (t' := s'.toks) (fun b o n z => ?_) (by rw [upd_ne n2]; exact I1.hok.fresh (Nat.le_refl _)) f1 f3 f4 f5
    by_cases e : b = s1.heap.objs.size + 1
    · subst e
      rw [← at1] at z
      rw [Heap.get?_push_size _ rfl] at z
      cases z
      exact mid
    · exact (Heap.get?_update_other _ _ (Ne.symm e)).trans (keep b o n e z)
  have I5 : Inv X pins σ (upd (upd H1 (s1.heap.objs.size + 1) (.lst [])) (s1.heap.objs.size + 1) (.lst xs.reverse)) { s1 with heap := s'.heap, toks := s'.toks } :=
    I4.write (by rw [upd_same]; trivial) (.inl rfl) (fun b o n z => by rw [← z]; exact (Heap.get?_update_other _ _ (Ne.symm n)).symm) ⟨_, hS⟩ ⟨by rw [List.length_reverse]; exact hz, acc'.toList, c', RT.vals_rev rv hi, by rw [hS]⟩
  refine ⟨.ref _, _, I5, rfl, ?_⟩
  rw [upd_upd]
  exact q _ new
end Fl

set_option Elab.async false
set_option linter.all false
set_option maxRecDepth 100000
set_option maxHeartbeats 4000000
/-! turning sums, reversed contours: the mathematics -/
namespace Fl
open PySem PySem.Spec PyProof.Rows L2

def cr (p q : Pt) : Int := p.1 * q.2.1 - q.1 * p.2.1
/-- over a path -/
def pa : List Pt → Int
  | p :: q :: l => cr p q + pa (q :: l)
  | _ => 0
def tc (c : List Pt) : Int := ((c.zip (beg c 1)).map fun z => cr z.1 z.2).sum
def ts (o : List (List Pt)) : Int := (o.map tc).sum
def rv (c : List Pt) : List Pt := c.take 1 ++ (c.drop 1).reverse
theorem pa_app : ∀ (u : List Pt) (x : Pt) (v : List Pt), pa (u ++ x :: v) = pa (u ++ [x]) + pa (x :: v)
  | [], x, v => by simp [pa]
  | [y], x, v => by simp [pa]
  | y :: z :: u, x, v => by
    have ih := pa_app (z :: u) x v
    show cr y z + pa (z :: u ++ x :: v) = cr y z + pa (z :: u ++ [x]) + pa (x :: v)
    rw [ih, Int.add_assoc]
theorem pa_rev : ∀ l : List Pt, pa l.reverse = -pa l
  | [] => rfl
  | [_] => rfl
  | p :: q :: l => by
    have ih := pa_rev (q :: l)
    rw [List.reverse_cons] at ih
    rw [List.reverse_cons, List.reverse_cons, List.append_assoc]
    show pa (l.reverse ++ q :: [p]) = -(cr p q + pa (q :: l))
    rw [pa_app, ih]
    show -pa (q :: l) + (cr q p + 0) = _
    unfold cr
    omega
theorem tc_pa (p : Pt) (l : List Pt) : tc (p :: l) = pa (p :: l ++ [p]) := by
  have key : ∀ (l : List Pt) (p x : Pt), (((p :: l).zip (l ++ [x])).map fun z => cr z.1 z.2).sum = pa (p :: l ++ [x]) := by
    intro l
    induction l with
    | nil => intro p x; simp [pa]
    | cons q l ih =>
      intro p x
      have := ih q x
      show (cr p q :: ((q :: l).zip (l ++ [x])).map fun z => cr z.1 z.2).sum = cr p q + pa (q :: l ++ [x])
      rw [List.sum_cons, this]
  exact key l p p
theorem tc_rv (c : List Pt) : tc (rv c) = -tc c := by
  cases c with
  | nil => rfl
  | cons p l =>
    show tc (p :: l.reverse) = _
    rw [tc_pa, tc_pa, ← pa_rev]
    congr 1
    simp
theorem ts_rv (o : List (List Pt)) : ts (o.map rv) = -ts o := by
  unfold ts
  induction o with
  | nil => rfl
  | cons c o ih =>
    rw [List.map_cons, List.map_cons, List.sum_cons, List.map_cons, List.sum_cons, ih, tc_rv]
    omega
theorem rv_rv (c : List Pt) : rv (rv c) = c := by
  cases c with
  | nil => rfl
  | cons p l =>
    show p :: l.reverse.reverse = _
    rw [List.reverse_reverse]
theorem rv_len (c : List Pt) : (rv c).length = c.length := by
  cases c with
  | nil => rfl
  | cons p l =>
    show (p :: l.reverse).length = _
    simp
theorem rv_mem {c : List Pt} {x : Pt} : x ∈ rv c ↔ x ∈ c := by
  cases c with
  | nil => rfl
  | cons p l =>
    show x ∈ p :: l.reverse ↔ _
    simp
/-! turn by turn -/
def tz (c : List Pt) (i : Nat) : Int := (((c.zip (beg c 1)).take i).map fun z => cr z.1 z.2).sum
theorem tz_zero (c : List Pt) : tz c 0 = 0 := rfl
theorem tz_all (c : List Pt) : tz c c.length = tc c := by
  unfold tz tc
  rw [List.take_of_length_le (by rw [List.length_zip, beg_len]; omega)]
theorem beg1_get {c : List Pt} {i : Nat} (h : i < c.length) : (beg c 1)[i]? = c[(i + 1) % c.length]? := by
  unfold beg
  rcases Nat.lt_or_ge (i + 1) c.length with g | g
  · rw [Nat.mod_eq_of_lt g, List.getElem?_append_left (by rw [List.length_drop]; omega), List.getElem?_drop, Nat.add_comm]
  · have e : i + 1 = c.length := by omega
    rw [e, Nat.mod_self, List.getElem?_append_right (by rw [List.length_drop]; omega), List.length_drop]
    have : i - (c.length - 1) = 0 := by omega
    rw [this]
    cases c with
    | nil => cases h
    | cons p l => rfl
theorem tz_succ {c : List Pt} {i : Nat} {p q : Pt} (hp : c[i]? = some p) (hq : (beg c 1)[i]? = some q) : tz c (i + 1) = tz c i + cr p q := by
  unfold tz
  rw [take_zip hp hq, List.map_append, List.sum_append]
  simp
theorem cr_big {p q : Pt} (hp : PtIn (10 ^ 6) p) (hq : PtIn (10 ^ 6) q) : (cr p q).natAbs ≤ 2 * 10 ^ 12 ∧ (p.1 * q.2.1).natAbs ≤ 10 ^ 12 ∧ (q.1 * p.2.1).natAbs ≤ 10 ^ 12 := by
  obtain ⟨a1, a2, a3, a4⟩ := hp
  obtain ⟨b1, b2, b3, b4⟩ := hq
  have h1 : (p.1 * q.2.1).natAbs ≤ 10 ^ 12 := by
    rw [Int.natAbs_mul]
    exact Nat.le_trans (Nat.mul_le_mul (show p.1.natAbs ≤ 10 ^ 6 by omega) (show q.2.1.natAbs ≤ 10 ^ 6 by omega)) (by decide)
  have h2 : (q.1 * p.2.1).natAbs ≤ 10 ^ 12 := by
    rw [Int.natAbs_mul]
    exact Nat.le_trans (Nat.mul_le_mul (show q.1.natAbs ≤ 10 ^ 6 by omega) (show p.2.1.natAbs ≤ 10 ^ 6 by omega)) (by decide)
  refine ⟨?_, h1, h2⟩
  unfold cr
  omega
/-! how data is shown -/
structure Sw (k W : Nat) (d : PyData) : Prop where
  sh : d.showable = true
  nd : d.hasDict = false
  lv : d.leavesShort 13 = true
  dp : d.depth ≤ k
  wt : d.weight ≤ W
theorem Sw.shw {k W : Nat} {d : PyData} (h : Sw k W d) (hk : k ≤ 40) (hW : W ≤ 2 ^ 20) : Shw d := ⟨h.sh, h.nd, Nat.le_trans h.dp hk, h.lv, Nat.le_trans h.wt hW⟩
theorem Sw.mono {k W j U : Nat} {d : PyData} (h : Sw k W d) (hk : k ≤ j) (hW : W ≤ U) : Sw j U d := ⟨h.sh, h.nd, h.lv, Nat.le_trans h.dp hk, Nat.le_trans h.wt hW⟩
theorem Sw.all {k W : Nat} : ∀ ds : List PyData, (∀ d, d ∈ ds → Sw k W d) → PyData.showableAll ds = true ∧ PyData.hasDictAll ds = false ∧ PyData.leavesShortAll 13 ds = true ∧ PyData.depthAll ds ≤ k ∧ PyData.weightAll ds ≤ (W + 1) * ds.length
  | [], _ => by simp [PyData.showableAll, PyData.hasDictAll, PyData.leavesShortAll, PyData.depthAll, PyData.weightAll]
  | d :: ds, h => by
    obtain ⟨a, b, c, e, f⟩ := h d (by simp)
    obtain ⟨a2, b2, c2, e2, f2⟩ := Sw.all ds fun e m => h e (List.mem_cons_of_mem _ m)
    refine ⟨by simp [PyData.showableAll, a, a2], by simp [PyData.hasDictAll, b, b2], by simp [PyData.leavesShortAll, c, c2], ?_, ?_⟩
    · simp only [PyData.depthAll]
      omega
    · simp only [PyData.weightAll, List.length_cons, Nat.mul_succ]
      omega
theorem Sw.lst {k W : Nat} {ds : List PyData} (h : ∀ d, d ∈ ds → Sw k W d) : Sw (k + 1) ((W + 1) * ds.length) (.list ds) := by
  obtain ⟨a, b, c, e, f⟩ := Sw.all ds h
  exact ⟨by simpa [PyData.showable] using a, by simpa [PyData.hasDict] using b, by simpa [PyData.leavesShort] using c, by simp only [PyData.depth]; omega, by simp only [PyData.weight]; omega⟩
theorem Sw.tup {k W : Nat} {ds : List PyData} (h : ∀ d, d ∈ ds → Sw k W d) : Sw (k + 1) ((W + 1) * ds.length) (.tuple ds) := by
  obtain ⟨a, b, c, e, f⟩ := Sw.all ds h
  exact ⟨by simpa [PyData.showable] using a, by simpa [PyData.hasDict] using b, by simpa [PyData.leavesShort] using c, by simp only [PyData.depth]; omega, by simp only [PyData.weight]; omega⟩
theorem Sw.int {i : Int} (h : i.natAbs < 10 ^ 12) : Sw 0 41 (.int i) := by
  have h2 : i.natAbs < 2 ^ 41 := Nat.lt_of_lt_of_le h (by decide)
  have l : i.natAbs.log2 ≤ 40 := by
    rcases Nat.eq_zero_or_pos i.natAbs with z | z
    · rw [z]; decide
    · have := (Nat.log2_lt (k := 41) (by omega)).mpr h2
      omega
  refine ⟨?_, rfl, ?_, Nat.le_refl _, ?_⟩
  · simp only [PyData.showable, decide_eq_true_eq]
    omega
  · simp only [PyData.leavesShort, decide_eq_true_eq]
    exact PyData.shown_int_le h
  · simp only [PyData.weight]
    split <;> omega
theorem Sw.bl {b : Bool} : Sw 0 0 (.bool b) := ⟨rfl, rfl, rfl, Nat.le_refl _, Nat.le_refl _⟩
theorem Sw.int20 {i : Int} (h : i.natAbs ≤ 10 ^ 6) : Sw 0 20 (.int i) := by
  obtain ⟨a, b, c, d, _⟩ := Sw.int (i := i) (by omega)
  refine ⟨a, b, c, d, ?_⟩
  have l : i.natAbs.log2 ≤ 19 := by
    rcases Nat.eq_zero_or_pos i.natAbs with z | z
    · rw [z]; decide
    · have := (Nat.log2_lt (k := 20) (by omega)).mpr (Nat.lt_of_le_of_lt h (by decide))
      omega
  simp only [PyData.weight]
  split <;> omega
theorem sw_pt {p : Pt} (h : PtIn (10 ^ 6) p) : Sw 1 63 (ptD p) := by
  obtain ⟨h1, h2, h3, h4⟩ := h
  refine (Sw.tup (k := 0) (W := 20) fun d m => ?_).mono (Nat.le_refl _) (by show (20 + 1) * 3 ≤ 63; decide)
  simp only [List.mem_cons, List.not_mem_nil, or_false] at m
  rcases m with rfl | rfl | rfl
  · exact Sw.int20 (by omega)
  · exact Sw.int20 (by omega)
  · exact Sw.bl.mono (Nat.le_refl _) (by decide)
theorem sw_ct {c : List Pt} {n : Nat} (h : ∀ p, p ∈ c → PtIn (10 ^ 6) p) (hn : c.length ≤ n) : Sw 2 (64 * n) (ctD c) := by
  refine (Sw.lst (k := 1) (W := 63) fun d m => ?_).mono (Nat.le_refl _) (by rw [List.length_map]; omega)
  obtain ⟨p, hp, rfl⟩ := List.mem_map.mp m
  exact sw_pt (h p hp)
theorem sw_ou {o : List (List Pt)} {n : Nat} (h : ∀ c, c ∈ o → c.length ≤ n ∧ ∀ p, p ∈ c → PtIn (10 ^ 6) p) : Sw 3 ((64 * n + 1) * o.length) (ouD o) := by
  refine (Sw.lst (k := 2) (W := 64 * n) fun d m => ?_).mono (Nat.le_refl _) (by rw [List.length_map]; exact Nat.le_refl _)
  obtain ⟨c, hc, rfl⟩ := List.mem_map.mp m
  exact sw_ct (h c hc).2 (h c hc).1
end Fl
namespace Fl
open PySem PySem.Spec PyProof.Rows L2
def fTs (ds : List PyData) (d : PyData) : Prop := ∃ o : List (List Pt), ds = [ouD o] ∧ o.length ≤ 100 ∧ (∀ c, c ∈ o → c.length ≤ 100 ∧ ∀ p, p ∈ c → PtIn (10 ^ 6) p) ∧ d = .int (ts o)
def fRv (ds : List PyData) (d : PyData) : Prop := ∃ o : List (List Pt), ds = [ouD o] ∧ o.length ≤ 100 ∧ (∀ c, c ∈ o → c.length ≤ 100) ∧ d = ouD (o.map rv)
theorem ts_take {o : List (List Pt)} {i : Nat} {c : List Pt} (h : o[i]? = some c) : ((o.take (i + 1)).map tc).sum = ((o.take i).map tc).sum + tc c := by
  rw [List.take_succ, h, List.map_append, List.sum_append]
  simp
theorem md_cast (i n : Nat) : ((i : Int) + 1) % (n : Int) = (((i + 1) % n : Nat) : Int) := by
  rw [Int.natCast_emod]
  rfl
theorem sz12 {n : Int} (h : n.natAbs ≤ 10 ^ 12) : n.natAbs < 2 ^ 4000 := Nat.lt_of_le_of_lt h (by decide +kernel)
theorem sz6 {n : Int} (h1 : -(10 ^ 6) ≤ n) (h2 : n ≤ 10 ^ 6) : n.natAbs < 2 ^ 4000 := sz12 (by omega)
end Fl
namespace Fl
open PySem PySem.Spec PyProof.Rows L2
section
variable {K : PySem.W.Frag} {H : Hp} {Q : VK} {a : Addr} {xs : List V} {te : TE} {σ : L2.St}
theorem g_lrev (h : te σ H fun v H1 => ∃ (a : Addr) (xs : List V), v = .ref a ∧ SqL K H1 a xs ∧ ∀ q, H1 q = none → Q (.ref q) (upd H1 q (.lst xs.reverse))) : tListRev K te σ H Q := h
theorem g_lrev2 {Q : Addr → List V → Prop} (h : SqL K H a xs) (q : Q a xs) : ∃ (b : Addr) (ys : List V), V.ref a = .ref b ∧ SqL K H b ys ∧ Q b ys := ⟨a, xs, rfl, h, q⟩
theorem g_eqS {x y : Str} (q : Q (.bl (decide (x = y))) H) : rEq (.str x) (.str y) H Q := ⟨rfl, by
  have e : decide (V.str x = V.str y) = decide (x = y) := by simp
  rw [e]; exact q⟩
end
end Fl

set_option Elab.async false
set_option linter.all false
set_option maxRecDepth 100000
set_option maxHeartbeats 4000000
/-! proper outlines -/
namespace Fl
open PySem PySem.Spec PyProof.Rows L2
def cnt (o : List (List Pt)) : Int := (o.map fun c => (c.length : Int)).sum
def okP (p : Pt) : Bool := decide (-16384 ≤ p.1 ∧ p.1 ≤ 16384 ∧ -16384 ≤ p.2.1 ∧ p.2.1 ≤ 16384)
def okC (c : List Pt) : Bool := decide (2 ≤ c.length) && c.all okP
def prp (o : List (List Pt)) : Bool := (decide (o.length ≤ 40) && decide (cnt o ≤ 200)) && o.all okC
def fCt (ds : List PyData) (d : PyData) : Prop := ∃ o : List (List Pt), ds = [ouD o] ∧ o.length ≤ 100 ∧ d = .int (cnt o)
def fPr (ds : List PyData) (d : PyData) : Prop := ∃ o : List (List Pt), ds = [ouD o] ∧ o.length ≤ 100 ∧ (∀ c, c ∈ o → c.length ≤ 900) ∧ d = .bool (prp o)
theorem cnt_flat (o : List (List Pt)) : cnt o = (o.flatten.length : Int) := by
  unfold cnt
  induction o with
  | nil => rfl
  | cons c o ih =>
    rw [List.map_cons, List.sum_cons, ih, List.flatten_cons, List.length_append]
    omega
theorem prp_many {o : List (List Pt)} (h : ¬ ((o.length : Int) ≤ 40)) : prp o = false := by
  unfold prp
  rw [decide_eq_false (by omega), Bool.false_and, Bool.false_and]
theorem prp_cnt {o : List (List Pt)} (h : ¬ (cnt o ≤ 200)) : prp o = false := by
  unfold prp
  rw [decide_eq_false h, Bool.and_false, Bool.false_and]
theorem prp_c {o : List (List Pt)} {c : List Pt} (m : c ∈ o) (h : okC c = false) : prp o = false := by
  unfold prp
  have : o.all okC = false := by
    rw [List.all_eq_false]
    exact ⟨c, m, by rw [h]; exact Bool.false_ne_true⟩
  rw [this, Bool.and_false]
theorem prp_true {o : List (List Pt)} (h1 : (o.length : Int) ≤ 40) (h2 : cnt o ≤ 200) (h3 : ∀ c, c ∈ o → okC c = true) : prp o = true := by
  unfold prp
  rw [decide_eq_true (by omega), decide_eq_true h2, List.all_eq_true.mpr h3]
  rfl
theorem okC_few {c : List Pt} (h : (c.length : Int) < 2) : okC c = false := by
  unfold okC
  rw [decide_eq_false (by omega), Bool.false_and]
theorem okC_p {c : List Pt} {p : Pt} (m : p ∈ c) (h : okP p = false) : okC c = false := by
  unfold okC
  have : c.all okP = false := by
    rw [List.all_eq_false]
    exact ⟨p, m, by rw [h]; exact Bool.false_ne_true⟩
  rw [this, Bool.and_false]
theorem okC_true {c : List Pt} (h1 : ¬ (c.length : Int) < 2) (h3 : ∀ p, p ∈ c → okP p = true) : okC c = true := by
  unfold okC
  rw [decide_eq_true (by omega), List.all_eq_true.mpr h3]
  rfl
theorem okP_f {p : Pt} (h : ¬ (-16384 ≤ p.1 ∧ p.1 ≤ 16384 ∧ -16384 ≤ p.2.1 ∧ p.2.1 ≤ 16384)) : okP p = false := decide_eq_false h
theorem okP_t {p : Pt} (h : -16384 ≤ p.1 ∧ p.1 ≤ 16384 ∧ -16384 ≤ p.2.1 ∧ p.2.1 ≤ 16384) : okP p = true := decide_eq_true h
theorem take_mem {α : Type} {l : List α} {P : α → Prop} {i : Nat} {x : α} (hx : l[i]? = some x) (h : ∀ y, y ∈ l.take i → P y) (k : P x) : ∀ y, y ∈ l.take (i + 1) → P y := by
  intro y m
  rw [List.take_succ, hx] at m
  rcases List.mem_append.mp m with m | m
  · exact h y m
  · rw [show y = x by simpa using m]
    exact k
/-- a changed outline -/
structure ChIn (o : List (List Pt)) : Prop where
  len : o.length ≤ 45
  cs : ∀ c, c ∈ o → c.length ≤ 300 ∧ ∀ p, p ∈ c → PtIn (10 ^ 6) p
  fl : o.flatten.length ≤ 400
def spCh : Sp := fun vs H Q _ => ∃ (d s : Addr) (ns : List Int) (a : V) (o : List (List Pt)), vs = [.ref d, a] ∧ Dk d s ns H ∧ Dq [d] H a (ouD o) ∧ OuIn 2 400 o ∧
  ∀ t H' o', Dk d s ns H' → Dq [d] H' t (ouD o') → ChIn o' → Q t H'
theorem flat_len {n : Nat} : ∀ {o : List (List Pt)}, (∀ c, c ∈ o → c.length ≤ n) → o.flatten.length ≤ n * o.length
  | [], _ => Nat.zero_le _
  | c :: o, h => by
    have h1 := h c (by simp)
    have h2 := flat_len (o := o) fun x m => h x (List.mem_cons_of_mem _ m)
    rw [List.flatten_cons, List.length_append, List.length_cons, Nat.mul_succ]
    omega
theorem OuIn.ch {o : List (List Pt)} (h : OuIn 2 400 o) : ChIn o := by
  have h1 := h.len
  refine ⟨by omega, fun c m => ?_, ?_⟩
  · obtain ⟨g1, g2, g3⟩ := h.cs c m
    refine ⟨by omega, fun p mp => ?_⟩
    obtain ⟨g1, g2, g3, g4⟩ := g3 p mp
    exact ⟨by omega, by omega, by omega, by omega⟩
  · have := flat_len (n := 7) fun c m => (h.cs c m).2.1
    omega
theorem ChIn.app {o u : List (List Pt)} (h : OuIn 2 400 o) (h1 : u.length ≤ 42) (h2 : ∀ c, c ∈ u → c.length ≤ 300 ∧ ∀ p, p ∈ c → PtIn (10 ^ 6) p) (h3 : u.flatten.length ≤ 300) : ChIn (o ++ u) := by
  obtain ⟨a, b, c⟩ := h.ch
  have h0 := h.len
  have := flat_len (n := 7) fun c m => (h.cs c m).2.1
  refine ⟨by rw [List.length_append]; omega, fun c m => ?_, by rw [List.flatten_append, List.length_append]; omega⟩
  rcases List.mem_append.mp m with m | m
  · exact b c m
  · exact h2 c m
theorem ChIn.pre {o : List (List Pt)} (h : OuIn 2 400 o) : ChIn ([] :: o) := by
  obtain ⟨a, b, c⟩ := h.ch
  have h0 := h.len
  refine ⟨by rw [List.length_cons]; omega, fun c m => ?_, by simpa using c⟩
  rcases List.mem_cons.mp m with rfl | m
  · exact ⟨by simp, fun _ m => nomatch m⟩
  · exact b c m
theorem PtIn.big {p : Pt} (h : PtIn 400 p) : PtIn (10 ^ 6) p := by
  obtain ⟨g1, g2, g3, g4⟩ := h
  exact ⟨by omega, by omega, by omega, by omega⟩
/-- same(x, y), of data at a depth of up to one -/
def spSm12 : Sp := fun vs H Q E => spSm1 vs H Q E ∨ spSm2 vs H Q E
theorem sh_tu {ds : List PyData} {n : Nat} (h : ∀ d, d ∈ ds → d.canLay0 = true ∧ d.depth ≤ n) (hn : n < 63) : (PyData.list ds).canLay0 = true ∧ (PyData.list ds).depth ≤ n + 1 := by
  have h1 := canLay_all (fun d => d.canLay0 = true) (fun _ h => h) ds (fun d m => (h d m).1)
  have h2 := depth_all n ds (fun d m => (h d m).2)
  refine ⟨by simp [PyData.canLay0, h1], ?_⟩
  simp only [PyData.depth]
  omega
theorem pt_lay (p : Pt) : (ptD p).canLay0 = true ∧ (ptD p).depth ≤ 1 := by
  unfold ptD
  simp [PyData.canLay0, PyData.canLayAll0, PyData.depth, PyData.depthAll]
theorem sh_ct (c : List Pt) : SeqAt.shaped (ctD c) = true := sh_list (n := 1) (fun d m => by
  obtain ⟨p, _, rfl⟩ := List.mem_map.mp m
  exact pt_lay p) (by decide)
theorem sh_nilL : SeqAt.shaped (.list []) = true := sh_list (n := 0) (fun d m => nomatch m) (by decide)
/-- a list of data is the empty list just if it has no item -/
theorem eqv_nil (ds : List PyData) : PyData.eqv (.list ds) (.list []) = ds.isEmpty := by
  cases ds with
  | nil => exact eqv_self sh_nilL
  | cons d ds => rfl
end Fl
namespace Fl
open PySem PySem.Spec PyProof.Rows L2
theorem fm_getD {β : Type} (f : Pt → Option β) : ∀ c : List Pt, (List.range c.length).filterMap (fun j => f (c.getD j p0)) = c.filterMap f
  | [] => rfl
  | p :: c => by
    rw [List.length_cons, List.range_succ_eq_map, List.filterMap_cons, List.filterMap_cons, List.filterMap_map]
    have ih := fm_getD f c
    have e : (List.range c.length).filterMap ((fun j => f ((p :: c).getD j p0)) ∘ Nat.succ) = c.filterMap f := ih
    rw [e]
    rfl
def bad (c : List Pt) : List PyData := c.filterMap fun p => if okP p = true then none else some (ptD p)
theorem bad_fm (c : List Pt) : (List.range c.length).filterMap (fun j => if okP (c.getD j p0) = true then none else some (ptD (c.getD j p0))) = bad c := fm_getD (fun p => if okP p = true then none else some (ptD p)) c
theorem bad_sh (c : List Pt) : SeqAt.shaped (.list (bad c)) = true := sh_list (n := 1) (fun d m => by
  obtain ⟨p, _, h⟩ := List.mem_filterMap.mp m
  split at h
  · cases h
  · cases h
    exact pt_lay p) (by decide)
theorem bad_nil {c : List Pt} (h : (bad c).isEmpty = true) : ∀ p, p ∈ c → okP p = true := by
  intro p m
  cases hp : okP p with
  | true => rfl
  | false =>
    have : ptD p ∈ bad c := List.mem_filterMap.mpr ⟨p, m, by rw [hp]; rfl⟩
    rw [List.isEmpty_iff.mp h] at this
    cases this
theorem bad_one {c : List Pt} (h : (bad c).isEmpty = false) : okC c = false := by
  cases hb : bad c with
  | nil => rw [hb] at h; cases h
  | cons d ds =>
    have m : d ∈ bad c := by rw [hb]; simp
    obtain ⟨p, mp, e⟩ := List.mem_filterMap.mp m
    split at e
    · cases e
    · rename_i hk
      exact okC_p mp (by simpa using hk)
theorem g_iteNB {b : Bool} {A B : Prop} (h1 : b = false → A) (h2 : b = true → B) : if (!b) = true then A else B := by
  cases b with
  | true => rw [if_neg (by decide)]; exact h2 rfl
  | false => rw [if_pos (by decide)]; exact h1 rfl
end Fl
namespace Fl
open PySem PySem.Spec PyProof.Rows L2
theorem cat_ou {S : List Addr} {H : Hp} {xs ys : List V} {o u : List (List Pt)} (h : DqA S H xs (o.map ctD)) (k : DqA S H ys (u.map ctD)) : DqA S H (xs ++ ys) ((o ++ u).map ctD) := by
  rw [List.map_append]
  exact h.app k
theorem rep_fm {α β : Type} (x : β) : ∀ l : List α, l.filterMap (fun _ => some x) = List.replicate l.length x
  | [] => rfl
  | _ :: l => by
    rw [List.filterMap_cons, rep_fm x l]
    rfl
theorem far_at {v : Int} (h0 : 0 ≤ v) (h1 : v < 4) : ∃ f : Int, atI [V.int 16384, V.int (-16384), V.int 16385, V.int (-16385)] v = some (.int f) ∧ -16385 ≤ f ∧ f ≤ 16385 := by
  rcases (by omega : v = 0 ∨ v = 1 ∨ v = 2 ∨ v = 3) with rfl | rfl | rfl | rfl
  · exact ⟨_, rfl, by decide, by decide⟩
  · exact ⟨_, rfl, by decide, by decide⟩
  · exact ⟨_, rfl, by decide, by decide⟩
  · exact ⟨_, rfl, by decide, by decide⟩
theorem flat_rep {α : Type} (x : List α) : ∀ n : Nat, (List.replicate n x).flatten.length = n * x.length
  | 0 => by simp
  | n + 1 => by rw [List.replicate_succ, List.flatten_cons, List.length_append, flat_rep x n, Nat.succ_mul, Nat.add_comm]
end Fl

set_option Elab.async false
set_option linter.all false
set_option maxRecDepth 100000
set_option maxHeartbeats 4000000
/-! the line of a contour by its ring and its start -/
namespace Fl
open PySem PySem.Spec PyProof.Rows L2
def wk (c : List Pt) (i : Nat) : List Pt := ((c.zip (beg c 1)).take i).flatMap fun z => w1 z.1 z.2
theorem wk_all (c : List Pt) : wk c c.length = wm c := by
  unfold wk
  rw [List.take_of_length_le (by rw [List.length_zip, beg_len]; omega)]
  exact wz_wm c
theorem wk_succ {c : List Pt} {i : Nat} {p q : Pt} (hp : c[i]? = some p) (hq : (beg c 1)[i]? = some q) : wk c (i + 1) = wk c i ++ w1 p q := by
  unfold wk
  rw [take_zip hp hq, List.flatMap_append]
  simp
theorem wk_len {c : List Pt} : ∀ i : Nat, (wk c i).length ≤ 2 * i
  | 0 => Nat.le_refl _
  | i + 1 => by
    have ih := wk_len (c := c) i
    rcases Nat.lt_or_ge i c.length with h | h
    · obtain ⟨p, hp⟩ : ∃ p, c[i]? = some p := ⟨_, List.getElem?_eq_getElem h⟩
      obtain ⟨q, hq⟩ : ∃ q, (beg c 1)[i]? = some q := ⟨_, List.getElem?_eq_getElem (by rw [beg_len]; exact h)⟩
      rw [wk_succ hp hq, List.length_append]
      have := (w1_len p q).2
      omega
    · have e : wk c (i + 1) = wk c i := by
        unfold wk
        rw [List.take_of_length_le (by rw [List.length_zip, beg_len]; omega), List.take_of_length_le (by rw [List.length_zip, beg_len]; omega)]
      rw [e]
      omega
def stOf (c : List Pt) : Int := match ps c with
  | [] => ((wm c).length : Int) - 1
  | k :: _ => ((wk c k).length : Int)
theorem wk_wp {u : List Pt} {p : Pt} {v : List Pt} : wk (u ++ p :: v) u.length = wp u p := by
  cases u with
  | nil => rfl
  | cons x u =>
    have e : (x :: u ++ p :: v).zip (beg (x :: u ++ p :: v) 1) = (x :: u).zip (u ++ [p]) ++ (p :: v).zip (v ++ [x]) := by
      have e2 : beg (x :: u ++ p :: v) 1 = (u ++ [p]) ++ (v ++ [x]) := by
        unfold beg
        simp
      rw [e2]
      exact List.zip_append (by simp)
    unfold wk
    rw [e, List.take_append_of_le_length (by simp), List.take_of_length_le (by simp)]
    exact wz_wp u x p
theorem beg_ro {c : List Pt} (n : c ≠ []) : ∃ k : Nat, stOf c = (k : Int) ∧ k ≤ (wm c).length ∧ beg (wm c) k = ro c := by
  have hl := (wm_len c).1
  have hc : 0 < c.length := List.length_pos_iff.mpr n
  unfold stOf ro
  cases hp : ps c with
  | nil =>
    refine ⟨(wm c).length - 1, by show ((wm c).length : Int) - 1 = _; omega, by omega, ?_⟩
    unfold beg
    rw [List.dropLast_eq_take]
  | cons k l =>
    have hk : k < c.length := ps_lt (by rw [hp]; simp)
    obtain ⟨u, p, v, rfl, rfl⟩ : ∃ (u : List Pt) (p : Pt) (v : List Pt), c = u ++ p :: v ∧ k = u.length := by
      refine ⟨c.take k, c[k], c.drop (k + 1), ?_, ?_⟩
      · rw [List.getElem_cons_drop, List.take_append_drop]
      · rw [List.length_take]; omega
    refine ⟨(wk (u ++ p :: v) u.length).length, rfl, ?_, ?_⟩
    · rw [wk_wp]
      cases u with
      | nil => exact Nat.zero_le _
      | cons x u =>
        have e1 : wm (x :: u ++ p :: v) = wp (x :: u) p ++ wp (p :: v) x := wp_app (x :: u) p v x
        rw [e1, List.length_append]
        omega
    · show beg (wm (u ++ p :: v)) (wk (u ++ p :: v) u.length).length = wm (beg (u ++ p :: v) u.length)
      rw [wk_wp]
      have e0 : beg (u ++ p :: v) u.length = p :: v ++ u := by
        unfold beg
        simp
      rw [e0]
      cases u with
      | nil =>
        unfold beg
        simp [wp]
      | cons x u =>
        have e1 : wm (x :: u ++ p :: v) = wp (x :: u) p ++ wp (p :: v) x := wp_app (x :: u) p v x
        have e2 : wm (p :: v ++ x :: u) = wp (p :: v) x ++ wp (x :: u) p := wp_app (p :: v) x u p
        rw [e1, e2]
        unfold beg
        simp
theorem na_get : ∀ {l : List Pt} {i : Nat} {p q : Pt}, Na l → l[i]? = some p → l[i + 1]? = some q → p.2.2 = true ∨ q.2.2 = true
  | [], _, _, _, _, h, _ => by simp at h
  | [x], i, p, q, _, _, h => by simp at h
  | x :: y :: l, 0, p, q, na, h, k => by
    simp at h k
    subst h k
    exact na.1
  | x :: y :: l, i + 1, p, q, na, h, k => na_get (l := y :: l) (i := i) na.2 (by simpa using h) (by simpa using k)
def fRi (ds : List PyData) (d : PyData) : Prop := ∃ c : List Pt, ds = [ctD c] ∧ c.length ≤ 100 ∧ d = ctD (wm c)
def fSt (ds : List PyData) (d : PyData) : Prop := ∃ c : List Pt, ds = [ctD c] ∧ c.length ≤ 100 ∧ d = .int (stOf c)
theorem stOf_first {c : List Pt} {k : Nat} {p : Pt} (hk : c[k]? = some p) (on : p.2.2 = true) (off : ∀ x, x ∈ c.take k → x.2.2 = false) : stOf c = ((wk c k).length : Int) := by
  have hkl := (List.getElem?_eq_some_iff.mp hk).1
  have e : ∃ l, ps c = k :: l := by
    unfold ps
    have h1 : List.range c.length = List.range k ++ (List.range (c.length - k)).map (k + ·) := by
      rw [← List.range_add]
      congr 1
      omega
    rw [h1, List.filter_append]
    have h2 : (List.range k).filter (fun i => (c.getD i p0).2.2) = [] := by
      rw [List.filter_eq_nil_iff]
      intro i hi
      have hi := List.mem_range.mp hi
      obtain ⟨x, hx⟩ : ∃ x, c[i]? = some x := ⟨_, List.getElem?_eq_getElem (by omega)⟩
      rw [getD_of hx, off x (List.mem_of_getElem? (i := i) (by rw [List.getElem?_take]; simp [hi, hx]))]
      decide
    rw [h2, List.nil_append]
    obtain ⟨n, hn⟩ : ∃ n, c.length - k = n + 1 := ⟨c.length - k - 1, by omega⟩
    rw [hn, List.range_succ_eq_map, List.map_cons, List.filter_cons]
    have : (c.getD (k + 0) p0).2.2 = true := by
      rw [Nat.add_zero, getD_of hk]
      exact on
    rw [if_pos this]
    exact ⟨_, rfl⟩
  obtain ⟨l, e⟩ := e
  unfold stOf
  rw [e]
theorem stOf_none {c : List Pt} (off : ∀ x, x ∈ c → x.2.2 = false) : stOf c = ((wm c).length : Int) - 1 := by
  have e : ps c = [] := by
    unfold ps
    rw [List.filter_eq_nil_iff]
    intro i hi
    have hi := List.mem_range.mp hi
    obtain ⟨x, hx⟩ : ∃ x, c[i]? = some x := ⟨_, List.getElem?_eq_getElem hi⟩
    rw [getD_of hx, off x (List.mem_of_getElem? hx)]
    decide
  unfold stOf
  rw [e]
end Fl

set_option Elab.async false
set_option linter.all false
set_option maxRecDepth 100000
set_option maxHeartbeats 4000000
set_option exponentiation.threshold 20000
/-! own errors: B.__init__(self, ..) of an own base; X() without fields; isinstance of a caught one -/
namespace Fl
open PySem PySem.Spec PyProof.Rows L2
/-- what the written part says of an own base class whose __init__ is ValueError's -/
structure BaseC (K : PySem.W.Frag) (C : Addr) : Prop where
  sg : PySem.W.specialIn K (.ref C) "__getattribute__" = some (some (.builtin "type.__getattribute__"))
  ty : PySem.W.typeIn K (.ref C) = some (.type "type")
  rd : PySem.W.readsIn K C (.type "type") = true
  fc : PySem.W.findCls K (.ref C) (.type "type") "__init__" = some (.val (.builtin "ValueError.__init__"))
section
variable {X : Cx} {o e : Expr} {es : List Expr} {te : TE} {ta : TA} {x : Str} {C : Addr} {p p' p1 p2 pos : Pos}
theorem pe_binit {pl : Sem Bool} (hg : Gl X x) (hm : X.mg x = some (.ref C)) (B : BaseC X.K C) (ha : PA X (e :: es) ta) (hdb : (x == ("__debug__" : Str)) = false := by decide)
    (hc : eval (.Call (.Attribute (.Name x p1) "__init__" p2) (e :: es) [] pos) X.env = (do
      let ov ← eval (.Name x p1) X.env
      standAt p2.atName
      let (f, first) ← holding [ov] (getMethod ov "__init__" pl)
      callWith pos f first (backTo pos (starEach (e :: es) X.env)) (backToKw pos (keywordEach [] X.env))) := by rfl)
    (he : starEach (e :: es) X.env = (false, eval e X.env) :: starEach es X.env := by rfl) (hpl : (backTo pos (starEach es X.env)).any (·.1) = false := by rfl) :
    PE X (.Call (.Attribute (.Name x p1) "__init__" p2) (e :: es) [] pos) (tVeI X.K ta) := by
  refine ⟨fun pins s σ H Q I h => PySem.W.methodCall_KW (ld_glob I hg hm ?_ hdb) hc⟩
  obtain ⟨m, fr⟩ := I.fr
  refine PySem.W.method_of_cls fr I.ok.mod.kin B.sg (PySem.W.cls_val fr I.ok.mod.kin B.ty B.rd B.fc (by decide +kernel) ?_)
  refine PyProof.Rows.callWith_method1 (thn (ha.run pos pins _ σ H _ (I.tok _) h) fun us s1 ⟨vs, H1, I1, r1, a, C, ws, ev, hl, T, ea, q⟩ => ?_) he hpl
  subst ev
  cases r1 with
  | cons ra rw' =>
    cases ra
    exact oinit_ok T I1 ea (by rw [← Paired.length rw', sizeLine_eq]; omega) fun s' J => ⟨.non, H1, J, rfl, q⟩
end
section
variable {X : Cx}
/-- an error without fields, made: let go -/
theorem mk_nod {pins : List (Addr × Obj)} {σ : L2.St} {H1 H2 : Hp} {hp hp2 h2 : Heap} {g1 g2 : Array GenState} {d1 d2 : Drawn} {t1 t2 : Nat} {os1 os2 : OsState} {a C : Addr} (I1 : Inv X pins σ H1 ⟨hp, g1, d1, t1, os1⟩)
    (ha : hp.objs.size ≤ a) (k : ∀ b o, hp.get? b = some o → hp2.get? b = some o) (un : Un (frs X.stack) [] (upd H1 a (exo a C none)) H2 hp2 h2) (hok : HOk X.prog X.w H2 h2) (ho : os2 = os1) (hb : AllBare g2) (ea : H2 a = some (exo a C none)) :
    ∃ (t0 : Addr) (G : Heap), Inv X pins σ (del H2 a) ⟨G, g2, d2, t2, os2⟩ ∧ (∀ b o, G.get? b = some o → h2.get? b = some o) ∧ G.get? a = none ∧
      h2.get? a = some ({ cls := .ref C, dict := none, data := .fields #[.ref t0, .none, .none, .none, .bool false, .none] } : Obj) := by
  obtain ⟨t0, hoe⟩ := exo_at hok ea
  have hn : H1 a = none := I1.hok.fresh ha
  obtain ⟨G, gk', ge'⟩ := restrict h2 fun b => decide (b ≠ a)
  have gk : ∀ b, b ≠ a → G.get? b = h2.get? b := fun b n => gk' b (decide_eq_true n)
  have ge : G.get? a = none := ge' a (by simp)
  have old : ∀ {b : Addr} {u : Obj}, hp.get? b = some u → b ≠ a := fun z => Nat.ne_of_lt (Nat.lt_of_lt_of_le (Heap.lt_size z) ha)
  have none1 : ∀ {b : Addr}, b ≠ a → H1 b = none → upd H1 a (exo a C none) b = none := fun n z => (upd_ne n).trans z
  have some1 : ∀ {b : Addr} {u : HO}, H1 b = some u → upd H1 a (exo a C none) b = some u := fun z => (upd_ne (ne_of_none z hn)).trans z
  have U : Un (frs X.stack) [] H1 (del H2 a) hp G :=
    { keep := fun b u z n hf hx => (gk b (old z)).trans (un.keep b u (k b u z) (none1 (old z) n) hf hx)
      slot := fun b u z n hf hx => by rw [gk b (old z)]; exact un.slot b u (k b u z) (none1 (old z) n) hf hx
      free := fun b u z n hx => (del_ne (old z)).trans (un.free b u (k b u z) (none1 (old z) n) hx)
      there := fun b u z hx => by rw [gk b (old z)]; exact un.there b u (k b u z) hx
      tups := fun b xs z => (del_ne (ne_of_none z hn)).trans (un.tups b xs (some1 z))
      frzs := fun b u v z => (del_ne (ne_of_none z hn)).trans (un.frzs b u v (some1 z))
      tbls := fun b ps z => by rw [del_ne (ne_of_none z hn)]; exact un.tbls b ps (some1 z) }
  have hok3 : HOk X.prog X.w (del H2 a) G := fun b u z => by
    have n : b ≠ a := fun e => by rw [e, del_same] at z; cases z
    rw [del_ne n] at z
    have away : ∀ {c : Addr}, H2 c = some (.own b) → c ≠ a := fun hc => at_ne ea hc exo_own
    refine (hok b u z).stay (fun c v hc y => (gk c ?_).trans y) (fun c hc => (del_ne (away hc)).trans hc) (fun c xs hc => (del_ne (at_ne ea hc exo_tup)).trans hc)
    rcases hc with hc | hc
    · rw [hc]; exact n
    · exact away hc
  refine ⟨t0, G, I1.call' (ch := []) ho U hok3 hb (fun b z => absurd z (by simp)), fun b u z => ?_, ge, hoe⟩
  rcases Decidable.em (b = a) with e | e
  · rw [e, ge] at z; cases z
  · exact (gk b e).symm.trans z
/-- X(), X's __init__ keeping sp -/
def tMkN (C : Addr) (sp : Sp) : L2.St → Hp → XK → Prop := fun _ H Q => ∀ a, H a = none → sp [.ref a] (upd H a (exo a C none)) (fun v H2 => v = .non ∧ H2 a = some (exo a C none) ∧ Q (.ref C) none (del H2 a)) (fun _ _ _ => False)
theorem pmk_nod {CX : CXT} {x : Str} {C fI : Addr} {k : Nat} {fd : FuncData} {ps : List Str} {sp : Sp} {p pos : Pos} (T : OexC X.K C) (iC : PySem.W.findIn X.K (.ref C) "__init__" = some (some (.ref fI))) (tI : PySem.W.typeIn X.K (.ref fI) = some (.type "function"))
    (F1 : FnOk X.prog X.w X.K X.mg X.base CX k fI fd ps sp) (hr : Room (k + 1) X.A) (hb : Binds X.K fd ps []) (hx : Passes CX X (fun _ _ _ => False)) (hg : Gl X x) (hm : X.mg x = some (.ref C)) (hdb : (x == ("__debug__" : Str)) = false := by decide) :
    PMk X (.Call (.Name x p) [] [] pos) (tMkN C sp) := by
  intro pins s σ H Q I h
  obtain ⟨nm, q, N, bs, bm, sn, sub, ab, col, dd, k0, k1, k2, k3, k5, hC, hbm⟩ := T.cls
  refine wpAny_Call_Name_kw (ld_glob I hg hm (PySem.W.callWith_K0 I.kIn T.kC ?_) hdb)
  show wpAny _ _ (call (.ref C) []) _ _ _
  obtain ⟨hp, g, dr, tk, os⟩ := s
  have hsz : hp.objs.size ≤ hp.objs.size + 1 := Nat.le_succ _
  have hn : H (hp.objs.size + 1) = none := I.hok.fresh hsz
  have hq := h (hp.objs.size + 1) hn
  have kk : ∀ b o, hp.get? b = some o → ((hp.push (PySem.W.kdv_tup [])).push (PySem.HandSPX.excO C hp.objs.size)).get? b = some o := fun b o e => Heap.get?_push_of_some _ (Heap.get?_push_of_some _ e)
  have here : ((hp.push (PySem.W.kdv_tup [])).push (PySem.HandSPX.excO C hp.objs.size)).get? (hp.objs.size + 1) = some (PySem.HandSPX.excO C hp.objs.size) := by heap_get
  have I2 : Inv X pins σ (upd H (hp.objs.size + 1) (exo (hp.objs.size + 1) C none)) ⟨(hp.push (PySem.W.kdv_tup [])).push (PySem.HandSPX.excO C hp.objs.size), g, dr, tk, os⟩ := I.laid (t' := tk) kk hsz (exo_ok here)
  have r2 : Vals [V.ref (hp.objs.size + 1)] [Value.ref (hp.objs.size + 1)] := .cons rfl .nil
  have hl : ([Value.ref (hp.objs.size + 1)] ++ ([] : List Value)).length = ps.length := (F1.len _ _ _ _ hq)
  refine wpAny_call (PySem.HandSPX.call_own F.excBase_ValueError (fun Y => PySem.HandSPX.refsVE_contains Y bm hbm) (I.kIn _ _ hC) (PySem.W.looks_findIn I.kIn iC) (fun self => PySem.W.bind_fn I.kIn self tI) (Nat.zero_le _)
    (codeAny_mono (F1.run _ X.stack _ _ ⟨[Value.ref (hp.objs.size + 1)], []⟩ [Value.ref (hp.objs.size + 1)] _ _ (fun _ _ _ => False) (hr.make C [] []) (I2.env0.make C [] []) (hb _ _ I2.kIn hl) r2 hq) fun r s' hq' => ?_))
  match r, hq' with
  | .error er, hq' => exact hx pins σ _ _ er s' I2 hq'
  | .ok (.ret u), ⟨v, H2, os2, bare2, un2, hok2, rv, ev, ea, q2⟩ =>
    subst ev
    obtain ⟨h2, g2, d2, t2, os'⟩ := s'
    obtain ⟨t0, G, J, kG, ge, hoe⟩ := mk_nod (d2 := d2) (t2 := t2) I hsz kk un2 hok2 os2 bare2 ea
    exact ⟨rv, _, _, _, ⟨G, g2, d2, t2, os'⟩, _, .ref C, none, rfl, J, kG, ge, hoe, ⟨rfl, rfl⟩, rfl, rfl, del_same, rfl, bare2, raises_own T.exC T.tyC, q2⟩
/-- isinstance(e, c), e the error that the suite holds, without fields -/
def rIsN (K : PySem.W.Frag) (cls : Value) (d : Option Addr) (a : Addr) : List V → Hp → VK → Prop := fun xs H Q => ∃ D, cls = .ref D ∧ d = none ∧ ExcC K D ∧ rIsE K D a xs H Q
theorem call_isN {a : Addr} {cls : Value} {d : Option Addr} {oe : Obj} {K : PySem.W.Frag} (eK : X.K = K) (hp : (a, oe) ∈ X.pn) (hz : Zc cls d oe) (hf : ∃ vs, oe.data = .fields vs) : CallR X (.builtin "isinstance") (rIsN K cls d a) := by
  subst eK
  intro pins s σ H xs us Q I r ⟨D, e1, e2, C, c, cv, b, e3, hcv, e, q⟩
  subst e1 e2 e3
  obtain ⟨u1, u2, rfl, r1, r2⟩ := vals2 r
  cases r1
  obtain rfl := hcv _ r2
  obtain ⟨vs, hv⟩ := hf
  have J : PySem.W.InstAt s.heap a oe D none := by
    obtain ⟨h1, h2⟩ := hz
    refine ⟨(I.pin (a, oe) (List.mem_append_left _ hp)).1, h1, ?_, ?_⟩
    · unfold PySem.W.notCls
      rw [hv]
    · rw [h2]
      trivial
  exact PySem.W.kia_one (PySem.W.handS_kitx_exc C.hg C.hk C.hs C.hd C.ha C.hn C.ht C.hm) I.kIn J e (fun z => nomatch z) fun tk => ⟨.bl b, H, I.kept (t' := tk) fun _ _ z => z, rfl, q⟩
end
end Fl
namespace Fl
open PySem PySem.Spec PyProof.Rows L2
/-- where a name of the module's top stands -/
def adr (mg : Str → Option Value) (x : Str) : Addr := match mg x with | some (.ref a) => a | _ => 0
theorem adr_of {mg : Str → Option Value} {x : Str} {a : Addr} (h : mg x = some (.ref a)) : adr mg x = a := by unfold adr; rw [h]
/-- an own error class without fields -/
structure ClsN (K : PySem.W.Frag) (mg : Str → Option Value) (x qual : Str) (st : Stmt) : Prop where
  g : mg x = some (.ref (adr mg x))
  o : OexC K (adr mg x)
  c : ExcC K (adr mg x)
  i : ∃ (fI : Addr) (fd : FuncData), PySem.W.findIn K (.ref (adr mg x)) "__init__" = some (some (.ref fI)) ∧ PySem.W.typeIn K (.ref fI) = some (.type "function") ∧ Fun K "__init__" qual st fI fd
def spIniN (K : PySem.W.Frag) (C : Addr) : Sp := fun vs H Q _ => ∃ a : Addr, vs = [.ref a] ∧ H a = some (exo a C none) ∧ Q .non H
structure MkX (P : Program) (w : World) (K : PySem.W.Frag) (mg : Str → Option Value) (base : Heap) (k : Nat) (x : Str) : Prop where
  g : mg x = some (.ref (adr mg x))
  o : OexC K (adr mg x)
  i : ∃ (fI : Addr) (fd : FuncData), PySem.W.findIn K (.ref (adr mg x)) "__init__" = some (some (.ref fI)) ∧ PySem.W.typeIn K (.ref fI) = some (.type "function") ∧ FnOk P w K mg base L2.CX0 k fI fd ["self"] (spIniN K (adr mg x)) ∧ L2.Binds K fd ["self"] []
def tRaiseN (W : WX) (C : Addr) : TS := fun _ σ H => W (.ref C) none σ H
theorem del_upd {H : Hp} {a : Addr} {u : HO} (h : H a = none) : del (upd H a u) a = H := by
  funext b
  by_cases e : b = a
  · rw [e, del_same, h]
  · rw [del_ne e, upd_ne e]
theorem ps_raiseN {X : Cx} {W : WX} {k : Nat} {x : Str} {p pos pos2 : Pos} (M : MkX X.prog X.w X.K X.mg X.base k x) (hc : X.calm = true) (hr : Room (k + 1) X.A) (tk : Takes X W) (hg : Gl X x := by rfl) (hdb : (x == ("__debug__" : Str)) = false := by decide) :
    PS X (.Raise (some (.Call (.Name x p) [] [] pos)) none pos2) (tRaiseN W (adr X.mg x)) := by
  obtain ⟨fI, fd, iC, tI, F, b⟩ := M.i
  refine ⟨fun pins s σ H D I h => (ps_raise hc tk (pmk_nod (CX := L2.CX0) M.o iC tI F hr b (fun _ _ _ _ _ _ _ z => z.elim) hg M.g hdb)).run pins s σ H D I fun a ha => ⟨a, rfl, upd_same, rfl, upd_same, ?_⟩⟩
  rw [del_upd ha]
  exact h
/-- defs that may raise -/
structure HasX (P : Program) (w : World) (K : PySem.W.Frag) (mg : Str → Option Value) (base : Heap) (k : Nat) (x : Str) (ps : List Str) (sp : Sp) : Prop where
  ex : ∃ (f : Addr) (fd : FuncData), FnOk P w K mg base (L2.CX P w) k f fd ps sp ∧ mg x = some (.ref f) ∧ PySem.W.keepIn K (.ref f) = true ∧ L2.Binds K fd ps []
abbrev bxX (P : Program) (w : World) (K : PySem.W.Frag) (mg : Str → Option Value) (base : Heap) (N : List Str) (x : Str) (st : Stmt) (f : Addr) (cdv : Value) (A : Around) (outer : List Env) (s : Shared) (H : Hp) (E : XK) : Cx :=
  cxOf (L2.CX P w) P w K mg base N x (defScope st) f cdv A outer s H E
section
variable {P : Program} {w : World} {K : PySem.W.Frag} {mg : Str → Option Value} {base : Heap}
theorem hasX_of {x : Str} {st : Stmt} {N ps : List Str} {k : Nat} {sp : Sp} (D : DefIn K mg x st) (S : FnScope N ps (defScope st))
    (hb : ∀ (kV doc pm : Value) (an : Option Addr) (cdv ct : Value) (us : List Value), us.length = ps.length → bindArgs (PySem.W.fnOf x x (defArgs st) (defBody st) (defScope st) .none kV doc pm an cdv ct) ⟨us, []⟩ = pure (ps.zip us))
    (len : ∀ vs H Q E, sp vs H Q E → vs.length = ps.length)
    (hbody : ∀ (f : Addr) (cdv : Value) (A : Around) (outer : List Env) (s : Shared) (H : Hp) (vs : List V) (Q : VK) (E : XK), Room k (A.deeper (envOfC x (defScope st) s.heap.objs.size f cdv)) → sp vs H Q E →
      ∃ t, PSs (bxX P w K mg base N x st f cdv A outer s H E) (defBody st) t ∧ t { nx := fun _ H' => Q .non H', rt := Q } (start N vs) H) : HasX P w K mg base (k + 1) x ps sp := by
  obtain ⟨f, fd, F, m⟩ := D.ex
  exact ⟨f, fd, F.okX S len fun cdv A outer s H vs Q E hr h => hbody f cdv A outer s H vs Q E hr h, m, F.kp, F.binds hb⟩
/-- the same of a def with defaults, all values written -/
theorem hasXD_of {x : Str} {st : Stmt} {N ps : List Str} {k : Nat} {sp : Sp} {dvs : List V} (D : DefInD K mg x st dvs) (S : FnScope N ps (defScope st)) (hd : dvs ≠ [])
    (hb : ∀ (T : Addr) (kV doc pm : Value) (an : Option Addr) (cdv ct : Value) (us its : List Value), us.length = ps.length → its.length = dvs.length →
      ∃ k, bindArgs (PySem.W.fnOf x x (defArgs st) (defBody st) (defScope st) (.ref T) kV doc pm an cdv ct) ⟨us, []⟩ = seqItems? (.ref T) >>= k ∧ k (some its.toArray) = pure (ps.zip (us ++ its.drop dvs.length)))
    (len : ∀ vs H Q E, sp vs H Q E → vs.length = ps.length)
    (hbody : ∀ (f : Addr) (cdv : Value) (A : Around) (outer : List Env) (s : Shared) (H : Hp) (vs : List V) (Q : VK) (E : XK), Room k (A.deeper (envOfC x (defScope st) s.heap.objs.size f cdv)) → sp vs H Q E →
      ∃ t, PSs (bxX P w K mg base N x st f cdv A outer s H E) (defBody st) t ∧ t { nx := fun _ H' => Q .non H', rt := Q } (start N vs) H) : HasX P w K mg base (k + 1) x ps sp := by
  obtain ⟨f, fd, F, m⟩ := D.ex
  obtain ⟨ds, r, b⟩ := F.binds1 ps.length dvs.length hd (by rw [Nat.sub_self, Nat.add_zero]) hb
  rw [List.drop_length] at r
  cases r
  exact ⟨f, fd, F.ok S len fun cdv A outer s H vs Q E hr h => hbody f cdv A outer s H vs Q E hr h, m, F.kp, b⟩
theorem mkX_of {x qual : Str} {st : Stmt} {k : Nat} (C : ClsN K mg x qual st) (S : FnScope ["self"] ["self"] (defScope st))
    (hb : ∀ (kV doc pm : Value) (an : Option Addr) (cdv ct : Value) (us : List Value), us.length = 1 → bindArgs (PySem.W.fnOf "__init__" qual (defArgs st) (defBody st) (defScope st) .none kV doc pm an cdv ct) ⟨us, []⟩ = pure ((["self"] : List Str).zip us))
    (hbody : ∀ (f : Addr) (cdv : Value) (A : Around) (outer : List Env) (s : Shared) (H : Hp) (a : Addr) (Q : VK) (E : XK), Room k (A.deeper (envOfC qual (defScope st) s.heap.objs.size f cdv)) → H a = some (exo a (adr mg x) none) → Q .non H →
      ∃ t, PSs (cxOf L2.CX0 P w K mg base ["self"] qual (defScope st) f cdv A outer s H E).nox (defBody st) t ∧ t { nx := fun _ H' => Q .non H', rt := Q } (start ["self"] [.ref a]) H) : MkX P w K mg base (k + 1) x := by
  obtain ⟨fI, fd, iC, tI, F⟩ := C.i
  refine ⟨C.g, C.o, fI, fd, iC, tI, F.ok S (fun vs H Q E ⟨a, e, _⟩ => by rw [e]; rfl) fun cdv A outer s H vs Q E hr ⟨a, e, h, q⟩ => ?_, F.binds hb⟩
  subst e
  exact hbody fI cdv A outer s H a Q E hr h q
end
theorem pe_hX {X : Cx} {k : Nat} {x : Str} {ps : List Str} {sp : Sp} {W : WX} {e : Expr} {es : List Expr} {t : TA} {p pos : Pos} (h : HasX X.prog X.w X.K X.mg X.base k x ps sp) (hr : Room k X.A) (tk : Takes X W) (ha : PA X (e :: es) t) (hg : Gl X x := by rfl)
    (hdb : (x == ("__debug__" : Str)) = false := by decide) (he : starEach (e :: es) X.env = (false, eval e X.env) :: starEach es X.env := by rfl) (hpl : (backTo pos (starEach es X.env)).any (·.1) = false := by rfl) :
    PE X (.Call (.Name x p) (e :: es) [] pos) (tCallS sp (WE W) t) := by
  obtain ⟨f, fd, a, b, c, d⟩ := h.ex
  exact pe_callS a hr hg b c d (fun σ => passAt tk σ) ha hdb he hpl
theorem g_callS {sp : Sp} {E : L2.St → XK} {t : TA} {σ : L2.St} {H : Hp} {Q : VK} (h : t σ H fun vs H1 => sp vs H1 Q (E σ)) : tCallS sp E t σ H Q := h
theorem g_raiseN {W : WX} {C : Addr} {D : Ends} {σ : L2.St} {H : Hp} (h : W (.ref C) none σ H) : tRaiseN W C D σ H := h
theorem g_isN {K : PySem.W.Frag} {D a : Addr} {c : V} {cv : Value} {b : Bool} {H : Hp} {Q : VK} (C : ExcC K D) (hc : ∀ u, RelV c u → u = cv) (k : PySem.W.kitOne K (.ref D) cv = some b) (q : Q (.bl b) H) : rIsN K (.ref D) none a [.ref a, c] H Q := ⟨D, rfl, rfl, C, c, cv, b, rfl, hc, k, q⟩
theorem wAs_yes {K : PySem.W.Frag} {c cls : Value} {d : Option Addr} {i : Nat} {ts : Addr → Value → Option Addr → TS} {Wout : WX} {D : Ends} {σ : L2.St} {H : Hp} (h : PySem.W.exmOne K cls c = some true)
    (k : ∀ a, H a = none → ts a cls d { nx := fun σ' H' => D.nx (σ'.set i none) H', rt := D.rt, bk := fun σ' H' => D.bk (σ'.set i none) H', ct := fun σ' H' => D.ct (σ'.set i none) H' } (σ.set i (some (.ref a))) H) : wAs K c i ts Wout D cls d σ H :=
  ⟨true, h, fun _ => k, fun z => nomatch z⟩
theorem Has.imp {P : Program} {w : World} {K : PySem.W.Frag} {mg : Str → Option Value} {base : Heap} {k : Nat} {x : Str} {ps : List Str} {sp sp' : Sp} (h : Has P w K mg base k x ps sp) (i : ∀ vs H Q E, sp' vs H Q E → sp vs H Q E) : Has P w K mg base k x ps sp' := by
  obtain ⟨f, fd, a, b⟩ := h.ex
  exact ⟨f, fd, a.imp i, b⟩
end Fl
namespace Fl
open PySem PySem.Spec PyProof.Rows L2
theorem ratq_rat {K : PySem.W.Frag} {vs : List V} {H : Hp} {Q : VK} {E : XK} (h : spRatq K vs H Q E) : spRat vs H Q E := by
  obtain ⟨p, q, rfl, hq, h1, h2, k⟩ := h
  refine ⟨p, q, rfl, hq, Nat.lt_of_lt_of_le h1 (Nat.pow_le_pow_right (by decide) (by decide)), Nat.lt_of_lt_of_le h2 (Nat.pow_le_pow_right (by decide) (by decide)), fun t ht => k t _ ht (Fl.Same.new ht) ?_⟩
  unfold RV
  rw [rp_num hq, rq_den hq]
  exact SqT.of upd_same
def spInt (K : PySem.W.Frag) : Sp := fun vs H Q _ => ∃ d : Addr, vs = [.ref d] ∧ DeckAt K H d ∧ ∀ v H', v.natAbs < 10 ^ 60 → DeckAt K H' d → Ex1 d H H' → Q (.int v) H'
theorem int_app {K : PySem.W.Frag} {d : Addr} {H : Hp} {Q : VK} {E : XK} (h : DeckAt K H d) (k : ∀ v H', v.natAbs < 10 ^ 60 → DeckAt K H' d → Ex1 d H H' → Q (.int v) H') : spInt K [.ref d] H Q E := ⟨d, rfl, h, k⟩
def spSameQ (K : PySem.W.Frag) : Sp := fun vs H Q _ => ∃ (a b : Addr) (x : Rat), vs = [.ref a, .ref b] ∧ RV K H a x ∧ RV K H b x ∧ Q (.bl true) H
theorem sameQ_app {K : PySem.W.Frag} {a b : Addr} {x : Rat} {H : Hp} {Q : VK} {E : XK} (h1 : RV K H a x) (h2 : RV K H b x) (q : Q (.bl true) H) : spSameQ K [.ref a, .ref b] H Q E := ⟨a, b, x, rfl, h1, h2, q⟩
def spRat0 (Z : Addr) : Sp := fun vs H _ E => ∃ p : Int, vs = [.int p, .int 0] ∧ E (.ref Z) none H
def spDiv0 (K : PySem.W.Frag) (Z : Addr) : Sp := fun vs H _ E => ∃ (a b : Addr) (x : Rat), vs = [.ref a, .ref b] ∧ RV K H a x ∧ Md x ∧ SqT K H b [.int 0, .int 1] ∧ E (.ref Z) none H
def spRefu (K : PySem.W.Frag) : Sp := fun vs H Q _ => ∃ (p : Int) (a : Addr) (x : Rat), vs = [.int p, .ref a] ∧ RV K H a x ∧ Md x ∧ ∀ H', Same H H' → Q (.bl true) H'
theorem refu_app {K : PySem.W.Frag} {p : Int} {a : Addr} {x : Rat} {H : Hp} {Q : VK} {E : XK} (h : RV K H a x) (m : Md x) (q : ∀ H', Same H H' → Q (.bl true) H') : spRefu K [.int p, .ref a] H Q E := ⟨p, a, x, rfl, h, m, q⟩
theorem rv_int {K : PySem.W.Frag} {H : Hp} {a : Addr} {p : Int} (h : SqT K H a [.int p, .int 1]) : RV K H a (Rat.divInt p 1) := by
  unfold RV
  have e1 : (Rat.divInt p 1).num = p := by rw [Rat.num_divInt]; simp
  have e2 : (Rat.divInt p 1).den = 1 := by rw [Rat.den_divInt]; simp
  rw [e1, e2]
  exact h
end Fl
namespace Fl
open PySem PySem.Spec PyProof.Rows L2
theorem tyT {K : PySem.W.Frag} {H : Hp} {a : Addr} {xs : List V} (h : SqT K H a xs) : TyX K H (.ref a) (.type "tuple") := by
  rcases h with (h | ⟨o, h⟩) | ⟨o, its, n, h, c, _⟩
  · exact .base (.tup h)
  · exact .fTuple h
  · exact .kTuple h c
end Fl
namespace Fl
open PySem PySem.Spec PyProof.Rows L2
theorem pe_cls {X : Cx} {x : Str} {pos : Pos} {a : Addr} (g : Gl X x) (h : X.mg x = some (.ref a)) (n : (x == ("__debug__" : Str)) = false := by decide) : PE X (.Name x pos) (tC (.ref a)) := pe_glob g h rfl n
end Fl
namespace Fl
open PySem PySem.Spec PyProof.Rows L2
theorem pe_asK {X : Cx} {e : Expr} {t t' : TE} (h : PE X e t) (q : t' = t := by rfl) : PE X e t' := by subst q; exact h
end Fl
namespace Fl
open PySem PySem.Spec PyProof.Rows L2
theorem pe_bmK {X : Cx} {K : PySem.W.Frag} {o e : Expr} {es : List Expr} {to : TE} {t : TA} {T id : String} {name : Str} {apos cpos : Pos} {r : V → List V → Hp → VK → Prop} (eK : X.K = K) (pa : PlainAttrs T) (slot : Slot T name id) (hty : typeOf (.builtin id) = pure (.type "method_descriptor")) (hm : MtR X id r) (ho : PE X o to) (ha : PA X (e :: es) t)
    (h1 : attributeBase o name X.env (eval o X.env) = eval o X.env := by rfl)
    (h2 : ((backTo cpos (starEach (e :: es) X.env)).all (fun x => !x.1) && (backToKw cpos (keywordEach [] X.env)).all (fun x => x.1.isSome) && decide ((e :: es).length + ([] : List Keyword).length + (if ([] : List Keyword).isEmpty then 0 else 1) < 30)) = true := by rfl)
    (h3 : (apos.endLine == cpos.line) = true := by rfl) (h4 : starEach (e :: es) X.env = (false, eval e X.env) :: starEach es X.env := by rfl) (h5 : (backTo cpos (starEach es X.env)).any (·.1) = false := by rfl) :
    PE X (.Call (.Attribute o name apos) (e :: es) [] cpos) (tBM K T r to t) := by
  subst eK
  exact pe_bm pa slot hty hm ho ha h1 h2 h3 h4 h5
end Fl
namespace Fl
open PySem PySem.Spec PyProof.Rows L2
theorem kit_self (K : PySem.W.Frag) (a : Addr) : PySem.W.kitOne K (.ref a) (.ref a) = some true := by
  unfold PySem.W.kitOne
  rw [if_pos (by simp)]
theorem kit_typ {K : PySem.W.Frag} {a : Addr} {T : String} {b : Bool} (h : PySem.W.subIn K (.ref a) (.type T) = some b) (m : PySem.W.kitMeta T = true) : PySem.W.kitOne K (.ref a) (.type T) = some b := by
  unfold PySem.W.kitOne
  rw [if_neg (by intro z; cases z)]
  show (if PySem.W.kitMeta T = true then PySem.W.subIn K (.ref a) (.type T) else none) = some b
  rw [if_pos m, h]
end Fl

set_option Elab.async false
set_option linter.all false
set_option maxRecDepth 100000
set_option maxHeartbeats 4000000
set_option exponentiation.threshold 20000
/-! objects of the program's own classes: made with named parameters, their fields set and read -/
namespace Fl
open PySem PySem.Spec PyProof.Rows L2

/-! ### parameters put in order -/
def pick {α : Type} (is : List Nat) (l : List α) : List α := is.filterMap fun i => l[i]?
theorem Vals.getO : ∀ {vs : List V} {us : List Value} (h : Vals vs us) (i : Nat), (∃ v u, vs[i]? = some v ∧ us[i]? = some u ∧ RelV v u) ∨ (vs[i]? = none ∧ us[i]? = none)
  | _, _, .nil, i => .inr ⟨by simp, by simp⟩
  | _, _, .cons h r, 0 => .inl ⟨_, _, rfl, rfl, h⟩
  | _, _, .cons h r, i + 1 => by
    rcases Vals.getO r i with ⟨v, u, a, b, c⟩ | ⟨a, b⟩
    · exact .inl ⟨v, u, by simpa using a, by simpa using b, c⟩
    · exact .inr ⟨by simpa using a, by simpa using b⟩
theorem Vals.pick {vs : List V} {us : List Value} (h : Vals vs us) : ∀ is : List Nat, Vals (Fl.pick is vs) (Fl.pick is us)
  | [] => .nil
  | i :: is => by
    unfold Fl.pick
    rw [List.filterMap_cons, List.filterMap_cons]
    rcases Vals.getO h i with ⟨v, u, a, b, c⟩ | ⟨a, b⟩
    · rw [a, b]
      exact .cons c (Vals.pick h is)
    · rw [a, b]
      exact Vals.pick h is
theorem Vals.app : ∀ {vs : List V} {us : List Value} {ws : List V} {zs : List Value}, Vals vs us → Vals ws zs → Vals (vs ++ ws) (us ++ zs)
  | _, _, _, _, .nil, k => k
  | _, _, _, _, .cons h r, k => .cons h (Vals.app r k)

/-! ### classes -/
/-- a class without bases whose __init__ has named parameters with defaults -/
structure ClsI (K : PySem.W.Frag) (mg : Str → Option Value) (x qual : Str) (st : Stmt) (fs : List Str) (kws : List (Str × V)) : Prop where
  g : mg x = some (.ref (adr mg x))
  cl : Cls K (adr mg x)
  na : ∀ f, f ∈ fs → NoAttr K (adr mg x) f
  mi : ∃ (f : Addr) (fd : FuncData), Mk K (adr mg x) f ∧ FunD K "__init__" qual (defArgs st) (defBody st) (defScope st) [] kws f fd
/-- the class can be called with n values and the names ks -/
structure MkI (P : Program) (w : World) (K : PySem.W.Frag) (mg : Str → Option Value) (base : Heap) (k : Nat) (x : Str) (n : Nat) (ks : List Str) (gV : List V → List V → List V) (sp : Sp) : Prop where
  ex : ∃ (f : Addr) (fd : FuncData) (ps : List Str) (g : List Value → List Value → List Value), mg x = some (.ref (adr mg x)) ∧ Mk K (adr mg x) f ∧ FnOk P w K mg base L2.CX0 k f fd ps sp ∧ KBn K fd ps (n + 1) ks g gV
theorem MkI.mono {P : Program} {w : World} {K : PySem.W.Frag} {mg : Str → Option Value} {base : Heap} {j k : Nat} {x : Str} {n : Nat} {ks : List Str} {gV : List V → List V → List V} {sp : Sp} (h : MkI P w K mg base j x n ks gV sp) (e : j ≤ k) : MkI P w K mg base k x n ks gV sp := by
  obtain ⟨f, fd, ps, g, a, b, c, d⟩ := h.ex
  exact ⟨f, fd, ps, g, a, b, c.mono e, d⟩
/-- an __init__'s promise -/
structure InI (P : Program) (w : World) (K : PySem.W.Frag) (mg : Str → Option Value) (base : Heap) (k : Nat) (x qual : Str) (st : Stmt) (fs : List Str) (kws : List (Str × V)) (ps : List Str) (sp : Sp) : Prop where
  ex : ∃ (f : Addr) (fd : FuncData), mg x = some (.ref (adr mg x)) ∧ Mk K (adr mg x) f ∧ FunD K "__init__" qual (defArgs st) (defBody st) (defScope st) [] kws f fd ∧ FnOk P w K mg base L2.CX0 k f fd ps sp
section
variable {P : Program} {w : World} {K : PySem.W.Frag} {mg : Str → Option Value} {base : Heap}
theorem inI_of {x qual : Str} {st : Stmt} {fs : List Str} {kws : List (Str × V)} {N ps : List Str} {k : Nat} {sp : Sp} (D : ClsI K mg x qual st fs kws) (S : FnScope N ps (defScope st))
    (len : ∀ vs H Q E, sp vs H Q E → vs.length = ps.length)
    (hbody : ∀ (f : Addr) (cdv : Value) (A : Around) (outer : List Env) (s : Shared) (H : Hp) (vs : List V) (Q : VK) (E : XK), Room k (A.deeper (envOfC qual (defScope st) s.heap.objs.size f cdv)) → sp vs H Q E →
      ∃ t, PSs (bx P w K mg base N qual st f cdv A outer s H E) (defBody st) t ∧ t { nx := fun _ H' => Q .non H', rt := Q } (start N vs) H) : InI P w K mg base (k + 1) x qual st fs kws ps sp := by
  obtain ⟨f, fd, M, F⟩ := D.mi
  refine ⟨f, fd, D.g, M, F, F.ok S len fun cdv A outer s H vs Q E hr h => ?_⟩
  obtain ⟨t, ht, q⟩ := hbody f cdv A outer s H vs Q E hr h
  exact ⟨t, ht.nox, q⟩
/-- the calls with n values and the names ks; ms stand by default; is: where each parameter stands in values, defaults, named ones -/
theorem InI.make {x qual : Str} {st : Stmt} {fs : List Str} {kws : List (Str × V)} {ps : List Str} {k : Nat} {sp : Sp} (D : InI P w K mg base k x qual st fs kws ps sp) (n : Nat) (ks : List Str) (ms : List (Str × V)) (is : List Nat) (hk : kws ≠ [])
    (hm : ∀ q, q ∈ ms → q ∈ kws)
    (hb : ∀ (D : Addr) (doc pm : Value) (an : Option Addr) (cdv ct : Value) (us mv ws : List Value), us.length = n + 1 → mv.length = ms.length → ws.length = ks.length →
      KwChain D ((ms.map (fun x => x.fst)).zip mv) (bindArgs (PySem.W.fnOf "__init__" qual (defArgs st) (defBody st) (defScope st) .none (.ref D) doc pm an cdv ct) ⟨us, ks.zip ws⟩) (ps.zip (pick is (us ++ (mv ++ ws))))) :
    MkI P w K mg base k x n ks (fun vs zs => pick is (vs ++ (ms.map (fun x => x.snd) ++ zs))) sp := by
  obtain ⟨f, fd, a, M, F, G⟩ := D.ex
  obtain ⟨mv, b⟩ := F.kbinds0 (n + 1) ks ms (fun {α} us mv ws => pick is (us ++ (mv ++ ws))) hk hm (fun h1 h2 h3 => Vals.pick (Vals.app h1 (Vals.app h2 h3)) is) hb
  exact ⟨f, fd, ps, _, a, M, G, b⟩
end
theorem pe_mk {X : Cx} {mg : Str → Option Value} {k n : Nat} {x : Str} {ks : List Str} {sp : Sp} {gV : List V → List V → List V} {e : Expr} {es : List Expr} {kws : List Keyword} {t tk : TA} {p pos : Pos} (em : X.mg = mg) (h : MkI X.prog X.w X.K X.mg X.base k x n ks gV sp) (hr : Room (k + 1) X.A) (ha : PA X (e :: es) t) (hk : PK X kws tk) (hg : Gl X x := by rfl)
    (h1 : ((backToKw pos (keywordEach kws X.env)).all fun x => x.fst.isSome) = true := by rfl) (h2 : List.filterMap (fun x => x.fst) (backToKw pos (keywordEach kws X.env)) = ks := by rfl)
    (hdb : (x == ("__debug__" : Str)) = false := by decide) (he : starEach (e :: es) X.env = (false, eval e X.env) :: starEach es X.env := by rfl)
    (hpl : (((backTo pos (starEach (e :: es) X.env)).any fun x => x.fst) || (backToKw pos (keywordEach kws X.env)).any fun x => x.fst.isNone) = false := by rfl) :
    PE X (.Call (.Name x p) (e :: es) kws pos) (tMakeK (adr mg x) n ks.length sp gV E0 t tk) := by
  subst em
  obtain ⟨f, fd, ps, g, a, b, c, d⟩ := h.ex
  exact pe_makeK b c hr hg a d pass0 ha hk h1 h2 hdb he hpl

/-! ### walked things of two kinds -/
def iOr (t1 t2 : TI) : TI := fun σ H R => t1 σ H R ∨ t2 σ H R
theorem piOr {X : Cx} {tg l : Expr} {t1 t2 : TI} (h1 : PI X tg l t1) (h2 : PI X tg l t2) : PI X tg l (iOr t1 t2) := ⟨fun pins s σ H R I h => h.elim (h1.run pins s σ H R I) (h2.run pins s σ H R I)⟩
theorem piS {X : Cx} {K : PySem.W.Frag} {l tg : Expr} {tl : TE} (e : X.K = K) (h : PE X l tl) : PI X tg l (iOr (iList K tl) (iTup K tl)) := piOr (piL e h) (piT e h)
section
variable {X : Cx} {K : PySem.W.Frag}
def rTupOf (K : PySem.W.Frag) : List V → Hp → VK → Prop := fun xs H Q => ∃ p ys, xs = [V.ref p] ∧ ((SqL K H p ys ∧ ∀ l, H l = none → Q (.ref l) (upd H l (.tup ys))) ∨ SqT K H p ys ∧ Q (.ref p) H)
theorem clTupOf (e : X.K = K) : CallR X (.type "tuple") (rTupOf K) := by subst e; exact call_tuple_of
def rLstOf (K : PySem.W.Frag) : List V → Hp → VK → Prop := fun xs H Q => ∃ p ys, xs = [V.ref p] ∧ (SqL K H p ys ∨ SqT K H p ys) ∧ ∀ l, H l = none → Q (.ref l) (upd H l (.lst ys))
theorem clLstOf (e : X.K = K) : CallR X (.type "list") (rLstOf K) := by subst e; exact call_list_of
/-- o.f = e, within a written part of its own -/
theorem psFld {o value : Expr} {f : Str} {pos pos' : Pos} {ta tv : TE} (e : X.K = K) (h1 : PE X o ta) (h2 : PE X value tv) (hs : swapsWith value (some (o.Attribute f pos')) pos.line X.env = pure false) : PS X (.Assign [o.Attribute f pos'] value pos) (sFld K ta tv f) := by subst e; exact ps_fld h1 h2 hs
theorem peFld {o : Expr} {f : Str} {pos : Pos} {ta : TE} (e : X.K = K) (h : PE X o ta) (hb : attributeBase o f X.env (eval o X.env) = eval o X.env) : PE X (o.Attribute f pos) (tFld K ta f) := by subst e; exact pe_fld h hb
end

/-! ### data of objects -/
def encF (p : Str × PyData) : PyData × PyData := (.str p.1, p.2)
def insD (C : Addr) (fs : List (Str × PyData)) : PyData := .dict ((.none, .int (C : Int)) :: fs.map encF)
inductive DqN (S : List Addr) (H : Hp) : List (Str × V) → List (Str × PyData) → Prop
  | nil : DqN S H [] []
  | cons {n : Str} {v : V} {d : PyData} {fs : List (Str × V)} {ds : List (Str × PyData)} : Dq S H v d → DqN S H fs ds → DqN S H ((n, v) :: fs) ((n, d) :: ds)
section
variable {S T : List Addr} {H H' : Hp} {fs gs : List (Str × V)} {ds es : List (Str × PyData)} {v : V} {d : PyData} {n : Str}
theorem DqN.enc : ∀ {fs : List (Str × V)} {ds : List (Str × PyData)}, DqN S H fs ds → DqF S H fs (ds.map encF)
  | _, _, .nil => .nil
  | _, _, .cons h r => .cons h (DqN.enc r)
theorem DqF.dec : ∀ {fs : List (Str × V)} {ds : List (Str × PyData)}, DqF S H fs (ds.map encF) → DqN S H fs ds
  | _, [], h => by cases h; exact .nil
  | _, (n, d) :: ds, h => by
    cases h with
    | cons h r => exact .cons h (DqF.dec r)
theorem DqN.app : ∀ {fs gs : List (Str × V)} {ds es : List (Str × PyData)}, DqN S H fs ds → DqN S H gs es → DqN S H (fs ++ gs) (ds ++ es)
  | _, _, _, _, .nil, k => k
  | _, _, _, _, .cons h r, k => .cons h (DqN.app r k)
theorem DqN.fr : ∀ {fs : List (Str × V)} {ds : List (Str × PyData)}, DqN S H fs ds → Fr S H H' → DqN S H' fs ds
  | _, _, .nil, _ => .nil
  | _, _, .cons h r, e => .cons (h.fr e) (DqN.fr r e)
theorem DqN.mono : ∀ {fs : List (Str × V)} {ds : List (Str × PyData)}, DqN S H fs ds → (∀ a, a ∈ T → a ∈ S) → DqN T H fs ds
  | _, _, .nil, _ => .nil
  | _, _, .cons h r, e => .cons (h.mono e) (DqN.mono r e)
theorem DqN.names : ∀ {fs : List (Str × V)} {ds : List (Str × PyData)}, DqN S H fs ds → fs.map Prod.fst = ds.map Prod.fst
  | _, _, .nil => rfl
  | _, _, .cons h r => by rw [List.map_cons, List.map_cons, DqN.names r]
theorem DqN.look : ∀ {fs : List (Str × V)} {ds : List (Str × PyData)} {d : PyData}, DqN S H fs ds → ds.lookup n = some d → ∃ v, fs.lookup n = some v ∧ Dq S H v d
  | _, _, _, .nil, e => by simp at e
  | _, _, d, .cons (n := m) h r, e => by
    rw [List.lookup_cons] at e ⊢
    cases hb : n == m with
    | true => rw [hb] at e; cases e; exact ⟨_, rfl, h⟩
    | false => rw [hb] at e; exact DqN.look r e
theorem Dq.insE {C : Addr} (h : Dq S H v (insD C ds)) : ∃ a dx fs, v = .ref a ∧ a ∉ S ∧ H a = some (.ins C dx fs) ∧ DqN S H fs ds := by
  unfold insD at h
  generalize e : (C : Int) = c at h
  cases h with
  | ins n q r =>
    rename_i C' dx fs
    have : C = C' := by exact_mod_cast e
    subst this
    exact ⟨_, _, _, rfl, n, q, DqF.dec r⟩
theorem Dq.insI {C a dx : Addr} (n : a ∉ S) (q : H a = some (.ins C dx fs)) (r : DqN S H fs ds) : Dq S H (.ref a) (insD C ds) := .ins n q r.enc
end
/-- an empty tuple of the written part: a default -/
def EmT (K : PySem.W.Frag) (a : Addr) : Prop := ∃ o its n, K.lookup a = some o ∧ o.cls = .type "tuple" ∧ o.data = .seq its n ∧ its.size ≤ sizeLine ∧ Vals [] its.toList
theorem EmT.sq {K : PySem.W.Frag} {a : Addr} (h : EmT K a) (H : Hp) : SqT K H a [] := .inr h
/-- what may be handed to a maker: data, or a default () -/
def De (K : PySem.W.Frag) (S : List Addr) (H : Hp) (v : V) (d : PyData) : Prop := Dq S H v d ∨ (d = .tuple [] ∧ ∃ a, v = .ref a ∧ EmT K a)
inductive DeA (K : PySem.W.Frag) (S : List Addr) (H : Hp) : List V → List PyData → Prop
  | nil : DeA K S H [] []
  | cons {v : V} {vs : List V} {d : PyData} {ds : List PyData} : De K S H v d → DeA K S H vs ds → DeA K S H (v :: vs) (d :: ds)
section
variable {K : PySem.W.Frag} {S T : List Addr} {H H' : Hp} {v : V} {d : PyData} {vs : List V} {ds : List PyData}
theorem De.fr (h : De K S H v d) (e : Fr S H H') : De K S H' v d := h.imp (fun h => h.fr e) id
theorem De.mono (h : De K S H v d) (k : ∀ a, a ∈ T → a ∈ S) : De K T H v d := h.imp (fun h => h.mono k) id
theorem De.new {p : Addr} (h : De K S H v d) (e : H p = none) : De K (p :: S) H v d := h.imp (fun h => h.new e) id
theorem DeA.fr : ∀ {vs : List V} {ds : List PyData}, DeA K S H vs ds → Fr S H H' → DeA K S H' vs ds
  | _, _, .nil, _ => .nil
  | _, _, .cons h r, e => .cons (h.fr e) (DeA.fr r e)
theorem DeA.new {p : Addr} : ∀ {vs : List V} {ds : List PyData}, DeA K S H vs ds → H p = none → DeA K (p :: S) H vs ds
  | _, _, .nil, _ => .nil
  | _, _, .cons h r, e => .cons (h.new e) (DeA.new r e)
theorem DeA.consE (h : DeA K S H vs (d :: ds)) : ∃ v ws, vs = v :: ws ∧ De K S H v d ∧ DeA K S H ws ds := by
  cases h with
  | cons h r => exact ⟨_, _, rfl, h, r⟩
theorem DeA.nilE (h : DeA K S H vs []) : vs = [] := by cases h; rfl
theorem De.lst {xs : List PyData} (h : De K S H v (.list xs)) : Dq S H v (.list xs) := by
  rcases h with h | ⟨e, _⟩
  · exact h
  · cases e
theorem De.ofDq (h : Dq S H v d) : De K S H v d := .inl h
end
/-- the items of a list or a tuple -/
def sqI : PyData → Option (List PyData)
  | .list xs => some xs
  | .tuple xs => some xs
  | _ => none
theorem De.seq {K : PySem.W.Frag} {S : List Addr} {H : Hp} {v : V} {d : PyData} {xs : List PyData} (h : De K S H v d) (e : sqI d = some xs) :
    ∃ a vs, v = .ref a ∧ DqA S H vs xs ∧ (∀ H', Fr S H H' → SqL K H' a vs) ∨ (∃ a vs, v = .ref a ∧ DqA S H vs xs ∧ (∀ H', Fr S H H' → SqT K H' a vs)) := by
  rcases h with h | ⟨rfl, a, rfl, m⟩
  · cases h with
    | lst n q r => cases e; exact ⟨_, _, .inl ⟨rfl, r, fun H' f => SqL.of (f _ _ n q)⟩⟩
    | tup n q r => cases e; exact ⟨0, [], .inr ⟨_, _, rfl, r, fun H' f => SqT.of (f _ _ n q)⟩⟩
    | _ => cases e
  · cases e
    exact ⟨0, [], .inr ⟨a, [], rfl, .nil, fun H' f => m.sq H'⟩⟩
/-- a function of what may be handed to a maker -/
def spE (K : PySem.W.Frag) (f : List PyData → PyData → Prop) : Sp := fun vs H Q _ => ∃ S ds d, Al S H ∧ DeA K S H vs ds ∧ f ds d ∧ ∀ v H', Same H H' → Dq S H' v d → Q v H'
theorem spE_app {K : PySem.W.Frag} {f : List PyData → PyData → Prop} {vs : List V} {H : Hp} {Q : VK} {E : XK} (S : List Addr) (ds : List PyData) (d : PyData) (hS : Al S H) (hd : DeA K S H vs ds) (hf : f ds d) (q : ∀ v H', Same H H' → Dq S H' v d → Q v H') : spE K f vs H Q E :=
  ⟨S, ds, d, hS, hd, hf, q⟩
/-- an __init__: the new object's fields -/
def spI (K : PySem.W.Frag) (C : Addr) (f : List PyData → List (Str × PyData) → Prop) : Sp := fun vs H Q _ =>
  ∃ S x dx ws ds fs, vs = .ref x :: ws ∧ x ∈ S ∧ Al S H ∧ H x = some (.ins C dx []) ∧ DeA K S H ws ds ∧ f ds fs ∧ ∀ H' gs, Fr [x] H H' → H' x = some (.ins C dx gs) → DqN S H' gs fs → Q .non H'
theorem mk_app {K : PySem.W.Frag} {C : Addr} {f : List PyData → List (Str × PyData) → Prop} {ws : List V} {H : Hp} {Z : Addr → Hp → Prop} {E : XK} {gl : Addr → List V} (S : List Addr) (ds : List PyData) (fs : List (Str × PyData)) (hg : ∀ x, gl x = .ref x :: ws) (hS : Al S H) (hd : DeA K S H ws ds) (hf : f ds fs)
    (q : ∀ x H', Same H H' → Dq S H' (.ref x) (insD C fs) → Z x H') :
    ∀ x dx, H x = none → H dx = none → dx ≠ x → spI K C f (gl x) (upd (upd H dx (.own x)) x (.ins C dx [])) (fun v H3 => v = .non ∧ Z x H3) E := by
  intro x dx h1 h2 h3
  have s1 : Same H (upd H dx (.own x)) := Fl.Same.new h2
  have h1' : upd H dx (.own x) x = none := by rw [upd_ne (Ne.symm h3)]; exact h1
  have s2 : Same H (upd (upd H dx (.own x)) x (.ins C dx [])) := L2.Same.trans s1 (Fl.Same.new h1')
  have al : Al (x :: S) (upd (upd H dx (.own x)) x (.ins C dx [])) := .cons (by rw [upd_same]; simp) (hS.same s2)
  rw [hg]
  refine ⟨x :: S, x, dx, ws, ds, fs, rfl, by simp, al, upd_same, (hd.new h1).fr (Fr.same s2), hf, fun H' gs f' e n => ⟨rfl, ?_⟩⟩
  have sm : Same H H' := fun a o e2 => f' a o (by simp; intro z; rw [z, h1] at e2; cases e2) (s2 a o e2)
  exact q x H' sm (Dq.insI (hS.ni h1) e (n.mono fun a m => List.mem_cons_of_mem _ m))

/-! ### comprehensions over tuples -/
section
variable {S : List Addr} {H1 : Hp} {K : PySem.W.Frag} {g : TG} {tt : TT} {te : TE} {vs : List Nat} {σ : L2.St} {Q : VK}
theorem lc_tupP {a : Addr} {xs : List V} {D : Addr} {Qd : Hp → Prop} (Pv : Nat → Hp → Prop) (h0 : Pv 0 (upd H1 D (.lst [])))
    (hl : ∀ i H, i ≤ xs.length → Pv i H → SqT K H a xs)
    (hs : ∀ i x H, xs[i]? = some x → Pv i H → g x (wipe σ vs) H fun σ2 H2 => wipe σ2 vs = wipe σ vs ∧ tt σ2 H2 fun b H3 =>
        if b = true then te σ2 H3 fun y H4 => ∃ acc, H4 D = some (.lst acc) ∧ acc.length < sizeLine ∧ Pv (i + 1) (upd H4 D (.lst (acc ++ [y]))) else Pv (i + 1) H3)
    (hd : ∀ H, Pv xs.length H → Qd H) :
    ∃ W : Nat → Nat → Hp → Prop, (∃ m, W 0 m (upd H1 D (.lst []))) ∧ ∀ i m H, W i m H →
      ((Itt K a).stop i H ∧ Qd H) ∨ ((Itt K a).go i H ∧ ∃ Nx : Hp → Prop, (∀ H', Nx H' → ∃ m', m' < m ∧ W (i + 1) m' H') ∧
        ∀ x H', (Itt K a).yld i H x H' → g x (wipe σ vs) H' fun σ2 H2 => wipe σ2 vs = wipe σ vs ∧ tt σ2 H2 fun b H3 =>
          if b = true then te σ2 H3 fun y H4 => ∃ acc, H4 D = some (.lst acc) ∧ acc.length < sizeLine ∧ Nx (upd H4 D (.lst (acc ++ [y]))) else Nx H3) := by
  refine ⟨fun i m H => m = xs.length - i ∧ i ≤ xs.length ∧ Pv i H, ⟨xs.length, rfl, Nat.zero_le _, h0⟩, fun i m H h => ?_⟩
  obtain ⟨rfl, hi, p⟩ := h
  have q := hl i H hi p
  by_cases hlt : i < xs.length
  · refine .inr ⟨⟨xs, xs[i], q, by simp [hlt]⟩, Pv (i + 1), fun H' p' => ⟨xs.length - (i + 1), by omega, rfl, hlt, p'⟩, fun x H' y => ?_⟩
    obtain ⟨rfl, y⟩ := y
    exact hs i x H' (y xs q) p
  · have e : i = xs.length := by omega
    subst e
    exact .inl ⟨⟨xs, q, Nat.le_refl _⟩, hd H p⟩
/-- [elt for x in t if test], t a list or a tuple; nothing changed -/
theorem lcS {wi : TE} {v : V} {d : PyData} {es : List PyData} (f : Nat → Option PyData) (hS : Al S H1) (ha : De K S H1 v d) (he : sqI d = some es) (hz : es.length < 1000)
    (hv : ∀ R : VK, R v H1 → wi σ H1 R)
    (step : ∀ (D : Addr) (i : Nat) (x : V) (e : PyData) (H : Hp), H1 D = none → es[i]? = some e → Same H1 H → Al (D :: S) H → Dq (D :: S) H x e →
      ∀ (R : V → Hp → Prop) (N : Hp → Prop), (∀ r y H4, f i = some r → Same H H4 → Dq (D :: S) H4 y r → R y H4) → (f i = none → ∀ H4, Same H H4 → N H4) →
      g x (wipe σ vs) H fun σ2 H2 => wipe σ2 vs = wipe σ vs ∧ tt σ2 H2 fun b H3 => if b = true then te σ2 H3 R else N H3)
    (q : ∀ (D : Addr) (H : Hp), Same H1 H → H1 D = none → Dq S H (.ref D) (.list ((List.range es.length).filterMap f)) → Q (.ref D) H) :
    iOr (iList K wi) (iTup K wi) σ H1 fun J H1 => lcK J g tt te vs σ H1 Q := by
  obtain ⟨a, xs, h | h⟩ := ha.seq he
  · obtain ⟨rfl, hall, hsq⟩ := h
    refine .inl (hv _ ⟨a, rfl, ⟨xs, hsq H1 Fr.refl⟩, ?_⟩)
    unfold lcK
    intro D hD
    have hlx := hall.len
    have hfr : ∀ H, Fr [D] H1 H → Fr S H1 H := fun H f b o n e => f b o (by simp; intro z; rw [z, hD] at e; cases e) e
    refine lc_list (xs := xs) (CompAt S H1 D f) (CompAt.zero hD) (fun i H _ h => hsq H (hfr H h.fr)) ?_ ?_
    · intro i x H hx h
      have hlt : i < xs.length := (List.getElem?_eq_some_iff.mp hx).1
      have hsm : Same H1 H := sm_of hD h.fr
      obtain ⟨e, he, hxe⟩ := ((hall.new hD).same hsm).get hx
      exact step D i x e H hD he hsm (h.al hS hD) hxe _ _ (fun r y H4 er s d => h.put (by omega) er s d) fun en H4 s => (h.same s).skip en
    · intro H h
      rw [hlx] at h
      exact q D H (sm_of hD h.fr) hD (h.fin hS hD)
  · obtain ⟨a, xs, rfl, hall, hsq⟩ := h
    refine .inr (hv _ ⟨a, rfl, ⟨xs, hsq H1 Fr.refl⟩, ?_⟩)
    unfold lcK
    intro D hD
    have hlx := hall.len
    have hfr : ∀ H, Fr [D] H1 H → Fr S H1 H := fun H f b o n e => f b o (by simp; intro z; rw [z, hD] at e; cases e) e
    refine lc_tupP (xs := xs) (CompAt S H1 D f) (CompAt.zero hD) (fun i H _ h => hsq H (hfr H h.fr)) ?_ ?_
    · intro i x H hx h
      have hlt : i < xs.length := (List.getElem?_eq_some_iff.mp hx).1
      have hsm : Same H1 H := sm_of hD h.fr
      obtain ⟨e, he, hxe⟩ := ((hall.new hD).same hsm).get hx
      exact step D i x e H hD he hsm (h.al hS hD) hxe _ _ (fun r y H4 er s d => h.put (by omega) er s d) fun en H4 s => (h.same s).skip en
    · intro H h
      rw [hlx] at h
      exact q D H (sm_of hD h.fr) hD (h.fin hS hD)
end
end Fl

set_option Elab.async false
set_option linter.all false
set_option maxRecDepth 100000
set_option maxHeartbeats 4000000
set_option exponentiation.threshold 20000
/-! what fonts consist of -/
namespace Fl
open PySem PySem.Spec PyProof.Rows L2
/-! ### readings of fields -/
section
variable {K : PySem.W.Frag} {σ : L2.St} {H : Hp} {Q : VK} {ta tv : TE} {f : Str} {D : Ends} {a C dx : Addr} {fs : List (Str × V)} {v y : V} {l : List Str}
theorem g_fld (h : ta σ H fun x H1 => ∃ a C dx fs v, x = .ref a ∧ H1 a = some (.ins C dx fs) ∧ Cls K C ∧ NoAttr K C f ∧ fs.lookup f = some v ∧ Q v H1) : tFld K ta f σ H Q := h
theorem g_fldE {Z : V → Prop} (h : H a = some (.ins C dx fs)) (c : Cls K C) (n : NoAttr K C f) (e : fs.lookup f = some v) (q : Z v) : ∃ a' C' dx' fs' v', V.ref a = .ref a' ∧ H a' = some (.ins C' dx' fs') ∧ Cls K C' ∧ NoAttr K C' f ∧ fs'.lookup f = some v' ∧ Z v' := ⟨a, C, dx, fs, v, rfl, h, c, n, e, q⟩
theorem g_sf (h : tv σ H fun y H1 => ta σ H1 fun x H2 => ∃ a C dx fs, x = .ref a ∧ H2 a = some (.ins C dx fs) ∧ Cls K C ∧ NoAttr K C f ∧ fs.length < 1000 ∧ D.nx σ (upd H2 a (.ins C dx (putF f y fs)))) : sFld K ta tv f D σ H := h
theorem g_sfE {Z : Hp → Prop} (h : H a = some (.ins C dx fs)) (c : Cls K C) (n : NoAttr K C f) (e : fs.length < 1000) (q : Z (upd H a (.ins C dx (putF f y fs)))) : ∃ a' C' dx' fs', V.ref a = .ref a' ∧ H a' = some (.ins C' dx' fs') ∧ Cls K C' ∧ NoAttr K C' f ∧ fs'.length < 1000 ∧ Z (upd H a' (.ins C' dx' (putF f y fs'))) := ⟨a, C, dx, fs, rfl, h, c, n, e, q⟩
theorem na_of (h : ∀ f, f ∈ l → NoAttr K C f) (m : l.contains f = true) : NoAttr K C f := h f (List.contains_iff_mem.mp m)
theorem putF_new : ∀ {fs : List (Str × V)}, (fs.map Prod.fst).contains f = false → putF f y fs = fs ++ [(f, y)]
  | [], _ => rfl
  | (g, z) :: fs, h => by
    simp only [List.map_cons, List.contains_cons, Bool.or_eq_false_iff] at h
    unfold putF
    rw [putF_new h.2]
    have e : ¬ g = f := fun e => by
      rw [e] at h
      simp at h
    simp [e]
end
/-- a new object x while its fields are being set -/
structure InitAt (S : List Addr) (x C dx : Addr) (H0 H : Hp) (gs : List (Str × V)) (fs : List (Str × PyData)) : Prop where
  fr : Fr [x] H0 H
  hx : H x = some (.ins C dx gs)
  dq : DqN S H gs fs
  al : Al S H
  mem : x ∈ S
section
variable {K : PySem.W.Frag} {S : List Addr} {x C dx : Addr} {H0 H H' : Hp} {gs : List (Str × V)} {fs : List (Str × PyData)} {f : Str} {v : V} {d : PyData}
theorem InitAt.start (hx : H x = some (.ins C dx [])) (al : Al S H) (m : x ∈ S) : InitAt S x C dx H H [] [] := ⟨Fr.refl, hx, .nil, al, m⟩
theorem InitAt.same (I : InitAt S x C dx H0 H gs fs) (e : Same H H') : InitAt S x C dx H0 H' gs fs := ⟨I.fr.trans (Fr.same e), e _ _ I.hx, I.dq.fr (Fr.same e), I.al.same e, I.mem⟩
theorem InitAt.put (I : InitAt S x C dx H0 H gs fs) (hv : Dq S H v d) (f : Str) (hn : (gs.map Prod.fst).contains f = false) : InitAt S x C dx H0 (upd H x (.ins C dx (putF f v gs))) (gs ++ [(f, v)]) (fs ++ [(f, d)]) := by
  rw [putF_new hn]
  have u : Fr S H (upd H x (.ins C dx (gs ++ [(f, v)]))) := Fr.upd I.mem
  refine ⟨I.fr.trans (Fr.upd (by simp)), upd_same, (I.dq.fr u).app (.cons (hv.fr u) .nil), ?_, I.mem⟩
  intro b m q
  by_cases hb : b = x
  · rw [hb, upd_same] at q; cases q
  · rw [upd_ne hb] at q; exact I.al b m q
theorem InitAt.dqO (I : InitAt S x C dx H0 H gs fs) (h : Dq S H0 v d) : Dq S H v d := h.fr (I.fr.mono fun a m => by rw [show a = x by simpa using m]; exact I.mem)
theorem InitAt.deO (I : InitAt S x C dx H0 H gs fs) (h : De K S H0 v d) : De K S H v d := h.fr (I.fr.mono fun a m => by rw [show a = x by simpa using m]; exact I.mem)
theorem De.dq (h : De K S H v d) (n : d ≠ .tuple []) : Dq S H v d := by
  rcases h with h | ⟨e, _⟩
  · exact h
  · exact absurd e n
end
/-! ### sequences of data -/
def Sq1 (d : PyData) (L : List PyData) : Prop := sqI d = some L ∧ L.length < 1000
def Sq2 (d : PyData) (L : List (List PyData)) : Prop := ∃ xs, sqI d = some xs ∧ xs.map sqI = L.map some ∧ L.length < 1000
def Sq3 (d : PyData) (L : List (List (List PyData))) : Prop := ∃ xs, sqI d = some xs ∧ xs.length = L.length ∧ (∀ (i : Nat) x l, xs[i]? = some x → L[i]? = some l → Sq2 x l) ∧ L.length < 1000
def ltD (L : List (List PyData)) : PyData := .list (L.map .tuple)
def llD (L : List (List PyData)) : PyData := .list (L.map .list)
def ouD3 (L : List (List (List PyData))) : PyData := .list (L.map ltD)
section
variable {L : List (List PyData)} {M : List (List (List PyData))} {l : List PyData}
theorem Sq1.ls (h : l.length < 1000) : Sq1 (.list l) l := ⟨rfl, h⟩
theorem Sq1.e : Sq1 (.tuple []) [] := ⟨rfl, by decide⟩
theorem Sq2.lt (h : L.length < 1000) : Sq2 (ltD L) L := ⟨_, rfl, by rw [List.map_map]; rfl, h⟩
theorem Sq2.ll (h : L.length < 1000) : Sq2 (llD L) L := ⟨_, rfl, by rw [List.map_map]; rfl, h⟩
theorem Sq2.e : Sq2 (.tuple []) [] := ⟨[], rfl, rfl, by decide⟩
theorem Sq3.ou (h : M.length < 1000) (k : ∀ c, c ∈ M → c.length < 1000) : Sq3 (ouD3 M) M := by
  refine ⟨_, rfl, by rw [List.length_map], fun i x l e1 e2 => ?_, h⟩
  rw [List.getElem?_map, e2] at e1
  cases e1
  exact Sq2.lt (k l (List.mem_of_getElem? e2))
theorem Sq3.e : Sq3 (.tuple []) [] := ⟨[], rfl, rfl, fun i x l e1 _ => by simp at e1, by decide⟩
theorem Sq3.le : Sq3 (.list []) [] := ⟨[], rfl, rfl, fun i x l e1 _ => by simp at e1, by decide⟩
theorem Sq2.le : Sq2 (.list []) [] := ⟨[], rfl, rfl, by decide⟩
theorem fm_ltA {α : Type} {L : List α} {f : α → PyData} {n : Nat} (h : n = L.length) : (List.range n).filterMap (fun i => (L[i]?).map f) = L.map f := by
  subst h
  have e : (fun i : Nat => (L[i]?).map f) = fun i => (L.map f)[i]? := funext fun i => by rw [List.getElem?_map]
  rw [e]
  have := fm_map (es := L.map f) (rs := L.map f) rfl
  rwa [List.length_map] at this
theorem sq2_at {xs : List PyData} {i : Nat} {e : PyData} (h : xs.map sqI = L.map some) (he : xs[i]? = some e) : ∃ l, L[i]? = some l ∧ sqI e = some l := by
  have : (xs.map sqI)[i]? = (L.map some)[i]? := by rw [h]
  rw [List.getElem?_map, List.getElem?_map, he] at this
  cases hl : L[i]? with
  | none => rw [hl] at this; cases this
  | some l => rw [hl] at this; exact ⟨l, rfl, by simpa using this⟩
theorem sq2_len {xs : List PyData} (h : xs.map sqI = L.map some) : xs.length = L.length := by
  have := congrArg List.length h
  simpa using this
end
def fTof (ds : List PyData) (d : PyData) : Prop := ∃ r L, ds = [r] ∧ Sq2 r L ∧ d = ltD L
theorem DqN.consE {S : List Addr} {H : Hp} {n : Str} {d : PyData} {fs : List (Str × V)} {ds : List (Str × PyData)} (h : DqN S H fs ((n, d) :: ds)) : ∃ v gs, fs = (n, v) :: gs ∧ Dq S H v d ∧ DqN S H gs ds := by
  cases h with
  | cons h r => exact ⟨_, _, rfl, h, r⟩
theorem DqN.nilE {S : List Addr} {H : Hp} {fs : List (Str × V)} (h : DqN S H fs []) : fs = [] := by cases h; rfl
theorem lstOf_de {K : PySem.W.Frag} {S : List Addr} {H : Hp} {v : V} {e : PyData} {l : List PyData} {Q : VK} (al : Al S H) (h : De K S H v e) (hl : sqI e = some l) (q : ∀ p H', Same H H' → Dq S H' (.ref p) (.list l) → Q (.ref p) H') : rLstOf K [v] H Q := by
  obtain ⟨a, zs, h | h⟩ := h.seq hl
  · obtain ⟨rfl, hA, hs⟩ := h
    exact ⟨a, zs, rfl, .inl (hs _ Fr.refl), fun p hp => q p _ (Fl.Same.new hp) (Dq.newL al hp hA)⟩
  · obtain ⟨a, zs, rfl, hA, hs⟩ := h
    exact ⟨a, zs, rfl, .inr (hs _ Fr.refl), fun p hp => q p _ (Fl.Same.new hp) (Dq.newL al hp hA)⟩
theorem lstOf_app {K : PySem.W.Frag} {S : List Addr} {H : Hp} {v : V} {e : PyData} {l : List PyData} {Q : VK} (al : Al S H) (h : Dq S H v e) (hl : sqI e = some l) (q : ∀ p H', Same H H' → Dq S H' (.ref p) (.list l) → Q (.ref p) H') : rLstOf K [v] H Q := lstOf_de al (.inl h) hl q
theorem g_make {C : Addr} {n m : Nat} {sp : Sp} {gV : List V → List V → List V} {E : XK} {t tk : TA} {σ : L2.St} {H : Hp} {Q : VK}
    (h : t σ H fun vs H1 => tk σ H1 fun zs H2 => vs.length = n ∧ zs.length = m ∧ ∀ x dx, H2 x = none → H2 dx = none → dx ≠ x → sp (gV (.ref x :: vs) zs) (upd (upd H2 dx (.own x)) x (.ins C dx [])) (fun v H3 => v = .non ∧ Q (.ref x) H3) E) : tMakeK C n m sp gV E t tk σ H Q := h
theorem g_mk {A B C : Prop} (h1 : A) (h2 : B) (h3 : C) : A ∧ B ∧ C := ⟨h1, h2, h3⟩
/-! ### the parts of a font -/
structure GlR where
  adv : PyData
  outl : List (List (List PyData))
  parts : List (List PyData)
  anch : List (List PyData)
  mark : PyData
  deltas : List (List PyData)
  hint : List (List PyData)
structure RuR where
  inside : List (List PyData)
  back : List (List PyData)
  ahead : List (List PyData)
  out : List PyData
  calls : List (List PyData)
  extra : PyData
structure LkR where
  kind : PyData
  rules : List RuR
  ign : PyData
def GlR.F (g : GlR) : List (Str × PyData) := [("advance", g.adv), ("outline", ouD3 g.outl), ("parts", ltD g.parts), ("anchors", ltD g.anch), ("mark", g.mark), ("deltas", ltD g.deltas), ("hint", ltD g.hint)]
def RuR.F (r : RuR) : List (Str × PyData) := [("inside", llD r.inside), ("back", llD r.back), ("ahead", llD r.ahead), ("out", .list r.out), ("calls", ltD r.calls), ("extra", r.extra)]
def LkR.F (C : Addr) (k : LkR) : List (Str × PyData) := [("kind", k.kind), ("rules", .list (k.rules.map fun r => insD C r.F)), ("ignore", k.ign)]
structure GlR.ok (g : GlR) : Prop where
  a : g.adv ≠ .tuple []
  m : g.mark ≠ .tuple []
  o : g.outl.length < 1000
  c : ∀ c, c ∈ g.outl → c.length < 1000
  p : g.parts.length < 1000
  n : g.anch.length < 1000
  d : g.deltas.length < 1000
  h : g.hint.length < 1000
structure RuR.ok (x : RuR) : Prop where
  i : x.inside.length < 1000
  b : x.back.length < 1000
  a : x.ahead.length < 1000
  o : x.out.length < 1000
  c : x.calls.length < 1000
  e : x.extra ≠ .tuple []
structure LkR.ok (x : LkR) : Prop where
  k : x.kind ≠ .tuple []
  r : x.rules.length < 1000
  ro : ∀ r, r ∈ x.rules → RuR.ok r
  g : x.ign ≠ .tuple []
/-- what Glyph is called with -/
def fGl (ds : List PyData) (fs : List (Str × PyData)) : Prop := ∃ (o p n d h : PyData) (g : GlR), ds = [g.adv, o, p, n, g.mark, d, h] ∧ g.ok ∧ Sq3 o g.outl ∧ Sq2 p g.parts ∧ Sq2 n g.anch ∧ Sq2 d g.deltas ∧ Sq2 h g.hint ∧ fs = g.F
def fRu (ds : List PyData) (fs : List (Str × PyData)) : Prop := ∃ (i b a o c : PyData) (r : RuR), ds = [i, b, a, o, c, r.extra] ∧ r.ok ∧ Sq2 i r.inside ∧ Sq2 b r.back ∧ Sq2 a r.ahead ∧ Sq1 o r.out ∧ Sq2 c r.calls ∧ fs = r.F
def fLk (CR : Addr) (ds : List PyData) (fs : List (Str × PyData)) : Prop := ∃ (k : LkR) (rs : PyData), ds = [k.kind, rs, k.ign] ∧ k.ok ∧ sqI rs = some (k.rules.map fun r => insD CR r.F) ∧ fs = k.F CR
def fCg (CG : Addr) (ds : List PyData) (d : PyData) : Prop := ∃ g : GlR, g.ok ∧ ds = [insD CG g.F] ∧ d = insD CG g.F
def fCr (CR : Addr) (ds : List PyData) (d : PyData) : Prop := ∃ r : RuR, r.ok ∧ ds = [insD CR r.F] ∧ d = insD CR r.F
def fCl (CR CL : Addr) (ds : List PyData) (d : PyData) : Prop := ∃ k : LkR, k.ok ∧ ds = [insD CL (k.F CR)] ∧ d = insD CL (k.F CR)
/-- lcs_done: a walk over items of one kind, each copied -/
theorem at_map {α : Type} {L : List α} {f : α → PyData} {i : Nat} {e : PyData} (h : (L.map f)[i]? = some e) : ∃ x, L[i]? = some x ∧ e = f x := by
  rw [List.getElem?_map] at h
  cases hl : L[i]? with
  | none => rw [hl] at h; cases h
  | some x => rw [hl] at h; exact ⟨x, rfl, by simpa using h.symm⟩
/-! ### whole fonts -/
structure FoR where
  unit : PyData
  glyphs : List GlR
  chars : List (List PyData)
  lookups : List LkR
  features : List (PyData × List PyData)
  axes : List (List PyData)
  regions : List (List (List PyData))
  functions : List (List (List PyData))
  presets : List PyData
structure Cs where
  G : Addr
  R : Addr
  L : Addr
  F : Addr
def glD (c : Cs) (g : GlR) : PyData := insD c.G g.F
def lkD (c : Cs) (k : LkR) : PyData := insD c.L (k.F c.R)
def feD (f : PyData × List PyData) : PyData := .tuple [f.1, .list f.2]
def FoR.F (c : Cs) (f : FoR) : List (Str × PyData) := [("unit", f.unit), ("glyphs", .list (f.glyphs.map (glD c))), ("chars", ltD f.chars), ("lookups", .list (f.lookups.map (lkD c))), ("features", .list (f.features.map feD)), ("axes", ltD f.axes), ("regions", ouD3 f.regions), ("functions", ouD3 f.functions), ("presets", .list f.presets)]
def foD (c : Cs) (f : FoR) : PyData := insD c.F (f.F c)
structure FoR.ok (x : FoR) : Prop where
  u : x.unit ≠ .tuple []
  g : x.glyphs.length < 1000
  go : ∀ g, g ∈ x.glyphs → GlR.ok g
  c : x.chars.length < 1000
  l : x.lookups.length < 1000
  lo : ∀ k, k ∈ x.lookups → LkR.ok k
  f : x.features.length < 1000
  a : x.axes.length < 1000
  r : x.regions.length < 1000
  n : x.functions.length < 1000
  p : x.presets.length < 1000
/-- the pairs of features as they are handed in: a pair of a name and a list or tuple -/
def SqF (d : PyData) (L : List (PyData × List PyData)) : Prop := ∃ xs, sqI d = some xs ∧ xs.length = L.length ∧ (∀ (i : Nat) x (l : PyData × List PyData), xs[i]? = some x → L[i]? = some l → ∃ m, x = .tuple [l.1, m] ∧ Sq1 m l.2) ∧ L.length < 1000
theorem SqF.e : SqF (.tuple []) [] := ⟨[], rfl, rfl, fun i x l e1 _ => by simp at e1, by decide⟩
def fFf (c : Cs) (V : FoR → Prop) (ds : List PyData) (d : PyData) : Prop := ∃ f : FoR, V f ∧ ds = [foD c f] ∧ d = .none
def fFo (c : Cs) (V : FoR → Prop) (ds : List PyData) (fs : List (Str × PyData)) : Prop := ∃ (gs ch ls fe ax re fn pr : PyData) (f : FoR), ds = [f.unit, gs, ch, ls, fe, ax, re, fn, pr] ∧ f.ok ∧ V f ∧
  sqI gs = some (f.glyphs.map (glD c)) ∧ Sq2 ch f.chars ∧ sqI ls = some (f.lookups.map (lkD c)) ∧ SqF fe f.features ∧ Sq2 ax f.axes ∧ Sq3 re f.regions ∧ Sq3 fn f.functions ∧ Sq1 pr f.presets ∧ fs = f.F c
theorem InitAt.fin {S : List Addr} {x C dx : Addr} {H0 H : Hp} {gs : List (Str × V)} {fs : List (Str × PyData)} (I : InitAt S x C dx H0 H gs fs) : Al (S.filter fun a => a ≠ x) H ∧ Dq (S.filter fun a => a ≠ x) H (.ref x) (insD C fs) := by
  refine ⟨fun a m => I.al a ((List.mem_filter.mp m).1), Dq.insI (by simp) I.hx (I.dq.mono fun a m => (List.mem_filter.mp m).1)⟩
end Fl

set_option Elab.async false
set_option linter.all false
set_option maxRecDepth 100000
set_option maxHeartbeats 4000000
set_option exponentiation.threshold 20000
/-! readings for the checks of a font; fonts in numbers -/
namespace Fl
open PySem PySem.Spec PyProof.Rows L2
section
variable {X : Cx} {K : PySem.W.Frag} {σ : L2.St} {H : Hp} {Q : VK}
theorem peOrT {a b : Expr} {ta tb : TE} {rest : List Expr} {pos : Pos} (e : X.K = K) (h1 : PE X a ta) (h2 : PE X (.BoolOp .Or (b :: rest) pos) tb) : PE X (.BoolOp .Or (a :: b :: rest) pos) (tOrT K ta tb) := by subst e; exact pe_orT h1 h2
theorem g_orT {ta tb : TE} (h : ta σ H fun x H1 => ∃ k, TruV K x H1 k ∧ if k = true then Q x H1 else tb σ H1 Q) : tOrT K ta tb σ H Q := h
theorem g_truN {Z : Bool → Prop} (q : Z false) : ∃ k, TruV K .non H k ∧ Z k := ⟨false, rfl, q⟩
theorem g_chain {r r' : R2} {ta tb tc : TE} (h : ta σ H fun x H1 => tb σ H1 fun y H2 => r x y H2 fun z H3 => ∃ k, z = .bl k ∧ (if k = true then tc σ H3 fun w' H4 => r' y w' H4 Q else Q (.bl false) H3)) : tChain r r' ta tb tc σ H Q := h
theorem g_yesB {p : Prop} [Decidable p] {A B : Prop} (h : p) (q : A) : if decide p = true then A else B := by rw [if_pos (by simpa using h)]; exact q
theorem g_noB {p : Prop} [Decidable p] {A B : Prop} (h : ¬ p) (q : B) : if decide p = true then A else B := by rw [if_neg (by simpa using h)]; exact q
theorem g_nB {p : Prop} [Decidable p] {A B : Prop} (h : p) (q : B) : if (!decide p) = true then A else B := by rw [decide_eq_true h]; simpa using q
theorem g_inT {neg : Bool} {a : Addr} {xs : List V} {x : V} {b : Bool} (h : SqT K H a xs) (f1 : flatV x = true) (f2 : xs.all flatV = true) (e : (if neg = true then !inV x xs else inV x xs) = b) (q : Q (.bl b) H) : rIn K neg x (.ref a) H Q := ⟨a, xs, rfl, .inr h, f1, f2, by rw [e]; exact q⟩
theorem g_tru0n {a : Addr} {xs : List V} {Z : Bool → Prop} (h : SqL K H a xs) (e : xs.length = 0) (q : Z false) : ∃ k, TruV K (.ref a) H k ∧ Z k := by
  cases xs with
  | nil => exact ⟨_, .inl ⟨_, h, rfl⟩, q⟩
  | cons _ _ => cases e
theorem g_asg2 {te : TE} {g : TG} {D : Ends} (h : te σ H fun x H1 => g x σ H1 D.nx) : tAsg te g D σ H := h
theorem g_kd {w : World} {p : Addr} {z : Str} {v : V} (h : KDct K w p z v) (q : Q v H) : rIxD K w (.ref p) (.str z) H Q := ⟨p, z, v, rfl, rfl, h, q⟩
theorem g_neS {x y : Str} (q : Q (.bl (!decide (x = y))) H) : rNe (.str x) (.str y) H Q := ⟨rfl, by
  have e : decide (V.str x = V.str y) = decide (x = y) := by simp
  rw [e]
  exact q⟩
theorem g_nkd {d : Addr} {z : Str} {Z : VK} {u0 : Value} (h : PySem.W.nsIn K d z = some (some u0)) (q : Z (V.bl false) H) : ∃ z' r, V.str z = V.str z' ∧ V.ref d = V.ref d ∧ PySem.W.nsIn K d z' = some r ∧ Z (V.bl (!r.isSome)) H := ⟨z, _, rfl, rfl, h, q⟩
theorem g_noNB {p : Prop} [Decidable p] {A B : Prop} (h : ¬ p) (q : A) : if (!decide p) = true then A else B := by rw [decide_eq_false h]; simpa using q
theorem piEnum {e : Expr} {ta : TA} {p pos tpos : Pos} {elts : List Expr} {kk : Nat} (eK : X.K = K) (h1 : Gl X "enumerate") (h2 : X.mg "enumerate" = none) (h3 : PA X [e] ta) (h4 : starEach [e] X.env = [(false, eval e X.env)] := by rfl) :
    PI X (.Tuple elts kk tpos) (.Call (.Name "enumerate" p) [e] [] pos) (iEnum K ta) := by subst eK; exact pi_enum h1 h2 h3 h4
theorem g_enum {ta : TE} {R : It → Hp → Prop} (h : ta σ H fun x H1 => ∃ a xs, [x] = [V.ref a] ∧ SqL K H1 a xs ∧ R (Ite K a) H1) : iEnum K (tCons ta tNil) σ H R := h
theorem g_enE {a : Addr} {xs : List V} {Z : Addr → Prop} (h : SqL K H a xs) (q : Z a) : ∃ c zs, [V.ref a] = [V.ref c] ∧ SqL K H c zs ∧ Z c := ⟨a, xs, rfl, h, q⟩
theorem forK_e {a : Addr} {xs : List V} {g : TG} {tb : TS} {D : Ends} (Pv : Nat → L2.St → Hp → Prop) (h0 : Pv 0 σ H) (hl : ∀ i σ H, i ≤ xs.length → Pv i σ H → SqL K H a xs)
    (hs : ∀ (i : Nat) (x : V) (T : Addr) (σ : L2.St) (H : Hp), xs[i]? = some x → Pv i σ H → H T = none → g (.ref T) σ (upd H T (.tup [.int (i : Int), x])) fun σ2 H2 => tb { D with nx := Pv (i + 1), ct := Pv (i + 1), bk := D.nx } σ2 H2) (hd : ∀ σ H, Pv xs.length σ H → D.nx σ H) : forK (Ite K a) g tb D σ H := by
  refine ⟨fun i m σ H => m = xs.length - i ∧ i ≤ xs.length ∧ Pv i σ H, ⟨xs.length, rfl, Nat.zero_le _, h0⟩, fun i m σ H h => ?_⟩
  obtain ⟨rfl, hi, p⟩ := h
  have q := hl i σ H hi p
  by_cases hlt : i < xs.length
  · refine .inr ⟨⟨xs, xs[i], q, by simp [hlt]⟩, Pv (i + 1), fun σ' H' p' => ⟨xs.length - (i + 1), by omega, rfl, hlt, p'⟩, fun x H' y => ?_⟩
    obtain ⟨T, z, rfl, hT, rfl, y⟩ := y
    exact hs i z T σ H (y xs q) p hT
  · have e : i = xs.length := by omega
    subst e
    exact .inl ⟨⟨xs, q, Nat.le_refl _⟩, hd σ H p⟩
theorem clAll (e : X.K = K) (hc : X.calm = true) : CallR X (.builtin "all") (rAll K) := by subst e; exact cr_all hc
theorem g_allL {a : Addr} {bs : List Bool} (h : SqL K H a (bs.map V.bl)) (q : Q (.bl (bs.all id)) H) : rAll K [.ref a] H Q := ⟨a, bs, rfl, h, q⟩
def rKd (d : Addr) (K : PySem.W.Frag) (neg : Bool) : R2 := fun x y H Q => ∃ z r, x = V.str z ∧ y = V.ref d ∧ PySem.W.nsIn K d z = some r ∧ Q (V.bl (if neg then !r.isSome else r.isSome)) H
end
/-! ### objects taken apart -/
section
variable {S : List Addr} {H : Hp} {v : V} {c : Cs}
theorem glE {g : GlR} (h : Dq S H v (glD c g)) : ∃ a dx v1 v2 v3 v4 v5 v6 v7, v = .ref a ∧ a ∉ S ∧ H a = some (.ins c.G dx [("advance", v1), ("outline", v2), ("parts", v3), ("anchors", v4), ("mark", v5), ("deltas", v6), ("hint", v7)]) ∧
    Dq S H v1 g.adv ∧ Dq S H v2 (ouD3 g.outl) ∧ Dq S H v3 (ltD g.parts) ∧ Dq S H v4 (ltD g.anch) ∧ Dq S H v5 g.mark ∧ Dq S H v6 (ltD g.deltas) ∧ Dq S H v7 (ltD g.hint) := by
  obtain ⟨a, dx, fs, rfl, ha, hA, hN⟩ := h.insE
  obtain ⟨v1, fs, rfl, h1, hN⟩ := hN.consE
  obtain ⟨v2, fs, rfl, h2, hN⟩ := hN.consE
  obtain ⟨v3, fs, rfl, h3, hN⟩ := hN.consE
  obtain ⟨v4, fs, rfl, h4, hN⟩ := hN.consE
  obtain ⟨v5, fs, rfl, h5, hN⟩ := hN.consE
  obtain ⟨v6, fs, rfl, h6, hN⟩ := hN.consE
  obtain ⟨v7, fs, rfl, h7, hN⟩ := hN.consE
  cases hN.nilE
  exact ⟨a, dx, v1, v2, v3, v4, v5, v6, v7, rfl, ha, hA, h1, h2, h3, h4, h5, h6, h7⟩
theorem ruE {C : Addr} {r : RuR} (h : Dq S H v (insD C r.F)) : ∃ a dx v1 v2 v3 v4 v5 v6, v = .ref a ∧ a ∉ S ∧ H a = some (.ins C dx [("inside", v1), ("back", v2), ("ahead", v3), ("out", v4), ("calls", v5), ("extra", v6)]) ∧
    Dq S H v1 (llD r.inside) ∧ Dq S H v2 (llD r.back) ∧ Dq S H v3 (llD r.ahead) ∧ Dq S H v4 (.list r.out) ∧ Dq S H v5 (ltD r.calls) ∧ Dq S H v6 r.extra := by
  obtain ⟨a, dx, fs, rfl, ha, hA, hN⟩ := h.insE
  obtain ⟨v1, fs, rfl, h1, hN⟩ := hN.consE
  obtain ⟨v2, fs, rfl, h2, hN⟩ := hN.consE
  obtain ⟨v3, fs, rfl, h3, hN⟩ := hN.consE
  obtain ⟨v4, fs, rfl, h4, hN⟩ := hN.consE
  obtain ⟨v5, fs, rfl, h5, hN⟩ := hN.consE
  obtain ⟨v6, fs, rfl, h6, hN⟩ := hN.consE
  cases hN.nilE
  exact ⟨a, dx, v1, v2, v3, v4, v5, v6, rfl, ha, hA, h1, h2, h3, h4, h5, h6⟩
theorem lkE {k : LkR} (h : Dq S H v (lkD c k)) : ∃ a dx v1 v2 v3, v = .ref a ∧ a ∉ S ∧ H a = some (.ins c.L dx [("kind", v1), ("rules", v2), ("ignore", v3)]) ∧
    Dq S H v1 k.kind ∧ Dq S H v2 (.list (k.rules.map fun r => insD c.R r.F)) ∧ Dq S H v3 k.ign := by
  obtain ⟨a, dx, fs, rfl, ha, hA, hN⟩ := h.insE
  obtain ⟨v1, fs, rfl, h1, hN⟩ := hN.consE
  obtain ⟨v2, fs, rfl, h2, hN⟩ := hN.consE
  obtain ⟨v3, fs, rfl, h3, hN⟩ := hN.consE
  cases hN.nilE
  exact ⟨a, dx, v1, v2, v3, rfl, ha, hA, h1, h2, h3⟩
theorem foE {f : FoR} (h : Dq S H v (foD c f)) : ∃ a dx v1 v2 v3 v4 v5 v6 v7 v8 v9, v = .ref a ∧ a ∉ S ∧ H a = some (.ins c.F dx [("unit", v1), ("glyphs", v2), ("chars", v3), ("lookups", v4), ("features", v5), ("axes", v6), ("regions", v7), ("functions", v8), ("presets", v9)]) ∧
    Dq S H v1 f.unit ∧ Dq S H v2 (.list (f.glyphs.map (glD c))) ∧ Dq S H v3 (ltD f.chars) ∧ Dq S H v4 (.list (f.lookups.map (lkD c))) ∧ Dq S H v5 (.list (f.features.map feD)) ∧ Dq S H v6 (ltD f.axes) ∧ Dq S H v7 (ouD3 f.regions) ∧ Dq S H v8 (ouD3 f.functions) ∧ Dq S H v9 (.list f.presets) := by
  obtain ⟨a, dx, fs, rfl, ha, hA, hN⟩ := h.insE
  obtain ⟨v1, fs, rfl, h1, hN⟩ := hN.consE
  obtain ⟨v2, fs, rfl, h2, hN⟩ := hN.consE
  obtain ⟨v3, fs, rfl, h3, hN⟩ := hN.consE
  obtain ⟨v4, fs, rfl, h4, hN⟩ := hN.consE
  obtain ⟨v5, fs, rfl, h5, hN⟩ := hN.consE
  obtain ⟨v6, fs, rfl, h6, hN⟩ := hN.consE
  obtain ⟨v7, fs, rfl, h7, hN⟩ := hN.consE
  obtain ⟨v8, fs, rfl, h8, hN⟩ := hN.consE
  obtain ⟨v9, fs, rfl, h9, hN⟩ := hN.consE
  cases hN.nilE
  exact ⟨a, dx, v1, v2, v3, v4, v5, v6, v7, v8, v9, rfl, ha, hA, h1, h2, h3, h4, h5, h6, h7, h8, h9⟩
/-- a list whose length alone matters -/
theorem lstN {f : α → PyData} {L : List α} (h : Dq S H v (.list (L.map f))) : ∃ a xs, v = .ref a ∧ H a = some (.lst xs) ∧ xs.length = L.length ∧ DqA S H xs (L.map f) := by
  obtain ⟨a, xs, rfl, _, q, r⟩ := h.lstE
  exact ⟨a, xs, rfl, q, by rw [r.len, List.length_map], r⟩
end
/-! ### rules and lookups in numbers -/
def iD (l : List Int) : List PyData := l.map .int
structure RuV where
  inside : List (List Int)
  back : List (List Int)
  ahead : List (List Int)
  out : List Int
  calls : List (Int × Int)
structure LkV where
  kind : Str
  rules : List RuV
  ign : Bool
structure GlV where
  adv : Int
  mark : Bool
def RuV.R (r : RuV) : RuR := ⟨r.inside.map iD, r.back.map iD, r.ahead.map iD, iD r.out, r.calls.map fun p => [.int p.1, .int p.2], .int 0⟩
def LkV.R (k : LkV) : LkR := ⟨.str k.kind, k.rules.map RuV.R, .bool k.ign⟩
def GlV.R (g : GlV) : GlR := ⟨.int g.adv, [], [], [], .bool g.mark, [], []⟩
structure FoV where
  glyphs : List GlV
  lks : List LkV
def FoV.R (f : FoV) : FoR := ⟨.int 100, f.glyphs.map GlV.R, [], f.lks.map LkV.R, [], [], [], [], []⟩
/-- the number before the i-th -/
def prv (l : List Int) : Nat → Int
  | 0 => -1
  | i + 1 => (l[i]?).getD (-1)
/-- a set of glyphs of a font of n glyphs -/
structure IsSet (n : Nat) (l : List Int) : Prop where
  ne : l ≠ []
  up : ∀ (i : Nat) g, l[i]? = some g → prv l i < g ∧ g < n
theorem IsSet.len {n : Nat} {l : List Int} (h : IsSet n l) : l.length ≤ n := by
  have : ∀ i, i ≤ l.length → (i : Int) - 1 ≤ prv l i := by
    intro i
    induction i with
    | zero => intro _; simp [prv]
    | succ i ih =>
      intro hi
      have h1 := (h.up i _ (List.getElem?_eq_getElem (by omega))).1
      have h2 := ih (by omega)
      have e : prv l (i + 1) = l[i]'(by omega) := by simp [prv, List.getElem?_eq_getElem (show i < l.length by omega)]
      omega
  have h1 := this l.length (Nat.le_refl _)
  cases hl : l.length with
  | zero => omega
  | succ m =>
    rw [hl] at h1
    have h2 := (h.up m _ (List.getElem?_eq_getElem (by omega))).2
    have e : prv l (m + 1) = l[m]'(by omega) := by simp [prv, List.getElem?_eq_getElem (show m < l.length by omega)]
    omega
/-- a font of such parts, as the laws make it -/
def kindsR : List Str := ["single", "multiple", "ligature", "chain", "reverse"]
structure RuV.Ok (n : Nat) (ks : List Str) (kind : Str) (r : RuV) : Prop where
  i : (kind = "single" ∨ kind = "multiple" ∨ kind = "reverse") → r.inside.length = 1
  i2 : kind = "ligature" → 2 ≤ r.inside.length
  i3 : 1 ≤ r.inside.length ∧ r.inside.length ≤ 4
  b : r.back.length ≤ 3
  a : r.ahead.length ≤ 3
  ba : ¬ (kind = "chain" ∨ kind = "reverse") → r.back = [] ∧ r.ahead = []
  s : ∀ c, c ∈ r.inside ++ r.back ++ r.ahead → IsSet n c
  o : r.out.length ≤ 8
  og : ∀ g, g ∈ r.out → 0 ≤ g ∧ g < n
  oc : kind = "chain" → r.out = []
  os : (kind = "single" ∨ kind = "reverse") → ∀ l, r.inside[0]? = some l → r.out.length = l.length
  ol : kind = "ligature" → r.out.length = 1
  c : kind ≠ "chain" → r.calls = []
  cu : ∀ (i : Nat) p, r.calls[i]? = some p → prv (r.calls.map Prod.fst) i < p.1 ∧ p.1 < r.inside.length ∧ 0 ≤ p.2 ∧ ∃ k, ks[p.2.toNat]? = some k ∧ (k = "single" ∨ k = "multiple")
structure LkV.Ok (n : Nat) (ks : List Str) (x : LkV) : Prop where
  k : x.kind ∈ kindsR
  r : x.rules.length ≤ 12
  ro : ∀ r, r ∈ x.rules → RuV.Ok n ks x.kind r
structure FoV.Ok (f : FoV) : Prop where
  g : 1 ≤ f.glyphs.length ∧ f.glyphs.length ≤ 60
  ga : ∀ g, g ∈ f.glyphs → 0 ≤ g.adv ∧ g.adv ≤ 16384
  l : f.lks.length ≤ 20
  lo : ∀ k, k ∈ f.lks → k.Ok f.glyphs.length (f.lks.map LkV.kind)
theorem RuV.R_in (r : RuV) : llD (r.R.inside ++ r.R.back ++ r.R.ahead) = .list ((r.inside ++ r.back ++ r.ahead).map fun l => .list (iD l)) := by
  unfold llD RuV.R
  simp only [← List.map_append, List.map_map]
  rfl
theorem truesL {α : Type} {S : List Addr} {H : Hp} : ∀ {L : List α} {vs : List V}, DqA S H vs (L.map fun _ => PyData.bool true) → vs = (L.map fun _ => true).map V.bl
  | [], _, h => by cases h; rfl
  | _ :: L, _, .cons h r => by
    cases h.blE
    rw [truesL r]
    rfl
theorem all_trues {α : Type} : ∀ {L : List α}, (L.map fun _ => true).all id = true
  | [] => rfl
  | _ :: L => by simp
theorem allD {α : Type} {K : PySem.W.Frag} {S : List Addr} {H : Hp} {v : V} {L : List α} {Q : VK} (h : Dq S H v (.list (L.map fun _ => PyData.bool true))) (q : Q (.bl true) H) : rAll K [v] H Q := by
  obtain ⟨a, xs, rfl, _, hx, hA⟩ := h.lstE
  obtain rfl := truesL hA
  refine g_allL (SqL.of hx) ?_
  rw [all_trues]
  exact q
structure FoK (f : FoR) (ks : List Str) : Prop where
  g : f.glyphs.length < 1000
  l : f.lookups.length < 1000
  k : ∀ (i : Nat) k, ks[i]? = some k → ∃ lk, f.lookups[i]? = some lk ∧ lk.kind = .str k
theorem boolsL {α : Type} {p : α → Bool} {S : List Addr} {H : Hp} : ∀ {L : List α} {vs : List V}, DqA S H vs (L.map fun x => PyData.bool (p x)) → vs = (L.map p).map V.bl
  | [], _, h => by cases h; rfl
  | _ :: L, _, .cons h r => by
    cases h.blE
    rw [boolsL r]
    rfl
theorem lcNil {S : List Addr} {H1 : Hp} {K : PySem.W.Frag} {g : TG} {tt : TT} {te : TE} {vs : List Nat} {σ : L2.St} {Q : VK} {a : Addr} (hS : Al S H1) (ha : Dq S H1 (.ref a) (.list [])) (q : ∀ D H, Same H1 H → Dq S H (.ref D) (.list []) → Q (.ref D) H) : lcK (Itl K a) g tt te vs σ H1 Q :=
  lcL (S := S) (es := []) (fun _ => none) hS ha (by decide) (fun D i x e H hD he => by simp at he) (fun D H s hD h => q D H s h)
theorem allE {K : PySem.W.Frag} {S : List Addr} {H : Hp} {v : V} {Q : VK} (h : Dq S H v (.list [])) (q : Q (.bl true) H) : rAll K [v] H Q := allD (L := ([] : List Unit)) h q
theorem no_has {P : Program} {w : World} {K : PySem.W.Frag} {mg : Str → Option Value} {base : Heap} {x : Str} {st : Stmt} {N ps : List Str} (D : DefIn K mg x st) (S : FnScope N ps (defScope st))
    (hb : ∀ (kV doc pm : Value) (an : Option Addr) (cdv ct : Value) (us : List Value), us.length = ps.length → bindArgs (PySem.W.fnOf x x (defArgs st) (defBody st) (defScope st) .none kV doc pm an cdv ct) ⟨us, []⟩ = pure (ps.zip us)) : Has P w K mg base 1 x ps (fun _ _ _ _ => False) :=
  has_of D S hb (fun _ _ _ _ h => h.elim) (fun _ _ _ _ _ _ _ _ _ _ h => h.elim)
/-- the dict of depths of glyphs without parts -/
def kv0 (n : Nat) : List (Key × V) := (List.range n).map fun k : Nat => (.inl (k : Int), .int 0)
theorem kv0_succ (n : Nat) : kv0 (n + 1) = kv0 n ++ [(.inl (n : Int), .int 0)] := by
  unfold kv0
  rw [List.range_succ, List.map_append]
  rfl
theorem kv0_len (n : Nat) : (kv0 n).length = n := by unfold kv0; simp
theorem kv0_none {n i : Nat} (h : n ≤ i) : valV (kv0 n) (.inl (i : Int)) = none := by
  unfold valV kv0
  rw [Option.map_eq_none_iff, List.find?_eq_none]
  intro x hx
  obtain ⟨k, hk, rfl⟩ := List.mem_map.mp hx
  have := List.mem_range.mp hk
  simp
  omega
theorem kv0_some {n i : Nat} (h : i < n) : ∃ v, valV (kv0 n) (.inl (i : Int)) = some v := by
  cases e : valV (kv0 n) (.inl (i : Int)) with
  | some v => exact ⟨v, rfl⟩
  | none =>
    exfalso
    unfold valV kv0 at e
    rw [Option.map_eq_none_iff, List.find?_eq_none] at e
    have := e (.inl (i : Int), .int 0) (List.mem_map.mpr ⟨i, List.mem_range.mpr h, rfl⟩)
    simp at this
theorem g_tB {t : TE} {σ : L2.St} {H : Hp} {Q : Bool → Hp → Prop} (h : t σ H fun x H1 => ∃ c, x = .bl c ∧ Q c H1) : tB t σ H Q := h
theorem g_dn {ty td : TE} {σ : L2.St} {H : Hp} {Q : VK} (h : ty σ H fun y H1 => td σ H1 fun x H2 => ∃ a o, x = .ref a ∧ DGet H2 a y o ∧ Q (.bl (!o.isSome)) H2) : tDNotIn ty td σ H Q := h
theorem g_dp {ty td tv : TE} {D : Ends} {σ : L2.St} {H : Hp} (h : tv σ H fun v H1 => td σ H1 fun x H2 => ty σ H2 fun y H3 => ∃ a H4, x = V.ref a ∧ DPut H3 a y v H4 ∧ D.nx σ H4) : sDPut td ty tv D σ H := h
theorem fm_some {n : Nat} : (List.range n).filterMap (fun j : Nat => some (PyData.int (j : Int))) = (List.range n).map fun j : Nat => PyData.int (j : Int) := by
  rw [← List.filterMap_eq_map]
  rfl
theorem fm_none {n : Nat} : (List.range n).filterMap (fun _ : Nat => (none : Option PyData)) = [] := by
  rw [List.filterMap_eq_nil_iff]
  intros
  rfl
theorem fnok_weak {P : Program} {w : World} {K : PySem.W.Frag} {mg : Str → Option Value} {base : Heap} {k : Nat} {f : Addr} {fd : FuncData} {ps : List Str} {sp sp' : Sp} (a : FnOk P w K mg base L2.CX0 k f fd ps sp) (h : ∀ vs H Q E, sp' vs H Q E → sp vs H Q E) : FnOk P w K mg base L2.CX0 k f fd ps sp' :=
  ⟨fun vs H Q E z => a.len vs H Q E (h _ _ _ _ z), fun A outer s H args us vs Q E r e b v z => a.run A outer s H args us vs Q E r e b v (h _ _ _ _ z)⟩
/-- a rule, a lookup as the laws hold them -/
def ruT (r : RuV) : PyData := .tuple [llD (r.inside.map iD), llD (r.back.map iD), llD (r.ahead.map iD), .list (iD r.out), ltD (r.calls.map fun p => [.int p.1, .int p.2])]
def lkT (k : LkV) : PyData := .tuple [.str k.kind, .list (k.rules.map ruT), .bool k.ign]
theorem RuV.Rok {n : Nat} {ks : List Str} {kind : Str} {r : RuV} (h : r.Ok n ks kind) (hn : n < 900) : r.R.ok := by
  have hc : r.calls.length < 1000 := by
    have h3 := h.i3.2
    have : ∀ i, i ≤ r.calls.length → (i : Int) - 1 ≤ prv (r.calls.map Prod.fst) i := by
      intro i
      induction i with
      | zero => intro _; simp [prv]
      | succ i ih =>
        intro hi
        have h1 := (h.cu i _ (List.getElem?_eq_getElem (by omega))).1
        have h2 := ih (by omega)
        have e : prv (r.calls.map Prod.fst) (i + 1) = (r.calls[i]'(by omega)).1 := by simp [prv, List.getElem?_eq_getElem (show i < r.calls.length by omega)]
        omega
    have h1 := this r.calls.length (Nat.le_refl _)
    cases hl : r.calls.length with
    | zero => omega
    | succ m =>
      rw [hl] at h1
      have h2 := (h.cu m _ (List.getElem?_eq_getElem (by omega))).2.1
      have e : prv (r.calls.map Prod.fst) (m + 1) = (r.calls[m]'(by omega)).1 := by simp [prv, List.getElem?_eq_getElem (show m < r.calls.length by omega)]
      omega
  have h3 := h.i3
  have hb := h.b
  have ha := h.a
  have ho := h.o
  refine ⟨?_, ?_, ?_, ?_, ?_, by show PyData.int 0 ≠ _; intro e; cases e⟩
  · show (r.inside.map iD).length < 1000; rw [List.length_map]; omega
  · show (r.back.map iD).length < 1000; rw [List.length_map]; omega
  · show (r.ahead.map iD).length < 1000; rw [List.length_map]; omega
  · show (r.out.map PyData.int).length < 1000; rw [List.length_map]; omega
  · show (r.calls.map _).length < 1000; rw [List.length_map]; omega
theorem LkV.Rok {n : Nat} {ks : List Str} {k : LkV} (h : k.Ok n ks) (hn : n < 900) : k.R.ok := by
  have := h.r
  refine ⟨(by intro e; cases e), ?_, fun r m => ?_, (by intro e; cases e)⟩
  · show (k.rules.map RuV.R).length < 1000; rw [List.length_map]; omega
  · obtain ⟨r', m', rfl⟩ := List.mem_map.mp m
    exact RuV.Rok (h.ro r' m') hn
theorem GlV.Rok {g : GlV} : g.R.ok := ⟨(by intro e; cases e), (by intro e; cases e), (show (0 : Nat) < 1000 by decide), (fun c m => nomatch m), (show (0 : Nat) < 1000 by decide), (show (0 : Nat) < 1000 by decide), (show (0 : Nat) < 1000 by decide), (show (0 : Nat) < 1000 by decide)⟩
theorem FoV.Rok {f : FoV} (h : f.Ok) : f.R.ok := by
  have hg := h.g
  have hl := h.l
  refine ⟨(by intro e; cases e), ?_, fun g m => ?_, (show (0 : Nat) < 1000 by decide), ?_, fun k m => ?_, (show (0 : Nat) < 1000 by decide), (show (0 : Nat) < 1000 by decide), (show (0 : Nat) < 1000 by decide), (show (0 : Nat) < 1000 by decide), (show (0 : Nat) < 1000 by decide)⟩
  · show (f.glyphs.map GlV.R).length < 1000; rw [List.length_map]; omega
  · obtain ⟨g', m', rfl⟩ := List.mem_map.mp m
    exact GlV.Rok
  · show (f.lks.map LkV.R).length < 1000; rw [List.length_map]; omega
  · obtain ⟨k', m', rfl⟩ := List.mem_map.mp m
    exact LkV.Rok (h.lo k' m') (by omega)
/-- the table of kinds -/
structure InsK (K : PySem.W.Frag) (w : World) (mg : Str → Option Value) : Prop where
  g : mg "INSIDE" = some (.ref (adr mg "INSIDE"))
  d : ∃ es n, KDict K w (adr mg "INSIDE") es n
  k : ∀ kind, kind ∈ kindsR → ∃ t lo hi, PySem.W.nsIn K (adr mg "INSIDE") kind = some (some (.ref t)) ∧ (∀ H : Hp, SqT K H t [.int lo, .int hi]) ∧ (kind, lo, hi) ∈ ([("single", 1, 1), ("multiple", 1, 1), ("ligature", 2, 4), ("chain", 1, 4), ("reverse", 1, 1)] : List (Str × Int × Int))
end Fl

set_option Elab.async false
set_option linter.all false
set_option maxRecDepth 100000
set_option maxHeartbeats 4000000
set_option exponentiation.threshold 20000
/-! comprehensions that draw; fractions as data; lists taken apart; sorted -/
namespace Fl
open PySem PySem.Spec PyProof.Rows L2
section
variable {S X : List Addr} {H1 : Hp} {K : PySem.W.Frag}
/-- the list D at turn i of a comprehension whose steps change what stands at X and keep I -/
structure GenAt (S X : List Addr) (I : Hp → Prop) (Pr : PyData → Prop) (H1 : Hp) (D : Addr) (i : Nat) (H : Hp) : Prop where
  ex : ∃ (acc : List V) (rs : List PyData), H D = some (.lst acc) ∧ DqA (D :: S) H acc rs ∧ rs.length = i ∧ ∀ r, r ∈ rs → Pr r
  fr : Fr (D :: X) H1 H
  inv : I H
theorem lcG {n : Nat} {lo : Int} {j : Nat} {te : TE} {vs : List Nat} {σ : L2.St} {Q : VK} (X : List Addr) (I : Hp → Prop) (Pr : PyData → Prop) (hS : Al S H1) (hX : ∀ b, b ∈ X → b ∈ S) (hI : I H1) (hz : n < 1000)
    (hA : ∀ H, I H → Al X H) (hP : ∀ D H o, H1 D = none → I H → I (upd H D o))
    (step : ∀ (D : Addr) (i : Nat) (H : Hp), H1 D = none → i < n → Al (D :: S) H → I H →
      ∀ (R : V → Hp → Prop), (∀ y H' r, Fr X H H' → I H' → Dq (D :: S) H' y r → Pr r → R y H') →
      wipe ((wipe σ vs).set j (some (.int (lo + i)))) vs = wipe σ vs ∧ te ((wipe σ vs).set j (some (.int (lo + i)))) H R)
    (q : ∀ (D : Addr) (H : Hp) (rs : List PyData), Fr X H1 H → I H → H1 D = none → Dq S H (.ref D) (.list rs) → rs.length = n → (∀ r, r ∈ rs → Pr r) → Q (.ref D) H) :
    lcK (Itr lo n) (gName j) tYes te vs σ H1 Q := by
  unfold lcK
  intro D hD
  have hDX : D ∉ X := fun m => hS D (hX D m) hD
  refine lc_range (GenAt S X I Pr H1 D) ⟨⟨[], [], upd_same, .nil, rfl, fun _ m => nomatch m⟩, Fr.same (Fl.Same.new hD), hP D H1 _ hD hI⟩ ?_ ?_
  · intro i H hlt h
    obtain ⟨⟨acc, rs, hacc, hd, hl, hp⟩, hf, hi⟩ := h
    have hAl : Al (D :: S) H := .cons (by rw [hacc]; simp) (hS.fr hf fun b m => by
      rcases List.mem_cons.mp m with rfl | m
      · rw [hacc]; simp
      · exact hA H hi b m)
    have st := step D i H hD hlt hAl hi (fun y H4 => ∃ acc, H4 D = some (.lst acc) ∧ acc.length < sizeLine ∧ GenAt S X I Pr H1 D (i + 1) (upd H4 D (.lst (acc ++ [y])))) ?_
    · exact ⟨st.1, st.2⟩
    · intro y H' r f k dq hr
      have f' : Fr (D :: S) H H' := f.mono fun b m => List.mem_cons_of_mem _ (hX b m)
      refine ⟨acc, f D _ hDX hacc, ?_, ⟨acc ++ [y], rs ++ [r], upd_same, ?_, ?_, ?_⟩, ?_, ?_⟩
      · have := hd.len
        have : (1000 : Nat) ≤ sizeLine := by decide
        omega
      · exact ((hd.fr f').app (.one dq)).fr (Fr.upd (by simp))
      · rw [List.length_append, hl]
        rfl
      · intro p m
        rcases List.mem_append.mp m with m | m
        · exact hp p m
        · rw [show p = r by simpa using m]
          exact hr
      · exact (hf.trans (f.mono fun b m => List.mem_cons_of_mem _ m)).trans (Fr.upd (by simp))
      · exact hP D H' _ hD k
  · intro H h
    obtain ⟨⟨acc, rs, hacc, hd, hl, hp⟩, hf, hi⟩ := h
    refine q D H rs (fun b o n e => hf b o (fun m => ?_) e) hi hD (.lst (hS.ni hD) hacc hd.tail) hl hp
    rcases List.mem_cons.mp m with rfl | m
    · rw [hD] at e; cases e
    · exact n m
end
/-! fractions as data -/
def iq (n : Int) : Rat := Rat.divInt n 1
def fqD (x : Rat) : PyData := .tuple [.int x.num, .int (x.den : Int)]
theorem fqE {S : List Addr} {H : Hp} {v : V} {x : Rat} (h : Dq S H v (fqD x)) : ∃ a, v = .ref a ∧ a ∉ S ∧ H a = some (.tup [.int x.num, .int (x.den : Int)]) := by
  obtain ⟨a, xs, rfl, na, hx, hd⟩ := h.tupE
  obtain ⟨_, _, rfl, h1, hd⟩ := hd.consE
  obtain ⟨_, _, rfl, h2, hd⟩ := hd.consE
  cases hd.nilE
  cases h1.intE
  cases h2.intE
  exact ⟨a, rfl, na, hx⟩
theorem fqI {S : List Addr} {H : Hp} {a : Addr} {x : Rat} (n : a ∉ S) (q : H a = some (.tup [.int x.num, .int (x.den : Int)])) : Dq S H (.ref a) (fqD x) := .tup n q (.cons (.int _) (.cons (.int _) .nil))
theorem eqf_app {K : PySem.W.Frag} {a b : Addr} {x y : Rat} {H : Hp} {Q : VK} (h1 : RV K H a x) (h2 : RV K H b y) (q : Q (.bl (decide (x = y))) H) : rEqD K (.ref a) (.ref b) H Q := by
  have d1 : ∀ {a : Addr} {x : Rat}, RV K H a x → Dp K H (.ref a) (.tuple [.int x.num, .int x.den]) := fun h => .tup h (.cons (.int _) (.cons (.int _) .nil))
  refine ⟨_, _, d1 h1, d1 h2, rfl, rfl, ?_⟩
  by_cases e : x = y
  · subst e
    have e2 : PyData.eqv (.tuple [.int x.num, .int x.den]) (.tuple [.int x.num, .int x.den]) = true := SeqAt.eqv_refl _ rfl
    rw [e2]
    simpa using q
  · have e2 : PyData.eqv (.tuple [.int x.num, .int x.den]) (.tuple [.int y.num, .int y.den]) = false := by
      cases hb : PyData.eqv (.tuple [.int x.num, .int x.den]) (.tuple [.int y.num, .int y.den]) with
      | false => rfl
      | true =>
        exfalso
        apply e
        simp [PyData.eqv, PyData.eqvAll] at hb
        exact Rat.ext hb.1 (by omega)
    rw [e2]
    simpa [e] using q
/-! [ratio(n) for n in a tuple of integers] -/
theorem lcT {K : PySem.W.Frag} {H1 : Hp} {a : Addr} {ns : List Int} {j : Nat} {te : TE} {vs : List Nat} {σ : L2.St} {Q : VK} (ha : SqT K H1 a (ns.map V.int)) (hz : ns.length < 1000)
    (step : ∀ (D : Addr) (i : Nat) (n : Int) (H : Hp), H1 D = none → ns[i]? = some n → Same H1 H →
      ∀ (R : V → Hp → Prop), (∀ t H', H t = none → Same H H' → RV K H' t (iq n) → R (.ref t) H') →
      wipe ((wipe σ vs).set j (some (.int n))) vs = wipe σ vs ∧ te ((wipe σ vs).set j (some (.int n))) H R)
    (q : ∀ (D : Addr) (H : Hp) (ts : List Addr), Same H1 H → H D = some (.lst (ts.map V.ref)) → ts.length = ns.length → (∀ (k : Nat) (t : Addr) (n : Int), ts[k]? = some t → ns[k]? = some n → RV K H t (iq n)) → Q (.ref D) H) :
    lcK (Itt K a) (gName j) tYes te vs σ H1 Q := by
  unfold lcK
  intro D hD
  refine lc_tup (xs := ns.map V.int) (fun i H => (∃ ts : List Addr, H D = some (.lst (ts.map V.ref)) ∧ ts.length = i ∧ ∀ (k : Nat) (t : Addr) (n : Int), ts[k]? = some t → ns[k]? = some n → t ≠ D ∧ RV K H t (iq n)) ∧ Fr [D] H1 H) ⟨⟨[], upd_same, rfl, fun k t n h => by simp at h⟩, Fr.same (Fl.Same.new hD)⟩ ?_ ?_ ?_
  · intro i H _ ⟨_, hf⟩
    exact Fl.Same.t (sm_of hD hf) ha
  · intro i x H hx ⟨⟨ts, hts, hl, hr⟩, hf⟩
    have hlt : i < ns.length := by
      have := (List.getElem?_eq_some_iff.mp hx).1
      simpa using this
    rw [List.getElem?_map] at hx
    cases hn : ns[i]? with
    | none => rw [hn] at hx; cases hx
    | some n =>
      rw [hn] at hx
      cases hx
      have st := step D i n H hD hn (sm_of hD hf) (fun y H4 => ∃ acc, H4 D = some (.lst acc) ∧ acc.length < sizeLine ∧ ((∃ ts : List Addr, (upd H4 D (.lst (acc ++ [y]))) D = some (.lst (ts.map V.ref)) ∧ ts.length = i + 1 ∧ ∀ (k : Nat) (t : Addr) (n : Int), ts[k]? = some t → ns[k]? = some n → t ≠ D ∧ RV K (upd H4 D (.lst (acc ++ [y]))) t (iq n)) ∧ Fr [D] H1 (upd H4 D (.lst (acc ++ [y]))))) ?_
      · exact ⟨st.1, st.2⟩
      · intro t H' ht sm rv
        have htD : t ≠ D := fun e => by rw [e, hts] at ht; cases ht
        refine ⟨ts.map V.ref, sm _ _ hts, ?_, ⟨ts ++ [t], ?_, ?_, ?_⟩, ?_⟩
        · have : (1000 : Nat) ≤ sizeLine := by decide
          rw [List.length_map]
          omega
        · rw [upd_same, List.map_append]
          rfl
        · rw [List.length_append, hl]
          rfl
        · intro k u m hk hm
          by_cases hki : k < ts.length
          · rw [List.getElem?_append_left hki] at hk
            obtain ⟨g1, g2⟩ := hr k u m hk hm
            exact ⟨g1, RV.ex1 Ex1.upd g1 (g2.same sm)⟩
          · rw [List.getElem?_append_right (by omega)] at hk
            have hk0 : k - ts.length = 0 := by
              have := (List.getElem?_eq_some_iff.mp hk).1
              simp at this
              omega
            rw [hk0] at hk
            cases hk
            have : k = i := by omega
            rw [this, hn] at hm
            cases hm
            exact ⟨htD, RV.ex1 Ex1.upd htD rv⟩
        · exact (hf.trans (Fr.same sm)).trans (Fr.upd (by simp))
  · intro H ⟨⟨ts, hts, hl, hr⟩, hf⟩
    rw [List.length_map] at hl
    exact q D H ts (sm_of hD hf) hts hl (fun k t n h1 h2 => (hr k t n h1 h2).2)
/-! a, b, .. = a list -/
theorem pgL {X : Cx} {K : PySem.W.Frag} {es : List Expr} {j : Nat} {t : TGs} {n : Nat} {pos : Pos} (e : X.K = K) (hc : X.calm = true) (h : PGs X es t)
    (hn : (assignEach es X.env).length = n := by rfl) (hst : (assignEach es X.env).findIdx? (·.1) = none := by rfl) : PG X (.Tuple es j pos) (gLst K n t) := by subst e; exact pg_lst hc h hn hst
theorem g_glst {K : PySem.W.Frag} {n : Nat} {t : TGs} {a : Addr} {xs : List V} {σ : L2.St} {H : Hp} {Q : L2.St → Hp → Prop} (h : SqL K H a xs) (e : xs.length = n) (q : t xs σ H Q) : gLst K n t (.ref a) σ H Q := ⟨a, xs, rfl, h, e, q⟩
/-! sorted of a few integers -/
theorem clSort {X : Cx} {K : PySem.W.Frag} (e : X.K = K) : CallR X (.builtin "sorted") (rSorted K) := by subst e; exact cr_sorted
theorem g_sort {K : PySem.W.Frag} {a : Addr} {ns : List Int} {H : Hp} {Q : VK} (h : SqL K H a (ns.map V.int)) (hz : ns.length < 64) (q : ∀ (ns' : List Int) (p : Addr), ns'.Perm ns → ns'.Pairwise (· ≤ ·) → H p = none → Q (.ref p) (upd H p (.lst (ns'.map V.int)))) : rSorted K [.ref a] H Q := ⟨a, ns, rfl, h, hz, q⟩
theorem sort3 {ns : List Int} {a b c lo hi : Int} (hp : ns.Perm [a, b, c]) (hs : ns.Pairwise (· ≤ ·)) (ha : lo ≤ a ∧ a ≤ hi) (hb : lo ≤ b ∧ b ≤ hi) (hc : lo ≤ c ∧ c ≤ hi) : ∃ x y z, ns = [x, y, z] ∧ lo ≤ x ∧ x ≤ y ∧ y ≤ z ∧ z ≤ hi := by
  have hl := hp.length_eq
  match ns, hl with
  | [x, y, z], _ =>
    have hx : ∀ v, v ∈ [x, y, z] → lo ≤ v ∧ v ≤ hi := fun v m => by
      have := hp.mem_iff.mp m
      simp at this
      rcases this with rfl | rfl | rfl <;> assumption
    have h1 := hx x (by simp)
    have h3 := hx z (by simp)
    simp at hs
    exact ⟨x, y, z, rfl, h1.1, hs.1.1, hs.2, h3.2⟩
end Fl

set_option Elab.async false
set_option linter.all false
set_option maxRecDepth 100000
set_option maxHeartbeats 4000000
/-! draws: a list of integers, from whose end numbers are taken -/
namespace Fl
open PySem PySem.Spec PyProof.Rows L2
def Dw (d : Addr) (H : Hp) : Prop := ∃ zs : List Int, H d = some (.lst (zs.map V.int)) ∧ zs.length ≤ 10000
theorem Dw.hd {d : Addr} {H : Hp} (h : Dw d H) : H d ≠ none := by
  obtain ⟨zs, e, _⟩ := h
  rw [e]
  simp
theorem Dw.put {d D : Addr} {H : Hp} {o : HO} (h : Dw d H) (n : D ≠ d) : Dw d (upd H D o) := by
  obtain ⟨zs, e, b⟩ := h
  exact ⟨zs, by rw [upd_ne n.symm]; exact e, b⟩
theorem Dw.newH {d p : Addr} {H : Hp} {o : HO} (e : H p = none) (h : Dw d H) : Dw d (upd H p o) := h.put fun k => h.hd (k ▸ e)
theorem Dw.sm {d : Addr} {H H' : Hp} (s : Same H H') (h : Dw d H) : Dw d H' := by
  obtain ⟨zs, e, b⟩ := h
  exact ⟨zs, s _ _ e, b⟩
theorem Dw.fr {d : Addr} {H H' : Hp} {S : List Addr} (s : Fr S H H') (n : d ∉ S) (h : Dw d H) : Dw d H' := by
  obtain ⟨zs, e, b⟩ := h
  exact ⟨zs, s _ _ n e, b⟩
theorem Dw.ned {d p : Addr} {H : Hp} (e : H p = none) (h : Dw d H) : p ≠ d := fun k => h.hd (k ▸ e)
def spDws (K : PySem.W.Frag) : Sp := fun vs H Q _ => ∃ (a : Addr) (ns : List Int), vs = [.ref a] ∧ SqL K H a (ns.map V.int) ∧ ns.length ≤ 63 ∧ ∀ d H', Same H H' → H d = none → Dw d H' → Q (.ref d) H'
theorem dws_app {K : PySem.W.Frag} {a : Addr} {ns : List Int} {H : Hp} {Q : VK} {E : XK} (h : SqL K H a (ns.map V.int)) (hl : ns.length ≤ 63) (q : ∀ d H', Same H H' → H d = none → Dw d H' → Q (.ref d) H') : spDws K [.ref a] H Q E := ⟨a, ns, rfl, h, hl, q⟩
def spTk : Sp := fun vs H Q _ => ∃ (d : Addr) (m : Int), vs = [.ref d, .int m] ∧ Dw d H ∧ 0 < m ∧ ∀ v H', 0 ≤ v → v < m → Dw d H' → On d H H' → Q (.int v) H'
theorem tk_app {d : Addr} {m : Int} {H : Hp} {Q : VK} {E : XK} (h : Dw d H) (hm : 0 < m) (q : ∀ v H', 0 ≤ v → v < m → Dw d H' → On d H H' → Q (.int v) H') : spTk [.ref d, .int m] H Q E := ⟨d, m, rfl, h, hm, q⟩
theorem Same.updN {H H' : Hp} {D : Addr} {o : HO} (hD : H D = none) (h : Same H H') : Same H (upd H' D o) := fun b u e => by
  rw [upd_ne (fun k => by rw [k, hD] at e; cases e)]
  exact h b u e
theorem g_appB {l : Addr} {xs : List V} {y : V} {H : Hp} {Q : VK} (h : H l = some (.lst xs)) (hz : xs.length < 100000) (q : Q .non (upd H l (.lst (xs ++ [y])))) : rAppend (.ref l) [y] H Q := ⟨l, xs, y, rfl, rfl, h, Nat.lt_of_lt_of_le hz (by decide), q⟩
theorem g_bm0 {K : PySem.W.Frag} {T : String} {r : V → List V → Hp → VK → Prop} {to : TE} {σ : L2.St} {H : Hp} {Q : VK} (h : to σ H fun x H1 => tyV K T x H1 ∧ r x [] H1 Q) : tBM0 K T r to σ H Q := h
theorem g_pop {l : Addr} {xs : List V} {y : V} {H : Hp} {Q : VK} (h : H l = some (.lst xs)) (hy : xs[xs.length - 1]? = some y) (q : Q y (upd H l (.lst xs.dropLast))) : rPop (.ref l) [] H Q := ⟨l, xs, y, rfl, rfl, h, hy, q⟩
/-- more integers behind a list of integers -/
theorem ints_snoc {zs : List Int} {z : Int} : zs.map V.int ++ [V.int z] = (zs ++ [z]).map V.int := by simp
theorem picks {α : Type} {f : α → PyData} {Pr : α → Prop} : ∀ {rs : List PyData}, (∀ r, r ∈ rs → ∃ p, r = f p ∧ Pr p) → ∃ ps : List α, rs = ps.map f ∧ ∀ p, p ∈ ps → Pr p
  | [], _ => ⟨[], rfl, fun _ m => nomatch m⟩
  | r :: rs, h => by
    obtain ⟨p, e, hp⟩ := h r (by simp)
    subst e
    obtain ⟨ps, e, hps⟩ := picks (rs := rs) fun r m => h r (by simp [m])
    subst e
    exact ⟨p :: ps, rfl, fun q m => by
      rcases List.mem_cons.mp m with rfl | m
      · exact hp
      · exact hps q m⟩
section
variable {S : List Addr} {H1 : Hp} {K : PySem.W.Frag} {g : TG} {tt : TT} {te : TE} {vs : List Nat} {σ : L2.St} {Q : VK}
/-- [elt for i, x in enumerate(list) if test], nothing changed -/
theorem lcE {a : Addr} {xs : List V} (f : Nat → Option PyData) (hS : Al S H1) (ha : H1 a = some (.lst xs)) (hz : xs.length < 1000)
    (step : ∀ (D : Addr) (i : Nat) (x : V) (T : Addr) (H : Hp), H1 D = none → xs[i]? = some x → Same H1 H → Al (D :: S) H → H T = none →
      ∀ (R : V → Hp → Prop) (N : Hp → Prop), (∀ r y H4, f i = some r → Same (upd H T (.tup [.int (i : Nat), x])) H4 → Dq (D :: S) H4 y r → R y H4) → (f i = none → ∀ H4, Same (upd H T (.tup [.int (i : Nat), x])) H4 → N H4) →
      g (.ref T) (wipe σ vs) (upd H T (.tup [.int (i : Nat), x])) fun σ2 H2 => wipe σ2 vs = wipe σ vs ∧ tt σ2 H2 fun b H3 => if b = true then te σ2 H3 R else N H3)
    (q : ∀ (D : Addr) (H : Hp), Same H1 H → H1 D = none → Dq S H (.ref D) (.list ((List.range xs.length).filterMap f)) → Q (.ref D) H) :
    lcK (Ite K a) g tt te vs σ H1 Q := by
  unfold lcK
  intro D hD
  have hDa : a ≠ D := fun e => by rw [e, hD] at ha; cases ha
  refine lc_it (walk_enum (xs := xs)) (CompAt S H1 D f) (CompAt.zero hD) ?_ ?_ ?_
  · intro i H _ h
    exact SqL.of (h.fr a _ (by simpa using hDa) ha)
  · intro i x H H' hi h ⟨T, y, z, e1, hT, e2, e3, e4⟩
    subst e1 e2
    cases e3
    have hsm : Same H1 H := sm_of hD h.fr
    exact step D i z T H hD e4 hsm (h.al hS hD) hT _ _ (fun r y H4 er s d => h.put (by omega) er ((Fl.Same.new hT).trans s) d) fun en H4 s => (h.same ((Fl.Same.new hT).trans s)).skip en
  · intro H h
    exact q D H (sm_of hD h.fr) hD (h.fin hS hD)
/-- [test for x in dict.values()] -/
theorem lcVT {d : Addr} {od : Obj} {kvs : List (Key × V)} {j : Nat} (p : Nat → Bool) (hd : H1 d = some (.frz od (.dK kvs))) (hz : kvs.length < 1000)
    (step : ∀ (D : Addr) (i : Nat) (k : Key) (x : V) (H : Hp), H1 D = none → kvs[i]? = some (k, x) → Same H1 H → ∀ (R : V → Hp → Prop), R (.bl (p i)) H →
      wipe ((wipe σ vs).set j (some x)) vs = wipe σ vs ∧ te ((wipe σ vs).set j (some x)) H R)
    (q : ∀ (D : Addr) (H : Hp), Same H1 H → H1 D = none → H D = some (.lst (((List.range kvs.length).map p).map V.bl)) → Q (.ref D) H) :
    lcK (Itd d od kvs) (gName j) tYes te vs σ H1 Q := by
  unfold lcK
  intro D hD
  have hDd : d ≠ D := fun e => by rw [e, hD] at hd; cases hd
  refine lc_it (walk_values (kvs := kvs)) (fun i H => H D = some (.lst (((List.range i).map p).map V.bl)) ∧ Fr [D] H1 H) ⟨upd_same, Fr.same (Fl.Same.new hD)⟩ ?_ ?_ ?_
  · intro i H _ h
    exact h.2 d _ (by simpa using hDd) hd
  · intro i x H H' hi ⟨h1, h2⟩ ⟨e1, k, e2⟩
    subst e1
    have st := step D i k x H' hD e2 (sm_of hD h2) (fun y H4 => ∃ acc, H4 D = some (.lst acc) ∧ acc.length < sizeLine ∧ ((upd H4 D (.lst (acc ++ [y]))) D = some (.lst (((List.range (i + 1)).map p).map V.bl)) ∧ Fr [D] H1 (upd H4 D (.lst (acc ++ [y]))))) ?_
    · exact ⟨st.1, st.2⟩
    · refine ⟨_, h1, ?_, ?_, h2.trans (Fr.upd (by simp))⟩
      · have : (1000 : Nat) ≤ sizeLine := by decide
        rw [List.length_map, List.length_map, List.length_range]
        omega
      · rw [upd_same, List.range_succ, List.map_append, List.map_append]
        rfl
  · intro H ⟨h1, h2⟩
    exact q D H (sm_of hD h2) hD h1
end
theorem g_lockE {t : TE} {σ : L2.St} {H : Hp} {Q : VK} {d : Addr} {u : HO} (h : H d = some u) (m : Mut (some u)) (q : ∀ od, t σ (upd H d (.frz od u)) fun v H' => H' d = some (.frz od u) ∧ Q v (upd H' d u)) : tLockE t σ H Q := ⟨d, u, h, m, q⟩
theorem same_lock {H G : Hp} {d : Addr} {u w : HO} (h : H d = some u) (s : Same (upd H d w) G) : Same H (upd G d u) := fun b o e => by
  by_cases n : b = d
  · subst n
    rw [upd_same]
    rw [h] at e
    exact e
  · rw [upd_ne n]
    exact s b o (by rw [upd_ne n]; exact e)
theorem g_ivals {td : TE} {σ : L2.St} {H : Hp} {R : It → Hp → Prop} (h : td σ H fun x H1 => ∃ d o kvs, x = V.ref d ∧ H1 d = some (.frz o (.dK kvs)) ∧ R (Itd d o kvs) H1) : iVals td σ H R := h
theorem ixN_nat {n a : Nat} (h : a < n) : ixN n (a : Int) = some a := by
  unfold ixN
  simp [h]
theorem take_snoc {α : Type} {l : List α} {i : Nat} {x : α} (h : l[i]? = some x) : l.take (i + 1) = l.take i ++ [x] := by
  rw [List.take_add_one, h]
  rfl
end Fl

set_option Elab.async false
set_option linter.all false
set_option maxRecDepth 100000
set_option maxHeartbeats 4000000
/-! own classes made with values alone -/
namespace Fl
open PySem PySem.Spec PyProof.Rows L2
structure MkP (P : Program) (w : World) (K : PySem.W.Frag) (mg : Str → Option Value) (base : Heap) (k : Nat) (x : Str) (sp : Sp) : Prop where
  ex : ∃ (f : Addr) (fd : FuncData) (ps : List Str), mg x = some (.ref (adr mg x)) ∧ Mk K (adr mg x) f ∧ FnOk P w K mg base L2.CX0 k f fd ps sp ∧ L2.Binds K fd ps []
theorem InI.makeP {P : Program} {w : World} {K : PySem.W.Frag} {mg : Str → Option Value} {base : Heap} {x qual : Str} {st : Stmt} {fs : List Str} {kws : List (Str × V)} {ps : List Str} {k : Nat} {sp : Sp} (D : InI P w K mg base k x qual st fs kws ps sp)
    (hb : ∀ (kV doc pm : Value) (an : Option Addr) (cdv ct : Value) (us : List Value), us.length = ps.length → bindArgs (PySem.W.fnOf "__init__" qual (defArgs st) (defBody st) (defScope st) .none kV doc pm an cdv ct) ⟨us, []⟩ = pure (ps.zip us)) :
    MkP P w K mg base k x sp := by
  obtain ⟨f, fd, a, M, F, G⟩ := D.ex
  exact ⟨f, fd, ps, a, M, G, F.bindsN hb⟩
theorem pe_mkP {X : Cx} {mg : Str → Option Value} {k : Nat} {x : Str} {sp : Sp} {e : Expr} {es : List Expr} {t : TA} {p pos : Pos} (em : X.mg = mg) (h : MkP X.prog X.w X.K X.mg X.base k x sp) (hr : Room (k + 1) X.A) (ha : PA X (e :: es) t) (hg : Gl X x := by rfl)
    (hdb : (x == ("__debug__" : Str)) = false := by decide) (he : starEach (e :: es) X.env = (false, eval e X.env) :: starEach es X.env := by rfl) (hpl : (backTo pos (starEach es X.env)).any (·.1) = false := by rfl) :
    PE X (.Call (.Name x p) (e :: es) [] pos) (tMake (adr mg x) sp [] E0 t) := by
  subst em
  obtain ⟨f, fd, ps, a, b, c, d⟩ := h.ex
  exact pe_make b c hr hg a d .nil pass0 ha hdb he hpl
theorem g_mkP {C : Addr} {sp : Sp} {E : XK} {t : TA} {σ : L2.St} {H : Hp} {Q : VK} (h : t σ H fun vs H1 => ∀ x dx, H1 x = none → H1 dx = none → dx ≠ x → sp (.ref x :: (vs ++ [])) (upd (upd H1 dx (.own x)) x (.ins C dx [])) (fun v H2 => v = .non ∧ Q (.ref x) H2) E) : tMake C sp [] E t σ H Q := h
end Fl

set_option Elab.async false
set_option linter.all false
set_option maxRecDepth 100000
set_option maxHeartbeats 4000000
/-! comprehensions over two lists; copies whose data avoid other addresses than what they are copied from; lists of lists of integers, each at an address of its own -/
namespace Fl
open PySem PySem.Spec PyProof.Rows L2
section
variable {S T : List Addr} {H1 : Hp} {K : PySem.W.Frag} {g : TG} {tt : TT} {te : TE} {vs : List Nat} {σ : L2.St} {Q : VK}
/-- [elt for x, y in zip(list, list)] -/
theorem lcZ {a b : Addr} {xs ys : List V} (f : Nat → Option PyData) (hS : Al S H1) (ha : H1 a = some (.lst xs)) (hb : H1 b = some (.lst ys)) (hl : xs.length = ys.length) (hz : xs.length < 1000)
    (step : ∀ (D : Addr) (i : Nat) (x y : V) (T : Addr) (H : Hp), H1 D = none → xs[i]? = some x → ys[i]? = some y → Same H1 H → Al (D :: S) H → H T = none →
      ∀ (R : V → Hp → Prop) (N : Hp → Prop), (∀ r z H4, f i = some r → Same (upd H T (.tup [x, y])) H4 → Dq (D :: S) H4 z r → R z H4) → (f i = none → ∀ H4, Same (upd H T (.tup [x, y])) H4 → N H4) →
      g (.ref T) (wipe σ vs) (upd H T (.tup [x, y])) fun σ2 H2 => wipe σ2 vs = wipe σ vs ∧ tt σ2 H2 fun b H3 => if b = true then te σ2 H3 R else N H3)
    (q : ∀ (D : Addr) (H : Hp), Same H1 H → H1 D = none → Dq S H (.ref D) (.list ((List.range xs.length).filterMap f)) → Q (.ref D) H) :
    lcK (Itz K a b) g tt te vs σ H1 Q := by
  unfold lcK
  intro D hD
  have hDa : a ≠ D := fun e => by rw [e, hD] at ha; cases ha
  have hDb : b ≠ D := fun e => by rw [e, hD] at hb; cases hb
  refine lc_it (walk_zip (xs := xs) (ys := ys) (n := xs.length) (by omega)) (CompAt S H1 D f) (CompAt.zero hD) ?_ ?_ ?_
  · intro i H _ h
    exact ⟨SqL.of (h.fr a _ (by simpa using hDa) ha), SqL.of (h.fr b _ (by simpa using hDb) hb)⟩
  · intro i x H H' hi h ⟨T, y, z, e1, hT, e2, e3, e4⟩
    subst e1 e2
    have hsm : Same H1 H := sm_of hD h.fr
    exact step D i y z T H hD e3 e4 hsm (h.al hS hD) hT _ _ (fun r y H4 er s d => h.put (by omega) er ((Fl.Same.new hT).trans s) d) fun en H4 s => (h.same ((Fl.Same.new hT).trans s)).skip en
  · intro H h
    exact q D H (sm_of hD h.fr) hD (h.fin hS hD)
/-- lcL: what is copied from avoids S, what is made avoids T -/
theorem lcL2 {a : Addr} {es : List PyData} (f : Nat → Option PyData) (hT : Al T H1) (ha : Dq S H1 (.ref a) (.list es)) (hz : es.length < 1000)
    (step : ∀ (D : Addr) (i : Nat) (x : V) (e : PyData) (H : Hp), H1 D = none → es[i]? = some e → Same H1 H → Al (D :: T) H → Dq (D :: S) H x e →
      ∀ (R : V → Hp → Prop) (N : Hp → Prop), (∀ r y H4, f i = some r → Same H H4 → Dq (D :: T) H4 y r → R y H4) → (f i = none → ∀ H4, Same H H4 → N H4) →
      g x (wipe σ vs) H fun σ2 H2 => wipe σ2 vs = wipe σ vs ∧ tt σ2 H2 fun b H3 => if b = true then te σ2 H3 R else N H3)
    (q : ∀ (D : Addr) (H : Hp), Same H1 H → H1 D = none → Dq T H (.ref D) (.list ((List.range es.length).filterMap f)) → Q (.ref D) H) :
    lcK (Itl K a) g tt te vs σ H1 Q := by
  unfold lcK
  intro D hD
  obtain ⟨a', xs, ea, na, hxs, hall⟩ := ha.lstE
  cases ea
  have hlx := hall.len
  have hDa : a ≠ D := fun e => by rw [e, hD] at hxs; cases hxs
  refine lc_list (xs := xs) (CompAt T H1 D f) (CompAt.zero hD) ?_ ?_ ?_
  · intro i H _ h
    exact SqL.of (h.fr a _ (by simpa using hDa) hxs)
  · intro i x H hx h
    have hlt : i < xs.length := (List.getElem?_eq_some_iff.mp hx).1
    have hsm : Same H1 H := sm_of hD h.fr
    have hall' : DqA (D :: S) H xs es := (hall.new hD).same hsm
    obtain ⟨e, he, hxe⟩ := hall'.get hx
    exact step D i x e H hD he hsm (h.al hT hD) hxe _ _ (fun r y H4 er s d => h.put (by omega) er s d) fun en H4 s => (h.same s).skip en
  · intro H h
    rw [hlx] at h
    exact q D H (sm_of hD h.fr) hD (h.fin hT hD)
/-- [elt for x in tuple], nothing changed -/
theorem lcTu {a : Addr} {xs : List V} (f : Nat → Option PyData) (hS : Al S H1) (ha : H1 a = some (.tup xs)) (hz : xs.length < 1000)
    (step : ∀ (D : Addr) (i : Nat) (x : V) (H : Hp), H1 D = none → xs[i]? = some x → Same H1 H → Al (D :: S) H →
      ∀ (R : V → Hp → Prop) (N : Hp → Prop), (∀ r y H4, f i = some r → Same H H4 → Dq (D :: S) H4 y r → R y H4) → (f i = none → ∀ H4, Same H H4 → N H4) →
      g x (wipe σ vs) H fun σ2 H2 => wipe σ2 vs = wipe σ vs ∧ tt σ2 H2 fun b H3 => if b = true then te σ2 H3 R else N H3)
    (q : ∀ (D : Addr) (H : Hp), Same H1 H → H1 D = none → Dq S H (.ref D) (.list ((List.range xs.length).filterMap f)) → Q (.ref D) H) :
    lcK (Itt K a) g tt te vs σ H1 Q := by
  unfold lcK
  intro D hD
  have hDa : a ≠ D := fun e => by rw [e, hD] at ha; cases ha
  refine lc_tupP (xs := xs) (CompAt S H1 D f) (CompAt.zero hD) ?_ ?_ ?_
  · intro i H _ h
    exact SqT.of (h.fr a _ (by simpa using hDa) ha)
  · intro i x H hx h
    have hlt : i < xs.length := (List.getElem?_eq_some_iff.mp hx).1
    exact step D i x H hD hx (sm_of hD h.fr) (h.al hS hD) _ _ (fun r y H4 er s d => h.put (by omega) er s d) fun en H4 s => (h.same s).skip en
  · intro H h
    exact q D H (sm_of hD h.fr) hD (h.fin hS hD)
/-- lists of integers, each at an address of its own; S besides -/
structure NsA (S : List Addr) (H : Hp) (ras : List Addr) (rs : List (List Int)) : Prop where
  l : ras.length = rs.length
  n : ras.Nodup
  s : ∀ a, a ∈ ras → a ∉ S
  d : ∀ (i : Nat) a r, ras[i]? = some a → rs[i]? = some r → H a = some (.lst (r.map V.int))
theorem NsA.same {H H' : Hp} {ras : List Addr} {rs : List (List Int)} (h : NsA S H ras rs) (f : Same H H') : NsA S H' ras rs :=
  ⟨h.l, h.n, h.s, fun i a r h1 h2 => f _ _ (h.d i a r h1 h2)⟩
theorem NsA.fr {X : List Addr} {H H' : Hp} {ras : List Addr} {rs : List (List Int)} (h : NsA S H ras rs) (f : Fr X H H') (hX : ∀ a, a ∈ X → a ∉ ras) : NsA S H' ras rs :=
  ⟨h.l, h.n, h.s, fun i a r h1 h2 => f a _ (fun m => hX a m (List.mem_of_getElem? h1)) (h.d i a r h1 h2)⟩
theorem NsA.al {H : Hp} {ras : List Addr} {rs : List (List Int)} (h : NsA S H ras rs) (k : Al S H) : Al (ras ++ S) H := fun b m e => by
  rcases List.mem_append.mp m with m | m
  · obtain ⟨i, hi⟩ := List.mem_iff_getElem?.mp m
    have hil := (List.getElem?_eq_some_iff.mp hi).1
    rw [h.l] at hil
    have z := h.d i b rs[i] hi (List.getElem?_eq_getElem hil)
    rw [z] at e; cases e
  · exact k b m e
theorem frN {X : List Addr} {H H' : Hp} {a : Addr} {o : HO} (f : Fr X H H') (h : H a = none) : Fr X H (upd H' a o) := fun b u n e => by
  have hb : b ≠ a := fun z => by rw [z, h] at e; cases e
  rw [upd_ne hb]
  exact f b u n e
theorem DqA_set {S : List Addr} {H : Hp} {v : V} {e : PyData} (k : Dq S H v e) : ∀ {vs : List V} {ds : List PyData} (j : Nat), DqA S H vs ds → DqA S H (vs.set j v) (ds.set j e)
  | _, _, _, .nil => .nil
  | _, _, 0, .cons _ r => .cons k r
  | _, _, j + 1, .cons h r => .cons h (DqA_set k j r)
theorem ints_dq {S : List Addr} {H : Hp} : ∀ l : List Int, DqA S H (l.map V.int) (l.map PyData.int)
  | [] => .nil
  | n :: l => .cons (.int n) (ints_dq l)
theorem NsA.dq {H : Hp} {ras : List Addr} {rs : List (List Int)} (h : NsA S H ras rs) : DqA S H (ras.map V.ref) (rs.map fun r => PyData.list (r.map .int)) := by
  have go : ∀ (l : List Addr) (rg : List (List Int)), l.length = rg.length → (∀ (i : Nat) a r, l[i]? = some a → rg[i]? = some r → Dq S H (.ref a) (.list (r.map .int))) → DqA S H (l.map V.ref) (rg.map fun r => PyData.list (r.map .int)) := by
    intro l
    induction l with
    | nil => intro rg h _; match rg, h with | [], _ => exact .nil
    | cons a l ih =>
      intro rg h k
      match rg, h with
      | r :: rg, h => exact .cons (k 0 a r rfl rfl) (ih rg (by simpa using h) fun i a r h1 h2 => k (i + 1) a r (by simpa using h1) (by simpa using h2))
  exact go ras rs h.l fun i a r h1 h2 => .lst (h.s a (List.mem_of_getElem? h1)) (h.d i a r h1 h2) (ints_dq r)
theorem nsa_at {α : Type} : ∀ {l : List α} {i j : Nat} {a : α}, l.Nodup → l[i]? = some a → l[j]? = some a → i = j
  | [], _, _, _, _, h, _ => by simp at h
  | x :: l, 0, 0, _, _, _, _ => rfl
  | x :: l, 0, j + 1, a, h, h1, h2 => by
    have e : x = a := by simpa using h1
    subst e
    exact absurd (List.mem_of_getElem? (by simpa using h2)) (List.nodup_cons.mp h).1
  | x :: l, i + 1, 0, a, h, h1, h2 => by
    have e : x = a := by simpa using h2
    subst e
    exact absurd (List.mem_of_getElem? (by simpa using h1)) (List.nodup_cons.mp h).1
  | x :: l, i + 1, j + 1, a, h, h1, h2 => by
    have := nsa_at (List.nodup_cons.mp h).2 (i := i) (j := j) (a := a) (by simpa using h1) (by simpa using h2)
    omega
/-- a number put into one of them -/
theorem NsA.set {H : Hp} {ras : List Addr} {rs : List (List Int)} (h : NsA S H ras rs) {i : Nat} {ra : Addr} {r0 : List Int} (hra : ras[i]? = some ra) (r1 : List Int) :
    NsA S (upd H ra (.lst (r1.map V.int))) ras (rs.set i r1) := by
  refine ⟨by rw [List.length_set]; exact h.l, h.n, h.s, fun k a r h1 h2 => ?_⟩
  by_cases hk : i = k
  · subst hk
    rw [hra] at h1
    cases h1
    have hil := (List.getElem?_eq_some_iff.mp hra).1
    rw [List.getElem?_set_self (by rw [← h.l]; exact hil)] at h2
    cases h2
    exact upd_same
  · rw [List.getElem?_set_ne hk] at h2
    have hne : a ≠ ra := fun e => hk (nsa_at h.n hra (by rw [← e]; exact h1))
    rw [upd_ne hne]
    exact h.d k a r h1 h2
/-- [list(x) for x in list of lists of integers], each copy at an address of its own -/
theorem lcNs {S0 : List Addr} {a : Addr} {es : List (List Int)} {g : TG} {te : TE} (hS : Al S H1) (ha : Dq S0 H1 (.ref a) (.list (es.map fun r => PyData.list (r.map .int)))) (hz : es.length < 1000)
    (step : ∀ (D : Addr) (x : V) (e : List Int) (H : Hp), Dq [] H x (.list (e.map .int)) → Al (D :: S) H →
      ∀ (R : V → Hp → Prop), (∀ p, H p = none → R (.ref p) (upd H p (.lst (e.map V.int)))) → g x (wipe σ vs) H fun σ2 H2 => wipe σ2 vs = wipe σ vs ∧ te σ2 H2 R)
    (q : ∀ (D : Addr) (H : Hp) (ras : List Addr), Same H1 H → H1 D = none → H D = some (.lst (ras.map V.ref)) → NsA (D :: S) H ras es → (∀ a, a ∈ ras → H1 a = none) → Q (.ref D) H) :
    lcK (Itl K a) g tYes te vs σ H1 Q := by
  unfold lcK
  intro D hD
  obtain ⟨a', xs, ea, na, hxs, hall⟩ := ha.lstE
  cases ea
  have hlx := hall.len
  rw [List.length_map] at hlx
  have hDa : a ≠ D := fun e => by rw [e, hD] at hxs; cases hxs
  refine lc_list (xs := xs) (fun i H => (∃ ras, H D = some (.lst (ras.map V.ref)) ∧ NsA (D :: S) H ras (es.take i) ∧ ∀ a, a ∈ ras → H1 a = none) ∧ Fr [D] H1 H) ⟨⟨[], upd_same, ⟨by simp, List.nodup_nil, fun _ m => (nomatch m), fun i a r h _ => by simp at h⟩, fun _ m => (nomatch m)⟩, Fr.same (Fl.Same.new hD)⟩ ?_ ?_ ?_
  · intro i H _ h
    exact SqL.of (h.2 a _ (by simpa using hDa) hxs)
  · intro i x H hx ⟨⟨ras, hr, hA, hn⟩, hf⟩
    have hsm : Same H1 H := sm_of hD hf
    have hlt : i < xs.length := (List.getElem?_eq_some_iff.mp hx).1
    have hall' := hall.same hsm
    obtain ⟨e, he, hxe⟩ := hall'.getM hx
    have hAl : Al (D :: S) H := .cons (by rw [hr]; simp) (hS.same hsm)
    refine step D x e H (hxe.mono fun _ m => nomatch m) hAl _ fun p hp => ?_
    have hpD : p ≠ D := fun e => by rw [e, hr] at hp; cases hp
    have hps : p ∉ ras := fun m => by
      obtain ⟨k, hk⟩ := List.mem_iff_getElem?.mp m
      have hkl := (List.getElem?_eq_some_iff.mp hk).1
      rw [hA.l] at hkl
      have := hA.d k p _ hk (List.getElem?_eq_getElem hkl)
      rw [hp] at this; cases this
    have ltk : (es.take i).length = i := by rw [List.length_take]; omega
    have lras : ras.length = i := by rw [hA.l, ltk]
    have sp : Same H (upd H p (.lst (e.map V.int))) := Fl.Same.new hp
    refine ⟨ras.map V.ref, sp _ _ hr, by rw [List.length_map]; have : (1000 : Nat) ≤ sizeLine := (by decide); omega, ⟨ras ++ [p], by rw [upd_same, List.map_append]; rfl, ⟨?_, ?_, ?_, ?_⟩, ?_⟩, (hf.trans (Fr.same sp)).trans (Fr.upd (by simp))⟩
    · rw [List.length_append, lras, List.length_take]
      show i + 1 = _
      omega
    · refine List.nodup_append.mpr ⟨hA.n, List.nodup_cons.mpr ⟨List.not_mem_nil, List.nodup_nil⟩, fun a ma b mb e => ?_⟩
      rw [show b = p by simpa using mb] at e
      exact hps (e ▸ ma)
    · intro b mb
      rcases List.mem_append.mp mb with mb | mb
      · exact hA.s b mb
      · rw [show b = p by simpa using mb]
        exact hAl.ni hp
    · intro j b r hj hrj
      rw [List.take_add_one, he] at hrj
      have bD : b ≠ D := fun e => by
        rcases List.mem_append.mp (List.mem_of_getElem? hj) with m | m
        · exact hA.s b m (e ▸ List.mem_cons_self)
        · exact hpD ((show b = p by simpa using m) ▸ e)
      rw [upd_ne bD]
      by_cases hjl : j < ras.length
      · rw [List.getElem?_append_left hjl] at hj
        rw [List.getElem?_append_left (by rw [← hA.l]; exact hjl)] at hrj
        exact sp _ _ (hA.d j b r hj hrj)
      · have hj2 := (List.getElem?_eq_some_iff.mp hj).1
        rw [List.length_append, List.length_singleton] at hj2
        have ej : j = ras.length := by omega
        subst ej
        rw [List.getElem?_append_right (Nat.le_refl _), Nat.sub_self] at hj
        rw [hA.l, List.getElem?_append_right (Nat.le_refl _), Nat.sub_self] at hrj
        cases hj
        cases hrj
        exact upd_same
    · intro b mb
      rcases List.mem_append.mp mb with mb | mb
      · exact hn b mb
      · rw [show b = p by simpa using mb]
        exact Same.free hsm hp
  · intro H ⟨⟨ras, hr, hA, hn⟩, hf⟩
    rw [List.take_of_length_le (by omega)] at hA
    exact q D H ras (sm_of hD hf) hD hr hA hn
end
end Fl

set_option Elab.async false
set_option linter.all false
set_option maxRecDepth 100000
set_option maxHeartbeats 4000000
set_option exponentiation.threshold 20000
/-! own errors with one field, a text -/
namespace Fl
open PySem PySem.Spec PyProof.Rows L2
/-- an own error class, made with a text that it keeps as f -/
structure Cls1 (K : PySem.W.Frag) (mg : Str → Option Value) (x qual : Str) (st : Stmt) (f : Str) : Prop where
  g : mg x = some (.ref (adr mg x))
  o : OexC K (adr mg x)
  n : PySem.W.findIn K (.ref (adr mg x)) f = some none
  i : ∃ (fI : Addr) (fd : FuncData), PySem.W.findIn K (.ref (adr mg x)) "__init__" = some (some (.ref fI)) ∧ PySem.W.typeIn K (.ref fI) = some (.type "function") ∧ Fun K "__init__" qual st fI fd
def spIni1 (C : Addr) (f : Str) : Sp := fun vs H Q _ => ∃ (a : Addr) (s : Str), vs = [.ref a, .str s] ∧ s.length ≤ 1000 ∧ H a = some (exo a C none) ∧ ∀ dx, H dx = none → dx ≠ a → Q .non (upd (upd H dx (exd dx [(f, .str s)])) a (exo a C (some dx)))
structure MkX1 (P : Program) (w : World) (K : PySem.W.Frag) (mg : Str → Option Value) (base : Heap) (k : Nat) (x f : Str) (ps : List Str) : Prop where
  g : mg x = some (.ref (adr mg x))
  o : OexC K (adr mg x)
  i : ∃ (fI : Addr) (fd : FuncData), PySem.W.findIn K (.ref (adr mg x)) "__init__" = some (some (.ref fI)) ∧ PySem.W.typeIn K (.ref fI) = some (.type "function") ∧ FnOk P w K mg base L2.CX0 k fI fd ps (spIni1 (adr mg x) f) ∧ L2.Binds K fd ps []
def tRaise1 (W : WX) (C : Addr) (f : Str) (ta : TA) : TS := fun _ σ H => tMkO C (spIni1 C f) [] ta σ H fun cls d H' => W cls d σ H'
theorem ps_raise1 {X : Cx} {W : WX} {k : Nat} {x f : Str} {ps : List Str} {e : Expr} {ta : TA} {p pos pos2 : Pos} (M : MkX1 X.prog X.w X.K X.mg X.base k x f ps) (hc : X.calm = true) (hr : Room (k + 1) X.A) (tk : Takes X W) (ha : PA X [e] ta) (hg : Gl X x := by rfl) (hdb : (x == ("__debug__" : Str)) = false := by decide)
    (he : starEach [e] X.env = (false, eval e X.env) :: starEach [] X.env := by rfl) (hpl : (backTo pos (starEach [] X.env)).any (·.1) = false := by rfl) :
    PS X (.Raise (some (.Call (.Name x p) [e] [] pos)) none pos2) (tRaise1 W (adr X.mg x) f ta) := by
  obtain ⟨fI, fd, iC, tI, F, b⟩ := M.i
  exact ⟨fun pins s σ H D I h => (ps_raise hc tk (pmk_oex (CX := L2.CX0) M.o iC tI F hr b .nil (fun _ _ _ _ _ _ _ z => z.elim) hg M.g ha hdb he hpl)).run pins s σ H D I h⟩
theorem g_raise1 {W : WX} {C : Addr} {f s : Str} {D : Ends} {σ : L2.St} {H : Hp} (hs : s.length ≤ 1000) (h : ∀ dx, H dx = none → W (.ref C) (some dx) σ (upd H dx (.xd [(f, .str s)]))) : tRaise1 W C f (tCons (tC (.str s)) tNil) D σ H := by
  refine ⟨by simp, fun a ha => ⟨a, s, rfl, hs, upd_same, fun dx hd hne => ⟨rfl, dx, [(f, .str s)], upd_same, by rw [upd_ne hne, upd_same], by rw [upd_ne hne] at hd; exact hd, ?_⟩⟩⟩
  rw [upd_ne hne] at hd
  have e : upd (del (upd (upd (upd H a (exo a C none)) dx (exd dx [(f, .str s)])) a (exo a C (some dx))) a) dx (.xd [(f, .str s)]) = upd H dx (.xd [(f, .str s)]) := by
    funext b
    by_cases h1 : b = dx
    · rw [h1, upd_same, upd_same]
    · rw [upd_ne h1, upd_ne h1]
      by_cases h2 : b = a
      · rw [h2, del_same, ha]
      · rw [del_ne h2, upd_ne h2, upd_ne h1, upd_ne h2]
  rw [e]
  exact h dx hd
section
variable {P : Program} {w : World} {K : PySem.W.Frag} {mg : Str → Option Value} {base : Heap}
theorem mkX1_of {x qual f : Str} {st : Stmt} {k : Nat} {N ps : List Str} (C : Cls1 K mg x qual st f) (hps : ps.length = 2) (S : FnScope N ps (defScope st))
    (hb : ∀ (kV doc pm : Value) (an : Option Addr) (cdv ct : Value) (us : List Value), us.length = ps.length → bindArgs (PySem.W.fnOf "__init__" qual (defArgs st) (defBody st) (defScope st) .none kV doc pm an cdv ct) ⟨us, []⟩ = pure (ps.zip us))
    (hbody : ∀ (fa : Addr) (cdv : Value) (A : Around) (outer : List Env) (s : Shared) (H : Hp) (a : Addr) (y : Str) (Q : VK) (E : XK), Room k (A.deeper (envOfC qual (defScope st) s.heap.objs.size fa cdv)) → y.length ≤ 1000 → H a = some (exo a (adr mg x) none) →
      (∀ dx, H dx = none → dx ≠ a → Q .non (upd (upd H dx (exd dx [(f, .str y)])) a (exo a (adr mg x) (some dx)))) →
      ∃ t, PSs (cxOf L2.CX0 P w K mg base N qual (defScope st) fa cdv A outer s H E).nox (defBody st) t ∧ t { nx := fun _ H' => Q .non H', rt := Q } (start N [.ref a, .str y]) H) : MkX1 P w K mg base (k + 1) x f ps := by
  obtain ⟨fI, fd, iC, tI, F⟩ := C.i
  refine ⟨C.g, C.o, fI, fd, iC, tI, F.ok S (fun vs H Q E ⟨a, y, e, _⟩ => by rw [e, hps]; rfl) fun cdv A outer s H vs Q E hr ⟨a, y, e, hy, h, q⟩ => ?_, F.binds hb⟩
  subst e
  exact hbody fI cdv A outer s H a y Q E hr hy h q
end
end Fl

set_option Elab.async false
set_option linter.all false
set_option maxRecDepth 100000
set_option maxHeartbeats 4000000
set_option exponentiation.threshold 20000
/-! own errors with two fields, numbers -/
namespace Fl
open PySem PySem.Spec PyProof.Rows L2
/-- an own error class, made with two numbers that it keeps as f and g -/
structure Cls2 (K : PySem.W.Frag) (mg : Str → Option Value) (x qual : Str) (st : Stmt) (f f2 : Str) : Prop where
  g : mg x = some (.ref (adr mg x))
  o : OexC K (adr mg x)
  n : PySem.W.findIn K (.ref (adr mg x)) f = some none
  m : PySem.W.findIn K (.ref (adr mg x)) f2 = some none
  r : XfC K (adr mg x)
  i : ∃ (fI : Addr) (fd : FuncData), PySem.W.findIn K (.ref (adr mg x)) "__init__" = some (some (.ref fI)) ∧ PySem.W.typeIn K (.ref fI) = some (.type "function") ∧ Fun K "__init__" qual st fI fd
def spIni2 (C : Addr) (f f2 : Str) : Sp := fun vs H Q _ => ∃ (a : Addr) (i j : Int), vs = [.ref a, .int i, .int j] ∧ i.natAbs < 10000 ∧ j.natAbs < 10000 ∧ H a = some (exo a C none) ∧ ∀ dx, H dx = none → dx ≠ a → Q .non (upd (upd (upd H dx (exd dx [(f, .int i)])) a (exo a C (some dx))) dx (exd dx [(f2, .int j), (f, .int i)]))
structure MkX2 (P : Program) (w : World) (K : PySem.W.Frag) (mg : Str → Option Value) (base : Heap) (k : Nat) (x f f2 : Str) (ps : List Str) : Prop where
  g : mg x = some (.ref (adr mg x))
  o : OexC K (adr mg x)
  i : ∃ (fI : Addr) (fd : FuncData), PySem.W.findIn K (.ref (adr mg x)) "__init__" = some (some (.ref fI)) ∧ PySem.W.typeIn K (.ref fI) = some (.type "function") ∧ FnOk P w K mg base L2.CX0 k fI fd ps (spIni2 (adr mg x) f f2) ∧ L2.Binds K fd ps []
def tRaise2 (W : WX) (C : Addr) (f f2 : Str) (ta : TA) : TS := fun _ σ H => tMkO C (spIni2 C f f2) [] ta σ H fun cls d H' => W cls d σ H'
theorem ps_raise2 {X : Cx} {W : WX} {k : Nat} {x f f2 : Str} {ps : List Str} {e e2 : Expr} {ta : TA} {p pos pos2 : Pos} (M : MkX2 X.prog X.w X.K X.mg X.base k x f f2 ps) (hc : X.calm = true) (hr : Room (k + 1) X.A) (tk : Takes X W) (ha : PA X [e, e2] ta) (hg : Gl X x := by rfl) (hdb : (x == ("__debug__" : Str)) = false := by decide)
    (he : starEach [e, e2] X.env = (false, eval e X.env) :: starEach [e2] X.env := by rfl) (hpl : (backTo pos (starEach [e2] X.env)).any (·.1) = false := by rfl) :
    PS X (.Raise (some (.Call (.Name x p) [e, e2] [] pos)) none pos2) (tRaise2 W (adr X.mg x) f f2 ta) := by
  obtain ⟨fI, fd, iC, tI, F, b⟩ := M.i
  exact ⟨fun pins s σ H D I h => (ps_raise hc tk (pmk_oex (CX := L2.CX0) M.o iC tI F hr b .nil (fun _ _ _ _ _ _ _ z => z.elim) hg M.g ha hdb he hpl)).run pins s σ H D I h⟩
theorem g_raise2 {W : WX} {C : Addr} {f f2 : Str} {i j : Int} {D : Ends} {σ : L2.St} {H : Hp} (hi : i.natAbs < 10000) (hj : j.natAbs < 10000) (h : ∀ dx, H dx = none → W (.ref C) (some dx) σ (upd H dx (.xd [(f2, .int j), (f, .int i)]))) : tRaise2 W C f f2 (tCons (tC (.int i)) (tCons (tC (.int j)) tNil)) D σ H := by
  refine ⟨by simp, fun a ha => ⟨a, i, j, rfl, hi, hj, upd_same, fun dx hd hne => ⟨rfl, dx, [(f2, .int j), (f, .int i)], by rw [upd_ne (Ne.symm hne), upd_same], upd_same, by rw [upd_ne hne] at hd; exact hd, ?_⟩⟩⟩
  rw [upd_ne hne] at hd
  have e : upd (del (upd (upd (upd (upd H a (exo a C none)) dx (exd dx [(f, .int i)])) a (exo a C (some dx))) dx (exd dx [(f2, .int j), (f, .int i)])) a) dx (.xd [(f2, .int j), (f, .int i)]) = upd H dx (.xd [(f2, .int j), (f, .int i)]) := by
    funext b
    by_cases h1 : b = dx
    · rw [h1, upd_same, upd_same]
    · rw [upd_ne h1, upd_ne h1]
      by_cases h2 : b = a
      · rw [h2, del_same, ha]
      · rw [del_ne h2, upd_ne h1, upd_ne h2, upd_ne h1, upd_ne h2]
  rw [e]
  exact h dx hd
section
variable {P : Program} {w : World} {K : PySem.W.Frag} {mg : Str → Option Value} {base : Heap}
theorem mkX2_of {x qual f f2 : Str} {st : Stmt} {k : Nat} {N ps : List Str} (C : Cls2 K mg x qual st f f2) (hps : ps.length = 3) (S : FnScope N ps (defScope st))
    (hb : ∀ (kV doc pm : Value) (an : Option Addr) (cdv ct : Value) (us : List Value), us.length = ps.length → bindArgs (PySem.W.fnOf "__init__" qual (defArgs st) (defBody st) (defScope st) .none kV doc pm an cdv ct) ⟨us, []⟩ = pure (ps.zip us))
    (hbody : ∀ (fa : Addr) (cdv : Value) (A : Around) (outer : List Env) (s : Shared) (H : Hp) (a : Addr) (i j : Int) (Q : VK) (E : XK), Room k (A.deeper (envOfC qual (defScope st) s.heap.objs.size fa cdv)) → i.natAbs < 10000 → j.natAbs < 10000 → H a = some (exo a (adr mg x) none) →
      (∀ dx, H dx = none → dx ≠ a → Q .non (upd (upd (upd H dx (exd dx [(f, .int i)])) a (exo a (adr mg x) (some dx))) dx (exd dx [(f2, .int j), (f, .int i)]))) →
      ∃ t, PSs (cxOf L2.CX0 P w K mg base N qual (defScope st) fa cdv A outer s H E).nox (defBody st) t ∧ t { nx := fun _ H' => Q .non H', rt := Q } (start N [.ref a, .int i, .int j]) H) : MkX2 P w K mg base (k + 1) x f f2 ps := by
  obtain ⟨fI, fd, iC, tI, F⟩ := C.i
  refine ⟨C.g, C.o, fI, fd, iC, tI, F.ok S (fun vs H Q E ⟨a, i, j, e, _⟩ => by rw [e, hps]; rfl) fun cdv A outer s H vs Q E hr ⟨a, i, j, e, hi, hj, h, q⟩ => ?_, F.binds hb⟩
  subst e
  exact hbody fI cdv A outer s H a i j Q E hr hi hj h q
end
/-- the reading of a field of the caught error -/
theorem g_xf {a C dd : Addr} {fs : List (Str × V)} {v : V} {f : Str} {i : Nat} {σ : L2.St} {H : Hp} {Q : VK} (h : σ[i]? = some (some (.ref a))) (hd : H dd = some (.xd fs)) (hl : fs.lookup f = some v) (q : Q v H) : tXf a (.ref C) (some dd) C f (tVar i) σ H Q := ⟨_, h, rfl, rfl, dd, fs, v, rfl, hd, hl, q⟩
end Fl

set_option Elab.async false
set_option linter.all false
set_option maxRecDepth 100000
set_option maxHeartbeats 4000000
set_option exponentiation.threshold 20000
/-! own errors with one field, a number -/
namespace Fl
open PySem PySem.Spec PyProof.Rows L2
structure ClsN1 (K : PySem.W.Frag) (mg : Str → Option Value) (x qual : Str) (st : Stmt) (f : Str) : Prop where
  g : mg x = some (.ref (adr mg x))
  o : OexC K (adr mg x)
  n : PySem.W.findIn K (.ref (adr mg x)) f = some none
  r : XfC K (adr mg x)
  i : ∃ (fI : Addr) (fd : FuncData), PySem.W.findIn K (.ref (adr mg x)) "__init__" = some (some (.ref fI)) ∧ PySem.W.typeIn K (.ref fI) = some (.type "function") ∧ Fun K "__init__" qual st fI fd
def spIniN1 (C : Addr) (f : Str) : Sp := fun vs H Q _ => ∃ (a : Addr) (i : Int), vs = [.ref a, .int i] ∧ i.natAbs < 10000 ∧ H a = some (exo a C none) ∧ ∀ dx, H dx = none → dx ≠ a → Q .non (upd (upd H dx (exd dx [(f, .int i)])) a (exo a C (some dx)))
structure MkN1 (P : Program) (w : World) (K : PySem.W.Frag) (mg : Str → Option Value) (base : Heap) (k : Nat) (x f : Str) (ps : List Str) : Prop where
  g : mg x = some (.ref (adr mg x))
  o : OexC K (adr mg x)
  i : ∃ (fI : Addr) (fd : FuncData), PySem.W.findIn K (.ref (adr mg x)) "__init__" = some (some (.ref fI)) ∧ PySem.W.typeIn K (.ref fI) = some (.type "function") ∧ FnOk P w K mg base L2.CX0 k fI fd ps (spIniN1 (adr mg x) f) ∧ L2.Binds K fd ps []
def tRaiseN1 (W : WX) (C : Addr) (f : Str) (ta : TA) : TS := fun _ σ H => tMkO C (spIniN1 C f) [] ta σ H fun cls d H' => W cls d σ H'
theorem ps_raiseN1 {X : Cx} {W : WX} {k : Nat} {x f : Str} {ps : List Str} {e : Expr} {ta : TA} {p pos pos2 : Pos} (M : MkN1 X.prog X.w X.K X.mg X.base k x f ps) (hc : X.calm = true) (hr : Room (k + 1) X.A) (tk : Takes X W) (ha : PA X [e] ta) (hg : Gl X x := by rfl) (hdb : (x == ("__debug__" : Str)) = false := by decide)
    (he : starEach [e] X.env = (false, eval e X.env) :: starEach [] X.env := by rfl) (hpl : (backTo pos (starEach [] X.env)).any (·.1) = false := by rfl) :
    PS X (.Raise (some (.Call (.Name x p) [e] [] pos)) none pos2) (tRaiseN1 W (adr X.mg x) f ta) := by
  obtain ⟨fI, fd, iC, tI, F, b⟩ := M.i
  exact ⟨fun pins s σ H D I h => (ps_raise hc tk (pmk_oex (CX := L2.CX0) M.o iC tI F hr b .nil (fun _ _ _ _ _ _ _ z => z.elim) hg M.g ha hdb he hpl)).run pins s σ H D I h⟩
theorem g_raiseN1 {W : WX} {C : Addr} {f : Str} {i : Int} {ta : TA} {D : Ends} {σ : L2.St} {H : Hp} (hta : ∀ R : List V → Hp → Prop, R [.int i] H → ta σ H R) (hi : i.natAbs < 10000) (h : ∀ dx, H dx = none → W (.ref C) (some dx) σ (upd H dx (.xd [(f, .int i)]))) : tRaiseN1 W C f ta D σ H := by
  refine hta _ ⟨by simp, fun a ha => ⟨a, i, rfl, hi, upd_same, fun dx hd hne => ⟨rfl, dx, [(f, .int i)], upd_same, by rw [upd_ne hne, upd_same], by rw [upd_ne hne] at hd; exact hd, ?_⟩⟩⟩
  rw [upd_ne hne] at hd
  have e : upd (del (upd (upd (upd H a (exo a C none)) dx (exd dx [(f, .int i)])) a (exo a C (some dx))) a) dx (.xd [(f, .int i)]) = upd H dx (.xd [(f, .int i)]) := by
    funext b
    by_cases h1 : b = dx
    · rw [h1, upd_same, upd_same]
    · rw [upd_ne h1, upd_ne h1]
      by_cases h2 : b = a
      · rw [h2, del_same, ha]
      · rw [del_ne h2, upd_ne h2, upd_ne h1, upd_ne h2]
  rw [e]
  exact h dx hd
section
variable {P : Program} {w : World} {K : PySem.W.Frag} {mg : Str → Option Value} {base : Heap}
theorem mkN1_of {x qual f : Str} {st : Stmt} {k : Nat} {N ps : List Str} (C : ClsN1 K mg x qual st f) (hps : ps.length = 2) (S : FnScope N ps (defScope st))
    (hb : ∀ (kV doc pm : Value) (an : Option Addr) (cdv ct : Value) (us : List Value), us.length = ps.length → bindArgs (PySem.W.fnOf "__init__" qual (defArgs st) (defBody st) (defScope st) .none kV doc pm an cdv ct) ⟨us, []⟩ = pure (ps.zip us))
    (hbody : ∀ (fa : Addr) (cdv : Value) (A : Around) (outer : List Env) (s : Shared) (H : Hp) (a : Addr) (i : Int) (Q : VK) (E : XK), Room k (A.deeper (envOfC qual (defScope st) s.heap.objs.size fa cdv)) → i.natAbs < 10000 → H a = some (exo a (adr mg x) none) →
      (∀ dx, H dx = none → dx ≠ a → Q .non (upd (upd H dx (exd dx [(f, .int i)])) a (exo a (adr mg x) (some dx)))) →
      ∃ t, PSs (cxOf L2.CX0 P w K mg base N qual (defScope st) fa cdv A outer s H E).nox (defBody st) t ∧ t { nx := fun _ H' => Q .non H', rt := Q } (start N [.ref a, .int i]) H) : MkN1 P w K mg base (k + 1) x f ps := by
  obtain ⟨fI, fd, iC, tI, F⟩ := C.i
  refine ⟨C.g, C.o, fI, fd, iC, tI, F.ok S (fun vs H Q E ⟨a, i, e, _⟩ => by rw [e, hps]; rfl) fun cdv A outer s H vs Q E hr ⟨a, i, e, hi, h, q⟩ => ?_, F.binds hb⟩
  subst e
  exact hbody fI cdv A outer s H a i Q E hr hi h q
end
end Fl

set_option Elab.async false
set_option linter.all false
set_option maxRecDepth 100000
set_option maxHeartbeats 4000000
/-! the end of a law by one kernel run: what the proofs ask of the top, as truths of the objects at some addresses -/
namespace Fl
open PySem PySem.Spec PyProof.Rows L2 He
theorem map3 {α β γ δ : Type} {x : Option α} {f : α → β} {g : α → γ} {h : α → δ} {a : β} {b : γ} {c : δ} (h1 : x.map (fun y => (f y, g y)) = some (a, b)) (h2 : x.map h = some c) : x.map (fun y => (f y, g y, h y)) = some (a, b, c) := by
  cases x with
  | none => cases h1
  | some y =>
    have e1 : (f y, g y) = (a, b) := Option.some.inj h1
    have e2 : h y = c := Option.some.inj h2
    cases e1
    cases e2
    rfl
abbrev Chk : Type := PySem.W.Frag → Bool
def obsC (cs : List Chk) (fn : List DefD) (ts : List Tab) (K : PySem.W.Frag) : AlT := (((cs.all fun c => c K) && fn.all fun d => d.ok K, fn.map fun d => fnW K d.at_), ts.map fun t => dicW K (t.1 K))
def hookC (as : List Addr) (cs : List Chk) (fn : List DefD) (ts : List Tab) : PySem.W.Hook where
  α := AlT
  obs := fun s => obsC cs fn ts (frG s.heap.get? as)
  val := fun w => valT fn ts w
  says := fun w h => ∃ K : PySem.W.Frag, K.In h ∧ obsC cs fn ts K = valT fn ts w
  of := fun _ _ e => ⟨_, frG_in, e⟩
  keeps := fun _ _ _ ⟨K, hK, c⟩ k => ⟨K, PySem.W.Frag.In.keeps hK k, c⟩
def obC (as : List Addr) (cs : List Chk) (fn : List DefD) (ts : List Tab) (s : PySem.W.SharedT) : AlT := obsC cs fn ts (frG (HandSHeadRun.getT s) as)
theorem obC_eq {as : List Addr} {cs : List Chk} {fn : List DefD} {ts : List Tab} (s : PySem.W.SharedT) : obC as cs fn ts s = (hookC as cs fn ts).obs s.abs := by
  show obsC cs fn ts (frG (HandSHeadRun.getT s) as) = obsC cs fn ts (frG s.abs.heap.get? as)
  rw [show HandSHeadRun.getT s = s.abs.heap.get? from funext (HandSHeadRun.getT_eq s)]
section
variable {cs : List Chk} {fn : List DefD} {ts : List Tab} {w : World} {K : PySem.W.Frag}
/-- what is asked, in two looks -/
theorem ob2 {α : Type} {x : Option α} {g : α → PySem.W.SharedT} {as : List Addr} {cs : List Chk} {fn : List DefD} {ts : List Tab} {v : AlT} (h1 : x.map (fun y => cs.all fun c => c (frG (HandSHeadRun.getT (g y)) as)) = some true) (h2 : x.map (fun y => obC as [] fn ts (g y)) = some v) : x.map (fun y => obC as cs fn ts (g y)) = some v := by
  cases x with
  | none => cases h1
  | some y =>
    have e : (cs.all fun c => c (frG (HandSHeadRun.getT (g y)) as)) = true := Option.some.inj h1
    rw [← h2]
    show some (obC as cs fn ts (g y)) = some (obC as [] fn ts (g y))
    unfold obC obsC
    rw [e]
    rfl
theorem saysC_chk (c : obsC cs fn ts K = valT fn ts w) (i : Nat) {f : Chk} (h : cs[i]? = some f) : f K = true := by
  have c1 : ((cs.all fun c => c K) && fn.all fun d => d.ok K) = true := congrArg (fun z : AlT => z.1.1) c
  exact List.all_eq_true.mp (ba c1).1 f (List.mem_of_getElem? h)
theorem saysC_def (c : obsC cs fn ts K = valT fn ts w) (i : Nat) {d : DefD} (h : fn[i]? = some d) : ∃ fd, FunD K d.name d.qual d.params d.body d.scope (d.dvs K) (d.kws K) (fAd K d.at_) fd := by
  have c1 : ((cs.all fun c => c K) && fn.all fun d => d.ok K) = true := congrArg (fun z : AlT => z.1.1) c
  have e : fn.map (fun d => fnW K d.at_) = fn.map DefD.val := congrArg (fun z : AlT => z.1.2) c
  have e2 : (fn.map fun d => fnW K d.at_)[i]? = (fn.map DefD.val)[i]? := by rw [e]
  rw [List.getElem?_map, List.getElem?_map, h] at e2
  exact DefD.funD (Option.some.inj e2) (List.all_eq_true.mp (ba c1).2 d (List.mem_of_getElem? h))
theorem saysC_tab (c : obsC cs fn ts K = valT fn ts w) (i : Nat) {t : Tab} (h : ts[i]? = some t) : ∃ es n, KDict K w (t.1 K) es n := by
  have e : ts.map (fun t => dicW K (t.1 K)) = ts.map fun t => some (keysIn w.params t.2) := congrArg (fun z : AlT => z.2) c
  have e2 : (ts.map fun t => dicW K (t.1 K))[i]? = (ts.map fun t => some (keysIn w.params t.2))[i]? := by rw [e]
  rw [List.getElem?_map, List.getElem?_map, h] at e2
  exact dicW_ok (Option.some.inj e2)
end
section
variable {K : PySem.W.Frag} {h : Heap} {mg : Str → Option Value} {x y m : Str}
/-! names -/
def cGlo (x : Str) : Chk := fun K => (Fa.glo x).ok K
def cFree (x : Str) : Chk := fun K => (Fa.free x).ok K
def cInt (x : Str) (i : Int) : Chk := fun K => (Fa.int x i).ok K
def cBlt (x : Str) (b : String) : Chk := fun K => eqO (PySem.W.nsIn K mainGlobals x) (some (some (.builtin b)))
theorem glo_a (X : K.In h) (G : h.Ns mainGlobals mg) (c : cGlo x K = true) : adr mg x = ga K x := adr_of (glo_ok X G c)
theorem glo_g (X : K.In h) (G : h.Ns mainGlobals mg) (c : cGlo x K = true) : mg x = some (.ref (adr mg x)) := by rw [glo_a X G c]; exact glo_ok X G c
theorem free_g (X : K.In h) (G : h.Ns mainGlobals mg) (c : cFree x K = true) : mg x = none := free_ok X G c
theorem int_g (X : K.In h) (G : h.Ns mainGlobals mg) {i : Int} (c : cInt x i K = true) : ∃ u, mg x = some u ∧ RelV (.int i) u := by
  obtain ⟨t, e⟩ := int_ok X G c
  exact ⟨_, e, t, rfl⟩
theorem blt_g (X : K.In h) (G : h.Ns mainGlobals mg) {b : String} (c : cBlt x b K = true) : mg x = some (.builtin b) := PySem.W.mg_of X G (eqO_ok c)
/-! defs -/
theorem fun_of {x q : Str} {st : Stmt} {f : Addr} {fd : FuncData} (F : FunD K x q (defArgs st) (defBody st) (defScope st) [] [] f fd) : Fun K x q st f fd := by
  obtain ⟨⟨oc, od, dV, kV, doc, pm, an, cdv, ct, osl, e, lk, hc, hd, _⟩, kp⟩ := F
  rcases hd with ⟨_, e2⟩ | ⟨n, _⟩
  · subst e2
    exact ⟨⟨oc, od, kV, doc, pm, an, cdv, ct, osl, e, lk, hc⟩, kp⟩
  · exact absurd rfl n
theorem defIn_of {st : Stmt} (g : mg x = some (.ref (ga K x))) (F : ∃ fd, FunD K x x (defArgs st) (defBody st) (defScope st) [] [] (ga K x) fd) : DefIn K mg x st := by
  obtain ⟨fd, F⟩ := F
  exact ⟨⟨_, fd, fun_of F, g⟩⟩
theorem defInD_of {st : Stmt} {dvs : List V} (g : mg x = some (.ref (ga K x))) (F : ∃ fd, FunD K x x (defArgs st) (defBody st) (defScope st) dvs [] (ga K x) fd) : DefInD K mg x st dvs := by
  obtain ⟨fd, F⟩ := F
  exact ⟨⟨_, fd, F, g⟩⟩
/-- an empty tuple -/
def emB (K : PySem.W.Frag) (a : Addr) : Bool := match K.lookup a with
  | some ⟨.type c, _, .seq its _, _⟩ => decide (c = "tuple") && decide (its.toList = [])
  | _ => false
theorem em_ok {a : Addr} (c : emB K a = true) : EmT K a := by
  unfold emB at c
  split at c
  · rename_i cc d its n sl lk
    obtain ⟨c1, c2⟩ := ba c
    have e1 := of_decide_eq_true c1
    have e2 := of_decide_eq_true c2
    subst e1
    refine ⟨_, its, n, lk, rfl, rfl, ?_, by rw [e2]; exact .nil⟩
    have : its.size = 0 := by rw [← Array.length_toList, e2]; rfl
    omega
  · cases c
/-- a keyword default of a class that is an object -/
def kwAt (x m : Str) (K : PySem.W.Frag) : Addr := match K.lookup (ma K (ga K x) "__init__") with
  | some ⟨_, _, .func fd, _⟩ => (match fd.kwdefaults with
    | .ref D => (match PySem.W.nsIn K D m with
      | some (some (.ref a)) => a
      | _ => 0)
    | _ => 0)
  | _ => 0
/-! own errors -/
def baseB (x : Str) : Chk := fun K => eqO (PySem.W.specialIn K (.ref (ga K x)) "__getattribute__") (some (some (.builtin "type.__getattribute__"))) && (decide (PySem.W.typeIn K (.ref (ga K x)) = some (.type "type")) && (PySem.W.readsIn K (ga K x) (.type "type") && (match PySem.W.findCls K (.ref (ga K x)) (.type "type") "__init__" with
  | some (.val (.builtin b)) => decide (b = "ValueError.__init__")
  | _ => false)))
theorem base_ok (X : K.In h) (G : h.Ns mainGlobals mg) (g : cGlo x K = true) (c : baseB x K = true) : BaseC K (adr mg x) := by
  rw [glo_a X G g]
  obtain ⟨c1, c2⟩ := ba c
  obtain ⟨c2, c3⟩ := ba c2
  obtain ⟨c3, c4⟩ := ba c3
  refine ⟨eqO_ok c1, of_decide_eq_true c2, c3, ?_⟩
  split at c4
  · rename_i b e
    rw [e, of_decide_eq_true c4]
  · cases c4
def oexB (x : Str) : Chk := fun K => (match K.lookup (ga K x) with
  | some ⟨.type t, _, .cls cd, sl⟩ => (match cd.mro, sl.toList with
    | .ref C' :: bm, [_, _, _, _, some (.builtin n), _] => decide (t = "type") && (C' == ga K x && (decide (n = "ValueError.__new__") && (!cd.hasDel && (cd.hasDict && PySem.HandSPX.refsVE bm))))
    | _, _ => false)
  | _ => false) && (eqO (PySem.W.findIn K (.ref (ga K x)) "__setattr__") (some (some (.builtin "object.__setattr__"))) && (decide (PySem.W.subIn K (.ref (ga K x)) (.type "BaseException") = some true) && (decide (PySem.W.typeIn K (.ref (ga K x)) = some (.type "type")) && PySem.W.keepIn K (.ref (ga K x)))))
theorem oex_ok (c : oexB x K = true) : OexC K (ga K x) := by
  obtain ⟨c1, c2⟩ := ba c
  obtain ⟨c2, c3⟩ := ba c2
  obtain ⟨c3, c4⟩ := ba c3
  obtain ⟨c4, c5⟩ := ba c4
  refine ⟨?_, eqO_ok c2, of_decide_eq_true c3, of_decide_eq_true c4, c5⟩
  split at c1
  · rename_i t dd cd sl lk
    split at c1
    · rename_i C' bm k0 k1 k2 k3 n k5 hm hs
      obtain ⟨q1, c1⟩ := ba c1
      obtain ⟨q2, c1⟩ := ba c1
      obtain ⟨q3, c1⟩ := ba c1
      obtain ⟨q4, c1⟩ := ba c1
      obtain ⟨q5, q6⟩ := ba c1
      have e1 := of_decide_eq_true q1
      have e2 := beq_iff_eq.mp q2
      have e3 := of_decide_eq_true q3
      obtain ⟨nm, bs, mro, ns, qn, hd, sn, sub, ab, col, del⟩ := cd
      dsimp only at hm q4 q5
      have e4 : del = false := by simpa using q4
      subst e1 e2 e3 e4 hm q5
      have esl : sl = #[k0, k1, k2, k3, some (.builtin "ValueError.__new__"), k5] := by
        obtain ⟨l⟩ := sl
        simp only at hs
        rw [hs]
      subst esl
      exact ⟨nm, qn, ns, bs, bm, sn, sub, ab, col, dd, k0, k1, k2, k3, k5, lk, q6⟩
    · cases c1
  · cases c1
def excB (x : Str) : Chk := fun K => eqO (PySem.W.findIn K (.ref (ga K x)) "__getattribute__") (some (some (.builtin "BaseException.__getattribute__"))) && (eqO (PySem.W.findIn K (.ref (ga K x)) "__getattr__") (some none) && (decide (PySem.W.subIn K (.ref (ga K x)) (.type "BaseException") = some true) && (PySem.W.hasDictIn K (ga K x) && (eqO (PySem.W.findIn K (.ref (ga K x)) "__class__") (some (some (.builtin "object.__class__"))) &&
  (eqO (PySem.W.specialIn K (.builtin "object.__class__") "__get__") (some (some (.builtin "getset_descriptor.__get__"))) && (decide (PySem.W.takesIn K (.builtin "object.__class__") = some true) && decide (PySem.W.mroIn K (ga K x) (.type "object") = some true)))))))
theorem exc_k (c : excB x K = true) : ExcC K (ga K x) := by
  obtain ⟨c1, c⟩ := ba c
  obtain ⟨c2, c⟩ := ba c
  obtain ⟨c3, c⟩ := ba c
  obtain ⟨c4, c⟩ := ba c
  obtain ⟨c5, c⟩ := ba c
  obtain ⟨c6, c⟩ := ba c
  obtain ⟨c7, c8⟩ := ba c
  exact ⟨eqO_ok c1, eqO_ok c2, of_decide_eq_true c3, c4, eqO_ok c5, eqO_ok c6, of_decide_eq_true c7, of_decide_eq_true c8⟩
theorem exc_c (X : K.In h) (G : h.Ns mainGlobals mg) (g : cGlo x K = true) (c : excB x K = true) : ExcC K (adr mg x) := by rw [glo_a X G g]; exact exc_k c
def iniB (x : Str) : Chk := fun K => eqO (PySem.W.findIn K (.ref (ga K x)) "__init__") (some (some (.ref (ma K (ga K x) "__init__")))) && decide (PySem.W.typeIn K (.ref (ma K (ga K x) "__init__")) = some (.type "function"))
theorem clsN_ok {q : Str} {st : Stmt} (X : K.In h) (G : h.Ns mainGlobals mg) (g : cGlo x K = true) (o : oexB x K = true) (e : excB x K = true) (i : iniB x K = true) (F : ∃ fd, FunD K "__init__" q (defArgs st) (defBody st) (defScope st) [] [] (ma K (ga K x) "__init__") fd) : ClsN K mg x q st := by
  obtain ⟨fd, F⟩ := F
  obtain ⟨i1, i2⟩ := ba i
  have a := glo_a X G g
  exact ⟨glo_g X G g, by rw [a]; exact oex_ok o, by rw [a]; exact exc_k e, by rw [a]; exact ⟨_, fd, eqO_ok i1, of_decide_eq_true i2, fun_of F⟩⟩
def fldB (x f : Str) : Chk := fun K => eqO (PySem.W.findIn K (.ref (ga K x)) f) (some none) && (eqO (PySem.W.findIn K (.ref (ga K x)) "__getattribute__") (some (some (.builtin "BaseException.__getattribute__"))) && (eqO (PySem.W.findIn K (.ref (ga K x)) "__getattr__") (some none) && (decide (PySem.W.subIn K (.ref (ga K x)) (.type "BaseException") = some true) && PySem.W.hasDictIn K (ga K x))))
theorem clsN1_ok {q f : Str} {st : Stmt} (X : K.In h) (G : h.Ns mainGlobals mg) (g : cGlo x K = true) (o : oexB x K = true) (e : fldB x f K = true) (i : iniB x K = true) (F : ∃ fd, FunD K "__init__" q (defArgs st) (defBody st) (defScope st) [] [] (ma K (ga K x) "__init__") fd) : ClsN1 K mg x q st f := by
  obtain ⟨fd, F⟩ := F
  obtain ⟨i1, i2⟩ := ba i
  have a := glo_a X G g
  obtain ⟨e1, e2⟩ := ba e
  obtain ⟨e2, e3⟩ := ba e2
  obtain ⟨e3, e4⟩ := ba e3
  obtain ⟨e4, e5⟩ := ba e4
  exact ⟨glo_g X G g, by rw [a]; exact oex_ok o, by rw [a]; exact eqO_ok e1, by rw [a]; exact ⟨eqO_ok e2, eqO_ok e3, of_decide_eq_true e4, e5⟩, by rw [a]; exact ⟨_, fd, eqO_ok i1, of_decide_eq_true i2, fun_of F⟩⟩
def exmB (x y : Str) (b : Bool) : Chk := fun K => decide (PySem.W.exmOne K (.ref (ga K x)) (.ref (ga K y)) = some b)
theorem exm_a (X : K.In h) (G : h.Ns mainGlobals mg) (g : cGlo x K = true) (g2 : cGlo y K = true) {b : Bool} (c : exmB x y b K = true) : PySem.W.exmOne K (.ref (adr mg x)) (.ref (adr mg y)) = some b := by
  rw [glo_a X G g, glo_a X G g2]
  exact of_decide_eq_true c
def kitB (x y : Str) (b : Bool) : Chk := fun K => decide (PySem.W.kitOne K (.ref (ga K x)) (.ref (ga K y)) = some b)
theorem kit_a (X : K.In h) (G : h.Ns mainGlobals mg) (g : cGlo x K = true) (g2 : cGlo y K = true) {b : Bool} (c : kitB x y b K = true) : PySem.W.kitOne K (.ref (adr mg x)) (.ref (adr mg y)) = some b := by
  rw [glo_a X G g, glo_a X G g2]
  exact of_decide_eq_true c
/-! own classes -/
def clsB (x : Str) (fs : List Str) : Chk := fun K => (Fa.cls x).ok K && ((Fa.mkr x).ok K && fs.all fun f => eqO (PySem.W.findIn K (.ref (ga K x)) f) (some none))
theorem clsI_ok {q : Str} {st : Stmt} {fs : List Str} {kws : List (Str × V)} (X : K.In h) (G : h.Ns mainGlobals mg) (g : cGlo x K = true) (c : clsB x fs K = true) (F : ∃ fd, FunD K "__init__" q (defArgs st) (defBody st) (defScope st) [] kws (ma K (ga K x) "__init__") fd) : ClsI K mg x q st fs kws := by
  obtain ⟨fd, F⟩ := F
  obtain ⟨c1, c2⟩ := ba c
  obtain ⟨c2, c3⟩ := ba c2
  have a := glo_a X G g
  exact ⟨glo_g X G g, by rw [a]; exact cls_ok c1, fun f m => by rw [a]; exact eqO_ok (List.all_eq_true.mp c3 f m), by rw [a]; exact ⟨_, fd, mkr_ok c2, F⟩⟩
/-! tuples and dicts of the top -/
theorem tup_a (X : K.In h) (G : h.Ns mainGlobals mg) (g : cGlo x K = true) {vs : List Dv} (c : tupB K x vs = true) (H : Hp) : SqT K H (adr mg x) (vs.map (Dv.v K)) := by
  rw [glo_a X G g]
  exact tupB_ok c H
/-- the value at a key: a tuple of these -/
def entB (d x : Str) (vs : List V) : Chk := fun K => match PySem.W.nsIn K (ga K d) x with
  | some (some (.ref t)) => (match K.lookup t with
    | some ⟨.type c, _, .seq its _, _⟩ => decide (c = "tuple") && (decide (its.size ≤ sizeLine) && relAll vs its.toList)
    | _ => false)
  | _ => false
def entN (d x : Str) : Chk := fun K => eqO (PySem.W.nsIn K (ga K d) x) (some none)
theorem ent_ok {d x : Str} {vs : List V} (c : entB d x vs K = true) : ∃ t, PySem.W.nsIn K (ga K d) x = some (some (.ref t)) ∧ ∀ H : Hp, SqT K H t vs := by
  unfold entB at c
  split at c
  · rename_i t e
    refine ⟨t, e, fun H => ?_⟩
    split at c
    · rename_i cc dd its n sl lk
      obtain ⟨c1, c2⟩ := ba c
      obtain ⟨c2, c3⟩ := ba c2
      exact .inr ⟨_, its, n, lk, congrArg Value.type (of_decide_eq_true c1), rfl, of_decide_eq_true c2, relAll_ok c3⟩
    · cases c
  · cases c
end
end Fl

set_option Elab.async false
set_option linter.all false
set_option maxRecDepth 100000
set_option maxHeartbeats 4000000
set_option exponentiation.threshold 20000
namespace K25
open PySem PySem.Spec PyProof.Rows L2 Fl
-- facts of a place in the heap
local macro_rules | `(tactic| walk_at "fl.ne") => `(tactic| ((with_reducible apply DeckAt.ne'); (focus assumption); walk_at "fl.deck"))
local macro_rules | `(tactic| walk_at "fl.ne") => `(tactic| exact Ne.symm (by assumption))
local macro_rules | `(tactic| walk_at "fl.ne") => `(tactic| assumption)
local macro_rules | `(tactic| walk_at "fl.look") => `(tactic| ((with_reducible apply Fl.Same.t); (focus assumption); walk_at "fl.look"))
local macro_rules | `(tactic| walk_at "fl.look") => `(tactic| ((with_reducible apply Same.seq); (focus assumption); walk_at "fl.look"))
local macro_rules | `(tactic| walk_at "fl.look") => `(tactic| ((with_reducible apply Ex1.t); (focus assumption); (focus walk_at "fl.ne"); walk_at "fl.look"))
local macro_rules | `(tactic| walk_at "fl.look") => `(tactic| ((with_reducible apply Ex1.l); (focus assumption); (focus walk_at "fl.ne"); walk_at "fl.look"))
local macro_rules | `(tactic| walk_at "fl.look") => `(tactic| ((with_reducible apply Fl.Same.t); (focus exact Fl.Same.new (by assumption)); walk_at "fl.look"))
local macro_rules | `(tactic| walk_at "fl.look") => `(tactic| ((with_reducible apply Same.seq); (focus exact Fl.Same.new (by assumption)); walk_at "fl.look"))
local macro_rules | `(tactic| walk_at "fl.look") => `(tactic| ((with_reducible apply Ex1.t); (focus with_reducible exact Ex1.upd); (focus walk_at "fl.ne"); walk_at "fl.look"))
local macro_rules | `(tactic| walk_at "fl.look") => `(tactic| ((with_reducible apply Ex1.l); (focus with_reducible exact Ex1.upd); (focus walk_at "fl.ne"); walk_at "fl.look"))
local macro_rules | `(tactic| walk_at "fl.look") => `(tactic| ((with_reducible apply SqT.of); assumption))
local macro_rules | `(tactic| walk_at "fl.look") => `(tactic| ((with_reducible apply SqL.of); assumption))
local macro_rules | `(tactic| walk_at "fl.look") => `(tactic| (with_reducible exact SqT.of upd_same))
local macro_rules | `(tactic| walk_at "fl.look") => `(tactic| (with_reducible exact SqL.of upd_same))
local macro_rules | `(tactic| walk_at "fl.look") => `(tactic| ((with_reducible show RV _ _ _ _); (with_reducible apply RV.same); (focus exact Fl.Same.new (by assumption)); walk_at "fl.look"))
local macro_rules | `(tactic| walk_at "fl.look") => `(tactic| ((with_reducible show RV _ _ _ _); (with_reducible apply RV.same); (focus assumption); walk_at "fl.look"))
local macro_rules | `(tactic| walk_at "fl.look") => `(tactic| ((with_reducible show RV _ _ _ _); (with_reducible apply RV.ex1); (focus assumption); (focus walk_at "fl.ne"); walk_at "fl.look"))
local macro_rules | `(tactic| walk_at "fl.look") => `(tactic| assumption)
-- arithmetic that an operation asks
local macro_rules | `(tactic| walk_at "fl.side") => `(tactic| exact div62 (by first | assumption | decide | omega) (by first | assumption | decide | omega))
local macro_rules | `(tactic| walk_at "fl.side") => `(tactic| exact divS (by first | assumption | omega) (by first | assumption | omega))
local macro_rules | `(tactic| walk_at "fl.side") => `(tactic| exact divW (by first | assumption | omega) (by first | assumption | omega))
local macro_rules | `(tactic| walk_at "fl.side") => `(tactic| exact mulW (by first | assumption | omega) (by first | assumption | omega))
local macro_rules | `(tactic| walk_at "fl.side") => `(tactic| exact Or.inl (by decide))
local macro_rules | `(tactic| walk_at "fl.side") => `(tactic| (refine ⟨?_, ?_, ?_⟩ <;> decide))
local macro_rules | `(tactic| walk_at "fl.side") => `(tactic| exact Or.inr (by decide))
local macro_rules | `(tactic| walk_at "fl.side") => `(tactic| (simp only [List.length_cons, List.length_nil]; omega))
local macro_rules | `(tactic| walk_at "fl.side") => `(tactic| omega)
local macro_rules | `(tactic| walk_at "fl.side") => `(tactic| assumption)
local macro_rules | `(tactic| walk_at "fl.side") => `(tactic| decide)
local macro_rules | `(tactic| walk_at "fl.kit") => `(tactic| first | exact kit_int_int | exact kit_int_bool | exact kit_int_tuple | exact kit_int_str | exact kit_int_list | exact kit_int_dict | exact kit_bool_int | exact kit_bool_bool | exact kit_bool_tuple | exact kit_bool_str | exact kit_bool_list | exact kit_bool_dict | exact kit_tuple_int | exact kit_tuple_bool | exact kit_tuple_tuple | exact kit_tuple_str | exact kit_tuple_list | exact kit_tuple_dict | exact kit_str_int | exact kit_str_bool | exact kit_str_tuple | exact kit_str_str | exact kit_str_list | exact kit_str_dict | exact kit_list_int | exact kit_list_bool | exact kit_list_tuple | exact kit_list_str | exact kit_list_list | exact kit_list_dict | exact kit_NoneType_int | exact kit_NoneType_bool | exact kit_NoneType_tuple | exact kit_NoneType_str | exact kit_NoneType_list | exact kit_NoneType_dict | exact kit_dict_int | exact kit_dict_bool | exact kit_dict_tuple | exact kit_dict_str | exact kit_dict_list | exact kit_dict_dict)
local macro_rules | `(tactic| walk_at "fl.ty") => `(tactic| (apply TyX.base; apply TyOf.lst; assumption))
local macro_rules | `(tactic| walk_at "fl.ty") => `(tactic| (apply TyX.base; apply TyOf.tup; assumption))
local macro_rules | `(tactic| walk_at "fl.ty") => `(tactic| exact .base (.lst upd_same))
local macro_rules | `(tactic| walk_at "fl.ty") => `(tactic| exact .base (.tup upd_same))
local macro_rules | `(tactic| walk_at "fl.ty") => `(tactic| exact .base (.str _))
local macro_rules | `(tactic| walk_at "fl.ty") => `(tactic| exact .base .non)
local macro_rules | `(tactic| walk_at "fl.ty") => `(tactic| exact .base (.bl _))
local macro_rules | `(tactic| walk_at "fl.ty") => `(tactic| exact .base (.int _))
local macro_rules | `(tactic| walk_at "fl.deck") => `(tactic| (refine DeckAt.same ?_ (by assumption); walk_at "fl.deck"))
local macro_rules | `(tactic| walk_at "fl.deck") => `(tactic| (refine DeckAt.same ?_ (Fl.Same.new (by assumption)); walk_at "fl.deck"))
local macro_rules | `(tactic| walk_at "fl.deck") => `(tactic| assumption)
local macro_rules | `(tactic| walk_at "fl.ex1") => `(tactic| (refine Ex1.trans ?_ (Ex1.of (by assumption)); walk_at "fl.ex1"))
local macro_rules | `(tactic| walk_at "fl.ex1") => `(tactic| (refine Ex1.trans ?_ (by assumption); walk_at "fl.ex1"))
local macro_rules | `(tactic| walk_at "fl.ex1") => `(tactic| (refine Ex1.trans ?_ (Ex1.of (Fl.Same.new (by assumption))); walk_at "fl.ex1"))
local macro_rules | `(tactic| walk_at "fl.ex1") => `(tactic| (refine Ex1.trans ?_ Ex1.upd; walk_at "fl.ex1"))
local macro_rules | `(tactic| walk_at "fl.ex1") => `(tactic| exact Ex1.upd)
local macro_rules | `(tactic| walk_at "fl.ex1") => `(tactic| exact Ex1.refl)
local macro_rules | `(tactic| walk_at "fl.ex1") => `(tactic| assumption)
local macro_rules | `(tactic| walk_at "fl.pre") => `(tactic| first | assumption | trivial | exact ne_of_num (by assumption))
local macro_rules | `(tactic| walk_at "fl.szq") => `(tactic| exact szq_div (k := 41) (by decide) (by omega) (by decide))
local macro_rules | `(tactic| walk_at "fl.szq") => `(tactic| ((with_reducible apply Szq.div); (focus walk_at "fl.szq"); (focus walk_at "fl.szq"); (focus walk_at "fl.pre")))
local macro_rules | `(tactic| walk_at "fl.szq") => `(tactic| ((with_reducible apply Szq.mul); (focus walk_at "fl.szq"); (focus walk_at "fl.szq")))
local macro_rules | `(tactic| walk_at "fl.szq") => `(tactic| ((with_reducible apply Szq.sub); (focus walk_at "fl.szq"); (focus walk_at "fl.szq")))
local macro_rules | `(tactic| walk_at "fl.szq") => `(tactic| ((with_reducible apply Szq.add); (focus walk_at "fl.szq"); (focus walk_at "fl.szq")))
local macro_rules | `(tactic| walk_at "fl.szq") => `(tactic| assumption)
local macro_rules | `(tactic| walk_at "fl.md") => `(tactic| first | assumption | ((with_reducible apply Szq.md); (focus walk_at "fl.szq"); decide))
local macro_rules | `(tactic| walk_at "fl.rat") => `(tactic| exact Rat.div_mul_cancel (ne_of_num (by assumption)))
local macro_rules | `(tactic| walk_at "fl.rat") => `(tactic| exact Rat.mul_div_cancel (ne_of_num (by assumption)))
local macro_rules | `(tactic| walk_at "fl.rat") => `(tactic| exact Rat.add_sub_cancel)
local macro_rules | `(tactic| walk_at "fl.rat") => `(tactic| exact Rat.mul_add _ _ _)
local macro_rules | `(tactic| walk_at "fl.rat") => `(tactic| exact Rat.mul_assoc _ _ _)
local macro_rules | `(tactic| walk_at "fl.rat") => `(tactic| exact Rat.add_assoc _ _ _)
local macro_rules | `(tactic| walk_at "fl.rat") => `(tactic| exact Rat.mul_comm _ _)
local macro_rules | `(tactic| walk_at "fl.rat") => `(tactic| exact Rat.add_comm _ _)
local macro_rules | `(tactic| walk_at "fl.rat") => `(tactic| rfl)
-- one step of a reading
local macro_rules | `(tactic| walk_at "fl.s") => `(tactic| ((with_reducible show ∀ (p : Addr), (_ : Option HO) = none → _); intro _ _))
local macro_rules | `(tactic| walk_at "fl.s") => `(tactic| (with_reducible refine g_iteNF ?_))
local macro_rules | `(tactic| walk_at "fl.s") => `(tactic| (with_reducible refine g_iteNT ?_))
local macro_rules | `(tactic| walk_at "fl.s") => `(tactic| (with_reducible refine g_iteF ?_))
local macro_rules | `(tactic| walk_at "fl.s") => `(tactic| (with_reducible refine g_iteT ?_))
local macro_rules | `(tactic| walk_at "fl.s") => `(tactic| (with_reducible refine g_lstN ?_))
local macro_rules | `(tactic| walk_at "fl.s") => `(tactic| (with_reducible refine g_tupN ?_))
local macro_rules | `(tactic| walk_at "fl.s") => `(tactic| (with_reducible refine g_tup2 ?_))
local macro_rules | `(tactic| walk_at "fl.s") => `(tactic| (with_reducible refine g_nil ?_))
local macro_rules | `(tactic| walk_at "fl.s") => `(tactic| (with_reducible refine g_cons ?_))
local macro_rules | `(tactic| walk_at "fl.s") => `(tactic| ((with_reducible apply ne_app); (focus walk_at "fl.look"); (focus walk_at "fl.look"); (focus walk_at "fl.rat")))
local macro_rules | `(tactic| walk_at "fl.s") => `(tactic| ((with_reducible apply nr_app); (focus walk_at "fl.look"); (focus walk_at "fl.md")))
local macro_rules | `(tactic| walk_at "fl.s") => `(tactic| ((with_reducible apply cq_app); (focus walk_at "fl.look"); (focus walk_at "fl.look"); (focus walk_at "fl.md"); (focus walk_at "fl.md")))
local macro_rules | `(tactic| walk_at "fl.s") => `(tactic| ((with_reducible apply bin_app); (focus walk_at "fl.look"); (focus walk_at "fl.look"); (focus walk_at "fl.md"); (focus walk_at "fl.md"); (focus walk_at "fl.pre"); intro _ _ _ _ _))
local macro_rules | `(tactic| walk_at "fl.s") => `(tactic| ((with_reducible show spRatq _ _ _ _ _); (apply ratq_app); (focus walk_at "fl.side"); (focus walk_at "fl.side"); (focus walk_at "fl.side"); intro _ _ _ _ _))
local macro_rules | `(tactic| walk_at "fl.s") => `(tactic| (with_reducible refine g_callD ?_))
local macro_rules | `(tactic| walk_at "fl.s") => `(tactic| (with_reducible refine sameI_app ?_))
local macro_rules | `(tactic| walk_at "fl.s") => `(tactic| (with_reducible refine isint_app ?_))
local macro_rules | `(tactic| walk_at "fl.s") => `(tactic| ((with_reducible apply near2_app); (focus walk_at "fl.look"); (focus assumption); intro _ _ _ _ _))
local macro_rules | `(tactic| walk_at "fl.s") => `(tactic| ((with_reducible apply down2_app); (focus walk_at "fl.look"); (focus assumption); intro _ _ _ _ _ _))
local macro_rules | `(tactic| walk_at "fl.s") => `(tactic| ((with_reducible apply cmp_app); (focus walk_at "fl.look"); (focus walk_at "fl.look"); (focus assumption); (focus assumption)))
local macro_rules | `(tactic| walk_at "fl.s") => `(tactic| ((with_reducible refine fra_app ?_ ?_ ?_ ?_); (focus walk_at "fl.side"); (focus walk_at "fl.side"); (focus walk_at "fl.side"); intro _ _ _ _ _))
local macro_rules | `(tactic| walk_at "fl.s") => `(tactic| ((with_reducible apply deck_app); (focus walk_at "fl.look"); intro _ _ _ _ _))
local macro_rules | `(tactic| walk_at "fl.s") => `(tactic| ((with_reducible refine big_app ?_ ?_); (focus walk_at "fl.deck"); intro _ _ _ _ _ _ _ _ _))
local macro_rules | `(tactic| walk_at "fl.s") => `(tactic| ((with_reducible refine draw_app ?_ ?_ ?_ ?_); (focus walk_at "fl.deck"); (focus walk_at "fl.side"); (focus walk_at "fl.side"); intro _ _ _ _ _ _))
local macro_rules | `(tactic| walk_at "fl.s") => `(tactic| (with_reducible refine g_call ?_))
local macro_rules | `(tactic| walk_at "fl.s") => `(tactic| (with_reducible refine g_drop ?_))
local macro_rules | `(tactic| walk_at "fl.s") => `(tactic| (with_reducible refine g_ipI ?_))
local macro_rules | `(tactic| walk_at "fl.s") => `(tactic| ((with_reducible apply g_aug); (focus rfl)))
local macro_rules | `(tactic| walk_at "fl.s") => `(tactic| (with_reducible refine g_set ?_))
local macro_rules | `(tactic| walk_at "fl.s") => `(tactic| ((with_reducible apply g_setL); (focus first | assumption | exact upd_same); (focus rfl)))
local macro_rules | `(tactic| walk_at "fl.s") => `(tactic| (with_reducible refine g_setS ?_))
local macro_rules | `(tactic| walk_at "fl.s") => `(tactic| (with_reducible refine g_if ?_))
local macro_rules | `(tactic| walk_at "fl.s") => `(tactic| (with_reducible refine g_ret ?_))
local macro_rules | `(tactic| walk_at "fl.s") => `(tactic| (with_reducible refine g_next ?_))
local macro_rules | `(tactic| walk_at "fl.s") => `(tactic| (with_reducible refine g_notV ?_))
local macro_rules | `(tactic| walk_at "fl.s") => `(tactic| (with_reducible refine g_orV ?_))
local macro_rules | `(tactic| walk_at "fl.s") => `(tactic| (with_reducible refine g_andV ?_))
local macro_rules | `(tactic| walk_at "fl.s") => `(tactic| (with_reducible refine g_or ?_))
local macro_rules | `(tactic| walk_at "fl.s") => `(tactic| (with_reducible refine g_and ?_))
local macro_rules | `(tactic| walk_at "fl.s") => `(tactic| (with_reducible refine g_not ?_))
local macro_rules | `(tactic| walk_at "fl.s") => `(tactic| (with_reducible refine g_ex ?_))
local macro_rules | `(tactic| walk_at "fl.s") => `(tactic| (with_reducible refine g_bl ?_))
local macro_rules | `(tactic| walk_at "fl.s") => `(tactic| (with_reducible refine g_B ?_))
local macro_rules | `(tactic| walk_at "fl.s") => `(tactic| (with_reducible refine g_test ?_))
local macro_rules | `(tactic| walk_at "fl.s") => `(tactic| (with_reducible refine g_eqB ?_))
local macro_rules | `(tactic| walk_at "fl.s") => `(tactic| (with_reducible refine g_neI ?_))
local macro_rules | `(tactic| walk_at "fl.s") => `(tactic| (with_reducible refine g_eqI ?_))
local macro_rules | `(tactic| walk_at "fl.s") => `(tactic| ((with_reducible refine g_tup2 ?_)))
local macro_rules | `(tactic| walk_at "fl.s") => `(tactic| ((with_reducible refine g_new ?_ ?_); (focus walk_at "fl.side"); intro _ _))
local macro_rules | `(tactic| walk_at "fl.s") => `(tactic| ((with_reducible apply g_listL); (focus walk_at "fl.look"); intro _ _))
local macro_rules | `(tactic| walk_at "fl.s") => `(tactic| ((with_reducible apply g_isiT); (focus walk_at "fl.ty"); (focus walk_at "fl.kit")))
local macro_rules | `(tactic| walk_at "fl.s") => `(tactic| (with_reducible refine g_gcd ?_))
local macro_rules | `(tactic| walk_at "fl.s") => `(tactic| ((with_reducible apply g_lenT); (focus walk_at "fl.look")))
local macro_rules | `(tactic| walk_at "fl.s") => `(tactic| ((with_reducible apply g_lenL); (focus walk_at "fl.look")))
local macro_rules | `(tactic| walk_at "fl.s") => `(tactic| (with_reducible refine g_min ?_))
local macro_rules | `(tactic| walk_at "fl.s") => `(tactic| (with_reducible refine g_max ?_))
local macro_rules | `(tactic| walk_at "fl.s") => `(tactic| (with_reducible refine g_abs ?_))
local macro_rules | `(tactic| walk_at "fl.s") => `(tactic| (with_reducible refine g_intB ?_))
local macro_rules | `(tactic| walk_at "fl.s") => `(tactic| (with_reducible refine g_int ?_))
local macro_rules | `(tactic| walk_at "fl.s") => `(tactic| (with_reducible refine g_cb2 ?_))
local macro_rules | `(tactic| walk_at "fl.s") => `(tactic| (with_reducible refine g_cb1 ?_))
local macro_rules | `(tactic| walk_at "fl.s") => `(tactic| ((with_reducible apply g_ixT); (focus walk_at "fl.look"); (focus first | assumption | rfl)))
local macro_rules | `(tactic| walk_at "fl.s") => `(tactic| ((with_reducible apply g_ixL); (focus walk_at "fl.look"); (focus first | assumption | rfl)))
local macro_rules | `(tactic| walk_at "fl.s") => `(tactic| (with_reducible refine g_un ?_))
local macro_rules | `(tactic| walk_at "fl.s") => `(tactic| (with_reducible refine g_U ?_))
local macro_rules | `(tactic| walk_at "fl.s") => `(tactic| ((with_reducible apply g_I); (focus walk_at "fl.side")))
local macro_rules | `(tactic| walk_at "fl.s") => `(tactic| (with_reducible refine g_I0 ?_))
local macro_rules | `(tactic| walk_at "fl.s") => `(tactic| (with_reducible refine g_c ?_))
local macro_rules | `(tactic| walk_at "fl.s") => `(tactic| ((with_reducible apply g_var); (focus rfl)))
local macro_rules | `(tactic| walk_at "fl.s") => `(tactic| (with_reducible refine g_op ?_))
local macro_rules | `(tactic| walk_at "fl.s") => `(tactic| (with_reducible refine g_seq ?_))
local macro_rules | `(tactic| walk_at "fl.go") => `(tactic| repeat walk_at "fl.s")
local macro_rules | `(tactic| walk_at "fl.run") => `(tactic| ((repeat walk_at "fl.s"); try (first
  | (refine g_ite (fun _ => ?_) (fun _ => ?_); all_goals walk_at "fl.run")
  | (refine g_iteN (fun _ => ?_) (fun _ => ?_); all_goals walk_at "fl.run"))))

local macro_rules | `(tactic| walk_at "fl.raw") => `(tactic| ((with_reducible apply raw_frd); (focus assumption); (focus walk_at "fl.nd"); walk_at "fl.raw"))
local macro_rules | `(tactic| walk_at "fl.raw") => `(tactic| ((with_reducible apply raw_on); (focus assumption); (focus walk_at "fl.nd"); walk_at "fl.raw"))
local macro_rules | `(tactic| walk_at "fl.raw") => `(tactic| ((with_reducible apply raw_same); (focus assumption); walk_at "fl.raw"))
local macro_rules | `(tactic| walk_at "fl.raw") => `(tactic| ((with_reducible apply raw_new); (focus assumption); walk_at "fl.raw"))
local macro_rules | `(tactic| walk_at "fl.raw") => `(tactic| exact upd_same)
local macro_rules | `(tactic| walk_at "fl.raw") => `(tactic| assumption)
local macro_rules | `(tactic| walk_at "fl.nd") => `(tactic| exact Dk.ned2 (by assumption) (by assumption))
local macro_rules | `(tactic| walk_at "fl.nd") => `(tactic| assumption)
local macro_rules | `(tactic| walk_at "fl.frd") => `(tactic| ((with_reducible apply Fl.Fr.frT); (focus assumption); walk_at "fl.frd"))
local macro_rules | `(tactic| walk_at "fl.frd") => `(tactic| ((with_reducible apply Fl.Fr.smT); (focus assumption); walk_at "fl.frd"))
local macro_rules | `(tactic| walk_at "fl.frd") => `(tactic| ((with_reducible apply Fl.Fr.ond); (focus assumption); walk_at "fl.frd"))
local macro_rules | `(tactic| walk_at "fl.frd") => `(tactic| ((with_reducible apply Fl.Fr.newT); (focus assumption); walk_at "fl.frd"))
local macro_rules | `(tactic| walk_at "fl.frd") => `(tactic| exact Fl.Fr.refl)
local macro_rules | `(tactic| walk_at "fl.frd") => `(tactic| assumption)
local macro_rules | `(tactic| walk_at "fl.lk") => `(tactic| ((with_reducible apply SqT.of); walk_at "fl.raw"))
local macro_rules | `(tactic| walk_at "fl.lk") => `(tactic| ((with_reducible apply SqL.of); walk_at "fl.raw"))
local macro_rules | `(tactic| walk_at "fl.dq") => `(tactic| ((with_reducible apply Dq.frd); (focus assumption); (focus first | assumption | simp); walk_at "fl.dq"))
local macro_rules | `(tactic| walk_at "fl.dq") => `(tactic| ((with_reducible apply Dq.ond); (focus assumption); (focus first | assumption | simp); walk_at "fl.dq"))
local macro_rules | `(tactic| walk_at "fl.dq") => `(tactic| ((with_reducible apply Dq.sm); (focus assumption); walk_at "fl.dq"))
local macro_rules | `(tactic| walk_at "fl.dq") => `(tactic| ((with_reducible apply Dq.newH); (focus assumption); walk_at "fl.dq"))
local macro_rules | `(tactic| walk_at "fl.dq") => `(tactic| exact Dq.non)
local macro_rules | `(tactic| walk_at "fl.dq") => `(tactic| exact Dq.bl _)
local macro_rules | `(tactic| walk_at "fl.dq") => `(tactic| exact Dq.int _)
local macro_rules | `(tactic| walk_at "fl.dq") => `(tactic| assumption)
local macro_rules | `(tactic| walk_at "fl.dqa") => `(tactic| ((with_reducible apply DqA.sm); (focus assumption); walk_at "fl.dqa"))
local macro_rules | `(tactic| walk_at "fl.dqa") => `(tactic| ((with_reducible apply DqA.newH); (focus assumption); walk_at "fl.dqa"))
local macro_rules | `(tactic| walk_at "fl.dqa") => `(tactic| ((with_reducible apply DqA.cons); (focus walk_at "fl.dq"); walk_at "fl.dqa"))
local macro_rules | `(tactic| walk_at "fl.dqa") => `(tactic| exact DqA.nil)
local macro_rules | `(tactic| walk_at "fl.dqa") => `(tactic| assumption)
local macro_rules | `(tactic| walk_at "fl.al") => `(tactic| ((with_reducible apply Al.frd); (focus assumption); (focus assumption); walk_at "fl.al"))
local macro_rules | `(tactic| walk_at "fl.al") => `(tactic| ((with_reducible apply Al.ond); (focus assumption); (focus assumption); walk_at "fl.al"))
local macro_rules | `(tactic| walk_at "fl.al") => `(tactic| ((with_reducible apply Al.sm); (focus assumption); walk_at "fl.al"))
local macro_rules | `(tactic| walk_at "fl.al") => `(tactic| ((with_reducible apply Al.newH); (focus assumption); walk_at "fl.al"))
local macro_rules | `(tactic| walk_at "fl.al") => `(tactic| exact Al.nil)
local macro_rules | `(tactic| walk_at "fl.al") => `(tactic| assumption)
local macro_rules | `(tactic| walk_at "fl.sm") => `(tactic| ((with_reducible apply Fl.Same.sm); (focus assumption); walk_at "fl.sm"))
local macro_rules | `(tactic| walk_at "fl.sm") => `(tactic| ((with_reducible apply Fl.Same.newT); (focus assumption); walk_at "fl.sm"))
local macro_rules | `(tactic| walk_at "fl.sm") => `(tactic| exact L2.Same.refl _)
local macro_rules | `(tactic| walk_at "fl.sm") => `(tactic| assumption)
local macro_rules | `(tactic| walk_at "fl.dk") => `(tactic| ((with_reducible apply Dk.sm); (focus assumption); walk_at "fl.dk"))
local macro_rules | `(tactic| walk_at "fl.dk") => `(tactic| ((with_reducible apply Dk.newH); (focus assumption); walk_at "fl.dk"))
local macro_rules | `(tactic| walk_at "fl.dk") => `(tactic| assumption)
local macro_rules | `(tactic| walk_at "fl.cz") => `(tactic| ((try simp only [List.length_drop, List.length_take, List.length_append, List.length_cons, List.length_nil, List.length_map, List.length_reverse, List.length_dropLast]); omega))
-- readings with plain lookups first, then the older steps
local macro_rules | `(tactic| walk_at "fl.t") => `(tactic| walk_at "fl.s")
local macro_rules | `(tactic| walk_at "fl.t") => `(tactic| ((with_reducible apply g_ez); (focus walk_at "fl.lk"); (focus walk_at "fl.lk")))
local macro_rules | `(tactic| walk_at "fl.t") => `(tactic| ((with_reducible apply g_el); (focus walk_at "fl.lk")))
local macro_rules | `(tactic| walk_at "fl.t") => `(tactic| ((with_reducible apply g_e2); (focus (refine ⟨?_, ?_, ?_, ?_⟩ <;> walk_at "fl.cz"))))
local macro_rules | `(tactic| walk_at "fl.t") => `(tactic| ((with_reducible apply g_e1); (focus walk_at "fl.cz"); (focus walk_at "fl.cz")))
local macro_rules | `(tactic| walk_at "fl.t") => `(tactic| (with_reducible refine g_zip ?_))
local macro_rules | `(tactic| walk_at "fl.t") => `(tactic| (with_reducible refine g_il ?_))
local macro_rules | `(tactic| walk_at "fl.t") => `(tactic| (with_reducible refine g_rng2 ?_))
local macro_rules | `(tactic| walk_at "fl.t") => `(tactic| (with_reducible refine g_rng1 ?_))
local macro_rules | `(tactic| walk_at "fl.t") => `(tactic| (with_reducible refine g_for ?_))
local macro_rules | `(tactic| walk_at "fl.t") => `(tactic| (with_reducible refine g_lc ?_))
local macro_rules | `(tactic| walk_at "fl.t") => `(tactic| ((with_reducible apply g_ext); (focus walk_at "fl.raw"); (focus walk_at "fl.raw"); (focus walk_at "fl.cz")))
local macro_rules | `(tactic| walk_at "fl.t") => `(tactic| ((with_reducible apply g_app); (focus walk_at "fl.raw"); (focus walk_at "fl.cz")))
local macro_rules | `(tactic| walk_at "fl.t") => `(tactic| ((with_reducible apply g_tyL); (focus walk_at "fl.lk")))
local macro_rules | `(tactic| walk_at "fl.t") => `(tactic| (with_reducible refine g_bm ?_))
local macro_rules | `(tactic| walk_at "fl.t") => `(tactic| (with_reducible refine g_gnil ?_))
local macro_rules | `(tactic| walk_at "fl.t") => `(tactic| (with_reducible refine g_gcons ?_))
local macro_rules | `(tactic| walk_at "fl.t") => `(tactic| ((with_reducible apply g_gtup); (focus walk_at "fl.lk"); (focus rfl)))
local macro_rules | `(tactic| walk_at "fl.t") => `(tactic| (with_reducible refine g_yes ?_))
local macro_rules | `(tactic| walk_at "fl.t") => `(tactic| ((with_reducible apply g_tru1); (focus walk_at "fl.lk")))
local macro_rules | `(tactic| walk_at "fl.t") => `(tactic| ((with_reducible apply g_tru0); (focus walk_at "fl.lk")))
local macro_rules | `(tactic| walk_at "fl.t") => `(tactic| (with_reducible refine g_tru ?_))
local macro_rules | `(tactic| walk_at "fl.t") => `(tactic| (with_reducible refine g_nn ?_))
local macro_rules | `(tactic| walk_at "fl.t") => `(tactic| ((with_reducible apply g_sum); (focus walk_at "fl.lk")))
local macro_rules | `(tactic| walk_at "fl.t") => `(tactic| ((with_reducible apply g_maxL); (focus walk_at "fl.lk"); (focus assumption)))
local macro_rules | `(tactic| walk_at "fl.t") => `(tactic| ((with_reducible apply g_minL); (focus walk_at "fl.lk"); (focus assumption)))
local macro_rules | `(tactic| walk_at "fl.t") => `(tactic| (with_reducible refine g_name ?_))
local macro_rules | `(tactic| walk_at "fl.t") => `(tactic| ((with_reducible refine g_sz ?_ ?_); (focus walk_at "fl.cz")))
local macro_rules | `(tactic| walk_at "fl.t") => `(tactic| ((with_reducible apply dk_app); (focus assumption); intro _ _ _ _ _))
local macro_rules | `(tactic| walk_at "fl.t") => `(tactic| ((with_reducible apply dr_app); (focus walk_at "fl.dk"); (focus first | (with_reducible assumption) | omega | walk_at "fl.side"); (focus first | (with_reducible assumption) | omega | walk_at "fl.side"); intro _ _ _ _ _ _))
local macro_rules | `(tactic| walk_at "fl.t") => `(tactic| ((with_reducible apply g_cat); (focus walk_at "fl.raw"); (focus walk_at "fl.raw"); (focus walk_at "fl.cz"); intro _ _))
local macro_rules | `(tactic| walk_at "fl.t") => `(tactic| ((with_reducible apply g_sl2); (focus walk_at "fl.lk"); intro _ _))
local macro_rules | `(tactic| walk_at "fl.t") => `(tactic| ((with_reducible apply g_slTo); (focus walk_at "fl.lk"); intro _ _))
local macro_rules | `(tactic| walk_at "fl.t") => `(tactic| ((with_reducible apply g_slF); (focus walk_at "fl.lk"); intro _ _))
local macro_rules | `(tactic| walk_at "fl.t") => `(tactic| ((with_reducible apply g_slE); (focus walk_at "fl.lk"); intro _ _))
local macro_rules | `(tactic| walk_at "fl.t") => `(tactic| ((with_reducible apply g_slB); (focus walk_at "fl.lk"); intro _ _))
local macro_rules | `(tactic| walk_at "fl.t") => `(tactic| ((with_reducible apply g_slT1); (focus walk_at "fl.lk"); intro _ _))
local macro_rules | `(tactic| walk_at "fl.t") => `(tactic| ((with_reducible apply g_slF1); (focus walk_at "fl.lk"); intro _ _))
local macro_rules | `(tactic| walk_at "fl.t") => `(tactic| (with_reducible refine g_ei ?_))
local macro_rules | `(tactic| walk_at "fl.t") => `(tactic| (with_reducible refine g_nop ?_))
local macro_rules | `(tactic| walk_at "fl.t") => `(tactic| (with_reducible refine g_part ?_))
local macro_rules | `(tactic| walk_at "fl.t") => `(tactic| (with_reducible refine g_sl ?_))
local macro_rules | `(tactic| walk_at "fl.t") => `(tactic| ((with_reducible apply g_listL); (focus walk_at "fl.lk"); intro _ _))
local macro_rules | `(tactic| walk_at "fl.t") => `(tactic| ((with_reducible apply g_lenT); (focus walk_at "fl.lk")))
local macro_rules | `(tactic| walk_at "fl.t") => `(tactic| ((with_reducible apply g_lenL); (focus walk_at "fl.lk")))
local macro_rules | `(tactic| walk_at "fl.t") => `(tactic| ((with_reducible apply g_ixT); (focus walk_at "fl.lk"); (focus first | assumption | rfl)))
local macro_rules | `(tactic| walk_at "fl.t") => `(tactic| ((with_reducible apply g_ixL); (focus walk_at "fl.lk"); (focus first | assumption | exact at0 | rfl)))
local macro_rules | `(tactic| walk_at "fl.w") => `(tactic| repeat walk_at "fl.t")
local macro_rules | `(tactic| walk_at "fl.wr") => `(tactic| ((repeat walk_at "fl.t"); try (first
  | (refine g_ite (fun _ => ?_) (fun _ => ?_); all_goals walk_at "fl.wr")
  | (refine g_iteN (fun _ => ?_) (fun _ => ?_); all_goals walk_at "fl.wr"))))

local macro_rules | `(tactic| walk_at "fl.t") => `(tactic| (with_reducible refine g_eqS ?_))
local macro_rules | `(tactic| walk_at "fl.t") => `(tactic| ((with_reducible apply g_lrev2); (focus walk_at "fl.lk"); intro _ _))
local macro_rules | `(tactic| walk_at "fl.t") => `(tactic| (with_reducible refine g_lrev ?_))
local macro_rules | `(tactic| walk_at "fl.t") => `(tactic| ((with_reducible apply g_slR0); (focus walk_at "fl.lk"); intro _ _))
local macro_rules | `(tactic| walk_at "fl.w") => `(tactic| repeat walk_at "fl.t")

local macro_rules | `(tactic| walk_at "fl.t") => `(tactic| (with_reducible refine g_asg2 ?_))
local macro_rules | `(tactic| walk_at "fl.t") => `(tactic| ((with_reducible apply g_allL); (focus walk_at "fl.lk")))
local macro_rules | `(tactic| walk_at "fl.t") => `(tactic| ((with_reducible apply g_enE); (focus walk_at "fl.lk")))
local macro_rules | `(tactic| walk_at "fl.t") => `(tactic| (with_reducible refine g_enum ?_))
local macro_rules | `(tactic| walk_at "fl.t") => `(tactic| (with_reducible refine g_truN ?_))
local macro_rules | `(tactic| walk_at "fl.t") => `(tactic| (with_reducible refine g_orT ?_))
local macro_rules | `(tactic| walk_at "fl.t") => `(tactic| (with_reducible refine g_chain ?_))
local macro_rules | `(tactic| walk_at "fl.t") => `(tactic| ((with_reducible apply g_sfE); (focus first | exact InitAt.hx (by assumption) | walk_at "fl.raw"); (focus assumption); (focus ((apply na_of); (focus assumption); rfl)); (focus (simp only [List.length_append, List.length_cons, List.length_nil]; omega))))
local macro_rules | `(tactic| walk_at "fl.t") => `(tactic| ((with_reducible apply g_fldE); (focus walk_at "fl.raw"); (focus assumption); (focus ((apply na_of); (focus assumption); rfl)); (focus rfl)))
local macro_rules | `(tactic| walk_at "fl.t") => `(tactic| (with_reducible refine g_make ?_))
local macro_rules | `(tactic| walk_at "fl.t") => `(tactic| (with_reducible refine g_sf ?_))
local macro_rules | `(tactic| walk_at "fl.t") => `(tactic| (with_reducible refine g_fld ?_))
local macro_rules | `(tactic| walk_at "fl.w") => `(tactic| repeat walk_at "fl.t")

def topS (i : Nat) : Stmt := PySem.Challenge.pw_fleuron_k25_statuses_and_automata.main.body.getD i (.Pass ⟨0, 0, 0, 0⟩)
abbrev s_law_mix : Stmt := topS 82
abbrev N_law_mix : List Str := ["number", "k"]
abbrev ps_law_mix : List Str := ["number", "k"]
theorem sc_law_mix : FnScope N_law_mix ps_law_mix (defScope s_law_mix) := ⟨rfl, rfl, rfl, by decide +kernel, rfl, by decide +kernel, by decide +kernel⟩
theorem bd_law_mix (kV doc pm : Value) (an : Option Addr) (cdv ct : Value) (us : List Value) (h : us.length = ps_law_mix.length) : bindArgs (PySem.W.fnOf "_law_mix" "_law_mix" (defArgs s_law_mix) (defBody s_law_mix) (defScope s_law_mix) .none kV doc pm an cdv ct) ⟨us, []⟩ = pure (ps_law_mix.zip us) := match us, h with | [_, _], _ => rfl
abbrev s_law_numbers : Stmt := topS 83
abbrev N_law_numbers : List Str := ["script", "count", "row", "base", "cell", "rest", "k"]
abbrev ps_law_numbers : List Str := ["script", "count"]
theorem sc_law_numbers : FnScope N_law_numbers ps_law_numbers (defScope s_law_numbers) := ⟨rfl, rfl, rfl, by decide +kernel, rfl, by decide +kernel, by decide +kernel⟩
theorem bd_law_numbers (kV doc pm : Value) (an : Option Addr) (cdv ct : Value) (us : List Value) (h : us.length = ps_law_numbers.length) : bindArgs (PySem.W.fnOf "_law_numbers" "_law_numbers" (defArgs s_law_numbers) (defBody s_law_numbers) (defScope s_law_numbers) .none kV doc pm an cdv ct) ⟨us, []⟩ = pure (ps_law_numbers.zip us) := match us, h with | [_, _], _ => rfl
abbrev s_law_take : Stmt := topS 84
abbrev N_law_take : List Str := ["row", "bound"]
abbrev ps_law_take : List Str := ["row", "bound"]
theorem sc_law_take : FnScope N_law_take ps_law_take (defScope s_law_take) := ⟨rfl, rfl, rfl, by decide +kernel, rfl, by decide +kernel, by decide +kernel⟩
theorem bd_law_take (kV doc pm : Value) (an : Option Addr) (cdv ct : Value) (us : List Value) (h : us.length = ps_law_take.length) : bindArgs (PySem.W.fnOf "_law_take" "_law_take" (defArgs s_law_take) (defBody s_law_take) (defScope s_law_take) .none kV doc pm an cdv ct) ⟨us, []⟩ = pure (ps_law_take.zip us) := match us, h with | [_, _], _ => rfl
abbrev s_law_set : Stmt := topS 87
abbrev N_law_set : List Str := ["row", "count", "glyphs", "k"]
abbrev ps_law_set : List Str := ["row", "count"]
theorem sc_law_set : FnScope N_law_set ps_law_set (defScope s_law_set) := ⟨rfl, rfl, rfl, by decide +kernel, rfl, by decide +kernel, by decide +kernel⟩
theorem bd_law_set (kV doc pm : Value) (an : Option Addr) (cdv ct : Value) (us : List Value) (h : us.length = ps_law_set.length) : bindArgs (PySem.W.fnOf "_law_set" "_law_set" (defArgs s_law_set) (defBody s_law_set) (defScope s_law_set) .none kV doc pm an cdv ct) ⟨us, []⟩ = pure (ps_law_set.zip us) := match us, h with | [_, _], _ => rfl
abbrev s_law_sets : Stmt := topS 88
abbrev N_law_sets : List Str := ["row", "count", "least", "most", "k"]
abbrev ps_law_sets : List Str := ["row", "count", "least", "most"]
theorem sc_law_sets : FnScope N_law_sets ps_law_sets (defScope s_law_sets) := ⟨rfl, rfl, rfl, by decide +kernel, rfl, by decide +kernel, by decide +kernel⟩
theorem bd_law_sets (kV doc pm : Value) (an : Option Addr) (cdv ct : Value) (us : List Value) (h : us.length = ps_law_sets.length) : bindArgs (PySem.W.fnOf "_law_sets" "_law_sets" (defArgs s_law_sets) (defBody s_law_sets) (defScope s_law_sets) .none kV doc pm an cdv ct) ⟨us, []⟩ = pure (ps_law_sets.zip us) := match us, h with | [_, _, _, _], _ => rfl
abbrev s_law_rule : Stmt := topS 89
abbrev N_law_rule : List Str := ["row", "kind", "count", "called", "inside", "back", "ahead", "out", "calls", "index", "glyph", "k"]
abbrev ps_law_rule : List Str := ["row", "kind", "count", "called"]
theorem sc_law_rule : FnScope N_law_rule ps_law_rule (defScope s_law_rule) := ⟨rfl, rfl, rfl, by decide +kernel, rfl, by decide +kernel, by decide +kernel⟩
theorem bd_law_rule (kV doc pm : Value) (an : Option Addr) (cdv ct : Value) (us : List Value) (h : us.length = ps_law_rule.length) : bindArgs (PySem.W.fnOf "_law_rule" "_law_rule" (defArgs s_law_rule) (defBody s_law_rule) (defScope s_law_rule) .none kV doc pm an cdv ct) ⟨us, []⟩ = pure (ps_law_rule.zip us) := match us, h with | [_, _, _, _], _ => rfl
abbrev s_law_lookups : Stmt := topS 90
abbrev N_law_lookups : List Str := ["row", "count", "lookups", "number", "kind", "called", "rules", "k"]
abbrev ps_law_lookups : List Str := ["row", "count"]
theorem sc_law_lookups : FnScope N_law_lookups ps_law_lookups (defScope s_law_lookups) := ⟨rfl, rfl, rfl, by decide +kernel, rfl, by decide +kernel, by decide +kernel⟩
theorem bd_law_lookups (kV doc pm : Value) (an : Option Addr) (cdv ct : Value) (us : List Value) (h : us.length = ps_law_lookups.length) : bindArgs (PySem.W.fnOf "_law_lookups" "_law_lookups" (defArgs s_law_lookups) (defBody s_law_lookups) (defScope s_law_lookups) .none kV doc pm an cdv ct) ⟨us, []⟩ = pure (ps_law_lookups.zip us) := match us, h with | [_, _], _ => rfl
abbrev s_law_world : Stmt := topS 93
abbrev N_law_world : List Str := ["row", "count", "marks", "advances", "lookups", "k"]
abbrev ps_law_world : List Str := ["row"]
theorem sc_law_world : FnScope N_law_world ps_law_world (defScope s_law_world) := ⟨rfl, rfl, rfl, by decide +kernel, rfl, by decide +kernel, by decide +kernel⟩
theorem bd_law_world (kV doc pm : Value) (an : Option Addr) (cdv ct : Value) (us : List Value) (h : us.length = ps_law_world.length) : bindArgs (PySem.W.fnOf "_law_world" "_law_world" (defArgs s_law_world) (defBody s_law_world) (defScope s_law_world) .none kV doc pm an cdv ct) ⟨us, []⟩ = pure (ps_law_world.zip us) := match us, h with | [_], _ => rfl
abbrev s_law : Stmt := topS 101
abbrev N_law : List Str := ["script", "row", "world", "font", "lookup", "rules", "sides", "automaton", "words", "k", "name", "due", "word", "status", "glyph", "state", "bad"]
abbrev ps_law : List Str := ["script"]
theorem sc_law : FnScope N_law ps_law (defScope s_law) := ⟨rfl, rfl, rfl, by decide +kernel, rfl, by decide +kernel, by decide +kernel⟩
theorem bd_law (kV doc pm : Value) (an : Option Addr) (cdv ct : Value) (us : List Value) (h : us.length = ps_law.length) : bindArgs (PySem.W.fnOf "law" "law" (defArgs s_law) (defBody s_law) (defScope s_law) .none kV doc pm an cdv ct) ⟨us, []⟩ = pure (ps_law.zip us) := match us, h with | [_], _ => rfl
abbrev s_tuples_of : Stmt := topS 4
abbrev N_tuples_of : List Str := ["rows", "row"]
abbrev ps_tuples_of : List Str := ["rows"]
theorem sc_tuples_of : FnScope N_tuples_of ps_tuples_of (defScope s_tuples_of) := ⟨rfl, rfl, rfl, by decide +kernel, rfl, by decide +kernel, by decide +kernel⟩
theorem bd_tuples_of (kV doc pm : Value) (an : Option Addr) (cdv ct : Value) (us : List Value) (h : us.length = ps_tuples_of.length) : bindArgs (PySem.W.fnOf "tuples_of" "tuples_of" (defArgs s_tuples_of) (defBody s_tuples_of) (defScope s_tuples_of) .none kV doc pm an cdv ct) ⟨us, []⟩ = pure (ps_tuples_of.zip us) := match us, h with | [_], _ => rfl
abbrev s_Glyph : Stmt := inClass (topS 74) 0
abbrev N_Glyph : List Str := ["self", "advance", "outline", "parts", "anchors", "mark", "deltas", "hint", "contour"]
abbrev ps_Glyph : List Str := ["self", "advance", "outline", "parts", "anchors", "mark", "deltas", "hint"]
theorem sc_Glyph : FnScope N_Glyph ps_Glyph (defScope s_Glyph) := ⟨rfl, rfl, rfl, by decide +kernel, rfl, by decide +kernel, by decide +kernel⟩
abbrev s_Rule : Stmt := inClass (topS 75) 0
abbrev N_Rule : List Str := ["self", "inside", "back", "ahead", "out", "calls", "extra", "chosen"]
abbrev ps_Rule : List Str := ["self", "inside", "back", "ahead", "out", "calls", "extra"]
theorem sc_Rule : FnScope N_Rule ps_Rule (defScope s_Rule) := ⟨rfl, rfl, rfl, by decide +kernel, rfl, by decide +kernel, by decide +kernel⟩
abbrev s_copied_rule : Stmt := topS 79
abbrev N_copied_rule : List Str := ["rule"]
abbrev ps_copied_rule : List Str := ["rule"]
theorem sc_copied_rule : FnScope N_copied_rule ps_copied_rule (defScope s_copied_rule) := ⟨rfl, rfl, rfl, by decide +kernel, rfl, by decide +kernel, by decide +kernel⟩
theorem bd_copied_rule (kV doc pm : Value) (an : Option Addr) (cdv ct : Value) (us : List Value) (h : us.length = ps_copied_rule.length) : bindArgs (PySem.W.fnOf "copied_rule" "copied_rule" (defArgs s_copied_rule) (defBody s_copied_rule) (defScope s_copied_rule) .none kV doc pm an cdv ct) ⟨us, []⟩ = pure (ps_copied_rule.zip us) := match us, h with | [_], _ => rfl
abbrev s_Lookup : Stmt := inClass (topS 76) 0
abbrev N_Lookup : List Str := ["self", "kind", "rules", "ignore", "rule"]
abbrev ps_Lookup : List Str := ["self", "kind", "rules", "ignore"]
theorem sc_Lookup : FnScope N_Lookup ps_Lookup (defScope s_Lookup) := ⟨rfl, rfl, rfl, by decide +kernel, rfl, by decide +kernel, by decide +kernel⟩
abbrev s_copied_glyph : Stmt := topS 78
abbrev N_copied_glyph : List Str := ["glyph"]
abbrev ps_copied_glyph : List Str := ["glyph"]
theorem sc_copied_glyph : FnScope N_copied_glyph ps_copied_glyph (defScope s_copied_glyph) := ⟨rfl, rfl, rfl, by decide +kernel, rfl, by decide +kernel, by decide +kernel⟩
theorem bd_copied_glyph (kV doc pm : Value) (an : Option Addr) (cdv ct : Value) (us : List Value) (h : us.length = ps_copied_glyph.length) : bindArgs (PySem.W.fnOf "copied_glyph" "copied_glyph" (defArgs s_copied_glyph) (defBody s_copied_glyph) (defScope s_copied_glyph) .none kV doc pm an cdv ct) ⟨us, []⟩ = pure (ps_copied_glyph.zip us) := match us, h with | [_], _ => rfl
abbrev s_copied_lookup : Stmt := topS 80
abbrev N_copied_lookup : List Str := ["lookup"]
abbrev ps_copied_lookup : List Str := ["lookup"]
theorem sc_copied_lookup : FnScope N_copied_lookup ps_copied_lookup (defScope s_copied_lookup) := ⟨rfl, rfl, rfl, by decide +kernel, rfl, by decide +kernel, by decide +kernel⟩
theorem bd_copied_lookup (kV doc pm : Value) (an : Option Addr) (cdv ct : Value) (us : List Value) (h : us.length = ps_copied_lookup.length) : bindArgs (PySem.W.fnOf "copied_lookup" "copied_lookup" (defArgs s_copied_lookup) (defBody s_copied_lookup) (defScope s_copied_lookup) .none kV doc pm an cdv ct) ⟨us, []⟩ = pure (ps_copied_lookup.zip us) := match us, h with | [_], _ => rfl
abbrev s_law_font : Stmt := topS 91
abbrev N_law_font : List Str := ["count", "marks", "advances", "lookups", "made", "kind", "rules", "ignore", "rows", "glyphs", "k", "one"]
abbrev ps_law_font : List Str := ["count", "marks", "advances", "lookups"]
theorem sc_law_font : FnScope N_law_font ps_law_font (defScope s_law_font) := ⟨rfl, rfl, rfl, by decide +kernel, rfl, by decide +kernel, by decide +kernel⟩
theorem bd_law_font (kV doc pm : Value) (an : Option Addr) (cdv ct : Value) (us : List Value) (h : us.length = ps_law_font.length) : bindArgs (PySem.W.fnOf "_law_font" "_law_font" (defArgs s_law_font) (defBody s_law_font) (defScope s_law_font) .none kV doc pm an cdv ct) ⟨us, []⟩ = pure (ps_law_font.zip us) := match us, h with | [_, _, _, _], _ => rfl
abbrev s_is_set : Stmt := topS 42
abbrev N_is_set : List Str := ["font", "chosen"]
abbrev ps_is_set : List Str := ["font", "chosen"]
theorem sc_is_set : FnScope N_is_set ps_is_set (defScope s_is_set) := ⟨rfl, rfl, rfl, by decide +kernel, rfl, by decide +kernel, by decide +kernel⟩
theorem bd_is_set (kV doc pm : Value) (an : Option Addr) (cdv ct : Value) (us : List Value) (h : us.length = ps_is_set.length) : bindArgs (PySem.W.fnOf "is_set" "is_set" (defArgs s_is_set) (defBody s_is_set) (defScope s_is_set) .none kV doc pm an cdv ct) ⟨us, []⟩ = pure (ps_is_set.zip us) := match us, h with | [_, _], _ => rfl
abbrev s_sets_reason : Stmt := topS 41
abbrev N_sets_reason : List Str := ["font", "kind", "rule", "least", "most", "chosen"]
abbrev ps_sets_reason : List Str := ["font", "kind", "rule"]
theorem sc_sets_reason : FnScope N_sets_reason ps_sets_reason (defScope s_sets_reason) := ⟨rfl, rfl, rfl, by decide +kernel, rfl, by decide +kernel, by decide +kernel⟩
theorem bd_sets_reason (kV doc pm : Value) (an : Option Addr) (cdv ct : Value) (us : List Value) (h : us.length = ps_sets_reason.length) : bindArgs (PySem.W.fnOf "sets_reason" "sets_reason" (defArgs s_sets_reason) (defBody s_sets_reason) (defScope s_sets_reason) .none kV doc pm an cdv ct) ⟨us, []⟩ = pure (ps_sets_reason.zip us) := match us, h with | [_, _, _], _ => rfl
abbrev s_out_reason : Stmt := topS 43
abbrev N_out_reason : List Str := ["font", "kind", "rule", "many", "glyph"]
abbrev ps_out_reason : List Str := ["font", "kind", "rule"]
theorem sc_out_reason : FnScope N_out_reason ps_out_reason (defScope s_out_reason) := ⟨rfl, rfl, rfl, by decide +kernel, rfl, by decide +kernel, by decide +kernel⟩
theorem bd_out_reason (kV doc pm : Value) (an : Option Addr) (cdv ct : Value) (us : List Value) (h : us.length = ps_out_reason.length) : bindArgs (PySem.W.fnOf "out_reason" "out_reason" (defArgs s_out_reason) (defBody s_out_reason) (defScope s_out_reason) .none kV doc pm an cdv ct) ⟨us, []⟩ = pure (ps_out_reason.zip us) := match us, h with | [_, _, _], _ => rfl
abbrev s_calls_reason : Stmt := topS 44
abbrev N_calls_reason : List Str := ["font", "kind", "rule", "last", "index", "lookup"]
abbrev ps_calls_reason : List Str := ["font", "kind", "rule"]
theorem sc_calls_reason : FnScope N_calls_reason ps_calls_reason (defScope s_calls_reason) := ⟨rfl, rfl, rfl, by decide +kernel, rfl, by decide +kernel, by decide +kernel⟩
theorem bd_calls_reason (kV doc pm : Value) (an : Option Addr) (cdv ct : Value) (us : List Value) (h : us.length = ps_calls_reason.length) : bindArgs (PySem.W.fnOf "calls_reason" "calls_reason" (defArgs s_calls_reason) (defBody s_calls_reason) (defScope s_calls_reason) .none kV doc pm an cdv ct) ⟨us, []⟩ = pure (ps_calls_reason.zip us) := match us, h with | [_, _, _], _ => rfl
abbrev s_extra_reason : Stmt := topS 45
abbrev N_extra_reason : List Str := ["kind", "rule"]
abbrev ps_extra_reason : List Str := ["kind", "rule"]
theorem sc_extra_reason : FnScope N_extra_reason ps_extra_reason (defScope s_extra_reason) := ⟨rfl, rfl, rfl, by decide +kernel, rfl, by decide +kernel, by decide +kernel⟩
theorem bd_extra_reason (kV doc pm : Value) (an : Option Addr) (cdv ct : Value) (us : List Value) (h : us.length = ps_extra_reason.length) : bindArgs (PySem.W.fnOf "extra_reason" "extra_reason" (defArgs s_extra_reason) (defBody s_extra_reason) (defScope s_extra_reason) .none kV doc pm an cdv ct) ⟨us, []⟩ = pure (ps_extra_reason.zip us) := match us, h with | [_, _], _ => rfl
abbrev s_lookup_reason : Stmt := topS 40
abbrev N_lookup_reason : List Str := ["font", "lookup", "rule", "reason"]
abbrev ps_lookup_reason : List Str := ["font", "lookup"]
theorem sc_lookup_reason : FnScope N_lookup_reason ps_lookup_reason (defScope s_lookup_reason) := ⟨rfl, rfl, rfl, by decide +kernel, rfl, by decide +kernel, by decide +kernel⟩
theorem bd_lookup_reason (kV doc pm : Value) (an : Option Addr) (cdv ct : Value) (us : List Value) (h : us.length = ps_lookup_reason.length) : bindArgs (PySem.W.fnOf "lookup_reason" "lookup_reason" (defArgs s_lookup_reason) (defBody s_lookup_reason) (defScope s_lookup_reason) .none kV doc pm an cdv ct) ⟨us, []⟩ = pure (ps_lookup_reason.zip us) := match us, h with | [_, _], _ => rfl
abbrev s_first_lookup_fault : Stmt := topS 57
abbrev N_first_lookup_fault : List Str := ["font", "number", "lookup", "reason"]
abbrev ps_first_lookup_fault : List Str := ["font"]
theorem sc_first_lookup_fault : FnScope N_first_lookup_fault ps_first_lookup_fault (defScope s_first_lookup_fault) := ⟨rfl, rfl, rfl, by decide +kernel, rfl, by decide +kernel, by decide +kernel⟩
theorem bd_first_lookup_fault (kV doc pm : Value) (an : Option Addr) (cdv ct : Value) (us : List Value) (h : us.length = ps_first_lookup_fault.length) : bindArgs (PySem.W.fnOf "first_lookup_fault" "first_lookup_fault" (defArgs s_first_lookup_fault) (defBody s_first_lookup_fault) (defScope s_first_lookup_fault) .none kV doc pm an cdv ct) ⟨us, []⟩ = pure (ps_first_lookup_fault.zip us) := match us, h with | [_], _ => rfl
abbrev s_many_reason : Stmt := topS 59
abbrev N_many_reason : List Str := ["rows", "least", "most"]
abbrev ps_many_reason : List Str := ["rows", "least", "most"]
theorem sc_many_reason : FnScope N_many_reason ps_many_reason (defScope s_many_reason) := ⟨rfl, rfl, rfl, by decide +kernel, rfl, by decide +kernel, by decide +kernel⟩
theorem bd_many_reason (kV doc pm : Value) (an : Option Addr) (cdv ct : Value) (us : List Value) (h : us.length = ps_many_reason.length) : bindArgs (PySem.W.fnOf "many_reason" "many_reason" (defArgs s_many_reason) (defBody s_many_reason) (defScope s_many_reason) .none kV doc pm an cdv ct) ⟨us, []⟩ = pure (ps_many_reason.zip us) := match us, h with | [_, _, _], _ => rfl
abbrev s_unit_reason : Stmt := topS 60
abbrev N_unit_reason : List Str := ["font"]
abbrev ps_unit_reason : List Str := ["font"]
theorem sc_unit_reason : FnScope N_unit_reason ps_unit_reason (defScope s_unit_reason) := ⟨rfl, rfl, rfl, by decide +kernel, rfl, by decide +kernel, by decide +kernel⟩
theorem bd_unit_reason (kV doc pm : Value) (an : Option Addr) (cdv ct : Value) (us : List Value) (h : us.length = ps_unit_reason.length) : bindArgs (PySem.W.fnOf "unit_reason" "unit_reason" (defArgs s_unit_reason) (defBody s_unit_reason) (defScope s_unit_reason) .none kV doc pm an cdv ct) ⟨us, []⟩ = pure (ps_unit_reason.zip us) := match us, h with | [_], _ => rfl
abbrev s_placed : Stmt := topS 55
abbrev N_placed : List Str := ["place", "reason"]
abbrev ps_placed : List Str := ["place", "reason"]
theorem sc_placed : FnScope N_placed ps_placed (defScope s_placed) := ⟨rfl, rfl, rfl, by decide +kernel, rfl, by decide +kernel, by decide +kernel⟩
theorem bd_placed (kV doc pm : Value) (an : Option Addr) (cdv ct : Value) (us : List Value) (h : us.length = ps_placed.length) : bindArgs (PySem.W.fnOf "placed" "placed" (defArgs s_placed) (defBody s_placed) (defScope s_placed) .none kV doc pm an cdv ct) ⟨us, []⟩ = pure (ps_placed.zip us) := match us, h with | [_, _], _ => rfl
abbrev s_chars_reason : Stmt := topS 66
abbrev N_chars_reason : List Str := ["font", "last", "code", "glyph"]
abbrev ps_chars_reason : List Str := ["font"]
theorem sc_chars_reason : FnScope N_chars_reason ps_chars_reason (defScope s_chars_reason) := ⟨rfl, rfl, rfl, by decide +kernel, rfl, by decide +kernel, by decide +kernel⟩
theorem bd_chars_reason (kV doc pm : Value) (an : Option Addr) (cdv ct : Value) (us : List Value) (h : us.length = ps_chars_reason.length) : bindArgs (PySem.W.fnOf "chars_reason" "chars_reason" (defArgs s_chars_reason) (defBody s_chars_reason) (defScope s_chars_reason) .none kV doc pm an cdv ct) ⟨us, []⟩ = pure (ps_chars_reason.zip us) := match us, h with | [_], _ => rfl
abbrev s_axes_reason : Stmt := topS 68
abbrev N_axes_reason : List Str := ["font", "least", "normal", "greatest"]
abbrev ps_axes_reason : List Str := ["font"]
theorem sc_axes_reason : FnScope N_axes_reason ps_axes_reason (defScope s_axes_reason) := ⟨rfl, rfl, rfl, by decide +kernel, rfl, by decide +kernel, by decide +kernel⟩
theorem bd_axes_reason (kV doc pm : Value) (an : Option Addr) (cdv ct : Value) (us : List Value) (h : us.length = ps_axes_reason.length) : bindArgs (PySem.W.fnOf "axes_reason" "axes_reason" (defArgs s_axes_reason) (defBody s_axes_reason) (defScope s_axes_reason) .none kV doc pm an cdv ct) ⟨us, []⟩ = pure (ps_axes_reason.zip us) := match us, h with | [_], _ => rfl
abbrev s_regions_reason : Stmt := topS 69
abbrev N_regions_reason : List Str := ["font", "region", "tent"]
abbrev ps_regions_reason : List Str := ["font"]
theorem sc_regions_reason : FnScope N_regions_reason ps_regions_reason (defScope s_regions_reason) := ⟨rfl, rfl, rfl, by decide +kernel, rfl, by decide +kernel, by decide +kernel⟩
theorem bd_regions_reason (kV doc pm : Value) (an : Option Addr) (cdv ct : Value) (us : List Value) (h : us.length = ps_regions_reason.length) : bindArgs (PySem.W.fnOf "regions_reason" "regions_reason" (defArgs s_regions_reason) (defBody s_regions_reason) (defScope s_regions_reason) .none kV doc pm an cdv ct) ⟨us, []⟩ = pure (ps_regions_reason.zip us) := match us, h with | [_], _ => rfl
abbrev s_functions_reason : Stmt := topS 71
abbrev N_functions_reason : List Str := ["font", "function", "step"]
abbrev ps_functions_reason : List Str := ["font"]
theorem sc_functions_reason : FnScope N_functions_reason ps_functions_reason (defScope s_functions_reason) := ⟨rfl, rfl, rfl, by decide +kernel, rfl, by decide +kernel, by decide +kernel⟩
theorem bd_functions_reason (kV doc pm : Value) (an : Option Addr) (cdv ct : Value) (us : List Value) (h : us.length = ps_functions_reason.length) : bindArgs (PySem.W.fnOf "functions_reason" "functions_reason" (defArgs s_functions_reason) (defBody s_functions_reason) (defScope s_functions_reason) .none kV doc pm an cdv ct) ⟨us, []⟩ = pure (ps_functions_reason.zip us) := match us, h with | [_], _ => rfl
abbrev s_presets_reason : Stmt := topS 72
abbrev N_presets_reason : List Str := ["font", "preset"]
abbrev ps_presets_reason : List Str := ["font"]
theorem sc_presets_reason : FnScope N_presets_reason ps_presets_reason (defScope s_presets_reason) := ⟨rfl, rfl, rfl, by decide +kernel, rfl, by decide +kernel, by decide +kernel⟩
theorem bd_presets_reason (kV doc pm : Value) (an : Option Addr) (cdv ct : Value) (us : List Value) (h : us.length = ps_presets_reason.length) : bindArgs (PySem.W.fnOf "presets_reason" "presets_reason" (defArgs s_presets_reason) (defBody s_presets_reason) (defScope s_presets_reason) .none kV doc pm an cdv ct) ⟨us, []⟩ = pure (ps_presets_reason.zip us) := match us, h with | [_], _ => rfl
abbrev s_features_reason : Stmt := topS 67
abbrev N_features_reason : List Str := ["font", "name", "names", "numbers", "_"]
abbrev ps_features_reason : List Str := ["font"]
theorem sc_features_reason : FnScope N_features_reason ps_features_reason (defScope s_features_reason) := ⟨rfl, rfl, rfl, by decide +kernel, rfl, by decide +kernel, by decide +kernel⟩
theorem bd_features_reason (kV doc pm : Value) (an : Option Addr) (cdv ct : Value) (us : List Value) (h : us.length = ps_features_reason.length) : bindArgs (PySem.W.fnOf "features_reason" "features_reason" (defArgs s_features_reason) (defBody s_features_reason) (defScope s_features_reason) .none kV doc pm an cdv ct) ⟨us, []⟩ = pure (ps_features_reason.zip us) := match us, h with | [_], _ => rfl
abbrev s_is_row_of_letters : Stmt := topS 25
abbrev N_is_row_of_letters : List Str := ["word", "most", "letter"]
abbrev ps_is_row_of_letters : List Str := ["word", "most"]
theorem sc_is_row_of_letters : FnScope N_is_row_of_letters ps_is_row_of_letters (defScope s_is_row_of_letters) := ⟨rfl, rfl, rfl, by decide +kernel, rfl, by decide +kernel, by decide +kernel⟩
theorem bd_is_row_of_letters (kV doc pm : Value) (an : Option Addr) (cdv ct : Value) (us : List Value) (h : us.length = ps_is_row_of_letters.length) : bindArgs (PySem.W.fnOf "is_row_of_letters" "is_row_of_letters" (defArgs s_is_row_of_letters) (defBody s_is_row_of_letters) (defScope s_is_row_of_letters) .none kV doc pm an cdv ct) ⟨us, []⟩ = pure (ps_is_row_of_letters.zip us) := match us, h with | [_, _], _ => rfl
abbrev s_is_rising : Stmt := topS 5
abbrev N_is_rising : List Str := ["numbers", "many", "last", "number"]
abbrev ps_is_rising : List Str := ["numbers", "many"]
theorem sc_is_rising : FnScope N_is_rising ps_is_rising (defScope s_is_rising) := ⟨rfl, rfl, rfl, by decide +kernel, rfl, by decide +kernel, by decide +kernel⟩
theorem bd_is_rising (kV doc pm : Value) (an : Option Addr) (cdv ct : Value) (us : List Value) (h : us.length = ps_is_rising.length) : bindArgs (PySem.W.fnOf "is_rising" "is_rising" (defArgs s_is_rising) (defBody s_is_rising) (defScope s_is_rising) .none kV doc pm an cdv ct) ⟨us, []⟩ = pure (ps_is_rising.zip us) := match us, h with | [_, _], _ => rfl
abbrev s_parts_reason : Stmt := topS 65
abbrev N_parts_reason : List Str := ["font"]
abbrev ps_parts_reason : List Str := ["font"]
theorem sc_parts_reason : FnScope N_parts_reason ps_parts_reason (defScope s_parts_reason) := ⟨rfl, rfl, rfl, by decide +kernel, rfl, by decide +kernel, by decide +kernel⟩
theorem bd_parts_reason (kV doc pm : Value) (an : Option Addr) (cdv ct : Value) (us : List Value) (h : us.length = ps_parts_reason.length) : bindArgs (PySem.W.fnOf "parts_reason" "parts_reason" (defArgs s_parts_reason) (defBody s_parts_reason) (defScope s_parts_reason) .none kV doc pm an cdv ct) ⟨us, []⟩ = pure (ps_parts_reason.zip us) := match us, h with | [_], _ => rfl
abbrev s_depths_of : Stmt := topS 21
abbrev N_depths_of : List Str := ["glyphs", "depths", "level", "k", "found"]
abbrev ps_depths_of : List Str := ["glyphs"]
theorem sc_depths_of : FnScope N_depths_of ps_depths_of (defScope s_depths_of) := ⟨rfl, rfl, rfl, by decide +kernel, rfl, by decide +kernel, by decide +kernel⟩
theorem bd_depths_of (kV doc pm : Value) (an : Option Addr) (cdv ct : Value) (us : List Value) (h : us.length = ps_depths_of.length) : bindArgs (PySem.W.fnOf "depths_of" "depths_of" (defArgs s_depths_of) (defBody s_depths_of) (defScope s_depths_of) .none kV doc pm an cdv ct) ⟨us, []⟩ = pure (ps_depths_of.zip us) := match us, h with | [_], _ => rfl
abbrev s_has_parts_in : Stmt := topS 22
abbrev N_has_parts_in : List Str := ["glyph", "depths", "part"]
abbrev ps_has_parts_in : List Str := ["glyph", "depths"]
theorem sc_has_parts_in : FnScope N_has_parts_in ps_has_parts_in (defScope s_has_parts_in) := ⟨rfl, rfl, rfl, by decide +kernel, rfl, by decide +kernel, by decide +kernel⟩
theorem bd_has_parts_in (kV doc pm : Value) (an : Option Addr) (cdv ct : Value) (us : List Value) (h : us.length = ps_has_parts_in.length) : bindArgs (PySem.W.fnOf "has_parts_in" "has_parts_in" (defArgs s_has_parts_in) (defBody s_has_parts_in) (defScope s_has_parts_in) .none kV doc pm an cdv ct) ⟨us, []⟩ = pure (ps_has_parts_in.zip us) := match us, h with | [_, _], _ => rfl
abbrev s_is_part : Stmt := topS 62
abbrev N_is_part : List Str := ["font", "part", "number", "x", "y"]
abbrev ps_is_part : List Str := ["font", "part"]
theorem sc_is_part : FnScope N_is_part ps_is_part (defScope s_is_part) := ⟨rfl, rfl, rfl, by decide +kernel, rfl, by decide +kernel, by decide +kernel⟩
theorem bd_is_part (kV doc pm : Value) (an : Option Addr) (cdv ct : Value) (us : List Value) (h : us.length = ps_is_part.length) : bindArgs (PySem.W.fnOf "is_part" "is_part" (defArgs s_is_part) (defBody s_is_part) (defScope s_is_part) .none kV doc pm an cdv ct) ⟨us, []⟩ = pure (ps_is_part.zip us) := match us, h with | [_, _], _ => rfl
abbrev s_is_anchor : Stmt := topS 63
abbrev N_is_anchor : List Str := ["anchor", "kind", "group", "x", "y"]
abbrev ps_is_anchor : List Str := ["anchor"]
theorem sc_is_anchor : FnScope N_is_anchor ps_is_anchor (defScope s_is_anchor) := ⟨rfl, rfl, rfl, by decide +kernel, rfl, by decide +kernel, by decide +kernel⟩
theorem bd_is_anchor (kV doc pm : Value) (an : Option Addr) (cdv ct : Value) (us : List Value) (h : us.length = ps_is_anchor.length) : bindArgs (PySem.W.fnOf "is_anchor" "is_anchor" (defArgs s_is_anchor) (defBody s_is_anchor) (defScope s_is_anchor) .none kV doc pm an cdv ct) ⟨us, []⟩ = pure (ps_is_anchor.zip us) := match us, h with | [_], _ => rfl
abbrev s_is_delta : Stmt := topS 64
abbrev N_is_delta : List Str := ["font", "glyph", "delta", "region", "point", "x", "y"]
abbrev ps_is_delta : List Str := ["font", "glyph", "delta"]
theorem sc_is_delta : FnScope N_is_delta ps_is_delta (defScope s_is_delta) := ⟨rfl, rfl, rfl, by decide +kernel, rfl, by decide +kernel, by decide +kernel⟩
theorem bd_is_delta (kV doc pm : Value) (an : Option Addr) (cdv ct : Value) (us : List Value) (h : us.length = ps_is_delta.length) : bindArgs (PySem.W.fnOf "is_delta" "is_delta" (defArgs s_is_delta) (defBody s_is_delta) (defScope s_is_delta) .none kV doc pm an cdv ct) ⟨us, []⟩ = pure (ps_is_delta.zip us) := match us, h with | [_, _, _], _ => rfl
abbrev s_is_instruction : Stmt := topS 50
abbrev N_is_instruction : List Str := ["step"]
abbrev ps_is_instruction : List Str := ["step"]
theorem sc_is_instruction : FnScope N_is_instruction ps_is_instruction (defScope s_is_instruction) := ⟨rfl, rfl, rfl, by decide +kernel, rfl, by decide +kernel, by decide +kernel⟩
theorem bd_is_instruction (kV doc pm : Value) (an : Option Addr) (cdv ct : Value) (us : List Value) (h : us.length = ps_is_instruction.length) : bindArgs (PySem.W.fnOf "is_instruction" "is_instruction" (defArgs s_is_instruction) (defBody s_is_instruction) (defScope s_is_instruction) .none kV doc pm an cdv ct) ⟨us, []⟩ = pure (ps_is_instruction.zip us) := match us, h with | [_], _ => rfl
abbrev s_count_points : Stmt := topS 32
abbrev N_count_points : List Str := ["outline", "contour"]
abbrev ps_count_points : List Str := ["outline"]
theorem sc_count_points : FnScope N_count_points ps_count_points (defScope s_count_points) := ⟨rfl, rfl, rfl, by decide +kernel, rfl, by decide +kernel, by decide +kernel⟩
theorem bd_count_points (kV doc pm : Value) (an : Option Addr) (cdv ct : Value) (us : List Value) (h : us.length = ps_count_points.length) : bindArgs (PySem.W.fnOf "count_points" "count_points" (defArgs s_count_points) (defBody s_count_points) (defScope s_count_points) .none kV doc pm an cdv ct) ⟨us, []⟩ = pure (ps_count_points.zip us) := match us, h with | [_], _ => rfl
abbrev s_is_proper : Stmt := topS 31
abbrev N_is_proper : List Str := ["outline", "contour", "x", "y", "_"]
abbrev ps_is_proper : List Str := ["outline"]
theorem sc_is_proper : FnScope N_is_proper ps_is_proper (defScope s_is_proper) := ⟨rfl, rfl, rfl, by decide +kernel, rfl, by decide +kernel, by decide +kernel⟩
theorem bd_is_proper (kV doc pm : Value) (an : Option Addr) (cdv ct : Value) (us : List Value) (h : us.length = ps_is_proper.length) : bindArgs (PySem.W.fnOf "is_proper" "is_proper" (defArgs s_is_proper) (defBody s_is_proper) (defScope s_is_proper) .none kV doc pm an cdv ct) ⟨us, []⟩ = pure (ps_is_proper.zip us) := match us, h with | [_], _ => rfl
abbrev s_glyph_reason : Stmt := topS 61
abbrev N_glyph_reason : List Str := ["font", "glyph", "part", "anchor", "delta", "step"]
abbrev ps_glyph_reason : List Str := ["font", "glyph"]
theorem sc_glyph_reason : FnScope N_glyph_reason ps_glyph_reason (defScope s_glyph_reason) := ⟨rfl, rfl, rfl, by decide +kernel, rfl, by decide +kernel, by decide +kernel⟩
theorem bd_glyph_reason (kV doc pm : Value) (an : Option Addr) (cdv ct : Value) (us : List Value) (h : us.length = ps_glyph_reason.length) : bindArgs (PySem.W.fnOf "glyph_reason" "glyph_reason" (defArgs s_glyph_reason) (defBody s_glyph_reason) (defScope s_glyph_reason) .none kV doc pm an cdv ct) ⟨us, []⟩ = pure (ps_glyph_reason.zip us) := match us, h with | [_, _], _ => rfl
abbrev s_first_glyph_fault : Stmt := topS 56
abbrev N_first_glyph_fault : List Str := ["font", "number", "glyph", "reason"]
abbrev ps_first_glyph_fault : List Str := ["font"]
theorem sc_first_glyph_fault : FnScope N_first_glyph_fault ps_first_glyph_fault (defScope s_first_glyph_fault) := ⟨rfl, rfl, rfl, by decide +kernel, rfl, by decide +kernel, by decide +kernel⟩
theorem bd_first_glyph_fault (kV doc pm : Value) (an : Option Addr) (cdv ct : Value) (us : List Value) (h : us.length = ps_first_glyph_fault.length) : bindArgs (PySem.W.fnOf "first_glyph_fault" "first_glyph_fault" (defArgs s_first_glyph_fault) (defBody s_first_glyph_fault) (defScope s_first_glyph_fault) .none kV doc pm an cdv ct) ⟨us, []⟩ = pure (ps_first_glyph_fault.zip us) := match us, h with | [_], _ => rfl
abbrev s_first_fault : Stmt := topS 54
abbrev N_first_fault : List Str := ["font"]
abbrev ps_first_fault : List Str := ["font"]
theorem sc_first_fault : FnScope N_first_fault ps_first_fault (defScope s_first_fault) := ⟨rfl, rfl, rfl, by decide +kernel, rfl, by decide +kernel, by decide +kernel⟩
theorem bd_first_fault (kV doc pm : Value) (an : Option Addr) (cdv ct : Value) (us : List Value) (h : us.length = ps_first_fault.length) : bindArgs (PySem.W.fnOf "first_fault" "first_fault" (defArgs s_first_fault) (defBody s_first_fault) (defScope s_first_fault) .none kV doc pm an cdv ct) ⟨us, []⟩ = pure (ps_first_fault.zip us) := match us, h with | [_], _ => rfl
abbrev s_Font : Stmt := inClass (topS 77) 0
abbrev N_Font : List Str := ["self", "unit", "glyphs", "chars", "lookups", "features", "axes", "regions", "functions", "presets", "fault", "glyph", "lookup", "name", "numbers", "region", "function"]
abbrev ps_Font : List Str := ["self", "unit", "glyphs", "chars", "lookups", "features", "axes", "regions", "functions", "presets"]
theorem sc_Font : FnScope N_Font ps_Font (defScope s_Font) := ⟨rfl, rfl, rfl, by decide +kernel, rfl, by decide +kernel, by decide +kernel⟩
abbrev s_is_tent : Stmt := topS 70
abbrev N_is_tent : List Str := ["tent", "start", "peak", "end"]
abbrev ps_is_tent : List Str := ["tent"]
theorem sc_is_tent : FnScope N_is_tent ps_is_tent (defScope s_is_tent) := ⟨rfl, rfl, rfl, by decide +kernel, rfl, by decide +kernel, by decide +kernel⟩
theorem bd_is_tent (kV doc pm : Value) (an : Option Addr) (cdv ct : Value) (us : List Value) (h : us.length = ps_is_tent.length) : bindArgs (PySem.W.fnOf "is_tent" "is_tent" (defArgs s_is_tent) (defBody s_is_tent) (defScope s_is_tent) .none kV doc pm an cdv ct) ⟨us, []⟩ = pure (ps_is_tent.zip us) := match us, h with | [_], _ => rfl
abbrev s_copied_side : Stmt := topS 8
abbrev N_copied_side : List Str := ["side", "rows", "met", "row", "rules"]
abbrev ps_copied_side : List Str := ["side"]
theorem sc_copied_side : FnScope N_copied_side ps_copied_side (defScope s_copied_side) := ⟨rfl, rfl, rfl, by decide +kernel, rfl, by decide +kernel, by decide +kernel⟩
theorem bd_copied_side (kV doc pm : Value) (an : Option Addr) (cdv ct : Value) (us : List Value) (h : us.length = ps_copied_side.length) : bindArgs (PySem.W.fnOf "copied_side" "copied_side" (defArgs s_copied_side) (defBody s_copied_side) (defScope s_copied_side) .none kV doc pm an cdv ct) ⟨us, []⟩ = pure (ps_copied_side.zip us) := match us, h with | [_], _ => rfl
abbrev s_Automaton : Stmt := inClass (topS 7) 0
abbrev N_Automaton : List Str := ["self", "fore", "back"]
abbrev ps_Automaton : List Str := ["self", "fore", "back"]
theorem sc_Automaton : FnScope N_Automaton ps_Automaton (defScope s_Automaton) := ⟨rfl, rfl, rfl, by decide +kernel, rfl, by decide +kernel, by decide +kernel⟩
abbrev s_side_of : Stmt := topS 9
abbrev N_side_of : List Str := ["automaton", "side"]
abbrev ps_side_of : List Str := ["automaton", "side"]
theorem sc_side_of : FnScope N_side_of ps_side_of (defScope s_side_of) := ⟨rfl, rfl, rfl, by decide +kernel, rfl, by decide +kernel, by decide +kernel⟩
theorem bd_side_of (kV doc pm : Value) (an : Option Addr) (cdv ct : Value) (us : List Value) (h : us.length = ps_side_of.length) : bindArgs (PySem.W.fnOf "side_of" "side_of" (defArgs s_side_of) (defBody s_side_of) (defScope s_side_of) .none kV doc pm an cdv ct) ⟨us, []⟩ = pure (ps_side_of.zip us) := match us, h with | [_, _], _ => rfl
abbrev s_patterns : Stmt := topS 10
abbrev N_patterns : List Str := ["font", "lookup", "side", "rule"]
abbrev ps_patterns : List Str := ["font", "lookup", "side"]
theorem sc_patterns : FnScope N_patterns ps_patterns (defScope s_patterns) := ⟨rfl, rfl, rfl, by decide +kernel, rfl, by decide +kernel, by decide +kernel⟩
theorem bd_patterns (kV doc pm : Value) (an : Option Addr) (cdv ct : Value) (us : List Value) (h : us.length = ps_patterns.length) : bindArgs (PySem.W.fnOf "patterns" "patterns" (defArgs s_patterns) (defBody s_patterns) (defScope s_patterns) .none kV doc pm an cdv ct) ⟨us, []⟩ = pure (ps_patterns.zip us) := match us, h with | [_, _, _], _ => rfl
abbrev s_pattern_of : Stmt := topS 11
abbrev N_pattern_of : List Str := ["rule", "side", "sets", "chosen"]
abbrev ps_pattern_of : List Str := ["rule", "side"]
theorem sc_pattern_of : FnScope N_pattern_of ps_pattern_of (defScope s_pattern_of) := ⟨rfl, rfl, rfl, by decide +kernel, rfl, by decide +kernel, by decide +kernel⟩
theorem bd_pattern_of (kV doc pm : Value) (an : Option Addr) (cdv ct : Value) (us : List Value) (h : us.length = ps_pattern_of.length) : bindArgs (PySem.W.fnOf "pattern_of" "pattern_of" (defArgs s_pattern_of) (defBody s_pattern_of) (defScope s_pattern_of) .none kV doc pm an cdv ct) ⟨us, []⟩ = pure (ps_pattern_of.zip us) := match us, h with | [_, _], _ => rfl
abbrev s_status_after : Stmt := topS 12
abbrev N_status_after : List Str := ["patterns_now", "row", "status", "glyph", "_"]
abbrev ps_status_after : List Str := ["patterns_now", "row"]
theorem sc_status_after : FnScope N_status_after ps_status_after (defScope s_status_after) := ⟨rfl, rfl, rfl, by decide +kernel, rfl, by decide +kernel, by decide +kernel⟩
theorem bd_status_after (kV doc pm : Value) (an : Option Addr) (cdv ct : Value) (us : List Value) (h : us.length = ps_status_after.length) : bindArgs (PySem.W.fnOf "status_after" "status_after" (defArgs s_status_after) (defBody s_status_after) (defScope s_status_after) .none kV doc pm an cdv ct) ⟨us, []⟩ = pure (ps_status_after.zip us) := match us, h with | [_, _], _ => rfl
abbrev s_next_status : Stmt := topS 13
abbrev N_next_status : List Str := ["patterns_now", "status", "glyph", "pattern", "number"]
abbrev ps_next_status : List Str := ["patterns_now", "status", "glyph"]
theorem sc_next_status : FnScope N_next_status ps_next_status (defScope s_next_status) := ⟨rfl, rfl, rfl, by decide +kernel, rfl, by decide +kernel, by decide +kernel⟩
theorem bd_next_status (kV doc pm : Value) (an : Option Addr) (cdv ct : Value) (us : List Value) (h : us.length = ps_next_status.length) : bindArgs (PySem.W.fnOf "next_status" "next_status" (defArgs s_next_status) (defBody s_next_status) (defScope s_next_status) .none kV doc pm an cdv ct) ⟨us, []⟩ = pure (ps_next_status.zip us) := match us, h with | [_, _, _], _ => rfl
abbrev s_next_number : Stmt := topS 14
abbrev N_next_number : List Str := ["pattern", "number", "glyph"]
abbrev ps_next_number : List Str := ["pattern", "number", "glyph"]
theorem sc_next_number : FnScope N_next_number ps_next_number (defScope s_next_number) := ⟨rfl, rfl, rfl, by decide +kernel, rfl, by decide +kernel, by decide +kernel⟩
theorem bd_next_number (kV doc pm : Value) (an : Option Addr) (cdv ct : Value) (us : List Value) (h : us.length = ps_next_number.length) : bindArgs (PySem.W.fnOf "next_number" "next_number" (defArgs s_next_number) (defBody s_next_number) (defScope s_next_number) .none kV doc pm an cdv ct) ⟨us, []⟩ = pure (ps_next_number.zip us) := match us, h with | [_, _, _], _ => rfl
abbrev s_fits : Stmt := topS 15
abbrev N_fits : List Str := ["font", "lookup", "automaton", "many", "side"]
abbrev ps_fits : List Str := ["font", "lookup", "automaton"]
theorem sc_fits : FnScope N_fits ps_fits (defScope s_fits) := ⟨rfl, rfl, rfl, by decide +kernel, rfl, by decide +kernel, by decide +kernel⟩
theorem bd_fits (kV doc pm : Value) (an : Option Addr) (cdv ct : Value) (us : List Value) (h : us.length = ps_fits.length) : bindArgs (PySem.W.fnOf "fits" "fits" (defArgs s_fits) (defBody s_fits) (defScope s_fits) .none kV doc pm an cdv ct) ⟨us, []⟩ = pure (ps_fits.zip us) := match us, h with | [_, _, _], _ => rfl
abbrev s_side_fits : Stmt := topS 16
abbrev N_side_fits : List Str := ["font", "side", "many_rules", "rows", "met", "row", "rules", "state"]
abbrev ps_side_fits : List Str := ["font", "side", "many_rules"]
theorem sc_side_fits : FnScope N_side_fits ps_side_fits (defScope s_side_fits) := ⟨rfl, rfl, rfl, by decide +kernel, rfl, by decide +kernel, by decide +kernel⟩
theorem bd_side_fits (kV doc pm : Value) (an : Option Addr) (cdv ct : Value) (us : List Value) (h : us.length = ps_side_fits.length) : bindArgs (PySem.W.fnOf "side_fits" "side_fits" (defArgs s_side_fits) (defBody s_side_fits) (defScope s_side_fits) .none kV doc pm an cdv ct) ⟨us, []⟩ = pure (ps_side_fits.zip us) := match us, h with | [_, _, _], _ => rfl
abbrev s_read : Stmt := topS 17
abbrev N_read : List Str := ["automaton", "side", "row", "rows", "state", "glyph"]
abbrev ps_read : List Str := ["automaton", "side", "row"]
theorem sc_read : FnScope N_read ps_read (defScope s_read) := ⟨rfl, rfl, rfl, by decide +kernel, rfl, by decide +kernel, by decide +kernel⟩
theorem bd_read (kV doc pm : Value) (an : Option Addr) (cdv ct : Value) (us : List Value) (h : us.length = ps_read.length) : bindArgs (PySem.W.fnOf "read" "read" (defArgs s_read) (defBody s_read) (defScope s_read) .none kV doc pm an cdv ct) ⟨us, []⟩ = pure (ps_read.zip us) := match us, h with | [_, _, _], _ => rfl
abbrev s_met_by : Stmt := topS 18
abbrev N_met_by : List Str := ["automaton", "side", "row", "met"]
abbrev ps_met_by : List Str := ["automaton", "side", "row"]
theorem sc_met_by : FnScope N_met_by ps_met_by (defScope s_met_by) := ⟨rfl, rfl, rfl, by decide +kernel, rfl, by decide +kernel, by decide +kernel⟩
theorem bd_met_by (kV doc pm : Value) (an : Option Addr) (cdv ct : Value) (us : List Value) (h : us.length = ps_met_by.length) : bindArgs (PySem.W.fnOf "met_by" "met_by" (defArgs s_met_by) (defBody s_met_by) (defScope s_met_by) .none kV doc pm an cdv ct) ⟨us, []⟩ = pure (ps_met_by.zip us) := match us, h with | [_, _, _], _ => rfl
abbrev s_law_patterns : Stmt := topS 94
abbrev N_law_patterns : List Str := ["world", "lookup", "side", "rules", "one"]
abbrev ps_law_patterns : List Str := ["world", "lookup", "side"]
theorem sc_law_patterns : FnScope N_law_patterns ps_law_patterns (defScope s_law_patterns) := ⟨rfl, rfl, rfl, by decide +kernel, rfl, by decide +kernel, by decide +kernel⟩
theorem bd_law_patterns (kV doc pm : Value) (an : Option Addr) (cdv ct : Value) (us : List Value) (h : us.length = ps_law_patterns.length) : bindArgs (PySem.W.fnOf "_law_patterns" "_law_patterns" (defArgs s_law_patterns) (defBody s_law_patterns) (defScope s_law_patterns) .none kV doc pm an cdv ct) ⟨us, []⟩ = pure (ps_law_patterns.zip us) := match us, h with | [_, _, _], _ => rfl
abbrev s_law_status : Stmt := topS 95
abbrev N_law_status : List Str := ["sets_of_rules", "glyphs", "found", "pattern", "fitting", "k"]
abbrev ps_law_status : List Str := ["sets_of_rules", "glyphs"]
theorem sc_law_status : FnScope N_law_status ps_law_status (defScope s_law_status) := ⟨rfl, rfl, rfl, by decide +kernel, rfl, by decide +kernel, by decide +kernel⟩
theorem bd_law_status (kV doc pm : Value) (an : Option Addr) (cdv ct : Value) (us : List Value) (h : us.length = ps_law_status.length) : bindArgs (PySem.W.fnOf "_law_status" "_law_status" (defArgs s_law_status) (defBody s_law_status) (defScope s_law_status) .none kV doc pm an cdv ct) ⟨us, []⟩ = pure (ps_law_status.zip us) := match us, h with | [_, _], _ => rfl
abbrev s_law_drawn_side : Stmt := topS 97
abbrev N_law_drawn_side : List Str := ["row", "count", "rules", "size", "rows", "met", "k", "j", "glyph"]
abbrev ps_law_drawn_side : List Str := ["row", "count", "rules"]
theorem sc_law_drawn_side : FnScope N_law_drawn_side ps_law_drawn_side (defScope s_law_drawn_side) := ⟨rfl, rfl, rfl, by decide +kernel, rfl, by decide +kernel, by decide +kernel⟩
theorem bd_law_drawn_side (kV doc pm : Value) (an : Option Addr) (cdv ct : Value) (us : List Value) (h : us.length = ps_law_drawn_side.length) : bindArgs (PySem.W.fnOf "_law_drawn_side" "_law_drawn_side" (defArgs s_law_drawn_side) (defBody s_law_drawn_side) (defScope s_law_drawn_side) .none kV doc pm an cdv ct) ⟨us, []⟩ = pure (ps_law_drawn_side.zip us) := match us, h with | [_, _, _], _ => rfl
abbrev s_law_words : Stmt := topS 98
abbrev N_law_words : List Str := ["row", "count", "words", "k", "j"]
abbrev ps_law_words : List Str := ["row", "count"]
theorem sc_law_words : FnScope N_law_words ps_law_words (defScope s_law_words) := ⟨rfl, rfl, rfl, by decide +kernel, rfl, by decide +kernel, by decide +kernel⟩
theorem bd_law_words (kV doc pm : Value) (an : Option Addr) (cdv ct : Value) (us : List Value) (h : us.length = ps_law_words.length) : bindArgs (PySem.W.fnOf "_law_words" "_law_words" (defArgs s_law_words) (defBody s_law_words) (defScope s_law_words) .none kV doc pm an cdv ct) ⟨us, []⟩ = pure (ps_law_words.zip us) := match us, h with | [_, _], _ => rfl
abbrev s_law_state : Stmt := topS 99
abbrev N_law_state : List Str := ["side", "glyphs", "state", "glyph"]
abbrev ps_law_state : List Str := ["side", "glyphs"]
theorem sc_law_state : FnScope N_law_state ps_law_state (defScope s_law_state) := ⟨rfl, rfl, rfl, by decide +kernel, rfl, by decide +kernel, by decide +kernel⟩
theorem bd_law_state (kV doc pm : Value) (an : Option Addr) (cdv ct : Value) (us : List Value) (h : us.length = ps_law_state.length) : bindArgs (PySem.W.fnOf "_law_state" "_law_state" (defArgs s_law_state) (defBody s_law_state) (defScope s_law_state) .none kV doc pm an cdv ct) ⟨us, []⟩ = pure (ps_law_state.zip us) := match us, h with | [_, _], _ => rfl
abbrev s_law_broken : Stmt := topS 100
abbrev N_law_broken : List Str := ["row", "side", "rows", "met", "k", "turn", "one"]
abbrev ps_law_broken : List Str := ["row", "side"]
theorem sc_law_broken : FnScope N_law_broken ps_law_broken (defScope s_law_broken) := ⟨rfl, rfl, rfl, by decide +kernel, rfl, by decide +kernel, by decide +kernel⟩
theorem bd_law_broken (kV doc pm : Value) (an : Option Addr) (cdv ct : Value) (us : List Value) (h : us.length = ps_law_broken.length) : bindArgs (PySem.W.fnOf "_law_broken" "_law_broken" (defArgs s_law_broken) (defBody s_law_broken) (defScope s_law_broken) .none kV doc pm an cdv ct) ⟨us, []⟩ = pure (ps_law_broken.zip us) := match us, h with | [_, _], _ => rfl
abbrev kw_Glyph (e_parts e_anchors e_deltas e_hint : Addr) : List (Str × V) := [("parts", .ref e_parts), ("anchors", .ref e_anchors), ("mark", .bl false), ("deltas", .ref e_deltas), ("hint", .ref e_hint)]
abbrev fl_Glyph : List Str := ["advance", "outline", "parts", "anchors", "mark", "deltas", "hint"]
abbrev kw_Rule (e_back e_ahead e_out e_calls : Addr) : List (Str × V) := [("back", .ref e_back), ("ahead", .ref e_ahead), ("out", .ref e_out), ("calls", .ref e_calls), ("extra", .int 0)]
abbrev fl_Rule : List Str := ["inside", "back", "ahead", "out", "calls", "extra"]
abbrev kw_Lookup  : List (Str × V) := [("ignore", .bl false)]
abbrev fl_Lookup : List Str := ["kind", "rules", "ignore"]
abbrev kw_Automaton  : List (Str × V) := []
abbrev fl_Automaton : List Str := ["fore", "back"]
abbrev kw_Font (e_chars e_lookups e_features e_axes e_regions e_functions e_presets : Addr) : List (Str × V) := [("chars", .ref e_chars), ("lookups", .ref e_lookups), ("features", .ref e_features), ("axes", .ref e_axes), ("regions", .ref e_regions), ("functions", .ref e_functions), ("presets", .ref e_presets)]
abbrev fl_Font : List Str := ["unit", "glyphs", "chars", "lookups", "features", "axes", "regions", "functions", "presets"]
structure Txt (K : PySem.W.Frag) (mg : Str → Option Value) : Prop where
  z_abs : mg "abs" = none
  z_all : mg "all" = none
  z_enumerate : mg "enumerate" = none
  z_int : mg "int" = none
  z_len : mg "len" = none
  z_list : mg "list" = none
  z_min : mg "min" = none
  z_range : mg "range" = none
  z_set : mg "set" = none
  z_sum : mg "sum" = none
  z_tuple : mg "tuple" = none
  z_zip : mg "zip" = none
  g_DEEPEST : ∃ u, mg "DEEPEST" = some u ∧ RelV (.int (4)) u
  g_FARTHEST : ∃ u, mg "FARTHEST" = some u ∧ RelV (.int (16384)) u
  g_LEAST_OF_CONTOUR : ∃ u, mg "LEAST_OF_CONTOUR" = some u ∧ RelV (.int (2)) u
  g_MOST_AROUND : ∃ u, mg "MOST_AROUND" = some u ∧ RelV (.int (3)) u
  g_MOST_CONTOURS : ∃ u, mg "MOST_CONTOURS" = some u ∧ RelV (.int (40)) u
  g_MOST_OUT : ∃ u, mg "MOST_OUT" = some u ∧ RelV (.int (8)) u
  g_MOST_POINTS : ∃ u, mg "MOST_POINTS" = some u ∧ RelV (.int (200)) u
  g_MOST_RULES : ∃ u, mg "MOST_RULES" = some u ∧ RelV (.int (12)) u
  d_law_mix : DefIn K mg "_law_mix" s_law_mix
  d_law_numbers : DefIn K mg "_law_numbers" s_law_numbers
  d_law_take : DefIn K mg "_law_take" s_law_take
  d_law_set : DefIn K mg "_law_set" s_law_set
  d_law_sets : DefIn K mg "_law_sets" s_law_sets
  d_law_rule : DefIn K mg "_law_rule" s_law_rule
  d_law_lookups : DefIn K mg "_law_lookups" s_law_lookups
  d_law_world : DefIn K mg "_law_world" s_law_world
  d_law : DefIn K mg "law" s_law
  d_tuples_of : DefIn K mg "tuples_of" s_tuples_of
  d_copied_rule : DefIn K mg "copied_rule" s_copied_rule
  d_copied_glyph : DefIn K mg "copied_glyph" s_copied_glyph
  d_copied_lookup : DefIn K mg "copied_lookup" s_copied_lookup
  d_law_font : DefIn K mg "_law_font" s_law_font
  d_is_set : DefIn K mg "is_set" s_is_set
  d_sets_reason : DefIn K mg "sets_reason" s_sets_reason
  d_out_reason : DefIn K mg "out_reason" s_out_reason
  d_calls_reason : DefIn K mg "calls_reason" s_calls_reason
  d_extra_reason : DefIn K mg "extra_reason" s_extra_reason
  d_lookup_reason : DefIn K mg "lookup_reason" s_lookup_reason
  d_first_lookup_fault : DefIn K mg "first_lookup_fault" s_first_lookup_fault
  d_many_reason : DefIn K mg "many_reason" s_many_reason
  d_unit_reason : DefIn K mg "unit_reason" s_unit_reason
  d_placed : DefIn K mg "placed" s_placed
  d_chars_reason : DefIn K mg "chars_reason" s_chars_reason
  d_axes_reason : DefIn K mg "axes_reason" s_axes_reason
  d_regions_reason : DefIn K mg "regions_reason" s_regions_reason
  d_functions_reason : DefIn K mg "functions_reason" s_functions_reason
  d_presets_reason : DefIn K mg "presets_reason" s_presets_reason
  d_features_reason : DefIn K mg "features_reason" s_features_reason
  d_is_row_of_letters : DefIn K mg "is_row_of_letters" s_is_row_of_letters
  d_is_rising : DefIn K mg "is_rising" s_is_rising
  d_parts_reason : DefIn K mg "parts_reason" s_parts_reason
  d_depths_of : DefIn K mg "depths_of" s_depths_of
  d_has_parts_in : DefIn K mg "has_parts_in" s_has_parts_in
  d_is_part : DefIn K mg "is_part" s_is_part
  d_is_anchor : DefIn K mg "is_anchor" s_is_anchor
  d_is_delta : DefIn K mg "is_delta" s_is_delta
  d_is_instruction : DefIn K mg "is_instruction" s_is_instruction
  d_count_points : DefIn K mg "count_points" s_count_points
  d_is_proper : DefIn K mg "is_proper" s_is_proper
  d_glyph_reason : DefIn K mg "glyph_reason" s_glyph_reason
  d_first_glyph_fault : DefIn K mg "first_glyph_fault" s_first_glyph_fault
  d_first_fault : DefIn K mg "first_fault" s_first_fault
  d_is_tent : DefIn K mg "is_tent" s_is_tent
  d_copied_side : DefIn K mg "copied_side" s_copied_side
  d_side_of : DefIn K mg "side_of" s_side_of
  d_patterns : DefIn K mg "patterns" s_patterns
  d_pattern_of : DefIn K mg "pattern_of" s_pattern_of
  d_status_after : DefIn K mg "status_after" s_status_after
  d_next_status : DefIn K mg "next_status" s_next_status
  d_next_number : DefIn K mg "next_number" s_next_number
  d_fits : DefIn K mg "fits" s_fits
  d_side_fits : DefIn K mg "side_fits" s_side_fits
  d_read : DefIn K mg "read" s_read
  d_met_by : DefIn K mg "met_by" s_met_by
  d_law_patterns : DefIn K mg "_law_patterns" s_law_patterns
  d_law_status : DefIn K mg "_law_status" s_law_status
  d_law_drawn_side : DefIn K mg "_law_drawn_side" s_law_drawn_side
  d_law_words : DefIn K mg "_law_words" s_law_words
  d_law_state : DefIn K mg "_law_state" s_law_state
  d_law_broken : DefIn K mg "_law_broken" s_law_broken
  c_Glyph : ∃ e_parts e_anchors e_deltas e_hint : Addr, EmT K e_parts ∧ EmT K e_anchors ∧ EmT K e_deltas ∧ EmT K e_hint ∧ ClsI K mg "Glyph" "Glyph.__init__" s_Glyph fl_Glyph (kw_Glyph e_parts e_anchors e_deltas e_hint)
  c_Rule : ∃ e_back e_ahead e_out e_calls : Addr, EmT K e_back ∧ EmT K e_ahead ∧ EmT K e_out ∧ EmT K e_calls ∧ ClsI K mg "Rule" "Rule.__init__" s_Rule fl_Rule (kw_Rule e_back e_ahead e_out e_calls)
  c_Lookup : ClsI K mg "Lookup" "Lookup.__init__" s_Lookup fl_Lookup kw_Lookup
  c_Automaton : ClsI K mg "Automaton" "Automaton.__init__" s_Automaton fl_Automaton kw_Automaton
  c_Font : ∃ e_chars e_lookups e_features e_axes e_regions e_functions e_presets : Addr, EmT K e_chars ∧ EmT K e_lookups ∧ EmT K e_features ∧ EmT K e_axes ∧ EmT K e_regions ∧ EmT K e_functions ∧ EmT K e_presets ∧ ClsI K mg "Font" "Font.__init__" s_Font fl_Font (kw_Font e_chars e_lookups e_features e_axes e_regions e_functions e_presets)
  gt_WITH_CONTEXT : mg "WITH_CONTEXT" = some (.ref (adr mg "WITH_CONTEXT"))
  gs_WITH_CONTEXT : ∀ H : Hp, SqT K H (adr mg "WITH_CONTEXT") [.str "chain", .str "reverse"]
  gt_WITH_OUT : mg "WITH_OUT" = some (.ref (adr mg "WITH_OUT"))
  gs_WITH_OUT : ∀ H : Hp, SqT K H (adr mg "WITH_OUT") [.str "single", .str "multiple", .str "ligature", .str "reverse"]

abbrev cs (mg : Str → Option Value) : Cs := ⟨adr mg "Glyph", adr mg "Rule", adr mg "Lookup", adr mg "Font"⟩
section
variable {P : Program} {w : World} {K : PySem.W.Frag} {mg : Str → Option Value} {base : Heap}
theorem ok_tuples_of (T : Txt K mg) : Has P w K mg base 1 "tuples_of" ps_tuples_of (spE K fTof) := by
  refine has_of T.d_tuples_of sc_tuples_of bd_tuples_of (fun vs H Q E h => ?_) (fun f cdv A outer s H vs Q E hr h => ?_)
  · obtain ⟨S, ds, d, hS, hd, ⟨r, L, rfl, _⟩, q⟩ := h
    obtain ⟨v, _, rfl, _, hd⟩ := hd.consE
    cases hd.nilE
    rfl
  · obtain ⟨S, ds, d, hS, hd, ⟨r, L, rfl, ⟨xs, hx, hm, hz⟩, rfl⟩, q⟩ := h
    obtain ⟨v, _, rfl, hv, hd⟩ := hd.consE
    cases hd.nilE
    have hl := sq2_len hm
    refine ⟨_, (pss_one (ps_ret (pe_lc (own := [("row", 1)]) rfl sc_tuples_of.nd (piS (K := K) rfl (pv 0)) (blkOk_by (by kernel_rfl)) (fun _ _ _ _ _ => (pg_name (i := 1) sc_tuples_of.nd rfl (.inl rfl))) (fun _ _ _ _ _ => pts_nil) (fun _ _ _ _ _ => (pe_callTy (clTupOf (K := K) rfl) (by rfl) T.z_tuple (by decide +kernel) (pa_cons (pv 1) pa_nil)))))), ?_⟩
    walk_at "fl.w"
    refine lcS (S := S) (fun i => (L[i]?).map .tuple) hS hv hx (by omega) (fun R h => ⟨_, rfl, h⟩) ?_ ?_
    · intro D i x e H2 hD he sm al hxe R N hR hN
      obtain ⟨l, hl1, hl2⟩ := sq2_at hm he
      refine g_name ⟨rfl, ?_⟩
      walk_at "fl.w"
      cases hxe with
      | lst n q r =>
        cases hl2
        refine ⟨_, _, rfl, .inl ⟨SqL.of q, fun p hp => ?_⟩⟩
        exact hR _ _ _ (by rw [hl1]; rfl) (Fl.Same.new hp) (Dq.newT al hp r)
      | tup n q r =>
        cases hl2
        refine ⟨_, _, rfl, .inr ⟨SqT.of q, ?_⟩⟩
        exact hR _ _ _ (by rw [hl1]; rfl) (L2.Same.refl _) (.tup n q r)
      | _ => cases hl2
    · intro D H2 sm hD hq
      rw [fm_ltA hl] at hq
      exact q _ _ sm hq
theorem ok_Glyph (T : Txt K mg) {e1 e2 e3 e4 : Addr} (c : ClsI K mg "Glyph" "Glyph.__init__" s_Glyph fl_Glyph (kw_Glyph e1 e2 e3 e4)) : InI P w K mg base 2 "Glyph" "Glyph.__init__" s_Glyph fl_Glyph (kw_Glyph e1 e2 e3 e4) ps_Glyph (spI K (adr mg "Glyph") fGl) := by
  have cl := c.cl
  have na := c.na
  have h_tuples_of := ok_tuples_of (P := P) (w := w) (base := base) T
  refine inI_of c sc_Glyph (fun vs H Q E h => ?_) (fun f cdv A outer s H vs Q E hr h => ?_)
  · obtain ⟨S, x, dx, ws, ds, fs, rfl, _, _, _, hd, ⟨o, p, n, d, hi, g, rfl, _⟩, q⟩ := h
    obtain ⟨v1, _, rfl, _, hd⟩ := hd.consE
    obtain ⟨v2, _, rfl, _, hd⟩ := hd.consE
    obtain ⟨v3, _, rfl, _, hd⟩ := hd.consE
    obtain ⟨v4, _, rfl, _, hd⟩ := hd.consE
    obtain ⟨v5, _, rfl, _, hd⟩ := hd.consE
    obtain ⟨v6, _, rfl, _, hd⟩ := hd.consE
    obtain ⟨v7, _, rfl, _, hd⟩ := hd.consE
    cases hd.nilE
    rfl
  · obtain ⟨S, x, dx, ws, ds, fs, rfl, hxS, hS, hx, hd, ⟨o, p, n, d, hi, g, rfl, gok, so, sp, sn, sd, sh, rfl⟩, q⟩ := h
    obtain ⟨v1, _, rfl, h1, hd⟩ := hd.consE
    obtain ⟨v2, _, rfl, h2, hd⟩ := hd.consE
    obtain ⟨v3, _, rfl, h3, hd⟩ := hd.consE
    obtain ⟨v4, _, rfl, h4, hd⟩ := hd.consE
    obtain ⟨v5, _, rfl, h5, hd⟩ := hd.consE
    obtain ⟨v6, _, rfl, h6, hd⟩ := hd.consE
    obtain ⟨v7, _, rfl, h7, hd⟩ := hd.consE
    cases hd.nilE
    have I0 := InitAt.start hx hS hxS
    refine ⟨_, (pss_cons (psFld (K := K) rfl (pv 0) (pv 1) rfl)
      (pss_cons (psFld (K := K) rfl (pv 0) (pe_lc (own := [("contour", 8)]) rfl sc_Glyph.nd (piS (K := K) rfl (pv 2)) (blkOk_by (by kernel_rfl)) (fun _ _ _ _ _ => (pg_name (i := 8) sc_Glyph.nd rfl (.inl rfl))) (fun _ _ _ _ _ => pts_nil) (fun _ _ _ _ _ => (pe_h h_tuples_of (hr.mono (by decide)) (pa_cons (pv 8) pa_nil)))) rfl)
      (pss_cons (psFld (K := K) rfl (pv 0) (pe_h h_tuples_of (hr.mono (by decide)) (pa_cons (pv 3) pa_nil)) rfl)
      (pss_cons (psFld (K := K) rfl (pv 0) (pe_h h_tuples_of (hr.mono (by decide)) (pa_cons (pv 4) pa_nil)) rfl)
      (pss_cons (psFld (K := K) rfl (pv 0) (pv 5) rfl)
      (pss_cons (psFld (K := K) rfl (pv 0) (pe_h h_tuples_of (hr.mono (by decide)) (pa_cons (pv 6) pa_nil)) rfl)
      (pss_one (psFld (K := K) rfl (pv 0) (pe_h h_tuples_of (hr.mono (by decide)) (pa_cons (pv 7) pa_nil)) rfl)))))))), ?_⟩
    walk_at "fl.w"
    have I1 := I0.put (I0.dqO (h1.dq gok.a)) "advance" rfl
    walk_at "fl.w"
    obtain ⟨xs, e1, e2, e3, e4⟩ := so
    refine lcS (S := S) (fun i => (g.outl[i]?).map ltD) I1.al (I1.deO h2) e1 (by omega) (fun R h => ⟨_, rfl, h⟩) ?_ ?_
    · intro D i x2 e H2 hD he sm al hxe R N hR hN
      obtain ⟨l, hl⟩ : ∃ l, g.outl[i]? = some l := by
        have := (List.getElem?_eq_some_iff.mp he).1
        exact ⟨g.outl[i]'(by omega), List.getElem?_eq_getElem _⟩
      refine g_name ⟨rfl, ?_⟩
      walk_at "fl.w"
      refine spE_app (D :: S) [e] (ltD l) al (.cons (.inl hxe) .nil) ⟨e, l, rfl, e3 i e l he hl, rfl⟩ (fun v H3 sm3 hv => ?_)
      exact hR _ _ _ (by rw [hl]; rfl) sm3 hv
    · intro D H2 sm2 hD hq2
      rw [fm_ltA e2] at hq2
      have I1s := I1.same sm2
      walk_at "fl.w"
      have I2 := I1s.put hq2 "outline" rfl
      walk_at "fl.w"
      refine spE_app S [p] (ltD g.parts) I2.al (.cons (I2.deO h3) .nil) ⟨p, _, rfl, sp, rfl⟩ (fun v H3 sm3 hv3 => ?_)
      have I2s := I2.same sm3
      walk_at "fl.w"
      have I3 := I2s.put hv3 "parts" rfl
      walk_at "fl.w"
      refine spE_app S [n] (ltD g.anch) I3.al (.cons (I3.deO h4) .nil) ⟨n, _, rfl, sn, rfl⟩ (fun v H4 sm4 hv4 => ?_)
      have I3s := I3.same sm4
      walk_at "fl.w"
      have I4 := I3s.put hv4 "anchors" rfl
      walk_at "fl.w"
      have I5 := I4.put (I4.dqO (h5.dq gok.m)) "mark" rfl
      walk_at "fl.w"
      refine spE_app S [d] (ltD g.deltas) I5.al (.cons (I5.deO h6) .nil) ⟨d, _, rfl, sd, rfl⟩ (fun v H6 sm6 hv6 => ?_)
      have I5s := I5.same sm6
      walk_at "fl.w"
      have I6 := I5s.put hv6 "deltas" rfl
      walk_at "fl.w"
      refine spE_app S [hi] (ltD g.hint) I6.al (.cons (I6.deO h7) .nil) ⟨hi, _, rfl, sh, rfl⟩ (fun v H7 sm7 hv7 => ?_)
      have I6s := I6.same sm7
      walk_at "fl.w"
      have I7 := I6s.put hv7 "hint" rfl
      walk_at "fl.w"
      exact q _ _ I7.fr I7.hx I7.dq
theorem ok_Rule (T : Txt K mg) {e1 e2 e3 e4 : Addr} (c : ClsI K mg "Rule" "Rule.__init__" s_Rule fl_Rule (kw_Rule e1 e2 e3 e4)) : InI P w K mg base 2 "Rule" "Rule.__init__" s_Rule fl_Rule (kw_Rule e1 e2 e3 e4) ps_Rule (spI K (adr mg "Rule") fRu) := by
  have cl := c.cl
  have na := c.na
  have h_tuples_of := ok_tuples_of (P := P) (w := w) (base := base) T
  refine inI_of c sc_Rule (fun vs H Q E h => ?_) (fun f cdv A outer s H vs Q E hr h => ?_)
  · obtain ⟨S, x, dx, ws, ds, fs, rfl, _, _, _, hd, ⟨i, b, a, o, ca, r, rfl, _⟩, q⟩ := h
    obtain ⟨v1, _, rfl, _, hd⟩ := hd.consE
    obtain ⟨v2, _, rfl, _, hd⟩ := hd.consE
    obtain ⟨v3, _, rfl, _, hd⟩ := hd.consE
    obtain ⟨v4, _, rfl, _, hd⟩ := hd.consE
    obtain ⟨v5, _, rfl, _, hd⟩ := hd.consE
    obtain ⟨v6, _, rfl, _, hd⟩ := hd.consE
    cases hd.nilE
    rfl
  · obtain ⟨S, x, dx, ws, ds, fs, rfl, hxS, hS, hx, hd, ⟨i, b, a, o, ca, r, rfl, rok, si, sb, sa, so, sc, rfl⟩, q⟩ := h
    obtain ⟨v1, _, rfl, h1, hd⟩ := hd.consE
    obtain ⟨v2, _, rfl, h2, hd⟩ := hd.consE
    obtain ⟨v3, _, rfl, h3, hd⟩ := hd.consE
    obtain ⟨v4, _, rfl, h4, hd⟩ := hd.consE
    obtain ⟨v5, _, rfl, h5, hd⟩ := hd.consE
    obtain ⟨v6, _, rfl, h6, hd⟩ := hd.consE
    cases hd.nilE
    have I0 := InitAt.start hx hS hxS
    refine ⟨_, (pss_cons (psFld (K := K) rfl (pv 0) (pe_lc (own := [("chosen", 7)]) rfl sc_Rule.nd (piS (K := K) rfl (pv 1)) (blkOk_by (by kernel_rfl)) (fun _ _ _ _ _ => (pg_name (i := 7) sc_Rule.nd rfl (.inl rfl))) (fun _ _ _ _ _ => pts_nil) (fun _ _ _ _ _ => (pe_callTy (clLstOf (K := K) rfl) (by rfl) T.z_list (by decide +kernel) (pa_cons (pv 7) pa_nil)))) rfl)
      (pss_cons (psFld (K := K) rfl (pv 0) (pe_lc (own := [("chosen", 7)]) rfl sc_Rule.nd (piS (K := K) rfl (pv 2)) (blkOk_by (by kernel_rfl)) (fun _ _ _ _ _ => (pg_name (i := 7) sc_Rule.nd rfl (.inl rfl))) (fun _ _ _ _ _ => pts_nil) (fun _ _ _ _ _ => (pe_callTy (clLstOf (K := K) rfl) (by rfl) T.z_list (by decide +kernel) (pa_cons (pv 7) pa_nil)))) rfl)
      (pss_cons (psFld (K := K) rfl (pv 0) (pe_lc (own := [("chosen", 7)]) rfl sc_Rule.nd (piS (K := K) rfl (pv 3)) (blkOk_by (by kernel_rfl)) (fun _ _ _ _ _ => (pg_name (i := 7) sc_Rule.nd rfl (.inl rfl))) (fun _ _ _ _ _ => pts_nil) (fun _ _ _ _ _ => (pe_callTy (clLstOf (K := K) rfl) (by rfl) T.z_list (by decide +kernel) (pa_cons (pv 7) pa_nil)))) rfl)
      (pss_cons (psFld (K := K) rfl (pv 0) (pe_callTy (clLstOf (K := K) rfl) (by rfl) T.z_list (by decide +kernel) (pa_cons (pv 4) pa_nil)) rfl)
      (pss_cons (psFld (K := K) rfl (pv 0) (pe_h h_tuples_of (hr.mono (by decide)) (pa_cons (pv 5) pa_nil)) rfl)
      (pss_one (psFld (K := K) rfl (pv 0) (pv 6) rfl))))))), ?_⟩
    walk_at "fl.w"
    obtain ⟨xs, e1, em, ez⟩ := si
    have el := sq2_len em
    refine lcS (S := S) (fun i => (r.inside[i]?).map .list) I0.al (I0.deO h1) e1 (by omega) (fun R h => ⟨_, rfl, h⟩) ?_ ?_
    · intro D i x2 e H2 hD he sm al hxe R N hR hN
      obtain ⟨l, hl1, hl2⟩ := sq2_at em he
      refine g_name ⟨rfl, ?_⟩
      walk_at "fl.w"
      exact lstOf_app al hxe hl2 fun l2 H3 sm3 hv => hR _ _ _ (by rw [hl1]; rfl) sm3 hv
    · intro D H2 sm2 hD hq2
      rw [fm_ltA el] at hq2
      have I1s := I0.same sm2
      walk_at "fl.w"
      have I1 := I1s.put hq2 "inside" rfl
      walk_at "fl.w"
      obtain ⟨xs, e1, em, ez⟩ := sb
      have el := sq2_len em
      refine lcS (S := S) (fun i => (r.back[i]?).map .list) I1.al (I1.deO h2) e1 (by omega) (fun R h => ⟨_, rfl, h⟩) ?_ ?_
      · intro D i x2 e H2 hD he sm al hxe R N hR hN
        obtain ⟨l, hl1, hl2⟩ := sq2_at em he
        refine g_name ⟨rfl, ?_⟩
        walk_at "fl.w"
        exact lstOf_app al hxe hl2 fun l2 H3 sm3 hv => hR _ _ _ (by rw [hl1]; rfl) sm3 hv
      · intro D H2 sm2 hD hq2
        rw [fm_ltA el] at hq2
        have I2s := I1.same sm2
        walk_at "fl.w"
        have I2 := I2s.put hq2 "back" rfl
        walk_at "fl.w"
        obtain ⟨xs, e1, em, ez⟩ := sa
        have el := sq2_len em
        refine lcS (S := S) (fun i => (r.ahead[i]?).map .list) I2.al (I2.deO h3) e1 (by omega) (fun R h => ⟨_, rfl, h⟩) ?_ ?_
        · intro D i x2 e H2 hD he sm al hxe R N hR hN
          obtain ⟨l, hl1, hl2⟩ := sq2_at em he
          refine g_name ⟨rfl, ?_⟩
          walk_at "fl.w"
          exact lstOf_app al hxe hl2 fun l2 H3 sm3 hv => hR _ _ _ (by rw [hl1]; rfl) sm3 hv
        · intro D H2 sm2 hD hq2
          rw [fm_ltA el] at hq2
          have I3s := I2.same sm2
          walk_at "fl.w"
          have I3 := I3s.put hq2 "ahead" rfl
          walk_at "fl.w"
          refine lstOf_de I3.al (I3.deO h4) so.1 fun v4 H4 sm4 hv4 => ?_
          have I4s := I3.same sm4
          walk_at "fl.w"
          have I4 := I4s.put hv4 "out" rfl
          walk_at "fl.w"
          refine spE_app S [ca] (ltD r.calls) I4.al (.cons (I4.deO h5) .nil) ⟨ca, _, rfl, sc, rfl⟩ (fun v H5 sm5 hv5 => ?_)
          have I5s := I4.same sm5
          walk_at "fl.w"
          have I5 := I5s.put hv5 "calls" rfl
          walk_at "fl.w"
          have I6 := I5.put (I5.dqO (h6.dq rok.e)) "extra" rfl
          walk_at "fl.w"
          exact q _ _ I6.fr I6.hx I6.dq
/-- Rule(inside, back=, ahead=, out=, calls=, extra=) -/
theorem mk_Rule_all {e1 e2 e3 e4 : Addr} {sp : Sp} (h : InI P w K mg base 2 "Rule" "Rule.__init__" s_Rule fl_Rule (kw_Rule e1 e2 e3 e4) ps_Rule sp) :
    MkI P w K mg base 2 "Rule" 1 ["back", "ahead", "out", "calls", "extra"] (fun vs zs => pick [0, 1, 2, 3, 4, 5, 6] (vs ++ ([] ++ zs))) sp :=
  h.make 1 ["back", "ahead", "out", "calls", "extra"] [] [0, 1, 2, 3, 4, 5, 6] (by simp) (fun q m => nomatch m) fun D doc pm an cdv ct us mv ws h1 h2 h3 => match us, h1, mv, h2, ws, h3 with | [_, _], _, [], _, [_, _, _, _, _], _ => rfl
/-- Glyph(advance, outline, parts=, anchors=, mark=, deltas=, hint=) -/
theorem mk_Glyph_all {e1 e2 e3 e4 : Addr} {sp : Sp} (h : InI P w K mg base 2 "Glyph" "Glyph.__init__" s_Glyph fl_Glyph (kw_Glyph e1 e2 e3 e4) ps_Glyph sp) :
    MkI P w K mg base 2 "Glyph" 2 ["parts", "anchors", "mark", "deltas", "hint"] (fun vs zs => pick [0, 1, 2, 3, 4, 5, 6, 7] (vs ++ ([] ++ zs))) sp :=
  h.make 2 ["parts", "anchors", "mark", "deltas", "hint"] [] [0, 1, 2, 3, 4, 5, 6, 7] (by simp) (fun q m => nomatch m) fun D doc pm an cdv ct us mv ws h1 h2 h3 => match us, h1, mv, h2, ws, h3 with | [_, _, _], _, [], _, [_, _, _, _, _], _ => rfl
theorem ok_copied_rule (T : Txt K mg) : Has P w K mg base 4 "copied_rule" ps_copied_rule (spD (fCr (adr mg "Rule"))) := by
  obtain ⟨e1, e2, e3, e4, m1, m2, m3, m4, c⟩ := T.c_Rule
  have cl := c.cl
  have na := c.na
  have mk_Rule_1_back_ahead_out_calls_extra := mk_Rule_all (ok_Rule (P := P) (w := w) (base := base) T c)
  refine has_of T.d_copied_rule sc_copied_rule bd_copied_rule (fun vs H Q E h => ?_) (fun f cdv A outer s H vs Q E hr h => ?_)
  · obtain ⟨S, ds, d, hS, hd, ⟨r, rok, rfl, rfl⟩, q⟩ := h
    obtain ⟨v, _, rfl, hv, hd⟩ := hd.consE
    cases hd.nilE
    rfl
  · obtain ⟨S, ds, d, hS, hd, ⟨r, rok, rfl, rfl⟩, q⟩ := h
    obtain ⟨v, _, rfl, hv, hd⟩ := hd.consE
    cases hd.nilE
    obtain ⟨a, dx, fs, rfl, ha, hA, hN⟩ := hv.insE
    obtain ⟨v1, fs, rfl, h1, hN⟩ := hN.consE
    obtain ⟨v2, fs, rfl, h2, hN⟩ := hN.consE
    obtain ⟨v3, fs, rfl, h3, hN⟩ := hN.consE
    obtain ⟨v4, fs, rfl, h4, hN⟩ := hN.consE
    obtain ⟨v5, fs, rfl, h5, hN⟩ := hN.consE
    obtain ⟨v6, fs, rfl, h6, hN⟩ := hN.consE
    cases hN.nilE
    refine ⟨_, (pss_one (ps_ret (pe_mk (mg := mg) rfl mk_Rule_1_back_ahead_out_calls_extra (hr.mono (by decide)) (pa_cons (peFld (K := K) rfl (pv 0) rfl) pa_nil) (pk_cons (peFld (K := K) rfl (pv 0) rfl) (pk_cons (peFld (K := K) rfl (pv 0) rfl) (pk_cons (peFld (K := K) rfl (pv 0) rfl) (pk_cons (peFld (K := K) rfl (pv 0) rfl) (pk_cons (peFld (K := K) rfl (pv 0) rfl) pk_nil)))))))), ?_⟩
    walk_at "fl.w"
    refine g_mk rfl rfl (mk_app (f := fRu) (ws := [v1, v2, v3, v4, v5, v6]) S [llD r.inside, llD r.back, llD r.ahead, .list r.out, ltD r.calls, r.extra] r.F (fun x => rfl) hS (.cons (.inl h1) (.cons (.inl h2) (.cons (.inl h3) (.cons (.inl h4) (.cons (.inl h5) (.cons (.inl h6) .nil))))))
      ⟨_, _, _, _, _, r, rfl, rok, .ll rok.i, .ll rok.b, .ll rok.a, .ls rok.o, .lt rok.c, rfl⟩ fun x H2 sm hv2 => q _ _ sm hv2)
theorem ok_copied_glyph (T : Txt K mg) : Has P w K mg base 4 "copied_glyph" ps_copied_glyph (spD (fCg (adr mg "Glyph"))) := by
  obtain ⟨e1, e2, e3, e4, m1, m2, m3, m4, c⟩ := T.c_Glyph
  have cl := c.cl
  have na := c.na
  have mk_Glyph_2_parts_anchors_mark_deltas_hint := mk_Glyph_all (ok_Glyph (P := P) (w := w) (base := base) T c)
  refine has_of T.d_copied_glyph sc_copied_glyph bd_copied_glyph (fun vs H Q E h => ?_) (fun f cdv A outer s H vs Q E hr h => ?_)
  · obtain ⟨S, ds, d, hS, hd, ⟨r, rok, rfl, rfl⟩, q⟩ := h
    obtain ⟨v, _, rfl, hv, hd⟩ := hd.consE
    cases hd.nilE
    rfl
  · obtain ⟨S, ds, d, hS, hd, ⟨r, rok, rfl, rfl⟩, q⟩ := h
    obtain ⟨v, _, rfl, hv, hd⟩ := hd.consE
    cases hd.nilE
    obtain ⟨a, dx, fs, rfl, ha, hA, hN⟩ := hv.insE
    obtain ⟨v1, fs, rfl, h1, hN⟩ := hN.consE
    obtain ⟨v2, fs, rfl, h2, hN⟩ := hN.consE
    obtain ⟨v3, fs, rfl, h3, hN⟩ := hN.consE
    obtain ⟨v4, fs, rfl, h4, hN⟩ := hN.consE
    obtain ⟨v5, fs, rfl, h5, hN⟩ := hN.consE
    obtain ⟨v6, fs, rfl, h6, hN⟩ := hN.consE
    obtain ⟨v7, fs, rfl, h7, hN⟩ := hN.consE
    cases hN.nilE
    refine ⟨_, (pss_one (ps_ret (pe_mk (mg := mg) rfl mk_Glyph_2_parts_anchors_mark_deltas_hint (hr.mono (by decide)) (pa_cons (peFld (K := K) rfl (pv 0) rfl) (pa_cons (peFld (K := K) rfl (pv 0) rfl) pa_nil)) (pk_cons (peFld (K := K) rfl (pv 0) rfl) (pk_cons (peFld (K := K) rfl (pv 0) rfl) (pk_cons (peFld (K := K) rfl (pv 0) rfl) (pk_cons (peFld (K := K) rfl (pv 0) rfl) (pk_cons (peFld (K := K) rfl (pv 0) rfl) pk_nil)))))))), ?_⟩
    walk_at "fl.w"
    refine g_mk rfl rfl (mk_app (f := fGl) (ws := [v1, v2, v3, v4, v5, v6, v7]) S [r.adv, ouD3 r.outl, ltD r.parts, ltD r.anch, r.mark, ltD r.deltas, ltD r.hint] r.F (fun x => rfl) hS (.cons (.inl h1) (.cons (.inl h2) (.cons (.inl h3) (.cons (.inl h4) (.cons (.inl h5) (.cons (.inl h6) (.cons (.inl h7) .nil)))))))
      ⟨_, _, _, _, _, r, rfl, rok, .ou rok.o rok.c, .lt rok.p, .lt rok.n, .lt rok.d, .lt rok.h, rfl⟩ fun x H2 sm hv2 => q _ _ sm hv2)
theorem ok_Lookup (T : Txt K mg) (c : ClsI K mg "Lookup" "Lookup.__init__" s_Lookup fl_Lookup kw_Lookup) : InI P w K mg base 5 "Lookup" "Lookup.__init__" s_Lookup fl_Lookup kw_Lookup ps_Lookup (spI K (adr mg "Lookup") (fLk (adr mg "Rule"))) := by
  have cl := c.cl
  have na := c.na
  have h_copied_rule := ok_copied_rule (P := P) (w := w) (base := base) T
  refine inI_of c sc_Lookup (fun vs H Q E h => ?_) (fun f cdv A outer s H vs Q E hr h => ?_)
  · obtain ⟨S, x, dx, ws, ds, fs, rfl, _, _, _, hd, ⟨k, rs, rfl, _⟩, q⟩ := h
    obtain ⟨v1, _, rfl, _, hd⟩ := hd.consE
    obtain ⟨v2, _, rfl, _, hd⟩ := hd.consE
    obtain ⟨v3, _, rfl, _, hd⟩ := hd.consE
    cases hd.nilE
    rfl
  · obtain ⟨S, x, dx, ws, ds, fs, rfl, hxS, hS, hx, hd, ⟨k, rs, rfl, kok, e1, rfl⟩, q⟩ := h
    obtain ⟨v1, _, rfl, h1, hd⟩ := hd.consE
    obtain ⟨v2, _, rfl, h2, hd⟩ := hd.consE
    obtain ⟨v3, _, rfl, h3, hd⟩ := hd.consE
    cases hd.nilE
    have I0 := InitAt.start hx hS hxS
    refine ⟨_, (pss_cons (psFld (K := K) rfl (pv 0) (pv 1) rfl)
      (pss_cons (psFld (K := K) rfl (pv 0) (pe_lc (own := [("rule", 4)]) rfl sc_Lookup.nd (piS (K := K) rfl (pv 2)) (blkOk_by (by kernel_rfl)) (fun _ _ _ _ _ => (pg_name (i := 4) sc_Lookup.nd rfl (.inl rfl))) (fun _ _ _ _ _ => pts_nil) (fun _ _ _ _ _ => (pe_h h_copied_rule (hr.mono (by decide)) (pa_cons (pv 4) pa_nil)))) rfl)
      (pss_one (psFld (K := K) rfl (pv 0) (pv 3) rfl)))), ?_⟩
    walk_at "fl.w"
    have I1 := I0.put (I0.dqO (h1.dq kok.k)) "kind" rfl
    walk_at "fl.w"
    refine lcS (S := S) (fun i => (k.rules[i]?).map fun r => insD (adr mg "Rule") r.F) I1.al (I1.deO h2) e1 (by rw [List.length_map]; exact kok.r) (fun R h => ⟨_, rfl, h⟩) ?_ ?_
    · intro D i x2 e H2 hD he sm al hxe R N hR hN
      obtain ⟨r, hr1, rfl⟩ := at_map he
      refine g_name ⟨rfl, ?_⟩
      walk_at "fl.w"
      refine spD_app (D :: S) [_] _ al (.cons hxe .nil) ⟨r, kok.ro r (List.mem_of_getElem? hr1), rfl, rfl⟩ (fun v H3 sm3 hv => ?_)
      exact hR _ _ _ (by rw [hr1]; rfl) sm3 hv
    · intro D H2 sm2 hD hq2
      rw [fm_ltA (by rw [List.length_map])] at hq2
      have I1s := I1.same sm2
      walk_at "fl.w"
      have I2 := I1s.put hq2 "rules" rfl
      walk_at "fl.w"
      have I3 := I2.put (I2.dqO (h3.dq kok.g)) "ignore" rfl
      walk_at "fl.w"
      exact q _ _ I3.fr I3.hx I3.dq
/-- Lookup(kind, rules, ignore=) -/
theorem mk_Lookup_all {sp : Sp} (h : InI P w K mg base 5 "Lookup" "Lookup.__init__" s_Lookup fl_Lookup kw_Lookup ps_Lookup sp) :
    MkI P w K mg base 5 "Lookup" 2 ["ignore"] (fun vs zs => pick [0, 1, 2, 3] (vs ++ ([] ++ zs))) sp :=
  h.make 2 ["ignore"] [] [0, 1, 2, 3] (by simp) (fun q m => nomatch m) fun D doc pm an cdv ct us mv ws h1 h2 h3 => match us, h1, mv, h2, ws, h3 with | [_, _, _], _, [], _, [_], _ => rfl
theorem ok_copied_lookup (T : Txt K mg) : Has P w K mg base 7 "copied_lookup" ps_copied_lookup (spD (fCl (adr mg "Rule") (adr mg "Lookup"))) := by
  have c := T.c_Lookup
  have cl := c.cl
  have na := c.na
  have mk_Lookup_2_ignore := mk_Lookup_all (ok_Lookup (P := P) (w := w) (base := base) T c)
  refine has_of T.d_copied_lookup sc_copied_lookup bd_copied_lookup (fun vs H Q E h => ?_) (fun f cdv A outer s H vs Q E hr h => ?_)
  · obtain ⟨S, ds, d, hS, hd, ⟨r, rok, rfl, rfl⟩, q⟩ := h
    obtain ⟨v, _, rfl, hv, hd⟩ := hd.consE
    cases hd.nilE
    rfl
  · obtain ⟨S, ds, d, hS, hd, ⟨k, kok, rfl, rfl⟩, q⟩ := h
    obtain ⟨v, _, rfl, hv, hd⟩ := hd.consE
    cases hd.nilE
    obtain ⟨a, dx, fs, rfl, ha, hA, hN⟩ := hv.insE
    obtain ⟨v1, fs, rfl, h1, hN⟩ := hN.consE
    obtain ⟨v2, fs, rfl, h2, hN⟩ := hN.consE
    obtain ⟨v3, fs, rfl, h3, hN⟩ := hN.consE
    cases hN.nilE
    refine ⟨_, (pss_one (ps_ret (pe_mk (mg := mg) rfl mk_Lookup_2_ignore (hr.mono (by decide)) (pa_cons (peFld (K := K) rfl (pv 0) rfl) (pa_cons (peFld (K := K) rfl (pv 0) rfl) pa_nil)) (pk_cons (peFld (K := K) rfl (pv 0) rfl) pk_nil)))), ?_⟩
    walk_at "fl.w"
    refine g_mk rfl rfl (mk_app (f := fLk (adr mg "Rule")) (ws := [v1, v2, v3]) S [k.kind, .list (k.rules.map fun r => insD (adr mg "Rule") r.F), k.ign] (k.F (adr mg "Rule")) (fun x => rfl) hS (.cons (.inl h1) (.cons (.inl h2) (.cons (.inl h3) .nil)))
      ⟨k, _, rfl, kok, rfl, rfl⟩ fun x H2 sm hv2 => q _ _ sm hv2)
end

section
end

/-! the end, by one kernel run -/
namespace He2
open He
abbrev R : PySem.W.OpenRow := PySem.W.OpenLaw.row PySem.Challenge.rw_fleuron_k25_statuses_and_automata
abbrev qv : Program := PySem.W.view R.prog [101]
def pls_0 : List Addr := [2, 3, 15, 22, 23, 24, 25, 28, 35, 37, 38, 40, 41, 42, 43, 44, 47, 50, 51, 52, 54, 55, 57, 58, 66, 68, 69, 71, 72, 73, 74, 75, 76, 77, 80, 83, 84, 85, 87, 88, 90, 91, 92, 95, 96, 97, 100, 101, 102, 105, 106, 107, 110, 111, 112, 114, 115, 117, 118, 119, 122, 123, 124, 127, 128, 129, 131, 132, 134, 135, 136, 138, 139, 141, 142, 143, 146, 147, 148, 151, 152, 153, 156, 157, 158, 160, 161, 163, 164, 165, 168, 169, 170, 171, 172, 173, 174, 175, 176, 177, 178, 179, 180, 181, 183, 184, 186, 187, 188, 191, 192, 193, 195, 196, 198, 199, 200, 203, 204, 205, 207, 208, 210, 211, 212, 214, 215, 217, 218, 219, 220, 221, 222, 223, 224, 225, 226, 227, 228, 229, 230, 231, 232, 233, 234, 235, 236, 238, 239, 240, 241, 242, 243, 244, 245, 246, 247, 248, 249, 250, 251, 252, 253, 254, 256, 257, 258, 259, 260, 261, 263, 264, 266, 267, 268, 269, 271, 272, 274, 275, 276, 278, 279, 281, 282, 283, 285, 286, 288, 289, 290, 292, 293, 295, 296, 297, 299, 300, 302, 303]
def pls_1 : List Addr := [304, 306, 307, 309, 310, 311, 313, 314, 316, 317, 318, 321, 322, 323, 325, 326, 328, 329, 330, 332, 333, 335, 336, 337, 339, 340, 342, 343, 344, 346, 347, 349, 350, 351, 353, 354, 356, 357, 358, 361, 362, 363, 365, 366, 368, 369, 370, 373, 374, 375, 377, 378, 380, 381, 382, 385, 386, 387, 390, 391, 399, 400, 401, 402, 403, 404, 407, 408, 409, 410, 411, 412, 413, 423, 424, 425, 426, 427, 428, 431, 432, 433, 434, 435, 436, 437, 447, 448, 451, 452, 453, 454, 455, 456, 457, 467, 468, 469, 470, 471, 472, 473, 474, 475, 478, 479, 480, 481, 482, 483, 484, 487, 489, 490, 492, 493, 494, 496, 497, 499, 500, 501, 503, 504, 506, 507, 508, 510, 511, 513, 514, 515, 517, 518, 520, 521, 522, 524, 525, 527, 528, 541, 544, 545, 546, 549, 550, 551, 554, 555, 556, 559, 560, 561, 564, 565, 573, 576, 577, 578, 581, 582, 583, 586, 587, 593, 596, 597, 598, 601, 602, 603, 605, 606, 608, 609, 610, 613, 614, 615, 617, 618, 620, 621]
def pls : List Addr := pls_0 ++ (pls_1)
def cks_0 : List Chk := [cFree "abs", cFree "all", cFree "enumerate", cFree "int", cFree "len", cFree "list", cFree "min", cFree "range", cFree "set", cFree "sum", cFree "tuple", cFree "zip", cInt "DEEPEST" (4), cInt "FARTHEST" (16384), cInt "LEAST_OF_CONTOUR" (2), cInt "MOST_AROUND" (3), cInt "MOST_CONTOURS" (40), cInt "MOST_OUT" (8), cInt "MOST_POINTS" (200), cInt "MOST_RULES" (12), cGlo "_law_mix", cGlo "_law_numbers", cGlo "_law_take", cGlo "_law_set", cGlo "_law_sets", cGlo "_law_rule", cGlo "_law_lookups", cGlo "_law_world", cGlo "law", cGlo "tuples_of"]
def cks_1 : List Chk := [cGlo "copied_rule", cGlo "copied_glyph", cGlo "copied_lookup", cGlo "_law_font", cGlo "is_set", cGlo "sets_reason", cGlo "out_reason", cGlo "calls_reason", cGlo "extra_reason", cGlo "lookup_reason", cGlo "first_lookup_fault", cGlo "many_reason", cGlo "unit_reason", cGlo "placed", cGlo "chars_reason", cGlo "axes_reason", cGlo "regions_reason", cGlo "functions_reason", cGlo "presets_reason", cGlo "features_reason", cGlo "is_row_of_letters", cGlo "is_rising", cGlo "parts_reason", cGlo "depths_of", cGlo "has_parts_in", cGlo "is_part", cGlo "is_anchor", cGlo "is_delta", cGlo "is_instruction", cGlo "count_points"]
def cks_2 : List Chk := [cGlo "is_proper", cGlo "glyph_reason", cGlo "first_glyph_fault", cGlo "first_fault", cGlo "is_tent", cGlo "copied_side", cGlo "side_of", cGlo "patterns", cGlo "pattern_of", cGlo "status_after", cGlo "next_status", cGlo "next_number", cGlo "fits", cGlo "side_fits", cGlo "read", cGlo "met_by", cGlo "_law_patterns", cGlo "_law_status", cGlo "_law_drawn_side", cGlo "_law_words", cGlo "_law_state", cGlo "_law_broken", cGlo "Glyph", clsB "Glyph" fl_Glyph, fun K => emB K (kwAt "Glyph" "parts" K), fun K => emB K (kwAt "Glyph" "anchors" K), fun K => emB K (kwAt "Glyph" "deltas" K), fun K => emB K (kwAt "Glyph" "hint" K), cGlo "Rule", clsB "Rule" fl_Rule]
def cks_3 : List Chk := [fun K => emB K (kwAt "Rule" "back" K), fun K => emB K (kwAt "Rule" "ahead" K), fun K => emB K (kwAt "Rule" "out" K), fun K => emB K (kwAt "Rule" "calls" K), cGlo "Lookup", clsB "Lookup" fl_Lookup, cGlo "Automaton", clsB "Automaton" fl_Automaton, cGlo "Font", clsB "Font" fl_Font, fun K => emB K (kwAt "Font" "chars" K), fun K => emB K (kwAt "Font" "lookups" K), fun K => emB K (kwAt "Font" "features" K), fun K => emB K (kwAt "Font" "axes" K), fun K => emB K (kwAt "Font" "regions" K), fun K => emB K (kwAt "Font" "functions" K), fun K => emB K (kwAt "Font" "presets" K), cGlo "WITH_CONTEXT", fun K => tupB K "WITH_CONTEXT" [.str "chain", .str "reverse"], cGlo "WITH_OUT", fun K => tupB K "WITH_OUT" [.str "single", .str "multiple", .str "ligature", .str "reverse"], entB "INSIDE" "single" [.int (1), .int (1)], entB "INSIDE" "multiple" [.int (1), .int (1)], entB "INSIDE" "ligature" [.int (2), .int (4)], entB "INSIDE" "chain" [.int (1), .int (4)], entB "INSIDE" "reverse" [.int (1), .int (1)], cGlo "INSIDE"]
def cks : List Chk := cks_0 ++ (cks_1 ++ (cks_2 ++ (cks_3)))
def dfs_0 : List DefD := [⟨("_law_mix", none), "_law_mix", "_law_mix", defArgs s_law_mix, defBody s_law_mix, defScope s_law_mix, [], []⟩, ⟨("_law_numbers", none), "_law_numbers", "_law_numbers", defArgs s_law_numbers, defBody s_law_numbers, defScope s_law_numbers, [], []⟩, ⟨("_law_take", none), "_law_take", "_law_take", defArgs s_law_take, defBody s_law_take, defScope s_law_take, [], []⟩, ⟨("_law_set", none), "_law_set", "_law_set", defArgs s_law_set, defBody s_law_set, defScope s_law_set, [], []⟩, ⟨("_law_sets", none), "_law_sets", "_law_sets", defArgs s_law_sets, defBody s_law_sets, defScope s_law_sets, [], []⟩, ⟨("_law_rule", none), "_law_rule", "_law_rule", defArgs s_law_rule, defBody s_law_rule, defScope s_law_rule, [], []⟩, ⟨("_law_lookups", none), "_law_lookups", "_law_lookups", defArgs s_law_lookups, defBody s_law_lookups, defScope s_law_lookups, [], []⟩, ⟨("_law_world", none), "_law_world", "_law_world", defArgs s_law_world, defBody s_law_world, defScope s_law_world, [], []⟩, ⟨("law", none), "law", "law", defArgs s_law, defBody s_law, defScope s_law, [], []⟩, ⟨("tuples_of", none), "tuples_of", "tuples_of", defArgs s_tuples_of, defBody s_tuples_of, defScope s_tuples_of, [], []⟩, ⟨("copied_rule", none), "copied_rule", "copied_rule", defArgs s_copied_rule, defBody s_copied_rule, defScope s_copied_rule, [], []⟩, ⟨("copied_glyph", none), "copied_glyph", "copied_glyph", defArgs s_copied_glyph, defBody s_copied_glyph, defScope s_copied_glyph, [], []⟩, ⟨("copied_lookup", none), "copied_lookup", "copied_lookup", defArgs s_copied_lookup, defBody s_copied_lookup, defScope s_copied_lookup, [], []⟩, ⟨("_law_font", none), "_law_font", "_law_font", defArgs s_law_font, defBody s_law_font, defScope s_law_font, [], []⟩, ⟨("is_set", none), "is_set", "is_set", defArgs s_is_set, defBody s_is_set, defScope s_is_set, [], []⟩, ⟨("sets_reason", none), "sets_reason", "sets_reason", defArgs s_sets_reason, defBody s_sets_reason, defScope s_sets_reason, [], []⟩, ⟨("out_reason", none), "out_reason", "out_reason", defArgs s_out_reason, defBody s_out_reason, defScope s_out_reason, [], []⟩, ⟨("calls_reason", none), "calls_reason", "calls_reason", defArgs s_calls_reason, defBody s_calls_reason, defScope s_calls_reason, [], []⟩, ⟨("extra_reason", none), "extra_reason", "extra_reason", defArgs s_extra_reason, defBody s_extra_reason, defScope s_extra_reason, [], []⟩, ⟨("lookup_reason", none), "lookup_reason", "lookup_reason", defArgs s_lookup_reason, defBody s_lookup_reason, defScope s_lookup_reason, [], []⟩, ⟨("first_lookup_fault", none), "first_lookup_fault", "first_lookup_fault", defArgs s_first_lookup_fault, defBody s_first_lookup_fault, defScope s_first_lookup_fault, [], []⟩, ⟨("many_reason", none), "many_reason", "many_reason", defArgs s_many_reason, defBody s_many_reason, defScope s_many_reason, [], []⟩, ⟨("unit_reason", none), "unit_reason", "unit_reason", defArgs s_unit_reason, defBody s_unit_reason, defScope s_unit_reason, [], []⟩, ⟨("placed", none), "placed", "placed", defArgs s_placed, defBody s_placed, defScope s_placed, [], []⟩, ⟨("chars_reason", none), "chars_reason", "chars_reason", defArgs s_chars_reason, defBody s_chars_reason, defScope s_chars_reason, [], []⟩, ⟨("axes_reason", none), "axes_reason", "axes_reason", defArgs s_axes_reason, defBody s_axes_reason, defScope s_axes_reason, [], []⟩, ⟨("regions_reason", none), "regions_reason", "regions_reason", defArgs s_regions_reason, defBody s_regions_reason, defScope s_regions_reason, [], []⟩, ⟨("functions_reason", none), "functions_reason", "functions_reason", defArgs s_functions_reason, defBody s_functions_reason, defScope s_functions_reason, [], []⟩, ⟨("presets_reason", none), "presets_reason", "presets_reason", defArgs s_presets_reason, defBody s_presets_reason, defScope s_presets_reason, [], []⟩, ⟨("features_reason", none), "features_reason", "features_reason", defArgs s_features_reason, defBody s_features_reason, defScope s_features_reason, [], []⟩]
def dfs_1 : List DefD := [⟨("is_row_of_letters", none), "is_row_of_letters", "is_row_of_letters", defArgs s_is_row_of_letters, defBody s_is_row_of_letters, defScope s_is_row_of_letters, [], []⟩, ⟨("is_rising", none), "is_rising", "is_rising", defArgs s_is_rising, defBody s_is_rising, defScope s_is_rising, [], []⟩, ⟨("parts_reason", none), "parts_reason", "parts_reason", defArgs s_parts_reason, defBody s_parts_reason, defScope s_parts_reason, [], []⟩, ⟨("depths_of", none), "depths_of", "depths_of", defArgs s_depths_of, defBody s_depths_of, defScope s_depths_of, [], []⟩, ⟨("has_parts_in", none), "has_parts_in", "has_parts_in", defArgs s_has_parts_in, defBody s_has_parts_in, defScope s_has_parts_in, [], []⟩, ⟨("is_part", none), "is_part", "is_part", defArgs s_is_part, defBody s_is_part, defScope s_is_part, [], []⟩, ⟨("is_anchor", none), "is_anchor", "is_anchor", defArgs s_is_anchor, defBody s_is_anchor, defScope s_is_anchor, [], []⟩, ⟨("is_delta", none), "is_delta", "is_delta", defArgs s_is_delta, defBody s_is_delta, defScope s_is_delta, [], []⟩, ⟨("is_instruction", none), "is_instruction", "is_instruction", defArgs s_is_instruction, defBody s_is_instruction, defScope s_is_instruction, [], []⟩, ⟨("count_points", none), "count_points", "count_points", defArgs s_count_points, defBody s_count_points, defScope s_count_points, [], []⟩, ⟨("is_proper", none), "is_proper", "is_proper", defArgs s_is_proper, defBody s_is_proper, defScope s_is_proper, [], []⟩, ⟨("glyph_reason", none), "glyph_reason", "glyph_reason", defArgs s_glyph_reason, defBody s_glyph_reason, defScope s_glyph_reason, [], []⟩, ⟨("first_glyph_fault", none), "first_glyph_fault", "first_glyph_fault", defArgs s_first_glyph_fault, defBody s_first_glyph_fault, defScope s_first_glyph_fault, [], []⟩, ⟨("first_fault", none), "first_fault", "first_fault", defArgs s_first_fault, defBody s_first_fault, defScope s_first_fault, [], []⟩, ⟨("is_tent", none), "is_tent", "is_tent", defArgs s_is_tent, defBody s_is_tent, defScope s_is_tent, [], []⟩, ⟨("copied_side", none), "copied_side", "copied_side", defArgs s_copied_side, defBody s_copied_side, defScope s_copied_side, [], []⟩, ⟨("side_of", none), "side_of", "side_of", defArgs s_side_of, defBody s_side_of, defScope s_side_of, [], []⟩, ⟨("patterns", none), "patterns", "patterns", defArgs s_patterns, defBody s_patterns, defScope s_patterns, [], []⟩, ⟨("pattern_of", none), "pattern_of", "pattern_of", defArgs s_pattern_of, defBody s_pattern_of, defScope s_pattern_of, [], []⟩, ⟨("status_after", none), "status_after", "status_after", defArgs s_status_after, defBody s_status_after, defScope s_status_after, [], []⟩, ⟨("next_status", none), "next_status", "next_status", defArgs s_next_status, defBody s_next_status, defScope s_next_status, [], []⟩, ⟨("next_number", none), "next_number", "next_number", defArgs s_next_number, defBody s_next_number, defScope s_next_number, [], []⟩, ⟨("fits", none), "fits", "fits", defArgs s_fits, defBody s_fits, defScope s_fits, [], []⟩, ⟨("side_fits", none), "side_fits", "side_fits", defArgs s_side_fits, defBody s_side_fits, defScope s_side_fits, [], []⟩, ⟨("read", none), "read", "read", defArgs s_read, defBody s_read, defScope s_read, [], []⟩, ⟨("met_by", none), "met_by", "met_by", defArgs s_met_by, defBody s_met_by, defScope s_met_by, [], []⟩, ⟨("_law_patterns", none), "_law_patterns", "_law_patterns", defArgs s_law_patterns, defBody s_law_patterns, defScope s_law_patterns, [], []⟩, ⟨("_law_status", none), "_law_status", "_law_status", defArgs s_law_status, defBody s_law_status, defScope s_law_status, [], []⟩, ⟨("_law_drawn_side", none), "_law_drawn_side", "_law_drawn_side", defArgs s_law_drawn_side, defBody s_law_drawn_side, defScope s_law_drawn_side, [], []⟩, ⟨("_law_words", none), "_law_words", "_law_words", defArgs s_law_words, defBody s_law_words, defScope s_law_words, [], []⟩]
def dfs_2 : List DefD := [⟨("_law_state", none), "_law_state", "_law_state", defArgs s_law_state, defBody s_law_state, defScope s_law_state, [], []⟩, ⟨("_law_broken", none), "_law_broken", "_law_broken", defArgs s_law_broken, defBody s_law_broken, defScope s_law_broken, [], []⟩, ⟨("Glyph", some "__init__"), "__init__", "Glyph.__init__", defArgs s_Glyph, defBody s_Glyph, defScope s_Glyph, [], [("parts", .adr (kwAt "Glyph" "parts")), ("anchors", .adr (kwAt "Glyph" "anchors")), ("mark", .bl false), ("deltas", .adr (kwAt "Glyph" "deltas")), ("hint", .adr (kwAt "Glyph" "hint"))]⟩, ⟨("Rule", some "__init__"), "__init__", "Rule.__init__", defArgs s_Rule, defBody s_Rule, defScope s_Rule, [], [("back", .adr (kwAt "Rule" "back")), ("ahead", .adr (kwAt "Rule" "ahead")), ("out", .adr (kwAt "Rule" "out")), ("calls", .adr (kwAt "Rule" "calls")), ("extra", .int 0)]⟩, ⟨("Lookup", some "__init__"), "__init__", "Lookup.__init__", defArgs s_Lookup, defBody s_Lookup, defScope s_Lookup, [], [("ignore", .bl false)]⟩, ⟨("Automaton", some "__init__"), "__init__", "Automaton.__init__", defArgs s_Automaton, defBody s_Automaton, defScope s_Automaton, [], []⟩, ⟨("Font", some "__init__"), "__init__", "Font.__init__", defArgs s_Font, defBody s_Font, defScope s_Font, [], [("chars", .adr (kwAt "Font" "chars")), ("lookups", .adr (kwAt "Font" "lookups")), ("features", .adr (kwAt "Font" "features")), ("axes", .adr (kwAt "Font" "axes")), ("regions", .adr (kwAt "Font" "regions")), ("functions", .adr (kwAt "Font" "functions")), ("presets", .adr (kwAt "Font" "presets"))]⟩]
def dfs : List DefD := dfs_0 ++ (dfs_1 ++ (dfs_2))
def tbs_0 : List Tab := [(fun K => ga K "INSIDE", [PySem.Str.ofString "single", PySem.Str.ofString "multiple", PySem.Str.ofString "ligature", PySem.Str.ofString "chain", PySem.Str.ofString "reverse", PySem.Str.ofString "pair", PySem.Str.ofString "cursive", PySem.Str.ofString "marks"])]
def tbs : List Tab := tbs_0
def loo_0 : List PySem.Str := [PySem.Str.ofString "__name__", PySem.Str.ofString "FleuronError", PySem.Str.ofString "InvalidFont", PySem.Str.ofString "tuples_of", PySem.Str.ofString "is_rising", PySem.Str.ofString "Automaton", PySem.Str.ofString "copied_side", PySem.Str.ofString "side_of", PySem.Str.ofString "patterns", PySem.Str.ofString "pattern_of", PySem.Str.ofString "status_after", PySem.Str.ofString "next_status", PySem.Str.ofString "next_number", PySem.Str.ofString "fits", PySem.Str.ofString "side_fits", PySem.Str.ofString "read", PySem.Str.ofString "met_by", PySem.Str.ofString "DEEPEST", PySem.Str.ofString "depths_of", PySem.Str.ofString "has_parts_in", PySem.Str.ofString "LETTERS", PySem.Str.ofString "is_row_of_letters", PySem.Str.ofString "MOST_CONTOURS", PySem.Str.ofString "LEAST_OF_CONTOUR", PySem.Str.ofString "MOST_POINTS", PySem.Str.ofString "FARTHEST", PySem.Str.ofString "is_proper", PySem.Str.ofString "count_points", PySem.Str.ofString "MOST_RULES", PySem.Str.ofString "MOST_AROUND", PySem.Str.ofString "MOST_OUT", PySem.Str.ofString "INSIDE", PySem.Str.ofString "WITH_CONTEXT", PySem.Str.ofString "WITH_OUT", PySem.Str.ofString "lookup_reason"]
def loo_1 : List PySem.Str := [PySem.Str.ofString "sets_reason", PySem.Str.ofString "is_set", PySem.Str.ofString "out_reason", PySem.Str.ofString "calls_reason", PySem.Str.ofString "extra_reason", PySem.Str.ofString "WORDS", PySem.Str.ofString "LEAST_NUMBER", PySem.Str.ofString "GREATEST_NUMBER", PySem.Str.ofString "is_instruction", PySem.Str.ofString "ANCHOR_KINDS", PySem.Str.ofString "LONGEST_FEATURE", PySem.Str.ofString "first_fault", PySem.Str.ofString "placed", PySem.Str.ofString "first_glyph_fault", PySem.Str.ofString "first_lookup_fault", PySem.Str.ofString "is_coordinate", PySem.Str.ofString "many_reason", PySem.Str.ofString "unit_reason", PySem.Str.ofString "glyph_reason", PySem.Str.ofString "is_part", PySem.Str.ofString "is_anchor", PySem.Str.ofString "is_delta", PySem.Str.ofString "parts_reason", PySem.Str.ofString "chars_reason", PySem.Str.ofString "features_reason", PySem.Str.ofString "axes_reason", PySem.Str.ofString "regions_reason", PySem.Str.ofString "is_tent", PySem.Str.ofString "functions_reason", PySem.Str.ofString "presets_reason", PySem.Str.ofString "Glyph", PySem.Str.ofString "Rule", PySem.Str.ofString "Lookup", PySem.Str.ofString "Font", PySem.Str.ofString "copied_glyph"]
def loo_2 : List PySem.Str := [PySem.Str.ofString "copied_rule", PySem.Str.ofString "copied_lookup", PySem.Str.ofString "_law_mix", PySem.Str.ofString "_law_numbers", PySem.Str.ofString "_law_take", PySem.Str.ofString "_law_point", PySem.Str.ofString "_law_outline", PySem.Str.ofString "_law_set", PySem.Str.ofString "_law_sets", PySem.Str.ofString "_law_rule", PySem.Str.ofString "_law_lookups", PySem.Str.ofString "_law_font", PySem.Str.ofString "_law_run", PySem.Str.ofString "_law_world", PySem.Str.ofString "_law_patterns", PySem.Str.ofString "_law_status", PySem.Str.ofString "_law_met", PySem.Str.ofString "_law_drawn_side", PySem.Str.ofString "_law_words", PySem.Str.ofString "_law_state", PySem.Str.ofString "_law_broken"]
def loo : List PySem.Str := loo_0 ++ (loo_1 ++ (loo_2))
theorem run_f (w : World) : HandSHeadRun.RunEq R qv (hookC pls cks dfs tbs) (obC pls cks dfs tbs) 20000 loo (w.withFollow "special-get-raises" false) := by
  unfold HandSHeadRun.RunEq
  intro os
  kernel_rfl
theorem run_t (w : World) : HandSHeadRun.RunEq R qv (hookC pls cks dfs tbs) (obC pls cks dfs tbs) 20000 loo (w.withFollow "special-get-raises" true) := by
  unfold HandSHeadRun.RunEq
  intro os
  kernel_rfl
theorem run (w : World) : HandSHeadRun.RunEq R qv (hookC pls cks dfs tbs) (obC pls cks dfs tbs) 20000 loo w :=
  PySem.W.byRow2 "special-get-raises" (P := fun w => HandSHeadRun.RunEq R qv (hookC pls cks dfs tbs) (obC pls cks dfs tbs) 20000 loo w) run_f run_t w
end He2


section
variable {P : Program} {w : World} {K : PySem.W.Frag} {mg : Str → Option Value} {base : Heap}
def fIv (ds : List PyData) (d : PyData) : Prop := ∃ (l : List Int) (n : Nat), ds = [.list (iD l), .int n] ∧ IsSet n l ∧ d = .bool true
theorem ok_is_rising (T : Txt K mg) : Has P w K mg base 1 "is_rising" ps_is_rising (spD fIv) := by
  refine has_of T.d_is_rising sc_is_rising bd_is_rising (fun vs H Q E h => ?_) (fun f cdv A outer s H vs Q E hr h => ?_)
  · obtain ⟨S, ds, d, _, hd, ⟨l, n, rfl, _⟩, _⟩ := h
    rw [hd.len]
    rfl
  · obtain ⟨S, ds, d, hS, hd, ⟨l, n, rfl, hl, rfl⟩, q⟩ := h
    obtain ⟨v2, _, rfl, h2, hd⟩ := hd.consE
    obtain ⟨v3, _, rfl, h3, hd⟩ := hd.consE
    cases hd.nilE
    cases h3.intE
    obtain ⟨e, xs, rfl, he, hel, hE⟩ := lstN (f := PyData.int) h2
    refine ⟨_, (pss_cons (ps_set (i := 2) sc_is_rising.nd rfl (.inl rfl) (pe_un un_neg pe_int))
      (pss_cons (ps_for PassesOwn.never rfl (piL (K := K) rfl (pv 0)) (pg_name (i := 3) sc_is_rising.nd rfl (.inl rfl))
        (pss_cons (ps_if (pt_not (pt_chain op_lt op_lt (pv 2) (pv 3) (pv 1)))
        pss_never
        pss_nil)
      (pss_one (ps_set (i := 2) sc_is_rising.nd rfl (.inl rfl) (pv 3)))))
      (pss_one (ps_ret pe_bl)))), ?_⟩
    walk_at "fl.w"
    refine forK_l (xs := xs) (fun i σ' H' => (∃ u, σ' = [some (.ref e), some (.int (n : Int)), some (.int (prv l i)), u]) ∧ H' = H) ⟨⟨_, rfl⟩, rfl⟩ ?_ ?_ ?_
    · intro i σ' H' _ ⟨_, e⟩
      subst e
      exact SqL.of he
    · intro i x σ' H' hxi ⟨⟨u, e1⟩, e2⟩
      subst e1 e2
      obtain ⟨g, hg1, hx⟩ := hE.getM hxi
      cases hx.intE
      obtain ⟨g1, g2⟩ := hl.up i g hg1
      walk_at "fl.w"
      refine g_yesB g1 ?_
      walk_at "fl.w"
      refine g_nB (show (g : Int) < (n : Int) by omega) ?_
      walk_at "fl.w"
      exact ⟨⟨_, by simp only [prv, hg1, Option.getD_some]; rfl⟩, rfl⟩
    · intro σ' H' ⟨⟨u, e1⟩, e2⟩
      subst e1 e2
      walk_at "fl.w"
      exact q _ _ (L2.Same.refl _) (.bl true)
def fIs (c : Cs) (ds : List PyData) (d : PyData) : Prop := ∃ (f : FoR) (l : List Int), ds = [foD c f, .list (iD l)] ∧ IsSet f.glyphs.length l ∧ f.glyphs.length < 1000 ∧ d = .bool true
theorem ok_is_set (T : Txt K mg) : Has P w K mg base 2 "is_set" ps_is_set (spD (fIs (cs mg))) := by
  obtain ⟨_, _, _, _, _, _, _, _, _, _, _, _, _, _, cF⟩ := T.c_Font
  have clF := cF.cl
  have naF := cF.na
  have h_is_rising := ok_is_rising (P := P) (w := w) (base := base) T
  refine has_of T.d_is_set sc_is_set bd_is_set (fun vs H Q E h => ?_) (fun f cdv A outer s H vs Q E hr h => ?_)
  · obtain ⟨S, ds, d, _, hd, ⟨fo, l, rfl, _⟩, _⟩ := h
    rw [hd.len]
    rfl
  · obtain ⟨S, ds, d, hS, hd, ⟨fo, l, rfl, hl, hg, rfl⟩, q⟩ := h
    obtain ⟨v1, _, rfl, h1, hd⟩ := hd.consE
    obtain ⟨v2, _, rfl, h2, hd⟩ := hd.consE
    cases hd.nilE
    obtain ⟨a, dx, w1, w2, w3, w4, w5, w6, w7, w8, w9, rfl, na, hA, k1, k2, k3, k4, k5, k6, k7, k8, k9⟩ := foE h1
    obtain ⟨b, gs, rfl, hb, hbl, _⟩ := lstN k2
    have h2' := h2
    obtain ⟨e, xs, rfl, he, hel, hE⟩ := lstN (f := PyData.int) h2'
    have hbl' : (gs.length : Int) = (fo.glyphs.length : Int) := by rw [hbl]
    have h0 : (0 : Int) < (xs.length : Int) := by
      have := hl.ne
      cases l with
      | nil => exact absurd rfl this
      | cons _ _ => rw [hel, List.length_cons]; omega
    refine ⟨_, (pss_one (ps_ret (pe_and (pe_cmpR op_gt (pe_callB (clLen (K := K) rfl) (by rfl) T.z_len (by decide +kernel) (pa_cons (pv 1) pa_nil)) pe_int (nomark _)) (pe_one (pe_h h_is_rising (hr.mono (by decide)) (pa_cons (pv 1) (pa_cons (pe_callB (clLen (K := K) rfl) (by rfl) T.z_len (by decide +kernel) (pa_cons (peFld (K := K) rfl (pv 0) rfl) pa_nil)) pa_nil))))))), ?_⟩
    walk_at "fl.w"
    refine g_yesB h0 ?_
    walk_at "fl.w"
    exact spD_app S [.list (iD l), .int (fo.glyphs.length : Int)] (.bool true) hS (.cons h2 (.cons (hbl' ▸ .int _) .nil)) ⟨_, _, rfl, hl, rfl⟩ (fun v H2 sm hv => by exact q _ _ sm hv)
end

section
variable {P : Program} {w : World} {K : PySem.W.Frag} {mg : Str → Option Value} {base : Heap}
def fSr (c : Cs) (ds : List PyData) (d : PyData) : Prop := ∃ (f : FoR) (ks : List Str) (kind : Str) (r : RuV), ds = [foD c f, .str kind, insD c.R r.R.F] ∧ kind ∈ kindsR ∧ r.Ok f.glyphs.length ks kind ∧ FoK f ks ∧ d = .none
theorem ok_sets_reason (T : Txt K mg) (I : InsK K w mg) : Has P w K mg base 3 "sets_reason" ps_sets_reason (spD (fSr (cs mg))) := by
  obtain ⟨_, _, _, _, _, _, _, _, _, _, _, _, _, _, cF⟩ := T.c_Font
  have clF := cF.cl
  have naF := cF.na
  obtain ⟨_, _, _, _, _, _, _, _, cR⟩ := T.c_Rule
  have clR := cR.cl
  have naR := cR.na
  have gd_INSIDE := I.g
  obtain ⟨es, n, kd_INSIDE⟩ := I.d
  have h_is_set := ok_is_set (P := P) (w := w) (base := base) T
  refine has_of T.d_sets_reason sc_sets_reason bd_sets_reason (fun vs H Q E h => ?_) (fun f cdv A outer s H vs Q E hr h => ?_)
  · obtain ⟨S, ds, d, _, hd, ⟨fo, ks, kind, r, rfl, _⟩, _⟩ := h
    rw [hd.len]
    rfl
  · obtain ⟨S, ds, d, hS, hd, ⟨fo, ks, kind, r, rfl, hkd, rok, hg, rfl⟩, q⟩ := h
    obtain ⟨v1, _, rfl, h1, hd⟩ := hd.consE
    obtain ⟨v2, _, rfl, h2, hd⟩ := hd.consE
    obtain ⟨v3, _, rfl, h3, hd⟩ := hd.consE
    cases hd.nilE
    cases h2
    obtain ⟨a, dx, u1, u2, u3, u4, u5, u6, rfl, na, hA, k1, k2, k3, k4, k5, k6⟩ := ruE h3
    obtain ⟨b1, xs1, rfl, hb1, hl1, hD1⟩ := lstN k1
    obtain ⟨b2, xs2, rfl, hb2, hl2, hD2⟩ := lstN k2
    obtain ⟨b3, xs3, rfl, hb3, hl3, hD3⟩ := lstN k3
    obtain ⟨t, lo, hi, hns, hsq, hin⟩ := I.k kind hkd
    have hsq := hsq H
    have hgs := T.gs_WITH_CONTEXT H
    have hll1 : xs1.length = r.inside.length := by rw [hl1]; exact List.length_map _
    have hll2 : xs2.length = r.back.length := by rw [hl2]; exact List.length_map _
    have hll3 : xs3.length = r.ahead.length := by rw [hl3]; exact List.length_map _
    have hlo : lo ≤ (xs1.length : Int) ∧ (xs1.length : Int) ≤ hi := by
      have := rok.i3
      rw [hll1]
      simp only [List.mem_cons, List.not_mem_nil, or_false, Prod.mk.injEq] at hin
      rcases hin with ⟨rfl, rfl, rfl⟩ | ⟨rfl, rfl, rfl⟩ | ⟨rfl, rfl, rfl⟩ | ⟨rfl, rfl, rfl⟩ | ⟨rfl, rfl, rfl⟩
      · have := rok.i (.inl rfl); omega
      · have := rok.i (.inr (.inl rfl)); omega
      · have := rok.i2 rfl; omega
      · omega
      · have := rok.i (.inr (.inr rfl)); omega
    refine ⟨_, (pss_cons (ps_asg (pe_ix ix_kdict (pe_glob (by rfl) gd_INSIDE (v := .ref (adr mg "INSIDE")) rfl) (pv 1) (fun _ _ => rfl)) (pgT (n := 2) (K := K) rfl (by rfl) (pgs_cons (pg_name (i := 3) sc_sets_reason.nd rfl (.inl rfl)) (pgs_cons (pg_name (i := 4) sc_sets_reason.nd rfl (.inl rfl)) pgs_nil))))
      (pss_cons (ps_if (pt_not (pt_chain op_le op_le (pv 3) (pe_callB (clLen (K := K) rfl) (by rfl) T.z_len (by decide +kernel) (pa_cons (peFld (K := K) rfl (pv 2) rfl) pa_nil)) (pv 4)))
        pss_never
        pss_nil)
      (pss_cons (ps_if (PW.pt (pw_or (pt_cmpR op_gt (pe_callB (clLen (K := K) rfl) (by rfl) T.z_len (by decide +kernel) (pa_cons (peFld (K := K) rfl (pv 2) rfl) pa_nil)) (pe_gv (by rfl) T.g_MOST_AROUND) (nomark _)) (pw_or1 (pt_cmpR op_gt (pe_callB (clLen (K := K) rfl) (by rfl) T.z_len (by decide +kernel) (pa_cons (peFld (K := K) rfl (pv 2) rfl) pa_nil)) (pe_gv (by rfl) T.g_MOST_AROUND) (nomark _)))))
        pss_never
        pss_nil)
      (pss_cons (ps_if (PW.pt (pw_and (pt_cmpR (opNotIn (K := K) rfl) (pv 1) (pe_glob (by rfl) T.gt_WITH_CONTEXT (v := .ref (adr mg "WITH_CONTEXT")) rfl) (by rfl)) (pw_and1 (PW.pt (pw_or (ptTru (K := K) rfl (peFld (K := K) rfl (pv 2) rfl) (by intro _; rfl)) (pw_or1 (ptTru (K := K) rfl (peFld (K := K) rfl (pv 2) rfl) (by intro _; rfl))))))))
        pss_never
        pss_nil)
      (pss_cons (ps_if (pt_not (pt_val (pe_callB (clAll (K := K) rfl rfl) (by rfl) T.z_all (by decide +kernel) (pa_cons (pe_lc (own := [("chosen", 5)]) rfl sc_sets_reason.nd (piL (K := K) rfl (pe_op op_cat (pe_op op_cat (peFld (K := K) rfl (pv 2) rfl) (peFld (K := K) rfl (pv 2) rfl)) (peFld (K := K) rfl (pv 2) rfl))) (blkOk_by (by kernel_rfl)) (fun _ _ _ _ _ => (pg_name (i := 5) sc_sets_reason.nd rfl (.inl rfl))) (fun _ _ _ _ _ => pts_nil) (fun _ _ _ _ _ => (pe_h h_is_set (hr.mono (by decide)) (pa_cons (pv 0) (pa_cons (pv 5) pa_nil))))) pa_nil))))
        pss_never
        pss_nil)
      (pss_one (ps_ret pe_non))))))), ?_⟩
    walk_at "fl.w"
    refine g_kd (v := .ref t) ⟨_, _, _, kd_INSIDE.at_, kd_INSIDE.lit, hns, rfl⟩ ?_
    walk_at "fl.w"
    refine g_gtup hsq rfl ?_
    walk_at "fl.w"
    refine g_yesB hlo.1 ?_
    walk_at "fl.w"
    refine g_nB hlo.2 ?_
    walk_at "fl.w"
    refine g_noB (by have := rok.b; omega) ?_
    walk_at "fl.w"
    refine g_noB (by have := rok.a; omega) ?_
    walk_at "fl.w"
    have z1 : xs1.length ≤ 4 := by rw [hll1]; exact rok.i3.2
    have z2 : xs2.length ≤ 3 := by rw [hll2]; exact rok.b
    have z3 : xs3.length ≤ 3 := by rw [hll3]; exact rok.a
    have hkd' := hkd
    simp only [kindsR, List.mem_cons, List.not_mem_nil, or_false] at hkd'
    rcases Decidable.em (kind = "chain" ∨ kind = "reverse") with hc | hc
    all_goals first
      | (refine g_inT (b := false) hgs rfl rfl (by rcases hc with rfl | rfl <;> rfl) ?_; walk_at "fl.w")
      | (have hba := rok.ba hc
         refine g_inT (b := true) hgs rfl rfl (by rcases hkd' with rfl | rfl | rfl | rfl | rfl <;> first | rfl | exact absurd (.inl rfl) hc | exact absurd (.inr rfl) hc) ?_
         walk_at "fl.w"
         refine g_tru0n (SqL.of hb2) (by rw [hll2, hba.1]; rfl) ?_
         walk_at "fl.w"
         refine g_tru0n (SqL.of hb3) (by rw [hll3, hba.2]; rfl) ?_
         walk_at "fl.w")
    all_goals (
      rename_i p1 hp1 p2 hp2
      have hC : DqA S H (xs1 ++ xs2 ++ xs3) ((r.inside ++ r.back ++ r.ahead).map fun l => .list (iD l)) := by
        have := (hD1.app hD2).app hD3
        simp only [RuV.R, List.map_append, List.map_map] at this ⊢
        exact this
      have hsm : Same H (upd (upd H p1 (.lst (xs1 ++ xs2))) p2 (.lst (xs1 ++ xs2 ++ xs3))) := L2.Same.trans (Fl.Same.new hp1) (Fl.Same.new hp2)
      have hq2 : Dq S (upd (upd H p1 (.lst (xs1 ++ xs2))) p2 (.lst (xs1 ++ xs2 ++ xs3))) (.ref p2) (.list ((r.inside ++ r.back ++ r.ahead).map fun l => .list (iD l))) := Dq.newL (hS.same (Fl.Same.new hp1)) hp2 (hC.same (Fl.Same.new hp1))
      have h1s := h1.same hsm
      refine lcL (S := S) (fun i => ((r.inside ++ r.back ++ r.ahead)[i]?).map fun _ => .bool true) (hS.same hsm) hq2 (by simp only [List.length_map, List.length_append]; omega) ?_ ?_
      · intro D i x e H2 hD he sm al hxe R N hR hN
        obtain ⟨l, hl1', rfl⟩ := at_map he
        have h1s := (h1s.new hD).same sm
        refine g_name ⟨rfl, ?_⟩
        walk_at "fl.w"
        exact spD_app (D :: S) [foD (cs mg) fo, .list (iD l)] (.bool true) al (.cons h1s (.cons hxe .nil)) ⟨fo, l, rfl, rok.s l (List.mem_of_getElem? hl1'), hg.g, rfl⟩ (fun v H3 sm3 hv => hR _ _ _ (by rw [hl1']; rfl) sm3 hv)
      · intro D H2 sm hD hq
        rw [fm_ltA (by rw [List.length_map])] at hq
        refine allD hq ?_
        walk_at "fl.w"
        exact q _ _ (L2.Same.trans hsm sm) .non)
end

section
variable {P : Program} {w : World} {K : PySem.W.Frag} {mg : Str → Option Value} {base : Heap}
theorem ok_out_reason (T : Txt K mg) : Has P w K mg base 1 "out_reason" ps_out_reason (spD (fSr (cs mg))) := by
  obtain ⟨_, _, _, _, _, _, _, _, _, _, _, _, _, _, cF⟩ := T.c_Font
  have clF := cF.cl
  have naF := cF.na
  obtain ⟨_, _, _, _, _, _, _, _, cR⟩ := T.c_Rule
  have clR := cR.cl
  have naR := cR.na
  refine has_of T.d_out_reason sc_out_reason bd_out_reason (fun vs H Q E h => ?_) (fun f cdv A outer s H vs Q E hr h => ?_)
  · obtain ⟨S, ds, d, _, hd, ⟨fo, ks, kind, r, rfl, _⟩, _⟩ := h
    rw [hd.len]
    rfl
  · obtain ⟨S, ds, d, hS, hd, ⟨fo, ks, kind, r, rfl, hkd, rok, hg, rfl⟩, q⟩ := h
    obtain ⟨v1, _, rfl, h1, hd⟩ := hd.consE
    obtain ⟨v2, _, rfl, h2, hd⟩ := hd.consE
    obtain ⟨v3, _, rfl, h3, hd⟩ := hd.consE
    cases hd.nilE
    cases h2
    obtain ⟨a, dx, u1, u2, u3, u4, u5, u6, rfl, na, hA, k1, k2, k3, k4, k5, k6⟩ := ruE h3
    obtain ⟨b1, xs1, rfl, hb1, hl1, hD1⟩ := lstN k1
    obtain ⟨b4, xs4, rfl, hb4, hl4, hD4⟩ := lstN (f := PyData.int) k4
    obtain ⟨fa, fdx, w1, w2, w3, w4, w5, w6, w7, w8, w9, rfl, fna, fA, j1, j2, j3, j4, j5, j6, j7, j8, j9⟩ := foE h1
    obtain ⟨gb, gs, rfl, hgb, hgl, _⟩ := lstN j2
    have hgs := T.gs_WITH_OUT H
    have hll1 : xs1.length = r.inside.length := by rw [hl1]; exact List.length_map _
    have z4 := rok.o
    have z4l : xs4.length = r.out.length := hl4
    obtain ⟨c0, hc0⟩ : ∃ c, r.inside[0]? = some c := ⟨_, List.getElem?_eq_getElem (by have := rok.i3; omega)⟩
    have hD1' : DqA S H xs1 (r.inside.map fun l => .list (iD l)) := by
      simp only [RuV.R, List.map_map] at hD1
      exact hD1
    obtain ⟨x0, hx0, hx0D⟩ := hD1'.getD (i := 0) (by rw [List.getElem?_map, hc0]; rfl)
    obtain ⟨b0, ys0, rfl, hb0, hl0, _⟩ := lstN (f := PyData.int) hx0D
    have hat : atI xs1 0 = some (.ref b0) := atI_nat (j := 0) hx0
    have hkd' := hkd
    simp only [kindsR, List.mem_cons, List.not_mem_nil, or_false] at hkd'
    refine ⟨_, (pss_cons (ps_set (i := 3) sc_out_reason.nd rfl (.inl rfl) (pe_callB (clLen (K := K) rfl) (by rfl) T.z_len (by decide +kernel) (pa_cons (peFld (K := K) rfl (pv 2) rfl) pa_nil)))
      (pss_cons (ps_if (pt_cmpR op_gt (pv 3) (pe_gv (by rfl) T.g_MOST_OUT) (nomark _))
        pss_never
        pss_nil)
      (pss_cons (ps_if (pt_not (pt_val (pe_callB (clAll (K := K) rfl rfl) (by rfl) T.z_all (by decide +kernel) (pa_cons (pe_lc (own := [("glyph", 4)]) rfl sc_out_reason.nd (piL (K := K) rfl (peFld (K := K) rfl (pv 2) rfl)) (blkOk_by (by kernel_rfl)) (fun _ _ _ _ _ => (pg_name (i := 4) sc_out_reason.nd rfl (.inl rfl))) (fun _ _ _ _ _ => pts_nil) (fun _ _ _ _ _ => (pe_chain op_le op_lt pe_int (pv 4) (pe_callB (clLen (K := K) rfl) (by rfl) T.z_len (by decide +kernel) (pa_cons (peFld (K := K) rfl (pv 0) rfl) pa_nil))))) pa_nil))))
        pss_never
        pss_nil)
      (pss_cons (ps_if (PW.pt (pw_and (pt_cmpR (opNotIn (K := K) rfl) (pv 1) (pe_glob (by rfl) T.gt_WITH_OUT (v := .ref (adr mg "WITH_OUT")) rfl) (by rfl)) (pw_and1 (pt_cmpR op_gt (pv 3) pe_int (nomark _)))))
        pss_never
        pss_nil)
      (pss_cons (ps_if (PW.pt (pw_and (pt_cmpR (opIn (K := K) rfl) (pv 1) (pe_tup (pa_cons pe_str (pa_cons pe_str pa_nil))) (by rfl)) (pw_and1 (pt_cmpR op_ne (pv 3) (pe_callB (clLen (K := K) rfl) (by rfl) T.z_len (by decide +kernel) (pa_cons (pe_ix (ixL (K := K) rfl) (peFld (K := K) rfl (pv 2) rfl) pe_int (fun _ _ => rfl)) pa_nil)) (nomark _)))))
        pss_never
        pss_nil)
      (pss_cons (ps_if (PW.pt (pw_and (pt_cmpR op_eq (pv 1) pe_str (nomark _)) (pw_and1 (pt_cmpR op_ne (pv 3) pe_int (nomark _)))))
        pss_never
        pss_nil)
      (pss_one (ps_ret pe_non)))))))), ?_⟩
    walk_at "fl.w"
    refine g_noB (by omega) ?_
    walk_at "fl.w"
    refine lcL (S := S) (fun i => (r.out[i]?).map fun _ => .bool true) hS k4 (by show (r.out.map PyData.int).length < 1000; rw [List.length_map]; omega) ?_ ?_
    · intro D i x e H2 hD he sm al hxe R N hR hN
      obtain ⟨g, hg1, rfl⟩ := at_map (f := PyData.int) he
      cases hxe.intE
      have hgg := rok.og g (List.mem_of_getElem? hg1)
      have fA2 := sm _ _ fA
      have hgb2 := sm _ _ hgb
      refine g_name ⟨rfl, ?_⟩
      walk_at "fl.w"
      refine g_yesB hgg.1 ?_
      walk_at "fl.w"
      rw [decide_eq_true (show g < (gs.length : Int) by omega)]
      exact hR _ _ _ (by rw [hg1]; rfl) (L2.Same.refl _) (.bl _)
    intro D H2 sm hD hq
    rw [fm_ltA (by show (r.out.map PyData.int).length = _; rw [List.length_map])] at hq
    refine allD hq ?_
    have hA := sm _ _ hA
    have hb1 := sm _ _ hb1
    have hb4 := sm _ _ hb4
    have hgs := T.gs_WITH_OUT H2
    have hb0 := sm _ _ hb0
    walk_at "fl.w"
    rcases hkd' with rfl | rfl | rfl | rfl | rfl
    all_goals (
      first
        | (refine g_inT (b := false) hgs rfl rfl rfl ?_
           walk_at "fl.w")
        | (refine g_inT (b := true) hgs rfl rfl rfl ?_
           walk_at "fl.w"
           refine g_noB (by have := congrArg List.length (rok.oc rfl); simp only [List.length_nil] at this; omega) ?_
           walk_at "fl.w")
      rename_i p hp
      first
        | (refine g_inT (b := false) (SqT.of upd_same) rfl rfl rfl ?_
           walk_at "fl.w")
        | (refine g_inT (b := true) (SqT.of upd_same) rfl rfl rfl ?_
           walk_at "fl.w"
           refine g_nB (by first | (have := rok.os (.inl rfl) c0 hc0; omega) | (have := rok.os (.inr rfl) c0 hc0; omega)) ?_
           walk_at "fl.w")
      first
        | (refine g_noB (by decide) ?_
           walk_at "fl.w")
        | (refine g_yesB (by decide) ?_
           walk_at "fl.w"
           refine g_nB (by have := rok.ol rfl; omega) ?_
           walk_at "fl.w")
      exact q _ _ (L2.Same.trans sm (Fl.Same.new hp)) .non)
end

section
variable {P : Program} {w : World} {K : PySem.W.Frag} {mg : Str → Option Value} {base : Heap}
theorem ok_calls_reason (T : Txt K mg) : Has P w K mg base 1 "calls_reason" ps_calls_reason (spD (fSr (cs mg))) := by
  obtain ⟨_, _, _, _, _, _, _, _, _, _, _, _, _, _, cF⟩ := T.c_Font
  have clF := cF.cl
  have naF := cF.na
  obtain ⟨_, _, _, _, _, _, _, _, cR⟩ := T.c_Rule
  have clR := cR.cl
  have naR := cR.na
  have clL := T.c_Lookup.cl
  have naL := T.c_Lookup.na
  refine has_of T.d_calls_reason sc_calls_reason bd_calls_reason (fun vs H Q E h => ?_) (fun f cdv A outer s H vs Q E hr h => ?_)
  · obtain ⟨S, ds, d, _, hd, ⟨fo, ks, kind, r, rfl, _⟩, _⟩ := h
    rw [hd.len]
    rfl
  · obtain ⟨S, ds, d, hS, hd, ⟨fo, ks, kind, r, rfl, hkd, rok, hg, rfl⟩, q⟩ := h
    obtain ⟨v1, _, rfl, h1, hd⟩ := hd.consE
    obtain ⟨v2, _, rfl, h2, hd⟩ := hd.consE
    obtain ⟨v3, _, rfl, h3, hd⟩ := hd.consE
    cases hd.nilE
    cases h2
    obtain ⟨a, dx, u1, u2, u3, u4, u5, u6, rfl, na, hA, k1, k2, k3, k4, k5, k6⟩ := ruE h3
    obtain ⟨b1, xs1, rfl, hb1, hl1, hD1⟩ := lstN k1
    obtain ⟨b5, xs5, rfl, hb5, hl5, hD5⟩ := lstN k5
    obtain ⟨fa, fdx, w1, w2, w3, w4, w5, w6, w7, w8, w9, rfl, fna, fA, j1, j2, j3, j4, j5, j6, j7, j8, j9⟩ := foE h1
    obtain ⟨lb, ls, rfl, hlb, hll, hlD⟩ := lstN j4
    have hll1 : xs1.length = r.inside.length := by rw [hl1]; exact List.length_map _
    have hll5 : xs5.length = r.calls.length := by rw [hl5]; exact List.length_map _
    have hD5' : DqA S H xs5 (r.calls.map fun p => .tuple [.int p.1, .int p.2]) := by
      simp only [RuV.R, List.map_map] at hD5
      exact hD5
    refine ⟨_, (pss_cons (ps_if (PW.pt (pw_and (pt_cmpR op_ne (pv 1) pe_str (nomark _)) (pw_and1 (ptTru (K := K) rfl (peFld (K := K) rfl (pv 2) rfl) (by intro _; rfl)))))
        pss_never
        pss_nil)
      (pss_cons (ps_set (i := 3) sc_calls_reason.nd rfl (.inl rfl) (pe_un un_neg pe_int))
      (pss_cons (ps_for PassesOwn.never rfl (piL (K := K) rfl (peFld (K := K) rfl (pv 2) rfl)) (pgT (n := 2) (K := K) rfl (by rfl) (pgs_cons (pg_name (i := 4) sc_calls_reason.nd rfl (.inl rfl)) (pgs_cons (pg_name (i := 5) sc_calls_reason.nd rfl (.inl rfl)) pgs_nil)))
        (pss_cons (ps_if (pt_not (pt_chain op_lt op_lt (pv 3) (pv 4) (pe_callB (clLen (K := K) rfl) (by rfl) T.z_len (by decide +kernel) (pa_cons (peFld (K := K) rfl (pv 2) rfl) pa_nil))))
        pss_never
        pss_nil)
      (pss_cons (ps_if (PW.pt (pw_or (pt_not (pt_chain op_le op_lt pe_int (pv 5) (pe_callB (clLen (K := K) rfl) (by rfl) T.z_len (by decide +kernel) (pa_cons (peFld (K := K) rfl (pv 0) rfl) pa_nil)))) (pw_or1 (pt_cmpR (opNotIn (K := K) rfl) (peFld (K := K) rfl (pe_ix (ixL (K := K) rfl) (peFld (K := K) rfl (pv 0) rfl) (pv 5) (fun _ _ => rfl)) rfl) (pe_tup (pa_cons pe_str (pa_cons pe_str pa_nil))) (by rfl)))))
        pss_never
        pss_nil)
      (pss_one (ps_set (i := 3) sc_calls_reason.nd rfl (.inl rfl) (pv 4))))))
      (pss_one (ps_ret pe_non))))), ?_⟩
    walk_at "fl.w"
    refine g_neS ?_
    walk_at "fl.w"
    rcases Decidable.em (kind = "chain") with hc | hc
    all_goals (
      first
        | (refine g_nB hc ?_
           walk_at "fl.w")
        | (refine g_noNB hc ?_
           walk_at "fl.w"
           refine g_tru0n (SqL.of hb5) (by rw [hll5, rok.c hc]; rfl) ?_
           walk_at "fl.w")
      refine forK_l (xs := xs5) (fun i σ' H' => (∃ u1 u2, σ' = [some (.ref fa), some (.str kind), some (.ref a), some (.int (prv (r.calls.map Prod.fst) i)), u1, u2]) ∧ Same H H') ⟨⟨_, _, rfl⟩, L2.Same.refl _⟩ ?_ ?_ ?_
      · intro i σ' H' _ ⟨_, e⟩
        exact SqL.of (e _ _ hb5)
      · intro i x σ' H' hxi ⟨⟨u1, u2, e1⟩, sm⟩
        subst e1
        obtain ⟨⟨ci, cl⟩, hc1, hx⟩ := (hD5'.same sm).getM hxi
        obtain ⟨t5, zs, rfl, _, ht5, hZ⟩ := hx.tupE
        obtain ⟨y1, zs, rfl, hy1, hZ⟩ := hZ.consE
        obtain ⟨y2, zs, rfl, hy2, hZ⟩ := hZ.consE
        cases hZ.nilE
        cases hy1.intE
        cases hy2.intE
        obtain ⟨c1, c2, c3, k, hk1, hk2⟩ := rok.cu i (ci, cl) hc1
        simp only at c1 c2 c3 hk1
        obtain ⟨lk, hlk1, hlk2⟩ := hg.k _ k hk1
        obtain ⟨n, rfl⟩ : ∃ n : Nat, cl = n := ⟨cl.toNat, by omega⟩
        rw [Int.toNat_natCast] at hlk1
        obtain ⟨x6, hx6, hx6D⟩ := (hlD.same sm).getD (i := n) (by rw [List.getElem?_map, hlk1]; rfl)
        obtain ⟨la, ldx, l1, l2, l3, rfl, _, hlA, m1, m2, m3⟩ := lkE hx6D
        rw [hlk2] at m1
        cases m1
        have hat : atI ls (n : Int) = some (.ref la) := atI_nat (j := n) hx6
        have hln := (List.getElem?_eq_some_iff.mp hx6).1
        have hA := sm _ _ hA
        have fA := sm _ _ fA
        have hb1 := sm _ _ hb1
        have hlb := sm _ _ hlb
        walk_at "fl.w"
        refine g_yesB c1 ?_
        walk_at "fl.w"
        refine g_nB (by rw [hll1]; exact c2) ?_
        walk_at "fl.w"
        refine g_yesB c3 ?_
        walk_at "fl.w"
        refine g_nB (by omega) ?_
        walk_at "fl.w"
        rename_i p hp
        refine g_inT (b := false) (SqT.of upd_same) rfl rfl (by rcases hk2 with rfl | rfl <;> rfl) ?_
        walk_at "fl.w"
        refine ⟨⟨some (.int ci), some (.int (n : Int)), ?_⟩, L2.Same.trans sm (Fl.Same.new hp)⟩
        have e : prv (r.calls.map Prod.fst) (i + 1) = ci := by simp only [prv, List.getElem?_map, hc1, Option.map_some, Option.getD_some]
        rw [e]
        rfl
      · intro σ' H' ⟨⟨u1, u2, e1⟩, sm⟩
        subst e1
        walk_at "fl.w"
        exact q _ _ sm .non)
def fEr (c : Cs) (ds : List PyData) (d : PyData) : Prop := ∃ (kind : Str) (r : RuV), ds = [.str kind, insD c.R r.R.F] ∧ d = .none
theorem ok_extra_reason (T : Txt K mg) : Has P w K mg base 1 "extra_reason" ps_extra_reason (spD (fEr (cs mg))) := by
  obtain ⟨_, _, _, _, _, _, _, _, cR⟩ := T.c_Rule
  have clR := cR.cl
  have naR := cR.na
  refine has_of T.d_extra_reason sc_extra_reason bd_extra_reason (fun vs H Q E h => ?_) (fun f cdv A outer s H vs Q E hr h => ?_)
  · obtain ⟨S, ds, d, _, hd, ⟨kind, r, rfl, _⟩, _⟩ := h
    rw [hd.len]
    rfl
  · obtain ⟨S, ds, d, hS, hd, ⟨kind, r, rfl, rfl⟩, q⟩ := h
    obtain ⟨v2, _, rfl, h2, hd⟩ := hd.consE
    obtain ⟨v3, _, rfl, h3, hd⟩ := hd.consE
    cases hd.nilE
    cases h2
    obtain ⟨a, dx, u1, u2, u3, u4, u5, u6, rfl, na, hA, k1, k2, k3, k4, k5, k6⟩ := ruE h3
    cases k6
    refine ⟨_, (pss_cons (ps_if (PW.pt (pw_and (pt_cmpR op_ne (pv 0) pe_str (nomark _)) (pw_and1 (pt_cmpR op_ne (peFld (K := K) rfl (pv 1) rfl) pe_int (nomark _)))))
        pss_never
        pss_nil)
      (pss_cons (ps_if (pt_not (pt_chain op_le op_le (pe_un un_neg (pe_gv (by rfl) T.g_FARTHEST)) (peFld (K := K) rfl (pv 1) rfl) (pe_gv (by rfl) T.g_FARTHEST)))
        pss_never
        pss_nil)
      (pss_one (ps_ret pe_non)))), ?_⟩
    walk_at "fl.w"
    refine g_neS ?_
    walk_at "fl.w"
    rcases Decidable.em (kind = "pair") with hc | hc
    all_goals (
      first
        | (refine g_nB hc ?_
           walk_at "fl.w")
        | (refine g_noNB hc ?_
           walk_at "fl.w"
           refine g_nB rfl ?_
           walk_at "fl.w")
      refine g_yesB (by decide) ?_
      walk_at "fl.w"
      refine g_nB (by decide) ?_
      walk_at "fl.w"
      exact q _ _ (L2.Same.refl _) .non)
def fLr (c : Cs) (ds : List PyData) (d : PyData) : Prop := ∃ (f : FoR) (ks : List Str) (k : LkV), ds = [foD c f, lkD c k.R] ∧ k.Ok f.glyphs.length ks ∧ FoK f ks ∧ d = .none
theorem ok_lookup_reason (T : Txt K mg) (I : InsK K w mg) : Has P w K mg base 4 "lookup_reason" ps_lookup_reason (spD (fLr (cs mg))) := by
  have clL := T.c_Lookup.cl
  have naL := T.c_Lookup.na
  have gd_INSIDE := I.g
  obtain ⟨es, n, kd_INSIDE⟩ := I.d
  have h_sets_reason := ok_sets_reason (P := P) (base := base) T I
  have h_out_reason := ok_out_reason (P := P) (w := w) (base := base) T
  have h_calls_reason := ok_calls_reason (P := P) (w := w) (base := base) T
  have h_extra_reason := ok_extra_reason (P := P) (w := w) (base := base) T
  refine has_of T.d_lookup_reason sc_lookup_reason bd_lookup_reason (fun vs H Q E h => ?_) (fun f cdv A outer s H vs Q E hr h => ?_)
  · obtain ⟨S, ds, d, _, hd, ⟨fo, ks, k, rfl, _⟩, _⟩ := h
    rw [hd.len]
    rfl
  · obtain ⟨S, ds, d, hS, hd, ⟨fo, ks, k, rfl, kok, hg, rfl⟩, q⟩ := h
    obtain ⟨v1, _, rfl, h1, hd⟩ := hd.consE
    obtain ⟨v2, _, rfl, h2, hd⟩ := hd.consE
    cases hd.nilE
    obtain ⟨a, dx, u1, u2, u3, rfl, na, hA, k1, k2, k3⟩ := lkE h2
    cases k1
    obtain ⟨b, xs, rfl, hb, hl, hD⟩ := lstN k2
    have hll : xs.length = k.rules.length := by rw [hl]; exact List.length_map _
    have hz := kok.r
    obtain ⟨t, lo, hi, hns, hsq, hin⟩ := I.k k.kind kok.k
    have hD' : DqA S H xs (k.rules.map fun r => insD (adr mg "Rule") r.R.F) := by
      simp only [LkV.R, List.map_map] at hD
      exact hD
    refine ⟨_, (pss_cons (ps_if (pt_cmpR (op_notIn_kd kd_INSIDE) (peFld (K := K) rfl (pv 1) rfl) (pe_glob (by rfl) gd_INSIDE (v := .ref (adr mg "INSIDE")) rfl) (by rfl))
        pss_never
        pss_nil)
      (pss_cons (ps_if (pt_cmpR op_gt (pe_callB (clLen (K := K) rfl) (by rfl) T.z_len (by decide +kernel) (pa_cons (peFld (K := K) rfl (pv 1) rfl) pa_nil)) (pe_gv (by rfl) T.g_MOST_RULES) (nomark _))
        pss_never
        pss_nil)
      (pss_cons (ps_for PassesOwn.never rfl (piL (K := K) rfl (peFld (K := K) rfl (pv 1) rfl)) (pg_name (i := 2) sc_lookup_reason.nd rfl (.inl rfl))
        (pss_cons (ps_set (i := 3) sc_lookup_reason.nd rfl (.inl rfl) (peOrT (K := K) rfl (pe_h h_sets_reason (hr.mono (by decide)) (pa_cons (pv 0) (pa_cons (peFld (K := K) rfl (pv 1) rfl) (pa_cons (pv 2) pa_nil)))) (pe_one (pe_h h_out_reason (hr.mono (by decide)) (pa_cons (pv 0) (pa_cons (peFld (K := K) rfl (pv 1) rfl) (pa_cons (pv 2) pa_nil)))))))
      (pss_cons (ps_set (i := 3) sc_lookup_reason.nd rfl (.inl rfl) (peOrT (K := K) rfl (pv 3) (peOrT (K := K) rfl (pe_h h_calls_reason (hr.mono (by decide)) (pa_cons (pv 0) (pa_cons (peFld (K := K) rfl (pv 1) rfl) (pa_cons (pv 2) pa_nil)))) (pe_one (pe_h h_extra_reason (hr.mono (by decide)) (pa_cons (peFld (K := K) rfl (pv 1) rfl) (pa_cons (pv 2) pa_nil)))))))
      (pss_one (ps_if (pt_cmpR op_notN (pv 3) pe_non (nomark _))
        pss_never
        pss_nil)))))
      (pss_one (ps_ret pe_non))))), ?_⟩
    walk_at "fl.w"
    refine ⟨_, _, rfl, rfl, hns, ?_⟩
    simp only [Option.isSome_some, Bool.not_true]
    walk_at "fl.w"
    refine g_noB (by omega) ?_
    walk_at "fl.w"
    refine forK_l (xs := xs) (fun i σ' H' => (∃ u1 u2, σ' = [some v1, some (.ref a), u1, u2]) ∧ Same H H') ⟨⟨_, _, rfl⟩, L2.Same.refl _⟩ ?_ ?_ ?_
    · intro i σ' H' _ ⟨_, e⟩
      exact SqL.of (e _ _ hb)
    · intro i x σ' H' hxi ⟨⟨u1, u2, e1⟩, sm⟩
      subst e1
      obtain ⟨r, hr1, hx⟩ := (hD'.same sm).getM hxi
      have rok := kok.ro r (List.mem_of_getElem? hr1)
      have hA1 := sm _ _ hA
      have h1s := h1.same sm
      have hS1 := hS.same sm
      walk_at "fl.w"
      refine spD_app S [foD (cs mg) fo, .str k.kind, insD (adr mg "Rule") r.R.F] .none hS1 (.cons h1s (.cons (.str _) (.cons hx .nil))) ⟨fo, ks, k.kind, r, rfl, kok.k, rok, hg, rfl⟩ (fun v H2 sm2 hv => ?_)
      cases hv.nonE
      have hA2 := sm2 _ _ hA1
      have h1s := h1s.same sm2
      have hx := hx.same sm2
      have hS2 := hS1.same sm2
      walk_at "fl.w"
      refine spD_app S [foD (cs mg) fo, .str k.kind, insD (adr mg "Rule") r.R.F] .none hS2 (.cons h1s (.cons (.str _) (.cons hx .nil))) ⟨fo, ks, k.kind, r, rfl, kok.k, rok, hg, rfl⟩ (fun v H3 sm3 hv => ?_)
      cases hv.nonE
      have hA3 := sm3 _ _ hA2
      have h1s := h1s.same sm3
      have hx := hx.same sm3
      have hS3 := hS2.same sm3
      walk_at "fl.w"
      refine spD_app S [foD (cs mg) fo, .str k.kind, insD (adr mg "Rule") r.R.F] .none hS3 (.cons h1s (.cons (.str _) (.cons hx .nil))) ⟨fo, ks, k.kind, r, rfl, kok.k, rok, hg, rfl⟩ (fun v H4 sm4 hv => ?_)
      cases hv.nonE
      have hA4 := sm4 _ _ hA3
      have hx := hx.same sm4
      have hS4 := hS3.same sm4
      walk_at "fl.w"
      refine spD_app S [.str k.kind, insD (adr mg "Rule") r.R.F] .none hS4 (.cons (.str _) (.cons hx .nil)) ⟨k.kind, r, rfl, rfl⟩ (fun v H5 sm5 hv => ?_)
      cases hv.nonE
      walk_at "fl.w"

      exact ⟨⟨_, _, rfl⟩, (((sm.trans sm2).trans sm3).trans sm4).trans sm5⟩
    · intro σ' H' ⟨⟨u1, u2, e1⟩, sm⟩
      subst e1
      walk_at "fl.w"
      exact q _ _ sm .non
end

section
variable {P : Program} {w : World} {K : PySem.W.Frag} {mg : Str → Option Value} {base : Heap}
def fFv (c : Cs) (ds : List PyData) (d : PyData) : Prop := ∃ f : FoV, f.Ok ∧ ds = [foD c f.R] ∧ d = .none
def spNo : Sp := fun _ _ _ _ => False
theorem ok_first_lookup_fault (T : Txt K mg) (I : InsK K w mg) : Has P w K mg base 5 "first_lookup_fault" ps_first_lookup_fault (spD (fFv (cs mg))) := by
  obtain ⟨_, _, _, _, _, _, _, _, _, _, _, _, _, _, cF⟩ := T.c_Font
  have clF := cF.cl
  have naF := cF.na
  have h_lookup_reason := ok_lookup_reason (P := P) (base := base) T I
  refine has_of T.d_first_lookup_fault sc_first_lookup_fault bd_first_lookup_fault (fun vs H Q E h => ?_) (fun f cdv A outer s H vs Q E hr h => ?_)
  · obtain ⟨S, ds, d, _, hd, ⟨fo, fok, rfl, rfl⟩, _⟩ := h
    rw [hd.len]
    rfl
  · obtain ⟨S, ds, d, hS, hd, ⟨fo, fok, rfl, rfl⟩, q⟩ := h
    obtain ⟨v1, _, rfl, h1, hd⟩ := hd.consE
    cases hd.nilE
    have h1' := h1
    obtain ⟨fa, fdx, w1, w2, w3, w4, w5, w6, w7, w8, w9, rfl, fna, fA, j1, j2, j3, j4, j5, j6, j7, j8, j9⟩ := foE h1'
    obtain ⟨lb, ls, rfl, hlb, hll, hlD⟩ := lstN j4
    have hlD' : DqA S H ls (fo.lks.map fun k => lkD (cs mg) k.R) := by
      simp only [FoV.R, List.map_map] at hlD
      exact hlD
    have fk : FoK fo.R (fo.lks.map LkV.kind) := by
      refine ⟨?_, ?_, fun i k hk => ?_⟩
      · have := fok.g.2
        show (fo.glyphs.map GlV.R).length < 1000
        rw [List.length_map]
        omega
      · have := fok.l
        show (fo.lks.map LkV.R).length < 1000
        rw [List.length_map]
        omega
      · rw [List.getElem?_map] at hk
        cases hx : fo.lks[i]? with
        | none => rw [hx] at hk; cases hk
        | some lk =>
          rw [hx] at hk
          cases hk
          exact ⟨lk.R, by show (fo.lks.map LkV.R)[i]? = _; rw [List.getElem?_map, hx]; rfl, rfl⟩
    have hgl : fo.R.glyphs.length = fo.glyphs.length := List.length_map _
    refine ⟨_, (pss_cons (ps_for PassesOwn.never rfl (piEnum (K := K) rfl (by rfl) T.z_enumerate (pa_cons (peFld (K := K) rfl (pv 0) rfl) pa_nil)) (pgT (n := 2) (K := K) rfl (by rfl) (pgs_cons (pg_name (i := 1) sc_first_lookup_fault.nd rfl (.inl rfl)) (pgs_cons (pg_name (i := 2) sc_first_lookup_fault.nd rfl (.inl rfl)) pgs_nil)))
        (pss_cons (ps_set (i := 3) sc_first_lookup_fault.nd rfl (.inl rfl) (pe_h h_lookup_reason (hr.mono (by decide)) (pa_cons (pv 0) (pa_cons (pv 2) pa_nil))))
      (pss_one (ps_if (pt_cmpR op_notN (pv 3) pe_non (nomark _))
        pss_never
        pss_nil))))
      (pss_one (ps_ret pe_non))), ?_⟩
    walk_at "fl.w"
    refine forK_e (xs := ls) (fun i σ' H' => (∃ u1 u2 u3, σ' = [some (.ref fa), u1, u2, u3]) ∧ Same H H') ⟨⟨_, _, _, rfl⟩, L2.Same.refl _⟩ ?_ ?_ ?_
    · intro i σ' H' _ ⟨_, e⟩
      exact SqL.of (e _ _ hlb)
    · intro i x t σ' H' hxi ⟨⟨u1, u2, u3, e1⟩, sm⟩ ht
      subst e1
      obtain ⟨k, hk1, hx⟩ := (hlD'.same sm).getM hxi
      have sm2 : Same H (upd H' t (.tup [.int (i : Int), x])) := L2.Same.trans sm (Fl.Same.new ht)
      have h1s := h1.same sm2
      have hxs := hx.same (Fl.Same.new ht (o := .tup [.int (i : Int), x]))
      have hS2 := hS.same sm2
      refine g_gtup (SqT.of upd_same) rfl ?_
      walk_at "fl.w"
      refine spD_app S [foD (cs mg) fo.R, lkD (cs mg) k.R] .none hS2 (.cons h1s (.cons hxs .nil)) ⟨fo.R, _, k, rfl, by rw [hgl]; exact fok.lo k (List.mem_of_getElem? hk1), fk, rfl⟩ (fun v H3 sm3 hv => ?_)
      cases hv.nonE
      walk_at "fl.w"
      exact ⟨⟨_, _, _, rfl⟩, sm2.trans sm3⟩
    · intro σ' H' ⟨⟨u1, u2, u3, e1⟩, sm⟩
      subst e1
      walk_at "fl.w"
      exact q _ _ sm .non
def fMr (ds : List PyData) (d : PyData) : Prop := ∃ (L : List PyData) (lo hi : Int), ds = [.list L, .int lo, .int hi] ∧ lo ≤ L.length ∧ (L.length : Int) ≤ hi ∧ d = .none
theorem ok_many_reason (T : Txt K mg) : Has P w K mg base 1 "many_reason" ps_many_reason (spD fMr) := by
  refine has_of T.d_many_reason sc_many_reason bd_many_reason (fun vs H Q E h => ?_) (fun f cdv A outer s H vs Q E hr h => ?_)
  · obtain ⟨S, ds, d, _, hd, ⟨L, lo, hi, rfl, _⟩, _⟩ := h
    rw [hd.len]
    rfl
  · obtain ⟨S, ds, d, hS, hd, ⟨L, lo, hi, rfl, z1, z2, rfl⟩, q⟩ := h
    obtain ⟨v1, _, rfl, h1, hd⟩ := hd.consE
    obtain ⟨v2, _, rfl, h2, hd⟩ := hd.consE
    obtain ⟨v3, _, rfl, h3, hd⟩ := hd.consE
    cases hd.nilE
    cases h2.intE
    cases h3.intE
    obtain ⟨b, xs, rfl, _, hb, hD⟩ := h1.lstE
    have hl := hD.len
    refine ⟨_, (pss_cons (ps_if (pt_not (pt_chain op_le op_le (pv 1) (pe_callB (clLen (K := K) rfl) (by rfl) T.z_len (by decide +kernel) (pa_cons (pv 0) pa_nil)) (pv 2)))
        pss_never
        pss_nil)
      (pss_one (ps_ret pe_non))), ?_⟩
    walk_at "fl.w"
    refine g_yesB (by rw [hl]; exact z1) ?_
    walk_at "fl.w"
    refine g_nB (by rw [hl]; exact z2) ?_
    walk_at "fl.w"
    exact q _ _ (L2.Same.refl _) .non
theorem ok_unit_reason (T : Txt K mg) : Has P w K mg base 1 "unit_reason" ps_unit_reason (spD (fFv (cs mg))) := by
  obtain ⟨_, _, _, _, _, _, _, _, _, _, _, _, _, _, cF⟩ := T.c_Font
  have clF := cF.cl
  have naF := cF.na
  refine has_of T.d_unit_reason sc_unit_reason bd_unit_reason (fun vs H Q E h => ?_) (fun f cdv A outer s H vs Q E hr h => ?_)
  · obtain ⟨S, ds, d, _, hd, ⟨fo, fok, rfl, rfl⟩, _⟩ := h
    rw [hd.len]
    rfl
  · obtain ⟨S, ds, d, hS, hd, ⟨fo, fok, rfl, rfl⟩, q⟩ := h
    obtain ⟨v1, _, rfl, h1, hd⟩ := hd.consE
    cases hd.nilE
    obtain ⟨fa, fdx, w1, w2, w3, w4, w5, w6, w7, w8, w9, rfl, fna, fA, j1, j2, j3, j4, j5, j6, j7, j8, j9⟩ := foE h1
    cases j1
    refine ⟨_, (pss_cons (ps_if (pt_not (pt_chain op_le op_le pe_int (peFld (K := K) rfl (pv 0) rfl) (pe_gv (by rfl) T.g_FARTHEST)))
        pss_never
        pss_nil)
      (pss_one (ps_ret pe_non))), ?_⟩
    walk_at "fl.w"
    refine g_yesB (by decide) ?_
    walk_at "fl.w"
    refine g_nB (by decide) ?_
    walk_at "fl.w"
    exact q _ _ (L2.Same.refl _) .non
def fPl (ds : List PyData) (d : PyData) : Prop := ∃ x : Str, ds = [.str x, .none] ∧ d = .none
theorem ok_placed (T : Txt K mg) : Has P w K mg base 1 "placed" ps_placed (spD fPl) := by
  refine has_of T.d_placed sc_placed bd_placed (fun vs H Q E h => ?_) (fun f cdv A outer s H vs Q E hr h => ?_)
  · obtain ⟨S, ds, d, _, hd, ⟨x, rfl, rfl⟩, _⟩ := h
    rw [hd.len]
    rfl
  · obtain ⟨S, ds, d, hS, hd, ⟨x, rfl, rfl⟩, q⟩ := h
    obtain ⟨v1, _, rfl, h1, hd⟩ := hd.consE
    obtain ⟨v2, _, rfl, h2, hd⟩ := hd.consE
    cases hd.nilE
    cases h2.nonE
    refine ⟨_, (pss_cons (ps_if (pt_cmpR op_isN (pv 1) pe_non (nomark _))
        (pss_one (ps_ret pe_non))
        pss_nil)
      (pss_one (ps_ret (pe_tup (pa_cons (pv 0) (pa_cons (pv 1) pa_nil)))))), ?_⟩
    walk_at "fl.w"
    exact q _ _ (L2.Same.refl _) .non
theorem ok_chars_reason (T : Txt K mg) : Has P w K mg base 1 "chars_reason" ps_chars_reason (spD (fFv (cs mg))) := by
  obtain ⟨_, _, _, _, _, _, _, _, _, _, _, _, _, _, cF⟩ := T.c_Font
  have clF := cF.cl
  have naF := cF.na
  refine has_of T.d_chars_reason sc_chars_reason bd_chars_reason (fun vs H Q E h => ?_) (fun f cdv A outer s H vs Q E hr h => ?_)
  · obtain ⟨S, ds, d, _, hd, ⟨fo, fok, rfl, rfl⟩, _⟩ := h
    rw [hd.len]
    rfl
  · obtain ⟨S, ds, d, hS, hd, ⟨fo, fok, rfl, rfl⟩, q⟩ := h
    obtain ⟨v1, _, rfl, h1, hd⟩ := hd.consE
    cases hd.nilE
    obtain ⟨fa, fdx, w1, w2, w3, w4, w5, w6, w7, w8, w9, rfl, fna, fA, j1, j2, j3, j4, j5, j6, j7, j8, j9⟩ := foE h1
    obtain ⟨b, xs, rfl, _, hb, hD⟩ := j3.lstE
    cases hD.nilE
    refine ⟨_, (pss_cons (ps_set (i := 1) sc_chars_reason.nd rfl (.inl rfl) (pe_un un_neg pe_int))
      (pss_cons (ps_for PassesOwn.never rfl (piL (K := K) rfl (peFld (K := K) rfl (pv 0) rfl)) (pgT (n := 2) (K := K) rfl (by rfl) (pgs_cons (pg_name (i := 2) sc_chars_reason.nd rfl (.inl rfl)) (pgs_cons (pg_name (i := 3) sc_chars_reason.nd rfl (.inl rfl)) pgs_nil)))
        pss_never)
      (pss_one (ps_ret pe_non)))), ?_⟩
    walk_at "fl.w"
    refine forK_l (xs := []) (fun i σ' H' => H' = H) rfl (fun i σ' H' _ e => by subst e; exact SqL.of hb) (fun i x σ' H' hx => by simp at hx) (fun σ' H' e => ?_)
    subst e
    walk_at "fl.w"
    exact q _ _ (L2.Same.refl _) .non
theorem ok_axes_reason (T : Txt K mg) : Has P w K mg base 2 "axes_reason" ps_axes_reason (spD (fFv (cs mg))) := by
  obtain ⟨_, _, _, _, _, _, _, _, _, _, _, _, _, _, cF⟩ := T.c_Font
  have clF := cF.cl
  have naF := cF.na
  have h_many_reason := ok_many_reason (P := P) (w := w) (base := base) T
  refine has_of T.d_axes_reason sc_axes_reason bd_axes_reason (fun vs H Q E h => ?_) (fun f cdv A outer s H vs Q E hr h => ?_)
  · obtain ⟨S, ds, d, _, hd, ⟨fo, fok, rfl, rfl⟩, _⟩ := h
    rw [hd.len]
    rfl
  · obtain ⟨S, ds, d, hS, hd, ⟨fo, fok, rfl, rfl⟩, q⟩ := h
    obtain ⟨v1, _, rfl, h1, hd⟩ := hd.consE
    cases hd.nilE
    obtain ⟨fa, fdx, w1, w2, w3, w4, w5, w6, w7, w8, w9, rfl, fna, fA, j1, j2, j3, j4, j5, j6, j7, j8, j9⟩ := foE h1
    obtain ⟨b, xs, rfl, _, hb, hD⟩ := j6.lstE
    cases hD.nilE
    refine ⟨_, (pss_cons (ps_for PassesOwn.never rfl (piL (K := K) rfl (peFld (K := K) rfl (pv 0) rfl)) (pgT (n := 3) (K := K) rfl (by rfl) (pgs_cons (pg_name (i := 1) sc_axes_reason.nd rfl (.inl rfl)) (pgs_cons (pg_name (i := 2) sc_axes_reason.nd rfl (.inl rfl)) (pgs_cons (pg_name (i := 3) sc_axes_reason.nd rfl (.inl rfl)) pgs_nil))))
        pss_never)
      (pss_one (ps_ret (pe_h h_many_reason (hr.mono (by decide)) (pa_cons (peFld (K := K) rfl (pv 0) rfl) (pa_cons pe_int (pa_cons pe_int pa_nil))))))), ?_⟩
    walk_at "fl.w"
    refine forK_l (xs := []) (fun i σ' H' => σ' = L2.start N_axes_reason [.ref fa] ∧ H' = H) ⟨rfl, rfl⟩ (fun i σ' H' _ e => by rw [e.2]; exact SqL.of hb) (fun i x σ' H' hx => by simp at hx) (fun σ' H' e => ?_)
    obtain ⟨e, e2⟩ := e
    subst e e2
    walk_at "fl.w"
    exact spD_app S [.list [], .int 0, .int 3] .none hS (.cons j6 (.cons (.int _) (.cons (.int _) .nil))) ⟨_, _, _, rfl, by decide, by decide, rfl⟩ (fun v H3 sm3 hv => by cases hv.nonE; exact q _ _ sm3 .non)
theorem ok_regions_reason (T : Txt K mg) : Has P w K mg base 2 "regions_reason" ps_regions_reason (spD (fFv (cs mg))) := by
  obtain ⟨_, _, _, _, _, _, _, _, _, _, _, _, _, _, cF⟩ := T.c_Font
  have clF := cF.cl
  have naF := cF.na
  have h_many_reason := ok_many_reason (P := P) (w := w) (base := base) T
  refine has_of T.d_regions_reason sc_regions_reason bd_regions_reason (fun vs H Q E h => ?_) (fun f cdv A outer s H vs Q E hr h => ?_)
  · obtain ⟨S, ds, d, _, hd, ⟨fo, fok, rfl, rfl⟩, _⟩ := h
    rw [hd.len]
    rfl
  · obtain ⟨S, ds, d, hS, hd, ⟨fo, fok, rfl, rfl⟩, q⟩ := h
    obtain ⟨v1, _, rfl, h1, hd⟩ := hd.consE
    cases hd.nilE
    obtain ⟨fa, fdx, w1, w2, w3, w4, w5, w6, w7, w8, w9, rfl, fna, fA, j1, j2, j3, j4, j5, j6, j7, j8, j9⟩ := foE h1
    obtain ⟨b, xs, rfl, _, hb, hD⟩ := j7.lstE
    cases hD.nilE
    refine ⟨_, (pss_cons (ps_for PassesOwn.never rfl (piL (K := K) rfl (peFld (K := K) rfl (pv 0) rfl)) (pg_name (i := 1) sc_regions_reason.nd rfl (.inl rfl))
        pss_never)
      (pss_one (ps_ret (pe_h h_many_reason (hr.mono (by decide)) (pa_cons (peFld (K := K) rfl (pv 0) rfl) (pa_cons pe_int (pa_cons pe_int pa_nil))))))), ?_⟩
    walk_at "fl.w"
    refine forK_l (xs := []) (fun i σ' H' => σ' = L2.start N_regions_reason [.ref fa] ∧ H' = H) ⟨rfl, rfl⟩ (fun i σ' H' _ e => by rw [e.2]; exact SqL.of hb) (fun i x σ' H' hx => by simp at hx) (fun σ' H' e => ?_)
    obtain ⟨e, e2⟩ := e
    subst e e2
    walk_at "fl.w"
    exact spD_app S [.list [], .int 0, .int 8] .none hS (.cons j7 (.cons (.int _) (.cons (.int _) .nil))) ⟨_, _, _, rfl, by decide, by decide, rfl⟩ (fun v H3 sm3 hv => by cases hv.nonE; exact q _ _ sm3 .non)
theorem ok_functions_reason (T : Txt K mg) : Has P w K mg base 2 "functions_reason" ps_functions_reason (spD (fFv (cs mg))) := by
  obtain ⟨_, _, _, _, _, _, _, _, _, _, _, _, _, _, cF⟩ := T.c_Font
  have clF := cF.cl
  have naF := cF.na
  have h_many_reason := ok_many_reason (P := P) (w := w) (base := base) T
  refine has_of T.d_functions_reason sc_functions_reason bd_functions_reason (fun vs H Q E h => ?_) (fun f cdv A outer s H vs Q E hr h => ?_)
  · obtain ⟨S, ds, d, _, hd, ⟨fo, fok, rfl, rfl⟩, _⟩ := h
    rw [hd.len]
    rfl
  · obtain ⟨S, ds, d, hS, hd, ⟨fo, fok, rfl, rfl⟩, q⟩ := h
    obtain ⟨v1, _, rfl, h1, hd⟩ := hd.consE
    cases hd.nilE
    obtain ⟨fa, fdx, w1, w2, w3, w4, w5, w6, w7, w8, w9, rfl, fna, fA, j1, j2, j3, j4, j5, j6, j7, j8, j9⟩ := foE h1
    obtain ⟨b, xs, rfl, _, hb, hD⟩ := j8.lstE
    cases hD.nilE
    refine ⟨_, (pss_cons (ps_for PassesOwn.never rfl (piL (K := K) rfl (peFld (K := K) rfl (pv 0) rfl)) (pg_name (i := 1) sc_functions_reason.nd rfl (.inl rfl))
        pss_never)
      (pss_one (ps_ret (pe_h h_many_reason (hr.mono (by decide)) (pa_cons (peFld (K := K) rfl (pv 0) rfl) (pa_cons pe_int (pa_cons pe_int pa_nil))))))), ?_⟩
    walk_at "fl.w"
    refine forK_l (xs := []) (fun i σ' H' => σ' = L2.start N_functions_reason [.ref fa] ∧ H' = H) ⟨rfl, rfl⟩ (fun i σ' H' _ e => by rw [e.2]; exact SqL.of hb) (fun i x σ' H' hx => by simp at hx) (fun σ' H' e => ?_)
    obtain ⟨e, e2⟩ := e
    subst e e2
    walk_at "fl.w"
    exact spD_app S [.list [], .int 0, .int 12] .none hS (.cons j8 (.cons (.int _) (.cons (.int _) .nil))) ⟨_, _, _, rfl, by decide, by decide, rfl⟩ (fun v H3 sm3 hv => by cases hv.nonE; exact q _ _ sm3 .non)
theorem ok_presets_reason (T : Txt K mg) : Has P w K mg base 2 "presets_reason" ps_presets_reason (spD (fFv (cs mg))) := by
  obtain ⟨_, _, _, _, _, _, _, _, _, _, _, _, _, _, cF⟩ := T.c_Font
  have clF := cF.cl
  have naF := cF.na
  have h_many_reason := ok_many_reason (P := P) (w := w) (base := base) T
  refine has_of T.d_presets_reason sc_presets_reason bd_presets_reason (fun vs H Q E h => ?_) (fun f cdv A outer s H vs Q E hr h => ?_)
  · obtain ⟨S, ds, d, _, hd, ⟨fo, fok, rfl, rfl⟩, _⟩ := h
    rw [hd.len]
    rfl
  · obtain ⟨S, ds, d, hS, hd, ⟨fo, fok, rfl, rfl⟩, q⟩ := h
    obtain ⟨v1, _, rfl, h1, hd⟩ := hd.consE
    cases hd.nilE
    obtain ⟨fa, fdx, w1, w2, w3, w4, w5, w6, w7, w8, w9, rfl, fna, fA, j1, j2, j3, j4, j5, j6, j7, j8, j9⟩ := foE h1
    have j9' := j9
    obtain ⟨b, xs, rfl, _, hb, hD⟩ := j9'.lstE
    cases hD.nilE
    refine ⟨_, (pss_cons (ps_if (pt_not (pt_val (pe_callB (clAll (K := K) rfl rfl) (by rfl) T.z_all (by decide +kernel) (pa_cons (pe_lc (own := [("preset", 1)]) rfl sc_presets_reason.nd (piL (K := K) rfl (peFld (K := K) rfl (pv 0) rfl)) (blkOk_by (by kernel_rfl)) (fun _ _ _ _ _ => (pg_name (i := 1) sc_presets_reason.nd rfl (.inl rfl))) (fun _ _ _ _ _ => pts_nil) (fun _ _ _ _ _ => (pe_chain op_le op_le (pe_un un_neg pe_int) (pv 1) pe_int))) pa_nil))))
        pss_never
        pss_nil)
      (pss_one (ps_ret (pe_h h_many_reason (hr.mono (by decide)) (pa_cons (peFld (K := K) rfl (pv 0) rfl) (pa_cons pe_int (pa_cons pe_int pa_nil))))))), ?_⟩
    walk_at "fl.w"
    refine lcNil hS j9 (fun D H2 sm hq => ?_)
    refine allE hq ?_
    have fA := sm _ _ fA
    have j9 := j9.same sm
    have hS := hS.same sm
    walk_at "fl.w"
    exact spD_app S [.list [], .int 0, .int 32] .none hS (.cons j9 (.cons (.int _) (.cons (.int _) .nil))) ⟨_, _, _, rfl, by decide, by decide, rfl⟩ (fun v H3 sm3 hv => by cases hv.nonE; exact q _ _ (sm.trans sm3) .non)
end

section
variable {P : Program} {w : World} {K : PySem.W.Frag} {mg : Str → Option Value} {base : Heap}
def fC0 (ds : List PyData) (d : PyData) : Prop := ds = [.list []] ∧ d = .int 0
def fP0 (ds : List PyData) (d : PyData) : Prop := ds = [.list []] ∧ d = .bool true
theorem ok_count_points (T : Txt K mg) : Has P w K mg base 1 "count_points" ps_count_points (spD fC0) := by
  refine has_of T.d_count_points sc_count_points bd_count_points (fun vs H Q E h => ?_) (fun f cdv A outer s H vs Q E hr h => ?_)
  · obtain ⟨S, ds, d, _, hd, ⟨rfl, rfl⟩, _⟩ := h
    rw [hd.len]
    rfl
  · obtain ⟨S, ds, d, hS, hd, ⟨rfl, rfl⟩, q⟩ := h
    obtain ⟨v1, _, rfl, h1, hd⟩ := hd.consE
    cases hd.nilE
    have h1' := h1
    obtain ⟨b, xs, rfl, _, hb, hD⟩ := h1'.lstE
    cases hD.nilE
    refine ⟨_, (pss_one (ps_ret (pe_callB (clSum (K := K) rfl rfl) (by rfl) T.z_sum (by decide +kernel) (pa_cons (pe_lc (own := [("contour", 1)]) rfl sc_count_points.nd (piL (K := K) rfl (pv 0)) (blkOk_by (by kernel_rfl)) (fun _ _ _ _ _ => (pg_name (i := 1) sc_count_points.nd rfl (.inl rfl))) (fun _ _ _ _ _ => pts_nil) (fun _ _ _ _ _ => (pe_callB (clLen (K := K) rfl) (by rfl) T.z_len (by decide +kernel) (pa_cons (pv 1) pa_nil)))) pa_nil)))), ?_⟩
    walk_at "fl.w"
    refine lcNil hS h1 (fun D H2 sm hq => ?_)
    obtain ⟨b, xs, e, _, hb, hD⟩ := hq.lstE
    cases e
    cases hD.nilE
    refine g_sum (ns := []) (SqL.of hb) ?_
    exact q _ _ sm (.int _)
theorem ok_is_proper (T : Txt K mg) : Has P w K mg base 2 "is_proper" ps_is_proper (spD fP0) := by
  have h_count_points := ok_count_points (P := P) (w := w) (base := base) T
  refine has_of T.d_is_proper sc_is_proper bd_is_proper (fun vs H Q E h => ?_) (fun f cdv A outer s H vs Q E hr h => ?_)
  · obtain ⟨S, ds, d, _, hd, ⟨rfl, rfl⟩, _⟩ := h
    rw [hd.len]
    rfl
  · obtain ⟨S, ds, d, hS, hd, ⟨rfl, rfl⟩, q⟩ := h
    obtain ⟨v1, _, rfl, h1, hd⟩ := hd.consE
    cases hd.nilE
    have h1' := h1
    obtain ⟨b, xs, rfl, _, hb, hD⟩ := h1'.lstE
    cases hD.nilE
    refine ⟨_, (pss_cons (ps_if (PW.pt (pw_or (pt_cmpR op_gt (pe_callB (clLen (K := K) rfl) (by rfl) T.z_len (by decide +kernel) (pa_cons (pv 0) pa_nil)) (pe_gv (by rfl) T.g_MOST_CONTOURS) (nomark _)) (pw_or1 (pt_cmpR op_gt (pe_h h_count_points (hr.mono (by decide)) (pa_cons (pv 0) pa_nil)) (pe_gv (by rfl) T.g_MOST_POINTS) (nomark _)))))
        (pss_one (ps_ret pe_bl))
        pss_nil)
      (pss_cons (ps_for PassesOwn.never rfl (piL (K := K) rfl (pv 0)) (pg_name (i := 1) sc_is_proper.nd rfl (.inl rfl))
        (pss_cons (ps_if (pt_cmpR op_lt (pe_callB (clLen (K := K) rfl) (by rfl) T.z_len (by decide +kernel) (pa_cons (pv 1) pa_nil)) (pe_gv (by rfl) T.g_LEAST_OF_CONTOUR) (nomark _))
        (pss_one (ps_ret pe_bl))
        pss_nil)
      (pss_one (ps_for PassesOwn.never rfl (piL (K := K) rfl (pv 1)) (pgT (n := 3) (K := K) rfl (by rfl) (pgs_cons (pg_name (i := 2) sc_is_proper.nd rfl (.inl rfl)) (pgs_cons (pg_name (i := 3) sc_is_proper.nd rfl (.inl rfl)) (pgs_cons (pg_name (i := 4) sc_is_proper.nd rfl (.inl rfl)) pgs_nil))))
        (pss_one (ps_if (PW.pt (pw_or (pt_cmpR op_gt (pe_callB call_abs' (by rfl) T.z_abs (by decide +kernel) (pa_cons (pv 2) pa_nil)) (pe_gv (by rfl) T.g_FARTHEST) (nomark _)) (pw_or1 (pt_cmpR op_gt (pe_callB call_abs' (by rfl) T.z_abs (by decide +kernel) (pa_cons (pv 3) pa_nil)) (pe_gv (by rfl) T.g_FARTHEST) (nomark _)))))
        (pss_one (ps_ret pe_bl))
        pss_nil))))))
      (pss_one (ps_ret pe_bl)))), ?_⟩
    walk_at "fl.w"
    refine g_noB (by simp) ?_
    walk_at "fl.w"
    refine spD_app S [.list []] (.int 0) hS (.cons h1 .nil) ⟨rfl, rfl⟩ (fun v H3 sm3 hv => ?_)
    cases hv.intE
    have hb := sm3 _ _ hb
    walk_at "fl.w"
    refine g_noB (by decide) ?_
    walk_at "fl.w"
    refine forK_l (xs := []) (fun i σ' H' => H' = H3) rfl (fun i σ' H' _ e => by subst e; exact SqL.of hb) (fun i x σ' H' hx => by simp at hx) (fun σ' H' e => ?_)
    subst e
    walk_at "fl.w"
    exact q _ _ sm3 (.bl _)
def fGr (c : Cs) (ds : List PyData) (d : PyData) : Prop := ∃ (f : PyData) (g : GlV), ds = [f, glD c g.R] ∧ 0 ≤ g.adv ∧ g.adv ≤ 16384 ∧ d = .none
theorem ok_glyph_reason (T : Txt K mg) : Has P w K mg base 3 "glyph_reason" ps_glyph_reason (spD (fGr (cs mg))) := by
  obtain ⟨_, _, _, _, _, _, _, _, cG⟩ := T.c_Glyph
  have clG := cG.cl
  have naG := cG.na
  have h_is_proper := ok_is_proper (P := P) (w := w) (base := base) T
  have h_is_part := no_has (P := P) (w := w) (base := base) T.d_is_part sc_is_part bd_is_part
  have h_is_anchor := no_has (P := P) (w := w) (base := base) T.d_is_anchor sc_is_anchor bd_is_anchor
  have h_is_delta := no_has (P := P) (w := w) (base := base) T.d_is_delta sc_is_delta bd_is_delta
  have h_is_instruction := no_has (P := P) (w := w) (base := base) T.d_is_instruction sc_is_instruction bd_is_instruction
  refine has_of T.d_glyph_reason sc_glyph_reason bd_glyph_reason (fun vs H Q E h => ?_) (fun f cdv A outer s H vs Q E hr h => ?_)
  · obtain ⟨S, ds, d, _, hd, ⟨fo, g, rfl, _⟩, _⟩ := h
    rw [hd.len]
    rfl
  · obtain ⟨S, ds, d, hS, hd, ⟨fo, g, rfl, z1, z2, rfl⟩, q⟩ := h
    obtain ⟨v1, _, rfl, h1, hd⟩ := hd.consE
    obtain ⟨v2, _, rfl, h2, hd⟩ := hd.consE
    cases hd.nilE
    obtain ⟨a, dx, u1, u2, u3, u4, u5, u6, u7, rfl, na, hA, k1, k2, k3, k4, k5, k6, k7⟩ := glE h2
    cases k1
    obtain ⟨b3, _, rfl, _, hb3, _⟩ := k3.lstE
    obtain ⟨b4, _, rfl, _, hb4, _⟩ := k4.lstE
    obtain ⟨b6, _, rfl, _, hb6, _⟩ := k6.lstE
    obtain ⟨b7, _, rfl, _, hb7, _⟩ := k7.lstE
    refine ⟨_, (pss_cons (ps_if (pt_not (pt_chain op_le op_le pe_int (peFld (K := K) rfl (pv 1) rfl) (pe_gv (by rfl) T.g_FARTHEST)))
        pss_never
        pss_nil)
      (pss_cons (ps_if (pt_not (pt_val (pe_h h_is_proper (hr.mono (by decide)) (pa_cons (peFld (K := K) rfl (pv 1) rfl) pa_nil))))
        pss_never
        pss_nil)
      (pss_cons (ps_if (pt_not (pt_val (pe_callB (clAll (K := K) rfl rfl) (by rfl) T.z_all (by decide +kernel) (pa_cons (pe_lc (own := [("part", 2)]) rfl sc_glyph_reason.nd (piL (K := K) rfl (peFld (K := K) rfl (pv 1) rfl)) (blkOk_by (by kernel_rfl)) (fun _ _ _ _ _ => (pg_name (i := 2) sc_glyph_reason.nd rfl (.inl rfl))) (fun _ _ _ _ _ => pts_nil) (fun _ _ _ _ _ => (pe_h h_is_part (hr.mono (by decide)) (pa_cons (pv 0) (pa_cons (pv 2) pa_nil))))) pa_nil))))
        pss_never
        pss_nil)
      (pss_cons (ps_if (pt_not (pt_val (pe_callB (clAll (K := K) rfl rfl) (by rfl) T.z_all (by decide +kernel) (pa_cons (pe_lc (own := [("anchor", 3)]) rfl sc_glyph_reason.nd (piL (K := K) rfl (peFld (K := K) rfl (pv 1) rfl)) (blkOk_by (by kernel_rfl)) (fun _ _ _ _ _ => (pg_name (i := 3) sc_glyph_reason.nd rfl (.inl rfl))) (fun _ _ _ _ _ => pts_nil) (fun _ _ _ _ _ => (pe_h h_is_anchor (hr.mono (by decide)) (pa_cons (pv 3) pa_nil)))) pa_nil))))
        pss_never
        pss_nil)
      (pss_cons (ps_if (pt_not (pt_val (pe_callB (clAll (K := K) rfl rfl) (by rfl) T.z_all (by decide +kernel) (pa_cons (pe_lc (own := [("delta", 4)]) rfl sc_glyph_reason.nd (piL (K := K) rfl (peFld (K := K) rfl (pv 1) rfl)) (blkOk_by (by kernel_rfl)) (fun _ _ _ _ _ => (pg_name (i := 4) sc_glyph_reason.nd rfl (.inl rfl))) (fun _ _ _ _ _ => pts_nil) (fun _ _ _ _ _ => (pe_h h_is_delta (hr.mono (by decide)) (pa_cons (pv 0) (pa_cons (pv 1) (pa_cons (pv 4) pa_nil)))))) pa_nil))))
        pss_never
        pss_nil)
      (pss_cons (ps_if (pt_not (pt_val (pe_callB (clAll (K := K) rfl rfl) (by rfl) T.z_all (by decide +kernel) (pa_cons (pe_lc (own := [("step", 5)]) rfl sc_glyph_reason.nd (piL (K := K) rfl (peFld (K := K) rfl (pv 1) rfl)) (blkOk_by (by kernel_rfl)) (fun _ _ _ _ _ => (pg_name (i := 5) sc_glyph_reason.nd rfl (.inl rfl))) (fun _ _ _ _ _ => pts_nil) (fun _ _ _ _ _ => (pe_h h_is_instruction (hr.mono (by decide)) (pa_cons (pv 5) pa_nil)))) pa_nil))))
        pss_never
        pss_nil)
      (pss_one (ps_ret pe_non)))))))), ?_⟩
    walk_at "fl.w"
    refine g_yesB z1 ?_
    walk_at "fl.w"
    refine g_nB z2 ?_
    walk_at "fl.w"
    refine spD_app S [.list []] (.bool true) hS (.cons k2 .nil) ⟨rfl, rfl⟩ (fun v H2 sm2 hv => ?_)
    cases hv.blE
    have hA2 := sm2 _ _ hA
    have hb3' := sm2 _ _ hb3
    walk_at "fl.w"
    refine lcNil (hS.same sm2) (k3.same sm2) (fun D H3 sm3 hq => ?_)
    refine allE hq ?_
    have sm3 := sm2.trans sm3
    have hA3 := sm3 _ _ hA
    have hb4' := sm3 _ _ hb4
    walk_at "fl.w"
    refine lcNil (hS.same sm3) (k4.same sm3) (fun D H4 sm4 hq => ?_)
    refine allE hq ?_
    have sm4 := sm3.trans sm4
    have hA4 := sm4 _ _ hA
    have hb6' := sm4 _ _ hb6
    walk_at "fl.w"
    refine lcNil (hS.same sm4) (k6.same sm4) (fun D H5 sm5 hq => ?_)
    refine allE hq ?_
    have sm5 := sm4.trans sm5
    have hA5 := sm5 _ _ hA
    have hb7' := sm5 _ _ hb7
    walk_at "fl.w"
    refine lcNil (hS.same sm5) (k7.same sm5) (fun D H6 sm6 hq => ?_)
    refine allE hq ?_
    have sm6 := sm5.trans sm6
    walk_at "fl.w"
    exact q _ _ sm6 .non
theorem ok_first_glyph_fault (T : Txt K mg) : Has P w K mg base 4 "first_glyph_fault" ps_first_glyph_fault (spD (fFv (cs mg))) := by
  obtain ⟨_, _, _, _, _, _, _, _, _, _, _, _, _, _, cF⟩ := T.c_Font
  have clF := cF.cl
  have naF := cF.na
  have h_glyph_reason := ok_glyph_reason (P := P) (w := w) (base := base) T
  refine has_of T.d_first_glyph_fault sc_first_glyph_fault bd_first_glyph_fault (fun vs H Q E h => ?_) (fun f cdv A outer s H vs Q E hr h => ?_)
  · obtain ⟨S, ds, d, _, hd, ⟨fo, fok, rfl, rfl⟩, _⟩ := h
    rw [hd.len]
    rfl
  · obtain ⟨S, ds, d, hS, hd, ⟨fo, fok, rfl, rfl⟩, q⟩ := h
    obtain ⟨v1, _, rfl, h1, hd⟩ := hd.consE
    cases hd.nilE
    have h1' := h1
    obtain ⟨fa, fdx, w1, w2, w3, w4, w5, w6, w7, w8, w9, rfl, fna, fA, j1, j2, j3, j4, j5, j6, j7, j8, j9⟩ := foE h1'
    obtain ⟨lb, ls, rfl, hlb, hll, hlD⟩ := lstN j2
    have hlD' : DqA S H ls (fo.glyphs.map fun k => glD (cs mg) k.R) := by
      simp only [FoV.R, List.map_map] at hlD
      exact hlD
    refine ⟨_, (pss_cons (ps_for PassesOwn.never rfl (piEnum (K := K) rfl (by rfl) T.z_enumerate (pa_cons (peFld (K := K) rfl (pv 0) rfl) pa_nil)) (pgT (n := 2) (K := K) rfl (by rfl) (pgs_cons (pg_name (i := 1) sc_first_glyph_fault.nd rfl (.inl rfl)) (pgs_cons (pg_name (i := 2) sc_first_glyph_fault.nd rfl (.inl rfl)) pgs_nil)))
        (pss_cons (ps_set (i := 3) sc_first_glyph_fault.nd rfl (.inl rfl) (pe_h h_glyph_reason (hr.mono (by decide)) (pa_cons (pv 0) (pa_cons (pv 2) pa_nil))))
      (pss_one (ps_if (pt_cmpR op_notN (pv 3) pe_non (nomark _))
        pss_never
        pss_nil))))
      (pss_one (ps_ret pe_non))), ?_⟩
    walk_at "fl.w"
    refine forK_e (xs := ls) (fun i σ' H' => (∃ u1 u2 u3, σ' = [some (.ref fa), u1, u2, u3]) ∧ Same H H') ⟨⟨_, _, _, rfl⟩, L2.Same.refl _⟩ ?_ ?_ ?_
    · intro i σ' H' _ ⟨_, e⟩
      exact SqL.of (e _ _ hlb)
    · intro i x t σ' H' hxi ⟨⟨u1, u2, u3, e1⟩, sm⟩ ht
      subst e1
      obtain ⟨k, hk1, hx⟩ := (hlD'.same sm).getM hxi
      have sm2 : Same H (upd H' t (.tup [.int (i : Int), x])) := L2.Same.trans sm (Fl.Same.new ht)
      have h1s := h1.same sm2
      have hxs := hx.same (Fl.Same.new ht (o := .tup [.int (i : Int), x]))
      have hS2 := hS.same sm2
      have hgk := fok.ga k (List.mem_of_getElem? hk1)
      refine g_gtup (SqT.of upd_same) rfl ?_
      walk_at "fl.w"
      refine spD_app S [foD (cs mg) fo.R, glD (cs mg) k.R] .none hS2 (.cons h1s (.cons hxs .nil)) ⟨_, k, rfl, hgk.1, hgk.2, rfl⟩ (fun v H3 sm3 hv => ?_)
      cases hv.nonE
      walk_at "fl.w"
      exact ⟨⟨_, _, _, rfl⟩, sm2.trans sm3⟩
    · intro σ' H' ⟨⟨u1, u2, u3, e1⟩, sm⟩
      subst e1
      walk_at "fl.w"
      exact q _ _ sm .non
end

section
variable {P : Program} {w : World} {K : PySem.W.Frag} {mg : Str → Option Value} {base : Heap}
def spHp (c : Cs) : Sp := fun vs H Q _ => ∃ (S : List Addr) (v y : V) (g : GlV), vs = [v, y] ∧ Al S H ∧ Dq S H v (glD c g.R) ∧ ∀ H', Same H H' → Q (.bl true) H'
theorem ok_has_parts_in (T : Txt K mg) : Has P w K mg base 1 "has_parts_in" ps_has_parts_in (spHp (cs mg)) := by
  obtain ⟨_, _, _, _, _, _, _, _, cG⟩ := T.c_Glyph
  have clG := cG.cl
  have naG := cG.na
  refine has_of T.d_has_parts_in sc_has_parts_in bd_has_parts_in (fun vs H Q E h => ?_) (fun f cdv A outer s H vs Q E hr h => ?_)
  · obtain ⟨S, v, y, g, rfl, _⟩ := h
    rfl
  · obtain ⟨S, v, y, g, rfl, hS, h2, q⟩ := h
    obtain ⟨a, dx, u1, u2, u3, u4, u5, u6, u7, rfl, na, hA, k1, k2, k3, k4, k5, k6, k7⟩ := glE h2
    obtain ⟨b3, _, rfl, _, hb3, _⟩ := k3.lstE
    refine ⟨_, (pss_one (ps_ret (pe_callB (clAll (K := K) rfl rfl) (by rfl) T.z_all (by decide +kernel) (pa_cons (pe_lc (own := [("part", 2)]) rfl sc_has_parts_in.nd (piL (K := K) rfl (peFld (K := K) rfl (pv 0) rfl)) (blkOk_by (by kernel_rfl)) (fun _ _ _ _ _ => (pg_name (i := 2) sc_has_parts_in.nd rfl (.inl rfl))) (fun _ _ _ _ _ => pts_nil) (fun _ _ _ _ _ => (pe_cmp (pc_din (hu_of hr) (pe_ix (ixT (K := K) rfl) (pv 2) pe_int (fun _ _ => rfl)) (pv 1))))) pa_nil)))), ?_⟩
    walk_at "fl.w"
    refine lcNil hS k3 (fun D H2 sm2 hq => ?_)
    refine allE hq ?_
    exact q _ sm2
theorem ok_features_reason (T : Txt K mg) : Has P w K mg base 2 "features_reason" ps_features_reason (spD (fFv (cs mg))) := by
  obtain ⟨_, _, _, _, _, _, _, _, _, _, _, _, _, _, cF⟩ := T.c_Font
  have clF := cF.cl
  have naF := cF.na
  have h_many_reason := ok_many_reason (P := P) (w := w) (base := base) T
  have h_is_row_of_letters := no_has (P := P) (w := w) (base := base) T.d_is_row_of_letters sc_is_row_of_letters bd_is_row_of_letters
  have h_is_rising := no_has (P := P) (w := w) (base := base) T.d_is_rising sc_is_rising bd_is_rising
  refine has_of T.d_features_reason sc_features_reason bd_features_reason (fun vs H Q E h => ?_) (fun f cdv A outer s H vs Q E hr h => ?_)
  · obtain ⟨S, ds, d, _, hd, ⟨fo, fok, rfl, rfl⟩, _⟩ := h
    rw [hd.len]
    rfl
  · obtain ⟨S, ds, d, hS, hd, ⟨fo, fok, rfl, rfl⟩, q⟩ := h
    obtain ⟨v1, _, rfl, h1, hd⟩ := hd.consE
    cases hd.nilE
    obtain ⟨fa, fdx, w1, w2, w3, w4, w5, w6, w7, w8, w9, rfl, fna, fA, j1, j2, j3, j4, j5, j6, j7, j8, j9⟩ := foE h1
    have j5' := j5
    obtain ⟨b, xs, rfl, _, hb, hD⟩ := j5'.lstE
    cases hD.nilE
    refine ⟨_, (pss_cons (ps_setLc (i := 2) (own := [("name", 1), ("_", 4)]) rfl sc_features_reason.nd rfl rfl (sw_true rfl rfl rfl (by decide +kernel)) (piL (K := K) rfl (peFld (K := K) rfl (pv 0) rfl)) (blkOk_by (by kernel_rfl)) (fun _ _ _ _ _ => (pgT (n := 2) (K := K) rfl (by rfl) (pgs_cons (pg_name (i := 1) sc_features_reason.nd rfl (.inl rfl)) (pgs_cons (pg_name (i := 4) sc_features_reason.nd rfl (.inl rfl)) pgs_nil)))) (fun _ _ _ _ _ => pts_nil) (fun _ _ _ _ _ => (pv 1)))
      (pss_cons (ps_if (pt_cmpR op_lt (RZ.pe_lenSetI (by rfl) T.z_len (by rfl) T.z_set (pv 2)) (pe_callB (clLen (K := K) rfl) (by rfl) T.z_len (by decide +kernel) (pa_cons (pv 2) pa_nil)) (nomark _))
        pss_never
        pss_nil)
      (pss_cons (ps_for PassesOwn.never rfl (piL (K := K) rfl (peFld (K := K) rfl (pv 0) rfl)) (pgT (n := 2) (K := K) rfl (by rfl) (pgs_cons (pg_name (i := 1) sc_features_reason.nd rfl (.inl rfl)) (pgs_cons (pg_name (i := 3) sc_features_reason.nd rfl (.inl rfl)) pgs_nil)))
        pss_never)
      (pss_one (ps_ret (pe_h h_many_reason (hr.mono (by decide)) (pa_cons (peFld (K := K) rfl (pv 0) rfl) (pa_cons pe_int (pa_cons pe_int pa_nil))))))))), ?_⟩
    walk_at "fl.w"
    refine lcNil hS j5 (fun D H2 sm hq => ?_)
    have fA2 := sm _ _ fA
    have hb2 := sm _ _ hb
    have j52 := j5.same sm
    have hS2 := hS.same sm
    obtain ⟨b2, ys, e, _, hb3, hD2⟩ := hq.lstE
    cases e
    cases hD2.nilE
    walk_at "fl.w"
    unfold RZ.tLenSetI
    walk_at "fl.w"
    refine ⟨D, [], rfl, SqL.of hb3, .nil, by decide, ?_⟩
    walk_at "fl.w"
    refine g_noB (by decide) ?_
    walk_at "fl.w"
    refine forK_l (xs := []) (fun i σ' H' => σ' = (L2.start N_features_reason [.ref fa]).set 2 (some (.ref D)) ∧ H' = H2) ⟨rfl, rfl⟩ (fun i σ' H' _ e => by rw [e.2]; exact SqL.of hb2) (fun i x σ' H' hx => by simp at hx) (fun σ' H' e => ?_)
    obtain ⟨e, e2⟩ := e
    subst e e2
    walk_at "fl.w"
    exact spD_app S [.list [], .int 0, .int 12] .none hS2 (.cons j52 (.cons (.int _) (.cons (.int _) .nil))) ⟨_, _, _, rfl, by decide, by decide, rfl⟩ (fun v H3 sm3 hv => by cases hv.nonE; exact q _ _ (sm.trans sm3) .non)
end

section
variable {P : Program} {w : World} {K : PySem.W.Frag} {mg : Str → Option Value} {base : Heap}
def spDep (c : Cs) : Sp := fun vs H Q _ => ∃ (S : List Addr) (v : V) (gs : List GlV), vs = [v] ∧ Al S H ∧ Dq S H v (.list (gs.map fun g => glD c g.R)) ∧ gs.length ≤ 60 ∧ ∀ p H' kvs, Same H H' → H' p = some (.dK kvs) → kvs.length = gs.length → Q (.ref p) H'
theorem ok_depths_of (T : Txt K mg) : Has P w K mg base 2 "depths_of" ps_depths_of (spDep (cs mg)) := by
  have h_has_parts_in := ok_has_parts_in (P := P) (w := w) (base := base) T
  refine has_of T.d_depths_of sc_depths_of bd_depths_of (fun vs H Q E h => ?_) (fun f cdv A outer s H vs Q E hr h => ?_)
  · obtain ⟨S, v, gs, rfl, _⟩ := h
    rfl
  · obtain ⟨S, v, gs, rfl, hS, h1, hz, q⟩ := h
    obtain ⟨a, xs, rfl, ha, hl, hD⟩ := lstN h1
    refine ⟨_, (pss_cons (ps_set (i := 1) sc_depths_of.nd rfl (.inr rfl) pe_dnewK)
      (pss_cons (ps_for PassesOwn.never rfl (pi_range1 (by rfl) T.z_range (pa_cons (pe_op op_add (pe_gv (by rfl) T.g_DEEPEST) pe_int) pa_nil)) (pg_name (i := 2) sc_depths_of.nd rfl (.inl rfl))
        (pss_cons (ps_setLc (i := 4) (own := [("k", 3)]) rfl sc_depths_of.nd rfl rfl (sw_true rfl rfl rfl (by decide +kernel)) (pi_range1 (by rfl) T.z_range (pa_cons (pe_callB (clLen (K := K) rfl) (by rfl) T.z_len (by decide +kernel) (pa_cons (pv 0) pa_nil)) pa_nil)) (blkOk_by (by kernel_rfl)) (fun _ _ _ _ _ => (pg_name (i := 3) sc_depths_of.nd rfl (.inl rfl))) (fun _ _ _ _ _ => (pts_one (PW.pt (pw_and (pt_cmp (pc_dnotin (hu_of hr) (pv 3) (pv 1))) (pw_and1 (pt_val (pe_h h_has_parts_in (hr.mono (by decide)) (pa_cons (pe_ix (ixL (K := K) rfl) (pv 0) (pv 3) (fun _ _ => rfl)) (pa_cons (pv 1) pa_nil))))))))) (fun _ _ _ _ _ => (pv 3)))
      (pss_one (ps_for PassesOwn.never rfl (piL (K := K) rfl (pv 4)) (pg_name (i := 3) sc_depths_of.nd rfl (.inl rfl))
        (pss_one (ps_dput (hu_of hr) (pv 1) (pv 3) (pv 2) rfl))))))
      (pss_one (ps_ret (pv 1))))), ?_⟩
    walk_at "fl.w"
    unfold tDNewK
    intro p hp
    have hap : a ≠ p := fun e => by rw [e, hp] at ha; cases ha
    have alp : Al (p :: S) (upd H p (.dK [])) := .cons (by rw [upd_same]; simp) (hS.same (Fl.Same.new hp))
    have hDp : DqA (p :: S) (upd H p (.dK [])) xs (gs.map fun g => glD (cs mg) g.R) := (hD.new hp).same (Fl.Same.new hp)
    have hap0 : upd H p (.dK []) a = some (.lst xs) := by rw [upd_ne hap]; exact ha
    walk_at "fl.w"
    refine forK_r (fun i σ' H' => (∃ u2 u3 u4, σ' = [some (.ref a), some (.ref p), u2, u3, u4]) ∧ Fr [p] (upd H p (.dK [])) H' ∧ H' p = some (.dK (kv0 (if i = 0 then 0 else gs.length)))) ⟨⟨_, _, _, rfl⟩, Fr.refl, upd_same⟩ ?_ ?_
    · intro i σ' H' hi ⟨⟨u2, u3, u4, e⟩, hf, hpk⟩
      subst e
      have al1 : Al (p :: S) H' := alp.fr hf (.cons (by rw [hpk]; simp) .nil)
      have hD1 : DqA (p :: S) H' xs (gs.map fun g => glD (cs mg) g.R) := hDp.fr (hf.mono fun b m => by rw [show b = p by simpa using m]; exact List.mem_cons_self)
      have ha1 : H' a = some (.lst xs) := hf a _ (by simpa using hap) hap0
      walk_at "fl.w"
      refine lcR (S := p :: S) (fun j => if i = 0 then some (.int (j : Int)) else none) al1 (by omega) ?_ ?_
      · intro D j H2 hDn hj sm al R N hR hN
        have hj' : j < xs.length := by omega
        obtain ⟨g, hg⟩ : ∃ g, gs[j]? = some g := ⟨_, List.getElem?_eq_getElem (by omega)⟩
        obtain ⟨x, hx, hxD⟩ := (hD1.same sm).getD (i := j) (by rw [List.getElem?_map, hg]; rfl)
        have hat : atI xs (j : Int) = some x := atI_nat (j := j) hx
        have ha2 := sm _ _ ha1
        have hp2 := sm _ _ hpk
        rw [Int.zero_add]
        refine g_name ⟨rfl, ?_⟩
        walk_at "fl.w"
        refine g_tB (g_dn ?_)
        walk_at "fl.w"
        rcases Decidable.em (i = 0) with h0 | h0
        · rw [if_pos h0] at hp2
          refine ⟨p, _, rfl, DGet.k (k := .inl (j : Int)) hp2, ?_⟩
          rw [kv0_none (Nat.zero_le _)]
          simp only [Option.isSome_none, Bool.not_false]
          walk_at "fl.w"
          refine ⟨p :: S, _, _, g, rfl, al1.same sm, hxD, fun H3 sm3 => ?_⟩
          walk_at "fl.w"
          exact hR _ _ _ (by rw [if_pos h0]) sm3 (.int _)
        · rw [if_neg h0] at hp2
          refine ⟨p, _, rfl, DGet.k (k := .inl (j : Int)) hp2, ?_⟩
          obtain ⟨v, hv⟩ := kv0_some (show j < gs.length by omega)
          rw [hv]
          simp only [Option.isSome_some, Bool.not_true]
          walk_at "fl.w"
          exact hN (by rw [if_neg h0]) _ (L2.Same.refl _)
      · intro D H2 sm hDn hq
        have hp2 := sm _ _ hpk
        walk_at "fl.w"
        obtain ⟨_, ys, e, _, hy, hY⟩ := hq.lstE
        cases e
        have hDp' : D ≠ p := fun e => by rw [e, hpk] at hDn; cases hDn
        walk_at "fl.w"
        rcases Decidable.em (i = 0) with h0 | h0
        · subst h0
          simp only [if_pos] at hY hp2
          rw [fm_some] at hY
          have hly : ys.length = xs.length := by rw [hY.len]; simp
          refine forK_l (xs := ys) (fun j σ' Hq => (∃ u3, σ' = [some (.ref a), some (.ref p), some (.int (0 : Int)), u3, some (.ref D)]) ∧ Fr [p] H2 Hq ∧ Hq p = some (.dK (kv0 j))) ⟨⟨_, rfl⟩, Fr.refl, hp2⟩ ?_ ?_ ?_
          · intro j σ' Hq _ ⟨_, f2, _⟩
            exact SqL.of (f2 _ _ (by simpa using hDp') hy)
          · intro j x σ' Hq hx ⟨⟨u3, e⟩, f2, hk⟩
            subst e
            obtain ⟨d, hd1, hd2⟩ := hY.get hx
            have hjl := (List.getElem?_eq_some_iff.mp hx).1
            rw [List.getElem?_map, List.getElem?_range (by omega)] at hd1
            cases hd1
            cases hd2.intE
            walk_at "fl.w"
            refine g_dp ?_
            walk_at "fl.w"
            refine ⟨p, _, rfl, DPut.k (k := .inl (j : Int)) hk (by rw [kv0_len]; have : (1000 : Nat) ≤ sizeLine := by decide
                                                                   omega), ?_⟩
            refine ⟨⟨_, rfl⟩, f2.trans (Fr.upd (by simp)), ?_⟩
            rw [upd_same, putK_new _ (kv0_none (Nat.le_refl _)), kv0_succ]
          · intro σ' Hq ⟨⟨u3, e⟩, f2, hk⟩
            subst e
            refine ⟨⟨_, _, _, rfl⟩, (hf.trans (Fr.same sm)).trans f2, ?_⟩
            rw [hk, hly, hl]
            rfl
        · simp only [if_neg h0] at hY hp2
          rw [fm_none] at hY
          cases hY.nilE
          refine forK_l (xs := []) (fun j σ' Hq => (∃ u2 u3, σ' = [some (.ref a), some (.ref p), u2, u3, some (.ref D)]) ∧ Hq = H2) ⟨⟨_, _, rfl⟩, rfl⟩ (fun j σ' Hq _ e => by rw [e.2]; exact SqL.of hy) (fun j x σ' Hq hx => by simp at hx) (fun σ' Hq e => ?_)
          obtain ⟨⟨u2, u3, e⟩, e2⟩ := e
          subst e e2
          exact ⟨⟨_, _, _, rfl⟩, hf.trans (Fr.same sm), by rw [hp2, if_neg (Nat.succ_ne_zero i)]⟩
    · intro σ' H' ⟨⟨u2, u3, u4, e⟩, hf, hpk⟩
      subst e
      walk_at "fl.w"
      exact q p H' _ (sm_of hp (by exact fun b o n e => hf b o n (by rw [upd_ne (by simpa using n)]; exact e))) hpk (by rw [kv0_len]; rfl)
theorem ok_parts_reason (T : Txt K mg) : Has P w K mg base 3 "parts_reason" ps_parts_reason (spD (fFv (cs mg))) := by
  obtain ⟨_, _, _, _, _, _, _, _, _, _, _, _, _, _, cF⟩ := T.c_Font
  have clF := cF.cl
  have naF := cF.na
  have h_depths_of := ok_depths_of (P := P) (w := w) (base := base) T
  refine has_of T.d_parts_reason sc_parts_reason bd_parts_reason (fun vs H Q E h => ?_) (fun f cdv A outer s H vs Q E hr h => ?_)
  · obtain ⟨S, ds, d, _, hd, ⟨fo, fok, rfl, rfl⟩, _⟩ := h
    rw [hd.len]
    rfl
  · obtain ⟨S, ds, d, hS, hd, ⟨fo, fok, rfl, rfl⟩, q⟩ := h
    obtain ⟨v1, _, rfl, h1, hd⟩ := hd.consE
    cases hd.nilE
    obtain ⟨fa, fdx, w1, w2, w3, w4, w5, w6, w7, w8, w9, rfl, fna, fA, j1, j2, j3, j4, j5, j6, j7, j8, j9⟩ := foE h1
    have j2' : Dq S H w2 (.list (fo.glyphs.map fun g => glD (cs mg) g.R)) := by
      simp only [FoV.R, List.map_map] at j2
      exact j2
    obtain ⟨b, xs, rfl, hb, hl, _⟩ := lstN j2'
    refine ⟨_, (pss_cons (ps_if (pt_cmpR op_lt (pe_callB call_lenD (by rfl) T.z_len (by decide +kernel) (pa_cons (pe_h h_depths_of (hr.mono (by decide)) (pa_cons (peFld (K := K) rfl (pv 0) rfl) pa_nil)) pa_nil)) (pe_callB (clLen (K := K) rfl) (by rfl) T.z_len (by decide +kernel) (pa_cons (peFld (K := K) rfl (pv 0) rfl) pa_nil)) (nomark _))
        pss_never
        pss_nil)
      (pss_one (ps_ret pe_non))), ?_⟩
    walk_at "fl.w"
    refine ⟨S, _, fo.glyphs, rfl, hS, j2', fok.g.2, fun p H2 kvs sm hp hk => ?_⟩
    have fA2 := sm _ _ fA
    have hb2 := sm _ _ hb
    walk_at "fl.w"
    refine ⟨p, kvs, rfl, hp, ?_⟩
    walk_at "fl.w"
    refine g_noB (by omega) ?_
    walk_at "fl.w"
    exact q _ _ sm .non
end

section
variable {P : Program} {w : World} {K : PySem.W.Frag} {mg : Str → Option Value} {base : Heap}
theorem ok_first_fault (T : Txt K mg) (I : InsK K w mg) : Has P w K mg base 6 "first_fault" ps_first_fault (spD (fFv (cs mg))) := by
  obtain ⟨_, _, _, _, _, _, _, _, _, _, _, _, _, _, cF⟩ := T.c_Font
  have clF := cF.cl
  have naF := cF.na
  have h_unit_reason := ok_unit_reason (P := P) (w := w) (base := base) T
  have h_placed := ok_placed (P := P) (w := w) (base := base) T
  have h_many_reason := ok_many_reason (P := P) (w := w) (base := base) T
  have h_first_glyph_fault := ok_first_glyph_fault (P := P) (w := w) (base := base) T
  have h_parts_reason := ok_parts_reason (P := P) (w := w) (base := base) T
  have h_chars_reason := ok_chars_reason (P := P) (w := w) (base := base) T
  have h_first_lookup_fault := ok_first_lookup_fault (P := P) (base := base) T I
  have h_features_reason := ok_features_reason (P := P) (w := w) (base := base) T
  have h_axes_reason := ok_axes_reason (P := P) (w := w) (base := base) T
  have h_regions_reason := ok_regions_reason (P := P) (w := w) (base := base) T
  have h_functions_reason := ok_functions_reason (P := P) (w := w) (base := base) T
  have h_presets_reason := ok_presets_reason (P := P) (w := w) (base := base) T
  refine has_of T.d_first_fault sc_first_fault bd_first_fault (fun vs H Q E h => ?_) (fun f cdv A outer s H vs Q E hr h => ?_)
  · obtain ⟨S, ds, d, _, hd, ⟨fo, fok, rfl, rfl⟩, _⟩ := h
    rw [hd.len]
    rfl
  · obtain ⟨S, ds, d, hS_0, hd, ⟨fo, fok, rfl, rfl⟩, q⟩ := h
    obtain ⟨v1, _, rfl, h1_0, hd⟩ := hd.consE
    cases hd.nilE
    obtain ⟨fa, fdx, w1, w2, w3, w4, w5, w6, w7, w8, w9, rfl, fna, fA_0, j1, j2, j3, j4, j5, j6, j7, j8, j9⟩ := foE h1_0
    refine ⟨_, (pss_one (ps_ret (peOrT (K := K) rfl (pe_h h_placed (hr.mono (by decide)) (pa_cons pe_str (pa_cons (pe_h h_unit_reason (hr.mono (by decide)) (pa_cons (pv 0) pa_nil)) pa_nil))) (peOrT (K := K) rfl (pe_h h_placed (hr.mono (by decide)) (pa_cons pe_str (pa_cons (pe_h h_many_reason (hr.mono (by decide)) (pa_cons (peFld (K := K) rfl (pv 0) rfl) (pa_cons pe_int (pa_cons pe_int pa_nil)))) pa_nil))) (peOrT (K := K) rfl (pe_h h_first_glyph_fault (hr.mono (by decide)) (pa_cons (pv 0) pa_nil)) (peOrT (K := K) rfl (pe_h h_placed (hr.mono (by decide)) (pa_cons pe_str (pa_cons (pe_h h_parts_reason (hr.mono (by decide)) (pa_cons (pv 0) pa_nil)) pa_nil))) (peOrT (K := K) rfl (pe_h h_placed (hr.mono (by decide)) (pa_cons pe_str (pa_cons (pe_h h_chars_reason (hr.mono (by decide)) (pa_cons (pv 0) pa_nil)) pa_nil))) (peOrT (K := K) rfl (pe_h h_placed (hr.mono (by decide)) (pa_cons pe_str (pa_cons (pe_h h_many_reason (hr.mono (by decide)) (pa_cons (peFld (K := K) rfl (pv 0) rfl) (pa_cons pe_int (pa_cons pe_int pa_nil)))) pa_nil))) (peOrT (K := K) rfl (pe_h h_first_lookup_fault (hr.mono (by decide)) (pa_cons (pv 0) pa_nil)) (peOrT (K := K) rfl (pe_h h_placed (hr.mono (by decide)) (pa_cons pe_str (pa_cons (pe_h h_features_reason (hr.mono (by decide)) (pa_cons (pv 0) pa_nil)) pa_nil))) (peOrT (K := K) rfl (pe_h h_placed (hr.mono (by decide)) (pa_cons pe_str (pa_cons (pe_h h_axes_reason (hr.mono (by decide)) (pa_cons (pv 0) pa_nil)) pa_nil))) (peOrT (K := K) rfl (pe_h h_placed (hr.mono (by decide)) (pa_cons pe_str (pa_cons (pe_h h_regions_reason (hr.mono (by decide)) (pa_cons (pv 0) pa_nil)) pa_nil))) (peOrT (K := K) rfl (pe_h h_placed (hr.mono (by decide)) (pa_cons pe_str (pa_cons (pe_h h_functions_reason (hr.mono (by decide)) (pa_cons (pv 0) pa_nil)) pa_nil))) (pe_one (pe_h h_placed (hr.mono (by decide)) (pa_cons pe_str (pa_cons (pe_h h_presets_reason (hr.mono (by decide)) (pa_cons (pv 0) pa_nil)) pa_nil))))))))))))))))), ?_⟩
    walk_at "fl.w"
    refine spD_app S [foD (cs mg) fo.R] .none hS_0 (.cons h1_0 .nil) ⟨fo, fok, rfl, rfl⟩ (fun v G1 sm1 hv => ?_)
    cases hv.nonE
    have smA_1 : Same H G1 := sm1
    have h1_1 := h1_0.same sm1
    have hS_1 := hS_0.same sm1
    have fA_1 := sm1 _ _ fA_0
    walk_at "fl.w"
    refine spD_app S [.str _, .none] .none hS_1 (.cons (.str _) (.cons .non .nil)) ⟨_, rfl, rfl⟩ (fun v G2 sm2 hv => ?_)
    cases hv.nonE
    have smA_2 : Same H G2 := smA_1.trans sm2
    have h1_2 := h1_1.same sm2
    have hS_2 := hS_1.same sm2
    have fA_2 := sm2 _ _ fA_1
    walk_at "fl.w"
    have j2_2 := j2.same smA_2
    refine spD_app S [.list ((fo.glyphs.map GlV.R).map (glD (cs mg))), .int 1, .int 60] .none hS_2 (.cons j2_2 (.cons (.int _) (.cons (.int _) .nil))) ⟨_, _, _, rfl, by rw [List.length_map, List.length_map]; have := fok.g; omega, by rw [List.length_map, List.length_map]; have := fok.g; omega, rfl⟩ (fun v G3 sm3 hv => ?_)
    cases hv.nonE
    have smA_3 : Same H G3 := smA_2.trans sm3
    have h1_3 := h1_2.same sm3
    have hS_3 := hS_2.same sm3
    have fA_3 := sm3 _ _ fA_2
    walk_at "fl.w"
    refine spD_app S [.str _, .none] .none hS_3 (.cons (.str _) (.cons .non .nil)) ⟨_, rfl, rfl⟩ (fun v G4 sm4 hv => ?_)
    cases hv.nonE
    have smA_4 : Same H G4 := smA_3.trans sm4
    have h1_4 := h1_3.same sm4
    have hS_4 := hS_3.same sm4
    have fA_4 := sm4 _ _ fA_3
    walk_at "fl.w"
    refine spD_app S [foD (cs mg) fo.R] .none hS_4 (.cons h1_4 .nil) ⟨fo, fok, rfl, rfl⟩ (fun v G5 sm5 hv => ?_)
    cases hv.nonE
    have smA_5 : Same H G5 := smA_4.trans sm5
    have h1_5 := h1_4.same sm5
    have hS_5 := hS_4.same sm5
    have fA_5 := sm5 _ _ fA_4
    walk_at "fl.w"
    refine spD_app S [foD (cs mg) fo.R] .none hS_5 (.cons h1_5 .nil) ⟨fo, fok, rfl, rfl⟩ (fun v G6 sm6 hv => ?_)
    cases hv.nonE
    have smA_6 : Same H G6 := smA_5.trans sm6
    have h1_6 := h1_5.same sm6
    have hS_6 := hS_5.same sm6
    have fA_6 := sm6 _ _ fA_5
    walk_at "fl.w"
    refine spD_app S [.str _, .none] .none hS_6 (.cons (.str _) (.cons .non .nil)) ⟨_, rfl, rfl⟩ (fun v G7 sm7 hv => ?_)
    cases hv.nonE
    have smA_7 : Same H G7 := smA_6.trans sm7
    have h1_7 := h1_6.same sm7
    have hS_7 := hS_6.same sm7
    have fA_7 := sm7 _ _ fA_6
    walk_at "fl.w"
    refine spD_app S [foD (cs mg) fo.R] .none hS_7 (.cons h1_7 .nil) ⟨fo, fok, rfl, rfl⟩ (fun v G8 sm8 hv => ?_)
    cases hv.nonE
    have smA_8 : Same H G8 := smA_7.trans sm8
    have h1_8 := h1_7.same sm8
    have hS_8 := hS_7.same sm8
    have fA_8 := sm8 _ _ fA_7
    walk_at "fl.w"
    refine spD_app S [.str _, .none] .none hS_8 (.cons (.str _) (.cons .non .nil)) ⟨_, rfl, rfl⟩ (fun v G9 sm9 hv => ?_)
    cases hv.nonE
    have smA_9 : Same H G9 := smA_8.trans sm9
    have h1_9 := h1_8.same sm9
    have hS_9 := hS_8.same sm9
    have fA_9 := sm9 _ _ fA_8
    walk_at "fl.w"
    have j4_9 := j4.same smA_9
    refine spD_app S [.list ((fo.lks.map LkV.R).map (lkD (cs mg))), .int 0, .int 20] .none hS_9 (.cons j4_9 (.cons (.int _) (.cons (.int _) .nil))) ⟨_, _, _, rfl, by rw [List.length_map, List.length_map]; have := fok.l; omega, by rw [List.length_map, List.length_map]; have := fok.l; omega, rfl⟩ (fun v G10 sm10 hv => ?_)
    cases hv.nonE
    have smA_10 : Same H G10 := smA_9.trans sm10
    have h1_10 := h1_9.same sm10
    have hS_10 := hS_9.same sm10
    have fA_10 := sm10 _ _ fA_9
    walk_at "fl.w"
    refine spD_app S [.str _, .none] .none hS_10 (.cons (.str _) (.cons .non .nil)) ⟨_, rfl, rfl⟩ (fun v G11 sm11 hv => ?_)
    cases hv.nonE
    have smA_11 : Same H G11 := smA_10.trans sm11
    have h1_11 := h1_10.same sm11
    have hS_11 := hS_10.same sm11
    have fA_11 := sm11 _ _ fA_10
    walk_at "fl.w"
    refine spD_app S [foD (cs mg) fo.R] .none hS_11 (.cons h1_11 .nil) ⟨fo, fok, rfl, rfl⟩ (fun v G12 sm12 hv => ?_)
    cases hv.nonE
    have smA_12 : Same H G12 := smA_11.trans sm12
    have h1_12 := h1_11.same sm12
    have hS_12 := hS_11.same sm12
    have fA_12 := sm12 _ _ fA_11
    walk_at "fl.w"
    refine spD_app S [foD (cs mg) fo.R] .none hS_12 (.cons h1_12 .nil) ⟨fo, fok, rfl, rfl⟩ (fun v G13 sm13 hv => ?_)
    cases hv.nonE
    have smA_13 : Same H G13 := smA_12.trans sm13
    have h1_13 := h1_12.same sm13
    have hS_13 := hS_12.same sm13
    have fA_13 := sm13 _ _ fA_12
    walk_at "fl.w"
    refine spD_app S [.str _, .none] .none hS_13 (.cons (.str _) (.cons .non .nil)) ⟨_, rfl, rfl⟩ (fun v G14 sm14 hv => ?_)
    cases hv.nonE
    have smA_14 : Same H G14 := smA_13.trans sm14
    have h1_14 := h1_13.same sm14
    have hS_14 := hS_13.same sm14
    have fA_14 := sm14 _ _ fA_13
    walk_at "fl.w"
    refine spD_app S [foD (cs mg) fo.R] .none hS_14 (.cons h1_14 .nil) ⟨fo, fok, rfl, rfl⟩ (fun v G15 sm15 hv => ?_)
    cases hv.nonE
    have smA_15 : Same H G15 := smA_14.trans sm15
    have h1_15 := h1_14.same sm15
    have hS_15 := hS_14.same sm15
    have fA_15 := sm15 _ _ fA_14
    walk_at "fl.w"
    refine spD_app S [.str _, .none] .none hS_15 (.cons (.str _) (.cons .non .nil)) ⟨_, rfl, rfl⟩ (fun v G16 sm16 hv => ?_)
    cases hv.nonE
    have smA_16 : Same H G16 := smA_15.trans sm16
    have h1_16 := h1_15.same sm16
    have hS_16 := hS_15.same sm16
    have fA_16 := sm16 _ _ fA_15
    walk_at "fl.w"
    refine spD_app S [foD (cs mg) fo.R] .none hS_16 (.cons h1_16 .nil) ⟨fo, fok, rfl, rfl⟩ (fun v G17 sm17 hv => ?_)
    cases hv.nonE
    have smA_17 : Same H G17 := smA_16.trans sm17
    have h1_17 := h1_16.same sm17
    have hS_17 := hS_16.same sm17
    have fA_17 := sm17 _ _ fA_16
    walk_at "fl.w"
    refine spD_app S [.str _, .none] .none hS_17 (.cons (.str _) (.cons .non .nil)) ⟨_, rfl, rfl⟩ (fun v G18 sm18 hv => ?_)
    cases hv.nonE
    have smA_18 : Same H G18 := smA_17.trans sm18
    have h1_18 := h1_17.same sm18
    have hS_18 := hS_17.same sm18
    have fA_18 := sm18 _ _ fA_17
    walk_at "fl.w"
    refine spD_app S [foD (cs mg) fo.R] .none hS_18 (.cons h1_18 .nil) ⟨fo, fok, rfl, rfl⟩ (fun v G19 sm19 hv => ?_)
    cases hv.nonE
    have smA_19 : Same H G19 := smA_18.trans sm19
    have h1_19 := h1_18.same sm19
    have hS_19 := hS_18.same sm19
    have fA_19 := sm19 _ _ fA_18
    walk_at "fl.w"
    refine spD_app S [.str _, .none] .none hS_19 (.cons (.str _) (.cons .non .nil)) ⟨_, rfl, rfl⟩ (fun v G20 sm20 hv => ?_)
    cases hv.nonE
    have smA_20 : Same H G20 := smA_19.trans sm20
    have h1_20 := h1_19.same sm20
    have hS_20 := hS_19.same sm20
    have fA_20 := sm20 _ _ fA_19
    walk_at "fl.w"
    refine spD_app S [foD (cs mg) fo.R] .none hS_20 (.cons h1_20 .nil) ⟨fo, fok, rfl, rfl⟩ (fun v G21 sm21 hv => ?_)
    cases hv.nonE
    have smA_21 : Same H G21 := smA_20.trans sm21
    have h1_21 := h1_20.same sm21
    have hS_21 := hS_20.same sm21
    have fA_21 := sm21 _ _ fA_20
    walk_at "fl.w"
    refine spD_app S [.str _, .none] .none hS_21 (.cons (.str _) (.cons .non .nil)) ⟨_, rfl, rfl⟩ (fun v G22 sm22 hv => ?_)
    cases hv.nonE
    have smA_22 : Same H G22 := smA_21.trans sm22
    have h1_22 := h1_21.same sm22
    have hS_22 := hS_21.same sm22
    have fA_22 := sm22 _ _ fA_21
    walk_at "fl.w"
    exact q _ _ smA_22 .non
end

section
variable {P : Program} {w : World} {K : PySem.W.Frag} {mg : Str → Option Value} {base : Heap}
theorem ok_Font (T : Txt K mg) (V : FoR → Prop) (h_first_fault : Has P w K mg base 7 "first_fault" ["font"] (spD (fFf (cs mg) V))) {e1 e2 e3 e4 e5 e6 e7 : Addr} (c : ClsI K mg "Font" "Font.__init__" s_Font fl_Font (kw_Font e1 e2 e3 e4 e5 e6 e7)) : InI P w K mg base 8 "Font" "Font.__init__" s_Font fl_Font (kw_Font e1 e2 e3 e4 e5 e6 e7) ps_Font (spI K (adr mg "Font") (fFo (cs mg) V)) := by
  have cl := c.cl
  have na := c.na
  have h_tuples_of := ok_tuples_of (P := P) (w := w) (base := base) T
  have h_copied_glyph := ok_copied_glyph (P := P) (w := w) (base := base) T
  have h_copied_lookup := ok_copied_lookup (P := P) (w := w) (base := base) T
  refine inI_of c sc_Font (fun vs H Q E h => ?_) (fun f cdv A outer s H vs Q E hr h => ?_)
  · obtain ⟨S, x, dx, ws, ds, fs, rfl, _, _, _, hd, ⟨gs, ch, ls, fe, ax, re, fn, pr, fo, rfl, _⟩, q⟩ := h
    obtain ⟨v1, _, rfl, _, hd⟩ := hd.consE
    obtain ⟨v2, _, rfl, _, hd⟩ := hd.consE
    obtain ⟨v3, _, rfl, _, hd⟩ := hd.consE
    obtain ⟨v4, _, rfl, _, hd⟩ := hd.consE
    obtain ⟨v5, _, rfl, _, hd⟩ := hd.consE
    obtain ⟨v6, _, rfl, _, hd⟩ := hd.consE
    obtain ⟨v7, _, rfl, _, hd⟩ := hd.consE
    obtain ⟨v8, _, rfl, _, hd⟩ := hd.consE
    obtain ⟨v9, _, rfl, _, hd⟩ := hd.consE
    cases hd.nilE
    rfl
  · obtain ⟨S, x, dx, ws, ds, fs, rfl, hxS, hS, hx, hd, ⟨gs, ch, ls, fe, ax, re, fn, pr, fo, rfl, fok, fV, sg, sc, sl, sf, sa, sr, sn, sp, rfl⟩, q⟩ := h
    obtain ⟨v1, _, rfl, h1, hd⟩ := hd.consE
    obtain ⟨v2, _, rfl, h2, hd⟩ := hd.consE
    obtain ⟨v3, _, rfl, h3, hd⟩ := hd.consE
    obtain ⟨v4, _, rfl, h4, hd⟩ := hd.consE
    obtain ⟨v5, _, rfl, h5, hd⟩ := hd.consE
    obtain ⟨v6, _, rfl, h6, hd⟩ := hd.consE
    obtain ⟨v7, _, rfl, h7, hd⟩ := hd.consE
    obtain ⟨v8, _, rfl, h8, hd⟩ := hd.consE
    obtain ⟨v9, _, rfl, h9, hd⟩ := hd.consE
    cases hd.nilE
    have I0 := InitAt.start hx hS hxS
    refine ⟨_, (pss_cons (psFld (K := K) rfl (pv 0) (pv 1) rfl)
      (pss_cons (psFld (K := K) rfl (pv 0) (pe_lc (own := [("glyph", 11)]) rfl sc_Font.nd (piS (K := K) rfl (pv 2)) (blkOk_by (by kernel_rfl)) (fun _ _ _ _ _ => (pg_name (i := 11) sc_Font.nd rfl (.inl rfl))) (fun _ _ _ _ _ => pts_nil) (fun _ _ _ _ _ => (pe_h h_copied_glyph (hr.mono (by decide)) (pa_cons (pv 11) pa_nil)))) rfl)
      (pss_cons (psFld (K := K) rfl (pv 0) (pe_h h_tuples_of (hr.mono (by decide)) (pa_cons (pv 3) pa_nil)) rfl)
      (pss_cons (psFld (K := K) rfl (pv 0) (pe_lc (own := [("lookup", 12)]) rfl sc_Font.nd (piS (K := K) rfl (pv 4)) (blkOk_by (by kernel_rfl)) (fun _ _ _ _ _ => (pg_name (i := 12) sc_Font.nd rfl (.inl rfl))) (fun _ _ _ _ _ => pts_nil) (fun _ _ _ _ _ => (pe_h h_copied_lookup (hr.mono (by decide)) (pa_cons (pv 12) pa_nil)))) rfl)
      (pss_cons (psFld (K := K) rfl (pv 0) (pe_lc (own := [("name", 13), ("numbers", 14)]) rfl sc_Font.nd (piS (K := K) rfl (pv 5)) (blkOk_by (by kernel_rfl)) (fun _ _ _ _ _ => (pgT (n := 2) (K := K) rfl (by rfl) (pgs_cons (pg_name (i := 13) sc_Font.nd rfl (.inl rfl)) (pgs_cons (pg_name (i := 14) sc_Font.nd rfl (.inl rfl)) pgs_nil)))) (fun _ _ _ _ _ => pts_nil) (fun _ _ _ _ _ => (pe_tup (pa_cons (pv 13) (pa_cons (pe_callTy (clLstOf (K := K) rfl) (by rfl) T.z_list (by decide +kernel) (pa_cons (pv 14) pa_nil)) pa_nil))))) rfl)
      (pss_cons (psFld (K := K) rfl (pv 0) (pe_h h_tuples_of (hr.mono (by decide)) (pa_cons (pv 6) pa_nil)) rfl)
      (pss_cons (psFld (K := K) rfl (pv 0) (pe_lc (own := [("region", 15)]) rfl sc_Font.nd (piS (K := K) rfl (pv 7)) (blkOk_by (by kernel_rfl)) (fun _ _ _ _ _ => (pg_name (i := 15) sc_Font.nd rfl (.inl rfl))) (fun _ _ _ _ _ => pts_nil) (fun _ _ _ _ _ => (pe_h h_tuples_of (hr.mono (by decide)) (pa_cons (pv 15) pa_nil)))) rfl)
      (pss_cons (psFld (K := K) rfl (pv 0) (pe_lc (own := [("function", 16)]) rfl sc_Font.nd (piS (K := K) rfl (pv 8)) (blkOk_by (by kernel_rfl)) (fun _ _ _ _ _ => (pg_name (i := 16) sc_Font.nd rfl (.inl rfl))) (fun _ _ _ _ _ => pts_nil) (fun _ _ _ _ _ => (pe_h h_tuples_of (hr.mono (by decide)) (pa_cons (pv 16) pa_nil)))) rfl)
      (pss_cons (psFld (K := K) rfl (pv 0) (pe_callTy (clLstOf (K := K) rfl) (by rfl) T.z_list (by decide +kernel) (pa_cons (pv 9) pa_nil)) rfl)
      (pss_cons (ps_set (i := 10) sc_Font.nd rfl (.inl rfl) (pe_h h_first_fault (hr.mono (by decide)) (pa_cons (pv 0) pa_nil)))
      (pss_one (ps_if (pt_cmpR op_notN (pv 10) pe_non (nomark _))
        pss_never
        pss_nil)))))))))))), ?_⟩
    walk_at "fl.w"
    have I1 := I0.put (I0.dqO (h1.dq fok.u)) "unit" rfl
    walk_at "fl.w"
    refine lcS (S := S) (fun i => (fo.glyphs[i]?).map (glD (cs mg))) I1.al (I1.deO h2) sg (by rw [List.length_map]; exact fok.g) (fun R h => ⟨_, rfl, h⟩) ?_ ?_
    · intro D i x2 e H2 hD he sm al hxe R N hR hN
      obtain ⟨r, hr1, rfl⟩ := at_map he
      refine g_name ⟨rfl, ?_⟩
      walk_at "fl.w"
      refine spD_app (D :: S) [_] _ al (.cons hxe .nil) ⟨r, fok.go r (List.mem_of_getElem? hr1), rfl, rfl⟩ (fun v H3 sm3 hv => ?_)
      exact hR _ _ _ (by rw [hr1]; rfl) sm3 hv
    intro D H2 sm2 hD hq2
    rw [fm_ltA (by rw [List.length_map])] at hq2
    have I1s := I1.same sm2
    walk_at "fl.w"
    have I2 := I1s.put hq2 "glyphs" rfl
    walk_at "fl.w"
    refine spE_app S [ch] (ltD fo.chars) I2.al (.cons (I2.deO h3) .nil) ⟨ch, _, rfl, sc, rfl⟩ (fun v H3 sm3 hv3 => ?_)
    have I2s := I2.same sm3
    walk_at "fl.w"
    have I3 := I2s.put hv3 "chars" rfl
    walk_at "fl.w"
    refine lcS (S := S) (fun i => (fo.lookups[i]?).map (lkD (cs mg))) I3.al (I3.deO h4) sl (by rw [List.length_map]; exact fok.l) (fun R h => ⟨_, rfl, h⟩) ?_ ?_
    · intro D i x2 e H2 hD he sm al hxe R N hR hN
      obtain ⟨r, hr1, rfl⟩ := at_map he
      refine g_name ⟨rfl, ?_⟩
      walk_at "fl.w"
      refine spD_app (D :: S) [_] _ al (.cons hxe .nil) ⟨r, fok.lo r (List.mem_of_getElem? hr1), rfl, rfl⟩ (fun v H3 sm3 hv => ?_)
      exact hR _ _ _ (by rw [hr1]; rfl) sm3 hv
    intro D4 H4 sm4 hD4 hq4
    rw [fm_ltA (by rw [List.length_map])] at hq4
    have I3s := I3.same sm4
    walk_at "fl.w"
    have I4 := I3s.put hq4 "lookups" rfl
    walk_at "fl.w"
    obtain ⟨xs, e1, e2, e3, e4⟩ := sf
    refine lcS (S := S) (fun i => (fo.features[i]?).map feD) I4.al (I4.deO h5) e1 (by omega) (fun R h => ⟨_, rfl, h⟩) ?_ ?_
    · intro D i x2 e H2 hD he sm al hxe R N hR hN
      obtain ⟨l, hl⟩ : ∃ l, fo.features[i]? = some l := by
        have := (List.getElem?_eq_some_iff.mp he).1
        exact ⟨fo.features[i]'(by omega), List.getElem?_eq_getElem _⟩
      obtain ⟨m, rfl, hm1, hm2⟩ := e3 i e l he hl
      obtain ⟨a, zs, rfl, na', ha, hA⟩ := hxe.tupE
      obtain ⟨n1, zs, rfl, hn1, hA⟩ := hA.consE
      obtain ⟨n2, zs, rfl, hn2, hA⟩ := hA.consE
      cases hA.nilE
      walk_at "fl.w"
      refine ⟨rfl, ?_⟩
      walk_at "fl.w"
      refine lstOf_app al hn2 hm1 fun p H3 sm3 hv => ?_
      have hn1' := hn1.same sm3
      walk_at "fl.w"
      rename_i t ht
      exact hR _ _ _ (by rw [hl]; rfl) (sm3.trans (Fl.Same.new ht)) (Dq.newT (al.same sm3) ht (.cons hn1' (.cons hv .nil)))
    intro D5 H5 sm5 hD5 hq5
    rw [fm_ltA e2] at hq5
    have I4s := I4.same sm5
    walk_at "fl.w"
    have I5 := I4s.put hq5 "features" rfl
    walk_at "fl.w"
    refine spE_app S [ax] (ltD fo.axes) I5.al (.cons (I5.deO h6) .nil) ⟨ax, _, rfl, sa, rfl⟩ (fun v H6 sm6 hv6 => ?_)
    have I5s := I5.same sm6
    walk_at "fl.w"
    have I6 := I5s.put hv6 "axes" rfl
    walk_at "fl.w"
    obtain ⟨xs, e1, e2, e3, e4⟩ := sr
    refine lcS (S := S) (fun i => (fo.regions[i]?).map ltD) I6.al (I6.deO h7) e1 (by omega) (fun R h => ⟨_, rfl, h⟩) ?_ ?_
    · intro D i x2 e H2 hD he sm al hxe R N hR hN
      obtain ⟨l, hl⟩ : ∃ l, fo.regions[i]? = some l := by
        have := (List.getElem?_eq_some_iff.mp he).1
        exact ⟨fo.regions[i]'(by omega), List.getElem?_eq_getElem _⟩
      refine g_name ⟨rfl, ?_⟩
      walk_at "fl.w"
      refine spE_app (D :: S) [e] (ltD l) al (.cons (.inl hxe) .nil) ⟨e, l, rfl, e3 i e l he hl, rfl⟩ (fun v H3 sm3 hv => ?_)
      exact hR _ _ _ (by rw [hl]; rfl) sm3 hv
    intro D7 H7 sm7 hD7 hq7
    rw [fm_ltA e2] at hq7
    have I6s := I6.same sm7
    walk_at "fl.w"
    have I7 := I6s.put hq7 "regions" rfl
    walk_at "fl.w"
    obtain ⟨xs, e1, e2, e3, e4⟩ := sn
    refine lcS (S := S) (fun i => (fo.functions[i]?).map ltD) I7.al (I7.deO h8) e1 (by omega) (fun R h => ⟨_, rfl, h⟩) ?_ ?_
    · intro D i x2 e H2 hD he sm al hxe R N hR hN
      obtain ⟨l, hl⟩ : ∃ l, fo.functions[i]? = some l := by
        have := (List.getElem?_eq_some_iff.mp he).1
        exact ⟨fo.functions[i]'(by omega), List.getElem?_eq_getElem _⟩
      refine g_name ⟨rfl, ?_⟩
      walk_at "fl.w"
      refine spE_app (D :: S) [e] (ltD l) al (.cons (.inl hxe) .nil) ⟨e, l, rfl, e3 i e l he hl, rfl⟩ (fun v H3 sm3 hv => ?_)
      exact hR _ _ _ (by rw [hl]; rfl) sm3 hv
    intro D8 H8 sm8 hD8 hq8
    rw [fm_ltA e2] at hq8
    have I7s := I7.same sm8
    walk_at "fl.w"
    have I8 := I7s.put hq8 "functions" rfl
    walk_at "fl.w"
    refine lstOf_de I8.al (I8.deO h9) sp.1 fun v9 H9 sm9 hv9 => ?_
    have I8s := I8.same sm9
    walk_at "fl.w"
    have I9 := I8s.put hv9 "presets" rfl
    walk_at "fl.w"
    have hF := I9.fin
    refine spD_app _ [foD (cs mg) fo] .none hF.1 (.cons hF.2 .nil) ⟨fo, fV, rfl, rfl⟩ (fun v H10 sm10 hv10 => ?_)
    cases hv10.nonE
    have I10 := I9.same sm10
    walk_at "fl.w"
    exact q _ _ I10.fr I10.hx I10.dq
end

section
variable {P : Program} {w : World} {K : PySem.W.Frag} {mg : Str → Option Value} {base : Heap}
/-- Rule(inside, back=, ahead=, out=, calls=) -/
theorem mk_Rule_law {e1 e2 e3 e4 : Addr} {sp : Sp} (h : InI P w K mg base 2 "Rule" "Rule.__init__" s_Rule fl_Rule (kw_Rule e1 e2 e3 e4) ps_Rule sp) :
    MkI P w K mg base 2 "Rule" 1 ["back", "ahead", "out", "calls"] (fun vs zs => pick [0, 1, 3, 4, 5, 6, 2] (vs ++ ([.int 0] ++ zs))) sp :=
  h.make 1 ["back", "ahead", "out", "calls"] [("extra", .int 0)] [0, 1, 3, 4, 5, 6, 2] (by simp) (by simp [kw_Rule]) fun D doc pm an cdv ct us mv ws h1 h2 h3 => match us, h1, mv, h2, ws, h3 with | [_, _], _, [_], _, [_, _, _, _], _ => ⟨_, _, _, _, _, _, rfl, rfl, rfl⟩
/-- Glyph(advance, outline, mark=) -/
theorem mk_Glyph_law {e1 e2 e3 e4 : Addr} {sp : Sp} (h : InI P w K mg base 2 "Glyph" "Glyph.__init__" s_Glyph fl_Glyph (kw_Glyph e1 e2 e3 e4) ps_Glyph sp) :
    MkI P w K mg base 2 "Glyph" 2 ["mark"] (fun vs zs => pick [0, 1, 2, 3, 4, 7, 5, 6] (vs ++ ([.ref e1, .ref e2, .ref e3, .ref e4] ++ zs))) sp :=
  h.make 2 ["mark"] [("parts", .ref e1), ("anchors", .ref e2), ("deltas", .ref e3), ("hint", .ref e4)] [0, 1, 2, 3, 4, 7, 5, 6] (by simp) (by simp [kw_Glyph]) fun D doc pm an cdv ct us mv ws h1 h2 h3 => match us, h1, mv, h2, ws, h3 with | [_, _, _], _, [_, _, _, _], _, [_], _ => ⟨_, _, _, _, _, _, rfl, rfl, ⟨_, _, _, _, _, _, rfl, rfl, ⟨_, _, _, _, _, _, rfl, rfl, ⟨_, _, _, _, _, _, rfl, rfl, rfl⟩⟩⟩⟩
/-- Font(unit, glyphs, lookups=) -/
theorem mk_Font_law {e1 e2 e3 e4 e5 e6 e7 : Addr} {sp : Sp} (h : InI P w K mg base 8 "Font" "Font.__init__" s_Font fl_Font (kw_Font e1 e2 e3 e4 e5 e6 e7) ps_Font sp) :
    MkI P w K mg base 8 "Font" 2 ["lookups"] (fun vs zs => pick [0, 1, 2, 3, 9, 4, 5, 6, 7, 8] (vs ++ ([.ref e1, .ref e3, .ref e4, .ref e5, .ref e6, .ref e7] ++ zs))) sp :=
  h.make 2 ["lookups"] [("chars", .ref e1), ("features", .ref e3), ("axes", .ref e4), ("regions", .ref e5), ("functions", .ref e6), ("presets", .ref e7)] [0, 1, 2, 3, 9, 4, 5, 6, 7, 8] (by simp) (by simp [kw_Font]) fun D doc pm an cdv ct us mv ws h1 h2 h3 => match us, h1, mv, h2, ws, h3 with | [_, _, _], _, [_, _, _, _, _, _], _, [_], _ => ⟨_, _, _, _, _, _, rfl, rfl, ⟨_, _, _, _, _, _, rfl, rfl, ⟨_, _, _, _, _, _, rfl, rfl, ⟨_, _, _, _, _, _, rfl, rfl, ⟨_, _, _, _, _, _, rfl, rfl, ⟨_, _, _, _, _, _, rfl, rfl, rfl⟩⟩⟩⟩⟩⟩
def fLf (c : Cs) (ds : List PyData) (d : PyData) : Prop := ∃ f : FoV, f.Ok ∧ ds = [.int f.glyphs.length, .list ((f.glyphs.map GlV.mark).map .bool), .list ((f.glyphs.map GlV.adv).map .int), .list (f.lks.map lkT)] ∧ d = foD c f.R
theorem ok_law_font (T : Txt K mg) (I : InsK K w mg) : Has P w K mg base 10 "_law_font" ps_law_font (spD (fLf (cs mg))) := by
  obtain ⟨f1, f2, f3, f4, f5, f6, f7, n1, n2, n3, n4, n5, n6, n7, cF⟩ := T.c_Font
  obtain ⟨g1, g2, g3, g4, o1, o2, o3, o4, cG⟩ := T.c_Glyph
  obtain ⟨r1, r2, r3, r4, q1, q2, q3, q4, cR⟩ := T.c_Rule
  have cL := T.c_Lookup
  have mk_Rule_1_back_ahead_out_calls := mk_Rule_law (ok_Rule (P := P) (w := w) (base := base) T cR)
  have mk_Glyph_2_mark := mk_Glyph_law (ok_Glyph (P := P) (w := w) (base := base) T cG)
  have mk_Lookup_2_ignore := mk_Lookup_all (ok_Lookup (P := P) (w := w) (base := base) T cL)
  have h_ff := ok_first_fault (P := P) (base := base) T I
  have mk_Font_2_lookups := mk_Font_law (ok_Font (P := P) (w := w) (base := base) T (fun fo => ∃ f : FoV, f.Ok ∧ fo = f.R) (by
    obtain ⟨f, fd, a, b, c, d⟩ := (h_ff.mono (k := 7) (by decide)).ex
    refine ⟨f, fd, ?_, b, c, d⟩
    exact fnok_weak a fun vs H Q E h => by
      obtain ⟨S, ds, d, hS, hd, ⟨fo, ⟨f, fok, rfl⟩, rfl, rfl⟩, q⟩ := h
      exact ⟨S, _, _, hS, hd, ⟨f, fok, rfl, rfl⟩, q⟩) cF)
  refine has_of T.d_law_font sc_law_font bd_law_font (fun vs H Q E h => ?_) (fun f cdv A outer s H vs Q E hr h => ?_)
  · obtain ⟨S, ds, d, _, hd, ⟨fo, fok, rfl, rfl⟩, _⟩ := h
    rw [hd.len]
    rfl
  · obtain ⟨S, ds, d, hS, hd, ⟨fo, fok, rfl, rfl⟩, q⟩ := h
    obtain ⟨v1, _, rfl, h1, hd⟩ := hd.consE
    obtain ⟨v2, _, rfl, h2, hd⟩ := hd.consE
    obtain ⟨v3, _, rfl, h3, hd⟩ := hd.consE
    obtain ⟨v4, _, rfl, h4, hd⟩ := hd.consE
    cases hd.nilE
    cases h1.intE
    have hn := fok.g
    have hl := fok.l
    obtain ⟨l4, zs, rfl, n4', hz4, hZ⟩ := h4.lstE
    obtain ⟨l2, ms, rfl, nn2, hz2, hM⟩ := h2.lstE
    obtain ⟨l3, as, rfl, nn3, hz3, hAd⟩ := h3.lstE
    have hlz := hZ.len
    rw [List.length_map] at hlz
    refine ⟨_, (pss_cons (ps_set (i := 4) sc_law_font.nd rfl (.inl rfl) (pe_lst pa_nil))
      (pss_cons (ps_for PassesOwn.never rfl (piL (K := K) rfl (pv 3)) (pgT (n := 3) (K := K) rfl (by rfl) (pgs_cons (pg_name (i := 5) sc_law_font.nd rfl (.inl rfl)) (pgs_cons (pg_name (i := 6) sc_law_font.nd rfl (.inl rfl)) (pgs_cons (pg_name (i := 7) sc_law_font.nd rfl (.inl rfl)) pgs_nil))))
        (pss_cons (ps_setLc (i := 8) (own := [("one", 11)]) rfl sc_law_font.nd rfl rfl (sw_true rfl rfl rfl (by decide +kernel)) (piL (K := K) rfl (pv 6)) (blkOk_by (by kernel_rfl)) (fun _ _ _ _ _ => (pg_name (i := 11) sc_law_font.nd rfl (.inl rfl))) (fun _ _ _ _ _ => pts_nil) (fun _ _ _ _ _ => (pe_mk (mg := mg) rfl mk_Rule_1_back_ahead_out_calls (hr.mono (by decide)) (pa_cons (pe_ix (ixT (K := K) rfl) (pv 11) pe_int (fun _ _ => rfl)) pa_nil) (pk_cons (pe_ix (ixT (K := K) rfl) (pv 11) pe_int (fun _ _ => rfl)) (pk_cons (pe_ix (ixT (K := K) rfl) (pv 11) pe_int (fun _ _ => rfl)) (pk_cons (pe_ix (ixT (K := K) rfl) (pv 11) pe_int (fun _ _ => rfl)) (pk_cons (pe_ix (ixT (K := K) rfl) (pv 11) pe_int (fun _ _ => rfl)) pk_nil)))))))
      (pss_one (ps_expr (pe_bm PySem.F.plainAttrs_list PySem.F.slot_list_append PySem.F.type_list_append mt_append (pv 4) (pa_cons (pe_mk (mg := mg) rfl mk_Lookup_2_ignore (hr.mono (by decide)) (pa_cons (pv 5) (pa_cons (pv 8) pa_nil)) (pk_cons (pv 7) pk_nil)) pa_nil))))))
      (pss_cons (ps_setLc (i := 9) (own := [("k", 10)]) rfl sc_law_font.nd rfl rfl (sw_true rfl rfl rfl (by decide +kernel)) (pi_range1 (by rfl) T.z_range (pa_cons (pv 0) pa_nil)) (blkOk_by (by kernel_rfl)) (fun _ _ _ _ _ => (pg_name (i := 10) sc_law_font.nd rfl (.inl rfl))) (fun _ _ _ _ _ => pts_nil) (fun _ _ _ _ _ => (pe_mk (mg := mg) rfl mk_Glyph_2_mark (hr.mono (by decide)) (pa_cons (pe_ix (ixL (K := K) rfl) (pv 2) (pv 10) (fun _ _ => rfl)) (pa_cons (pe_lst pa_nil) pa_nil)) (pk_cons (pe_ix (ixL (K := K) rfl) (pv 1) (pv 10) (fun _ _ => rfl)) pk_nil))))
      (pss_one (ps_ret (pe_mk (mg := mg) rfl mk_Font_2_lookups (hr.mono (by decide)) (pa_cons pe_int (pa_cons (pv 9) pa_nil)) (pk_cons (pv 4) pk_nil))))))), ?_⟩
    walk_at "fl.w"
    rename_i p hp
    have np : p ∉ S := hS.ni hp
    have smp : Same H (upd H p (.lst [])) := Fl.Same.new hp
    have alp0 : Al (p :: S) (upd H p (.lst [])) := .cons (by rw [upd_same]; simp) (hS.same smp)
    have ne4 : l4 ≠ p := fun e => by rw [e, hp] at hz4; cases hz4
    have keep : ∀ {H' : Hp} {a : Addr} {o : HO}, Fr [p] (upd H p (.lst [])) H' → H a = some o → H' a = some o := fun f e => f _ _ (by simp; intro z; rw [z, hp] at e; cases e) (smp _ _ e)
    refine forK_l (xs := zs) (fun i σ' H' => (∃ u5 u6 u7 u8 u9 u10 u11, σ' = [some (.int (fo.glyphs.length : Int)), some (.ref l2), some (.ref l3), some (.ref l4), some (.ref p), u5, u6, u7, u8, u9, u10, u11]) ∧ Fr [p] (upd H p (.lst [])) H' ∧ ∃ acc, H' p = some (.lst acc) ∧ DqA (p :: S) H' acc ((fo.lks.take i).map fun k => lkD (cs mg) k.R)) ⟨⟨_, _, _, _, _, _, _, rfl⟩, Fr.refl, [], upd_same, .nil⟩ ?_ ?_ ?_
    · intro i σ' H' _ ⟨_, hf, _⟩
      exact SqL.of (keep hf hz4)
    · intro i x σ' H' hxi ⟨⟨u5, u6, u7, u8, u9, u10, u11, e⟩, hf, acc, hacc, hA⟩
      subst e
      have alp : Al (p :: S) H' := alp0.fr hf (.cons (by rw [hacc]; simp) .nil)
      have hla := hA.len
      have hacl : acc.length < 2000 := by
        rw [hla, List.length_map, List.length_take]
        omega
      have hil := (List.getElem?_eq_some_iff.mp hxi).1
      have hZp : DqA (p :: S) H' zs (fo.lks.map lkT) := (((hZ.new hp).same smp)).fr (hf.mono fun b m => by rw [show b = p by simpa using m]; exact List.mem_cons_self)
      obtain ⟨k, hk1, hx⟩ := hZp.getM hxi
      have kok := fok.lo k (List.mem_of_getElem? hk1)
      have hkr := kok.r
      obtain ⟨t, ys, rfl, _, ht, hY⟩ := hx.tupE
      obtain ⟨y1, ys, rfl, hy1, hY⟩ := hY.consE
      obtain ⟨y2, ys, rfl, hy2, hY⟩ := hY.consE
      obtain ⟨y3, ys, rfl, hy3, hY⟩ := hY.consE
      cases hY.nilE
      cases hy1
      cases hy3.blE
      have hy2' := hy2
      obtain ⟨rl, rs, rfl, nrl, hrl, hR⟩ := hy2'.lstE
      refine g_gtup (SqT.of ht) rfl ?_
      walk_at "fl.w"
      refine lcL (S := p :: S) (fun j => (k.rules[j]?).map fun r => insD (adr mg "Rule") r.R.F) alp hy2 (by rw [List.length_map]; omega) ?_ ?_
      · intro D j x e H2 hD he sm al hxe R N hR hN
        obtain ⟨r, hr1, rfl⟩ := at_map he
        have rok := RuV.Rok (kok.ro r (List.mem_of_getElem? hr1)) (by omega)
        obtain ⟨tr, zr, rfl, _, htr, hZr⟩ := hxe.tupE
        obtain ⟨d1, zr, rfl, hd1, hZr⟩ := hZr.consE
        obtain ⟨d2, zr, rfl, hd2, hZr⟩ := hZr.consE
        obtain ⟨d3, zr, rfl, hd3, hZr⟩ := hZr.consE
        obtain ⟨d4, zr, rfl, hd4, hZr⟩ := hZr.consE
        obtain ⟨d5, zr, rfl, hd5, hZr⟩ := hZr.consE
        cases hZr.nilE
        refine g_name ⟨rfl, ?_⟩
        walk_at "fl.w"
        refine g_mk rfl rfl (mk_app (f := fRu) (ws := [d1, d2, d3, d4, d5, .int 0]) (D :: p :: S) [llD r.R.inside, llD r.R.back, llD r.R.ahead, .list r.R.out, ltD r.R.calls, .int 0] r.R.F (fun x => rfl) al (.cons (.inl hd1) (.cons (.inl hd2) (.cons (.inl hd3) (.cons (.inl hd4) (.cons (.inl hd5) (.cons (.inl (.int 0)) .nil))))))
          ⟨_, _, _, _, _, r.R, rfl, rok, .ll rok.i, .ll rok.b, .ll rok.a, .ls rok.o, .lt rok.c, rfl⟩ fun x H3 sm3 hv => hR _ _ _ (by rw [hr1]; rfl) sm3 hv)
      · intro D H2 sm hD hq
        rw [fm_ltA (by rw [List.length_map])] at hq
        have hacc2 := sm _ _ hacc
        walk_at "fl.w"
        refine g_mk rfl rfl (mk_app (f := fLk (adr mg "Rule")) (ws := [.str k.kind, .ref D, .bl k.ign]) (p :: S) [.str k.kind, .list (k.R.rules.map fun r => insD (adr mg "Rule") r.F), .bool k.ign] (k.R.F (adr mg "Rule")) (fun x => rfl) (alp.same sm) (.cons (.inl (.str _)) (.cons (.inl (by
            show Dq (p :: S) H2 (.ref D) (.list ((k.rules.map RuV.R).map fun r => insD (adr mg "Rule") r.F))
            rw [List.map_map]
            exact hq)) (.cons (.inl (.bl _)) .nil)))
          ⟨k.R, _, rfl, LkV.Rok kok (by omega), rfl, rfl⟩ fun x H3 sm3 hv => ?_)
        have hacc3 := sm3 _ _ hacc2
        walk_at "fl.w"
        have hu : Fr (p :: S) H3 (upd H3 p (.lst (acc ++ [.ref x]))) := Fr.upd (by simp)
        refine ⟨⟨_, _, _, _, _, _, _, rfl⟩, (hf.trans (Fr.same sm)).trans ((Fr.same sm3).trans (Fr.upd (by simp))), _, upd_same, ?_⟩
        rw [List.take_succ, hk1, List.map_append]
        exact ((((hA.same sm).same sm3).app (.one hv))).fr hu
    · intro σ' H' ⟨⟨u5, u6, u7, u8, u9, u10, u11, e⟩, hf, acc, hacc, hA⟩
      subst e
      have alp : Al (p :: S) H' := alp0.fr hf (.cons (by rw [hacc]; simp) .nil)
      rw [List.take_of_length_le (by omega)] at hA
      have smH : Same H H' := fun a o e => keep hf e
      have hz2' := smH _ _ hz2
      have hz3' := smH _ _ hz3
      walk_at "fl.w"
      refine lcR (S := p :: S) (fun j => (fo.glyphs[j]?).map fun g => glD (cs mg) g.R) alp (by omega) ?_ ?_
      · intro D j H2 hD hj sm al R N hR hN
        obtain ⟨g, hg⟩ : ∃ g, fo.glyphs[j]? = some g := ⟨_, List.getElem?_eq_getElem (by omega)⟩
        obtain ⟨xa, hxa, hxaD⟩ := hAd.getD (i := j) (d := .int g.adv) (by simp [hg])
        cases hxaD.intE
        obtain ⟨xm, hxm, hxmD⟩ := hM.getD (i := j) (d := .bool g.mark) (by simp [hg])
        cases hxmD.blE
        have hata : atI as (j : Int) = some (.int g.adv) := atI_nat (j := j) hxa
        have hatm : atI ms (j : Int) = some (.bl g.mark) := atI_nat (j := j) hxm
        have hz2'' := sm _ _ hz2'
        have hz3'' := sm _ _ hz3'
        rw [Int.zero_add]
        refine g_name ⟨rfl, ?_⟩
        walk_at "fl.w"
        rename_i q0 hq0
        refine g_mk rfl rfl (mk_app (f := fGl) (ws := [.int g.adv, .ref q0, .ref g1, .ref g2, .bl g.mark, .ref g3, .ref g4]) (D :: p :: S) [.int g.adv, .list [], .tuple [], .tuple [], .bool g.mark, .tuple [], .tuple []] g.R.F (fun x => rfl) (al.same (Fl.Same.new hq0)) (.cons (.inl (.int _)) (.cons (.inl (Dq.newL al hq0 .nil)) (.cons (.inr ⟨rfl, _, rfl, o1⟩) (.cons (.inr ⟨rfl, _, rfl, o2⟩) (.cons (.inl (.bl _)) (.cons (.inr ⟨rfl, _, rfl, o3⟩) (.cons (.inr ⟨rfl, _, rfl, o4⟩) .nil)))))))
          ⟨_, _, _, _, _, g.R, rfl, GlV.Rok, .le, .e, .e, .e, .e, rfl⟩ fun x H3 sm3 hv => hR _ _ _ (by rw [hg]; rfl) (L2.Same.trans (Fl.Same.new hq0) sm3) hv)
      · intro D H2 sm hD hq
        rw [fm_ltA (by simp)] at hq
        have hmade : Dq S H2 (.ref p) (.list (fo.R.lookups.map (lkD (cs mg)))) := by
          show Dq S H2 (.ref p) (.list ((fo.lks.map LkV.R).map (lkD (cs mg))))
          rw [List.map_map]
          exact (Dq.lst np hacc hA.tail).same sm
        have hgl : Dq S H2 (.ref D) (.list (fo.R.glyphs.map (glD (cs mg)))) := by
          show Dq S H2 (.ref D) (.list ((fo.glyphs.map GlV.R).map (glD (cs mg))))
          rw [List.map_map]
          exact hq.tail
        walk_at "fl.w"
        refine g_mk rfl rfl (mk_app (f := fFo (cs mg) (fun fo => ∃ f : FoV, f.Ok ∧ fo = f.R)) (ws := [.int 100, .ref D, .ref f1, .ref p, .ref f3, .ref f4, .ref f5, .ref f6, .ref f7]) S [.int 100, .list (fo.R.glyphs.map (glD (cs mg))), .tuple [], .list (fo.R.lookups.map (lkD (cs mg))), .tuple [], .tuple [], .tuple [], .tuple [], .tuple []] (fo.R.F (cs mg)) (fun x => rfl) ((hS.same smH).same sm) (.cons (.inl (.int _)) (.cons (.inl hgl) (.cons (.inr ⟨rfl, _, rfl, n1⟩) (.cons (.inl hmade) (.cons (.inr ⟨rfl, _, rfl, n3⟩) (.cons (.inr ⟨rfl, _, rfl, n4⟩) (.cons (.inr ⟨rfl, _, rfl, n5⟩) (.cons (.inr ⟨rfl, _, rfl, n6⟩) (.cons (.inr ⟨rfl, _, rfl, n7⟩) .nil)))))))))
          ⟨_, _, _, _, _, _, _, _, fo.R, rfl, FoV.Rok fok, ⟨fo, fok, rfl⟩, rfl, .e, rfl, .e, .e, .e, .e, .e, rfl⟩ fun x H3 sm3 hv => q _ _ ((smH.trans sm).trans sm3) hv)
end

section
variable {P : Program} {w : World} {K : PySem.W.Frag} {mg : Str → Option Value} {base : Heap}
theorem g_breakS {D : Ends} {σ : L2.St} {H : Hp} (q : D.bk σ H) : tBreak D σ H := q
local macro_rules | `(tactic| walk_at "fl.t") => `(tactic| ((with_reducible apply g_appB); (focus walk_at "fl.raw"); (focus first | assumption | walk_at "fl.cz")))
local macro_rules | `(tactic| walk_at "fl.t") => `(tactic| (with_reducible refine g_bm0 ?_))
local macro_rules | `(tactic| walk_at "fl.t") => `(tactic| (with_reducible refine g_breakS ?_))
local macro_rules | `(tactic| walk_at "fl.w") => `(tactic| repeat walk_at "fl.t")
def spMix : Sp := fun vs H Q _ => ∃ n k : Int, vs = [.int n, .int k] ∧ ∀ v : Int, Q (.int v) H
theorem ok_law_mix (T : Txt K mg) : Has P w K mg base 1 "_law_mix" ps_law_mix spMix := by
  refine has_of T.d_law_mix sc_law_mix bd_law_mix (fun vs H Q E h => ?_) (fun f cdv A outer s H vs Q E hr h => ?_)
  · obtain ⟨n, k, rfl, _⟩ := h
    rfl
  · obtain ⟨n, k, rfl, q⟩ := h
    refine ⟨_, (pss_one (ps_ret (pe_op op_mod (pe_op op_mul (pe_op op_mod (pe_callTy call_int' (by rfl) T.z_int (by decide +kernel) (pa_cons (pe_op op_mul (pe_op op_add (pe_op op_add (pe_op op_mod (pe_callTy call_int' (by rfl) T.z_int (by decide +kernel) (pa_cons (pv 0) pa_nil)) pe_int) (pe_op op_mul pe_int (pv 1))) pe_int) pe_int) pa_nil)) pe_int) pe_int) pe_int))), ?_⟩
    walk_at "fl.w"
    exact q _
theorem mix_app {n k : Int} {H : Hp} {Q : VK} {E : XK} (q : ∀ v : Int, Q (.int v) H) : spMix [.int n, .int k] H Q E := ⟨n, k, rfl, q⟩
theorem ok_law_take (T : Txt K mg) : Has P w K mg base 1 "_law_take" ps_law_take spTk := by
  refine has_of T.d_law_take sc_law_take bd_law_take (fun vs H Q E h => ?_) (fun f cdv A outer s H vs Q E hr h => ?_)
  · obtain ⟨d, m, rfl, _⟩ := h
    rfl
  · obtain ⟨d, m, rfl, ⟨zs, hz, hl⟩, hm, q⟩ := h
    refine ⟨_, (pss_cons (ps_if (pt_not (ptTru (K := K) rfl (pv 0) (by intro _; rfl)))
        (pss_one (ps_ret pe_int))
        pss_nil)
      (pss_one (ps_ret (pe_op op_mod (pe_callTy call_int' (by rfl) T.z_int (by decide +kernel) (pa_cons (pe_bm0 PySem.F.plainAttrs_list PySem.F.slot_list_pop PySem.F.type_list_pop mt_pop (pv 0)) pa_nil)) (pv 1))))), ?_⟩
    walk_at "fl.w"
    rcases List.eq_nil_or_concat zs with rfl | ⟨ys, y, rfl⟩
    · refine ⟨false, .inl ⟨_, SqL.of hz, rfl⟩, ?_⟩
      walk_at "fl.w"
      exact q 0 H (Int.le_refl 0) hm ⟨[], hz, hl⟩ On.refl
    · rw [List.concat_eq_append] at hz hl
      refine ⟨true, .inl ⟨_, SqL.of hz, by simp⟩, ?_⟩
      have e : (((ys ++ [y]).map V.int))[((ys ++ [y]).map V.int).length - 1]? = some (.int y) := by simp
      walk_at "fl.w"
      refine g_pop hz e ?_
      walk_at "fl.w"
      refine q _ _ (Int.emod_nonneg _ (by omega)) (Int.emod_lt_of_pos _ hm) ⟨(ys ++ [y]).dropLast, ?_, by rw [List.length_dropLast]; omega⟩ On.upd
      rw [upd_same, List.map_dropLast]
def spNum (K : PySem.W.Frag) : Sp := fun vs H Q _ => ∃ (a : Addr) (ns : List Int) (m : Nat), vs = [.ref a, .int (m : Int)] ∧ SqL K H a (ns.map V.int) ∧ ns.length ≤ 63 ∧ m ≤ 1000 ∧ ∀ d H', Same H H' → H d = none → Dw d H' → Q (.ref d) H'
theorem ok_law_numbers (T : Txt K mg) : Has P w K mg base 2 "_law_numbers" ps_law_numbers (spNum K) := by
  have h_law_mix := ok_law_mix (P := P) (w := w) (base := base) T
  refine has_of T.d_law_numbers sc_law_numbers bd_law_numbers (fun vs H Q E h => ?_) (fun f cdv A outer s H vs Q E hr h => ?_)
  · obtain ⟨a, ns, m, rfl, _⟩ := h
    rfl
  · obtain ⟨a, ns, m, rfl, hS, hl, hm, q⟩ := h
    refine ⟨_, (pss_cons (ps_set (i := 2) sc_law_numbers.nd rfl (.inl rfl) (pe_lst pa_nil))
      (pss_cons (ps_set (i := 3) sc_law_numbers.nd rfl (.inl rfl) pe_int)
      (pss_cons (ps_for PassesOwn.never rfl (piL (K := K) rfl (pe_slice (slL' (K := K) rfl) (pv 0) po_none (po_some pe_int))) (pg_name (i := 4) sc_law_numbers.nd rfl (.inl rfl))
        (pss_cons (ps_set (i := 3) sc_law_numbers.nd rfl (.inl rfl) (pe_op op_add (pv 3) (pv 4)))
      (pss_one (ps_if (pt_cmpR op_ge (pv 4) pe_int (nomark _))
        (pss_cons (ps_set (i := 5) sc_law_numbers.nd rfl (.inl rfl) (pv 4))
      (pss_one (ps_for PassesOwn.never rfl (pi_range1 (by rfl) T.z_range (pa_cons pe_int pa_nil)) (pg_name (i := 6) sc_law_numbers.nd rfl (.inl rfl))
        (pss_cons (ps_expr (pe_bm PySem.F.plainAttrs_list PySem.F.slot_list_append PySem.F.type_list_append mt_append (pv 2) (pa_cons (pe_op op_mod (pe_callTy call_int' (by rfl) T.z_int (by decide +kernel) (pa_cons (pv 5) pa_nil)) pe_int) pa_nil)))
      (pss_cons (ps_set (i := 5) sc_law_numbers.nd rfl (.inl rfl) (pe_op op_fdivW (pv 5) pe_int))
      (pss_one (ps_if (pt_cmpR op_eq (pv 5) pe_int (nomark _))
        (pss_one ps_break)
        pss_nil)))))))
        (pss_one (ps_expr (pe_bm PySem.F.plainAttrs_list PySem.F.slot_list_append PySem.F.type_list_append mt_append (pv 2) (pa_cons (pe_h h_law_mix (hr.mono (by decide)) (pa_cons (pe_h h_law_mix (hr.mono (by decide)) (pa_cons (pv 4) (pa_cons pe_int pa_nil))) (pa_cons pe_int pa_nil))) pa_nil))))))))
      (pss_cons (ps_for PassesOwn.never rfl (pi_range1 (by rfl) T.z_range (pa_cons (pv 1) pa_nil)) (pg_name (i := 6) sc_law_numbers.nd rfl (.inl rfl))
        (pss_one (ps_expr (pe_bm PySem.F.plainAttrs_list PySem.F.slot_list_append PySem.F.type_list_append mt_append (pv 2) (pa_cons (pe_h h_law_mix (hr.mono (by decide)) (pa_cons (pe_h h_law_mix (hr.mono (by decide)) (pa_cons (pe_op op_add (pv 3) (pe_op op_mul pe_int (pv 6))) (pa_cons (pe_op op_add pe_int (pv 6)) pa_nil))) (pa_cons pe_int pa_nil))) pa_nil)))))
      (pss_cons (ps_expr (pe_bm0 PySem.F.plainAttrs_list PySem.F.slot_list_reverse PySem.F.type_list_reverse mt_reverse (pv 2)))
      (pss_one (ps_ret (pv 2)))))))), ?_⟩
    walk_at "fl.w"
    rename_i D hD
    have hS1 := Same.seq (Fl.Same.new hD (o := .lst [])) hS
    refine g_slTo (k := 63) hS1 (fun p hp => ?_)
    rw [List.take_of_length_le (by rw [List.length_map]; exact hl)]
    have npD : p ≠ D := fun e => by rw [e, upd_same] at hp; cases hp
    have hpH : H p = none := Same.free (Fl.Same.new hD) hp
    refine ⟨p, rfl, ⟨_, SqL.of upd_same⟩, ?_⟩
    refine forK_l (xs := ns.map V.int) (fun i σ' H' => (∃ u3 u4 u5 u6, σ' = [some (.ref a), some (.int (m : Int)), some (.ref D), some (.int u3), u4, u5, u6]) ∧ (∃ zs : List Int, H' D = some (.lst (zs.map V.int)) ∧ zs.length ≤ 60 * i) ∧ H' p = some (.lst (ns.map V.int)) ∧ Same H H') ⟨⟨_, _, _, _, rfl⟩, ⟨[], raw_new hp upd_same, Nat.le_refl _⟩, upd_same, (Fl.Same.new hD).trans (Fl.Same.new hp)⟩ ?_ ?_ ?_
    · intro i σ' H' _ ⟨_, _, rp, _⟩
      exact SqL.of rp
    · intro i x σ' H' hx ⟨⟨u3, u4, u5, u6, e⟩, ⟨zs, hz, hlz⟩, rp, sm⟩
      subst e
      rw [List.getElem?_map] at hx
      cases hn : ns[i]? with
      | none => rw [hn] at hx; cases hx
      | some n =>
        rw [hn] at hx
        cases hx
        have hi : i < ns.length := (List.getElem?_eq_some_iff.mp hn).1
        have hzl : (zs.map V.int).length < 100000 := by rw [List.length_map]; omega
        walk_at "fl.w"
        refine g_ite (fun _ => ?_) (fun _ => ?_)
        · walk_at "fl.w"
          refine forK_r (fun j σ' G' => (∃ u3 r u6, σ' = [some (.ref a), some (.int (m : Int)), some (.ref D), some (.int u3), some (.int n), some (.int r), u6]) ∧ (∃ ys : List Int, G' D = some (.lst (ys.map V.int)) ∧ ys.length ≤ zs.length + j) ∧ G' p = some (.lst (ns.map V.int)) ∧ Same H G') ⟨⟨_, _, _, rfl⟩, ⟨zs, hz, by omega⟩, rp, sm⟩ ?_ ?_
          · intro j σ' G' hj ⟨⟨u3, r, u6, e⟩, ⟨ys, hy, hly⟩, rp2, sm2⟩
            subst e
            have hj2 : j < 60 := hj
            have hyl : (ys.map V.int).length < 100000 := by rw [List.length_map]; omega
            walk_at "fl.w"
            have nx : ∀ y : Int, (∃ zs2 : List Int, upd G' D (.lst (ys.map V.int ++ [V.int y])) D = some (.lst (zs2.map V.int)) ∧ zs2.length ≤ zs.length + (j + 1)) ∧ upd G' D (.lst (ys.map V.int ++ [V.int y])) p = some (.lst (ns.map V.int)) ∧ Same H (upd G' D (.lst (ys.map V.int ++ [V.int y]))) := fun y =>
              ⟨⟨ys ++ [y], by rw [upd_same, Fl.ints_snoc], by rw [List.length_append]; simp; omega⟩, by rw [upd_ne npD]; exact rp2, Same.updN hD sm2⟩
            refine g_ite (fun _ => ?_) (fun _ => ?_)
            · walk_at "fl.w"
              obtain ⟨⟨zs2, e1, e2⟩, e3, e4⟩ := nx (r % 840)
              exact ⟨⟨_, _, _, _, rfl⟩, ⟨zs2, e1, by omega⟩, e3, e4⟩
            · walk_at "fl.w"
              obtain ⟨⟨zs2, e1, e2⟩, e3, e4⟩ := nx (r % 840)
              exact ⟨⟨_, _, _, rfl⟩, ⟨zs2, e1, e2⟩, e3, e4⟩
          · intro σ' G' ⟨⟨u3, r, u6, e⟩, ⟨ys, hy, hly⟩, rp2, sm2⟩
            subst e
            have hly : ys.length ≤ zs.length + 60 := hly
            exact ⟨⟨_, _, _, _, rfl⟩, ⟨ys, hy, by omega⟩, rp2, sm2⟩
        · walk_at "fl.w"
          refine mix_app (fun v => ?_)
          walk_at "fl.w"
          refine mix_app (fun v => ?_)
          walk_at "fl.w"
          exact ⟨⟨_, _, _, _, rfl⟩, ⟨zs ++ [v], by rw [upd_same, Fl.ints_snoc], by rw [List.length_append]; simp; omega⟩, by rw [upd_ne npD]; exact rp, Same.updN hD sm⟩
    · intro σ' H' ⟨⟨u3, u4, u5, u6, e⟩, ⟨zs, hz, hlz⟩, rp, sm⟩
      subst e
      rw [List.length_map] at hlz
      walk_at "fl.w"
      rw [show ((m : Nat) : Int).toNat = m by omega]
      refine forK_r (fun j σ' G' => (∃ u3 u4 u5 u6, σ' = [some (.ref a), some (.int (m : Int)), some (.ref D), some (.int u3), u4, u5, u6]) ∧ (∃ ys : List Int, G' D = some (.lst (ys.map V.int)) ∧ ys.length ≤ zs.length + j) ∧ Same H G') ⟨⟨_, _, _, _, rfl⟩, ⟨zs, hz, by omega⟩, sm⟩ ?_ ?_
      · intro j σ' G' hj ⟨⟨u3, u4, u5, u6, e⟩, ⟨ys, hy, hly⟩, sm2⟩
        subst e
        have hyl : (ys.map V.int).length < 100000 := by rw [List.length_map]; omega
        walk_at "fl.w"
        refine mix_app (fun v => ?_)
        walk_at "fl.w"
        refine mix_app (fun v => ?_)
        walk_at "fl.w"
        exact ⟨⟨_, _, _, _, rfl⟩, ⟨ys ++ [v], by rw [upd_same, Fl.ints_snoc], by rw [List.length_append]; simp; omega⟩, Same.updN hD sm2⟩
      · intro σ' G' ⟨⟨u3, u4, u5, u6, e⟩, ⟨ys, hy, hly⟩, sm2⟩
        subst e
        walk_at "fl.w"
        refine ⟨D, _, rfl, rfl, hy, ?_⟩
        walk_at "fl.w"
        exact q _ _ (Same.updN hD sm2) hD ⟨ys.reverse, by rw [upd_same, List.map_reverse], by rw [List.length_reverse]; omega⟩
section
variable {S X : List Addr} {H1 : Hp} {α : Type} {f : α → PyData}
/-- the list D at turn i of a comprehension whose steps change what stands at X and keep I; Pr: what is known of the items after i turns -/
structure GenF (f : α → PyData) (S X : List Addr) (I : Hp → Prop) (Pr : Nat → List α → Prop) (H1 : Hp) (D : Addr) (i : Nat) (H : Hp) : Prop where
  ex : ∃ (acc : List V) (rs : List α), H D = some (.lst acc) ∧ DqA (D :: S) H acc (rs.map f) ∧ rs.length ≤ i ∧ Pr i rs
  fr : Fl.Fr (D :: X) H1 H
  inv : I H
theorem GenF.al {I : Hp → Prop} {Pr : Nat → List α → Prop} {D : Addr} {i : Nat} {H : Hp} (h : GenF f S X I Pr H1 D i H) (hS : Al S H1) (hA : ∀ H, I H → Al X H) : Al (D :: S) H := by
  obtain ⟨⟨acc, rs, hacc, _⟩, hf, hi⟩ := h
  exact .cons (by rw [hacc]; simp) (hS.fr hf fun b m => by
    rcases List.mem_cons.mp m with rfl | m
    · rw [hacc]; simp
    · exact hA H hi b m)
theorem GenF.put {I : Hp → Prop} {Pr : Nat → List α → Prop} {D : Addr} {i : Nat} {H H' : Hp} {acc : List V} {rs : List α} {y : V} {r : α} (hX : ∀ b, b ∈ X → b ∈ S) (hDX : D ∉ X) (hP : I H' → I (upd H' D (.lst (acc ++ [y])))) (hacc : H D = some (.lst acc)) (hd : DqA (D :: S) H acc (rs.map f)) (hl : rs.length ≤ i) (hi : i < 1000) (hf : Fl.Fr (D :: X) H1 H)
    (f' : Fl.Fr X H H') (k : I H') (dq : Dq (D :: S) H' y (f r)) (pr : Pr (i + 1) (rs ++ [r])) : ∃ acc, H' D = some (.lst acc) ∧ acc.length < sizeLine ∧ GenF f S X I Pr H1 D (i + 1) (upd H' D (.lst (acc ++ [y]))) := by
  have hl2 := hd.len
  rw [List.length_map] at hl2
  refine ⟨acc, f' D _ hDX hacc, ?_, ⟨acc ++ [y], rs ++ [r], upd_same, ?_, ?_, pr⟩, ?_, hP k⟩
  · have : (1000 : Nat) ≤ sizeLine := by decide
    omega
  · rw [List.map_append]
    exact ((hd.fr (f'.mono fun b m => List.mem_cons_of_mem _ (hX b m))).app (.one dq)).fr (Fr.upd (by simp))
  · rw [List.length_append]
    simp
    omega
  · exact (hf.trans (f'.mono fun b m => List.mem_cons_of_mem _ m)).trans (Fr.upd (by simp))
theorem lcGf (f : α → PyData) {n : Nat} {lo : Int} {j : Nat} {tt : TT} {te : TE} {vs : List Nat} {σ : L2.St} {Q : VK} (X : List Addr) (I : Hp → Prop) (Pr : Nat → List α → Prop) (hS : Al S H1) (hX : ∀ b, b ∈ X → b ∈ S) (hI : I H1) (h0 : Pr 0 []) (hz : n < 1000)
    (hA : ∀ H, I H → Al X H) (hP : ∀ D H o, H1 D = none → I H → I (upd H D o))
    (step : ∀ (D : Addr) (i : Nat) (H : Hp) (rs : List α), H1 D = none → i < n → Al (D :: S) H → I H → Fl.Fr (D :: X) H1 H → Pr i rs →
      ∀ (R : V → Hp → Prop) (N : Hp → Prop), (∀ y H' r, Fl.Fr X H H' → I H' → Dq (D :: S) H' y (f r) → Pr (i + 1) (rs ++ [r]) → R y H') → (∀ H', Fl.Fr X H H' → I H' → Pr (i + 1) rs → N H') →
      wipe ((wipe σ vs).set j (some (.int (lo + i)))) vs = wipe σ vs ∧ tt ((wipe σ vs).set j (some (.int (lo + i)))) H fun b H3 => if b = true then te ((wipe σ vs).set j (some (.int (lo + i)))) H3 R else N H3)
    (q : ∀ (D : Addr) (H : Hp) (rs : List α), Fl.Fr X H1 H → I H → H1 D = none → Dq S H (.ref D) (.list (rs.map f)) → rs.length ≤ n → Pr n rs → Q (.ref D) H) :
    lcK (Itr lo n) (gName j) tt te vs σ H1 Q := by
  unfold lcK
  intro D hD
  have hDX : D ∉ X := fun m => hS D (hX D m) hD
  refine lc_range (GenF f S X I Pr H1 D) ⟨⟨[], [], upd_same, .nil, Nat.le_refl _, h0⟩, Fr.same (Fl.Same.new hD), hP D H1 _ hD hI⟩ ?_ ?_
  · intro i H hlt h
    have hAl := h.al hS hA
    obtain ⟨⟨acc, rs, hacc, hd, hl, hp⟩, hf, hi⟩ := h
    exact step D i H rs hD hlt hAl hi hf hp _ _ (fun y H' r f' k dq pr => GenF.put hX hDX (hP D H' _ hD) hacc hd hl (by omega) hf f' k dq pr)
      (fun H' f' k pr => ⟨⟨acc, rs, f' D _ hDX hacc, hd.fr (f'.mono fun b m => List.mem_cons_of_mem _ (hX b m)), by omega, pr⟩, hf.trans (f'.mono fun b m => List.mem_cons_of_mem _ m), k⟩)
  · intro H h
    obtain ⟨⟨acc, rs, hacc, hd, hl, hp⟩, hf, hi⟩ := h
    refine q D H rs (fun b o n e => hf b o (fun m => ?_) e) hi hD (.lst (hS.ni hD) hacc hd.tail) hl hp
    rcases List.mem_cons.mp m with rfl | m
    · rw [hD] at e; cases e
    · exact n m
end
theorem lex_snoc {n : Int} {c : List Int} (h : c.Pairwise (· < ·)) (hb : ∀ x, x ∈ c → x < n) : (c ++ [n]).Pairwise (· < ·) := by
  rw [List.pairwise_append]
  exact ⟨h, by simp, fun x hx y hy => by rw [show y = n by simpa using hy]; exact hb x hx⟩
end

section
theorem inV_ints (g : Int) : ∀ c : List Int, inV (.int g) (c.map V.int) = decide (g ∈ c)
  | [] => rfl
  | a :: c => by
    have := inV_ints g c
    simp only [inV, List.map_cons, List.any_cons] at this ⊢
    rw [this]
    by_cases e : g = a
    · subst e; simp [eqV]
    · have : eqV (.int a) (.int g) = false := by simp [eqV]; omega
      simp [this, e]
theorem bools_of {S : List Addr} {H : Hp} : ∀ {L : List Bool} {xs : List V}, DqA S H xs (L.map PyData.bool) → xs = L.map V.bl
  | [], xs, h => h.nilE
  | b :: L, xs, h => by
    obtain ⟨v, ws, rfl, hv, h⟩ := h.consE
    rw [hv.blE, bools_of h]
    rfl
theorem ints_of {S : List Addr} {H : Hp} : ∀ {L : List Int} {xs : List V}, DqA S H xs (L.map PyData.int) → xs = L.map V.int
  | [], xs, h => h.nilE
  | b :: L, xs, h => by
    obtain ⟨v, ws, rfl, hv, h⟩ := h.consE
    rw [hv.intE, ints_of h]
    rfl
theorem ints_flat : ∀ ns : List Int, (ns.map V.int).all flatV = true
  | [] => rfl
  | _ :: ns => by
    show (true && (ns.map V.int).all flatV) = true
    rw [ints_flat ns]
    rfl
theorem g_inI {K : PySem.W.Frag} {n : Int} {p : Addr} {ns : List Int} {H : Hp} {Q : VK} (h : SqL K H p (ns.map V.int) ∨ SqT K H p (ns.map V.int)) (q : Q (.bl (decide (n ∈ ns))) H) : rIn K false (.int n) (.ref p) H Q := ⟨p, ns.map V.int, rfl, h, rfl, ints_flat _, by rw [inV_ints]; exact q⟩
end
section
def natsD (ix : List Nat) : PyData := .list (ix.map fun (i : Nat) => .int (i : Int))
def setsD (sl : List (List Int)) : PyData := .list (sl.map fun c => .list (c.map .int))
/-- the law's own world of a font -/
def woD (f : FoV) : PyData := .tuple [.int f.glyphs.length, .list ((f.glyphs.map GlV.mark).map .bool), .list ((f.glyphs.map GlV.adv).map .int), .list (f.lks.map lkT)]
end
section
variable {P : Program} {w : World} {K : PySem.W.Frag} {mg : Str → Option Value} {base : Heap}
local macro_rules | `(tactic| walk_at "fl.t") => `(tactic| ((with_reducible apply tk_app); (focus first | assumption | (with_reducible exact Dw.newH (by assumption) (by assumption))); (focus first | assumption | omega); intro _ _ _ _ _ _))
local macro_rules | `(tactic| walk_at "fl.w") => `(tactic| repeat walk_at "fl.t")
def intsD (c : List Int) : PyData := .list (c.map .int)
def UpTo (n : Int) (l : List Int) : Prop := ∀ (i : Nat) g, l[i]? = some g → prv l i < g ∧ g < n
theorem prv_app {l m : List Int} {i : Nat} (h : i ≤ l.length) : prv (l ++ m) i = prv l i := by
  cases i with
  | zero => rfl
  | succ i => simp [prv, List.getElem?_append_left (show i < l.length by omega)]
theorem upto_mono {n m : Int} {l : List Int} (h : UpTo n l) (k : n ≤ m) : UpTo m l := fun i g e => ⟨(h i g e).1, by have := (h i g e).2; omega⟩
theorem upto_snoc {n : Int} {l : List Int} (h : UpTo n l) (h0 : 0 ≤ n) : UpTo (n + 1) (l ++ [n]) := fun i g e => by
  by_cases hi : i < l.length
  · rw [List.getElem?_append_left hi] at e
    rw [prv_app (by omega)]
    have := h i g e
    exact ⟨this.1, by omega⟩
  · rw [List.getElem?_append_right (by omega)] at e
    have hi2 : i = l.length := by
      have := (List.getElem?_eq_some_iff.mp e).1
      simp at this
      omega
    subst hi2
    rw [Nat.sub_self] at e
    cases e
    rw [prv_app (Nat.le_refl _)]
    refine ⟨?_, by omega⟩
    cases hl : l.length with
    | zero => simp only [prv]; omega
    | succ m =>
      have hm : l[m]? = some (l[m]'(by omega)) := List.getElem?_eq_getElem (by omega)
      have := (h m _ hm).2
      simp [prv, hm]
      exact this
theorem upto_one {n g : Int} (h0 : 0 ≤ g) (h1 : g < n) : UpTo n [g] := fun i x e => by
  cases i with
  | zero => cases e; exact ⟨by simp only [prv]; omega, h1⟩
  | succ i => simp at e
theorem eqvL0 (l : List PyData) : PyData.eqv (.list l) (.list []) = l.isEmpty := by cases l <;> rfl
theorem sh_ints (c : List Int) : SeqAt.shaped (intsD c) = true := sh_list (n := 0) (fun d m => by
  obtain ⟨x, _, rfl⟩ := List.mem_map.mp m
  exact ⟨rfl, Nat.le_refl _⟩) (by decide)
def spSet : Sp := fun vs H Q _ => ∃ (S : List Addr) (d : Addr) (n : Nat), vs = [.ref d, .int (n : Int)] ∧ Al S H ∧ d ∈ S ∧ Dw d H ∧ 0 < n ∧ n ≤ 60 ∧ ∀ t H' c, Fl.Fr [d] H H' → Dw d H' → Dq S H' (.ref t) (intsD c) → IsSet n c → Q (.ref t) H'
theorem ok_law_set (T : Txt K mg) : Has P w K mg base 2 "_law_set" ps_law_set spSet := by
  have h_law_take := ok_law_take (P := P) (w := w) (base := base) T
  refine has_of T.d_law_set sc_law_set bd_law_set (fun vs H Q E h => ?_) (fun f cdv A outer s H vs Q E hr h => ?_)
  · obtain ⟨S, d, n, rfl, _⟩ := h
    rfl
  · obtain ⟨S, d, n, rfl, hS, hd, hk, hn, hn2, q⟩ := h
    refine ⟨_, (pss_cons (ps_setLc (i := 2) (own := [("k", 3)]) rfl sc_law_set.nd rfl rfl (sw_true rfl rfl rfl (by decide +kernel)) (pi_range1 (by rfl) T.z_range (pa_cons (pv 1) pa_nil)) (blkOk_by (by kernel_rfl)) (fun _ _ _ _ _ => (pg_name (i := 3) sc_law_set.nd rfl (.inl rfl))) (fun _ _ _ _ _ => (pts_one (pt_cmpR op_eq (pe_h h_law_take (hr.mono (by decide)) (pa_cons (pv 0) (pa_cons pe_int pa_nil))) pe_int (nomark _)))) (fun _ _ _ _ _ => (pv 3)))
      (pss_cons (ps_if (pt_cmpR (opEqD (K := K) rfl hr.units) (pv 2) (pe_lst pa_nil) (nomark _))
        (pss_one (ps_ret (pe_lst (pa_cons (pe_h h_law_take (hr.mono (by decide)) (pa_cons (pv 0) (pa_cons (pv 1) pa_nil))) pa_nil))))
        pss_nil)
      (pss_one (ps_ret (pv 2))))), ?_⟩
    walk_at "fl.w"
    rw [show ((n : Nat) : Int).toNat = n by omega]
    have one : ∀ b, b ∈ [d] → b ∈ S := fun b m => by rw [show b = d by simpa using m]; exact hd
    refine lcGf (S := S) PyData.int [d] (Dw d) (fun i rs => UpTo (i : Int) rs) hS one hk (fun i g e => by simp at e) (by omega) (fun H k => .cons k.hd .nil) (fun D H o e k => k.put (hk.ned e)) ?_ ?_
    · intro D i G rs hD hi hAl hkG _ hpr R N hR hN
      refine ⟨rfl, ?_⟩
      walk_at "fl.w"
      rename_i v G2 v0 v1 k2 o2
      refine g_ite (fun _ => ?_) (fun _ => ?_)
      · walk_at "fl.w"
        exact hR _ _ _ o2.fr k2 (.int _) (by rw [show (0 : Int) + (i : Int) = (i : Int) by omega, show ((i + 1 : Nat) : Int) = (i : Int) + 1 by omega]; exact upto_snoc hpr (by omega))
      · exact hN _ o2.fr k2 (upto_mono hpr (by omega))
    · intro D G rs fG kG hD dD hl hpr
      walk_at "fl.w"
      rename_i E0 hE0
      refine g_eqD (dD.newH hE0) (.lst (S := []) (ds := []) (by simp) upd_same .nil) (sh_ints rs) (sh_ln []) ?_
      rw [eqvL0]
      have alG : Al S G := hS.fr fG (.cons kG.hd .nil)
      cases rs with
      | nil =>
        rw [show (([] : List Int).map PyData.int).isEmpty = true from rfl]
        walk_at "fl.w"
        rename_i v G2 v0 v1 k2 o2 t ht
        have f2 : Fl.Fr [d] H G2 := (fG.trans (Fr.new hE0)).trans o2.fr
        have al2 : Al S G2 := hS.fr f2 (.cons k2.hd .nil)
        exact q t _ [v] (f2.trans (Fr.new ht)) (k2.newH ht) (.lst (al2.ni ht) upd_same (.cons (.int _) .nil)) ⟨by simp, upto_one v0 v1⟩
      | cons r0 rs =>
        rw [show ((r0 :: rs).map PyData.int).isEmpty = false from rfl]
        walk_at "fl.w"
        exact q D _ (r0 :: rs) (fG.trans (Fr.new hE0)) (kG.newH hE0) (dD.newH hE0) ⟨by simp, hpr⟩
def spSets : Sp := fun vs H Q _ => ∃ (S : List Addr) (d : Addr) (n lo hi : Nat), vs = [.ref d, .int (n : Int), .int (lo : Int), .int (hi : Int)] ∧ Al S H ∧ d ∈ S ∧ Dw d H ∧ 0 < n ∧ n ≤ 60 ∧ lo ≤ hi ∧ hi ≤ 10 ∧
  ∀ t H' (sl : List (List Int)), Fl.Fr [d] H H' → Dw d H' → Dq S H' (.ref t) (setsD sl) → lo ≤ sl.length → sl.length ≤ hi → (∀ c, c ∈ sl → IsSet n c) → Q (.ref t) H'
theorem ok_law_sets (T : Txt K mg) : Has P w K mg base 3 "_law_sets" ps_law_sets spSets := by
  have h_law_take := ok_law_take (P := P) (w := w) (base := base) T
  have h_law_set := ok_law_set (P := P) (w := w) (base := base) T
  refine has_of T.d_law_sets sc_law_sets bd_law_sets (fun vs H Q E h => ?_) (fun f cdv A outer s H vs Q E hr h => ?_)
  · obtain ⟨S, d, n, lo, hi, rfl, _⟩ := h
    rfl
  · obtain ⟨S, d, n, lo, hi, rfl, hS, hd, hk, hn, hn2, hlo, hhi, q⟩ := h
    refine ⟨_, (pss_one (ps_ret (pe_lc (own := [("k", 4)]) rfl sc_law_sets.nd (pi_range1 (by rfl) T.z_range (pa_cons (pe_op op_add (pv 2) (pe_h h_law_take (hr.mono (by decide)) (pa_cons (pv 0) (pa_cons (pe_op op_add (pe_op op_sub (pv 3) (pv 2)) pe_int) pa_nil)))) pa_nil)) (blkOk_by (by kernel_rfl)) (fun _ _ _ _ _ => (pg_name (i := 4) sc_law_sets.nd rfl (.inl rfl))) (fun _ _ _ _ _ => pts_nil) (fun _ _ _ _ _ => (pe_h h_law_set (hr.mono (by decide)) (pa_cons (pv 0) (pa_cons (pv 1) pa_nil))))))), ?_⟩
    walk_at "fl.w"
    rename_i v G0 v0 v1 k0 o0
    have one : ∀ b, b ∈ [d] → b ∈ S := fun b m => by rw [show b = d by simpa using m]; exact hd
    have al0 : Al S G0 := hS.fr o0.fr (.cons k0.hd .nil)
    generalize hN : ((lo : Int) + v).toNat = N
    have hN2 : lo ≤ N ∧ N ≤ hi := by omega
    refine lcGf (S := S) intsD [d] (Dw d) (fun i rs => rs.length = i ∧ ∀ c, c ∈ rs → IsSet n c) al0 one k0 ⟨rfl, fun _ m => nomatch m⟩ (by omega) (fun H k => .cons k.hd .nil) (fun D H o e k => k.put (k0.ned e)) ?_ ?_
    · intro D i G rs hD hi hAl hkG _ hpr R N hR hN
      refine ⟨rfl, ?_⟩
      walk_at "fl.w"
      refine ⟨D :: S, d, n, rfl, hAl, List.mem_cons_of_mem _ hd, hkG, hn, hn2, fun t H' c f k dq hc => ?_⟩
      exact hR _ _ c f k dq ⟨by rw [List.length_append, hpr.1]; rfl, fun c' m => by
        rcases List.mem_append.mp m with m | m
        · exact hpr.2 c' m
        · rw [show c' = c by simpa using m]
          exact hc⟩
    · intro D G rs fG kG hD dD hl hpr
      walk_at "fl.w"
      exact q D G rs (o0.fr.trans fG) kG dD (by omega) (by omega) hpr.2
/-- a rule that is drawn -/
structure RuD (n : Nat) (kind : Str) (cl : List Int) (r : RuV) : Prop where
  i : (kind = "single" ∨ kind = "multiple" ∨ kind = "reverse") → r.inside.length = 1
  i2 : kind = "ligature" → 2 ≤ r.inside.length
  i3 : 1 ≤ r.inside.length ∧ r.inside.length ≤ 4
  b : r.back.length ≤ 3
  a : r.ahead.length ≤ 3
  ba : ¬ (kind = "chain" ∨ kind = "reverse") → r.back = [] ∧ r.ahead = []
  s : ∀ c, c ∈ r.inside ++ r.back ++ r.ahead → IsSet n c
  o : r.out.length ≤ 8
  og : ∀ g, g ∈ r.out → 0 ≤ g ∧ g < n
  oc : kind = "chain" → r.out = []
  os : (kind = "single" ∨ kind = "reverse") → ∀ l, r.inside[0]? = some l → r.out.length = l.length
  ol : kind = "ligature" → r.out.length = 1
  c : kind ≠ "chain" → r.calls = []
  cu : ∀ (i : Nat) p, r.calls[i]? = some p → prv (r.calls.map Prod.fst) i < p.1 ∧ p.1 < r.inside.length ∧ p.2 ∈ cl
def spRul : Sp := fun vs H Q _ => ∃ (S : List Addr) (d ca : Addr) (n : Nat) (kind : Str) (cl : List Int), vs = [.ref d, .str kind, .int (n : Int), .ref ca] ∧ Al S H ∧ d ∈ S ∧ Dw d H ∧ Dq S H (.ref ca) (intsD cl) ∧ cl.length ≤ 10 ∧ 0 < n ∧ n ≤ 8 ∧ kind ∈ kindsR ∧
  ∀ t H' (r : RuV), Fl.Fr [d] H H' → Dw d H' → Dq S H' (.ref t) (ruT r) → RuD n kind cl r → Q (.ref t) H'
end

section
variable {S X : List Addr} {H1 : Hp} {α : Type} {K : PySem.W.Frag}
theorem lcGl (f : α → PyData) {a : Addr} {xs : List V} {j : Nat} {tt : TT} {te : TE} {vs : List Nat} {σ : L2.St} {Q : VK} (X : List Addr) (I : Hp → Prop) (Pr : Nat → List α → Prop) (hS : Al S H1) (hX : ∀ b, b ∈ X → b ∈ S) (hI : I H1) (h0 : Pr 0 [])
    (ha : H1 a = some (.lst xs)) (na : a ∉ X) (hz : xs.length < 1000)
    (hA : ∀ H, I H → Al X H) (hP : ∀ D H o, H1 D = none → I H → I (upd H D o))
    (step : ∀ (D : Addr) (i : Nat) (x : V) (H : Hp) (rs : List α), H1 D = none → xs[i]? = some x → Al (D :: S) H → I H → Fl.Fr (D :: X) H1 H → Pr i rs →
      ∀ (R : V → Hp → Prop) (N : Hp → Prop), (∀ y H' r, Fl.Fr X H H' → I H' → Dq (D :: S) H' y (f r) → Pr (i + 1) (rs ++ [r]) → R y H') → (∀ H', Fl.Fr X H H' → I H' → Pr (i + 1) rs → N H') →
      wipe ((wipe σ vs).set j (some x)) vs = wipe σ vs ∧ tt ((wipe σ vs).set j (some x)) H fun b H3 => if b = true then te ((wipe σ vs).set j (some x)) H3 R else N H3)
    (q : ∀ (D : Addr) (H : Hp) (rs : List α), Fl.Fr X H1 H → I H → H1 D = none → Dq S H (.ref D) (.list (rs.map f)) → rs.length ≤ xs.length → Pr xs.length rs → Q (.ref D) H) :
    lcK (Itl K a) (gName j) tt te vs σ H1 Q := by
  unfold lcK
  intro D hD
  have hDX : D ∉ X := fun m => hS D (hX D m) hD
  have hDa : a ≠ D := fun e => by rw [e, hD] at ha; cases ha
  refine lc_list (xs := xs) (GenF f S X I Pr H1 D) ⟨⟨[], [], upd_same, .nil, Nat.le_refl _, h0⟩, Fr.same (Fl.Same.new hD), hP D H1 _ hD hI⟩ ?_ ?_ ?_
  · intro i H _ h
    exact SqL.of (h.fr a _ (by
      intro m
      rcases List.mem_cons.mp m with e | m
      · exact hDa e
      · exact na m) ha)
  · intro i x H hx h
    have hlt : i < xs.length := (List.getElem?_eq_some_iff.mp hx).1
    have hAl := h.al hS hA
    obtain ⟨⟨acc, rs, hacc, hd, hl, hp⟩, hf, hi⟩ := h
    exact step D i x H rs hD hx hAl hi hf hp _ _ (fun y H' r f' k dq pr => GenF.put hX hDX (hP D H' _ hD) hacc hd hl (by omega) hf f' k dq pr)
      (fun H' f' k pr => ⟨⟨acc, rs, f' D _ hDX hacc, hd.fr (f'.mono fun b m => List.mem_cons_of_mem _ (hX b m)), by omega, pr⟩, hf.trans (f'.mono fun b m => List.mem_cons_of_mem _ m), k⟩)
  · intro H h
    obtain ⟨⟨acc, rs, hacc, hd, hl, hp⟩, hf, hi⟩ := h
    refine q D H rs (fun b o n e => hf b o (fun m => ?_) e) hi hD (.lst (hS.ni hD) hacc hd.tail) hl hp
    rcases List.mem_cons.mp m with rfl | m
    · rw [hD] at e; cases e
    · exact n m
end
section
variable {P : Program} {w : World} {K : PySem.W.Frag} {mg : Str → Option Value} {base : Heap}
theorem g_inLs {neg : Bool} {H : Hp} {Q : VK} {a : Addr} {xs : List V} {x : V} {b : Bool} (h : SqL K H a xs) (f1 : flatV x = true) (f2 : xs.all flatV = true) (e : (if neg = true then !inV x xs else inV x xs) = b) (q : Q (.bl b) H) : rIn K neg x (.ref a) H Q := ⟨a, xs, rfl, .inl h, f1, f2, by rw [e]; exact q⟩
theorem g_eqS {x y : Str} {b : Bool} {H : Hp} {Q : VK} (e : decide (x = y) = b) (q : Q (.bl b) H) : rEq (.str x) (.str y) H Q := ⟨rfl, by
  have e2 : decide (V.str x = V.str y) = decide (x = y) := by simp
  rw [e2, e]; exact q⟩
local macro_rules | `(tactic| walk_at "fl.t") => `(tactic| ((with_reducible refine g_eqS (b := false) ?_ ?_); (focus decide +kernel)))
local macro_rules | `(tactic| walk_at "fl.t") => `(tactic| ((with_reducible refine g_eqS (b := true) ?_ ?_); (focus decide +kernel)))
local macro_rules | `(tactic| walk_at "fl.t") => `(tactic| ((with_reducible refine g_inLs (b := false) (SqL.of upd_same) ?_ ?_ ?_ ?_); (focus rfl); (focus rfl); (focus rfl)))
local macro_rules | `(tactic| walk_at "fl.t") => `(tactic| ((with_reducible refine g_inLs (b := true) (SqL.of upd_same) ?_ ?_ ?_ ?_); (focus rfl); (focus rfl); (focus rfl)))
local macro_rules | `(tactic| walk_at "fl.t") => `(tactic| ((with_reducible apply tk_app); (focus first | assumption | (with_reducible exact Dw.newH (by assumption) (by assumption))); (focus first | assumption | omega); intro _ _ _ _ _ _))
local macro_rules | `(tactic| walk_at "fl.t") => `(tactic| ((with_reducible apply g_appB); (focus walk_at "fl.raw"); (focus first | assumption | walk_at "fl.cz")))
local macro_rules | `(tactic| walk_at "fl.t") => `(tactic| (with_reducible refine g_bm0 ?_))
local macro_rules | `(tactic| walk_at "fl.t") => `(tactic| (with_reducible refine g_breakS ?_))
local macro_rules | `(tactic| walk_at "fl.w") => `(tactic| repeat walk_at "fl.t")
theorem setsD_ll (sl : List (List Int)) : setsD sl = llD (sl.map iD) := by
  unfold setsD llD iD
  rw [List.map_map]
  rfl
theorem ok_law_rule (T : Txt K mg) : Has P w K mg base 4 "_law_rule" ps_law_rule spRul := by
  have h_law_take := ok_law_take (P := P) (w := w) (base := base) T
  have h_law_set := ok_law_set (P := P) (w := w) (base := base) T
  have h_law_sets := ok_law_sets (P := P) (w := w) (base := base) T
  refine has_of T.d_law_rule sc_law_rule bd_law_rule (fun vs H Q E h => ?_) (fun f cdv A outer s H vs Q E hr h => ?_)
  · obtain ⟨S, d, ca, n, kind, cl, rfl, _⟩ := h
    rfl
  · obtain ⟨S, d, ca, n, kind, cl, rfl, hS, hd, hk, hcl, hl, hn, hn2, hkind, q⟩ := h
    refine ⟨_, (pss_cons (ps_set (i := 4) sc_law_rule.nd rfl (.inl rfl) (pe_h h_law_sets (hr.mono (by decide)) (pa_cons (pv 0) (pa_cons (pv 2) (pa_cons pe_int (pa_cons pe_int pa_nil))))))
      (pss_cons (ps_asg (pe_tup (pa_cons (pe_lst pa_nil) (pa_cons (pe_lst pa_nil) (pa_cons (pe_lst pa_nil) (pa_cons (pe_lst pa_nil) pa_nil))))) (pgT (n := 4) (K := K) rfl (by rfl) (pgs_cons (pg_name (i := 5) sc_law_rule.nd rfl (.inl rfl)) (pgs_cons (pg_name (i := 6) sc_law_rule.nd rfl (.inl rfl)) (pgs_cons (pg_name (i := 7) sc_law_rule.nd rfl (.inl rfl)) (pgs_cons (pg_name (i := 8) sc_law_rule.nd rfl (.inl rfl)) pgs_nil))))))
      (pss_cons (ps_if (pt_cmpR (opIn (K := K) rfl) (pv 1) (pe_lst (pa_cons pe_str (pa_cons pe_str (pa_cons pe_str pa_nil)))) (by rfl))
        (pss_one (ps_set (i := 4) sc_law_rule.nd rfl (.inl rfl) (pe_slice (slL' (K := K) rfl) (pv 4) po_none (po_some pe_int))))
        pss_nil)
      (pss_cons (ps_if (PW.pt (pw_and (pt_cmpR op_eq (pv 1) pe_str (nomark _)) (pw_and1 (pt_cmpR op_eq (pe_callB (clLen (K := K) rfl) (by rfl) T.z_len (by decide +kernel) (pa_cons (pv 4) pa_nil)) pe_int (nomark _)))))
        (pss_one (ps_set (i := 4) sc_law_rule.nd rfl (.inl rfl) (pe_op op_cat (pv 4) (pe_lst (pa_cons (pe_h h_law_set (hr.mono (by decide)) (pa_cons (pv 0) (pa_cons (pv 2) pa_nil))) pa_nil)))))
        pss_nil)
      (pss_cons (ps_if (pt_cmpR (opIn (K := K) rfl) (pv 1) (pe_lst (pa_cons pe_str (pa_cons pe_str pa_nil))) (by rfl))
        (pss_cons (ps_set (i := 5) sc_law_rule.nd rfl (.inl rfl) (pe_h h_law_sets (hr.mono (by decide)) (pa_cons (pv 0) (pa_cons (pv 2) (pa_cons pe_int (pa_cons pe_int pa_nil))))))
      (pss_one (ps_set (i := 6) sc_law_rule.nd rfl (.inl rfl) (pe_h h_law_sets (hr.mono (by decide)) (pa_cons (pv 0) (pa_cons (pv 2) (pa_cons pe_int (pa_cons pe_int pa_nil))))))))
        pss_nil)
      (pss_cons (ps_if (pt_cmpR (opIn (K := K) rfl) (pv 1) (pe_lst (pa_cons pe_str (pa_cons pe_str pa_nil))) (by rfl))
        (pss_one (ps_setLc (i := 7) (own := [("glyph", 10)]) rfl sc_law_rule.nd rfl rfl (sw_true rfl rfl rfl (by decide +kernel)) (piL (K := K) rfl (pe_ix (ixL (K := K) rfl) (pv 4) pe_int (fun _ _ => rfl))) (blkOk_by (by kernel_rfl)) (fun _ _ _ _ _ => (pg_name (i := 10) sc_law_rule.nd rfl (.inl rfl))) (fun _ _ _ _ _ => pts_nil) (fun _ _ _ _ _ => (pe_h h_law_take (hr.mono (by decide)) (pa_cons (pv 0) (pa_cons (pv 2) pa_nil))))))
        pss_nil)
      (pss_cons (ps_if (pt_cmpR op_eq (pv 1) pe_str (nomark _))
        (pss_one (ps_setLc (i := 7) (own := [("k", 11)]) rfl sc_law_rule.nd rfl rfl (sw_true rfl rfl rfl (by decide +kernel)) (pi_range1 (by rfl) T.z_range (pa_cons (pe_h h_law_take (hr.mono (by decide)) (pa_cons (pv 0) (pa_cons pe_int pa_nil))) pa_nil)) (blkOk_by (by kernel_rfl)) (fun _ _ _ _ _ => (pg_name (i := 11) sc_law_rule.nd rfl (.inl rfl))) (fun _ _ _ _ _ => pts_nil) (fun _ _ _ _ _ => (pe_h h_law_take (hr.mono (by decide)) (pa_cons (pv 0) (pa_cons (pv 2) pa_nil))))))
        pss_nil)
      (pss_cons (ps_if (pt_cmpR op_eq (pv 1) pe_str (nomark _))
        (pss_one (ps_set (i := 7) sc_law_rule.nd rfl (.inl rfl) (pe_lst (pa_cons (pe_h h_law_take (hr.mono (by decide)) (pa_cons (pv 0) (pa_cons (pv 2) pa_nil))) pa_nil))))
        pss_nil)
      (pss_cons (ps_if (PW.pt (pw_and (pt_cmpR op_eq (pv 1) pe_str (nomark _)) (pw_and1 (ptTru (K := K) rfl (pv 3) (by intro _; rfl)))))
        (pss_one (ps_for PassesOwn.never rfl (pi_range1 (by rfl) T.z_range (pa_cons (pe_callB (clLen (K := K) rfl) (by rfl) T.z_len (by decide +kernel) (pa_cons (pv 4) pa_nil)) pa_nil)) (pg_name (i := 9) sc_law_rule.nd rfl (.inl rfl))
        (pss_one (ps_if (pt_cmpR op_eq (pe_h h_law_take (hr.mono (by decide)) (pa_cons (pv 0) (pa_cons pe_int pa_nil))) pe_int (nomark _))
        (pss_one (ps_expr (pe_bm PySem.F.plainAttrs_list PySem.F.slot_list_append PySem.F.type_list_append mt_append (pv 8) (pa_cons (pe_tup (pa_cons (pv 9) (pa_cons (pe_ix (ixL (K := K) rfl) (pv 3) (pe_h h_law_take (hr.mono (by decide)) (pa_cons (pv 0) (pa_cons (pe_callB (clLen (K := K) rfl) (by rfl) T.z_len (by decide +kernel) (pa_cons (pv 3) pa_nil)) pa_nil))) (fun _ _ => rfl)) pa_nil))) pa_nil))))
        pss_nil))))
        pss_nil)
      (pss_one (ps_ret (pe_tup (pa_cons (pv 4) (pa_cons (pv 5) (pa_cons (pv 6) (pa_cons (pv 7) (pa_cons (pv 8) pa_nil))))))))))))))))), ?_⟩
    have one : ∀ b, b ∈ [d] → b ∈ S := fun b m => by rw [show b = d by simpa using m]; exact hd
    have fin : ∀ (G : Hp) (a b c e g t : Addr) (r : RuV), Fl.Fr [d] H G → Dw d G → Dq S G (.ref a) (setsD r.inside) → Dq S G (.ref b) (setsD r.back) → Dq S G (.ref c) (setsD r.ahead) → Dq S G (.ref e) (intsD r.out) → Dq S G (.ref g) (ltD (r.calls.map fun p => [.int p.1, .int p.2])) → RuD n kind cl r → G t = none → Q (.ref t) (upd G t (.tup [.ref a, .ref b, .ref c, .ref e, .ref g])) := by
      intro G a b c e g t r fG kG d1 d2 d3 d4 d5 rd ht
      have alG : Al S G := hS.fr fG (.cons kG.hd .nil)
      refine q t _ r (fG.trans (Fr.new ht)) (kG.newH ht) (.newT alG ht ?_) rd
      rw [setsD_ll] at d1 d2 d3
      exact .cons d1 (.cons d2 (.cons d3 (.cons d4 (.cons d5 .nil))))
    clear q
    walk_at "fl.w"
    refine ⟨S, d, n, 1, 3, rfl, hS, hd, hk, hn, by omega, by omega, by omega, fun ti H1 si f1 k1 di li1 li2 hsi => ?_⟩
    walk_at "fl.w"
    rename_i p5 e5 p4 e4 p3 e3 p2 e2 p1 e1 p0 e0
    have al1 : Al S H1 := hS.fr f1 (.cons k1.hd .nil)
    have r5 := raw_new (u := .lst [.str "single", .str "multiple", .str "reverse"]) e0 (raw_new (u := .tup [.ref p5, .ref p4, .ref p3, .ref p2]) e1 (raw_new (u := .lst []) e2 (raw_new (u := .lst []) e3 (raw_new (u := .lst []) e4 (upd_same (H := H1) (a := p5) (o := .lst []))))))
    have r4 := raw_new (u := .lst [.str "single", .str "multiple", .str "reverse"]) e0 (raw_new (u := .tup [.ref p5, .ref p4, .ref p3, .ref p2]) e1 (raw_new (u := .lst []) e2 (raw_new (u := .lst []) e3 (upd_same (H := upd H1 p5 (.lst [])) (a := p4) (o := .lst [])))))
    have r3 := raw_new (u := .lst [.str "single", .str "multiple", .str "reverse"]) e0 (raw_new (u := .tup [.ref p5, .ref p4, .ref p3, .ref p2]) e1 (raw_new (u := .lst []) e2 (upd_same (H := upd (upd H1 p5 (.lst [])) p4 (.lst [])) (a := p3) (o := .lst []))))
    have r2 := raw_new (u := .lst [.str "single", .str "multiple", .str "reverse"]) e0 (raw_new (u := .tup [.ref p5, .ref p4, .ref p3, .ref p2]) e1 (upd_same (H := upd (upd (upd H1 p5 (.lst [])) p4 (.lst [])) p3 (.lst [])) (a := p2) (o := .lst [])))
    have n5 := al1.ni e5
    have n4 := (al1.newH (u := .lst []) e5).ni e4
    have n3 := ((al1.newH (u := .lst []) e5).newH (u := .lst []) e4).ni e3
    have n2 := (((al1.newH (u := .lst []) e5).newH (u := .lst []) e4).newH (u := .lst []) e3).ni e2
    have s3 := ((Fl.Same.new (o := .lst []) e5).trans (Fl.Same.new (o := .lst []) e4)).trans (Fl.Same.new (o := .lst []) e3)
    have z2 : H1 p2 = none := Same.free s3 e2
    have n52 : p5 ≠ p2 := ne_of_none (raw_new (u := .lst []) e3 (raw_new (u := .lst []) e4 (upd_same (H := H1) (a := p5) (o := .lst [])))) e2
    have n42 : p4 ≠ p2 := ne_of_none (raw_new (u := .lst []) e3 (upd_same (H := upd H1 p5 (.lst [])) (a := p4) (o := .lst []))) e2
    have n32 : p3 ≠ p2 := ne_of_none (upd_same (H := upd (upd H1 p5 (.lst [])) p4 (.lst [])) (a := p3) (o := .lst [])) e2
    have sG := ((s3.trans (Fl.Same.new (o := .lst []) e2)).trans (Fl.Same.new (o := .tup [.ref p5, .ref p4, .ref p3, .ref p2]) e1)).trans (Fl.Same.new (o := .lst [.str "single", .str "multiple", .str "reverse"]) e0)
    have r0 := upd_same (H := upd (upd (upd (upd (upd H1 p5 (.lst [])) p4 (.lst [])) p3 (.lst [])) p2 (.lst [])) p1 (.tup [.ref p5, .ref p4, .ref p3, .ref p2])) (a := p0) (o := .lst [.str "single", .str "multiple", .str "reverse"])
    generalize upd (upd (upd (upd (upd (upd H1 p5 (.lst [])) p4 (.lst [])) p3 (.lst [])) p2 (.lst [])) p1 (.tup [.ref p5, .ref p4, .ref p3, .ref p2])) p0 (.lst [.str "single", .str "multiple", .str "reverse"]) = G at r5 r4 r3 r2 sG r0 ⊢
    clear e5 e4 e3 e2 e1 e0 s3
    have dI := (di.new z2).same sG
    have fG : Fl.Fr [d] H G := f1.trans (Fr.same sG)
    have kG : Dw d G := k1.sm sG
    have alG : Al S G := al1.same sG
    have ndp : p2 ≠ d := fun e => n2 (e ▸ hd)
    have dC := ((Dq.frd f1 hd hcl).new z2).same sG
    have hzp : ∀ o, H p2 ≠ some o := fun o h => by
      have := f1 p2 o (fun m => n2 ((show p2 = d by simpa using m) ▸ hd)) h
      rw [z2] at this
      cases this
    clear sG di z2 al1 f1 k1 H1
    obtain ⟨c0, sr, rfl⟩ : ∃ c0 sr, si = c0 :: sr := by
      cases si with
      | nil => simp at li1
      | cons c0 sr => exact ⟨c0, sr, rfl⟩
    obtain ⟨_, xs, ee, nti, hti, hX⟩ := dI.lstE
    cases ee
    obtain ⟨x0, xr, rfl, hx0, hXr⟩ := hX.consE
    obtain ⟨a0, zs, rfl, na0, ha0, hZ⟩ := hx0.lstE
    have lz := hZ.len
    rw [List.length_map] at lz
    have lc0 := (hsi c0 (by simp)).len
    have ntd : ti ∉ [d] := fun m => by
      rw [show ti = d by simpa using m] at nti
      exact nti (List.mem_cons_of_mem _ hd)
    have dc0 : Dq S G (.ref a0) (.list (c0.map .int)) := Dq.tail (.lst na0 ha0 hZ)
    simp only [kindsR, List.mem_cons, List.not_mem_nil, or_false] at hkind
    rcases hkind with rfl | rfl | rfl | rfl | rfl
    · refine g_inLs (b := true) (SqL.of r0) rfl rfl rfl ?_
      walk_at "fl.w"
      rename_i pi hpi pa hpa pb hpb
      have f3 : Fl.Fr [d] G (upd (upd (upd G pi (.lst (List.take 1 (V.ref a0 :: xr)))) pa (.lst [.str "chain", .str "reverse"])) pb (.lst [.str "single", .str "reverse"])) := ((Fr.new hpi).trans (Fr.new hpa)).trans (Fr.new hpb)
      have k3 : Dw d (upd (upd (upd G pi (.lst (List.take 1 (V.ref a0 :: xr)))) pa (.lst [.str "chain", .str "reverse"])) pb (.lst [.str "single", .str "reverse"])) := ((kG.newH hpi).newH hpa).newH hpb
      have al3 := hS.fr (fG.trans f3) (.cons k3.hd .nil)
      refine lcGl (S := S) PyData.int [d] (Dw d) (fun i rs => rs.length = i ∧ ∀ g, g ∈ rs → 0 ≤ g ∧ g < (n : Int)) al3 one k3 ⟨rfl, fun _ m => nomatch m⟩ (f3 _ _ ?_ ha0) ?_ (by omega) (fun H k => .cons k.hd .nil) (fun D H o e k => k.put (k3.ned e)) ?_ ?_
      · intro m
        rw [show a0 = d by simpa using m] at na0
        exact na0 (List.mem_cons_of_mem _ hd)
      · intro m
        rw [show a0 = d by simpa using m] at na0
        exact na0 (List.mem_cons_of_mem _ hd)
      · intro D i x G1 rs hD hx hAl hkG _ hpr R N hR hN
        refine ⟨rfl, ?_⟩
        walk_at "fl.w"
        rename_i v G2 v0 v1 k2 o2
        exact hR _ _ v o2.fr k2 (.int _) ⟨by rw [List.length_append, hpr.1]; rfl, fun g m => by
          rcases List.mem_append.mp m with m | m
          · exact hpr.2 g m
          · rw [show g = v by simpa using m]
            exact ⟨v0, v1⟩⟩
      · intro D G1 rs f4 kG1 hD dD hl2 hpr
        walk_at "fl.w"
        have dn : ∀ p, p ∉ S → G p = some (.lst []) → Dq S G1 (.ref p) (.list []) := fun p np rp => Dq.frd (f3.trans f4) hd (.lst np rp .nil)
        exact fin G1 pi p5 p4 D p2 _ ⟨[c0], [], [], rs, []⟩ ((fG.trans f3).trans f4) kG1 (Dq.frd f4 hd (((Dq.newL alG hpi (.cons dc0 .nil)).newH hpa).newH hpb)) (dn _ n5 r5) (dn _ n4 r4) dD (dn _ n2 r2)
          { i := fun _ => rfl, i2 := fun h => absurd h (by decide +kernel), i3 := ⟨Nat.le_refl 1, by show (1 : Nat) ≤ 4; omega⟩, b := Nat.zero_le 3, a := Nat.zero_le 3, ba := fun _ => ⟨rfl, rfl⟩, s := fun c m => hsi c (by simp at m ⊢; exact .inl m), o := by have := hpr.1; show rs.length ≤ 8; omega, og := hpr.2, oc := fun h => absurd h (by decide +kernel), os := fun _ l e => by cases e; have := hpr.1; show rs.length = c0.length; omega, ol := fun h => absurd h (by decide +kernel), c := fun _ => rfl, cu := fun i p e => by simp at e } (by assumption)
    · refine g_inLs (b := true) (SqL.of r0) rfl rfl rfl ?_
      walk_at "fl.w"
      rename_i pi hpi pa hpa pb hpb
      have f3 : Fl.Fr [d] G (upd (upd (upd G pi (.lst (List.take 1 (V.ref a0 :: xr)))) pa (.lst [.str "chain", .str "reverse"])) pb (.lst [.str "single", .str "reverse"])) := ((Fr.new hpi).trans (Fr.new hpa)).trans (Fr.new hpb)
      have k3 : Dw d (upd (upd (upd G pi (.lst (List.take 1 (V.ref a0 :: xr)))) pa (.lst [.str "chain", .str "reverse"])) pb (.lst [.str "single", .str "reverse"])) := ((kG.newH hpi).newH hpa).newH hpb
      refine tk_app k3 (by omega) (fun v G3 v0 v1 k4 o4 => ?_)
      walk_at "fl.w"
      have al3 := hS.fr ((fG.trans f3).trans o4.fr) (.cons k4.hd .nil)
      generalize hN : v.toNat = N
      have hN2 : N ≤ 3 := by omega
      refine lcGf (S := S) PyData.int [d] (Dw d) (fun i rs => rs.length = i ∧ ∀ g, g ∈ rs → 0 ≤ g ∧ g < (n : Int)) al3 one k4 ⟨rfl, fun _ m => nomatch m⟩ (by omega) (fun H k => .cons k.hd .nil) (fun D H o e k => k.put (k4.ned e)) ?_ ?_
      · intro D i G1 rs hD hi hAl hkG _ hpr R N hR hN
        refine ⟨rfl, ?_⟩
        walk_at "fl.w"
        rename_i v2 G2 v02 v12 k2 o2
        exact hR _ _ v2 o2.fr k2 (.int _) ⟨by rw [List.length_append, hpr.1]; rfl, fun g m => by
          rcases List.mem_append.mp m with m | m
          · exact hpr.2 g m
          · rw [show g = v2 by simpa using m]
            exact ⟨v02, v12⟩⟩
      · intro D G1 rs f4 kG1 hD dD hl2 hpr
        walk_at "fl.w"
        have f5 := o4.fr.trans f4
        have dn : ∀ p, p ∉ S → G p = some (.lst []) → Dq S G1 (.ref p) (.list []) := fun p np rp => Dq.frd (f3.trans f5) hd (.lst np rp .nil)
        exact fin G1 pi p5 p4 D p2 _ ⟨[c0], [], [], rs, []⟩ ((fG.trans f3).trans f5) kG1 (Dq.frd f5 hd (((Dq.newL alG hpi (.cons dc0 .nil)).newH hpa).newH hpb)) (dn _ n5 r5) (dn _ n4 r4) dD (dn _ n2 r2)
          { i := fun _ => rfl, i2 := fun h => absurd h (by decide +kernel), i3 := ⟨Nat.le_refl 1, by show (1 : Nat) ≤ 4; omega⟩, b := Nat.zero_le 3, a := Nat.zero_le 3, ba := fun _ => ⟨rfl, rfl⟩, s := fun c m => hsi c (by simp at m ⊢; exact .inl m), o := by have := hpr.1; show rs.length ≤ 8; omega, og := hpr.2, oc := fun h => absurd h (by decide +kernel), os := fun h => absurd h (by decide +kernel), ol := fun h => absurd h (by decide +kernel), c := fun _ => rfl, cu := fun i p e => by simp at e } (by assumption)
    · refine g_inLs (b := false) (SqL.of r0) rfl rfl rfl ?_
      walk_at "fl.w"
      refine g_ite (fun h1 => ?_) (fun h1 => ?_)
      · walk_at "fl.w"
        refine ⟨S, d, n, rfl, alG, hd, kG, hn, by omega, fun tc G3 c1 f4 k4 dc1 hc1 => ?_⟩
        have hti3 := f4 _ _ ntd hti
        walk_at "fl.w"
        rename_i pn hpn
        have e1 := hXr.len
        rw [List.length_map] at e1
        simp only [List.length_cons] at h1 li2
        refine g_cat (raw_new hpn hti3) upd_same (by simp only [List.length_cons, List.length_nil]; omega) (fun pj hpj => ?_)
        walk_at "fl.w"
        rename_i pa hpa pb hpb
        refine tk_app ((((k4.newH hpn).newH hpj).newH hpa).newH hpb) (by omega) (fun v G4 v0 v1 k5 o5 => ?_)
        walk_at "fl.w"
        rename_i pl hpl pt hpt
        have al3 := hS.fr (fG.trans f4) (.cons k4.hd .nil)
        have f6 : Fl.Fr [d] (upd (upd G3 pn (.lst [.ref tc])) pj (.lst ((.ref a0 :: xr) ++ [.ref tc]))) (upd G4 pl (.lst [.int v])) := (((Fr.new hpa).trans (Fr.new hpb)).trans o5.fr).trans (Fr.new hpl)
        have f5 : Fl.Fr [d] G (upd G4 pl (.lst [.int v])) := f4.trans (((Fr.new hpn).trans (Fr.new hpj)).trans f6)
        have dn : ∀ p, p ∉ S → G p = some (.lst []) → Dq S (upd G4 pl (.lst [.int v])) (.ref p) (.list []) := fun p np rp => Dq.frd f5 hd (.lst np rp .nil)
        have alE := ((((al3.newH (u := .lst [.ref tc]) hpn).newH (u := .lst ((.ref a0 :: xr) ++ [.ref tc])) hpj).newH (u := .lst [.str "chain", .str "reverse"]) hpa).newH (u := .lst [.str "single", .str "reverse"]) hpb).fr o5.fr (.cons k5.hd .nil)
        have hin : Dq S (upd (upd G3 pn (.lst [.ref tc])) pj (.lst ((.ref a0 :: xr) ++ [.ref tc]))) (.ref pj) (setsD ((c0 :: sr) ++ [c1])) := by
          unfold setsD
          rw [List.map_append]
          refine .newL (al3.newH hpn) hpj (DqA.app ?_ (.one (dc1.newH hpn)))
          exact (hX.tail.fr (f4.mono one)).newH hpn
        exact fin _ pj p5 p4 pl p2 _ ⟨(c0 :: sr) ++ [c1], [], [], [v], []⟩ (fG.trans f5) (k5.newH hpl) (Dq.frd f6 hd hin) (dn _ n5 r5) (dn _ n4 r4) (.newL alE hpl (.cons (.int _) .nil)) (dn _ n2 r2)
          { i := fun h => absurd h (by decide +kernel), i2 := fun _ => by simp, i3 := ⟨by simp, by simp; omega⟩, b := Nat.zero_le 3, a := Nat.zero_le 3, ba := fun _ => ⟨rfl, rfl⟩, s := fun c m => by
              rw [List.append_nil, List.append_nil] at m
              rcases List.mem_append.mp m with m | m
              · exact hsi c m
              · rw [show c = c1 by simpa using m]
                exact hc1, o := by show 1 ≤ 8; omega, og := fun g m => by rw [show g = v by simpa using m]; exact ⟨v0, v1⟩, oc := fun h => absurd h (by decide +kernel), os := fun h => absurd h (by decide +kernel), ol := fun _ => rfl, c := fun _ => rfl, cu := fun i p e => by simp at e } (by assumption)
      · walk_at "fl.w"
        rename_i pa hpa pb hpb
        refine tk_app ((kG.newH hpa).newH hpb) (by omega) (fun v G3 v0 v1 k4 o4 => ?_)
        walk_at "fl.w"
        rename_i pl hpl pt hpt
        have f4 : Fl.Fr [d] G (upd G3 pl (.lst [.int v])) := (((Fr.new hpa).trans (Fr.new hpb)).trans o4.fr).trans (Fr.new hpl)
        have dn : ∀ p, p ∉ S → G p = some (.lst []) → Dq S (upd G3 pl (.lst [.int v])) (.ref p) (.list []) := fun p np rp => Dq.frd f4 hd (.lst np rp .nil)
        have al3 := hS.fr ((((fG.trans (Fr.new hpa)).trans (Fr.new hpb))).trans o4.fr) (.cons k4.hd .nil)
        have hsr : 2 ≤ (c0 :: sr).length := by
          have e1 := hXr.len
          rw [List.length_map] at e1
          simp only [List.length_cons] at h1 ⊢
          omega
        exact fin _ ti p5 p4 pl p2 _ ⟨c0 :: sr, [], [], [v], []⟩ (fG.trans f4) (k4.newH hpl) (Dq.frd f4 hd dI.tail) (dn _ n5 r5) (dn _ n4 r4) (.newL al3 hpl (.cons (.int _) .nil)) (dn _ n2 r2)
          { i := fun h => absurd h (by decide +kernel), i2 := fun _ => hsr, i3 := ⟨by show 1 ≤ (c0 :: sr).length; omega, by show (c0 :: sr).length ≤ 4; omega⟩, b := Nat.zero_le 3, a := Nat.zero_le 3, ba := fun _ => ⟨rfl, rfl⟩, s := fun c m => hsi c (by simp at m ⊢; exact m), o := by show 1 ≤ 8; omega, og := fun g m => by rw [show g = v by simpa using m]; exact ⟨v0, v1⟩, oc := fun h => absurd h (by decide +kernel), os := fun h => absurd h (by decide +kernel), ol := fun _ => rfl, c := fun _ => rfl, cu := fun i p e => by simp at e } (by assumption)
    · refine g_inLs (b := false) (SqL.of r0) rfl rfl rfl ?_
      walk_at "fl.w"
      rename_i pa hpa
      have f3 : Fl.Fr [d] G (upd G pa (.lst [.str "chain", .str "reverse"])) := Fr.new hpa
      have k3 := kG.newH (o := .lst [.str "chain", .str "reverse"]) hpa
      have m2 : d ∈ p2 :: S := List.mem_cons_of_mem _ hd
      have al3 : Al (p2 :: S) (upd G pa (.lst [.str "chain", .str "reverse"])) := (Al.cons (by rw [r2]; simp) alG).newH hpa
      refine ⟨p2 :: S, d, n, 0, 2, rfl, al3, m2, k3, hn, by omega, by omega, by omega, fun tb H2 sb fb kb db lb1 lb2 hsb => ?_⟩
      walk_at "fl.w"
      have al4 := al3.fr fb (.cons kb.hd .nil)
      refine ⟨p2 :: S, d, n, 0, 2, rfl, al4, m2, kb, hn, by omega, by omega, by omega, fun ta H3 sa fa ka da la1 la2 hsa => ?_⟩
      have al5 := al4.fr fa (.cons ka.hd .nil)
      walk_at "fl.w"
      rename_i pc hpc
      have k6 := ka.newH (o := .lst [.str "single", .str "reverse"]) hpc
      have al6 := al5.newH (u := .lst [.str "single", .str "reverse"]) hpc
      have f5 := fa.trans (Fr.new (o := .lst [.str "single", .str "reverse"]) hpc)
      have f6 := f3.trans (fb.trans f5)
      have f7 : Fl.Fr (p2 :: S) H3 _ := Fr.new (o := .lst [.str "single", .str "reverse"]) hpc
      have n2d : p2 ∉ [d] := fun m => ndp (by simpa using m)
      have q2 := f6 _ _ n2d r2
      have dI4 := Dq.frd f6 m2 dI
      have dC4 := Dq.frd f6 m2 dC
      have db4 := Dq.frd f5 m2 db
      have da4 := da.fr f7
      have do4 := Dq.frd f6 m2 (.lst (S := p2 :: S) (fun m => by
        rcases List.mem_cons.mp m with m | m
        · exact n32 m
        · exact n3 m) r3 .nil)
      clear f7 f5 fb fa al5 db da ka al4 kb k3 al3
      generalize upd H3 pc (.lst [.str "single", .str "reverse"]) = H4 at k6 al6 f6 q2 dI4 dC4 db4 da4 do4 ⊢
      clear f3 hpc hpa pa
      obtain ⟨_, cs, ee, nca, hca, hC⟩ := dC4.lstE
      cases ee
      obtain ⟨_, xs4, ee, nti4, hti4, hX4⟩ := dI4.lstE
      cases ee
      have lx4 := hX4.len
      rw [List.length_map] at lx4
      have rud : ∀ ls : List (Int × Int), UpTo (((c0 :: sr).length : Nat) : Int) (ls.map Prod.fst) → (∀ p, p ∈ ls → p.2 ∈ cl) → RuD n "chain" cl ⟨c0 :: sr, sb, sa, [], ls⟩ := fun ls hu hc =>
          { i := fun h => absurd h (by decide +kernel), i2 := fun h => absurd h (by decide +kernel), i3 := ⟨by show 1 ≤ (c0 :: sr).length; omega, by show (c0 :: sr).length ≤ 4; omega⟩, b := by show sb.length ≤ 3; omega, a := by show sa.length ≤ 3; omega, ba := fun h => absurd (.inl rfl) h, s := fun c m => by
              rcases List.mem_append.mp m with m | m
              · rcases List.mem_append.mp m with m | m
                · exact hsi c m
                · exact hsb c m
              · exact hsa c m, o := Nat.zero_le 8, og := fun g m => (nomatch m), oc := fun _ => rfl, os := fun h => absurd h (by decide +kernel), ol := fun h => absurd h (by decide +kernel), c := fun h => absurd rfl h, cu := fun i p e => by
              have := hu i p.1 (by rw [List.getElem?_map, e]; rfl)
              exact ⟨this.1, this.2, hc p (List.mem_of_getElem? e)⟩ }
      cases cl with
      | nil =>
        cases hC.nilE
        refine g_tru0 (SqL.of hca) ?_
        walk_at "fl.w"
        exact fin _ ti tb ta p3 p2 _ ⟨c0 :: sr, sb, sa, [], []⟩ (fG.trans f6) k6 dI4.tail db4.tail da4.tail do4.tail (.lst n2 q2 .nil) (rud [] (fun i g e => by simp at e) (fun _ m => nomatch m)) (by assumption)
      | cons y0 ys =>
        obtain ⟨v0, vs, rfl, hv0, hvs⟩ := hC.consE
        refine g_tru1 (SqL.of hca) ?_
        walk_at "fl.w"
        have lvs := hvs.len
        rw [List.length_map] at lvs
        simp only [List.length_cons] at hl
        have nca2 : ca ∉ [p2, d] := fun m => nca (by rcases List.mem_cons.mp m with rfl | m; · simp
                                                     · exact List.mem_cons_of_mem _ ((show ca = d by simpa using m) ▸ hd))
        have nti2 : ti ∉ [p2, d] := fun m => nti4 (by rcases List.mem_cons.mp m with rfl | m; · simp
                                                      · exact List.mem_cons_of_mem _ ((show ti = d by simpa using m) ▸ hd))
        have in2 : ∀ b, b ∈ [p2, d] → b ∈ p2 :: S := fun b m => by
          rcases List.mem_cons.mp m with rfl | m
          · simp
          · exact List.mem_cons_of_mem _ ((show b = d by simpa using m) ▸ hd)
        rw [show ((xs4.length : Nat) : Int).toNat = (c0 :: sr).length by omega]
        refine forK_r (fun i σ' G' => (∃ u, σ' = [some (.ref d), some (.str "chain"), some (.int (n : Int)), some (.ref ca), some (.ref ti), some (.ref tb), some (.ref ta), some (.ref p3), some (.ref p2), u, none, none]) ∧ Fl.Fr [p2, d] H4 G' ∧ Dw d G' ∧ ∃ (acc : List V) (ls : List (Int × Int)), G' p2 = some (.lst acc) ∧ DqA (p2 :: S) G' acc (ls.map fun p => .tuple [.int p.1, .int p.2]) ∧ ls.length ≤ i ∧ UpTo (i : Int) (ls.map Prod.fst) ∧ ∀ p, p ∈ ls → p.2 ∈ y0 :: ys) ⟨⟨_, rfl⟩, Fr.refl, k6, [], [], q2, .nil, Nat.le_refl _, fun i g e => by simp at e, fun _ m => nomatch m⟩ ?_ ?_
        · intro i σ' G1 hi ⟨⟨u, e⟩, f1, k1, acc, ls, ha, hd1, hl1, hu, hc⟩
          subst e
          rw [Int.zero_add]
          walk_at "fl.w"
          rename_i v G2 v0' v1' k2 o2
          have nd2 : ∀ b, b ∈ [d] → b ∈ [p2, d] := fun b m => List.mem_cons_of_mem _ m
          have ncd : ca ∉ [d] := fun m => nca2 (nd2 _ m)
          have hca2 := o2.fr _ _ ncd (f1 _ _ nca2 hca)
          have hp22 := o2.fr _ _ n2d ha
          refine g_ite (fun _ => ?_) (fun _ => ?_)
          · walk_at "fl.w"
            refine tk_app k2 (by simp only [List.length_cons]; omega) (fun y G3 y0' y1' k3 o3 => ?_)
            simp only [List.length_cons] at y1'
            obtain ⟨j, rfl⟩ : ∃ j : Nat, y = (j : Int) := ⟨y.toNat, by omega⟩
            obtain ⟨z, hz⟩ : ∃ z, (y0 :: ys)[j]? = some z := ⟨_, List.getElem?_eq_getElem (by simp only [List.length_cons]; omega)⟩
            obtain ⟨vz, hvz, hdz⟩ := hC.getD (i := j) (d := .int z) (by rw [List.getElem?_map, hz]; rfl)
            cases hdz.intE
            have hca3 := o3.fr _ _ ncd hca2
            have hp23 := o3.fr _ _ n2d hp22
            have hal : acc.length < 100000 := by
              have := hd1.len
              rw [List.length_map] at this
              have : i < (c0 :: sr).length := hi
              omega
            walk_at "fl.w"
            refine g_ixL (SqL.of hca3) (atI_nat (j := j) hvz) ?_
            walk_at "fl.w"
            rename_i pt hpt
            have fs := (f1.trans ((o2.fr.mono nd2).trans (o3.fr.mono nd2)))
            have alG3 := al6.fr fs (.cons (by rw [hp23]; simp) (.cons k3.hd .nil))
            refine ⟨⟨_, rfl⟩, fs.trans ((Fr.new hpt).trans (Fr.upd (by simp))), (k3.newH hpt).put ndp, acc ++ [.ref pt], ls ++ [((i : Int), z)], upd_same, ?_, ?_, ?_, ?_⟩
            · rw [List.map_append]
              exact ((hd1.fr ((o2.frS m2).trans ((o3.frS m2).trans (Fr.new hpt)))).app (.one (.newT alG3 hpt (.cons (.int _) (.cons (.int _) .nil))))).fr (Fr.upd (by simp))
            · rw [List.length_append]
              simp
              omega
            · rw [List.map_append, show ((i + 1 : Nat) : Int) = (i : Int) + 1 by omega]
              exact upto_snoc hu (by omega)
            · intro p m
              rcases List.mem_append.mp m with m | m
              · exact hc p m
              · rw [show p = ((i : Int), z) by simpa using m]
                exact List.mem_of_getElem? hz
          · exact ⟨⟨_, rfl⟩, f1.trans (o2.fr.mono nd2), k2, acc, ls, hp22, hd1.fr (o2.frS m2), by omega, upto_mono hu (by omega), hc⟩
        · intro σ' G1 ⟨⟨u, e⟩, f1, k1, acc, ls, ha, hd1, hl1, hu, hc⟩
          subst e
          walk_at "fl.w"
          have f1S := f1.mono in2
          exact fin _ ti tb ta p3 p2 _ ⟨c0 :: sr, sb, sa, [], ls⟩ (fun b o m e => f1 b o (fun m2 => by
            rcases List.mem_cons.mp m2 with rfl | m2
            · exact hzp o e
            · exact m m2) ((fG.trans f6) b o m e)) k1 (dI4.fr f1S).tail (db4.fr f1S).tail (da4.fr f1S).tail (do4.fr f1S).tail (.lst n2 ha (by rw [show (ls.map fun p => [PyData.int p.1, PyData.int p.2]).map PyData.tuple = ls.map fun p => PyData.tuple [.int p.1, .int p.2] by rw [List.map_map]; rfl]; exact hd1.tail)) (rud ls hu hc) (by assumption)
    · refine g_inLs (b := true) (SqL.of r0) rfl rfl rfl ?_
      walk_at "fl.w"
      rename_i pi hpi pa hpa
      have f3 : Fl.Fr [d] G (upd (upd G pi (.lst (List.take 1 (V.ref a0 :: xr)))) pa (.lst [.str "chain", .str "reverse"])) := (Fr.new hpi).trans (Fr.new hpa)
      have k3 : Dw d (upd (upd G pi (.lst (List.take 1 (V.ref a0 :: xr)))) pa (.lst [.str "chain", .str "reverse"])) := (kG.newH hpi).newH hpa
      have al3 := hS.fr (fG.trans f3) (.cons k3.hd .nil)
      have npi : pi ∉ [d] := fun m => alG.ni hpi ((show pi = d by simpa using m) ▸ hd)
      have na : a0 ∉ [d] := fun m => by
        rw [show a0 = d by simpa using m] at na0
        exact na0 (List.mem_cons_of_mem _ hd)
      have q1 := raw_new (u := .lst [.str "chain", .str "reverse"]) hpa (upd_same (H := G) (a := pi) (o := .lst (List.take 1 (V.ref a0 :: xr))))
      refine ⟨S, d, n, 0, 2, rfl, al3, hd, k3, hn, by omega, by omega, by omega, fun tb H2 sb fb kb db lb1 lb2 hsb => ?_⟩
      walk_at "fl.w"
      have al4 := hS.fr ((fG.trans f3).trans fb) (.cons kb.hd .nil)
      refine ⟨S, d, n, 0, 2, rfl, al4, hd, kb, hn, by omega, by omega, by omega, fun ta H3 sa fa ka da la1 la2 hsa => ?_⟩
      have q2 := fa _ _ npi (fb _ _ npi q1)
      have q3 := fa _ _ na (fb _ _ na (f3 _ _ na ha0))
      have al5 := al4.fr fa (.cons ka.hd .nil)
      walk_at "fl.w"
      rename_i pb hpb
      have k6 := ka.newH (o := .lst [.str "single", .str "reverse"]) hpb
      have q4 := raw_new (u := .lst [.str "single", .str "reverse"]) hpb q3
      refine lcGl (S := S) PyData.int [d] (Dw d) (fun i rs => rs.length = i ∧ ∀ g, g ∈ rs → 0 ≤ g ∧ g < (n : Int)) (al5.newH hpb) one k6 ⟨rfl, fun _ m => nomatch m⟩ q4 na (by omega) (fun H k => .cons k.hd .nil) (fun D H o e k => k.put (k6.ned e)) ?_ ?_
      · intro D i x G1 rs hD hx hAl hkG _ hpr R N hR hN
        refine ⟨rfl, ?_⟩
        walk_at "fl.w"
        rename_i v2 G2 v02 v12 k2 o2
        exact hR _ _ v2 o2.fr k2 (.int _) ⟨by rw [List.length_append, hpr.1]; rfl, fun g m => by
          rcases List.mem_append.mp m with m | m
          · exact hpr.2 g m
          · rw [show g = v2 by simpa using m]
            exact ⟨v02, v12⟩⟩
      · intro D G1 rs f4 kG1 hD dD hl2 hpr
        walk_at "fl.w"
        have f5 := (fb.trans fa).trans ((Fr.new (o := .lst [.str "single", .str "reverse"]) hpb).trans f4)
        have f6 := fa.trans ((Fr.new (o := .lst [.str "single", .str "reverse"]) hpb).trans f4)
        have f7 := (Fr.new (S := [d]) (o := .lst [.str "single", .str "reverse"]) hpb).trans f4
        have dn : ∀ p, p ∉ S → G p = some (.lst []) → Dq S G1 (.ref p) (.list []) := fun p np rp => Dq.frd (f3.trans f5) hd (.lst np rp .nil)
        exact fin G1 pi tb ta D p2 _ ⟨[c0], sb, sa, rs, []⟩ ((fG.trans f3).trans f5) kG1 (Dq.frd f5 hd ((Dq.newL alG hpi (.cons dc0 .nil)).newH hpa)) (Dq.frd f6 hd db) (Dq.frd f7 hd da) dD (dn _ n2 r2)
          { i := fun _ => rfl, i2 := fun h => absurd h (by decide +kernel), i3 := ⟨Nat.le_refl 1, by show (1 : Nat) ≤ 4; omega⟩, b := by show sb.length ≤ 3; omega, a := by show sa.length ≤ 3; omega, ba := fun h => absurd (.inr rfl) h, s := fun c m => by
              rcases List.mem_append.mp m with m | m
              · rcases List.mem_append.mp m with m | m
                · exact hsi c (by simp at m ⊢; exact .inl m)
                · exact hsb c m
              · exact hsa c m, o := by have := hpr.1; show rs.length ≤ 8; omega, og := hpr.2, oc := fun h => absurd h (by decide +kernel), os := fun _ l e => by cases e; have := hpr.1; show rs.length = c0.length; omega, ol := fun h => absurd h (by decide +kernel), c := fun _ => rfl, cu := fun i p e => by simp at e } (by assumption)
end

section
variable {P : Program} {w : World} {K : PySem.W.Frag} {mg : Str → Option Value} {base : Heap}
local macro_rules | `(tactic| walk_at "fl.t") => `(tactic| ((with_reducible refine g_inLs (b := false) (SqL.of upd_same) ?_ ?_ ?_ ?_); (focus rfl); (focus rfl); (focus rfl)))
local macro_rules | `(tactic| walk_at "fl.t") => `(tactic| ((with_reducible refine g_inLs (b := true) (SqL.of upd_same) ?_ ?_ ?_ ?_); (focus rfl); (focus rfl); (focus rfl)))
local macro_rules | `(tactic| walk_at "fl.t") => `(tactic| ((with_reducible apply tk_app); (focus first | assumption | (with_reducible exact Dw.newH (by assumption) (by assumption))); (focus first | assumption | omega); intro _ _ _ _ _ _))
local macro_rules | `(tactic| walk_at "fl.t") => `(tactic| ((with_reducible apply g_appB); (focus walk_at "fl.raw"); (focus first | assumption | walk_at "fl.cz")))
local macro_rules | `(tactic| walk_at "fl.t") => `(tactic| (with_reducible refine g_bm0 ?_))
local macro_rules | `(tactic| walk_at "fl.t") => `(tactic| (with_reducible refine g_breakS ?_))
local macro_rules | `(tactic| walk_at "fl.w") => `(tactic| repeat walk_at "fl.t")
theorem kind6 {v : Int} (h0 : 0 ≤ v) (h1 : v < 6) : ∃ kind : Str, kind ∈ kindsR ∧ atI [V.str "single", .str "multiple", .str "ligature", .str "chain", .str "reverse", .str "chain"] v = some (.str kind) := by
  rcases (by omega : v = 0 ∨ v = 1 ∨ v = 2 ∨ v = 3 ∨ v = 4 ∨ v = 5) with rfl | rfl | rfl | rfl | rfl | rfl
  · exact ⟨"single", by simp [kindsR], atI_nat (j := 0) rfl⟩
  · exact ⟨"multiple", by simp [kindsR], atI_nat (j := 1) rfl⟩
  · exact ⟨"ligature", by simp [kindsR], atI_nat (j := 2) rfl⟩
  · exact ⟨"chain", by simp [kindsR], atI_nat (j := 3) rfl⟩
  · exact ⟨"reverse", by simp [kindsR], atI_nat (j := 4) rfl⟩
  · exact ⟨"chain", by simp [kindsR], atI_nat (j := 5) rfl⟩
def Callee (ks : List Str) (x : Int) : Prop := 0 ≤ x ∧ ∃ k, ks[x.toNat]? = some k ∧ (k = "single" ∨ k = "multiple")
theorem RuD.ok {n : Nat} {kind : Str} {cl : List Int} {ks : List Str} {r : RuV} (h : RuD n kind cl r) (hc : ∀ x, x ∈ cl → Callee ks x) : r.Ok n ks kind :=
  ⟨h.i, h.i2, h.i3, h.b, h.a, h.ba, h.s, h.o, h.og, h.oc, h.os, h.ol, h.c, fun i p e => ⟨(h.cu i p e).1, (h.cu i p e).2.1, (hc _ (h.cu i p e).2.2).1, (hc _ (h.cu i p e).2.2).2⟩⟩
theorem ok_more {n : Nat} {kind : Str} {ks ms : List Str} {r : RuV} (h : r.Ok n ks kind) : r.Ok n (ks ++ ms) kind :=
  ⟨h.i, h.i2, h.i3, h.b, h.a, h.ba, h.s, h.o, h.og, h.oc, h.os, h.ol, h.c, fun i p e => ⟨(h.cu i p e).1, (h.cu i p e).2.1, (h.cu i p e).2.2.1, by
    obtain ⟨k, hk, d⟩ := (h.cu i p e).2.2.2
    exact ⟨k, by rw [List.getElem?_append_left (List.getElem?_eq_some_iff.mp hk).1]; exact hk, d⟩⟩⟩
def spLks : Sp := fun vs H Q _ => ∃ (S : List Addr) (d : Addr) (n : Nat), vs = [.ref d, .int (n : Int)] ∧ Al S H ∧ d ∈ S ∧ Dw d H ∧ 0 < n ∧ n ≤ 8 ∧
  ∀ t H' (ls : List LkV), Fl.Fr [d] H H' → Dw d H' → Dq S H' (.ref t) (.list (ls.map lkT)) → (1 ≤ ls.length ∧ ls.length ≤ 4) → (∀ k, k ∈ ls → k.Ok n (ls.map LkV.kind)) → Q (.ref t) H'
theorem ok_law_lookups (T : Txt K mg) : Has P w K mg base 5 "_law_lookups" ps_law_lookups spLks := by
  have h_law_take := ok_law_take (P := P) (w := w) (base := base) T
  have h_law_rule := ok_law_rule (P := P) (w := w) (base := base) T
  refine has_of T.d_law_lookups sc_law_lookups bd_law_lookups (fun vs H Q E h => ?_) (fun f cdv A outer s H vs Q E hr h => ?_)
  · obtain ⟨S, d, n, rfl, _⟩ := h
    rfl
  · obtain ⟨S, d, n, rfl, hS, hd, hk, hn, hn2, q⟩ := h
    refine ⟨_, (pss_cons (ps_set (i := 2) sc_law_lookups.nd rfl (.inr rfl) (pe_lst pa_nil))
      (pss_cons (ps_for PassesOwn.never rfl (pi_range1 (by rfl) T.z_range (pa_cons (pe_op op_add pe_int (pe_h h_law_take (hr.mono (by decide)) (pa_cons (pv 0) (pa_cons pe_int pa_nil)))) pa_nil)) (pg_name (i := 3) sc_law_lookups.nd rfl (.inl rfl))
        (pss_cons (ps_set (i := 4) sc_law_lookups.nd rfl (.inr rfl) (pe_ix (ixL (K := K) rfl) (pe_lst (pa_cons pe_str (pa_cons pe_str (pa_cons pe_str (pa_cons pe_str (pa_cons pe_str (pa_cons pe_str pa_nil))))))) (pe_h h_law_take (hr.mono (by decide)) (pa_cons (pv 0) (pa_cons pe_int pa_nil))) (fun _ _ => rfl)))
      (pss_cons (ps_set (i := 5) sc_law_lookups.nd rfl (.inr rfl) (pe_lc (own := [("k", 7)]) rfl sc_law_lookups.nd (pi_range1 (by rfl) T.z_range (pa_cons (pv 3) pa_nil)) (blkOk_by (by kernel_rfl)) (fun _ _ _ _ _ => (pg_name (i := 7) sc_law_lookups.nd rfl (.inl rfl))) (fun _ _ _ _ _ => (pts_one (pt_cmpR (opIn (K := K) rfl) (pe_ix (ixT (K := K) rfl) (pe_ix (ixL (K := K) rfl) (pv 2) (pv 7) (fun _ _ => rfl)) pe_int (fun _ _ => rfl)) (pe_lst (pa_cons pe_str (pa_cons pe_str pa_nil))) (by rfl)))) (fun _ _ _ _ _ => (pv 7))))
      (pss_cons (ps_setLc (i := 6) (own := [("k", 7)]) rfl sc_law_lookups.nd rfl rfl (sw_true rfl rfl rfl (by decide +kernel)) (pi_range1 (by rfl) T.z_range (pa_cons (pe_h h_law_take (hr.mono (by decide)) (pa_cons (pv 0) (pa_cons pe_int pa_nil))) pa_nil)) (blkOk_by (by kernel_rfl)) (fun _ _ _ _ _ => (pg_name (i := 7) sc_law_lookups.nd rfl (.inl rfl))) (fun _ _ _ _ _ => pts_nil) (fun _ _ _ _ _ => (pe_h h_law_rule (hr.mono (by decide)) (pa_cons (pv 0) (pa_cons (pv 4) (pa_cons (pv 1) (pa_cons (pv 5) pa_nil)))))))
      (pss_one (ps_expr (pe_bm PySem.F.plainAttrs_list PySem.F.slot_list_append PySem.F.type_list_append mt_append (pv 2) (pa_cons (pe_tup (pa_cons (pv 4) (pa_cons (pv 6) (pa_cons (pe_cmpR op_eq (pe_h h_law_take (hr.mono (by decide)) (pa_cons (pv 0) (pa_cons pe_int pa_nil))) pe_int (nomark _)) pa_nil)))) pa_nil))))))))
      (pss_one (ps_ret (pv 2))))), ?_⟩
    walk_at "fl.w"
    rename_i D hD v0 G0 a0 b0 k0 o0
    have hD0 : G0 D = some (.lst []) := o0.fr _ _ (fun m => hS.ni hD ((show D = d by simpa using m) ▸ hd)) upd_same
    generalize hN : (1 + v0).toNat = N
    have hN2 : 1 ≤ N ∧ N ≤ 4 := by omega
    have nDd : D ≠ d := fun e => hS.ni hD (e ▸ hd)
    have nD1 : D ∉ [d] := fun m => nDd (by simpa using m)
    have f0 : Fl.Fr [d] H G0 := (Fr.new hD).trans o0.fr
    have al0 : Al (D :: S) G0 := .cons (by rw [hD0]; simp) (hS.fr f0 (.cons k0.hd .nil))
    have hdS : d ∈ D :: S := List.mem_cons_of_mem _ hd
    have in2 : ∀ b, b ∈ [D, d] → b ∈ D :: S := fun b m => by
      rcases List.mem_cons.mp m with rfl | m
      · simp
      · exact List.mem_cons_of_mem _ ((show b = d by simpa using m) ▸ hd)
    have one : ∀ b, b ∈ [d] → b ∈ D :: S := fun b m => by rw [show b = d by simpa using m]; exact hdS
    have d2 : ∀ b, b ∈ [d] → b ∈ [D, d] := fun b m => List.mem_cons_of_mem _ m
    refine forK_r (fun i σ' G' => (∃ u3 u4 u5 u6, σ' = [some (.ref d), some (.int (n : Int)), some (.ref D), u3, u4, u5, u6, none]) ∧ Fl.Fr [D, d] G0 G' ∧ Dw d G' ∧ ∃ (acc : List V) (ls : List LkV), G' D = some (.lst acc) ∧ DqA (D :: S) G' acc (ls.map lkT) ∧ ls.length = i ∧ ∀ k, k ∈ ls → k.Ok n (ls.map LkV.kind)) ⟨⟨_, _, _, _, rfl⟩, Fr.refl, k0, [], [], hD0, .nil, rfl, fun _ m => nomatch m⟩ ?_ ?_
    · intro i σ' G1 hi ⟨⟨u3, u4, u5, u6, e⟩, f1, k1, acc, ls, ha, hd1, hl1, hu⟩
      subst e
      rw [Int.zero_add]
      have lacc := hd1.len
      rw [List.length_map] at lacc
      walk_at "fl.w"
      rename_i pk hpk v2 G2 v02 v12 k2 o2
      obtain ⟨kind, hkd, hat⟩ := kind6 v02 v12
      have f2 : Fl.Fr [d] G1 G2 := (Fr.new hpk).trans o2.fr
      refine g_ixL (SqL.of (o2.fr _ _ (fun m => k1.ned hpk (by simpa using m)) upd_same)) hat ?_
      walk_at "fl.w"
      rw [show ((i : Nat) : Int).toNat = i by omega]
      have al1 : Al (D :: S) G1 := al0.fr f1 (.cons (by rw [ha]; simp) (.cons k1.hd .nil))
      have al2 : Al (D :: S) G2 := al1.fr f2 (.cons k2.hd .nil)
      have ha2 : G2 D = some (.lst acc) := f2 _ _ nD1 ha
      have hd2 := hd1.fr (f2.mono one)
      refine lcGf (S := D :: S) PyData.int [] (fun _ => True) (fun _ rs => ∀ x, x ∈ rs → Callee (ls.map LkV.kind) x) al2 (fun _ m => nomatch m) trivial (fun _ m => nomatch m) (by omega) (fun _ _ => .nil) (fun _ _ _ _ _ => trivial) ?_ ?_
      · intro B j G3 rs hB hj hAl _ f3 hpr R N' hR hN'
        refine ⟨rfl, ?_⟩
        obtain ⟨lk, hlk⟩ : ∃ lk, ls[j]? = some lk := ⟨_, List.getElem?_eq_getElem (by omega)⟩
        have nDB : D ∉ [B] := fun m => by rw [show D = B by simpa using m, hB] at ha2; cases ha2
        obtain ⟨xv, hxv, hxD⟩ := hd2.getD (i := j) (d := lkT lk) (by rw [List.getElem?_map, hlk]; rfl)
        unfold lkT at hxD
        obtain ⟨t, zr, rfl, nt, ht, hZ⟩ := hxD.tupE
        obtain ⟨_, zr, rfl, hz1, hZ⟩ := hZ.consE
        cases hz1
        have ntB : t ∉ [B] := fun m => by rw [show t = B by simpa using m, hB] at ht; cases ht
        have ht3 := f3 _ _ ntB ht
        have ha3 := f3 _ _ nDB ha2
        rw [Int.zero_add]
        walk_at "fl.w"
        refine g_ixL (SqL.of ha3) (atI_nat (j := j) hxv) ?_
        walk_at "fl.w"
        refine g_ixT (SqT.of ht3) (atI_nat (j := 0) rfl) ?_
        walk_at "fl.w"
        rename_i pq hpq
        have hk3 := (hu lk (List.mem_of_getElem? hlk)).k
        simp only [kindsR, List.mem_cons, List.not_mem_nil, or_false] at hk3
        rcases Decidable.em (lk.kind = "single" ∨ lk.kind = "multiple") with hc | hc
        · refine g_inLs (b := true) (SqL.of upd_same) rfl rfl (by rcases hc with h | h <;> rw [h] <;> rfl) ?_
          walk_at "fl.w"
          refine hR _ _ (j : Int) (Fr.new hpq) trivial (.int _) fun x m => ?_
          rcases List.mem_append.mp m with m | m
          · exact hpr x m
          · rw [show x = (j : Int) by simpa using m]
            exact ⟨by omega, lk.kind, by rw [Int.toNat_natCast, List.getElem?_map, hlk]; rfl, hc⟩
        · have hno : inV (.str lk.kind) [.str "single", .str "multiple"] = false := by
            rcases hk3 with h | h | h | h | h
            · exact absurd (Or.inl h) hc
            · exact absurd (Or.inr h) hc
            all_goals
              rw [h]
              rfl
          refine g_inLs (b := false) (SqL.of upd_same) rfl rfl hno ?_
          walk_at "fl.w"
          exact hN' _ (Fr.new hpq) trivial hpr
      · intro B G3 rs f3 _ hB dB hlB hprB
        have k3 := k2.sm f3.sm
        walk_at "fl.w"
        rename_i v3 G4 v03 v13 k4 o4
        have f4 : Fl.Fr [d] G2 G4 := (f3.mono (fun _ m => nomatch m)).trans o4.fr
        have al4 := al2.fr f4 (.cons k4.hd .nil)
        have dB4 := dB.fr (o4.fr.mono one)
        generalize hM : v3.toNat = M
        have hM2 : M ≤ 3 := by omega
        refine lcGf (S := D :: S) ruT [d] (Dw d) (fun i rr => rr.length = i ∧ ∀ r, r ∈ rr → RuD n kind rs r) al4 one k4 ⟨rfl, fun _ m => nomatch m⟩ (by omega) (fun H k => .cons k.hd .nil) (fun D H o e k => k.put (k4.ned e)) ?_ ?_
        · intro B2 j G5 rr hB2 hj hAl hk5 f5 hpr R N' hR hN'
          refine ⟨rfl, ?_⟩
          walk_at "fl.w"
          refine ⟨B2 :: D :: S, d, B, n, kind, rs, rfl, hAl, List.mem_cons_of_mem _ hdS, hk5, (dB4.new hB2).fr (f5.mono ?_), by omega, hn, hn2, hkd, fun t H' r f k dq hc => hR _ _ r f k dq ⟨by rw [List.length_append, hpr.1]; rfl, fun r' m => ?_⟩⟩
          · intro b m
            rcases List.mem_cons.mp m with rfl | m
            · simp
            · exact List.mem_cons_of_mem _ (one b m)
          · rcases List.mem_append.mp m with m | m
            · exact hpr.2 r' m
            · rw [show r' = r by simpa using m]
              exact hc
        · intro B2 G5 rr f5 k5 hB2 dB2 hl2 hpr2
          have ha5 := f5 _ _ nD1 (f4 _ _ nD1 ha2)
          walk_at "fl.w"
          rename_i v5 G6 _ _ k6 o6 pt hpt
          have f7 := f4.trans (f5.trans o6.fr)
          have al6 := al2.fr f7 (.cons k6.hd .nil)
          refine ⟨⟨_, _, _, _, rfl⟩, f1.trans ((f2.mono d2).trans ((f7.mono d2).trans ((Fr.new hpt).trans (Fr.upd (by simp))))), (k6.newH hpt).put nDd, acc ++ [.ref pt], ls ++ [⟨kind, rr, decide (v5 = 1)⟩], upd_same, ?_, ?_, ?_⟩
          · rw [List.map_append]
            exact ((hd2.fr ((f7.mono one).trans (Fr.new hpt))).app (.one (.newT al6 hpt (.cons (.str _) (.cons (dB2.fr (o6.fr.mono one)) (.cons (.bl _) .nil)))))).fr (Fr.upd (by simp))
          · rw [List.length_append, hl1]
            rfl
          · intro k m
            rw [List.map_append]
            rcases List.mem_append.mp m with m | m
            · exact ⟨(hu k m).k, (hu k m).r, fun r mr => ok_more ((hu k m).ro r mr)⟩
            · rw [show k = ⟨kind, rr, decide (v5 = 1)⟩ by simpa using m]
              exact ⟨hkd, by show rr.length ≤ 12; omega, fun r mr => ok_more ((hpr2.2 r mr).ok hprB)⟩
    · intro σ' G1 ⟨⟨u3, u4, u5, u6, e⟩, f1, k1, acc, ls, ha, hd1, hl1, hu⟩
      subst e
      walk_at "fl.w"
      exact q D G1 ls (fun b o m e => f1 b o (fun m2 => by
        rcases List.mem_cons.mp m2 with rfl | m2
        · rw [hD] at e; cases e
        · exact m m2) (f0 b o m e)) k1 (.lst (hS.ni hD) ha hd1.tail) (by omega) hu
end

section
variable {P : Program} {w : World} {K : PySem.W.Frag} {mg : Str → Option Value} {base : Heap}
local macro_rules | `(tactic| walk_at "fl.t") => `(tactic| ((with_reducible apply tk_app); (focus first | assumption | (with_reducible exact Dw.newH (by assumption) (by assumption))); (focus first | assumption | omega); intro _ _ _ _ _ _))
local macro_rules | `(tactic| walk_at "fl.t") => `(tactic| ((with_reducible apply g_appB); (focus walk_at "fl.raw"); (focus first | assumption | walk_at "fl.cz")))
local macro_rules | `(tactic| walk_at "fl.t") => `(tactic| (with_reducible refine g_bm0 ?_))
local macro_rules | `(tactic| walk_at "fl.t") => `(tactic| (with_reducible refine g_breakS ?_))
local macro_rules | `(tactic| walk_at "fl.w") => `(tactic| repeat walk_at "fl.t")
theorem glyphs_of : ∀ (ms : List Bool) (as : List Int), ms.length = as.length → ∃ gs : List GlV, gs.map GlV.mark = ms ∧ gs.map GlV.adv = as
  | [], [], _ => ⟨[], rfl, rfl⟩
  | [], _ :: _, h => by simp at h
  | _ :: _, [], h => by simp at h
  | m :: ms, a :: as, h => by
    obtain ⟨gs, h1, h2⟩ := glyphs_of ms as (by simpa using h)
    exact ⟨{ adv := a, mark := m } :: gs, by rw [List.map_cons, h1], by rw [List.map_cons, h2]⟩
def spWld : Sp := fun vs H Q _ => ∃ (S : List Addr) (d : Addr), vs = [.ref d] ∧ Al S H ∧ d ∈ S ∧ Dw d H ∧
  ∀ t H' (f : FoV), Fl.Fr [d] H H' → Dw d H' → Dq S H' (.ref t) (woD f) → f.Ok → (2 ≤ f.glyphs.length ∧ f.glyphs.length ≤ 5) → (∀ k, k ∈ f.lks → k.rules.length ≤ 12) → (1 ≤ f.lks.length ∧ f.lks.length ≤ 4) → Q (.ref t) H'
theorem ok_law_world (T : Txt K mg) : Has P w K mg base 6 "_law_world" ps_law_world spWld := by
  have h_law_take := ok_law_take (P := P) (w := w) (base := base) T
  have h_law_lookups := ok_law_lookups (P := P) (w := w) (base := base) T
  refine has_of T.d_law_world sc_law_world bd_law_world (fun vs H Q E h => ?_) (fun f cdv A outer s H vs Q E hr h => ?_)
  · obtain ⟨S, d, rfl, _⟩ := h
    rfl
  · obtain ⟨S, d, rfl, hS, hd, hk, q⟩ := h
    refine ⟨_, (pss_cons (ps_set (i := 1) sc_law_world.nd rfl (.inl rfl) (pe_op op_add pe_int (pe_h h_law_take (hr.mono (by decide)) (pa_cons (pv 0) (pa_cons pe_int pa_nil)))))
      (pss_cons (ps_setLc (i := 2) (own := [("k", 5)]) rfl sc_law_world.nd rfl rfl (sw_true rfl rfl rfl (by decide +kernel)) (pi_range1 (by rfl) T.z_range (pa_cons (pv 1) pa_nil)) (blkOk_by (by kernel_rfl)) (fun _ _ _ _ _ => (pg_name (i := 5) sc_law_world.nd rfl (.inl rfl))) (fun _ _ _ _ _ => pts_nil) (fun _ _ _ _ _ => (pe_cmpR op_eq (pe_h h_law_take (hr.mono (by decide)) (pa_cons (pv 0) (pa_cons pe_int pa_nil))) pe_int (nomark _))))
      (pss_cons (ps_setLc (i := 3) (own := [("k", 5)]) rfl sc_law_world.nd rfl rfl (sw_true rfl rfl rfl (by decide +kernel)) (pi_range1 (by rfl) T.z_range (pa_cons (pv 1) pa_nil)) (blkOk_by (by kernel_rfl)) (fun _ _ _ _ _ => (pg_name (i := 5) sc_law_world.nd rfl (.inl rfl))) (fun _ _ _ _ _ => pts_nil) (fun _ _ _ _ _ => (pe_op op_mul pe_int (pe_h h_law_take (hr.mono (by decide)) (pa_cons (pv 0) (pa_cons pe_int pa_nil))))))
      (pss_cons (ps_set (i := 4) sc_law_world.nd rfl (.inl rfl) (pe_h h_law_lookups (hr.mono (by decide)) (pa_cons (pv 0) (pa_cons (pv 1) pa_nil))))
      (pss_one (ps_ret (pe_tup (pa_cons (pv 1) (pa_cons (pv 2) (pa_cons (pv 3) (pa_cons (pv 4) pa_nil))))))))))), ?_⟩
    have one : ∀ b, b ∈ [d] → b ∈ S := fun b m => by rw [show b = d by simpa using m]; exact hd
    walk_at "fl.w"
    rename_i v0 G0 a0 b0 k0 o0
    obtain ⟨n, hn⟩ : ∃ n : Nat, 2 + v0 = (n : Int) := ⟨(2 + v0).toNat, by omega⟩
    have hn2 : 2 ≤ n ∧ n ≤ 5 := by omega
    rw [hn]
    walk_at "fl.w"
    rw [show ((n : Nat) : Int).toNat = n by omega]
    have al0 := hS.fr o0.fr (.cons k0.hd .nil)
    refine lcGf (S := S) PyData.bool [d] (Dw d) (fun i rs => rs.length = i) al0 one k0 rfl (by omega) (fun H k => .cons k.hd .nil) (fun D H o e k => k.put (k0.ned e)) ?_ ?_
    · intro D i G1 rs hD hi hAl hkG _ hpr R N hR hN
      refine ⟨rfl, ?_⟩
      walk_at "fl.w"
      rename_i v2 G2 v02 v12 k2 o2
      exact hR _ _ _ o2.fr k2 (.bl _) (by rw [List.length_append, hpr]; rfl)
    · intro D1 G1 ms f1 k1 hD1 dD1 hl1 hpr1
      walk_at "fl.w"
      rw [show ((n : Nat) : Int).toNat = n by omega]
      have al1 := al0.fr f1 (.cons k1.hd .nil)
      refine lcGf (S := S) PyData.int [d] (Dw d) (fun i rs => rs.length = i ∧ ∀ a, a ∈ rs → 0 ≤ a ∧ a ≤ 16384) al1 one k1 ⟨rfl, fun _ m => nomatch m⟩ (by omega) (fun H k => .cons k.hd .nil) (fun D H o e k => k.put (k1.ned e)) ?_ ?_
      · intro D i G1 rs hD hi hAl hkG _ hpr R N hR hN
        refine ⟨rfl, ?_⟩
        walk_at "fl.w"
        rename_i v2 G2 v02 v12 k2 o2
        refine hR _ _ _ o2.fr k2 (.int _) ⟨by rw [List.length_append, hpr.1]; rfl, fun a m => ?_⟩
        rcases List.mem_append.mp m with m | m
        · exact hpr.2 a m
        · rw [show a = 10 * v2 by simpa using m]
          omega
      · intro D2 G2 as f2 k2 hD2 dD2 hl2 hpr2
        walk_at "fl.w"
        have al2 := al1.fr f2 (.cons k2.hd .nil)
        refine ⟨S, d, n, rfl, al2, hd, k2, by omega, by omega, fun t3 G3 ls f3 k3 d3 hl3 ho3 => ?_⟩
        walk_at "fl.w"
        rename_i pt hpt
        obtain ⟨gs, hg1, hg2⟩ := glyphs_of ms as (by omega)
        have hgl : gs.length = n := by have := congrArg List.length hg1; rw [List.length_map] at this; omega
        have al3 := al2.fr f3 (.cons k3.hd .nil)
        refine q pt _ ⟨gs, ls⟩ (((o0.fr.trans f1).trans (f2.trans f3)).trans (Fr.new hpt)) (k3.newH hpt) (.newT al3 hpt (.cons ?_ (.cons ?_ (.cons ?_ (.cons d3 .nil))))) ⟨?_, ?_, ?_, ?_⟩ ?_ ?_ hl3
        · show Dq S G3 (.int (n : Int)) (.int (gs.length : Int))
          rw [hgl]
          exact .int _
        · rw [hg1]
          exact Dq.frd (f2.trans f3) hd dD1
        · rw [hg2]
          exact Dq.frd f3 hd dD2
        · show 1 ≤ gs.length ∧ gs.length ≤ 60
          omega
        · intro g m
          have : g.adv ∈ as := by rw [← hg2]; exact List.mem_map_of_mem m
          exact hpr2.2 _ this
        · show ls.length ≤ 20
          omega
        · intro k m
          show k.Ok gs.length (ls.map LkV.kind)
          rw [hgl]
          exact ho3 k m
        · show 2 ≤ gs.length ∧ gs.length ≤ 5
          omega
        · intro k m
          exact (ho3 k m).r
end

section
/-- a side of an automaton: the rows of its states, the rules that they meet -/
abbrev Sd := List (List Int) × List (List Int)
def sdD (s : Sd) : PyData := .tuple [setsD s.1, setsD s.2]
structure SdZ (s : Sd) : Prop where
  r : s.1.length < 900
  m : s.2.length < 900
  rr : ∀ r, r ∈ s.1 → r.length < 900
  mm : ∀ r, r ∈ s.2 → r.length < 900
theorem sdE {S : List Addr} {H : Hp} {v : V} {s : Sd} (h : Dq S H v (sdD s)) : ∃ t R M rs ms, v = .ref t ∧ t ∉ S ∧ H t = some (.tup [.ref R, .ref M]) ∧ H R = some (.lst rs) ∧ H M = some (.lst ms) ∧ Dq S H (.ref R) (setsD s.1) ∧ Dq S H (.ref M) (setsD s.2) ∧
    DqA S H rs (s.1.map intsD) ∧ DqA S H ms (s.2.map intsD) := by
  obtain ⟨t, xs, rfl, nt, rt, hX⟩ := h.tupE
  obtain ⟨x1, _, rfl, d1, hX⟩ := hX.consE
  obtain ⟨x2, _, rfl, d2, hX⟩ := hX.consE
  cases hX.nilE
  obtain ⟨R, rs, rfl, nR, rR, hR⟩ := id d1.lstE
  obtain ⟨M, ms, rfl, nM, rM, hM⟩ := id d2.lstE
  exact ⟨t, R, M, rs, ms, rfl, nt, rt, rR, rM, d1, d2, hR, hM⟩
def auF (s1 s2 : Sd) : List (Str × PyData) := [("fore", sdD s1), ("back", sdD s2)]
theorem auE {S : List Addr} {H : Hp} {v : V} {C : Addr} {s1 s2 : Sd} (h : Dq S H v (insD C (auF s1 s2))) : ∃ a dx v1 v2, v = .ref a ∧ a ∉ S ∧ H a = some (.ins C dx [("fore", v1), ("back", v2)]) ∧ Dq S H v1 (sdD s1) ∧ Dq S H v2 (sdD s2) := by
  obtain ⟨a, dx, fs, rfl, ha, hA, hN⟩ := h.insE
  obtain ⟨v1, fs, rfl, h1, hN⟩ := hN.consE
  obtain ⟨v2, fs, rfl, h2, hN⟩ := hN.consE
  cases hN.nilE
  exact ⟨a, dx, v1, v2, rfl, ha, hA, h1, h2⟩
end
section
variable {P : Program} {w : World} {K : PySem.W.Frag} {mg : Str → Option Value} {base : Heap}
local macro_rules | `(tactic| walk_at "fl.t") => `(tactic| (with_reducible refine g_chainW ?_))
local macro_rules | `(tactic| walk_at "fl.t") => `(tactic| (with_reducible refine g_mkP ?_))
local macro_rules | `(tactic| walk_at "fl.t") => `(tactic| (with_reducible refine g_callS ?_))
local macro_rules | `(tactic| walk_at "fl.t") => `(tactic| (with_reducible refine g_ifE ?_))
local macro_rules | `(tactic| walk_at "fl.w") => `(tactic| repeat walk_at "fl.t")
def spCs : Sp := fun vs H Q _ => ∃ (S T : List Addr) (v : V) (s : Sd), vs = [v] ∧ Al T H ∧ Dq S H v (sdD s) ∧ SdZ s ∧ ∀ t H', Same H H' → Dq T H' (.ref t) (sdD s) → Q (.ref t) H'
theorem ok_copied_side (T : Txt K mg) : Has P w K mg base 1 "copied_side" ps_copied_side spCs := by
  refine has_of T.d_copied_side sc_copied_side bd_copied_side (fun vs H Q E h => ?_) (fun f cdv A outer s H vs Q E hr h => ?_)
  · obtain ⟨S, _, v, s, rfl, _⟩ := h
    rfl
  · obtain ⟨S, X, v, sd, rfl, hT, hv, sz, q⟩ := h
    obtain ⟨t, R, M, rs, ms, rfl, nt, rt, rR, rM, d1, d2, hR, hM⟩ := sdE hv
    refine ⟨_, (pss_cons (ps_asg (pv 0) (pgT (n := 2) (K := K) rfl (by rfl) (pgs_cons (pg_name (i := 1) sc_copied_side.nd rfl (.inl rfl)) (pgs_cons (pg_name (i := 2) sc_copied_side.nd rfl (.inl rfl)) pgs_nil))))
      (pss_one (ps_ret (pe_tup (pa_cons (pe_lc (own := [("row", 3)]) rfl sc_copied_side.nd (piL (K := K) rfl (pv 1)) (blkOk_by (by kernel_rfl)) (fun _ _ _ _ _ => (pg_name (i := 3) sc_copied_side.nd rfl (.inl rfl))) (fun _ _ _ _ _ => pts_nil) (fun _ _ _ _ _ => (pe_callTy (clList (K := K) rfl) (by rfl) T.z_list (by decide +kernel) (pa_cons (pv 3) pa_nil)))) (pa_cons (pe_lc (own := [("rules", 4)]) rfl sc_copied_side.nd (piL (K := K) rfl (pv 2)) (blkOk_by (by kernel_rfl)) (fun _ _ _ _ _ => (pg_name (i := 4) sc_copied_side.nd rfl (.inl rfl))) (fun _ _ _ _ _ => pts_nil) (fun _ _ _ _ _ => (pe_callTy (clList (K := K) rfl) (by rfl) T.z_list (by decide +kernel) (pa_cons (pv 4) pa_nil)))) pa_nil)))))), ?_⟩
    walk_at "fl.w"
    refine lcL2 (S := S) (T := X) (es := sd.1.map intsD) (fun i => (sd.1.map intsD)[i]?) hT d1 (by rw [List.length_map]; have := sz.r; omega) ?_ ?_
    · intro D i x e H2 hD he sm al dx R' N hR' _
      refine g_name ⟨rfl, ?_⟩
      rw [List.getElem?_map] at he
      cases hc : sd.1[i]? with
      | none => rw [hc] at he; cases he
      | some c =>
        rw [hc] at he
        cases he
        obtain ⟨cb, cs', rfl, ncb, rcb, hC⟩ := dx.lstE
        obtain rfl := ints_of hC
        walk_at "fl.w"
        rename_i p hp
        exact hR' _ _ _ (by rw [List.getElem?_map, hc]; rfl) (Fl.Same.new hp) (Dq.newL al hp (ints_dq c))
    intro D1 H1 sm1 hD1 q1
    rw [fm_all (by simp)] at q1
    have rM1 := sm1 _ _ rM
    have d21 := d2.same sm1
    walk_at "fl.w"
    refine lcL2 (S := S) (T := X) (es := sd.2.map intsD) (fun i => (sd.2.map intsD)[i]?) (hT.same sm1) d21 (by rw [List.length_map]; have := sz.m; omega) ?_ ?_
    · intro D i x e H2 hD he sm al dx R' N hR' _
      refine g_name ⟨rfl, ?_⟩
      rw [List.getElem?_map] at he
      cases hc : sd.2[i]? with
      | none => rw [hc] at he; cases he
      | some c =>
        rw [hc] at he
        cases he
        obtain ⟨cb, cs', rfl, ncb, rcb, hC⟩ := dx.lstE
        obtain rfl := ints_of hC
        walk_at "fl.w"
        rename_i p hp
        exact hR' _ _ _ (by rw [List.getElem?_map, hc]; rfl) (Fl.Same.new hp) (Dq.newL al hp (ints_dq c))
    intro D2 H2 sm2 hD2 q2
    rw [fm_all (by simp)] at q2
    walk_at "fl.w"
    rename_i p hp
    exact q _ _ ((sm1.trans sm2).trans (Fl.Same.new hp)) (Dq.newT ((hT.same sm1).same sm2) hp (.cons (q1.same sm2) (.cons q2 .nil)))
def spAu (C : Addr) : Sp := fun vs H Q _ => ∃ (S T : List Addr) (x dx : Addr) (v1 v2 : V) (s1 s2 : Sd), vs = [.ref x, v1, v2] ∧ x ∈ S ∧ x ∈ T ∧ Al T H ∧ H x = some (.ins C dx []) ∧ Dq S H v1 (sdD s1) ∧ Dq S H v2 (sdD s2) ∧ SdZ s1 ∧ SdZ s2 ∧
  ∀ H' gs, Fr [x] H H' → H' x = some (.ins C dx gs) → DqN T H' gs (auF s1 s2) → Q .non H'
theorem ok_Automaton (T : Txt K mg) : InI P w K mg base 2 "Automaton" "Automaton.__init__" s_Automaton fl_Automaton kw_Automaton ps_Automaton (spAu (adr mg "Automaton")) := by
  have c := T.c_Automaton
  have cl := c.cl
  have na := c.na
  have h_copied_side := ok_copied_side (P := P) (w := w) (base := base) T
  refine inI_of c sc_Automaton (fun vs H Q E h => ?_) (fun f cdv A outer s H vs Q E hr h => ?_)
  · obtain ⟨S, X, x, dx, v1, v2, s1, s2, rfl, _⟩ := h
    rfl
  · obtain ⟨S, X, x, dx, v1, v2, s1, s2, rfl, xS, xT, hT, hx, h1, h2, z1, z2, q⟩ := h
    have I0 := InitAt.start hx hT xT
    refine ⟨_, (pss_cons (psFld (K := K) rfl (pv 0) (pe_h h_copied_side (hr.mono (by decide)) (pa_cons (pv 1) pa_nil)) rfl)
      (pss_one (psFld (K := K) rfl (pv 0) (pe_h h_copied_side (hr.mono (by decide)) (pa_cons (pv 2) pa_nil)) rfl))), ?_⟩
    walk_at "fl.w"
    refine ⟨S, X, v1, s1, rfl, hT, h1, z1, fun t1 H1 sm1 hv1 => ?_⟩
    have I0s := I0.same sm1
    walk_at "fl.w"
    have I1 := I0s.put hv1 "fore" rfl
    have h21 := (h2.same sm1).fr (Fr.upd (p := x) (o := .ins (adr mg "Automaton") dx (putF "fore" (.ref t1) [])) xS)
    walk_at "fl.w"
    refine ⟨S, X, v2, s2, rfl, I1.al, h21, z2, fun t2 H2 sm2 hv2 => ?_⟩
    have I1s := I1.same sm2
    walk_at "fl.w"
    have I2 := I1s.put hv2 "back" rfl
    walk_at "fl.w"
    exact q _ _ I2.fr I2.hx I2.dq
theorem mk_Au (T : Txt K mg) : MkP P w K mg base 2 "Automaton" (spAu (adr mg "Automaton")) := (ok_Automaton (P := P) (w := w) (base := base) T).makeP fun kV doc pm an cdv ct us h => match us, h with | [_, _, _], _ => rfl
theorem au_app {C : Addr} {v1 v2 : V} {H : Hp} {Z : Addr → Hp → Prop} {E : XK} (S X : List Addr) (s1 s2 : Sd) (hT : Al X H) (h1 : Dq S H v1 (sdD s1)) (h2 : Dq S H v2 (sdD s2)) (z1 : SdZ s1) (z2 : SdZ s2)
    (q : ∀ x H', Same H H' → Dq X H' (.ref x) (insD C (auF s1 s2)) → Z x H') :
    ∀ x dx, H x = none → H dx = none → dx ≠ x → spAu C (.ref x :: ([v1, v2] ++ [])) (upd (upd H dx (.own x)) x (.ins C dx [])) (fun v H3 => v = .non ∧ Z x H3) E := by
  intro x dx e1 e2 e3
  have s1' : Same H (upd H dx (.own x)) := Fl.Same.new e2
  have h1' : upd H dx (.own x) x = none := by rw [upd_ne (Ne.symm e3)]; exact e1
  have s2' : Same H (upd (upd H dx (.own x)) x (.ins C dx [])) := L2.Same.trans s1' (Fl.Same.new h1')
  have al : Al (x :: X) (upd (upd H dx (.own x)) x (.ins C dx [])) := .cons (by rw [upd_same]; simp) (hT.same s2')
  refine ⟨x :: S, x :: X, x, dx, v1, v2, s1, s2, rfl, by simp, by simp, al, upd_same, (h1.new e1).same s2', (h2.new e1).same s2', z1, z2, fun H' gs f' e n => ⟨rfl, ?_⟩⟩
  have sm : Same H H' := fun a o e2 => f' a o (by simp; intro z; rw [z, e1] at e2; cases e2) (s2' a o e2)
  exact q x H' sm (Dq.insI (hT.ni e1) e (n.mono fun a m => List.mem_cons_of_mem _ m))
end

section
theorem g_ifE {c : TT} {ta tb : TE} {σ : L2.St} {H : Hp} {Q : VK} (h : c σ H fun b H1 => if b = true then ta σ H1 Q else tb σ H1 Q) : tIf c ta tb σ H Q := h
theorem strQ {S : List Addr} {H : Hp} {v : V} {s : Str} (h : Dq S H v (.str s)) : v = .str s := by cases h; rfl
def pickS (nm : Str) (s1 s2 : Sd) : Sd := if nm = "fore" then s1 else s2
def patR (nm : Str) (r : RuV) : List (List Int) := if nm = "fore" then r.inside ++ r.ahead else r.back
def ptsD (ps : List (List (List Int))) : PyData := .list (ps.map setsD)
def nxN (p : List (List Int)) (n g : Int) : Int := if n = p.length then n else if 0 ≤ n ∧ n < p.length ∧ g ∈ (p[n.toNat]?).getD [] then n + 1 else -1
def nxS (ps : List (List (List Int))) (st : List Int) (g : Int) : List Int := List.zipWith (fun p n => nxN p n g) ps st
def stA (ps : List (List (List Int))) (w : List Int) : List Int := w.foldl (nxS ps) (ps.map fun _ => 0)
theorem nxS_len {ps : List (List (List Int))} {st : List Int} {g : Int} (h : st.length = ps.length) : (nxS ps st g).length = ps.length := by
  unfold nxS
  rw [List.length_zipWith]
  omega
theorem stA_len (ps : List (List (List Int))) (w : List Int) : (stA ps w).length = ps.length := by
  unfold stA
  have go : ∀ (w : List Int) (st : List Int), st.length = ps.length → (w.foldl (nxS ps) st).length = ps.length := by
    intro w
    induction w with
    | nil => exact fun st h => h
    | cons g w ih => exact fun st h => ih _ (nxS_len h)
  exact go w _ (by rw [List.length_map])
/-- patterns that are short enough -/
def PtZ (ps : List (List (List Int))) : Prop := ps.length < 900 ∧ ∀ p, p ∈ ps → p.length < 900 ∧ ∀ c, c ∈ p → c.length < 900
end
section
variable {P : Program} {w : World} {K : PySem.W.Frag} {mg : Str → Option Value} {base : Heap}
local macro_rules | `(tactic| walk_at "fl.t") => `(tactic| (with_reducible refine g_chainW ?_))
local macro_rules | `(tactic| walk_at "fl.t") => `(tactic| (with_reducible refine g_zip ?_))
local macro_rules | `(tactic| walk_at "fl.t") => `(tactic| (with_reducible refine g_mkP ?_))
local macro_rules | `(tactic| walk_at "fl.t") => `(tactic| (with_reducible refine g_callS ?_))
local macro_rules | `(tactic| walk_at "fl.t") => `(tactic| (with_reducible refine g_ifE ?_))
local macro_rules | `(tactic| walk_at "fl.w") => `(tactic| repeat walk_at "fl.t")
def fSo (C : Addr) (ds : List PyData) (d : PyData) : Prop := ∃ (s1 s2 : Sd) (nm : Str), ds = [insD C (auF s1 s2), .str nm] ∧ d = sdD (pickS nm s1 s2)
theorem ok_side_of (T : Txt K mg) : Has P w K mg base 1 "side_of" ps_side_of (spD (fSo (adr mg "Automaton"))) := by
  have clA := T.c_Automaton.cl
  have naA := T.c_Automaton.na
  refine has_of T.d_side_of sc_side_of bd_side_of (fun vs H Q E h => ?_) (fun f cdv A outer s H vs Q E hr h => ?_)
  · obtain ⟨S, ds, d, _, hd, ⟨s1, s2, nm, rfl, _⟩, _⟩ := h
    rw [hd.len]
    rfl
  · obtain ⟨S, ds, d, hS, hd, ⟨s1, s2, nm, rfl, rfl⟩, q⟩ := h
    obtain ⟨v1, _, rfl, h1, hd⟩ := hd.consE
    obtain ⟨v2, _, rfl, h2, hd⟩ := hd.consE
    cases hd.nilE
    obtain rfl := strQ h2
    obtain ⟨a, dx, w1, w2, rfl, na, hA, j1, j2⟩ := auE h1
    refine ⟨_, (pss_one (ps_ret (pe_ifExp (pt_cmpR op_eq (pv 1) pe_str (nomark _)) (peFld (K := K) rfl (pv 0) rfl) (peFld (K := K) rfl (pv 0) rfl)))), ?_⟩
    walk_at "fl.w"
    unfold pickS at q
    by_cases e : nm = "fore"
    · rw [if_pos e] at q
      first | refine g_eqS (b := true) (decide_eq_true e) ?_ | refine g_yesB e ?_
      walk_at "fl.w"
      exact q _ _ (L2.Same.refl _) j1
    · rw [if_neg e] at q
      first | refine g_eqS (b := false) (decide_eq_false e) ?_ | refine g_noB e ?_
      walk_at "fl.w"
      exact q _ _ (L2.Same.refl _) j2
def fPo (C : Addr) (ds : List PyData) (d : PyData) : Prop := ∃ (r : RuV) (nm : Str), ds = [insD C r.R.F, .str nm] ∧ r.inside.length < 400 ∧ r.ahead.length < 400 ∧ r.back.length < 400 ∧ d = setsD (patR nm r)
theorem ok_pattern_of (T : Txt K mg) : Has P w K mg base 1 "pattern_of" ps_pattern_of (spD (fPo (adr mg "Rule"))) := by
  obtain ⟨_, _, _, _, _, _, _, _, cR⟩ := T.c_Rule
  have clR := cR.cl
  have naR := cR.na
  refine has_of T.d_pattern_of sc_pattern_of bd_pattern_of (fun vs H Q E h => ?_) (fun f cdv A outer s H vs Q E hr h => ?_)
  · obtain ⟨S, ds, d, _, hd, ⟨r, nm, rfl, _⟩, _⟩ := h
    rw [hd.len]
    rfl
  · obtain ⟨S, ds, d, hS, hd, ⟨r, nm, rfl, z1, z2, z3, rfl⟩, q⟩ := h
    obtain ⟨v1, _, rfl, h1, hd⟩ := hd.consE
    obtain ⟨v2, _, rfl, h2, hd⟩ := hd.consE
    cases hd.nilE
    obtain rfl := strQ h2
    obtain ⟨ra, rdx, u1, u2, u3, u4, u5, u6, rfl, nra, rA, j1, j2, j3, j4, j5, j6⟩ := ruE h1
    have j1 : Dq S H u1 (setsD r.inside) := by rw [setsD_ll]; exact j1
    have j2 : Dq S H u2 (setsD r.back) := by rw [setsD_ll]; exact j2
    have j3 : Dq S H u3 (setsD r.ahead) := by rw [setsD_ll]; exact j3
    obtain ⟨b1, x1, rfl, nb1, rb1, hB1⟩ := id j1.lstE
    obtain ⟨b2, x2, rfl, nb2, rb2, hB2⟩ := id j2.lstE
    obtain ⟨b3, x3, rfl, nb3, rb3, hB3⟩ := id j3.lstE
    refine ⟨_, (pss_cons (ps_set (i := 2) sc_pattern_of.nd rfl (.inl rfl) (pe_ifExp (pt_cmpR op_eq (pv 1) pe_str (nomark _)) (pe_op op_cat (peFld (K := K) rfl (pv 0) rfl) (peFld (K := K) rfl (pv 0) rfl)) (peFld (K := K) rfl (pv 0) rfl)))
      (pss_one (ps_ret (pe_lc (own := [("chosen", 3)]) rfl sc_pattern_of.nd (piL (K := K) rfl (pv 2)) (blkOk_by (by kernel_rfl)) (fun _ _ _ _ _ => (pg_name (i := 3) sc_pattern_of.nd rfl (.inl rfl))) (fun _ _ _ _ _ => pts_nil) (fun _ _ _ _ _ => (pe_callTy (clList (K := K) rfl) (by rfl) T.z_list (by decide +kernel) (pa_cons (pv 3) pa_nil))))))), ?_⟩
    walk_at "fl.w"
    unfold patR at q
    by_cases e : nm = "fore"
    · rw [if_pos e] at q
      first | refine g_eqS (b := true) (decide_eq_true e) ?_ | refine g_yesB e ?_
      walk_at "fl.w"
      refine g_cat rb1 rb3 (by have h1 := hB1.len; have h3 := hB3.len; rw [List.length_map] at h1 h3; omega) fun p hp => ?_
      have s0 : Same H (upd H p (.lst (x1 ++ x3))) := Fl.Same.new hp
      have dp : Dq S (upd H p (.lst (x1 ++ x3))) (.ref p) (.list ((r.inside ++ r.ahead).map intsD)) := by
        rw [List.map_append]
        exact Dq.newL hS hp (hB1.app hB3)
      have al0 := hS.same s0
      walk_at "fl.w"
      refine lcL (S := S) (es := (r.inside ++ r.ahead).map intsD) (fun i => ((r.inside ++ r.ahead).map intsD)[i]?) al0 dp (by rw [List.length_map]; rw [List.length_append]; omega) ?_ ?_
      · intro D i x e H2 hD he sm al dx R' N hR' _
        refine g_name ⟨rfl, ?_⟩
        rw [List.getElem?_map] at he
        cases hc : (r.inside ++ r.ahead)[i]? with
        | none => rw [hc] at he; cases he
        | some c =>
          rw [hc] at he
          cases he
          obtain ⟨cb, cs', rfl, ncb, rcb, hC⟩ := dx.lstE
          obtain rfl := ints_of hC
          walk_at "fl.w"
          rename_i p hp
          exact hR' _ _ _ (by rw [List.getElem?_map, hc]; rfl) (Fl.Same.new hp) (Dq.newL al hp (ints_dq c))
      intro D1 H1 sm1 hD1 q1
      rw [fm_all (by simp)] at q1
      exact q _ _ (s0.trans sm1) q1
    · rw [if_neg e] at q
      first | refine g_eqS (b := false) (decide_eq_false e) ?_ | refine g_noB e ?_
      walk_at "fl.w"
      refine lcL (S := S) (es := (r.back).map intsD) (fun i => ((r.back).map intsD)[i]?) hS j2 (by rw [List.length_map]; omega) ?_ ?_
      · intro D i x e H2 hD he sm al dx R' N hR' _
        refine g_name ⟨rfl, ?_⟩
        rw [List.getElem?_map] at he
        cases hc : (r.back)[i]? with
        | none => rw [hc] at he; cases he
        | some c =>
          rw [hc] at he
          cases he
          obtain ⟨cb, cs', rfl, ncb, rcb, hC⟩ := dx.lstE
          obtain rfl := ints_of hC
          walk_at "fl.w"
          rename_i p hp
          exact hR' _ _ _ (by rw [List.getElem?_map, hc]; rfl) (Fl.Same.new hp) (Dq.newL al hp (ints_dq c))
      intro D1 H1 sm1 hD1 q1
      rw [fm_all (by simp)] at q1
      exact q _ _ sm1 q1
def fNn (ds : List PyData) (d : PyData) : Prop := ∃ (p : List (List Int)) (n g : Int), ds = [setsD p, .int n, .int g] ∧ p.length < 900 ∧ d = .int (nxN p n g)
theorem ok_next_number (T : Txt K mg) : Has P w K mg base 1 "next_number" ps_next_number (spD fNn) := by
  refine has_of T.d_next_number sc_next_number bd_next_number (fun vs H Q E h => ?_) (fun f cdv A outer s H vs Q E hr h => ?_)
  · obtain ⟨S, ds, d, _, hd, ⟨p, n, g, rfl, _⟩, _⟩ := h
    rw [hd.len]
    rfl
  · obtain ⟨S, ds, d, hS, hd, ⟨p, n, g, rfl, z, rfl⟩, q⟩ := h
    obtain ⟨v1, _, rfl, h1, hd⟩ := hd.consE
    obtain ⟨v2, _, rfl, h2, hd⟩ := hd.consE
    obtain ⟨v3, _, rfl, h3, hd⟩ := hd.consE
    cases hd.nilE
    cases h2.intE
    cases h3.intE
    obtain ⟨b, xs, rfl, nb, rb, hB⟩ := id h1.lstE
    have lx : xs.length = p.length := by rw [hB.len, List.length_map]
    refine ⟨_, (pss_cons (ps_if (pt_cmpR op_eq (pv 1) (pe_callB (clLen (K := K) rfl) (by rfl) T.z_len (by decide +kernel) (pa_cons (pv 0) pa_nil)) (nomark _))
        (pss_one (ps_ret (pv 1)))
        pss_nil)
      (pss_cons (ps_if (PW.pt (pw_and (pt_chain op_le op_lt pe_int (pv 1) (pe_callB (clLen (K := K) rfl) (by rfl) T.z_len (by decide +kernel) (pa_cons (pv 0) pa_nil))) (pw_and1 (pt_cmpR (opIn (K := K) rfl) (pv 2) (pe_ix (ixL (K := K) rfl) (pv 0) (pv 1) (fun _ _ => rfl)) (by rfl)))))
        (pss_one (ps_ret (pe_op op_add (pv 1) pe_int)))
        pss_nil)
      (pss_one (ps_ret (pe_un un_neg pe_int))))), ?_⟩
    walk_at "fl.w"
    refine g_ite (fun e => ?_) (fun e => ?_)
    · walk_at "fl.w"
      refine q _ _ (L2.Same.refl _) ?_
      unfold nxN
      rw [if_pos (by omega)]
      exact .int _
    · walk_at "fl.w"
      have no : ¬ (0 ≤ n ∧ n < p.length ∧ g ∈ (p[n.toNat]?).getD []) → nxN p n g = -1 := fun h => by
        unfold nxN
        rw [if_neg (by omega), if_neg h]
      by_cases c1 : 0 ≤ n
      · refine g_yesB c1 ?_
        walk_at "fl.w"
        by_cases c2 : n < (p.length : Int)
        · refine g_yesB (show n < (xs.length : Int) by omega) ?_
          have hpn : p[n.toNat]? = some p[n.toNat] := List.getElem?_eq_getElem (by omega)
          generalize p[n.toNat] = c at hpn
          obtain ⟨x, hx, dx⟩ := hB.getD (i := n.toNat) (d := intsD c) (by rw [List.getElem?_map, hpn]; rfl)
          have axn : atI xs n = some x := by
            have := atI_nat hx
            rw [show ((n.toNat : Nat) : Int) = n by omega] at this
            exact this
          obtain ⟨cb, cs', rfl, ncb, rcb, hC⟩ := dx.lstE
          obtain rfl := ints_of hC
          walk_at "fl.w"
          refine g_inI (.inl (SqL.of rcb)) ?_
          walk_at "fl.w"
          refine g_ite (fun c3 => ?_) (fun c3 => ?_)
          · walk_at "fl.w"
            refine q _ _ (L2.Same.refl _) ?_
            unfold nxN
            rw [if_neg (by omega), hpn, if_pos ⟨c1, c2, c3⟩]
            exact .int _
          · walk_at "fl.w"
            refine q _ _ (L2.Same.refl _) ?_
            rw [no (by rw [hpn]; exact fun h => c3 h.2.2)]
            exact .int _
        · refine g_noB (show ¬ n < (xs.length : Int) by omega) ?_
          walk_at "fl.w"
          refine q _ _ (L2.Same.refl _) ?_
          rw [no (fun h => c2 h.2.1)]
          exact .int _
      · refine g_noB c1 ?_
        walk_at "fl.w"
        refine q _ _ (L2.Same.refl _) ?_
        rw [no (fun h => c1 h.1)]
        exact .int _

def fNs (ds : List PyData) (d : PyData) : Prop := ∃ (ps : List (List (List Int))) (st : List Int) (g : Int), ds = [ptsD ps, intsD st, .int g] ∧ PtZ ps ∧ st.length = ps.length ∧ d = intsD (nxS ps st g)
theorem ok_next_status (T : Txt K mg) : Has P w K mg base 2 "next_status" ps_next_status (spD fNs) := by
  have h_next_number := ok_next_number (P := P) (w := w) (base := base) T
  refine has_of T.d_next_status sc_next_status bd_next_status (fun vs H Q E h => ?_) (fun f cdv A outer s H vs Q E hr h => ?_)
  · obtain ⟨S, ds, d, _, hd, ⟨ps, st, g, rfl, _⟩, _⟩ := h
    rw [hd.len]
    rfl
  · obtain ⟨S, ds, d, hS, hd, ⟨ps, st, g, rfl, pz, le, rfl⟩, q⟩ := h
    obtain ⟨v1, _, rfl, h1, hd⟩ := hd.consE
    obtain ⟨v2, _, rfl, h2, hd⟩ := hd.consE
    obtain ⟨v3, _, rfl, h3, hd⟩ := hd.consE
    cases hd.nilE
    cases h3.intE
    obtain ⟨b, xs, rfl, nb, rb, hB⟩ := id h1.lstE
    obtain ⟨c, ys, rfl, nc, rc, hC⟩ := id h2.lstE
    obtain rfl := ints_of hC
    have lx : xs.length = ps.length := by rw [hB.len, List.length_map]
    have z1 := pz.1
    refine ⟨_, (pss_one (ps_ret (pe_lc (own := [("pattern", 3), ("number", 4)]) rfl sc_next_status.nd (pi_zip (by rfl) T.z_zip (pa_cons (pv 0) (pa_cons (pv 1) pa_nil))) (blkOk_by (by kernel_rfl)) (fun _ _ _ _ _ => (pgT (n := 2) (K := K) rfl (by rfl) (pgs_cons (pg_name (i := 3) sc_next_status.nd rfl (.inl rfl)) (pgs_cons (pg_name (i := 4) sc_next_status.nd rfl (.inl rfl)) pgs_nil)))) (fun _ _ _ _ _ => pts_nil) (fun _ _ _ _ _ => (pe_h h_next_number (hr.mono (by decide)) (pa_cons (pv 3) (pa_cons (pv 4) (pa_cons (pv 2) pa_nil)))))))), ?_⟩
    walk_at "fl.w"
    refine lcZ (S := S) (fun i => ((nxS ps st g).map PyData.int)[i]?) hS rb rc (by rw [List.length_map]; omega) (by omega) ?_ ?_
    · intro D i x y t H2 hD hx hy sm al ht R N hR _
      obtain ⟨p, hp, dx⟩ := hB.getM hx
      rw [List.getElem?_map] at hy
      cases hn : st[i]? with
      | none => rw [hn] at hy; cases hy
      | some n =>
        rw [hn] at hy
        cases hy
        have st0 : Same H2 (upd H2 t (.tup [x, .int n])) := Fl.Same.new ht
        walk_at "fl.w"
        refine ⟨rfl, ?_⟩
        walk_at "fl.w"
        refine spD_app (D :: S) [setsD p, .int n, .int g] (.int (nxN p n g)) (al.same st0) (.cons ((((dx.new hD).same sm).same st0)) (.cons (.int _) (.cons (.int _) .nil))) ⟨p, n, g, rfl, (pz.2 p (List.mem_of_getElem? hp)).1, rfl⟩ fun v H3 sm3 dv => ?_
        refine hR _ _ _ ?_ sm3 dv
        rw [List.getElem?_map]
        unfold nxS
        rw [List.getElem?_zipWith, hp, hn]
        rfl
    intro D1 H1 sm1 hD1 q1
    rw [fm_all (by rw [List.length_map, nxS_len le]; omega)] at q1
    exact q _ _ sm1 q1
def fSa (ds : List PyData) (d : PyData) : Prop := ∃ (ps : List (List (List Int))) (w : List Int), ds = [ptsD ps, intsD w] ∧ PtZ ps ∧ w.length < 900 ∧ d = intsD (stA ps w)
theorem ok_status_after (T : Txt K mg) : Has P w K mg base 3 "status_after" ps_status_after (spD fSa) := by
  have h_next_status := ok_next_status (P := P) (w := w) (base := base) T
  refine has_of T.d_status_after sc_status_after bd_status_after (fun vs H Q E h => ?_) (fun f cdv A outer s H vs Q E hr h => ?_)
  · obtain ⟨S, ds, d, _, hd, ⟨ps, w, rfl, _⟩, _⟩ := h
    rw [hd.len]
    rfl
  · obtain ⟨S, ds, d, hS, hd, ⟨ps, wd, rfl, pz, wz, rfl⟩, q⟩ := h
    obtain ⟨v1, _, rfl, h1, hd⟩ := hd.consE
    obtain ⟨v2, _, rfl, h2, hd⟩ := hd.consE
    cases hd.nilE
    obtain ⟨b, xs, rfl, nb, rb, hB⟩ := id h1.lstE
    obtain ⟨c, ys, rfl, nc, rc, hC⟩ := id h2.lstE
    obtain rfl := ints_of hC
    have lx : xs.length = ps.length := by rw [hB.len, List.length_map]
    have z1 := pz.1
    refine ⟨_, (pss_cons (ps_setLc (i := 2) (own := [("_", 4)]) rfl sc_status_after.nd rfl rfl (sw_true rfl rfl rfl (by decide +kernel)) (piL (K := K) rfl (pv 0)) (blkOk_by (by kernel_rfl)) (fun _ _ _ _ _ => (pg_name (i := 4) sc_status_after.nd rfl (.inl rfl))) (fun _ _ _ _ _ => pts_nil) (fun _ _ _ _ _ => pe_int))
      (pss_cons (ps_for PassesOwn.never rfl (piL (K := K) rfl (pv 1)) (pg_name (i := 3) sc_status_after.nd rfl (.inl rfl))
        (pss_one (ps_set (i := 2) sc_status_after.nd rfl (.inl rfl) (pe_h h_next_status (hr.mono (by decide)) (pa_cons (pv 0) (pa_cons (pv 2) (pa_cons (pv 3) pa_nil)))))))
      (pss_one (ps_ret (pv 2))))), ?_⟩
    walk_at "fl.w"
    refine lcL (S := S) (es := ps.map setsD) (fun i => ((ps.map fun _ => (0 : Int)).map PyData.int)[i]?) hS h1 (by rw [List.length_map]; omega) ?_ ?_
    · intro D i x e H2 hD he sm al dx R N hR _
      refine g_name ⟨rfl, ?_⟩
      rw [List.getElem?_map] at he
      cases hp : ps[i]? with
      | none => rw [hp] at he; cases he
      | some p =>
        walk_at "fl.w"
        exact hR _ _ _ (by rw [List.getElem?_map, List.getElem?_map, hp]; rfl) (L2.Same.refl _) (.int 0)
    intro D1 H1 sm1 hD1 q1
    rw [fm_all (by simp)] at q1
    have al1 := hS.same sm1
    have h11 := h1.same sm1
    have rc1 := sm1 _ _ rc
    walk_at "fl.w"
    refine forK_l (xs := wd.map V.int) (fun i σ' H' => ∃ D u3, σ' = [some (.ref b), some (.ref c), some (.ref D), u3, none] ∧ Dq S H' (.ref D) (intsD (stA ps (wd.take i))) ∧ Same H1 H') ?_ ?_ ?_ ?_
    · exact ⟨D1, none, rfl, q1, L2.Same.refl _⟩
    · intro i σ' H' _ ⟨_, _, _, _, e⟩
      exact SqL.of (e _ _ rc1)
    · intro i x σ' H' hx ⟨D, u3, e, dD, sm⟩
      subst e
      rw [List.getElem?_map] at hx
      cases hg : wd[i]? with
      | none => rw [hg] at hx; cases hx
      | some g =>
        rw [hg] at hx
        cases hx
        walk_at "fl.w"
        refine spD_app S [ptsD ps, intsD (stA ps (wd.take i)), .int g] (intsD (nxS ps (stA ps (wd.take i)) g)) (al1.same sm) (.cons (h11.same sm) (.cons dD (.cons (.int _) .nil))) ⟨ps, _, g, rfl, pz, stA_len _ _, rfl⟩ fun v H3 sm3 dv => ?_
        obtain ⟨D3, _, rfl, _, _, _⟩ := id dv.lstE
        walk_at "fl.w"
        refine ⟨D3, _, rfl, ?_, sm.trans sm3⟩
        have e : stA ps (wd.take (i + 1)) = nxS ps (stA ps (wd.take i)) g := by
          unfold stA
          rw [List.take_add_one, hg, Option.toList_some, List.foldl_append]
          rfl
        rw [e]
        exact dv
    · intro σ' H' ⟨D, u3, e, dD, sm⟩
      subst e
      walk_at "fl.w"
      rw [List.length_map, List.take_length] at dD
      exact q _ _ (sm1.trans sm) dD
end

section
def patV (nm : Str) (k : LkV) : List (List (List Int)) := k.rules.map (patR nm)
def stF (s : Sd) (st g : Int) : Int := ((((s.1[st.toNat]?).getD [])[g.toNat]?).getD 0)
def stV (s : Sd) (w : List Int) : Int := w.foldl (stF s) 0
structure SdOk (n many : Nat) (s : Sd) : Prop where
  r : 1 ≤ s.1.length ∧ s.1.length ≤ 8
  m : s.2.length = s.1.length
  rr : ∀ r, r ∈ s.1 → r.length = n ∧ ∀ x, x ∈ r → 0 ≤ x ∧ x < s.1.length
  mm : ∀ r, r ∈ s.2 → r.length ≤ 12 ∧ UpTo many r
theorem SdOk.z {n many : Nat} {s : Sd} (h : SdOk n many s) (hn : n < 900) : SdZ s := ⟨by have := h.r.2; omega, by have := h.r.2; have := h.m; omega, fun r m => by have := (h.rr r m).1; omega, fun r m => by have := (h.mm r m).1; omega⟩
/-- words over n glyphs -/
def WdOk (n : Nat) (w : List Int) : Prop := w.length < 900 ∧ ∀ g, g ∈ w → 0 ≤ g ∧ g < n
theorem st_at {n many : Nat} {s : Sd} (h : SdOk n many s) {st g : Int} (s0 : 0 ≤ st) (s1 : st < s.1.length) (g0 : 0 ≤ g) (g1 : g < n) : ∃ r x, s.1[st.toNat]? = some r ∧ r[g.toNat]? = some x ∧ stF s st g = x ∧ 0 ≤ x ∧ x < s.1.length := by
  have h1 : s.1[st.toNat]? = some s.1[st.toNat] := List.getElem?_eq_getElem (by omega)
  generalize s.1[st.toNat] = r at h1
  obtain ⟨l, b⟩ := h.rr r (List.mem_of_getElem? h1)
  have h2 : r[g.toNat]? = some r[g.toNat] := List.getElem?_eq_getElem (by omega)
  generalize r[g.toNat] = x at h2
  refine ⟨r, x, h1, h2, ?_, b x (List.mem_of_getElem? h2)⟩
  unfold stF
  rw [h1]
  show (r[g.toNat]?).getD 0 = x
  rw [h2]
  rfl
theorem stV_lt {n many : Nat} {s : Sd} (h : SdOk n many s) {w : List Int} (hw : WdOk n w) : 0 ≤ stV s w ∧ stV s w < s.1.length := by
  have go : ∀ (w : List Int) (st : Int), (∀ g, g ∈ w → 0 ≤ g ∧ g < n) → 0 ≤ st → st < s.1.length → 0 ≤ w.foldl (stF s) st ∧ w.foldl (stF s) st < s.1.length := by
    intro w
    induction w with
    | nil => exact fun st _ h0 h1 => ⟨h0, h1⟩
    | cons g w ih =>
      intro st hw h0 h1
      obtain ⟨g0, g1⟩ := hw g List.mem_cons_self
      obtain ⟨r, x, _, _, e, x0, x1⟩ := st_at h h0 h1 g0 g1
      rw [List.foldl_cons, e]
      exact ih x (fun g m => hw g (List.mem_cons_of_mem _ m)) x0 x1
  have := h.r.1
  exact go w 0 hw.2 (by omega) (by omega)
theorem stV_sn {s : Sd} {w : List Int} {i : Nat} {g : Int} (h : w[i]? = some g) : stV s (w.take (i + 1)) = stF s (stV s (w.take i)) g := by
  unfold stV
  rw [List.take_add_one, h, Option.toList_some, List.foldl_append]
  rfl
def riV (m : Int) : Int → List Int → Bool
  | _, [] => true
  | l, g :: c => decide (l < g ∧ g < m) && riV m g c
theorem riV_up {m : Int} : ∀ (c : List Int) (l : Int), riV m l c = true ↔ ∀ (i : Nat) g, c[i]? = some g → (match i with | 0 => l | j + 1 => (c[j]?).getD (-1)) < g ∧ g < m
  | [], l => by simp [riV]
  | a :: c, l => by
    unfold riV
    rw [Bool.and_eq_true, decide_eq_true_eq, riV_up c a]
    constructor
    · rintro ⟨h1, h2⟩ i g hg
      match i with
      | 0 =>
        have e : a = g := by simpa using hg
        subst e
        exact h1
      | i + 1 =>
        have := h2 i g (by simpa using hg)
        match i with
        | 0 => exact this
        | j + 1 => simpa using this
    · intro h
      refine ⟨h 0 a rfl, fun i g hg => ?_⟩
      have := h (i + 1) g (by simpa using hg)
      match i with
      | 0 => exact this
      | j + 1 => simpa using this
theorem riV_upto {m : Int} {c : List Int} : riV m (-1) c = true ↔ UpTo m c := by
  rw [riV_up]
  unfold UpTo prv
  constructor
  · intro h i g hg
    have := h i g hg
    match i with
    | 0 => exact this
    | j + 1 => exact this
  · intro h i g hg
    have := h i g hg
    match i with
    | 0 => exact this
    | j + 1 => exact this
def sfV (n many : Nat) (s : Sd) : Bool := decide (s.1.length = s.2.length ∧ s.1.length ≠ 0) && ((s.1.all fun r => decide (r.length = n) && r.all fun x => decide (0 ≤ x ∧ x < s.1.length)) && s.2.all fun r => riV many (-1) r)
theorem sfV_ok {n many : Nat} {s : Sd} (h : SdOk n many s) : sfV n many s = true := by
  unfold sfV
  rw [Bool.and_eq_true, Bool.and_eq_true, decide_eq_true_eq, List.all_eq_true, List.all_eq_true]
  refine ⟨⟨h.m.symm, by have := h.r.1; omega⟩, fun r m => ?_, fun r m => riV_upto.mpr (h.mm r m).2⟩
  rw [Bool.and_eq_true, decide_eq_true_eq, List.all_eq_true]
  exact ⟨(h.rr r m).1, fun x mx => decide_eq_true ((h.rr r m).2 x mx)⟩
end
section
variable {P : Program} {w : World} {K : PySem.W.Frag} {mg : Str → Option Value} {base : Heap}
local macro_rules | `(tactic| walk_at "fl.t") => `(tactic| (with_reducible refine g_chainW ?_))
local macro_rules | `(tactic| walk_at "fl.t") => `(tactic| (with_reducible refine g_zip ?_))
local macro_rules | `(tactic| walk_at "fl.t") => `(tactic| (with_reducible refine g_mkP ?_))
local macro_rules | `(tactic| walk_at "fl.t") => `(tactic| (with_reducible refine g_callS ?_))
local macro_rules | `(tactic| walk_at "fl.t") => `(tactic| (with_reducible refine g_ifE ?_))
local macro_rules | `(tactic| walk_at "fl.w") => `(tactic| repeat walk_at "fl.t")
def fPt (c : Cs) (ds : List PyData) (d : PyData) : Prop := ∃ (f : FoV) (l : Nat) (k : LkV) (nm : Str), ds = [foD c f.R, .int l, .str nm] ∧ f.Ok ∧ f.lks[l]? = some k ∧ d = ptsD (patV nm k)
theorem ok_patterns (T : Txt K mg) : Has P w K mg base 2 "patterns" ps_patterns (spD (fPt (cs mg))) := by
  obtain ⟨_, _, _, _, _, _, _, _, _, _, _, _, _, _, cF⟩ := T.c_Font
  have clF := cF.cl
  have naF := cF.na
  have clL := T.c_Lookup.cl
  have naL := T.c_Lookup.na
  have h_pattern_of := ok_pattern_of (P := P) (w := w) (base := base) T
  refine has_of T.d_patterns sc_patterns bd_patterns (fun vs H Q E h => ?_) (fun f cdv A outer s H vs Q E hr h => ?_)
  · obtain ⟨S, ds, d, _, hd, ⟨f, l, k, nm, rfl, _⟩, _⟩ := h
    rw [hd.len]
    rfl
  · obtain ⟨S, ds, d, hS, hd, ⟨fo, l, k, nm, rfl, fok, hk, rfl⟩, q⟩ := h
    obtain ⟨v1, _, rfl, h1, hd⟩ := hd.consE
    obtain ⟨v2, _, rfl, h2, hd⟩ := hd.consE
    obtain ⟨v3, _, rfl, h3, hd⟩ := hd.consE
    cases hd.nilE
    cases h2.intE
    obtain rfl := strQ h3
    obtain ⟨fa, fdx, w1, w2, w3, w4, w5, w6, w7, w8, w9, rfl, fna, fA, j1, j2, j3, j4, j5, j6, j7, j8, j9⟩ := foE h1
    have j4 : Dq S H w4 (.list (fo.lks.map fun k => lkD (cs mg) k.R)) := by
      simp only [FoV.R, List.map_map] at j4
      exact j4
    obtain ⟨b, ls, rfl, nb, rb, hL⟩ := id j4.lstE
    obtain ⟨x, hx, dx⟩ := hL.getD (i := l) (d := lkD (cs mg) k.R) (by rw [List.getElem?_map, hk]; rfl)
    have ax : atI ls (l : Int) = some x := atI_nat hx
    obtain ⟨la, ldx, u1, u2, u3, rfl, lna, lA, m1, m2, m3⟩ := lkE dx
    have m2 : Dq S H u2 (.list (k.rules.map fun r => insD (adr mg "Rule") r.R.F)) := by
      simp only [LkV.R, List.map_map] at m2
      exact m2
    obtain ⟨rb', rs, rfl, nrb, rrb, hRs⟩ := id m2.lstE
    have kok := fok.lo k (List.mem_of_getElem? hk)
    refine ⟨_, (pss_one (ps_ret (pe_lc (own := [("rule", 3)]) rfl sc_patterns.nd (piL (K := K) rfl (peFld (K := K) rfl (pe_ix (ixL (K := K) rfl) (peFld (K := K) rfl (pv 0) rfl) (pv 1) (fun _ _ => rfl)) rfl)) (blkOk_by (by kernel_rfl)) (fun _ _ _ _ _ => (pg_name (i := 3) sc_patterns.nd rfl (.inl rfl))) (fun _ _ _ _ _ => pts_nil) (fun _ _ _ _ _ => (pe_h h_pattern_of (hr.mono (by decide)) (pa_cons (pv 3) (pa_cons (pv 2) pa_nil))))))), ?_⟩
    walk_at "fl.w"
    refine lcL (S := S) (es := k.rules.map fun r => insD (adr mg "Rule") r.R.F) (fun i => ((patV nm k).map setsD)[i]?) hS m2 (by rw [List.length_map]; have := kok.r; omega) ?_ ?_
    · intro D i x e H2 hD he sm al dx R N hR _
      refine g_name ⟨rfl, ?_⟩
      rw [List.getElem?_map] at he
      cases hc : k.rules[i]? with
      | none => rw [hc] at he; cases he
      | some r =>
        rw [hc] at he
        cases he
        have rok := kok.ro r (List.mem_of_getElem? hc)
        walk_at "fl.w"
        refine spD_app (D :: S) [insD (adr mg "Rule") r.R.F, .str nm] (setsD (patR nm r)) al (.cons dx (.cons (.str _) .nil)) ⟨r, nm, rfl, by have := rok.i3.2; omega, by have := rok.a; omega, by have := rok.b; omega, rfl⟩ fun v H3 sm3 dv => ?_
        exact hR _ _ _ (by unfold patV; rw [List.getElem?_map, List.getElem?_map, hc]; rfl) sm3 dv
    intro D1 H1 sm1 hD1 q1
    rw [fm_all (by unfold patV; simp)] at q1
    exact q _ _ sm1 q1
end

section
variable {P : Program} {w : World} {K : PySem.W.Frag} {mg : Str → Option Value} {base : Heap}
local macro_rules | `(tactic| walk_at "fl.t") => `(tactic| (with_reducible refine g_chainW ?_))
local macro_rules | `(tactic| walk_at "fl.t") => `(tactic| (with_reducible refine g_zip ?_))
local macro_rules | `(tactic| walk_at "fl.t") => `(tactic| (with_reducible refine g_mkP ?_))
local macro_rules | `(tactic| walk_at "fl.t") => `(tactic| (with_reducible refine g_callS ?_))
local macro_rules | `(tactic| walk_at "fl.t") => `(tactic| (with_reducible refine g_ifE ?_))
local macro_rules | `(tactic| walk_at "fl.w") => `(tactic| repeat walk_at "fl.t")
def fRd (C : Addr) (ds : List PyData) (d : PyData) : Prop := ∃ (s1 s2 : Sd) (nm : Str) (w : List Int) (n many : Nat), ds = [insD C (auF s1 s2), .str nm, intsD w] ∧ SdOk n many (pickS nm s1 s2) ∧ WdOk n w ∧ n < 900 ∧ d = .int (stV (pickS nm s1 s2) w)
theorem ok_read (T : Txt K mg) : Has P w K mg base 2 "read" ps_read (spD (fRd (adr mg "Automaton"))) := by
  have h_side_of := ok_side_of (P := P) (w := w) (base := base) T
  refine has_of T.d_read sc_read bd_read (fun vs H Q E h => ?_) (fun f cdv A outer s H vs Q E hr h => ?_)
  · obtain ⟨S, ds, d, _, hd, ⟨s1, s2, nm, wd, n, many, rfl, _⟩, _⟩ := h
    rw [hd.len]
    rfl
  · obtain ⟨S, ds, d, hS, hd, ⟨s1, s2, nm, wd, n, many, rfl, sok, wok, nz, rfl⟩, q⟩ := h
    obtain ⟨v1, _, rfl, h1, hd⟩ := hd.consE
    obtain ⟨v2, _, rfl, h2, hd⟩ := hd.consE
    obtain ⟨v3, _, rfl, h3, hd⟩ := hd.consE
    cases hd.nilE
    obtain rfl := strQ h2
    obtain ⟨c, ys, rfl, nc, rc, hC⟩ := id h3.lstE
    obtain rfl := ints_of hC
    have wz := wok.1
    refine ⟨_, (pss_cons (ps_set (i := 3) sc_read.nd rfl (.inl rfl) (pe_ix (ixT (K := K) rfl) (pe_h h_side_of (hr.mono (by decide)) (pa_cons (pv 0) (pa_cons (pv 1) pa_nil))) pe_int (fun _ _ => rfl)))
      (pss_cons (ps_set (i := 4) sc_read.nd rfl (.inl rfl) pe_int)
      (pss_cons (ps_for PassesOwn.never rfl (piL (K := K) rfl (pv 2)) (pg_name (i := 5) sc_read.nd rfl (.inl rfl))
        (pss_one (ps_set (i := 4) sc_read.nd rfl (.inl rfl) (pe_ix (ixL (K := K) rfl) (pe_ix (ixL (K := K) rfl) (pv 3) (pv 4) (fun _ _ => rfl)) (pv 5) (fun _ _ => rfl)))))
      (pss_one (ps_ret (pv 4)))))), ?_⟩
    walk_at "fl.w"
    refine spD_app S [insD (adr mg "Automaton") (auF s1 s2), .str nm] (sdD (pickS nm s1 s2)) hS (.cons h1 (.cons (.str _) .nil)) ⟨s1, s2, nm, rfl, rfl⟩ fun v H1 sm1 dv => ?_
    obtain ⟨t, R, M, rs, ms, rfl, nt, rt, rR, rM, d1, d2, hR, hM⟩ := sdE dv
    have rc1 := sm1 _ _ rc
    have lrs : rs.length = (pickS nm s1 s2).1.length := by rw [hR.len, List.length_map]
    walk_at "fl.w"
    refine forK_l (xs := wd.map V.int) (fun i σ' H' => ∃ u5, σ' = [some v1, some (.str nm), some (.ref c), some (.ref R), some (.int (stV (pickS nm s1 s2) (wd.take i))), u5] ∧ H' = H1) ?_ ?_ ?_ ?_
    · exact ⟨none, rfl, rfl⟩
    · intro i σ' H' _ ⟨_, _, e⟩
      subst e
      exact SqL.of rc1
    · intro i x σ' H' hx ⟨u5, e, e2⟩
      subst e e2
      rw [List.getElem?_map] at hx
      cases hg : wd[i]? with
      | none => rw [hg] at hx; cases hx
      | some g =>
        rw [hg] at hx
        cases hx
        have hw2 : WdOk n (wd.take i) := ⟨by rw [List.length_take]; omega, fun g m => wok.2 g (List.mem_of_mem_take m)⟩
        obtain ⟨a0, a1⟩ := stV_lt sok hw2
        obtain ⟨g0, g1⟩ := wok.2 g (List.mem_of_getElem? hg)
        obtain ⟨r, x, hr1, hx1, ex, x0, x1⟩ := st_at sok a0 a1 g0 g1
        obtain ⟨xr, hxr, dxr⟩ := hR.getD (i := (stV (pickS nm s1 s2) (wd.take i)).toNat) (d := intsD r) (by rw [List.getElem?_map, hr1]; rfl)
        obtain ⟨cb, cs', rfl, ncb, rcb, hCb⟩ := dxr.lstE
        obtain rfl := ints_of hCb
        have e1 := stV_sn (s := pickS nm s1 s2) hg
        rw [ex] at e1
        generalize stV (pickS nm s1 s2) (wd.take i) = st at a0 a1 hxr ex ⊢
        have axr : atI rs st = some (.ref cb) := by
          have := atI_nat hxr
          rw [show ((st.toNat : Nat) : Int) = st by omega] at this
          exact this
        have agx : atI (r.map V.int) g = some (.int x) := by
          have : atI (r.map V.int) ((g.toNat : Nat) : Int) = some (.int x) := atI_nat (by rw [List.getElem?_map, hx1]; rfl)
          rw [show ((g.toNat : Nat) : Int) = g by omega] at this
          exact this
        walk_at "fl.w"
        exact ⟨_, by rw [e1]; rfl, rfl⟩
    · intro σ' H' ⟨u5, e, e2⟩
      subst e e2
      walk_at "fl.w"
      rw [List.length_map, List.take_length]
      exact q _ _ sm1 (.int _)
def fMb (C : Addr) (ds : List PyData) (d : PyData) : Prop := ∃ (s1 s2 : Sd) (nm : Str) (w : List Int) (n many : Nat), ds = [insD C (auF s1 s2), .str nm, intsD w] ∧ SdOk n many (pickS nm s1 s2) ∧ WdOk n w ∧ n < 900 ∧ d = intsD (((pickS nm s1 s2).2[(stV (pickS nm s1 s2) w).toNat]?).getD [])
theorem ok_met_by (T : Txt K mg) : Has P w K mg base 3 "met_by" ps_met_by (spD (fMb (adr mg "Automaton"))) := by
  have h_side_of := ok_side_of (P := P) (w := w) (base := base) T
  have h_read := ok_read (P := P) (w := w) (base := base) T
  refine has_of T.d_met_by sc_met_by bd_met_by (fun vs H Q E h => ?_) (fun f cdv A outer s H vs Q E hr h => ?_)
  · obtain ⟨S, ds, d, _, hd, ⟨s1, s2, nm, wd, n, many, rfl, _⟩, _⟩ := h
    rw [hd.len]
    rfl
  · obtain ⟨S, ds, d, hS, hd, ⟨s1, s2, nm, wd, n, many, rfl, sok, wok, nz, rfl⟩, q⟩ := h
    obtain ⟨v1, _, rfl, h1, hd⟩ := hd.consE
    obtain ⟨v2, _, rfl, h2, hd⟩ := hd.consE
    obtain ⟨v3, _, rfl, h3, hd⟩ := hd.consE
    cases hd.nilE
    obtain rfl := strQ h2
    refine ⟨_, (pss_cons (ps_set (i := 3) sc_met_by.nd rfl (.inl rfl) (pe_ix (ixT (K := K) rfl) (pe_h h_side_of (hr.mono (by decide)) (pa_cons (pv 0) (pa_cons (pv 1) pa_nil))) pe_int (fun _ _ => rfl)))
      (pss_one (ps_ret (pe_callTy (clList (K := K) rfl) (by rfl) T.z_list (by decide +kernel) (pa_cons (pe_ix (ixL (K := K) rfl) (pv 3) (pe_h h_read (hr.mono (by decide)) (pa_cons (pv 0) (pa_cons (pv 1) (pa_cons (pv 2) pa_nil)))) (fun _ _ => rfl)) pa_nil))))), ?_⟩
    walk_at "fl.w"
    refine spD_app S [insD (adr mg "Automaton") (auF s1 s2), .str nm] (sdD (pickS nm s1 s2)) hS (.cons h1 (.cons (.str _) .nil)) ⟨s1, s2, nm, rfl, rfl⟩ fun v H1 sm1 dv => ?_
    obtain ⟨t, R, M, rs, ms, rfl, nt, rt, rR, rM, d1, d2, hR, hM⟩ := sdE dv
    walk_at "fl.w"
    refine spD_app S [insD (adr mg "Automaton") (auF s1 s2), .str nm, intsD wd] (.int (stV (pickS nm s1 s2) wd)) (hS.same sm1) (.cons (h1.same sm1) (.cons (.str _) (.cons (h3.same sm1) .nil))) ⟨s1, s2, nm, wd, n, many, rfl, sok, wok, nz, rfl⟩ fun v2 H2 sm2 dv2 => ?_
    cases dv2.intE
    obtain ⟨a0, a1⟩ := stV_lt sok wok
    have hm := sok.m
    have h2m : (pickS nm s1 s2).2[(stV (pickS nm s1 s2) wd).toNat]? = some (pickS nm s1 s2).2[(stV (pickS nm s1 s2) wd).toNat] := List.getElem?_eq_getElem (by omega)
    generalize (pickS nm s1 s2).2[(stV (pickS nm s1 s2) wd).toNat] = r at h2m
    rw [h2m] at q
    obtain ⟨xr, hxr, dxr⟩ := hM.getD (i := (stV (pickS nm s1 s2) wd).toNat) (d := intsD r) (by rw [List.getElem?_map, h2m]; rfl)
    obtain ⟨cb, cs', rfl, ncb, rcb, hCb⟩ := dxr.lstE
    obtain rfl := ints_of hCb
    generalize stV (pickS nm s1 s2) wd = st at a0 a1 hxr h2m ⊢
    have axr : atI ms st = some (.ref cb) := by
      have := atI_nat hxr
      rw [show ((st.toNat : Nat) : Int) = st by omega] at this
      exact this
    have rM2 := sm2 _ _ rM
    have rcb2 := sm2 _ _ rcb
    walk_at "fl.w"
    rename_i p hp
    have al2 := (hS.same sm1).same sm2
    exact q _ _ ((sm1.trans sm2).trans (Fl.Same.new hp)) (Dq.newL al2 hp (ints_dq r))
def fLst (ds : List PyData) (d : PyData) : Prop := ∃ (sd : Sd) (w : List Int) (n many : Nat), ds = [sdD sd, intsD w] ∧ SdOk n many sd ∧ WdOk n w ∧ n < 900 ∧ d = .int (stV sd w)
theorem ok_law_state (T : Txt K mg) : Has P w K mg base 1 "_law_state" ps_law_state (spD fLst) := by
  refine has_of T.d_law_state sc_law_state bd_law_state (fun vs H Q E h => ?_) (fun f cdv A outer s H vs Q E hr h => ?_)
  · obtain ⟨S, ds, d, _, hd, ⟨sd, wd, n, many, rfl, _⟩, _⟩ := h
    rw [hd.len]
    rfl
  · obtain ⟨S, ds, d, hS, hd, ⟨sd, wd, n, many, rfl, sok, wok, nz, rfl⟩, q⟩ := h
    obtain ⟨v1, _, rfl, h1, hd⟩ := hd.consE
    obtain ⟨v3, _, rfl, h3, hd⟩ := hd.consE
    cases hd.nilE
    obtain ⟨c, ys, rfl, nc, rc, hC⟩ := id h3.lstE
    obtain rfl := ints_of hC
    have wz := wok.1
    obtain ⟨t, R, M, rs, ms, rfl, nt, rt, rR, rM, d1, d2, hR, hM⟩ := sdE h1
    have lrs : rs.length = sd.1.length := by rw [hR.len, List.length_map]
    refine ⟨_, (pss_cons (ps_set (i := 2) sc_law_state.nd rfl (.inl rfl) pe_int)
      (pss_cons (ps_for PassesOwn.never rfl (piL (K := K) rfl (pv 1)) (pg_name (i := 3) sc_law_state.nd rfl (.inl rfl))
        (pss_one (ps_set (i := 2) sc_law_state.nd rfl (.inl rfl) (pe_ix (ixL (K := K) rfl) (pe_ix (ixL (K := K) rfl) (pe_ix (ixT (K := K) rfl) (pv 0) pe_int (fun _ _ => rfl)) (pv 2) (fun _ _ => rfl)) (pv 3) (fun _ _ => rfl)))))
      (pss_one (ps_ret (pv 2))))), ?_⟩
    walk_at "fl.w"
    refine forK_l (xs := wd.map V.int) (fun i σ' H' => ∃ u5, σ' = [some (.ref t), some (.ref c), some (.int (stV sd (wd.take i))), u5] ∧ H' = H) ?_ ?_ ?_ ?_
    · exact ⟨none, rfl, rfl⟩
    · intro i σ' H' _ ⟨_, _, e⟩
      subst e
      exact SqL.of rc
    · intro i x σ' H' hx ⟨u5, e, e2⟩
      subst e e2
      rw [List.getElem?_map] at hx
      cases hg : wd[i]? with
      | none => rw [hg] at hx; cases hx
      | some g =>
        rw [hg] at hx
        cases hx
        have hw2 : WdOk n (wd.take i) := ⟨by rw [List.length_take]; omega, fun g m => wok.2 g (List.mem_of_mem_take m)⟩
        obtain ⟨a0, a1⟩ := stV_lt sok hw2
        obtain ⟨g0, g1⟩ := wok.2 g (List.mem_of_getElem? hg)
        obtain ⟨r, x, hr1, hx1, ex, x0, x1⟩ := st_at sok a0 a1 g0 g1
        obtain ⟨xr, hxr, dxr⟩ := hR.getD (i := (stV sd (wd.take i)).toNat) (d := intsD r) (by rw [List.getElem?_map, hr1]; rfl)
        obtain ⟨cb, cs', rfl, ncb, rcb, hCb⟩ := dxr.lstE
        obtain rfl := ints_of hCb
        have e1 := stV_sn (s := sd) hg
        rw [ex] at e1
        generalize stV sd (wd.take i) = st at a0 a1 hxr ex ⊢
        have axr : atI rs st = some (.ref cb) := by
          have := atI_nat hxr
          rw [show ((st.toNat : Nat) : Int) = st by omega] at this
          exact this
        have agx : atI (r.map V.int) g = some (.int x) := by
          have : atI (r.map V.int) ((g.toNat : Nat) : Int) = some (.int x) := atI_nat (by rw [List.getElem?_map, hx1]; rfl)
          rw [show ((g.toNat : Nat) : Int) = g by omega] at this
          exact this
        walk_at "fl.w"
        exact ⟨_, by rw [e1]; rfl, rfl⟩
    · intro σ' H' ⟨u5, e, e2⟩
      subst e e2
      walk_at "fl.w"
      rw [List.length_map, List.take_length]
      exact q _ _ (L2.Same.refl _) (.int _)
end

section
theorem g_itup {K : PySem.W.Frag} {te : TE} {σ : L2.St} {H : Hp} {R : It → Hp → Prop} (h : te σ H fun x H1 => ∃ a, x = .ref a ∧ (∃ xs, SqT K H1 a xs) ∧ R (Itt K a) H1) : iTup K te σ H R := h
theorem drop_at {α : Type} {l : List α} {i : Nat} {x : α} (h : l[i]? = some x) : l.drop i = x :: l.drop (i + 1) := by
  obtain ⟨hi, e⟩ := List.getElem?_eq_some_iff.mp h
  rw [← e, List.drop_eq_getElem_cons hi]
theorem all_take {α : Type} {l : List α} {i : Nat} {x : α} {p : α → Bool} (h : l[i]? = some x) : (l.take (i + 1)).all p = ((l.take i).all p && p x) := by
  rw [List.take_add_one, h, Option.toList_some, List.all_append]
  simp
theorem all_no {α : Type} {l : List α} {x : α} {p : α → Bool} (m : x ∈ l) (h : p x = false) : l.all p = false := by
  cases e : l.all p with
  | false => rfl
  | true => rw [List.all_eq_true.mp e x m] at h; cases h
end
section
variable {P : Program} {w : World} {K : PySem.W.Frag} {mg : Str → Option Value} {base : Heap}
local macro_rules | `(tactic| walk_at "fl.t") => `(tactic| (with_reducible refine g_chainW ?_))
local macro_rules | `(tactic| walk_at "fl.t") => `(tactic| (with_reducible refine g_zip ?_))
local macro_rules | `(tactic| walk_at "fl.t") => `(tactic| (with_reducible refine g_mkP ?_))
local macro_rules | `(tactic| walk_at "fl.t") => `(tactic| (with_reducible refine g_callS ?_))
local macro_rules | `(tactic| walk_at "fl.t") => `(tactic| (with_reducible refine g_ifE ?_))
local macro_rules | `(tactic| walk_at "fl.w") => `(tactic| repeat walk_at "fl.t")
def fRi (ds : List PyData) (d : PyData) : Prop := ∃ (c : List Int) (m : Int), ds = [intsD c, .int m] ∧ c.length < 900 ∧ d = .bool (riV m (-1) c)
theorem ok_is_risingB (T : Txt K mg) : Has P w K mg base 1 "is_rising" ps_is_rising (spD fRi) := by
  refine has_of T.d_is_rising sc_is_rising bd_is_rising (fun vs H Q E h => ?_) (fun f cdv A outer s H vs Q E hr h => ?_)
  · obtain ⟨S, ds, d, _, hd, ⟨c, m, rfl, _⟩, _⟩ := h
    rw [hd.len]
    rfl
  · obtain ⟨S, ds, d, hS, hd, ⟨c, m, rfl, cz, rfl⟩, q⟩ := h
    obtain ⟨v1, _, rfl, h1, hd⟩ := hd.consE
    obtain ⟨v3, _, rfl, h3, hd⟩ := hd.consE
    cases hd.nilE
    cases h3.intE
    obtain ⟨b, ys, rfl, nc, rc, hC⟩ := id h1.lstE
    obtain rfl := ints_of hC
    refine ⟨_, (pss_cons (ps_set (i := 2) sc_is_rising.nd rfl (.inl rfl) (pe_un un_neg pe_int))
      (pss_cons (ps_for PassesOwn.never rfl (piL (K := K) rfl (pv 0)) (pg_name (i := 3) sc_is_rising.nd rfl (.inl rfl))
        (pss_cons (ps_if (pt_not (pt_chain op_lt op_lt (pv 2) (pv 3) (pv 1)))
        (pss_one (ps_ret pe_bl))
        pss_nil)
      (pss_one (ps_set (i := 2) sc_is_rising.nd rfl (.inl rfl) (pv 3)))))
      (pss_one (ps_ret pe_bl)))), ?_⟩
    walk_at "fl.w"
    refine forK_l (xs := c.map V.int) (fun i σ' H' => ∃ (l : Int) (u : Option V), σ' = [some (.ref b), some (.int m), some (.int l), u] ∧ riV m (-1) c = riV m l (c.drop i) ∧ H' = H) ?_ ?_ ?_ ?_
    · exact ⟨-1, none, rfl, rfl, rfl⟩
    · intro i σ' H' _ ⟨_, _, _, _, e⟩
      subst e
      exact SqL.of rc
    · intro i x σ' H' hx ⟨l, u, e, er, e2⟩
      subst e e2
      rw [List.getElem?_map] at hx
      cases hg : c[i]? with
      | none => rw [hg] at hx; cases hx
      | some g =>
        rw [hg] at hx
        cases hx
        rw [drop_at hg] at er
        have er : riV m (-1) c = (decide (l < g ∧ g < m) && riV m g (c.drop (i + 1))) := er
        have no : ¬ (l < g ∧ g < m) → Q (.bl false) H' := fun h => by
          rw [decide_eq_false h, Bool.false_and] at er
          have := q (.bl false) H' (L2.Same.refl _)
          rw [er] at this
          exact this (.bl _)
        walk_at "fl.w"
        by_cases c1 : l < g
        · refine g_yesB c1 ?_
          walk_at "fl.w"
          by_cases c2 : g < m
          · refine g_nB c2 ?_
            walk_at "fl.w"
            refine ⟨g, _, rfl, ?_, rfl⟩
            rw [er, decide_eq_true ⟨c1, c2⟩, Bool.true_and]
          · refine g_noNB c2 ?_
            walk_at "fl.w"
            exact no (fun h => c2 h.2)
        · refine g_noB c1 ?_
          walk_at "fl.w"
          exact no (fun h => c1 h.1)
    · intro σ' H' ⟨l, u, e, er, e2⟩
      subst e e2
      walk_at "fl.w"
      rw [List.length_map, List.drop_length] at er
      have := q (.bl true) H' (L2.Same.refl _)
      rw [er] at this
      exact this (.bl _)
def okR (n : Nat) (k : Nat) (r : List Int) : Bool := decide (r.length = n) && r.all fun x => decide (0 ≤ x ∧ x < k)
def fSf (c : Cs) (ds : List PyData) (d : PyData) : Prop := ∃ (f : FoV) (s : Sd) (many : Nat), ds = [foD c f.R, sdD s, .int many] ∧ f.Ok ∧ SdZ s ∧ d = .bool (sfV f.glyphs.length many s)
theorem ok_side_fits (T : Txt K mg) : Has P w K mg base 2 "side_fits" ps_side_fits (spD (fSf (cs mg))) := by
  obtain ⟨_, _, _, _, _, _, _, _, _, _, _, _, _, _, cF⟩ := T.c_Font
  have clF := cF.cl
  have naF := cF.na
  have h_is_rising := ok_is_risingB (P := P) (w := w) (base := base) T
  refine has_of T.d_side_fits sc_side_fits bd_side_fits (fun vs H Q E h => ?_) (fun f cdv A outer s H vs Q E hr h => ?_)
  · obtain ⟨S, ds, d, _, hd, ⟨f, s, many, rfl, _⟩, _⟩ := h
    rw [hd.len]
    rfl
  · obtain ⟨S, ds, d, hS, hd, ⟨fo, sd, many, rfl, fok, sz, rfl⟩, q⟩ := h
    obtain ⟨v1, _, rfl, h1, hd⟩ := hd.consE
    obtain ⟨v2, _, rfl, h2, hd⟩ := hd.consE
    obtain ⟨v3, _, rfl, h3, hd⟩ := hd.consE
    cases hd.nilE
    cases h3.intE
    obtain ⟨fa, fdx, w1, w2, w3, w4, w5, w6, w7, w8, w9, rfl, fna, fA, j1, j2, j3, j4, j5, j6, j7, j8, j9⟩ := foE h1
    have j2 : Dq S H w2 (.list (fo.R.glyphs.map (glD (cs mg)))) := j2
    obtain ⟨gb, gs, rfl, ngb, rgb, hG⟩ := id j2.lstE
    have lgs : gs.length = fo.glyphs.length := by
      rw [hG.len, List.length_map]
      show (fo.glyphs.map _).length = _
      rw [List.length_map]
    obtain ⟨t, R, M, rs, ms, rfl, nt, rt, rR, rM, d1, d2, hR, hM⟩ := sdE h2
    have lrs : rs.length = sd.1.length := by rw [hR.len, List.length_map]
    have lms : ms.length = sd.2.length := by rw [hM.len, List.length_map]
    have z1 := sz.r
    have z2 := sz.m
    have hsf : sfV fo.glyphs.length many sd = (decide (sd.1.length = sd.2.length ∧ sd.1.length ≠ 0) && (sd.1.all (okR fo.glyphs.length sd.1.length) && sd.2.all fun r => riV many (-1) r)) := rfl
    have ret : ∀ (b : Bool) (H' : Hp), Same H H' → sfV fo.glyphs.length many sd = b → Q (.bl b) H' := fun b H' s e => by
      have := q (.bl b) H' s
      rw [e] at this
      exact this (.bl _)
    clear q
    refine ⟨_, (pss_cons (ps_asg (pv 1) (pgT (n := 2) (K := K) rfl (by rfl) (pgs_cons (pg_name (i := 3) sc_side_fits.nd rfl (.inr rfl)) (pgs_cons (pg_name (i := 4) sc_side_fits.nd rfl (.inl rfl)) pgs_nil))))
      (pss_cons (ps_if (PW.pt (pw_or (pt_cmpR op_ne (pe_callB (clLen (K := K) rfl) (by rfl) T.z_len (by decide +kernel) (pa_cons (pv 3) pa_nil)) (pe_callB (clLen (K := K) rfl) (by rfl) T.z_len (by decide +kernel) (pa_cons (pv 4) pa_nil)) (nomark _)) (pw_or1 (pt_cmpR op_eq (pe_callB (clLen (K := K) rfl) (by rfl) T.z_len (by decide +kernel) (pa_cons (pv 3) pa_nil)) pe_int (nomark _)))))
        (pss_one (ps_ret pe_bl))
        pss_nil)
      (pss_cons (ps_for PassesOwn.never rfl (piL (K := K) rfl (pv 3)) (pg_name (i := 5) sc_side_fits.nd rfl (.inl rfl))
        (pss_one (ps_if (PW.pt (pw_or (pt_cmpR op_ne (pe_callB (clLen (K := K) rfl) (by rfl) T.z_len (by decide +kernel) (pa_cons (pv 5) pa_nil)) (pe_callB (clLen (K := K) rfl) (by rfl) T.z_len (by decide +kernel) (pa_cons (peFld (K := K) rfl (pv 0) rfl) pa_nil)) (nomark _)) (pw_or1 (pt_not (pt_val (pe_callB (clAll (K := K) rfl rfl) (by rfl) T.z_all (by decide +kernel) (pa_cons (pe_lc (own := [("state", 7)]) rfl sc_side_fits.nd (piL (K := K) rfl (pv 5)) (blkOk_by (by kernel_rfl)) (fun _ _ _ _ _ => (pg_name (i := 7) sc_side_fits.nd rfl (.inl rfl))) (fun _ _ _ _ _ => pts_nil) (fun _ _ _ _ _ => (pe_chain op_le op_lt pe_int (pv 7) (pe_callB (clLen (K := K) rfl) (by rfl) T.z_len (by decide +kernel) (pa_cons (pv 3) pa_nil))))) pa_nil)))))))
        (pss_one (ps_ret pe_bl))
        pss_nil)))
      (pss_one (ps_ret (pe_callB (clAll (K := K) rfl rfl) (by rfl) T.z_all (by decide +kernel) (pa_cons (pe_lc (own := [("rules", 6)]) rfl sc_side_fits.nd (piL (K := K) rfl (pv 4)) (blkOk_by (by kernel_rfl)) (fun _ _ _ _ _ => (pg_name (i := 6) sc_side_fits.nd rfl (.inl rfl))) (fun _ _ _ _ _ => pts_nil) (fun _ _ _ _ _ => (pe_h h_is_rising (hr.mono (by decide)) (pa_cons (pv 6) (pa_cons (pv 2) pa_nil))))) pa_nil))))))), ?_⟩
    walk_at "fl.w"
    refine g_iteN (fun c1 => ?_) (fun c1 => ?_)
    · walk_at "fl.w"
      refine ret _ _ (L2.Same.refl _) ?_
      rw [hsf, decide_eq_false (fun h => c1 (by omega)), Bool.false_and]
    walk_at "fl.w"
    refine g_ite (fun c2 => ?_) (fun c2 => ?_)
    · walk_at "fl.w"
      refine ret _ _ (L2.Same.refl _) ?_
      rw [hsf, decide_eq_false (fun h => h.2 (by omega)), Bool.false_and]
    walk_at "fl.w"
    have hd0 : decide (sd.1.length = sd.2.length ∧ sd.1.length ≠ 0) = true := decide_eq_true ⟨by omega, by omega⟩
    rw [hd0, Bool.true_and] at hsf
    refine forK_l (xs := rs) (fun i σ' H' => ∃ (u5 : Option V), σ' = [some (.ref fa), some (.ref t), some (.int many), some (.ref R), some (.ref M), u5, none, none] ∧ (sd.1.take i).all (okR fo.glyphs.length sd.1.length) = true ∧ Same H H') ?_ ?_ ?_ ?_
    · exact ⟨none, rfl, rfl, L2.Same.refl _⟩
    · intro i σ' H' _ ⟨_, _, _, e⟩
      exact SqL.of (e _ _ rR)
    · intro i x σ' H' hx ⟨u5, e, ea, sm⟩
      subst e
      obtain ⟨r, hr1, dx⟩ := hR.getM hx
      obtain ⟨cb, cs', rfl, ncb, rcb, hCb⟩ := id dx.lstE
      obtain rfl := ints_of hCb
      have rcb' := sm _ _ rcb
      have fA' := sm _ _ fA
      have rgb' := sm _ _ rgb
      have rR' := sm _ _ rR
      have zr := sz.rr r (List.mem_of_getElem? hr1)
      have al' := hS.same sm
      have dx' := dx.same sm
      have no : okR fo.glyphs.length sd.1.length r = false → ∀ H2, Same H H2 → Q (.bl false) H2 := fun h H2 s2 => by
        refine ret _ _ s2 ?_
        rw [hsf, all_no (List.mem_of_getElem? hr1) h, Bool.false_and]
      walk_at "fl.w"
      refine g_iteN (fun c3 => ?_) (fun c3 => ?_)
      · rw [if_pos rfl]
        walk_at "fl.w"
        refine no ?_ _ sm
        unfold okR
        rw [decide_eq_false (fun h => c3 (by rw [List.length_map]; omega)), Bool.false_and]
      have hrn : decide (r.length = fo.glyphs.length) = true := decide_eq_true (by rw [List.length_map] at c3; omega)
      walk_at "fl.w"
      refine lcL (S := S) (es := r.map PyData.int) (fun j => ((r.map fun x : Int => decide (0 ≤ x ∧ x < sd.1.length)).map PyData.bool)[j]?) al' dx' (by rw [List.length_map]; omega) ?_ ?_
      · intro D j y e2 H2 hD he2 sm2 al2 dy R' N hR' _
        refine g_name ⟨rfl, ?_⟩
        rw [List.getElem?_map] at he2
        cases hz : r[j]? with
        | none => rw [hz] at he2; cases he2
        | some z =>
          rw [hz] at he2
          cases he2
          cases dy.intE
          have rR2 := sm2 _ _ rR'
          have fz : ∀ b : Bool, decide (0 ≤ z ∧ z < sd.1.length) = b → R' (.bl b) H2 := fun b e => hR' (.bool b) _ _ (by rw [List.getElem?_map, List.getElem?_map, hz]; show some (PyData.bool (decide (0 ≤ z ∧ z < sd.1.length))) = _; rw [e]) (L2.Same.refl _) (.bl _)
          walk_at "fl.w"
          by_cases c4 : 0 ≤ z
          · refine g_yesB c4 ?_
            walk_at "fl.w"
            refine fz _ ?_
            by_cases c5 : z < sd.1.length
            · rw [decide_eq_true ⟨c4, c5⟩, decide_eq_true (by omega)]
            · rw [decide_eq_false (fun h => c5 h.2), decide_eq_false (by omega)]
          · refine g_noB c4 ?_
            walk_at "fl.w"
            exact fz _ (decide_eq_false fun h => c4 h.1)
      intro D1 H1 sm1 hD1 q1
      rw [fm_all (by simp)] at q1
      obtain ⟨_, zs, e9, _, rz, hZ⟩ := q1.lstE
      cases e9
      obtain rfl := bools_of hZ
      have s01 := sm.trans sm1
      walk_at "fl.w"
      have eal : ((r.map fun x : Int => decide (0 ≤ x ∧ x < sd.1.length)).all id) = r.all fun x : Int => decide (0 ≤ x ∧ x < sd.1.length) := by rw [List.all_map]; rfl
      rw [eal]
      cases c6 : (r.all fun x : Int => decide (0 ≤ x ∧ x < sd.1.length)) with
      | true =>
        walk_at "fl.w"
        refine ⟨_, rfl, ?_, s01⟩
        rw [all_take hr1, ea, Bool.true_and]
        unfold okR
        rw [hrn, c6]
        rfl
      | false =>
        walk_at "fl.w"
        refine no ?_ _ s01
        unfold okR
        rw [hrn, c6]
        rfl
    · intro σ' H' ⟨u5, e, ea, sm⟩
      subst e
      rw [lrs, List.take_length] at ea
      rw [ea, Bool.true_and] at hsf
      have rM' := sm _ _ rM
      have al' := hS.same sm
      have d2' := d2.same sm
      walk_at "fl.w"
      refine lcL (S := S) (es := sd.2.map intsD) (fun j => ((sd.2.map fun r => riV many (-1) r).map PyData.bool)[j]?) al' d2' (by rw [List.length_map]; omega) ?_ ?_
      · intro D j y e2 H2 hD he2 sm2 al2 dy R' N hR' _
        refine g_name ⟨rfl, ?_⟩
        rw [List.getElem?_map] at he2
        cases hz : sd.2[j]? with
        | none => rw [hz] at he2; cases he2
        | some z =>
          rw [hz] at he2
          cases he2
          walk_at "fl.w"
          refine spD_app (D :: S) [intsD z, .int many] (.bool (riV many (-1) z)) al2 (.cons dy (.cons (.int _) .nil)) ⟨z, many, rfl, sz.mm z (List.mem_of_getElem? hz), rfl⟩ fun v H3 sm3 dv => ?_
          exact hR' _ _ _ (by rw [List.getElem?_map, List.getElem?_map, hz]; rfl) sm3 dv
      intro D1 H1 sm1 hD1 q1
      rw [fm_all (by simp)] at q1
      obtain ⟨_, zs, e9, _, rz, hZ⟩ := q1.lstE
      cases e9
      obtain rfl := bools_of hZ
      refine g_allL (SqL.of rz) ?_
      refine ret _ _ (sm.trans sm1) ?_
      rw [hsf, List.all_map]
      rfl
def fFi (c : Cs) (A : Addr) (ds : List PyData) (d : PyData) : Prop := ∃ (f : FoV) (l : Nat) (k : LkV) (s1 s2 : Sd), ds = [foD c f.R, .int l, insD A (auF s1 s2)] ∧ f.Ok ∧ f.lks[l]? = some k ∧ SdZ s1 ∧ SdZ s2 ∧ d = .bool (sfV f.glyphs.length k.rules.length s1 && sfV f.glyphs.length k.rules.length s2)
theorem ok_fits (T : Txt K mg) : Has P w K mg base 3 "fits" ps_fits (spD (fFi (cs mg) (adr mg "Automaton"))) := by
  obtain ⟨_, _, _, _, _, _, _, _, _, _, _, _, _, _, cF⟩ := T.c_Font
  have clF := cF.cl
  have naF := cF.na
  have clL := T.c_Lookup.cl
  have naL := T.c_Lookup.na
  have clA := T.c_Automaton.cl
  have naA := T.c_Automaton.na
  have h_side_fits := ok_side_fits (P := P) (w := w) (base := base) T
  refine has_of T.d_fits sc_fits bd_fits (fun vs H Q E h => ?_) (fun f cdv A outer s H vs Q E hr h => ?_)
  · obtain ⟨S, ds, d, _, hd, ⟨f, l, k, s1, s2, rfl, _⟩, _⟩ := h
    rw [hd.len]
    rfl
  · obtain ⟨S, ds, d, hS, hd, ⟨fo, l, k, s1, s2, rfl, fok, hk, z1, z2, rfl⟩, q⟩ := h
    obtain ⟨v1, _, rfl, h1, hd⟩ := hd.consE
    obtain ⟨v2, _, rfl, h2, hd⟩ := hd.consE
    obtain ⟨v3, _, rfl, h3, hd⟩ := hd.consE
    cases hd.nilE
    cases h2.intE
    have h1' := h1
    obtain ⟨fa, fdx, w1, w2, w3, w4, w5, w6, w7, w8, w9, rfl, fna, fA, j1, j2, j3, j4, j5, j6, j7, j8, j9⟩ := foE h1'
    have j4 : Dq S H w4 (.list (fo.lks.map fun k => lkD (cs mg) k.R)) := by
      simp only [FoV.R, List.map_map] at j4
      exact j4
    obtain ⟨b, ls, rfl, nb, rb, hL⟩ := id j4.lstE
    obtain ⟨x, hx, dx⟩ := hL.getD (i := l) (d := lkD (cs mg) k.R) (by rw [List.getElem?_map, hk]; rfl)
    have ax : atI ls (l : Int) = some x := atI_nat hx
    obtain ⟨la, ldx, u1, u2, u3, rfl, lna, lA, m1, m2, m3⟩ := lkE dx
    have m2 : Dq S H u2 (.list (k.rules.map fun r => insD (adr mg "Rule") r.R.F)) := by
      simp only [LkV.R, List.map_map] at m2
      exact m2
    obtain ⟨rb', rs, rfl, nrb, rrb, hRs⟩ := id m2.lstE
    have lrs : rs.length = k.rules.length := by rw [hRs.len, List.length_map]
    obtain ⟨aa, adx, y1, y2, rfl, ana, aA, n1, n2⟩ := auE h3
    refine ⟨_, (pss_cons (ps_set (i := 3) sc_fits.nd rfl (.inr rfl) (pe_callB (clLen (K := K) rfl) (by rfl) T.z_len (by decide +kernel) (pa_cons (peFld (K := K) rfl (pe_ix (ixL (K := K) rfl) (peFld (K := K) rfl (pv 0) rfl) (pv 1) (fun _ _ => rfl)) rfl) pa_nil)))
      (pss_one (ps_ret (pe_callB (clAll (K := K) rfl rfl) (by rfl) T.z_all (by decide +kernel) (pa_cons (pe_lc (own := [("side", 4)]) rfl sc_fits.nd (piT (K := K) rfl (pe_tup (pa_cons (peFld (K := K) rfl (pv 2) rfl) (pa_cons (peFld (K := K) rfl (pv 2) rfl) pa_nil)))) (blkOk_by (by kernel_rfl)) (fun _ _ _ _ _ => (pg_name (i := 4) sc_fits.nd rfl (.inl rfl))) (fun _ _ _ _ _ => pts_nil) (fun _ _ _ _ _ => (pe_h h_side_fits (hr.mono (by decide)) (pa_cons (pv 0) (pa_cons (pv 4) (pa_cons (pv 3) pa_nil)))))) pa_nil))))), ?_⟩
    walk_at "fl.w"
    refine g_itup ?_
    walk_at "fl.w"
    rename_i p hp
    have sp : Same H (upd H p (.tup [y1, y2])) := Fl.Same.new hp
    refine ⟨p, rfl, ⟨_, SqT.of upd_same⟩, ?_⟩
    have al1 := hS.same sp
    refine lcTu (S := S) (fun i => (([sfV fo.glyphs.length k.rules.length s1, sfV fo.glyphs.length k.rules.length s2] : List Bool).map PyData.bool)[i]?) al1 upd_same (show (2 : Nat) < 1000 by decide) ?_ ?_
    · intro D i x H2 hD hx sm al R N hR _
      refine g_name ⟨rfl, ?_⟩
      have go : ∀ (y : V) (s : Sd) (E : XK), Dq S H y (sdD s) → SdZ s → (([sfV fo.glyphs.length k.rules.length s1, sfV fo.glyphs.length k.rules.length s2] : List Bool).map PyData.bool)[i]? = some (.bool (sfV fo.glyphs.length k.rules.length s)) →
          spD (fSf (cs mg)) [.ref fa, y, .int (rs.length : Int)] H2 R E := fun y s E hy hz hi => by
        rw [lrs]
        exact spD_app (D :: S) [foD (cs mg) fo.R, sdD s, .int k.rules.length] (.bool (sfV fo.glyphs.length k.rules.length s)) al (.cons (((h1.same sp).new hD).same sm) (.cons (((hy.same sp).new hD).same sm) (.cons (.int _) .nil))) ⟨fo, s, k.rules.length, rfl, fok, hz, rfl⟩ fun v H3 sm3 dv => hR _ _ _ hi sm3 dv
      walk_at "fl.w"
      match i, hx with
      | 0, hx =>
        cases hx
        exact go _ s1 _ n1 z1 rfl
      | 1, hx =>
        cases hx
        exact go _ s2 _ n2 z2 rfl
      | i + 2, hx => simp at hx
    intro D1 H1 sm1 hD1 q1
    rw [fm_all (by simp)] at q1
    obtain ⟨_, zs, e9, _, rz, hZ⟩ := q1.lstE
    cases e9
    obtain rfl := bools_of hZ
    refine g_allL (SqL.of rz) ?_
    have := q (.bl (sfV fo.glyphs.length k.rules.length s1 && sfV fo.glyphs.length k.rules.length s2)) H1 (sp.trans sm1) (.bl _)
    simpa using this
end

section
variable {S : List Addr} {H : Hp} {v : V}
theorem woE {f : FoV} (h : Dq S H v (woD f)) : ∃ a x2 x3 lb ls, v = .ref a ∧ a ∉ S ∧ H a = some (.tup [.int (f.glyphs.length : Int), x2, x3, .ref lb]) ∧ Dq S H x2 (.list ((f.glyphs.map GlV.mark).map .bool)) ∧ Dq S H x3 (.list ((f.glyphs.map GlV.adv).map .int)) ∧ lb ∉ S ∧ H lb = some (.lst ls) ∧ DqA S H ls (f.lks.map lkT) := by
  obtain ⟨a, xs, rfl, na, ra, hX⟩ := h.tupE
  obtain ⟨x1, _, rfl, d1, hX⟩ := hX.consE
  obtain ⟨x2, _, rfl, d2, hX⟩ := hX.consE
  obtain ⟨x3, _, rfl, d3, hX⟩ := hX.consE
  obtain ⟨x4, _, rfl, d4, hX⟩ := hX.consE
  cases hX.nilE
  cases d1.intE
  obtain ⟨lb, ls, rfl, nl, rl, hL⟩ := d4.lstE
  exact ⟨a, x2, x3, lb, ls, rfl, na, ra, d2, d3, nl, rl, hL⟩
theorem ltE {k : LkV} (h : Dq S H v (lkT k)) : ∃ a rb rs, v = .ref a ∧ H a = some (.tup [.str k.kind, .ref rb, .bl k.ign]) ∧ H rb = some (.lst rs) ∧ Dq S H (.ref rb) (.list (k.rules.map ruT)) ∧ DqA S H rs (k.rules.map ruT) := by
  obtain ⟨a, xs, rfl, na, ra, hX⟩ := h.tupE
  obtain ⟨x1, _, rfl, d1, hX⟩ := hX.consE
  obtain ⟨x2, _, rfl, d2, hX⟩ := hX.consE
  obtain ⟨x3, _, rfl, d3, hX⟩ := hX.consE
  cases hX.nilE
  obtain rfl := strQ d1
  cases d3.blE
  obtain ⟨lb, ls, rfl, nl, rl, hL⟩ := id d2.lstE
  exact ⟨a, lb, ls, rfl, ra, rl, d2, hL⟩
theorem rtE {r : RuV} (h : Dq S H v (ruT r)) : ∃ a b1 x1 b2 x2 b3 x3 v4 v5, v = .ref a ∧ H a = some (.tup [.ref b1, .ref b2, .ref b3, v4, v5]) ∧ H b1 = some (.lst x1) ∧ DqA S H x1 (r.inside.map intsD) ∧ Dq S H (.ref b2) (setsD r.back) ∧ H b2 = some (.lst x2) ∧ H b3 = some (.lst x3) ∧ DqA S H x3 (r.ahead.map intsD) := by
  obtain ⟨a, xs, rfl, na, ra, hX⟩ := h.tupE
  obtain ⟨y1, _, rfl, d1, hX⟩ := hX.consE
  obtain ⟨y2, _, rfl, d2, hX⟩ := hX.consE
  obtain ⟨y3, _, rfl, d3, hX⟩ := hX.consE
  obtain ⟨y4, _, rfl, d4, hX⟩ := hX.consE
  obtain ⟨y5, _, rfl, d5, hX⟩ := hX.consE
  cases hX.nilE
  rw [← setsD_ll] at d1 d2 d3
  obtain ⟨b1, x1, rfl, n1, r1, h1⟩ := id d1.lstE
  obtain ⟨b2, x2, rfl, n2, r2, h2⟩ := id d2.lstE
  obtain ⟨b3, x3, rfl, n3, r3, h3⟩ := id d3.lstE
  exact ⟨a, b1, x1, b2, x2, b3, x3, y4, y5, rfl, ra, r1, h1, d2, r2, r3, h3⟩
end
section
/-- the status by the law's own words -/
def fitV (p : List (List Int)) (w : List Int) (k : Nat) : Bool := decide ((w[k]?).getD 0 ∈ (p[k]?).getD [])
def lsV (p : List (List Int)) (w : List Int) : Int := if (List.range (min w.length p.length)).all (fitV p w) = true then ((min w.length p.length : Nat) : Int) else -1
theorem lsV_yes {p : List (List Int)} {w : List Int} (h : ∀ k, k < min w.length p.length → fitV p w k = true) : lsV p w = ((min w.length p.length : Nat) : Int) := by
  unfold lsV
  rw [if_pos (List.all_eq_true.mpr fun k m => h k (List.mem_range.mp m))]
theorem lsV_no {p : List (List Int)} {w : List Int} {k : Nat} (hk : k < min w.length p.length) (h : fitV p w k = false) : lsV p w = -1 := by
  unfold lsV
  rw [if_neg fun e => by
    have := List.all_eq_true.mp e k (List.mem_range.mpr hk)
    rw [h] at this; cases this]
theorem fit_app {p : List (List Int)} {w : List Int} {g : Int} {k : Nat} (h : k < w.length) : fitV p (w ++ [g]) k = fitV p w k := by
  unfold fitV
  rw [List.getElem?_append_left h]
theorem nx_sn (p : List (List Int)) (w : List Int) (g : Int) : nxN p (lsV p w) g = lsV p (w ++ [g]) := by
  have hl : (w ++ [g]).length = w.length + 1 := by simp
  by_cases h : ∀ k, k < min w.length p.length → fitV p w k = true
  · rw [lsV_yes h]
    by_cases hp : p.length ≤ w.length
    · rw [lsV_yes (w := w ++ [g]) fun k hk => by rw [fit_app (by omega)]; exact h k (by omega)]
      unfold nxN
      rw [if_pos (by omega), hl]
      omega
    · have hg : fitV p (w ++ [g]) w.length = decide (g ∈ (p[w.length]?).getD []) := by
        unfold fitV
        rw [List.getElem?_append_right (Nat.le_refl _), Nat.sub_self]
        rfl
      have hm : ((min w.length p.length : Nat) : Int) = w.length := by omega
      rw [hm]
      unfold nxN
      rw [if_neg (by omega)]
      by_cases c : g ∈ (p[w.length]?).getD []
      · rw [if_pos ⟨by omega, by omega, by rw [Int.toNat_natCast]; exact c⟩]
        rw [lsV_yes (w := w ++ [g]) fun k hk => by
          by_cases e : k = w.length
          · rw [e, hg]; exact decide_eq_true c
          · rw [fit_app (by omega)]; exact h k (by omega)]
        omega
      · rw [if_neg fun z => c (by have := z.2.2; rw [Int.toNat_natCast] at this; exact this)]
        rw [lsV_no (w := w ++ [g]) (k := w.length) (by omega) (by rw [hg]; exact decide_eq_false c)]
  · obtain ⟨k, hk⟩ := Classical.not_forall.mp h
    obtain ⟨hk, hf⟩ := Classical.not_imp.mp hk
    have hf : fitV p w k = false := by simpa using hf
    rw [lsV_no hk hf, lsV_no (w := w ++ [g]) (k := k) (by omega) (by rw [fit_app (by omega)]; exact hf)]
    unfold nxN
    rw [if_neg (by omega), if_neg (by omega)]
theorem ls_nil (p : List (List Int)) : lsV p [] = 0 := by
  rw [lsV_yes fun k hk => by simp at hk]
  simp
theorem zip_map {α β γ : Type} (f : α → β → γ) (g : α → β) : ∀ l : List α, List.zipWith f l (l.map g) = l.map fun a => f a (g a)
  | [] => rfl
  | a :: l => by rw [List.map_cons, List.zipWith_cons_cons, zip_map f g l, List.map_cons]
theorem nxS_ls (ps : List (List (List Int))) (w : List Int) (g : Int) : nxS ps (ps.map fun p => lsV p w) g = ps.map fun p => lsV p (w ++ [g]) := by
  unfold nxS
  rw [zip_map (fun p n => nxN p n g)]
  exact List.map_congr_left fun p _ => nx_sn p w g
theorem stA_ls (ps : List (List (List Int))) (w : List Int) : stA ps w = ps.map fun p => lsV p w := by
  unfold stA
  have go : ∀ (w v : List Int), w.foldl (nxS ps) (ps.map fun p => lsV p v) = ps.map fun p => lsV p (v ++ w) := by
    intro w
    induction w with
    | nil => intro v; simp
    | cons g w ih =>
      intro v
      rw [List.foldl_cons, nxS_ls, ih]
      simp
  have := go w []
  rw [show (ps.map fun p => lsV p []) = ps.map fun _ => (0 : Int) from List.map_congr_left fun p _ => ls_nil p] at this
  simpa using this
end
section
variable {P : Program} {w : World} {K : PySem.W.Frag} {mg : Str → Option Value} {base : Heap}
local macro_rules | `(tactic| walk_at "fl.t") => `(tactic| (with_reducible refine g_chainW ?_))
local macro_rules | `(tactic| walk_at "fl.t") => `(tactic| (with_reducible refine g_zip ?_))
local macro_rules | `(tactic| walk_at "fl.t") => `(tactic| (with_reducible refine g_mkP ?_))
local macro_rules | `(tactic| walk_at "fl.t") => `(tactic| (with_reducible refine g_callS ?_))
local macro_rules | `(tactic| walk_at "fl.t") => `(tactic| (with_reducible refine g_ifE ?_))
local macro_rules | `(tactic| walk_at "fl.w") => `(tactic| repeat walk_at "fl.t")
def fLp (ds : List PyData) (d : PyData) : Prop := ∃ (f : FoV) (l : Nat) (k : LkV) (nm : Str), ds = [woD f, .int l, .str nm] ∧ f.Ok ∧ f.lks[l]? = some k ∧ d = ptsD (patV nm k)
theorem ok_law_patterns (T : Txt K mg) : Has P w K mg base 1 "_law_patterns" ps_law_patterns (spD fLp) := by
  refine has_of T.d_law_patterns sc_law_patterns bd_law_patterns (fun vs H Q E h => ?_) (fun f cdv A outer s H vs Q E hr h => ?_)
  · obtain ⟨S, ds, d, _, hd, ⟨f, l, k, nm, rfl, _⟩, _⟩ := h
    rw [hd.len]
    rfl
  · obtain ⟨S, ds, d, hS, hd, ⟨fo, l, k, nm, rfl, fok, hk, rfl⟩, q⟩ := h
    obtain ⟨v1, _, rfl, h1, hd⟩ := hd.consE
    obtain ⟨v2, _, rfl, h2, hd⟩ := hd.consE
    obtain ⟨v3, _, rfl, h3, hd⟩ := hd.consE
    cases hd.nilE
    cases h2.intE
    obtain rfl := strQ h3
    obtain ⟨wa, x2, x3, lb, ls, rfl, nwa, rwa, d2, d3, nlb, rlb, hL⟩ := woE h1
    obtain ⟨x, hx, dx⟩ := hL.getD (i := l) (d := lkT k) (by rw [List.getElem?_map, hk]; rfl)
    have ax : atI ls (l : Int) = some x := atI_nat hx
    obtain ⟨ka, rb, rs, rfl, rka, rrb, dRs, hRs⟩ := ltE dx
    have kok := fok.lo k (List.mem_of_getElem? hk)
    refine ⟨_, (pss_cons (ps_set (i := 3) sc_law_patterns.nd rfl (.inl rfl) (pe_ix (ixT (K := K) rfl) (pe_ix (ixL (K := K) rfl) (pe_ix (ixT (K := K) rfl) (pv 0) pe_int (fun _ _ => rfl)) (pv 1) (fun _ _ => rfl)) pe_int (fun _ _ => rfl)))
      (pss_cons (ps_if (pt_cmpR op_eq (pv 2) pe_str (nomark _))
        (pss_one (ps_ret (pe_lc (own := [("one", 4)]) rfl sc_law_patterns.nd (piL (K := K) rfl (pv 3)) (blkOk_by (by kernel_rfl)) (fun _ _ _ _ _ => (pg_name (i := 4) sc_law_patterns.nd rfl (.inl rfl))) (fun _ _ _ _ _ => pts_nil) (fun _ _ _ _ _ => (pe_op op_cat (pe_ix (ixT (K := K) rfl) (pv 4) pe_int (fun _ _ => rfl)) (pe_ix (ixT (K := K) rfl) (pv 4) pe_int (fun _ _ => rfl)))))))
        pss_nil)
      (pss_one (ps_ret (pe_lc (own := [("one", 4)]) rfl sc_law_patterns.nd (piL (K := K) rfl (pv 3)) (blkOk_by (by kernel_rfl)) (fun _ _ _ _ _ => (pg_name (i := 4) sc_law_patterns.nd rfl (.inl rfl))) (fun _ _ _ _ _ => pts_nil) (fun _ _ _ _ _ => (pe_ix (ixT (K := K) rfl) (pv 4) pe_int (fun _ _ => rfl)))))))), ?_⟩
    walk_at "fl.w"
    by_cases e : nm = "fore"
    · first | refine g_eqS (b := true) (decide_eq_true e) ?_ | refine g_yesB e ?_
      walk_at "fl.w"
      refine lcL (S := S) (es := k.rules.map ruT) (fun i => ((patV nm k).map setsD)[i]?) hS dRs (by rw [List.length_map]; have := kok.r; omega) ?_ ?_
      · intro D i x e2 H2 hD he sm al dx R N hR _
        refine g_name ⟨rfl, ?_⟩
        rw [List.getElem?_map] at he
        cases hc : k.rules[i]? with
        | none => rw [hc] at he; cases he
        | some r =>
          rw [hc] at he
          cases he
          have rok := kok.ro r (List.mem_of_getElem? hc)
          have z1 := rok.i3.2
          have z2 := rok.a
          obtain ⟨a, b1, y1, b2, y2, b3, y3, v4, v5, rfl, ra, r1, t1, t2, r2, r3, t3⟩ := rtE dx
          walk_at "fl.w"
          refine g_cat r1 r3 (by have h1 := t1.len; have h3 := t3.len; rw [List.length_map] at h1 h3; omega) fun p hp => ?_
          have s0 : Same H2 (upd H2 p (.lst (y1 ++ y3))) := Fl.Same.new hp
          refine hR (setsD (r.inside ++ r.ahead)) _ _ (by unfold patV; rw [List.getElem?_map, List.getElem?_map, hc]; show some (setsD (patR nm r)) = _; unfold patR; rw [if_pos e]) s0 ?_
          show Dq (D :: S) _ (.ref p) (.list ((r.inside ++ r.ahead).map intsD))
          rw [List.map_append]
          exact Dq.newL al hp (t1.app t3)
      intro D1 H1 sm1 hD1 q1
      rw [fm_all (by unfold patV; simp)] at q1
      exact q _ _ sm1 q1
    · first | refine g_eqS (b := false) (decide_eq_false e) ?_ | refine g_noB e ?_
      walk_at "fl.w"
      refine lcL (S := S) (es := k.rules.map ruT) (fun i => ((patV nm k).map setsD)[i]?) hS dRs (by rw [List.length_map]; have := kok.r; omega) ?_ ?_
      · intro D i x e2 H2 hD he sm al dx R N hR _
        refine g_name ⟨rfl, ?_⟩
        rw [List.getElem?_map] at he
        cases hc : k.rules[i]? with
        | none => rw [hc] at he; cases he
        | some r =>
          rw [hc] at he
          cases he
          obtain ⟨a, b1, y1, b2, y2, b3, y3, v4, v5, rfl, ra, r1, t1, t2, r2, r3, t3⟩ := rtE dx
          walk_at "fl.w"
          exact hR (setsD r.back) _ _ (by unfold patV; rw [List.getElem?_map, List.getElem?_map, hc]; show some (setsD (patR nm r)) = _; unfold patR; rw [if_neg e]) (L2.Same.refl _) t2
      intro D1 H1 sm1 hD1 q1
      rw [fm_all (by unfold patV; simp)] at q1
      exact q _ _ sm1 q1
def fLsA (ds : List PyData) (d : PyData) : Prop := ∃ (ps : List (List (List Int))) (w : List Int), ds = [ptsD ps, intsD w] ∧ PtZ ps ∧ w.length < 900 ∧ d = intsD (ps.map fun p => lsV p w)
theorem ok_law_status (T : Txt K mg) : Has P w K mg base 1 "_law_status" ps_law_status (spD fLsA) := by
  refine has_of T.d_law_status sc_law_status bd_law_status (fun vs H Q E h => ?_) (fun f cdv A outer s H vs Q E hr h => ?_)
  · obtain ⟨S, ds, d, _, hd, ⟨ps, w, rfl, _⟩, _⟩ := h
    rw [hd.len]
    rfl
  · obtain ⟨S, ds, d, hS, hd, ⟨ps, wd, rfl, pz, wz, rfl⟩, q⟩ := h
    obtain ⟨v1, _, rfl, h1, hd⟩ := hd.consE
    obtain ⟨v2, _, rfl, h2, hd⟩ := hd.consE
    cases hd.nilE
    obtain ⟨b, xs, rfl, nb, rb, hB⟩ := id h1.lstE
    obtain ⟨c, ys, rfl, nc, rc, hC⟩ := id h2.lstE
    obtain rfl := ints_of hC
    have lx : xs.length = ps.length := by rw [hB.len, List.length_map]
    have z1 := pz.1
    refine ⟨_, (pss_cons (ps_set (i := 2) sc_law_status.nd rfl (.inl rfl) (pe_lst pa_nil))
      (pss_cons (ps_for PassesOwn.never rfl (piL (K := K) rfl (pv 0)) (pg_name (i := 3) sc_law_status.nd rfl (.inr rfl))
        (pss_cons (ps_setLc (i := 4) (own := [("k", 5)]) rfl sc_law_status.nd rfl rfl (sw_true rfl rfl rfl (by decide +kernel)) (pi_range1 (by rfl) T.z_range (pa_cons (pe_callB (call_min' rfl) (by rfl) T.z_min (by decide +kernel) (pa_cons (pe_callB (clLen (K := K) rfl) (by rfl) T.z_len (by decide +kernel) (pa_cons (pv 1) pa_nil)) (pa_cons (pe_callB (clLen (K := K) rfl) (by rfl) T.z_len (by decide +kernel) (pa_cons (pv 3) pa_nil)) pa_nil))) pa_nil)) (blkOk_by (by kernel_rfl)) (fun _ _ _ _ _ => (pg_name (i := 5) sc_law_status.nd rfl (.inl rfl))) (fun _ _ _ _ _ => pts_nil) (fun _ _ _ _ _ => (pe_cmpR (opIn (K := K) rfl) (pe_ix (ixL (K := K) rfl) (pv 1) (pv 5) (fun _ _ => rfl)) (pe_ix (ixL (K := K) rfl) (pv 3) (pv 5) (fun _ _ => rfl)) (by rfl))))
      (pss_one (ps_if (pt_not (pt_val (pe_callB (clAll (K := K) rfl rfl) (by rfl) T.z_all (by decide +kernel) (pa_cons (pv 4) pa_nil))))
        (pss_one (ps_expr (pe_bm PySem.F.plainAttrs_list PySem.F.slot_list_append PySem.F.type_list_append mt_append (pv 2) (pa_cons (pe_un un_neg pe_int) pa_nil))))
        (pss_one (ps_expr (pe_bm PySem.F.plainAttrs_list PySem.F.slot_list_append PySem.F.type_list_append mt_append (pv 2) (pa_cons (pe_callB (clLen (K := K) rfl) (by rfl) T.z_len (by decide +kernel) (pa_cons (pv 4) pa_nil)) pa_nil))))))))
      (pss_one (ps_ret (pv 2))))), ?_⟩
    walk_at "fl.w"
    rename_i D hD
    refine forK_l (xs := xs) (fun i σ' H' => ∃ u3 u4 u5, σ' = [some (.ref b), some (.ref c), some (.ref D), u3, u4, u5] ∧ H' D = some (.lst (((ps.take i).map fun p => lsV p wd).map V.int)) ∧ Fr [D] H H') ?_ ?_ ?_ ?_
    · exact ⟨none, none, none, rfl, upd_same, Fr.same (Fl.Same.new hD)⟩
    · intro i σ' H' _ ⟨_, _, _, _, _, e⟩
      exact SqL.of (sm_of hD e _ _ rb)
    · intro i x σ' H' hx ⟨u3, u4, u5, e, hDD, hf⟩
      subst e
      have sm := sm_of hD hf
      obtain ⟨p, hp, dx⟩ := hB.getM hx
      obtain ⟨pa, pls, rfl, npa, rpa, hP⟩ := dx.lstE
      have lpl : pls.length = p.length := by rw [hP.len, List.length_map]
      obtain ⟨pz1, pz2⟩ := pz.2 p (List.mem_of_getElem? hp)
      have rc' := sm _ _ rc
      have rpa' := sm _ _ rpa
      have al' := hS.same sm
      have hilt := (List.getElem?_eq_some_iff.mp hx).1
      walk_at "fl.w"
      have enn : (if (pls.length : Int) < ((wd.map V.int).length : Int) then (pls.length : Int) else ((wd.map V.int).length : Int)).toNat = min wd.length p.length := by
        rw [List.length_map]
        split <;> omega
      rw [enn]
      have hDne : H' D ≠ none := by rw [hDD]; simp
      refine lcR (S := S) (fun k => some (.bool (fitV p wd k))) al' (by omega) ?_ ?_
      · intro D2 k H2 hD2 hk sm2 al2 R N hR _
        refine g_name ⟨rfl, ?_⟩
        rw [Int.zero_add]
        have hwk : wd[k]? = some wd[k] := List.getElem?_eq_getElem (by omega)
        generalize wd[k] = g at hwk
        have hpk : p[k]? = some p[k] := List.getElem?_eq_getElem (by omega)
        generalize p[k] = cc at hpk
        obtain ⟨xc, hxc, dxc⟩ := hP.getD (i := k) (d := intsD cc) (by rw [List.getElem?_map, hpk]; rfl)
        have axc : atI pls (k : Int) = some xc := atI_nat hxc
        have agk : atI (wd.map V.int) (k : Int) = some (.int g) := atI_nat (by rw [List.getElem?_map, hwk]; rfl)
        obtain ⟨cb, cs', rfl, ncb, rcb, hCb⟩ := dxc.lstE
        obtain rfl := ints_of hCb
        have rc2 := sm2 _ _ rc'
        have rpa2 := sm2 _ _ rpa'
        have rcb2 := sm2 _ _ (sm _ _ rcb)
        walk_at "fl.w"
        refine g_inI (.inl (SqL.of rcb2)) ?_
        refine hR _ _ _ rfl (L2.Same.refl _) ?_
        unfold fitV
        rw [hwk, hpk]
        exact .bl _
      intro D1 H1 sm1 hD1 q1
      rw [show (fun k => some (PyData.bool (fitV p wd k))) = some ∘ (fun k => PyData.bool (fitV p wd k)) from rfl, List.filterMap_eq_map] at q1
      rw [show (List.range (min wd.length p.length)).map (fun k => PyData.bool (fitV p wd k)) = ((List.range (min wd.length p.length)).map (fitV p wd)).map PyData.bool by rw [List.map_map]; rfl] at q1
      obtain ⟨_, zs, e9, _, rz, hZ⟩ := q1.lstE
      cases e9
      obtain rfl := bools_of hZ
      have hDD1 := sm1 _ _ hDD
      have nxt : ∀ v : Int, v = lsV p wd → (upd H1 D (.lst (((ps.take i).map fun p => lsV p wd).map V.int ++ [.int v]))) D = some (.lst (((ps.take (i + 1)).map fun p => lsV p wd).map V.int)) ∧ Fr [D] H (upd H1 D (.lst (((ps.take i).map fun p => lsV p wd).map V.int ++ [.int v]))) := fun v e => by
        refine ⟨?_, (hf.trans (Fr.same sm1)).trans (Fr.upd (by simp))⟩
        rw [upd_same, List.take_add_one, hp, Option.toList_some, List.map_append, List.map_append, e]
        rfl
      walk_at "fl.w"
      have eal : (((List.range (min wd.length p.length)).map (fitV p wd)).all id) = (List.range (min wd.length p.length)).all (fitV p wd) := by rw [List.all_map]; rfl
      rw [eal]
      cases c6 : (List.range (min wd.length p.length)).all (fitV p wd) with
      | true =>
        walk_at "fl.w"
        refine ⟨_, _, _, rfl, nxt _ ?_⟩
        unfold lsV
        rw [if_pos c6]
        simp
      | false =>
        walk_at "fl.w"
        refine ⟨_, _, _, rfl, nxt _ ?_⟩
        unfold lsV
        rw [if_neg (by rw [c6]; decide)]
    · intro σ' H' ⟨u3, u4, u5, e, hDD, hf⟩
      subst e
      walk_at "fl.w"
      rw [lx, List.take_length] at hDD
      exact q _ _ (sm_of hD hf) (.lst (hS.ni hD) hDD (ints_dq _))
end

section
theorem sf_row {n m : Nat} {s : Sd} {r : List Int} (hr : r ∈ s.1) (h : (decide (r.length = n) && r.all fun x => decide (0 ≤ x ∧ x < s.1.length)) = false) : sfV n m s = false := by
  unfold sfV
  rw [all_no hr h, Bool.false_and, Bool.and_false]
theorem sf_met {n m : Nat} {s : Sd} {c : List Int} (hc : c ∈ s.2) (h : riV m (-1) c = false) : sfV n m s = false := by
  unfold sfV
  rw [all_no hc h, Bool.and_false, Bool.and_false]
theorem sf_len {n m : Nat} {s : Sd} (h : ¬ (s.1.length = s.2.length ∧ s.1.length ≠ 0)) : sfV n m s = false := by
  unfold sfV
  rw [decide_eq_false h, Bool.false_and]
theorem ri_no {m : Int} {c : List Int} (h : ¬ UpTo m c) : riV m (-1) c = false := by
  cases e : riV m (-1) c with
  | false => rfl
  | true => exact absurd (riV_upto.mp e) h
theorem ix_int {n : Nat} {v : Int} (h0 : 0 ≤ v) (h1 : v < n) : ixN n v = some v.toNat := by
  unfold ixN
  rw [if_pos h0, if_pos h1]
theorem set_z {l : List (List Int)} {k : Nat} {r : List Int} (h : ∀ x, x ∈ l → x.length < 900) (hr : r.length < 900) : ∀ x, x ∈ l.set k r → x.length < 900 := fun x m => by
  rcases List.mem_or_eq_of_mem_set m with m | rfl
  · exact h x m
  · exact hr
theorem set_mem {l : List (List Int)} {k : Nat} {r r0 : List Int} (h : l[k]? = some r0) : r ∈ l.set k r := List.mem_of_getElem? (List.getElem?_set_self (List.getElem?_eq_some_iff.mp h).1)
/-- a row with a number that is no state -/
theorem sf_bad {n m : Nat} {rows met : List (List Int)} {k : Nat} {r : List Int} {x : Int} (hr : rows[k]? = some r) (hl : 1 ≤ r.length) (hx : ¬ (0 ≤ x ∧ x < rows.length)) : sfV n m (rows.set k (r.set 0 x), met) = false := by
  refine sf_row (r := r.set 0 x) (set_mem hr) ?_
  have h1 : decide (0 ≤ x ∧ x < ((rows.set k (r.set 0 x)).length : Nat)) = false := decide_eq_false (by rw [List.length_set]; exact hx)
  rw [all_no (l := r.set 0 x) (p := fun y => decide (0 ≤ y ∧ y < ((rows.set k (r.set 0 x)).length : Nat))) (List.mem_of_getElem? (List.getElem?_set_self (by omega : 0 < r.length))) h1, Bool.and_false]
theorem g_gsubR {ta tb : TE} {v : V} {σ : L2.St} {H : Hp} {Q : L2.St → Hp → Prop} (h : ta σ H fun o H2 => tb σ H2 fun i H3 => rSetL o i v H3 fun H4 => Q σ H4) : gSub ta tb rSetL v σ H Q := h
theorem g_par {i j : Nat} {ta : TA} {D : Ends} {σ : L2.St} {H : Hp} (h : ta σ H fun vs H1 => ∃ v w, vs = [v, w] ∧ D.nx ((σ.set i (some v)).set j (some w)) H1) : tPar i j ta D σ H := h
variable {P : Program} {w : World} {K : PySem.W.Frag} {mg : Str → Option Value} {base : Heap}
local macro_rules | `(tactic| walk_at "fl.t") => `(tactic| ((with_reducible apply tk_app); (focus first | assumption | (with_reducible exact Dw.newH (by assumption) (by assumption))); (focus first | assumption | omega); intro _ _ _ _ _ _))
local macro_rules | `(tactic| walk_at "fl.t") => `(tactic| ((with_reducible apply g_appB); (focus walk_at "fl.raw"); (focus first | assumption | walk_at "fl.cz")))
local macro_rules | `(tactic| walk_at "fl.t") => `(tactic| (with_reducible refine g_ite (fun _ => ?_) (fun h => absurd rfl h)))
local macro_rules | `(tactic| walk_at "fl.t") => `(tactic| (with_reducible refine g_ite (fun h => absurd h (by decide)) (fun _ => ?_)))
local macro_rules | `(tactic| walk_at "fl.t") => `(tactic| (with_reducible refine g_gsubR ?_))
local macro_rules | `(tactic| walk_at "fl.t") => `(tactic| (with_reducible refine g_par ?_))
local macro_rules | `(tactic| walk_at "fl.t") => `(tactic| (with_reducible refine g_bm0 ?_))
local macro_rules | `(tactic| walk_at "fl.t") => `(tactic| (with_reducible refine g_chainW ?_))
local macro_rules | `(tactic| walk_at "fl.t") => `(tactic| (with_reducible refine g_mkP ?_))
local macro_rules | `(tactic| walk_at "fl.t") => `(tactic| (with_reducible refine g_callS ?_))
local macro_rules | `(tactic| walk_at "fl.t") => `(tactic| (with_reducible refine g_ifE ?_))
local macro_rules | `(tactic| walk_at "fl.w") => `(tactic| repeat walk_at "fl.t")
def spDs : Sp := fun vs H Q _ => ∃ (S : List Addr) (d : Addr) (n m : Nat), vs = [.ref d, .int (n : Int), .int (m : Int)] ∧ Al S H ∧ d ∈ S ∧ Dw d H ∧ n ≤ 60 ∧ m ≤ 12 ∧ ∀ t H' s, Fl.Fr [d] H H' → Dw d H' → Dq S H' (.ref t) (sdD s) → SdOk n m s → s.1.length ≤ 4 → Q (.ref t) H'
theorem ok_law_drawn_side (T : Txt K mg) : Has P w K mg base 2 "_law_drawn_side" ps_law_drawn_side spDs := by
  have h_law_take := ok_law_take (P := P) (w := w) (base := base) T
  refine has_of T.d_law_drawn_side sc_law_drawn_side bd_law_drawn_side (fun vs H Q E h => ?_) (fun f cdv A outer s H vs Q E hr h => ?_)
  · obtain ⟨S, d, n, m, rfl, _⟩ := h
    rfl
  · obtain ⟨S, d, n, m, rfl, hS, hd, hk, hn, hm, q⟩ := h
    have one : ∀ b, b ∈ [d] → b ∈ S := fun b m => by rw [show b = d by simpa using m]; exact hd
    refine ⟨_, (pss_cons (ps_set (i := 3) sc_law_drawn_side.nd rfl (.inr rfl) (pe_op op_add pe_int (pe_h h_law_take (hr.mono (by decide)) (pa_cons (pv 0) (pa_cons pe_int pa_nil)))))
      (pss_cons (ps_setLc (i := 4) (own := [("k", 6)]) rfl sc_law_drawn_side.nd rfl rfl (sw_true rfl rfl rfl (by decide +kernel)) (pi_range1 (by rfl) T.z_range (pa_cons (pv 3) pa_nil)) (blkOk_by (by kernel_rfl)) (fun _ _ _ _ _ => (pg_name (i := 6) sc_law_drawn_side.nd rfl (.inl rfl))) (fun _ _ _ _ _ => pts_nil) (fun _ _ _ _ _ => (pe_lc (own := [("glyph", 8)]) rfl sc_law_drawn_side.nd (pi_range1 (by rfl) T.z_range (pa_cons (pv 1) pa_nil)) (blkOk_by (by kernel_rfl)) (fun _ _ _ _ _ => (pg_name (i := 8) sc_law_drawn_side.nd rfl (.inl rfl))) (fun _ _ _ _ _ => pts_nil) (fun _ _ _ _ _ => (pe_h h_law_take (hr.mono (by decide)) (pa_cons (pv 0) (pa_cons (pv 3) pa_nil)))))))
      (pss_cons (ps_setLc (i := 5) (own := [("j", 7)]) rfl sc_law_drawn_side.nd rfl rfl (sw_true rfl rfl rfl (by decide +kernel)) (pi_range1 (by rfl) T.z_range (pa_cons (pv 3) pa_nil)) (blkOk_by (by kernel_rfl)) (fun _ _ _ _ _ => (pg_name (i := 7) sc_law_drawn_side.nd rfl (.inl rfl))) (fun _ _ _ _ _ => pts_nil) (fun _ _ _ _ _ => (pe_lc (own := [("k", 6)]) rfl sc_law_drawn_side.nd (pi_range1 (by rfl) T.z_range (pa_cons (pv 2) pa_nil)) (blkOk_by (by kernel_rfl)) (fun _ _ _ _ _ => (pg_name (i := 6) sc_law_drawn_side.nd rfl (.inl rfl))) (fun _ _ _ _ _ => (pts_one (pt_cmpR op_eq (pe_h h_law_take (hr.mono (by decide)) (pa_cons (pv 0) (pa_cons pe_int pa_nil))) pe_int (nomark _)))) (fun _ _ _ _ _ => (pv 6)))))
      (pss_one (ps_ret (pe_tup (pa_cons (pv 4) (pa_cons (pv 5) pa_nil)))))))), ?_⟩
    walk_at "fl.w"
    rename_i v0 G0 a0 b0 k0 o0
    obtain ⟨z, hz⟩ : ∃ z : Nat, 1 + v0 = (z : Int) := ⟨(1 + v0).toNat, by omega⟩
    have hz2 : 1 ≤ z ∧ z ≤ 4 := by omega
    rw [hz]
    walk_at "fl.w"
    rw [show ((z : Nat) : Int).toNat = z by omega]
    have al0 := hS.fr o0.fr (.cons k0.hd .nil)
    refine lcGf (S := S) intsD [d] (Dw d) (fun i rs => rs.length = i ∧ ∀ c, c ∈ rs → c.length = n ∧ ∀ x, x ∈ c → 0 ≤ x ∧ x < z) al0 one k0 ⟨rfl, fun _ m => nomatch m⟩ (by omega) (fun H k => .cons k.hd .nil) (fun D H o e k => k.put (k0.ned e)) ?_ ?_
    · intro D i G1 rs hD hi hAl hkG _ hpr R N hR hN
      refine ⟨rfl, ?_⟩
      have one2 : ∀ b, b ∈ [d] → b ∈ D :: S := fun b m => List.mem_cons_of_mem _ (one b m)
      walk_at "fl.w"
      rw [show ((n : Nat) : Int).toNat = n by omega]
      refine lcGf (S := D :: S) PyData.int [d] (Dw d) (fun i rs => rs.length = i ∧ ∀ x, x ∈ rs → 0 ≤ x ∧ x < z) hAl one2 hkG ⟨rfl, fun _ m => nomatch m⟩ (by omega) (fun H k => .cons k.hd .nil) (fun D H o e k => k.put (hkG.ned e)) ?_ ?_
      · intro D2 i2 G2 rs2 hD2 hi2 hAl2 hkG2 _ hpr2 R2 N2 hR2 hN2
        refine ⟨rfl, ?_⟩
        walk_at "fl.w"
        rename_i v2 G3 v02 v12 k2 o2
        refine hR2 _ _ _ o2.fr k2 (.int _) ⟨by rw [List.length_append, hpr2.1]; rfl, fun x m => ?_⟩
        rcases List.mem_append.mp m with m | m
        · exact hpr2.2 x m
        · rw [show x = v2 by simpa using m]
          omega
      · intro D2 G2 rs2 f2 k2 hD2 dD2 hl2 hpr2
        refine hR _ _ rs2 f2 k2 dD2 ⟨by rw [List.length_append, hpr.1]; rfl, fun c m => ?_⟩
        rcases List.mem_append.mp m with m | m
        · exact hpr.2 c m
        · rw [show c = rs2 by simpa using m]
          exact hpr2
    · intro D1 G1 rows f1 k1 hD1 dD1 hl1 hpr1
      have al1 := al0.fr f1 (.cons k1.hd .nil)
      walk_at "fl.w"
      rw [show ((z : Nat) : Int).toNat = z by omega]
      refine lcGf (S := S) intsD [d] (Dw d) (fun i rs => rs.length = i ∧ ∀ c, c ∈ rs → c.length ≤ m ∧ UpTo m c) al1 one k1 ⟨rfl, fun _ m => nomatch m⟩ (by omega) (fun H k => .cons k.hd .nil) (fun D H o e k => k.put (k1.ned e)) ?_ ?_
      · intro D i G2 rs hD hi hAl hkG _ hpr R N hR hN
        refine ⟨rfl, ?_⟩
        have one2 : ∀ b, b ∈ [d] → b ∈ D :: S := fun b m => List.mem_cons_of_mem _ (one b m)
        walk_at "fl.w"
        rw [show ((m : Nat) : Int).toNat = m by omega]
        refine lcGf (S := D :: S) PyData.int [d] (Dw d) (fun i rs => UpTo (i : Int) rs) hAl one2 hkG (fun i g e => by simp at e) (by omega) (fun H k => .cons k.hd .nil) (fun D H o e k => k.put (hkG.ned e)) ?_ ?_
        · intro D2 i2 G2 rs2 hD2 hi2 hAl2 hkG2 _ hpr2 R2 N2 hR2 hN2
          refine ⟨rfl, ?_⟩
          walk_at "fl.w"
          rename_i v2 G3 v02 v12 k2 o2
          refine g_ite (fun _ => ?_) (fun _ => ?_)
          · walk_at "fl.w"
            exact hR2 _ _ _ o2.fr k2 (.int _) (by rw [show (0 : Int) + (i2 : Int) = (i2 : Int) by omega, show ((i2 + 1 : Nat) : Int) = (i2 : Int) + 1 by omega]; exact upto_snoc hpr2 (by omega))
          · exact hN2 _ o2.fr k2 (upto_mono hpr2 (by omega))
        · intro D2 G2 rs2 f2 k2 hD2 dD2 hl2 hpr2
          refine hR _ _ rs2 f2 k2 dD2 ⟨by rw [List.length_append, hpr.1]; rfl, fun c mc => ?_⟩
          rcases List.mem_append.mp mc with mc | mc
          · exact hpr.2 c mc
          · rw [show c = rs2 by simpa using mc]
            exact ⟨hl2, hpr2⟩
      · intro D2 G2 met f2 k2 hD2 dD2 hl2 hpr2
        have al2 := al1.fr f2 (.cons k2.hd .nil)
        walk_at "fl.w"
        rename_i p hp
        refine q p _ (rows, met) (((o0.fr.trans f1).trans f2).trans (Fr.new hp)) (k2.newH hp) (.newT al2 hp (.cons (dD1.fr (f2.mono one)) (.cons dD2 .nil))) ⟨?_, ?_, ?_, ?_⟩ ?_
        · show 1 ≤ rows.length ∧ rows.length ≤ 8
          omega
        · show met.length = rows.length
          omega
        · intro r mr
          obtain ⟨e1, e2⟩ := hpr1.2 r mr
          refine ⟨e1, fun x mx => ?_⟩
          have := e2 x mx
          show 0 ≤ x ∧ x < (rows.length : Nat)
          omega
        · intro r mr
          obtain ⟨e1, e2⟩ := hpr2.2 r mr
          exact ⟨by omega, e2⟩
        · show rows.length ≤ 4
          omega
def spWds : Sp := fun vs H Q _ => ∃ (S : List Addr) (d : Addr) (n : Nat), vs = [.ref d, .int (n : Int)] ∧ Al S H ∧ d ∈ S ∧ Dw d H ∧ 0 < n ∧ n ≤ 60 ∧ ∀ t H' ws, Fl.Fr [d] H H' → Dw d H' → Dq S H' (.ref t) (setsD ws) → ws.length = 10 → (∀ w, w ∈ ws → w.length ≤ 6 ∧ ∀ g, g ∈ w → 0 ≤ g ∧ g < n) → Q (.ref t) H'
theorem ok_law_words (T : Txt K mg) : Has P w K mg base 2 "_law_words" ps_law_words spWds := by
  have h_law_take := ok_law_take (P := P) (w := w) (base := base) T
  refine has_of T.d_law_words sc_law_words bd_law_words (fun vs H Q E h => ?_) (fun f cdv A outer s H vs Q E hr h => ?_)
  · obtain ⟨S, d, n, rfl, _⟩ := h
    rfl
  · obtain ⟨S, d, n, rfl, hS, hd, hk, hn, hn2, q⟩ := h
    have one : ∀ b, b ∈ [d] → b ∈ S := fun b m => by rw [show b = d by simpa using m]; exact hd
    refine ⟨_, (pss_cons (ps_set (i := 2) sc_law_words.nd rfl (.inl rfl) (pe_lst (pa_cons (pe_lst pa_nil) pa_nil)))
      (pss_cons (ps_for PassesOwn.never rfl (pi_range1 (by rfl) T.z_range (pa_cons pe_int pa_nil)) (pg_name (i := 3) sc_law_words.nd rfl (.inl rfl))
        (pss_one (ps_expr (pe_bm PySem.F.plainAttrs_list PySem.F.slot_list_append PySem.F.type_list_append mt_append (pv 2) (pa_cons (pe_lc (own := [("j", 4)]) rfl sc_law_words.nd (pi_range1 (by rfl) T.z_range (pa_cons (pe_h h_law_take (hr.mono (by decide)) (pa_cons (pv 0) (pa_cons pe_int pa_nil))) pa_nil)) (blkOk_by (by kernel_rfl)) (fun _ _ _ _ _ => (pg_name (i := 4) sc_law_words.nd rfl (.inl rfl))) (fun _ _ _ _ _ => pts_nil) (fun _ _ _ _ _ => (pe_h h_law_take (hr.mono (by decide)) (pa_cons (pv 0) (pa_cons (pv 1) pa_nil))))) pa_nil)))))
      (pss_one (ps_ret (pv 2))))), ?_⟩
    walk_at "fl.w"
    rename_i e he W hW
    have s1 : Same H (upd H e (.lst [])) := Fl.Same.new he
    have s2 : Same H (upd (upd H e (.lst [])) W (.lst [.ref e])) := s1.trans (Fl.Same.new hW)
    have k1 : Dw d (upd (upd H e (.lst [])) W (.lst [.ref e])) := (hk.newH he).newH hW
    have nWd : W ≠ d := (hk.newH he).ned hW
    have hWS : W ∉ S := (hS.same s1).ni hW
    have heW : e ≠ W := fun z => by rw [← z, upd_same] at hW; cases hW
    have d0 : DqA (W :: S) (upd (upd H e (.lst [])) W (.lst [.ref e])) [.ref e] [intsD []] := .one (.lst (fun m => by
      rcases List.mem_cons.mp m with z | m
      · exact heW z
      · exact hS.ni he m) (by rw [upd_ne heW]; exact upd_same) .nil)
    have hW1 : (upd (upd H e (.lst [])) W (.lst [.ref e])) W = some (.lst [.ref e]) := upd_same
    have al1 := hS.same s2
    have hWn : H W = none := Same.free s1 hW
    generalize upd (upd H e (.lst [])) W (.lst [.ref e]) = H1 at s2 k1 d0 hW1 al1 ⊢
    have hdW : d ∈ W :: S := List.mem_cons_of_mem _ hd
    have oneW : ∀ b, b ∈ [d] → b ∈ W :: S := fun b m => List.mem_cons_of_mem _ (one b m)
    refine forK_r (fun i σ' H' => (∃ u3, σ' = [some (.ref d), some (.int (n : Int)), some (.ref W), u3, none]) ∧ Fl.Fr [W, d] H1 H' ∧ Dw d H' ∧ ∃ (acc : List V) (ws : List (List Int)), H' W = some (.lst acc) ∧ DqA (W :: S) H' acc (ws.map intsD) ∧ ws.length = i + 1 ∧ ∀ w, w ∈ ws → w.length ≤ 6 ∧ ∀ g, g ∈ w → 0 ≤ g ∧ g < n) ?_ ?_ ?_
    · exact ⟨⟨none, rfl⟩, Fr.refl, k1, [.ref e], [[]], hW1, d0, rfl, fun w m => by rw [show w = [] by simpa using m]; exact ⟨by simp, fun g m => nomatch m⟩⟩
    · intro i σ' G1 hi ⟨⟨u3, e⟩, f1, kG, acc, ws, hacc, hA, hl, hp⟩
      subst e
      have lacc : acc.length = i + 1 := by rw [hA.len, List.length_map, hl]
      have alG : Al (W :: S) G1 := .cons (by rw [hacc]; simp) (al1.fr f1 (.cons (by rw [hacc]; simp) (.cons kG.hd .nil)))
      walk_at "fl.w"
      rename_i v2 G2 v02 v12 k2 o2
      have al2 := alG.fr o2.fr (.cons k2.hd .nil)
      obtain ⟨z, hz⟩ : ∃ z : Nat, v2 = (z : Int) := ⟨v2.toNat, by omega⟩
      subst hz
      rw [show ((z : Nat) : Int).toNat = z by omega]
      refine lcGf (S := W :: S) PyData.int [d] (Dw d) (fun i rs => rs.length = i ∧ ∀ x, x ∈ rs → 0 ≤ x ∧ x < n) al2 oneW k2 ⟨rfl, fun _ m => nomatch m⟩ (by omega) (fun H k => .cons k.hd .nil) (fun D H o e k => k.put (k2.ned e)) ?_ ?_
      · intro D2 i2 G3 rs2 hD2 hi2 hAl2 hkG2 _ hpr2 R2 N2 hR2 hN2
        refine ⟨rfl, ?_⟩
        walk_at "fl.w"
        rename_i v3 G4 v03 v13 k4 o4
        refine hR2 _ _ _ o4.fr k4 (.int _) ⟨by rw [List.length_append, hpr2.1]; rfl, fun x m => ?_⟩
        rcases List.mem_append.mp m with m | m
        · exact hpr2.2 x m
        · rw [show x = v3 by simpa using m]
          omega
      · intro D2 G3 w f3 k3 hD2 dD2 hl2 hpr2
        have fd : Fl.Fr [d] G1 G3 := o2.fr.trans f3
        have hacc3 := fd W _ (by simpa using nWd) hacc
        walk_at "fl.w"
        refine ⟨⟨_, rfl⟩, (f1.trans (fd.mono fun b m => List.mem_cons_of_mem _ m)).trans (Fr.upd (by simp)), k3.put nWd, _, ws ++ [w], upd_same, ?_, by rw [List.length_append, hl]; rfl, fun w' m => ?_⟩
        · rw [List.map_append]
          exact ((hA.fr (fd.mono oneW)).app (.one dD2)).fr (Fr.upd (by simp))
        · rcases List.mem_append.mp m with m | m
          · exact hp w' m
          · rw [show w' = w by simpa using m]
            exact ⟨by omega, hpr2.2⟩
    · intro σ' G1 ⟨⟨u3, e⟩, f1, kG, acc, ws, hacc, hA, hl, hp⟩
      subst e
      walk_at "fl.w"
      refine q W G1 ws (fun b o m e => f1 b o (fun m2 => ?_) (s2 b o e)) kG (.lst hWS hacc hA.tail) hl hp
      rcases List.mem_cons.mp m2 with rfl | m2
      · rw [hWn] at e; cases e
      · exact m m2
def spBr : Sp := fun vs H Q _ => ∃ (S : List Addr) (d : Addr) (v : V) (s : Sd) (n m : Nat), vs = [.ref d, v] ∧ Al S H ∧ d ∈ S ∧ Dw d H ∧ Dq S H v (sdD s) ∧ SdOk n m s ∧ 1 ≤ n ∧ n ≤ 60 ∧ m ≤ 12 ∧ ∀ t H' s', Fl.Fr [d] H H' → Dw d H' → Dq S H' (.ref t) (sdD s') → SdZ s' → sfV n m s' = false → Q (.ref t) H'
theorem ok_law_broken (T : Txt K mg) : Has P w K mg base 2 "_law_broken" ps_law_broken spBr := by
  have h_law_take := ok_law_take (P := P) (w := w) (base := base) T
  refine has_of T.d_law_broken sc_law_broken bd_law_broken (fun vs H Q E h => ?_) (fun f cdv A outer s H vs Q E hr h => ?_)
  · obtain ⟨S, d, v, s, n, m, rfl, _⟩ := h
    rfl
  · obtain ⟨S, d, v, sd, n, m, rfl, hS, hd, hk, hv, sok, hn1, hn2, hm, q⟩ := h
    have one : ∀ b, b ∈ [d] → b ∈ S := fun b m => by rw [show b = d by simpa using m]; exact hd
    obtain ⟨t, R0, M0, rs0, ms0, rfl, nt, rt, rR0, rM0, d10, d20, hR0, hM0⟩ := sdE hv
    have l1 := sok.r
    have l2 := sok.m
    refine ⟨_, (pss_cons (ps_par (i := 2) (j := 3) (by rfl) sc_law_broken.nd rfl rfl (by decide) rfl rfl (pa_cons (pe_lc (own := [("one", 6)]) rfl sc_law_broken.nd (piL (K := K) rfl (pe_ix (ixT (K := K) rfl) (pv 1) pe_int (fun _ _ => rfl))) (blkOk_by (by kernel_rfl)) (fun _ _ _ _ _ => (pg_name (i := 6) sc_law_broken.nd rfl (.inl rfl))) (fun _ _ _ _ _ => pts_nil) (fun _ _ _ _ _ => (pe_callTy (clList (K := K) rfl) (by rfl) T.z_list (by decide +kernel) (pa_cons (pv 6) pa_nil)))) (pa_cons (pe_lc (own := [("one", 6)]) rfl sc_law_broken.nd (piL (K := K) rfl (pe_ix (ixT (K := K) rfl) (pv 1) pe_int (fun _ _ => rfl))) (blkOk_by (by kernel_rfl)) (fun _ _ _ _ _ => (pg_name (i := 6) sc_law_broken.nd rfl (.inl rfl))) (fun _ _ _ _ _ => pts_nil) (fun _ _ _ _ _ => (pe_callTy (clList (K := K) rfl) (by rfl) T.z_list (by decide +kernel) (pa_cons (pv 6) pa_nil)))) pa_nil)) (by rfl))
      (pss_cons (ps_set (i := 4) sc_law_broken.nd rfl (.inl rfl) (pe_h h_law_take (hr.mono (by decide)) (pa_cons (pv 0) (pa_cons (pe_callB (clLen (K := K) rfl) (by rfl) T.z_len (by decide +kernel) (pa_cons (pv 2) pa_nil)) pa_nil))))
      (pss_cons (ps_set (i := 5) sc_law_broken.nd rfl (.inl rfl) (pe_h h_law_take (hr.mono (by decide)) (pa_cons (pv 0) (pa_cons pe_int pa_nil))))
      (pss_cons (ps_if (pt_cmpR op_eq (pv 5) pe_int (nomark _))
        (pss_one (ps_asg (pe_callB (clLen (K := K) rfl) (by rfl) T.z_len (by decide +kernel) (pa_cons (pv 2) pa_nil)) (pg_sub (pe_ix (ixL (K := K) rfl) (pv 2) (pv 4) (fun _ _ => rfl)) pe_int set_list)))
        pss_nil)
      (pss_cons (ps_if (pt_cmpR op_eq (pv 5) pe_int (nomark _))
        (pss_one (ps_asg (pe_slice (slL' (K := K) rfl) (pe_ix (ixL (K := K) rfl) (pv 2) (pv 4) (fun _ _ => rfl)) (po_some pe_int) po_none) (pg_sub (pv 2) (pv 4) set_list)))
        pss_nil)
      (pss_cons (ps_if (pt_cmpR op_eq (pv 5) pe_int (nomark _))
        (pss_one (ps_asg (pe_op op_cat (pe_ix (ixL (K := K) rfl) (pv 3) (pv 4) (fun _ _ => rfl)) (pe_lst (pa_cons pe_int pa_nil))) (pg_sub (pv 3) (pv 4) set_list)))
        pss_nil)
      (pss_cons (ps_if (pt_cmpR op_eq (pv 5) pe_int (nomark _))
        (pss_one (ps_set (i := 3) sc_law_broken.nd rfl (.inl rfl) (pe_op op_cat (pv 3) (pe_lst (pa_cons (pe_lst pa_nil) pa_nil)))))
        pss_nil)
      (pss_cons (ps_if (pt_cmpR op_eq (pv 5) pe_int (nomark _))
        (pss_one (ps_par (i := 2) (j := 3) (by rfl) sc_law_broken.nd rfl rfl (by decide) rfl rfl (pa_cons (pe_lst pa_nil) (pa_cons (pe_lst pa_nil) pa_nil)) (by rfl)))
        pss_nil)
      (pss_cons (ps_if (pt_cmpR op_eq (pv 5) pe_int (nomark _))
        (pss_one (ps_asg (pe_lst (pa_cons pe_int (pa_cons pe_int pa_nil))) (pg_sub (pv 3) (pv 4) set_list)))
        pss_nil)
      (pss_cons (ps_if (pt_cmpR op_eq (pv 5) pe_int (nomark _))
        (pss_one (ps_asg (pe_un un_neg pe_int) (pg_sub (pe_ix (ixL (K := K) rfl) (pv 2) (pv 4) (fun _ _ => rfl)) pe_int set_list)))
        pss_nil)
      (pss_one (ps_ret (pe_tup (pa_cons (pv 2) (pa_cons (pv 3) pa_nil))))))))))))))), ?_⟩
    walk_at "fl.w"
    refine lcNs (S := S) (es := sd.1) hS d10 (by omega) ?_ ?_
    · intro D x e H2 dx al R' hR'
      refine g_name ⟨rfl, ?_⟩
      obtain ⟨cb, cs', rfl, ncb, rcb, hC⟩ := dx.lstE
      obtain rfl := ints_of hC
      walk_at "fl.w"
      rename_i p hp
      exact hR' p hp
    intro R H1 ras sm1 hRn hR1 A1 fr1
    have alR : Al (R :: S) H1 := .cons (by rw [hR1]; simp) (hS.same sm1)
    have al1 := A1.al alR
    have dR1 : Dq S H1 (.ref R) (setsD sd.1) := .lst (hS.ni hRn) hR1 A1.dq.tail
    have rt1 := sm1 _ _ rt
    have rM1 := sm1 _ _ rM0
    have d21 := d20.same sm1
    walk_at "fl.w"
    refine lcNs (S := ras ++ R :: S) (es := sd.2) al1 d21 (by omega) ?_ ?_
    · intro D x e H2 dx al R' hR'
      refine g_name ⟨rfl, ?_⟩
      obtain ⟨cb, cs', rfl, ncb, rcb, hC⟩ := dx.lstE
      obtain rfl := ints_of hC
      walk_at "fl.w"
      rename_i p hp
      exact hR' p hp
    intro M H2 mas sm2 hMn hM2 B2 fr2
    have A2 := A1.same sm2
    have hR2 := sm2 _ _ hR1
    have dR2 : Dq (M :: S) H2 (.ref R) (setsD sd.1) := (dR1.new hMn).same sm2
    have dM2 : Dq (ras ++ R :: S) H2 (.ref M) (setsD sd.2) := .lst (al1.ni hMn) hM2 B2.dq.tail
    have al2 := al1.same sm2
    have hk2 : Dw d H2 := by obtain ⟨zs, z1, z2⟩ := hk; exact ⟨zs, sm2 _ _ (sm1 _ _ z1), z2⟩
    have sH2 := sm1.trans sm2
    have hMn0 : H M = none := Same.free sm1 hMn
    have lras : ras.length = sd.1.length := A2.l
    have lmas : mas.length = sd.2.length := B2.l
    have ndr : d ∉ ras := fun m => A2.s d m (List.mem_cons_of_mem _ hd)
    have ndm : d ∉ mas := fun m => B2.s d m (List.mem_cons_of_mem _ (List.mem_append_right _ (List.mem_cons_of_mem _ hd)))
    clear A1 hR1 dR1 alR al1 rt1 rM1 d21 rt rR0 rM0 d10 d20 hR0 hM0 sm1 sm2 hv
    walk_at "fl.w"
    have lmr : (ras.map V.ref).length = sd.1.length := by rw [List.length_map]; exact lras
    have lmm : (mas.map V.ref).length = sd.1.length := by rw [List.length_map]; omega
    refine ⟨_, _, rfl, ?_⟩
    walk_at "fl.w"
    rename_i vk G3 vk0 vk1 k3 o3 vt G4 vt0 vt1 k4 o4
    have fd : Fl.Fr [d] H2 G4 := o3.fr.trans o4.fr
    have hRd : R ≠ d := hk.ned hRn
    have hMd : M ≠ d := hk.ned hMn0
    have A4 := A2.fr fd (fun a m => by rw [show a = d by simpa using m]; exact ndr)
    have B4 := B2.fr fd (fun a m => by rw [show a = d by simpa using m]; exact ndm)
    have hR4 := fd R _ (by simpa using hRd) hR2
    have hM4 := fd M _ (by simpa using hMd) hM2
    have dR4 : Dq (M :: S) G4 (.ref R) (setsD sd.1) := dR2.fr (fd.mono fun b m => List.mem_cons_of_mem _ (one b m))
    have dM4 : Dq (ras ++ R :: S) G4 (.ref M) (setsD sd.2) := dM2.fr (fd.mono fun b m => List.mem_append_right _ (List.mem_cons_of_mem _ (one b m)))
    have frH : Fl.Fr [d] H G4 := (Fr.same sH2).trans fd
    have al4 : Al S G4 := hS.fr frH (.cons k4.hd .nil)
    have fin : ∀ (R' M' : Addr) (H' : Hp) (s' : Sd), Fl.Fr [d] H H' → Dw d H' → Al S H' → Dq S H' (.ref R') (setsD s'.1) → Dq S H' (.ref M') (setsD s'.2) → SdZ s' → sfV n m s' = false → ∀ p, H' p = none → Q (.ref p) (upd H' p (.tup [.ref R', .ref M'])) := fun R' M' H' s' f k al a b z e p hp =>
      q p _ s' (f.trans (Fr.new hp)) (k.newH hp) (.newT al hp (.cons a (.cons b .nil))) z e
    clear q
    have hrk : sd.1[vk.toNat]? = some sd.1[vk.toNat] := List.getElem?_eq_getElem (by omega)
    generalize sd.1[vk.toNat] = r at hrk
    have hrak : ras[vk.toNat]? = some ras[vk.toNat] := List.getElem?_eq_getElem (by omega)
    generalize ras[vk.toNat] = ra at hrak
    have hck : sd.2[vk.toNat]? = some sd.2[vk.toNat] := List.getElem?_eq_getElem (by omega)
    generalize sd.2[vk.toNat] = c at hck
    have hcak : mas[vk.toNat]? = some mas[vk.toNat] := List.getElem?_eq_getElem (by omega)
    generalize mas[vk.toNat] = ca at hcak
    have hra4 := A4.d _ _ _ hrak hrk
    have hca4 := B4.d _ _ _ hcak hck
    have axr : atI (ras.map V.ref) vk = some (.ref ra) := by
      have : atI (ras.map V.ref) ((vk.toNat : Nat) : Int) = some (.ref ra) := atI_nat (by rw [List.getElem?_map, hrak]; rfl)
      rw [show ((vk.toNat : Nat) : Int) = vk by omega] at this
      exact this
    have axc : atI (mas.map V.ref) vk = some (.ref ca) := by
      have : atI (mas.map V.ref) ((vk.toNat : Nat) : Int) = some (.ref ca) := atI_nat (by rw [List.getElem?_map, hcak]; rfl)
      rw [show ((vk.toNat : Nat) : Int) = vk by omega] at this
      exact this
    have hran : H ra = none := fr1 ra (List.mem_of_getElem? hrak)
    obtain ⟨rok1, rok2⟩ := sok.rr r (List.mem_of_getElem? hrk)
    obtain ⟨cok1, cok2⟩ := sok.mm c (List.mem_of_getElem? hck)
    have zz : SdZ sd := sok.z (by omega)
    have hrad : ra ≠ d := fun e => ndr (e ▸ List.mem_of_getElem? hrak)
    have raS : ra ∉ S := fun m => A4.s ra (List.mem_of_getElem? hrak) (List.mem_cons_of_mem _ m)
    have RS : R ∉ S := hS.ni hRn
    have MS : M ∉ S := hS.ni hMn0
    have lrk : vk < ((ras.map V.ref).length : Nat) := by omega
    have lmk : vk < ((mas.map V.ref).length : Nat) := by omega
    -- a number put into a row
    have put0 : ∀ x : Int, ¬ (0 ≤ x ∧ x < sd.1.length) → ∀ p, (upd G4 ra (.lst ((r.map V.int).set 0 (.int x)))) p = none → Q (.ref p) (upd (upd G4 ra (.lst ((r.map V.int).set 0 (.int x)))) p (.tup [.ref R, .ref M])) := fun x hx p hp => by
      have e : (r.map V.int).set 0 (.int x) = (r.set 0 x).map V.int := by rw [List.map_set]
      rw [e] at hp ⊢
      have A5 := A4.set (r0 := r) hrak (r.set 0 x)
      have hR5 : (upd G4 ra (.lst ((r.set 0 x).map V.int))) R = some (.lst (ras.map V.ref)) := by
        rw [upd_ne fun z => A4.s ra (List.mem_of_getElem? hrak) (by rw [← z]; simp)]
        exact hR4
      have fu : Fl.Fr (ras ++ R :: S) G4 (upd G4 ra (.lst ((r.set 0 x).map V.int))) := Fr.upd (List.mem_append_left _ (List.mem_of_getElem? hrak))
      refine fin R M _ (sd.1.set vk.toNat (r.set 0 x), sd.2) (frN frH hran) (k4.put hrad) (hS.fr (frN frH hran) (.cons (k4.put hrad).hd .nil)) (.lst RS hR5 A5.dq.tail) ((dM4.fr fu).mono fun b m => List.mem_append_right _ (List.mem_cons_of_mem _ m)) ⟨?_, zz.m, set_z zz.rr (by rw [List.length_set]; omega), zz.mm⟩ (sf_bad hrk (by omega) hx) p hp
      show (sd.1.set _ _).length < 900
      rw [List.length_set]
      exact zz.r
    have alM : Al (M :: (ras ++ R :: S)) G4 := .cons (by rw [hM4]; simp) (A4.al (.cons (by rw [hR4]; simp) al4))
    -- a row put into the rules met
    have putM : ∀ (c1 : List Int) (p1 : Addr) (H5 : Hp), Same G4 H5 → Dw d H5 → H5 p1 = some (.lst (c1.map V.int)) → p1 ∉ M :: (ras ++ R :: S) → c1.length < 900 → riV m (-1) c1 = false →
        ∀ p, (upd H5 M (.lst ((mas.map V.ref).set vk.toNat (.ref p1)))) p = none → Q (.ref p) (upd (upd H5 M (.lst ((mas.map V.ref).set vk.toNat (.ref p1)))) p (.tup [.ref R, .ref M])) := fun c1 p1 H5 s5 k5 h1 hn hz hri p hp => by
      have fu : Fl.Fr (M :: (ras ++ R :: S)) H5 (upd H5 M (.lst ((mas.map V.ref).set vk.toNat (.ref p1)))) := Fr.upd (by simp)
      have fu2 : Fl.Fr (M :: S) H5 (upd H5 M (.lst ((mas.map V.ref).set vk.toNat (.ref p1)))) := Fr.upd (by simp)
      have dA : DqA (M :: (ras ++ R :: S)) H5 ((mas.map V.ref).set vk.toNat (.ref p1)) ((sd.2.set vk.toNat c1).map intsD) := by
        rw [List.map_set]
        exact DqA_set (.lst hn h1 (ints_dq c1)) vk.toNat (B4.dq.same s5)
      refine fin R M _ (sd.1, sd.2.set vk.toNat c1) (frN (frH.trans (Fr.same s5)) hMn0) (k5.put hMd) (hS.fr (frN (frH.trans (Fr.same s5)) hMn0) (.cons (k5.put hMd).hd .nil)) (((dR4.same s5).fr fu2).mono fun b m => List.mem_cons_of_mem _ m) (.lst MS upd_same ((dA.fr fu).mono fun b m => List.mem_cons_of_mem _ (List.mem_append_right _ (List.mem_cons_of_mem _ m)))) ⟨zz.r, ?_, zz.rr, set_z zz.mm hz⟩ (sf_met (set_mem hck) hri) p hp
      show (sd.2.set _ _).length < 900
      rw [List.length_set]
      exact zz.m
    rcases (by omega : vt = 0 ∨ vt = 1 ∨ vt = 2 ∨ vt = 3 ∨ vt = 4 ∨ vt = 5 ∨ vt = 6) with rfl | rfl | rfl | rfl | rfl | rfl | rfl
    · walk_at "fl.w"
      refine g_setL hra4 (ix_int (Int.le_refl 0) (by rw [List.length_map]; omega)) ?_
      walk_at "fl.w"
      rename_i p hp
      exact put0 _ (by omega) p hp
    · walk_at "fl.w"
      rename_i p1 hp1
      have e1 : List.drop 1 (r.map V.int) = (r.drop 1).map V.int := by rw [List.map_drop]
      rw [e1]
      have s5 : Same G4 (upd G4 p1 (.lst ((r.drop 1).map V.int))) := Fl.Same.new hp1
      have k5 : Dw d (upd G4 p1 (.lst ((r.drop 1).map V.int))) := k4.newH hp1
      have alR : Al (R :: S) G4 := .cons (by rw [hR4]; simp) al4
      have dp1 : Dq (R :: S) (upd G4 p1 (.lst ((r.drop 1).map V.int))) (.ref p1) (intsD (r.drop 1)) := Dq.newL alR hp1 (ints_dq _)
      have hR5 := s5 _ _ hR4
      generalize upd G4 p1 (.lst ((r.drop 1).map V.int)) = H5 at s5 k5 dp1 hR5 ⊢
      refine g_setL hR5 (ix_int vk0 lrk) ?_
      walk_at "fl.w"
      rename_i p hp
      have fu : Fl.Fr (ras ++ R :: S) H5 (upd H5 R (.lst ((ras.map V.ref).set vk.toNat (.ref p1)))) := Fr.upd (by simp)
      have fu2 : Fl.Fr (R :: S) H5 (upd H5 R (.lst ((ras.map V.ref).set vk.toNat (.ref p1)))) := Fr.upd (by simp)
      have dA : DqA (R :: S) H5 ((ras.map V.ref).set vk.toNat (.ref p1)) ((sd.1.set vk.toNat (r.drop 1)).map intsD) := by
        rw [List.map_set]
        exact DqA_set dp1 vk.toNat (A4.dq.same s5)
      refine fin R M _ (sd.1.set vk.toNat (r.drop 1), sd.2) (frN (frH.trans (Fr.same s5)) hRn) (k5.put hRd) (hS.fr (frN (frH.trans (Fr.same s5)) hRn) (.cons (k5.put hRd).hd .nil)) (.lst RS upd_same (dA.fr fu2).tail) (((dM4.same s5).fr fu).mono fun b m => List.mem_append_right _ (List.mem_cons_of_mem _ m)) ⟨?_, zz.m, set_z zz.rr (by rw [List.length_drop]; omega), zz.mm⟩ (sf_row (set_mem hrk) ?_) p hp
      · show (sd.1.set _ _).length < 900
        rw [List.length_set]
        exact zz.r
      · rw [decide_eq_false (by rw [List.length_drop]; omega), Bool.false_and]
    · walk_at "fl.w"
      rename_i p1 hp1 p2 hp2
      have e1 : c.map V.int ++ [V.int 40] = (c ++ [40]).map V.int := by rw [List.map_append]; rfl
      rw [e1] at *
      have s4 : Same G4 (upd G4 p1 (.lst [.int 40])) := Fl.Same.new hp1
      have s5 : Same G4 (upd (upd G4 p1 (.lst [.int 40])) p2 (.lst ((c ++ [40]).map V.int))) := s4.trans (Fl.Same.new hp2)
      have k5 : Dw d (upd (upd G4 p1 (.lst [.int 40])) p2 (.lst ((c ++ [40]).map V.int))) := (k4.newH hp1).newH hp2
      have hM5 := s5 _ _ hM4
      have hn := (alM.same s4).ni hp2
      have h1 : (upd (upd G4 p1 (.lst [.int 40])) p2 (.lst ((c ++ [40]).map V.int))) p2 = some (.lst ((c ++ [40]).map V.int)) := upd_same
      generalize upd (upd G4 p1 (.lst [.int 40])) p2 (.lst ((c ++ [40]).map V.int)) = H5 at s5 k5 hM5 h1 ⊢
      refine g_setL hM5 (ix_int vk0 lmk) ?_
      walk_at "fl.w"
      rename_i p hp
      refine putM (c ++ [40]) p2 H5 s5 k5 h1 hn (by rw [List.length_append, List.length_singleton]; omega) (ri_no fun u => ?_) p hp
      have := (u c.length 40 (by rw [List.getElem?_append_right (Nat.le_refl _), Nat.sub_self]; rfl)).2
      omega
    · walk_at "fl.w"
      rename_i e he l1 hl1 M' hM' _ _ _ p hp
      have s1 : Same G4 (upd G4 e (.lst [])) := Fl.Same.new he
      have s2 := s1.trans (Fl.Same.new (o := .lst [.ref e]) hl1)
      have s3 := s2.trans (Fl.Same.new (o := .lst (mas.map V.ref ++ [.ref e])) hM')
      have de : Dq S (upd G4 e (.lst [])) (.ref e) (intsD []) := Dq.newL al4 he .nil
      have dB : DqA S G4 (mas.map V.ref) (sd.2.map intsD) := B4.dq.mono fun b m => List.mem_cons_of_mem _ (List.mem_append_right _ (List.mem_cons_of_mem _ m))
      refine fin R M' _ (sd.1, sd.2 ++ [[]]) (frH.trans (Fr.same s3)) (((k4.newH he).newH hl1).newH hM') (al4.same s3) ((dR4.same s3).mono fun b m => List.mem_cons_of_mem _ m) ?_ ⟨zz.r, ?_, zz.rr, fun x m => ?_⟩ (sf_len fun h => ?_) p hp
      · show Dq S _ (.ref M') (.list ((sd.2 ++ [[]]).map intsD))
        rw [List.map_append]
        exact Dq.newL (al4.same s2) hM' ((dB.same s2).app (.one (de.same (Fl.Same.new hl1))))
      · show (sd.2 ++ [[]]).length < 900
        rw [List.length_append, List.length_singleton]
        omega
      · rcases List.mem_append.mp m with m | m
        · exact zz.mm x m
        · rw [show x = [] by simpa using m]
          decide
      · have := h.1
        have e9 : ((sd.2 ++ [[]]) : List (List Int)).length = sd.2.length + 1 := by simp
        have : sd.1.length = ((sd.2 ++ [[]]) : List (List Int)).length := this
        omega
    · walk_at "fl.w"
      rename_i R' hR' M' hM'
      refine ⟨_, _, rfl, ?_⟩
      walk_at "fl.w"
      rename_i p hp
      have s1 : Same G4 (upd G4 R' (.lst [])) := Fl.Same.new hR'
      have s2 := s1.trans (Fl.Same.new (o := .lst []) hM')
      exact fin R' M' _ ([], []) (frH.trans (Fr.same s2)) ((k4.newH hR').newH hM') (al4.same s2) ((show Dq S (upd G4 R' (.lst [])) (.ref R') (setsD []) from Dq.newL al4 hR' .nil).same (Fl.Same.new hM')) (Dq.newL (al4.same s1) hM' .nil) ⟨by decide, by decide, fun _ m => (nomatch m), fun _ m => (nomatch m)⟩ (sf_len fun h => h.2 rfl) p hp
    · walk_at "fl.w"
      rename_i p1 hp1
      have s5 : Same G4 (upd G4 p1 (.lst [.int 0, .int 0])) := Fl.Same.new hp1
      have k5 : Dw d (upd G4 p1 (.lst [.int 0, .int 0])) := k4.newH hp1
      have hM5 := s5 _ _ hM4
      have hn := alM.ni hp1
      have h1 : (upd G4 p1 (.lst [.int 0, .int 0])) p1 = some (.lst (([0, 0] : List Int).map V.int)) := upd_same
      generalize upd G4 p1 (.lst [.int 0, .int 0]) = H5 at s5 k5 hM5 h1 ⊢
      refine g_setL hM5 (ix_int vk0 lmk) ?_
      walk_at "fl.w"
      rename_i p hp
      refine putM [0, 0] p1 H5 s5 k5 h1 hn (by decide) (ri_no fun u => ?_) p hp
      have := (u 1 0 rfl).1
      simp [prv] at this
    · walk_at "fl.w"
      refine g_setL hra4 (ix_int (Int.le_refl 0) (by rw [List.length_map]; omega)) ?_
      walk_at "fl.w"
      rename_i p hp
      exact put0 _ (by omega) p hp
end

section
theorem ly_set (c : List Int) : (intsD c).canLay0 = true ∧ (intsD c).depth ≤ 1 := sh_tu (n := 0) (fun d m => by
  obtain ⟨x, _, rfl⟩ := List.mem_map.mp m
  simp [PyData.canLay0, PyData.depth]) (by decide)
theorem ly_sets (l : List (List Int)) : (setsD l).canLay0 = true ∧ (setsD l).depth ≤ 2 := sh_tu (n := 1) (fun d m => by
  obtain ⟨x, _, rfl⟩ := List.mem_map.mp m
  exact ly_set x) (by decide)
theorem sh_pats (ps : List (List (List Int))) : SeqAt.shaped (ptsD ps) = true := sh_list (n := 2) (fun d m => by
  obtain ⟨x, _, rfl⟩ := List.mem_map.mp m
  exact ly_sets x) (by decide)
theorem sh_sd (s : Sd) : SeqAt.shaped (sdD s) = true := by
  have h1 := ly_sets s.1
  have h2 := ly_sets s.2
  unfold SeqAt.shaped sdD
  have h3 : (PyData.tuple [setsD s.1, setsD s.2]).depth ≤ 3 := by
    simp only [PyData.depth, PyData.depthAll]
    omega
  have h4 : (PyData.tuple [setsD s.1, setsD s.2]).canLay0 = true := by simp [PyData.canLay0, PyData.canLayAll0, h1.1, h2.1]
  rw [h4, Bool.true_and, decide_eq_true_eq]
  omega
theorem pat_z {f : FoV} {l : Nat} {k : LkV} {nm : Str} (h : f.Ok) (hk : f.lks[l]? = some k) : PtZ (patV nm k) := by
  have kok := h.lo k (List.mem_of_getElem? hk)
  have hg := h.g.2
  refine ⟨by unfold patV; rw [List.length_map]; have := kok.r; omega, fun p m => ?_⟩
  obtain ⟨r, mr, rfl⟩ := List.mem_map.mp (show p ∈ k.rules.map (patR nm) from m)
  have rok := kok.ro r mr
  have z1 := rok.i3.2
  have z2 := rok.a
  have z3 := rok.b
  by_cases e : nm = "fore"
  · have ep : patR nm r = r.inside ++ r.ahead := by unfold patR; rw [if_pos e]
    rw [ep]
    refine ⟨by rw [List.length_append]; omega, fun c mc => ?_⟩
    have : IsSet f.glyphs.length c := rok.s c (by
      rcases List.mem_append.mp mc with m | m
      · simp [m]
      · simp [m])
    have := this.len
    omega
  · have ep : patR nm r = r.back := by unfold patR; rw [if_neg e]
    rw [ep]
    refine ⟨by omega, fun c mc => ?_⟩
    have : IsSet f.glyphs.length c := rok.s c (by simp [mc])
    have := this.len
    omega
end
section
variable {P : Program} {w : World} {K : PySem.W.Frag} {mg : Str → Option Value} {base : Heap}
local macro_rules | `(tactic| walk_at "fl.t") => `(tactic| ((with_reducible apply tk_app); (focus first | assumption | (with_reducible exact Dw.newH (by assumption) (by assumption))); (focus first | assumption | omega); intro _ _ _ _ _ _))
local macro_rules | `(tactic| walk_at "fl.t") => `(tactic| ((with_reducible apply g_appB); (focus walk_at "fl.raw"); (focus first | assumption | walk_at "fl.cz")))
local macro_rules | `(tactic| walk_at "fl.t") => `(tactic| (with_reducible refine g_bm0 ?_))
local macro_rules | `(tactic| walk_at "fl.t") => `(tactic| (with_reducible refine g_chainW ?_))
local macro_rules | `(tactic| walk_at "fl.t") => `(tactic| (with_reducible refine g_gsubR ?_))
local macro_rules | `(tactic| walk_at "fl.t") => `(tactic| (with_reducible refine g_mkP ?_))
local macro_rules | `(tactic| walk_at "fl.t") => `(tactic| (with_reducible refine g_callS ?_))
local macro_rules | `(tactic| walk_at "fl.t") => `(tactic| (with_reducible refine g_ifE ?_))
local macro_rules | `(tactic| walk_at "fl.w") => `(tactic| repeat walk_at "fl.t")
theorem ok_law (T : Txt K mg) (I : InsK K w mg) {f : Addr} {fd : FuncData} (F : Fun K "law" "law" s_law f fd) : FnOk P w K mg base CX0 12 f fd ps_law (spLaw K) := by
  have h_law_take := ok_law_take (P := P) (w := w) (base := base) T
  have h_law_numbers := ok_law_numbers (P := P) (w := w) (base := base) T
  have h_law_world := ok_law_world (P := P) (w := w) (base := base) T
  have h_law_font := ok_law_font (P := P) (w := w) (base := base) T I
  have h_law_drawn_side := ok_law_drawn_side (P := P) (w := w) (base := base) T
  have h_fits := ok_fits (P := P) (w := w) (base := base) T
  have h_law_words := ok_law_words (P := P) (w := w) (base := base) T
  have h_law_patterns := ok_law_patterns (P := P) (w := w) (base := base) T
  have h_patterns := ok_patterns (P := P) (w := w) (base := base) T
  have h_status_after := ok_status_after (P := P) (w := w) (base := base) T
  have h_law_status := ok_law_status (P := P) (w := w) (base := base) T
  have h_next_status := ok_next_status (P := P) (w := w) (base := base) T
  have h_law_state := ok_law_state (P := P) (w := w) (base := base) T
  have h_read := ok_read (P := P) (w := w) (base := base) T
  have h_met_by := ok_met_by (P := P) (w := w) (base := base) T
  have h_law_broken := ok_law_broken (P := P) (w := w) (base := base) T
  have mk_Automaton := mk_Au (P := P) (w := w) (base := base) T
  have clA := T.c_Automaton.cl
  have naA := T.c_Automaton.na
  refine fnok_of F sc_law (fun vs H Q E h => ?_) (fun f cdv A outer s H vs Q E hr h => ?_)
  · obtain ⟨a, ns, rfl, _⟩ := h
    rfl
  obtain ⟨a, ns, rfl, hS, hlen, q⟩ := h
  refine ⟨_, (pss_cons (ps_set (i := 1) sc_law.nd rfl (.inl rfl) (pe_h h_law_numbers (hr.mono (by decide)) (pa_cons (pv 0) (pa_cons pe_int pa_nil))))
      (pss_cons (ps_set (i := 2) sc_law.nd rfl (.inl rfl) (pe_h h_law_world (hr.mono (by decide)) (pa_cons (pv 1) pa_nil)))
      (pss_cons (ps_set (i := 3) sc_law.nd rfl (.inl rfl) (pe_h h_law_font (hr.mono (by decide)) (pa_cons (pe_ix (ixT (K := K) rfl) (pv 2) pe_int (fun _ _ => rfl)) (pa_cons (pe_ix (ixT (K := K) rfl) (pv 2) pe_int (fun _ _ => rfl)) (pa_cons (pe_ix (ixT (K := K) rfl) (pv 2) pe_int (fun _ _ => rfl)) (pa_cons (pe_ix (ixT (K := K) rfl) (pv 2) pe_int (fun _ _ => rfl)) pa_nil))))))
      (pss_cons (ps_set (i := 4) sc_law.nd rfl (.inl rfl) (pe_h h_law_take (hr.mono (by decide)) (pa_cons (pv 1) (pa_cons (pe_callB (clLen (K := K) rfl) (by rfl) T.z_len (by decide +kernel) (pa_cons (pe_ix (ixT (K := K) rfl) (pv 2) pe_int (fun _ _ => rfl)) pa_nil)) pa_nil))))
      (pss_cons (ps_set (i := 5) sc_law.nd rfl (.inl rfl) (pe_callB (clLen (K := K) rfl) (by rfl) T.z_len (by decide +kernel) (pa_cons (pe_ix (ixT (K := K) rfl) (pe_ix (ixL (K := K) rfl) (pe_ix (ixT (K := K) rfl) (pv 2) pe_int (fun _ _ => rfl)) (pv 4) (fun _ _ => rfl)) pe_int (fun _ _ => rfl)) pa_nil)))
      (pss_cons (ps_set (i := 6) sc_law.nd rfl (.inl rfl) (pe_lst (pa_cons (pe_h h_law_drawn_side (hr.mono (by decide)) (pa_cons (pv 1) (pa_cons (pe_ix (ixT (K := K) rfl) (pv 2) pe_int (fun _ _ => rfl)) (pa_cons (pv 5) pa_nil)))) (pa_cons (pe_h h_law_drawn_side (hr.mono (by decide)) (pa_cons (pv 1) (pa_cons (pe_ix (ixT (K := K) rfl) (pv 2) pe_int (fun _ _ => rfl)) (pa_cons (pv 5) pa_nil)))) pa_nil))))
      (pss_cons (ps_set (i := 7) sc_law.nd rfl (.inl rfl) (pe_mkP (mg := mg) rfl mk_Automaton (hr.mono (by decide)) (pa_cons (pe_ix (ixL (K := K) rfl) (pv 6) pe_int (fun _ _ => rfl)) (pa_cons (pe_ix (ixL (K := K) rfl) (pv 6) pe_int (fun _ _ => rfl)) pa_nil))))
      (pss_cons (ps_if (PW.pt (pw_or (pt_cmpR op_isnot_bl (pe_h h_fits (hr.mono (by decide)) (pa_cons (pv 3) (pa_cons (pv 4) (pa_cons (pv 7) pa_nil)))) pe_bl (nomark _)) (pw_or (pt_cmpR (opNeD (K := K) rfl hr.units) (peFld (K := K) rfl (pv 7) rfl) (pe_ix (ixL (K := K) rfl) (pv 6) pe_int (fun _ _ => rfl)) (nomark _)) (pw_or1 (pt_cmpR (opNeD (K := K) rfl hr.units) (peFld (K := K) rfl (pv 7) rfl) (pe_ix (ixL (K := K) rfl) (pv 6) pe_int (fun _ _ => rfl)) (nomark _))))))
        (pss_one (ps_ret pe_bl))
        pss_nil)
      (pss_cons (ps_set (i := 8) sc_law.nd rfl (.inl rfl) (pe_h h_law_words (hr.mono (by decide)) (pa_cons (pv 1) (pa_cons (pe_ix (ixT (K := K) rfl) (pv 2) pe_int (fun _ _ => rfl)) pa_nil))))
      (pss_cons (ps_for PassesOwn.never rfl (pi_range1 (by rfl) T.z_range (pa_cons pe_int pa_nil)) (pg_name (i := 9) sc_law.nd rfl (.inl rfl))
        (pss_cons (ps_set (i := 10) sc_law.nd rfl (.inl rfl) (pe_ix (ixL (K := K) rfl) (pe_lst (pa_cons pe_str (pa_cons pe_str pa_nil))) (pv 9) (fun _ _ => rfl)))
      (pss_cons (ps_set (i := 11) sc_law.nd rfl (.inl rfl) (pe_h h_law_patterns (hr.mono (by decide)) (pa_cons (pv 2) (pa_cons (pv 4) (pa_cons (pv 10) pa_nil)))))
      (pss_cons (ps_if (pt_cmpR (opNeD (K := K) rfl hr.units) (pe_h h_patterns (hr.mono (by decide)) (pa_cons (pv 3) (pa_cons (pv 4) (pa_cons (pv 10) pa_nil)))) (pv 11) (nomark _))
        (pss_one (ps_ret pe_bl))
        pss_nil)
      (pss_one (ps_for PassesOwn.never rfl (piL (K := K) rfl (pv 8)) (pg_name (i := 12) sc_law.nd rfl (.inl rfl))
        (pss_cons (ps_set (i := 13) sc_law.nd rfl (.inl rfl) (pe_h h_status_after (hr.mono (by decide)) (pa_cons (pv 11) (pa_cons (pv 12) pa_nil))))
      (pss_cons (ps_if (pt_cmpR (opNeD (K := K) rfl hr.units) (pv 13) (pe_h h_law_status (hr.mono (by decide)) (pa_cons (pv 11) (pa_cons (pv 12) pa_nil))) (nomark _))
        (pss_one (ps_ret pe_bl))
        pss_nil)
      (pss_cons (ps_set (i := 14) sc_law.nd rfl (.inl rfl) (pe_h h_law_take (hr.mono (by decide)) (pa_cons (pv 1) (pa_cons (pe_ix (ixT (K := K) rfl) (pv 2) pe_int (fun _ _ => rfl)) pa_nil))))
      (pss_cons (ps_if (pt_cmpR (opNeD (K := K) rfl hr.units) (pe_h h_next_status (hr.mono (by decide)) (pa_cons (pv 11) (pa_cons (pv 13) (pa_cons (pv 14) pa_nil)))) (pe_h h_law_status (hr.mono (by decide)) (pa_cons (pv 11) (pa_cons (pe_op op_cat (pv 12) (pe_lst (pa_cons (pv 14) pa_nil))) pa_nil))) (nomark _))
        (pss_one (ps_ret pe_bl))
        pss_nil)
      (pss_cons (ps_set (i := 15) sc_law.nd rfl (.inl rfl) (pe_h h_law_state (hr.mono (by decide)) (pa_cons (pe_ix (ixL (K := K) rfl) (pv 6) (pv 9) (fun _ _ => rfl)) (pa_cons (pv 12) pa_nil))))
      (pss_one (ps_if (PW.pt (pw_or (pt_cmpR op_ne (pe_h h_read (hr.mono (by decide)) (pa_cons (pv 7) (pa_cons (pv 10) (pa_cons (pv 12) pa_nil)))) (pv 15) (nomark _)) (pw_or1 (pt_cmpR (opNeD (K := K) rfl hr.units) (pe_h h_met_by (hr.mono (by decide)) (pa_cons (pv 7) (pa_cons (pv 10) (pa_cons (pv 12) pa_nil)))) (pe_ix (ixL (K := K) rfl) (pe_ix (ixT (K := K) rfl) (pe_ix (ixL (K := K) rfl) (pv 6) (pv 9) (fun _ _ => rfl)) pe_int (fun _ _ => rfl)) (pv 15) (fun _ _ => rfl)) (nomark _)))))
        (pss_one (ps_ret pe_bl))
        pss_nil)))))))))))))
      (pss_cons (ps_set (i := 16) sc_law.nd rfl (.inl rfl) (pe_h h_law_broken (hr.mono (by decide)) (pa_cons (pv 1) (pa_cons (pe_ix (ixL (K := K) rfl) (pv 6) pe_int (fun _ _ => rfl)) pa_nil))))
      (pss_cons (ps_if (PW.pt (pw_or (pt_val (pe_h h_fits (hr.mono (by decide)) (pa_cons (pv 3) (pa_cons (pv 4) (pa_cons (pe_mkP (mg := mg) rfl mk_Automaton (hr.mono (by decide)) (pa_cons (pv 16) (pa_cons (pe_ix (ixL (K := K) rfl) (pv 6) pe_int (fun _ _ => rfl)) pa_nil))) pa_nil))))) (pw_or1 (pt_val (pe_h h_fits (hr.mono (by decide)) (pa_cons (pv 3) (pa_cons (pv 4) (pa_cons (pe_mkP (mg := mg) rfl mk_Automaton (hr.mono (by decide)) (pa_cons (pe_ix (ixL (K := K) rfl) (pv 6) pe_int (fun _ _ => rfl)) (pa_cons (pe_h h_law_broken (hr.mono (by decide)) (pa_cons (pv 1) (pa_cons (pe_ix (ixL (K := K) rfl) (pv 6) pe_int (fun _ _ => rfl)) pa_nil))) pa_nil))) pa_nil))))))))
        (pss_one (ps_ret pe_bl))
        pss_nil)
      (pss_cons (ps_asg pe_int (pg_sub (pe_ix (ixL (K := K) rfl) (pe_ix (ixT (K := K) rfl) (pe_ix (ixL (K := K) rfl) (pv 6) pe_int (fun _ _ => rfl)) pe_int (fun _ _ => rfl)) pe_int (fun _ _ => rfl)) pe_int set_list))
      (pss_one (ps_ret (pe_cmpR op_ne (pe_ix (ixL (K := K) rfl) (pe_ix (ixL (K := K) rfl) (pe_ix (ixT (K := K) rfl) (peFld (K := K) rfl (pv 7) rfl) pe_int (fun _ _ => rfl)) pe_int (fun _ _ => rfl)) pe_int (fun _ _ => rfl)) pe_int (nomark _))))))))))))))))), ?_⟩
  walk_at "fl.w"
  refine ⟨a, ns, 350, rfl, hS, hlen, by omega, fun d H1 sm1 hd1 k1 => ?_⟩
  walk_at "fl.w"
  refine ⟨[d], d, rfl, .cons k1.hd .nil, by simp, k1, fun tw H2 fo f2 k2 dw fok gl5 hru l4 => ?_⟩
  obtain ⟨_, x2, x3, lb, ls, e, ntw, hwa, hx2, hx3, nlb, hlb, hL⟩ := woE dw
  cases e
  have lls : ls.length = fo.lks.length := by rw [hL.len, List.length_map]
  have alw : Al [d] H2 := .cons k2.hd .nil
  walk_at "fl.w"
  refine spD_app [d] [.int fo.glyphs.length, .list ((fo.glyphs.map GlV.mark).map .bool), .list ((fo.glyphs.map GlV.adv).map .int), .list (fo.lks.map lkT)] (foD (cs mg) fo.R) alw (.cons (.int _) (.cons hx2 (.cons hx3 (.cons (.lst nlb hlb hL) .nil)))) ⟨fo, fok, rfl, rfl⟩ (fun vf H3 sm3 dF => ?_)
  have hwa3 := sm3 _ _ hwa
  have hlb3 := sm3 _ _ hlb
  have k3 := k2.sm sm3
  have dw3 := dw.same sm3
  have hL3 := hL.same sm3
  clear hwa hlb k2 dw hL hx2 hx3 sm3 alw k1 sm1 hd1 f2 hS
  walk_at "fl.w"
  rename_i vl H4 vl0 vl1 k4 o4
  obtain ⟨l, hl⟩ : ∃ l : Nat, vl = (l : Int) := ⟨vl.toNat, by omega⟩
  subst hl
  have hlk : fo.lks[l]? = some fo.lks[l] := List.getElem?_eq_getElem (by omega)
  generalize fo.lks[l] = k at hlk
  have f4 : Fl.Fr [d] H3 H4 := o4.fr
  have hwa4 := f4 _ _ ntw hwa3
  have hlb4 := f4 _ _ nlb hlb3
  have dw4 := dw3.fr f4
  have dF4 := dF.fr f4
  have hL4 := hL3.fr f4
  obtain ⟨xk, hxk, dxk⟩ := hL4.getD (i := l) (d := lkT k) (by rw [List.getElem?_map, hlk]; rfl)
  have axk : atI ls (l : Int) = some xk := atI_nat hxk
  obtain ⟨ka, rb, rs, rfl, rka, rrb, dRs, hRs⟩ := ltE dxk
  have lrs : rs.length = k.rules.length := by rw [hRs.len, List.length_map]
  have kru := hru k (List.mem_of_getElem? hlk)
  clear hwa3 hlb3 dw3 dF hL3 f4 o4
  walk_at "fl.w"
  rw [lrs]
  have one : ∀ b, b ∈ [d] → b ∈ [d] := fun _ m => m
  refine ⟨[d], d, fo.glyphs.length, k.rules.length, rfl, .cons k4.hd .nil, by simp, k4, by omega, kru, fun t1 H5 s1 f5 k5 d5 sok1 z1 => ?_⟩
  have hwa5 := f5 _ _ ntw hwa4
  have hlb5 := f5 _ _ nlb hlb4
  have dw5 := dw4.fr f5
  have dF5 := dF4.fr f5
  clear hwa4 hlb4 dw4 dF4 hL4 dRs hRs rrb rka k4 f5
  walk_at "fl.w"
  refine ⟨[d], d, fo.glyphs.length, k.rules.length, rfl, .cons k5.hd .nil, by simp, k5, by omega, kru, fun t2 H6 s2 f6 k6 d6 sok2 z2 => ?_⟩
  have hwa6 := f6 _ _ ntw hwa5
  have hlb6 := f6 _ _ nlb hlb5
  have dw6 := dw5.fr f6
  have dF6 := dF5.fr f6
  have d5 := d5.fr f6
  clear hwa5 hlb5 dw5 dF5 k5 f6
  walk_at "fl.w"
  rename_i A6 hA6
  have al6 : Al [d] H6 := .cons k6.hd .nil
  have nA6 : A6 ∉ [d] := al6.ni hA6
  have sA : Same H6 (upd H6 A6 (.lst [.ref t1, .ref t2])) := Fl.Same.new hA6
  have rA : (upd H6 A6 (.lst [.ref t1, .ref t2])) A6 = some (.lst [.ref t1, .ref t2]) := upd_same
  have hwa7 := sA _ _ hwa6
  have hlb7 := sA _ _ hlb6
  have dw7 := dw6.same sA
  have dF7 := dF6.same sA
  have ds1 := d5.same sA
  have ds2 := d6.same sA
  have k7 := k6.sm sA
  generalize upd H6 A6 (.lst [.ref t1, .ref t2]) = H7 at sA rA hwa7 hlb7 dw7 dF7 ds1 ds2 k7 ⊢
  clear hwa6 hlb6 dw6 dF6 k6 sA hA6 d5 d6 al6
  have al7 : Al [d] H7 := .cons k7.hd .nil
  have hz : fo.glyphs.length < 900 := by omega
  -- the row that is written at the end
  obtain ⟨_, R, M, rs1, ms1, e, nt1, rt1, rR, rM, dR, dM, hR1, hM1⟩ := sdE ds1
  cases e
  have l1 := sok1.r
  have hr0 : s1.1[0]? = some s1.1[0] := List.getElem?_eq_getElem (by omega)
  generalize s1.1[0] = r at hr0
  obtain ⟨rl, rv⟩ := sok1.rr r (List.mem_of_getElem? hr0)
  obtain ⟨xr, hxr, dxr⟩ := hR1.getD (i := 0) (d := intsD r) (by rw [List.getElem?_map, hr0]; rfl)
  obtain ⟨r0, ys, rfl, nr0, hr0H, hC⟩ := dxr.lstE
  obtain rfl := ints_of hC
  have alX : Al [r0, d] H7 := .cons (by rw [hr0H]; simp) al7
  have nr0d : r0 ≠ d := by simpa using nr0
  have hrs0 : atI rs1 0 = some (.ref r0) := atI_nat (j := 0) hxr
  clear hC hM1 hR1 dR dM rM hxr
  walk_at "fl.w"
  refine au_app [d] [r0, d] s1 s2 alX ds1 ds2 (sok1.z hz) (sok2.z hz) fun au H8 sm8 dau => ?_
  have hwa8 := sm8 _ _ hwa7
  have hlb8 := sm8 _ _ hlb7
  have dw8 := dw7.same sm8
  have dF8 := dF7.same sm8
  have ds1 := ds1.same sm8
  have ds2 := ds2.same sm8
  have k8 := k7.sm sm8
  have rA8 := sm8 _ _ rA
  have rt1 := sm8 _ _ rt1
  have rR := sm8 _ _ rR
  have hr0H := sm8 _ _ hr0H
  have daud : Dq [d] H8 (.ref au) (insD (adr mg "Automaton") (auF s1 s2)) := dau.mono fun b m => List.mem_cons_of_mem _ m
  clear hwa7 hlb7 dw7 dF7 k7 al7 alX sm8 rA
  have al8 : Al [d] H8 := .cons k8.hd .nil
  walk_at "fl.w"
  refine spD_app [d] [foD (cs mg) fo.R, .int l, insD (adr mg "Automaton") (auF s1 s2)] (.bool (sfV fo.glyphs.length k.rules.length s1 && sfV fo.glyphs.length k.rules.length s2)) al8 (.cons dF8 (.cons (.int _) (.cons daud .nil))) ⟨fo, l, k, s1, s2, rfl, fok, hlk, sok1.z hz, sok2.z hz, rfl⟩ (fun vb H9 sm9 dvb => ?_)
  rw [sfV_ok sok1, sfV_ok sok2] at dvb
  cases dvb.blE
  have hwa9 := sm9 _ _ hwa8
  have hlb9 := sm9 _ _ hlb8
  have dw9 := dw8.same sm9
  have dF9 := dF8.same sm9
  have ds1 := ds1.same sm9
  have ds2 := ds2.same sm9
  have k9 := k8.sm sm9
  have rA9 := sm9 _ _ rA8
  have rt1 := sm9 _ _ rt1
  have rR := sm9 _ _ rR
  have hr0H := sm9 _ _ hr0H
  have dau := dau.same sm9
  have daud := daud.same sm9
  clear hwa8 hlb8 dw8 dF8 k8 al8 sm9 rA8
  have al9 : Al [d] H9 := .cons k9.hd .nil
  walk_at "fl.w"
  refine ⟨true, true, rfl, rfl, ?_⟩
  walk_at "fl.w"
  refine g_nB rfl ?_
  obtain ⟨aa, adx, y1, y2, e, ana, aA, n1, n2⟩ := auE daud
  cases e
  walk_at "fl.w"
  refine g_neD' n1 ds1 (sh_sd s1) (sh_sd s1) ?_
  rw [eqv_self (sh_sd s1)]
  refine ⟨_, rfl, ?_⟩
  rw [Bool.not_true, if_neg Bool.false_ne_true]
  walk_at "fl.w"
  refine g_neD' n2 ds2 (sh_sd s2) (sh_sd s2) ?_
  rw [eqv_self (sh_sd s2)]
  refine ⟨_, rfl, ?_⟩
  rw [Bool.not_true, if_neg Bool.false_ne_true]
  clear n1 n2 aA ana
  walk_at "fl.w"
  refine ⟨[d], d, fo.glyphs.length, rfl, al9, by simp, k9, by omega, by omega, fun tw' H10 ws f10 k10 dws lws hws => ?_⟩
  have hwa10 := f10 _ _ ntw hwa9
  have hlb10 := f10 _ _ nlb hlb9
  have dw10 := dw9.fr f10
  have dF10 := dF9.fr f10
  have ds1 := ds1.fr f10
  have ds2 := ds2.fr f10
  have rA10 := f10 _ _ nA6 rA9
  have rt1 := f10 _ _ nt1 rt1
  have nR : R ∉ [d] := by
    obtain ⟨_, R', M', rs', ms', e, _, rt', _, _, dR, _, _, _⟩ := sdE ds1
    cases e
    rw [rt1] at rt'
    cases rt'
    obtain ⟨_, _, e, n, _⟩ := dR.lstE
    cases e
    exact n
  have rR := f10 _ _ nR rR
  have hr0H := f10 _ _ (by simpa using nr0d) hr0H
  have dau := dau.fr (f10.mono fun b m => List.mem_cons_of_mem _ m)
  clear hwa9 hlb9 dw9 dF9 k9 al9 f10 rA9 daud adx y1 y2
  walk_at "fl.w"
  obtain ⟨_, wr, e, nwr, rwr, hWs⟩ := id dws.lstE
  cases e
  have lwr : wr.length = 10 := by rw [hWs.len, List.length_map, lws]
  refine forK_r (fun i σ' H' => (∃ u9 u10 u11 u12 u13 u14 u15, σ' = [some (.ref a), some (.ref d), some (.ref tw), some vf, some (.int (l : Int)), some (.int (k.rules.length : Int)), some (.ref A6), some (.ref au), some (.ref tw'), u9, u10, u11, u12, u13, u14, u15, none]) ∧ Fl.Fr [d] H10 H' ∧ Dw d H') ?_ ?_ ?_
  · exact ⟨⟨_, _, _, _, _, _, _, rfl⟩, Fr.refl, k10⟩
  · intro i σ' G hi ⟨⟨u9, u10, u11, u12, u13, u14, u15, e⟩, f0, kG⟩
    subst e
    obtain ⟨nm, tk, hat, hst, dk, sok⟩ : ∃ nm tk, atI [V.str "fore", V.str "back"] (i : Int) = some (.str nm) ∧ atI [V.ref t1, V.ref t2] (i : Int) = some (.ref tk) ∧ Dq [d] H10 (.ref tk) (sdD (pickS nm s1 s2)) ∧ SdOk fo.glyphs.length k.rules.length (pickS nm s1 s2) := by
      rcases (by omega : i = 0 ∨ i = 1) with rfl | rfl
      · have e : pickS "fore" s1 s2 = s1 := if_pos rfl
        exact ⟨"fore", t1, atI_nat (j := 0) rfl, atI_nat (j := 0) rfl, by rw [e]; exact ds1, by rw [e]; exact sok1⟩
      · have e : pickS "back" s1 s2 = s2 := if_neg (by decide +kernel)
        exact ⟨"back", t2, atI_nat (j := 1) rfl, atI_nat (j := 1) rfl, by rw [e]; exact ds2, by rw [e]; exact sok2⟩
    have e0 : (0 : Int) + (i : Int) = (i : Int) := Int.zero_add _
    rw [e0]
    have pz : PtZ (patV nm k) := pat_z fok hlk
    have alG : Al [d] G := .cons kG.hd .nil
    walk_at "fl.w"
    rename_i pn hpn
    have s0 : Same G (upd G pn (.lst [.str "fore", .str "back"])) := Fl.Same.new hpn
    refine spD_app [d] [woD fo, .int l, .str nm] (ptsD (patV nm k)) (alG.same s0) (.cons ((dw10.fr f0).same s0) (.cons (.int _) (.cons (.str _) .nil))) ⟨fo, l, k, nm, rfl, fok, hlk, rfl⟩ (fun du G1 sm1 ddu => ?_)
    obtain ⟨dua, dus, rfl, _, _, _⟩ := id ddu.lstE
    walk_at "fl.w"
    refine spD_app [d] [foD (cs mg) fo.R, .int l, .str nm] (ptsD (patV nm k)) ((alG.same s0).same sm1) (.cons (((dF10.fr f0).same s0).same sm1) (.cons (.int _) (.cons (.str _) .nil))) ⟨fo, l, k, nm, rfl, fok, hlk, rfl⟩ (fun v2 G2 sm2 dv2 => ?_)
    walk_at "fl.w"
    refine g_neD' dv2 (ddu.same sm2) (sh_pats _) (sh_pats _) ?_
    rw [eqv_self (sh_pats _)]
    refine ⟨_, rfl, ?_⟩
    rw [Bool.not_true, if_neg Bool.false_ne_true]
    have f2 : Fl.Fr [d] H10 G2 := ((f0.trans (Fr.same s0)).trans (Fr.same sm1)).trans (Fr.same sm2)
    have k2 : Dw d G2 := ((kG.sm s0).sm sm1).sm sm2
    have ddu2 := ddu.same sm2
    clear dv2 ddu sm1 sm2 s0 hpn alG kG f0
    have rwr2 := f2 _ _ nwr rwr
    walk_at "fl.w"
    refine forK_l (xs := wr) (fun j σ' H' => (∃ u12 u13 u14 u15, σ' = [some (.ref a), some (.ref d), some (.ref tw), some vf, some (.int (l : Int)), some (.int (k.rules.length : Int)), some (.ref A6), some (.ref au), some (.ref tw'), some (.int (i : Int)), some (.str nm), some (.ref dua), u12, u13, u14, u15, none]) ∧ Fl.Fr [d] H10 H' ∧ Dw d H' ∧ Dq [d] H' (.ref dua) (ptsD (patV nm k))) ?_ ?_ ?_ ?_
    · exact ⟨⟨_, _, _, _, rfl⟩, f2, k2, ddu2⟩
    · intro j σ' G' _ ⟨_, f, _, _⟩
      exact SqL.of (f _ _ nwr rwr)
    · intro j x σ' G' hx ⟨⟨u12, u13, u14, u15, e⟩, f3, k3, d3⟩
      subst e
      obtain ⟨wd, hwd, dx⟩ := hWs.getM hx
      obtain ⟨xa, xs, rfl, nxa, rxa, hX⟩ := id dx.lstE
      obtain rfl := ints_of hX
      obtain ⟨wl, wg⟩ := hws wd (List.mem_of_getElem? hwd)
      have wok : WdOk fo.glyphs.length wd := ⟨by omega, wg⟩
      have al3 : Al [d] G' := .cons k3.hd .nil
      have dx3 : Dq [d] G' (.ref xa) (intsD wd) := dx.fr f3
      walk_at "fl.w"
      refine spD_app [d] [ptsD (patV nm k), intsD wd] (intsD (stA (patV nm k) wd)) al3 (.cons d3 (.cons dx3 .nil)) ⟨_, wd, rfl, pz, wok.1, rfl⟩ (fun v4 G4 sm4 dv4 => ?_)
      rw [stA_ls] at dv4
      walk_at "fl.w"
      refine spD_app [d] [ptsD (patV nm k), intsD wd] (intsD ((patV nm k).map fun p => lsV p wd)) (al3.same sm4) (.cons (d3.same sm4) (.cons (dx3.same sm4) .nil)) ⟨_, wd, rfl, pz, wok.1, rfl⟩ (fun v5 G5 sm5 dv5 => ?_)
      walk_at "fl.w"
      refine g_neD' (dv4.same sm5) dv5 (sh_ints _) (sh_ints _) ?_
      rw [eqv_self (sh_ints _)]
      refine ⟨_, rfl, ?_⟩
      rw [Bool.not_true, if_neg Bool.false_ne_true]
      have s5 := sm4.trans sm5
      have k5 := k3.sm s5
      have f5 : Fl.Fr [d] H10 G5 := f3.trans (Fr.same s5)
      have d5 := d3.same s5
      have dv5 := dv4.same sm5
      clear dv4 d3 dx3 al3 k3 f3 sm4 sm5 s5
      have hwa5 := f5 _ _ ntw hwa10
      walk_at "fl.w"
      rename_i g G6 g0 g1 k6 o6
      have f6 : Fl.Fr [d] H10 G6 := f5.trans o6.fr
      have d6 := d5.fr o6.fr
      have dv6 := dv5.fr o6.fr
      have al6 : Al [d] G6 := .cons k6.hd .nil
      clear d5 dv5 k5 f5 o6 hwa5
      walk_at "fl.w"
      refine spD_app [d] [ptsD (patV nm k), intsD ((patV nm k).map fun p => lsV p wd), .int g] (intsD (nxS (patV nm k) ((patV nm k).map fun p => lsV p wd) g)) al6 (.cons d6 (.cons dv6 (.cons (.int _) .nil))) ⟨_, _, g, rfl, pz, by rw [List.length_map], rfl⟩ (fun v7 G7 sm7 dv7 => ?_)
      rw [nxS_ls] at dv7
      have rxa7 := sm7 _ _ (f6 _ _ nxa rxa)
      have al7 := al6.same sm7
      walk_at "fl.w"
      rename_i p1 hp1 p2 hp2
      have e1 : wd.map V.int ++ [V.int g] = (wd ++ [g]).map V.int := by rw [List.map_append]; rfl
      rw [e1]
      have s7 : Same G7 (upd (upd G7 p1 (.lst [.int g])) p2 (.lst ((wd ++ [g]).map V.int))) := (Fl.Same.new hp1).trans (Fl.Same.new hp2)
      have dp2 : Dq [d] (upd (upd G7 p1 (.lst [.int g])) p2 (.lst ((wd ++ [g]).map V.int))) (.ref p2) (intsD (wd ++ [g])) := Dq.newL (al7.same (Fl.Same.new hp1)) hp2 (ints_dq _)
      generalize upd (upd G7 p1 (.lst [.int g])) p2 (.lst ((wd ++ [g]).map V.int)) = G8 at s7 dp2 ⊢
      refine spD_app [d] [ptsD (patV nm k), intsD (wd ++ [g])] (intsD ((patV nm k).map fun p => lsV p (wd ++ [g]))) (al7.same s7) (.cons ((d6.same sm7).same s7) (.cons dp2 .nil)) ⟨_, _, rfl, pz, by rw [List.length_append, List.length_singleton]; omega, rfl⟩ (fun v9 G9 sm9 dv9 => ?_)
      refine g_neD' ((dv7.same s7).same sm9) dv9 (sh_ints _) (sh_ints _) ?_
      rw [eqv_self (sh_ints _)]
      refine ⟨_, rfl, ?_⟩
      rw [Bool.not_true, if_neg Bool.false_ne_true]
      have s9 := (sm7.trans s7).trans sm9
      have f9 : Fl.Fr [d] H10 G9 := f6.trans (Fr.same s9)
      have k9 := k6.sm s9
      have d9 := d6.same s9
      clear dv9 dv7 dv6 d6 k6 f6 al6 al7 s7 dp2 s9 sm7 sm9 rxa7 hp1
      have al9 : Al [d] G9 := .cons k9.hd .nil
      have rA9 := f9 _ _ nA6 rA10
      have dk9 := dk.fr f9
      have dx9 := dx.fr f9
      have dau9 := dau.fr (f9.mono fun b m => List.mem_cons_of_mem _ m)
      have daud : Dq [d] G9 (.ref au) (insD (adr mg "Automaton") (auF s1 s2)) := dau9.mono fun b m => List.mem_cons_of_mem _ m
      walk_at "fl.w"
      refine spD_app [d] [sdD (pickS nm s1 s2), intsD wd] (.int (stV (pickS nm s1 s2) wd)) al9 (.cons dk9 (.cons dx9 .nil)) ⟨_, wd, _, _, rfl, sok, wok, hz, rfl⟩ (fun v10 G10 sm10 dv10 => ?_)
      cases dv10.intE
      walk_at "fl.w"
      refine spD_app [d] [insD (adr mg "Automaton") (auF s1 s2), .str nm, intsD wd] (.int (stV (pickS nm s1 s2) wd)) (al9.same sm10) (.cons (daud.same sm10) (.cons (.str _) (.cons (dx9.same sm10) .nil))) ⟨s1, s2, nm, wd, _, _, rfl, sok, wok, hz, rfl⟩ (fun v11 G11 sm11 dv11 => ?_)
      cases dv11.intE
      have s11 := sm10.trans sm11
      have dk11 := dk9.same s11
      have dx11 := dx9.same s11
      have daud11 := daud.same s11
      have rA11 := s11 _ _ rA9
      have al11 := al9.same s11
      walk_at "fl.w"
      refine g_nB rfl ?_
      walk_at "fl.w"
      refine spD_app [d] [insD (adr mg "Automaton") (auF s1 s2), .str nm, intsD wd] (intsD (((pickS nm s1 s2).2[(stV (pickS nm s1 s2) wd).toNat]?).getD [])) al11 (.cons daud11 (.cons (.str _) (.cons dx11 .nil))) ⟨s1, s2, nm, wd, _, _, rfl, sok, wok, hz, rfl⟩ (fun v12 G12 sm12 dv12 => ?_)
      obtain ⟨_, Rk, Mk, rsk, msk, e, ntk, rtk, rRk, rMk, _, _, _, hMk⟩ := sdE (dk11.same sm12)
      cases e
      obtain ⟨a0, a1⟩ := stV_lt sok wok
      have hm := sok.m
      have h2m : (pickS nm s1 s2).2[(stV (pickS nm s1 s2) wd).toNat]? = some (pickS nm s1 s2).2[(stV (pickS nm s1 s2) wd).toNat] := List.getElem?_eq_getElem (by omega)
      generalize (pickS nm s1 s2).2[(stV (pickS nm s1 s2) wd).toNat] = rm at h2m
      rw [h2m] at dv12
      have dv12 : Dq [d] G12 v12 (intsD rm) := dv12
      obtain ⟨xr, hxr, dxr⟩ := hMk.getD (i := (stV (pickS nm s1 s2) wd).toNat) (d := intsD rm) (by rw [List.getElem?_map, h2m]; rfl)
      have axr : atI msk (stV (pickS nm s1 s2) wd) = some xr := by
        have := atI_nat hxr
        rw [show (((stV (pickS nm s1 s2) wd).toNat : Nat) : Int) = stV (pickS nm s1 s2) wd by omega] at this
        exact this
      have rA12 := sm12 _ _ rA11
      walk_at "fl.w"
      refine g_neD' dv12 dxr (sh_ints _) (sh_ints _) ?_
      rw [eqv_self (sh_ints _)]
      refine ⟨_, rfl, ?_⟩
      rw [Bool.not_true, if_neg Bool.false_ne_true]
      have s12 := s11.trans sm12
      exact ⟨⟨_, _, _, _, rfl⟩, f9.trans (Fr.same s12), k9.sm s12, d9.same s12⟩
    · intro σ' G' ⟨⟨u12, u13, u14, u15, e⟩, f3, k3, d3⟩
      subst e
      walk_at "fl.w"
      exact ⟨⟨_, _, _, _, _, _, _, rfl⟩, f3, k3⟩
  intro σ' G ⟨⟨u9, u10, u11, u12, u13, u14, u15, e⟩, f0, kG⟩
  subst e
  have rA := f0 _ _ nA6 rA10
  have ds1 := ds1.fr f0
  have ds2 := ds2.fr f0
  have dF := dF10.fr f0
  have rt1 := f0 _ _ nt1 rt1
  have rR := f0 _ _ nR rR
  have hr0H := f0 _ _ (by simpa using nr0d) hr0H
  have dau := dau.fr (f0.mono fun b m => List.mem_cons_of_mem _ m)
  have alG : Al [d] G := .cons kG.hd .nil
  clear rA10 dF10 hwa10 hlb10 dw10 f0 dws hws lws nwr rwr hWs k10
  walk_at "fl.w"
  refine ⟨[d], d, .ref t1, s1, fo.glyphs.length, k.rules.length, rfl, alG, by simp, kG, ds1, sok1, by omega, by omega, kru, fun t3 H11 s3 f11 k11 ds3 z3 bad3 => ?_⟩
  have rA := f11 _ _ nA6 rA
  have ds1 := ds1.fr f11
  have ds2 := ds2.fr f11
  have dF := dF.fr f11
  have rt1 := f11 _ _ nt1 rt1
  have rR := f11 _ _ nR rR
  have hr0H := f11 _ _ (by simpa using nr0d) hr0H
  have dau := dau.fr (f11.mono fun b m => List.mem_cons_of_mem _ m)
  have al11 : Al [d] H11 := .cons k11.hd .nil
  clear alG kG f11
  walk_at "fl.w"
  refine au_app [d] [d] s3 s2 al11 ds3 ds2 z3 (sok2.z hz) fun a3 H12 sm12 da3 => ?_
  walk_at "fl.w"
  refine spD_app [d] [foD (cs mg) fo.R, .int l, insD (adr mg "Automaton") (auF s3 s2)] (.bool (sfV fo.glyphs.length k.rules.length s3 && sfV fo.glyphs.length k.rules.length s2)) (al11.same sm12) (.cons (dF.same sm12) (.cons (.int _) (.cons da3 .nil))) ⟨fo, l, k, s3, s2, rfl, fok, hlk, z3, sok2.z hz, rfl⟩ (fun vb H13 sm13 dvb => ?_)
  rw [bad3, Bool.false_and] at dvb
  cases dvb.blE
  have s13 := sm12.trans sm13
  have rA := s13 _ _ rA
  have ds1 := ds1.same s13
  have ds2 := ds2.same s13
  have dF := dF.same s13
  have rt1 := s13 _ _ rt1
  have rR := s13 _ _ rR
  have hr0H := s13 _ _ hr0H
  have dau := dau.same s13
  have k13 := k11.sm s13
  have al13 : Al [d] H13 := .cons k13.hd .nil
  clear al11 k11 s13 sm12 sm13 da3 ds3 z3 bad3
  walk_at "fl.w"
  refine ⟨[d], d, .ref t2, s2, fo.glyphs.length, k.rules.length, rfl, al13, by simp, k13, ds2, sok2, by omega, by omega, kru, fun t4 H14 s4 f14 k14 ds4 z4 bad4 => ?_⟩
  have rA := f14 _ _ nA6 rA
  have ds1 := ds1.fr f14
  have dF := dF.fr f14
  have rt1 := f14 _ _ nt1 rt1
  have rR := f14 _ _ nR rR
  have hr0H := f14 _ _ (by simpa using nr0d) hr0H
  have dau := dau.fr (f14.mono fun b m => List.mem_cons_of_mem _ m)
  have al14 : Al [d] H14 := .cons k14.hd .nil
  clear al13 k13 f14
  walk_at "fl.w"
  refine au_app [d] [d] s1 s4 al14 ds1 ds4 (sok1.z hz) z4 fun a4 H15 sm15 da4 => ?_
  walk_at "fl.w"
  refine spD_app [d] [foD (cs mg) fo.R, .int l, insD (adr mg "Automaton") (auF s1 s4)] (.bool (sfV fo.glyphs.length k.rules.length s1 && sfV fo.glyphs.length k.rules.length s4)) (al14.same sm15) (.cons (dF.same sm15) (.cons (.int _) (.cons da4 .nil))) ⟨fo, l, k, s1, s4, rfl, fok, hlk, sok1.z hz, z4, rfl⟩ (fun vb H16 sm16 dvb => ?_)
  rw [bad4, Bool.and_false] at dvb
  cases dvb.blE
  have s16 := sm15.trans sm16
  have rA := s16 _ _ rA
  have rt1 := s16 _ _ rt1
  have rR := s16 _ _ rR
  have hr0H := s16 _ _ hr0H
  have dau := dau.same s16
  clear al14 k14 s16 sm15 sm16 da4 ds4 z4 bad4 dF ds1
  walk_at "fl.w"
  refine g_setL hr0H (ix_int (Int.le_refl 0) (by rw [List.length_map]; omega)) ?_
  have dau' := dau.fr (Fr.upd (p := r0) (o := .lst ((r.map V.int).set (Int.toNat 0) (.int 99))) (by simp))
  obtain ⟨_, adx, y1, y2, e, ana, aA, n1, n2⟩ := auE dau'
  cases e
  obtain ⟨ft, fR, fM, frs, fms, rfl, _, frt, frR, _, _, _, fhR, _⟩ := sdE n1
  obtain ⟨xr, hxr, dxr⟩ := fhR.getD (i := 0) (d := intsD r) (by rw [List.getElem?_map, hr0]; rfl)
  obtain ⟨fb, fys, rfl, _, fbH, fC⟩ := dxr.lstE
  obtain rfl := ints_of fC
  have hx0 : r[0]? = some r[0] := List.getElem?_eq_getElem (by omega)
  generalize r[0] = x at hx0
  obtain ⟨xv0, xv1⟩ := rv x (List.mem_of_getElem? hx0)
  have ax1 : atI frs 0 = some (.ref fb) := atI_nat (j := 0) hxr
  have ax2 : atI (r.map V.int) 0 = some (.int x) := atI_nat (j := 0) (by rw [List.getElem?_map, hx0]; rfl)
  walk_at "fl.w"
  rw [decide_eq_false (by omega)]
  exact q _
end

section
variable {P : Program} {w : World} {K : PySem.W.Frag} {mg : Str → Option Value} {base : Heap}
end
abbrev spLaw (K : PySem.W.Frag) : Sp := Fl.spLaw K
namespace He2
open He
theorem facts {l : PySem.W.OpenLaw} {w : World} {K : PySem.W.Frag} {h : Heap} {mg : Str → Option Value} {fa : Addr} (X : K.In h) (G : h.Ns mainGlobals mg) (hfa : mg "law" = some (.ref fa)) (c : obsC cks dfs tbs K = valT dfs tbs w) :
    ∃ fd : FuncData, (∀ (s : Shared) (v : Value), BindsTo s fd ⟨[v], []⟩ [("script", v)]) ∧ ∀ base : Heap, K.In base → base.Ns mainGlobals mg → FnOk l.prog w K mg base CX0 12 fa fd ["script"] (spLaw K) := by
  have T : Txt K mg := ⟨free_g X G (saysC_chk c 0 rfl),
    free_g X G (saysC_chk c 1 rfl),
    free_g X G (saysC_chk c 2 rfl),
    free_g X G (saysC_chk c 3 rfl),
    free_g X G (saysC_chk c 4 rfl),
    free_g X G (saysC_chk c 5 rfl),
    free_g X G (saysC_chk c 6 rfl),
    free_g X G (saysC_chk c 7 rfl),
    free_g X G (saysC_chk c 8 rfl),
    free_g X G (saysC_chk c 9 rfl),
    free_g X G (saysC_chk c 10 rfl),
    free_g X G (saysC_chk c 11 rfl),
    int_g X G (saysC_chk c 12 rfl),
    int_g X G (saysC_chk c 13 rfl),
    int_g X G (saysC_chk c 14 rfl),
    int_g X G (saysC_chk c 15 rfl),
    int_g X G (saysC_chk c 16 rfl),
    int_g X G (saysC_chk c 17 rfl),
    int_g X G (saysC_chk c 18 rfl),
    int_g X G (saysC_chk c 19 rfl),
    defIn_of (He.glo_ok X G (saysC_chk c 20 rfl)) (saysC_def c 0 rfl),
    defIn_of (He.glo_ok X G (saysC_chk c 21 rfl)) (saysC_def c 1 rfl),
    defIn_of (He.glo_ok X G (saysC_chk c 22 rfl)) (saysC_def c 2 rfl),
    defIn_of (He.glo_ok X G (saysC_chk c 23 rfl)) (saysC_def c 3 rfl),
    defIn_of (He.glo_ok X G (saysC_chk c 24 rfl)) (saysC_def c 4 rfl),
    defIn_of (He.glo_ok X G (saysC_chk c 25 rfl)) (saysC_def c 5 rfl),
    defIn_of (He.glo_ok X G (saysC_chk c 26 rfl)) (saysC_def c 6 rfl),
    defIn_of (He.glo_ok X G (saysC_chk c 27 rfl)) (saysC_def c 7 rfl),
    defIn_of (He.glo_ok X G (saysC_chk c 28 rfl)) (saysC_def c 8 rfl),
    defIn_of (He.glo_ok X G (saysC_chk c 29 rfl)) (saysC_def c 9 rfl),
    defIn_of (He.glo_ok X G (saysC_chk c 30 rfl)) (saysC_def c 10 rfl),
    defIn_of (He.glo_ok X G (saysC_chk c 31 rfl)) (saysC_def c 11 rfl),
    defIn_of (He.glo_ok X G (saysC_chk c 32 rfl)) (saysC_def c 12 rfl),
    defIn_of (He.glo_ok X G (saysC_chk c 33 rfl)) (saysC_def c 13 rfl),
    defIn_of (He.glo_ok X G (saysC_chk c 34 rfl)) (saysC_def c 14 rfl),
    defIn_of (He.glo_ok X G (saysC_chk c 35 rfl)) (saysC_def c 15 rfl),
    defIn_of (He.glo_ok X G (saysC_chk c 36 rfl)) (saysC_def c 16 rfl),
    defIn_of (He.glo_ok X G (saysC_chk c 37 rfl)) (saysC_def c 17 rfl),
    defIn_of (He.glo_ok X G (saysC_chk c 38 rfl)) (saysC_def c 18 rfl),
    defIn_of (He.glo_ok X G (saysC_chk c 39 rfl)) (saysC_def c 19 rfl),
    defIn_of (He.glo_ok X G (saysC_chk c 40 rfl)) (saysC_def c 20 rfl),
    defIn_of (He.glo_ok X G (saysC_chk c 41 rfl)) (saysC_def c 21 rfl),
    defIn_of (He.glo_ok X G (saysC_chk c 42 rfl)) (saysC_def c 22 rfl),
    defIn_of (He.glo_ok X G (saysC_chk c 43 rfl)) (saysC_def c 23 rfl),
    defIn_of (He.glo_ok X G (saysC_chk c 44 rfl)) (saysC_def c 24 rfl),
    defIn_of (He.glo_ok X G (saysC_chk c 45 rfl)) (saysC_def c 25 rfl),
    defIn_of (He.glo_ok X G (saysC_chk c 46 rfl)) (saysC_def c 26 rfl),
    defIn_of (He.glo_ok X G (saysC_chk c 47 rfl)) (saysC_def c 27 rfl),
    defIn_of (He.glo_ok X G (saysC_chk c 48 rfl)) (saysC_def c 28 rfl),
    defIn_of (He.glo_ok X G (saysC_chk c 49 rfl)) (saysC_def c 29 rfl),
    defIn_of (He.glo_ok X G (saysC_chk c 50 rfl)) (saysC_def c 30 rfl),
    defIn_of (He.glo_ok X G (saysC_chk c 51 rfl)) (saysC_def c 31 rfl),
    defIn_of (He.glo_ok X G (saysC_chk c 52 rfl)) (saysC_def c 32 rfl),
    defIn_of (He.glo_ok X G (saysC_chk c 53 rfl)) (saysC_def c 33 rfl),
    defIn_of (He.glo_ok X G (saysC_chk c 54 rfl)) (saysC_def c 34 rfl),
    defIn_of (He.glo_ok X G (saysC_chk c 55 rfl)) (saysC_def c 35 rfl),
    defIn_of (He.glo_ok X G (saysC_chk c 56 rfl)) (saysC_def c 36 rfl),
    defIn_of (He.glo_ok X G (saysC_chk c 57 rfl)) (saysC_def c 37 rfl),
    defIn_of (He.glo_ok X G (saysC_chk c 58 rfl)) (saysC_def c 38 rfl),
    defIn_of (He.glo_ok X G (saysC_chk c 59 rfl)) (saysC_def c 39 rfl),
    defIn_of (He.glo_ok X G (saysC_chk c 60 rfl)) (saysC_def c 40 rfl),
    defIn_of (He.glo_ok X G (saysC_chk c 61 rfl)) (saysC_def c 41 rfl),
    defIn_of (He.glo_ok X G (saysC_chk c 62 rfl)) (saysC_def c 42 rfl),
    defIn_of (He.glo_ok X G (saysC_chk c 63 rfl)) (saysC_def c 43 rfl),
    defIn_of (He.glo_ok X G (saysC_chk c 64 rfl)) (saysC_def c 44 rfl),
    defIn_of (He.glo_ok X G (saysC_chk c 65 rfl)) (saysC_def c 45 rfl),
    defIn_of (He.glo_ok X G (saysC_chk c 66 rfl)) (saysC_def c 46 rfl),
    defIn_of (He.glo_ok X G (saysC_chk c 67 rfl)) (saysC_def c 47 rfl),
    defIn_of (He.glo_ok X G (saysC_chk c 68 rfl)) (saysC_def c 48 rfl),
    defIn_of (He.glo_ok X G (saysC_chk c 69 rfl)) (saysC_def c 49 rfl),
    defIn_of (He.glo_ok X G (saysC_chk c 70 rfl)) (saysC_def c 50 rfl),
    defIn_of (He.glo_ok X G (saysC_chk c 71 rfl)) (saysC_def c 51 rfl),
    defIn_of (He.glo_ok X G (saysC_chk c 72 rfl)) (saysC_def c 52 rfl),
    defIn_of (He.glo_ok X G (saysC_chk c 73 rfl)) (saysC_def c 53 rfl),
    defIn_of (He.glo_ok X G (saysC_chk c 74 rfl)) (saysC_def c 54 rfl),
    defIn_of (He.glo_ok X G (saysC_chk c 75 rfl)) (saysC_def c 55 rfl),
    defIn_of (He.glo_ok X G (saysC_chk c 76 rfl)) (saysC_def c 56 rfl),
    defIn_of (He.glo_ok X G (saysC_chk c 77 rfl)) (saysC_def c 57 rfl),
    defIn_of (He.glo_ok X G (saysC_chk c 78 rfl)) (saysC_def c 58 rfl),
    defIn_of (He.glo_ok X G (saysC_chk c 79 rfl)) (saysC_def c 59 rfl),
    defIn_of (He.glo_ok X G (saysC_chk c 80 rfl)) (saysC_def c 60 rfl),
    defIn_of (He.glo_ok X G (saysC_chk c 81 rfl)) (saysC_def c 61 rfl),
    ⟨kwAt "Glyph" "parts" K, kwAt "Glyph" "anchors" K, kwAt "Glyph" "deltas" K, kwAt "Glyph" "hint" K, em_ok (saysC_chk c 84 rfl), em_ok (saysC_chk c 85 rfl), em_ok (saysC_chk c 86 rfl), em_ok (saysC_chk c 87 rfl), clsI_ok X G (saysC_chk c 82 rfl) (saysC_chk c 83 rfl) (saysC_def c 62 rfl)⟩,
    ⟨kwAt "Rule" "back" K, kwAt "Rule" "ahead" K, kwAt "Rule" "out" K, kwAt "Rule" "calls" K, em_ok (saysC_chk c 90 rfl), em_ok (saysC_chk c 91 rfl), em_ok (saysC_chk c 92 rfl), em_ok (saysC_chk c 93 rfl), clsI_ok X G (saysC_chk c 88 rfl) (saysC_chk c 89 rfl) (saysC_def c 63 rfl)⟩,
    clsI_ok X G (saysC_chk c 94 rfl) (saysC_chk c 95 rfl) (saysC_def c 64 rfl),
    clsI_ok X G (saysC_chk c 96 rfl) (saysC_chk c 97 rfl) (saysC_def c 65 rfl),
    ⟨kwAt "Font" "chars" K, kwAt "Font" "lookups" K, kwAt "Font" "features" K, kwAt "Font" "axes" K, kwAt "Font" "regions" K, kwAt "Font" "functions" K, kwAt "Font" "presets" K, em_ok (saysC_chk c 100 rfl), em_ok (saysC_chk c 101 rfl), em_ok (saysC_chk c 102 rfl), em_ok (saysC_chk c 103 rfl), em_ok (saysC_chk c 104 rfl), em_ok (saysC_chk c 105 rfl), em_ok (saysC_chk c 106 rfl), clsI_ok X G (saysC_chk c 98 rfl) (saysC_chk c 99 rfl) (saysC_def c 66 rfl)⟩,
    glo_g X G (saysC_chk c 107 rfl),
    fun H => tup_a X G (saysC_chk c 107 rfl) (saysC_chk c 108 rfl) H,
    glo_g X G (saysC_chk c 109 rfl),
    fun H => tup_a X G (saysC_chk c 109 rfl) (saysC_chk c 110 rfl) H⟩
  have I : InsK K w mg := ⟨glo_g X G (saysC_chk c 116 rfl), (by rw [glo_a X G (saysC_chk c 116 rfl)]; exact saysC_tab c 0 rfl), (by rw [glo_a X G (saysC_chk c 116 rfl)]; exact (List.forall_mem_cons.mpr ⟨(by obtain ⟨t, e, hs⟩ := ent_ok (saysC_chk c 111 rfl); exact ⟨t, 1, 1, e, hs, by simp⟩), (List.forall_mem_cons.mpr ⟨(by obtain ⟨t, e, hs⟩ := ent_ok (saysC_chk c 112 rfl); exact ⟨t, 1, 1, e, hs, by simp⟩), (List.forall_mem_cons.mpr ⟨(by obtain ⟨t, e, hs⟩ := ent_ok (saysC_chk c 113 rfl); exact ⟨t, 2, 4, e, hs, by simp⟩), (List.forall_mem_cons.mpr ⟨(by obtain ⟨t, e, hs⟩ := ent_ok (saysC_chk c 114 rfl); exact ⟨t, 1, 4, e, hs, by simp⟩), (List.forall_mem_cons.mpr ⟨(by obtain ⟨t, e, hs⟩ := ent_ok (saysC_chk c 115 rfl); exact ⟨t, 1, 1, e, hs, by simp⟩), (List.forall_mem_nil _)⟩)⟩)⟩)⟩)⟩))⟩
  obtain ⟨fd, F⟩ := (saysC_def c 8 rfl)
  have e := hfa.symm.trans (He.glo_ok X G (saysC_chk c 28 rfl))
  cases e
  have b := FunD.bindsA (ps := ["script"]) F fun _ _ _ _ _ _ us hl => match us, hl with | [_], _ => rfl
  exact ⟨fd, fun s v => b s [v] rfl, fun base _ _ => ok_law T I (fun_of F)⟩
end He2
end K25
open PySem PySem.W PyProof.Rows
set_option maxHeartbeats 0 in
theorem PySem.Challenge.cw_fleuron_k25_statuses_and_automata_holds : PySem.Challenge.rw_fleuron_k25_statuses_and_automata.Holds := by
  w_on; o_law
  refine HandSHeadRun.head_any (r := OpenLaw.row PySem.Challenge.rw_fleuron_k25_statuses_and_automata) (q := K25.He2.qv) (H := Fl.hookC K25.He2.pls K25.He2.cks K25.He2.dfs K25.He2.tbs) (ob := Fl.obC K25.He2.pls K25.He2.cks K25.He2.dfs K25.He2.tbs) (M := 20000) (loose := K25.He2.loo) (d := HandSHeadRun.topDef (OpenLaw.row PySem.Challenge.rw_fleuron_k25_statuses_and_automata).prog 101) (kwd := []) Fl.obC_eq
    (by kernel_rfl) (fun s => by kernel_rfl) K25.He2.run (by kernel_rfl) (by kernel_rfl) (by kernel_rfl) (by rfl) (by first | assumption | decide +kernel) (by decide +kernel) ⟨rfl, rfl, rfl, rfl, rfl, by decide +kernel⟩ ?hw ?hc
  case hw => w_witness2
  case hc =>
    refine L2.walk_ofE (l := PySem.Challenge.rw_fleuron_k25_statuses_and_automata) (n := 63) (k := 12) (x := "script") (CX := L2.CX0) rfl (by decide) (by kernel_rfl) ⟨rfl, by decide, by decide⟩ ?F (fun _ _ _ _ z => z)
    intro w mg fa h Y G hmg0
    obtain ⟨K, KX, c⟩ := Y
    have hmg : mg ("law" : PySem.Str) = some (.ref fa) := by
      have e : (HandSHeadRun.topDef (OpenLaw.row PySem.Challenge.rw_fleuron_k25_statuses_and_automata).prog 101).name = ("law" : PySem.Str) := by kernel_rfl
      rw [← e]
      exact hmg0
    obtain ⟨fd, hb, hF⟩ := K25.He2.facts (l := PySem.Challenge.rw_fleuron_k25_statuses_and_automata) (w := w) KX G hmg c
    exact ⟨K, fd, K25.spLaw K, KX, hb, fun H a ns hl _ hS => ⟨a, ns, rfl, hS, hl, fun _ => rfl⟩, hF⟩

