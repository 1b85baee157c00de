import PyProof.Rows.All
import Wide.All
import OpenK.AllK
import Wide.FinOn
import HandS.ForMost
import HandS.Wide
import HandS.IsInst
import HandS.Gcd
import HandS.Defaults
import HandS.Comp
import HandS.Zip
import HandS.Iter
import HandS.Style
import PyProof.ReprRoads
import PyProof.ReprLen
import HandS.Rev
import HandS.ForExc
import HandS.ExcInit
import HandS.ExcIs
import HandS.TryMany
import HandS.MakeKwOnly
import HandS.Flow
import HandS.More
import HandS.Dict
import HandS.FStr
import HandS.ExcField
import HandS.TryOnly
import HandS.Walk
import HandS.TupSets
import HandS.Flt
import HandS.ExcCtx
import HandS.HotCalls
import HandS.WordsDict
import PySem.Challenge.RW_fleuron_k55_scaled_zones
set_option Elab.async false
set_option linter.all false
set_option maxRecDepth 100000
set_option maxHeartbeats 4000000
namespace Fl
open PySem PySem.Spec PyProof.Rows L2

/-! ### defs of the text, and what they promise -/
structure DefIn (K : PySem.W.Frag) (mg : Str → Option Value) (x : Str) (st : Stmt) : Prop where
  ex : ∃ (f : Addr) (fd : FuncData), Fun K x x st f fd ∧ mg x = some (.ref f)

structure Has (P : Program) (w : World) (K : PySem.W.Frag) (mg : Str → Option Value) (base : Heap) (k : Nat) (x : Str) (ps : List Str) (sp : Sp) : Prop where
  ex : ∃ (f : Addr) (fd : FuncData), FnOk P w K mg base CX0 k f fd ps sp ∧ mg x = some (.ref f) ∧ PySem.W.keepIn K (.ref f) = true ∧ Binds K fd ps []

section
variable {P : Program} {w : World} {K : PySem.W.Frag} {mg : Str → Option Value} {base : Heap}
theorem Has.mono {j k : Nat} {x : Str} {ps : List Str} {sp : Sp} (h : Has P w K mg base j x ps sp) (e : j ≤ k) : Has P w K mg base k x ps sp := by
  obtain ⟨f, fd, a, b, c, d⟩ := h.ex
  exact ⟨f, fd, a.mono e, b, c, d⟩
/-- the context of a def's body -/
abbrev bx (P : Program) (w : World) (K : PySem.W.Frag) (mg : Str → Option Value) (base : Heap) (N : List Str) (x : Str) (st : Stmt) (f : Addr) (cdv : Value) (A : Around) (outer : List Env) (s : Shared) (H : Hp) (E : XK) : Cx :=
  (cxOf CX0 P w K mg base N x (defScope st) f cdv A outer s H E).nox
theorem fnok_of {x : Str} {st : Stmt} {N ps : List Str} {k : Nat} {sp : Sp} {f : Addr} {fd : FuncData} (F : Fun K x x st f fd) (S : FnScope N ps (defScope st))
    (len : ∀ vs H Q E, sp vs H Q E → vs.length = ps.length)
    (hbody : ∀ (f : Addr) (cdv : Value) (A : Around) (outer : List Env) (s : Shared) (H : Hp) (vs : List V) (Q : VK) (E : XK), Room k (A.deeper (envOfC x (defScope st) s.heap.objs.size f cdv)) → sp vs H Q E →
      ∃ t, PSs (bx P w K mg base N x st f cdv A outer s H E) (defBody st) t ∧ t { nx := fun _ H' => Q .non H', rt := Q } (start N vs) H) : FnOk P w K mg base CX0 (k + 1) f fd ps sp :=
  F.ok S len fun cdv A outer s H vs Q E hr h => hbody f cdv A outer s H vs Q E hr h
theorem has_of {x : Str} {st : Stmt} {N ps : List Str} {k : Nat} {sp : Sp} (D : DefIn K mg x st) (S : FnScope N ps (defScope st))
    (hb : ∀ (kV doc pm : Value) (an : Option Addr) (cdv ct : Value) (us : List Value), us.length = ps.length → bindArgs (PySem.W.fnOf x x (defArgs st) (defBody st) (defScope st) .none kV doc pm an cdv ct) ⟨us, []⟩ = pure (ps.zip us))
    (len : ∀ vs H Q E, sp vs H Q E → vs.length = ps.length)
    (hbody : ∀ (f : Addr) (cdv : Value) (A : Around) (outer : List Env) (s : Shared) (H : Hp) (vs : List V) (Q : VK) (E : XK), Room k (A.deeper (envOfC x (defScope st) s.heap.objs.size f cdv)) → sp vs H Q E →
      ∃ t, PSs (bx P w K mg base N x st f cdv A outer s H E) (defBody st) t ∧ t { nx := fun _ H' => Q .non H', rt := Q } (start N vs) H) : Has P w K mg base (k + 1) x ps sp := by
  obtain ⟨f, fd, F, m⟩ := D.ex
  exact ⟨f, fd, fnok_of F S len hbody, m, F.kp, F.binds hb⟩
end
section
variable {X : Cx}
theorem pe_h {k : Nat} {x : Str} {ps : List Str} {sp : Sp} {e : Expr} {es : List Expr} {t : TA} {p pos : Pos} (h : Has X.prog X.w X.K X.mg X.base k x ps sp) (hr : Room k X.A) (ha : PA X (e :: es) t) (hg : Gl X x := by rfl)
    (hdb : (x == ("__debug__" : Str)) = false := by decide) (he : starEach (e :: es) X.env = (false, eval e X.env) :: starEach es X.env := by rfl) (hpl : (backTo pos (starEach es X.env)).any (·.1) = false := by rfl) :
    PE X (.Call (.Name x p) (e :: es) [] pos) (tCall sp [] E0 t) := by
  obtain ⟨f, fd, a, b, c, d⟩ := h.ex
  exact pe_call a hr hg b c d .nil pass0 ha hdb he hpl
end

/-! ### heaps: all stands but at one address -/
def Ex1 (d : Addr) (H H' : Hp) : Prop := ∀ a o, a ≠ d → H a = some o → H' a = some o
theorem Ex1.refl {d : Addr} {H : Hp} : Ex1 d H H := fun _ _ _ h => h
theorem Ex1.trans {d : Addr} {H H1 H2 : Hp} (a : Ex1 d H H1) (b : Ex1 d H1 H2) : Ex1 d H H2 := fun x o n h => b x o n (a x o n h)
theorem Ex1.upd {d : Addr} {H : Hp} {o : HO} : Ex1 d H (upd H d o) := fun a u n h => by rw [upd_ne n]; exact h
theorem Ex1.of {d : Addr} {H H' : Hp} (h : Same H H') : Ex1 d H H' := fun a o _ e => h a o e
theorem Ex1.rd {d : Addr} {H H' : Hp} {a : Addr} {u : HO} (e : Ex1 d H H') (n : a ≠ d) (h : Rd H a u) : Rd H' a u := by
  rcases h with h | ⟨o, h⟩
  · exact Or.inl (e a _ n h)
  · exact Or.inr ⟨o, e a _ n h⟩
theorem Ex1.l {K : PySem.W.Frag} {d : Addr} {H H' : Hp} {a : Addr} {xs : List V} (e : Ex1 d H H') (n : a ≠ d) (h : SqL K H a xs) : SqL K H' a xs := by
  rcases h with h | h
  · exact Or.inl (e.rd n h)
  · exact Or.inr h
theorem Ex1.t {K : PySem.W.Frag} {d : Addr} {H H' : Hp} {a : Addr} {xs : List V} (e : Ex1 d H H') (n : a ≠ d) (h : SqT K H a xs) : SqT K H' a xs := by
  rcases h with h | h
  · exact Or.inl (e.rd n h)
  · exact Or.inr h

/-! ### the deck -/
def DeckAt (K : PySem.W.Frag) (H : Hp) (d : Addr) : Prop := ∃ (s : Addr) (ns : List Int) (pos rest seed : Int), H d = some (.lst [.ref s, .int pos, .int rest, .int seed]) ∧ SqL K H s (ns.map V.int) ∧ s ≠ d ∧ 0 ≤ pos
theorem DeckAt.same {K : PySem.W.Frag} {H H' : Hp} {d : Addr} (h : DeckAt K H d) (e : Same H H') : DeckAt K H' d := by
  obtain ⟨s, ns, p, r, q, h1, h2, h3, h4⟩ := h
  exact ⟨s, ns, p, r, q, e _ _ h1, e.seq h2, h3, h4⟩
theorem Same.new {H : Hp} {p : Addr} {o : HO} (h : H p = none) : Same H (upd H p o) := fun a u e => by
  rw [upd_ne (ne_of_none e h)]
  exact e
def spDraw (K : PySem.W.Frag) : Sp := fun vs H Q _ => ∃ (d : Addr) (m : Int), vs = [.ref d, .int m] ∧ DeckAt K H d ∧ 0 < m ∧ m < 10 ^ 62 ∧ ∀ v H', 0 ≤ v → v < m → DeckAt K H' d → Ex1 d H H' → Q (.int v) H'
def spDeck (K : PySem.W.Frag) : Sp := fun vs H Q _ => ∃ (a : Addr) (ns : List Int), vs = [.ref a] ∧ SqL K H a (ns.map V.int) ∧ ∀ d H', H d = none → DeckAt K H' d → Same H H' → Q (.ref d) H'
theorem div62 {i m : Int} (h : 0 < m) (h1 : m < 10 ^ 62) : CDivW i m := by
  have e : (10 : Int) ^ 62 < 2 ^ 250 := by decide
  refine wide_div (b := 250) h ?_ (by decide) (by decide)
  have e1 : (10 : Nat) ^ 62 < 2 ^ 250 := by decide
  have e2 : m.natAbs < 10 ^ 62 := by omega
  omega

/-! ### readings, step by step -/
section
variable {σ : L2.St} {H : Hp} {Q : VK} {v x y : V} {ta tb tc te : TE} {K : PySem.W.Frag} {D : Ends} {t u : TS}
theorem g_var {i : Nat} (h : σ[i]? = some (some v)) (q : Q v H) : tVar i σ H Q := ⟨v, h, q⟩
theorem g_c (q : Q v H) : tC v σ H Q := q
theorem g_op {r : R2} (h : ta σ H fun x H1 => tb σ H1 fun y H2 => r x y H2 Q) : tOp r ta tb σ H Q := h
theorem g_un {r : V → Hp → VK → Prop} (h : ta σ H fun x H1 => r x H1 Q) : tUn r ta σ H Q := h
theorem g_I0 {g : Int → Int → V} {i j : Int} (q : Q (g i j) H) : rI0 g (.int i) (.int j) H Q := ⟨i, j, rfl, rfl, q⟩
theorem g_I {C : Int → Int → Prop} {g : Int → Int → V} {i j : Int} (c : C i j) (q : Q (g i j) H) : rI C g (.int i) (.int j) H Q := ⟨i, j, rfl, rfl, c, q⟩
theorem g_U {g : Int → V} {i : Int} (q : Q (g i) H) : rU g (.int i) H Q := ⟨i, rfl, q⟩
theorem g_ixL {p : Addr} {xs : List V} {i : Int} (h : SqL K H p xs) (a : atI xs i = some v) (q : Q v H) : rIxL K (.ref p) (.int i) H Q := ⟨p, xs, i, v, rfl, rfl, h, a, q⟩
theorem g_ixT {p : Addr} {xs : List V} {i : Int} (h : SqT K H p xs) (a : atI xs i = some v) (q : Q v H) : rIxT K (.ref p) (.int i) H Q := ⟨p, xs, i, v, rfl, rfl, h, a, q⟩
theorem g_eq (h : scal x y = true) (q : Q (.bl (decide (x = y))) H) : rEq x y H Q := ⟨h, q⟩
theorem g_ne (h : scal x y = true) (q : Q (.bl (!decide (x = y))) H) : rNe x y H Q := ⟨h, q⟩
theorem g_eqI {i j : Int} (q : Q (.bl (decide (i = j))) H) : rEq (.int i) (.int j) H Q := ⟨rfl, by
  have e : decide (V.int i = V.int j) = decide (i = j) := by simp
  rw [e]; exact q⟩
theorem g_neI {i j : Int} (q : Q (.bl (!decide (i = j))) H) : rNe (.int i) (.int j) H Q := ⟨rfl, by
  have e : decide (V.int i = V.int j) = decide (i = j) := by simp
  rw [e]; exact q⟩
theorem g_eqB {i j : Bool} (q : Q (.bl (decide (i = j))) H) : rEq (.bl i) (.bl j) H Q := ⟨rfl, by
  have e : decide (V.bl i = V.bl j) = decide (i = j) := by simp
  rw [e]; exact q⟩
/-! calls of built-ins, by named readings -/
def rInt : List V → Hp → VK → Prop := fun xs H Q => ∃ i, xs = [.int i] ∧ Q (.int i) H
def rIntB : List V → Hp → VK → Prop := fun xs H Q => ∃ k, xs = [.bl k] ∧ Q (.int (if k then 1 else 0)) H
def rAbs : List V → Hp → VK → Prop := fun xs H Q => ∃ i, xs = [.int i] ∧ Q (.int (if i < 0 then -i else i)) H
def rMax : List V → Hp → VK → Prop := fun xs H Q => ∃ i j, xs = [.int i, .int j] ∧ Q (.int (if j > i then j else i)) H
def rMin : List V → Hp → VK → Prop := fun xs H Q => ∃ i j, xs = [.int i, .int j] ∧ Q (.int (if j < i then j else i)) H
def rLen (K : PySem.W.Frag) : List V → Hp → VK → Prop := fun xs H Q => ∃ p ys, xs = [.ref p] ∧ (SqL K H p ys ∨ SqT K H p ys) ∧ Q (.int (ys.length : Int)) H
def rList (K : PySem.W.Frag) : List V → Hp → VK → Prop := fun xs H Q => ∃ p ys, xs = [.ref p] ∧ (SqL K H p ys ∨ SqT K H p ys) ∧ ∀ l, H l = none → Q (.ref l) (upd H l (.lst ys))
theorem g_cb1 {r : List V → Hp → VK → Prop} (h : ta σ H fun x H1 => r [x] H1 Q) : tCB r (tCons ta tNil) σ H Q := h
theorem g_cb2 {r : List V → Hp → VK → Prop} (h : ta σ H fun x H1 => tb σ H1 fun y H2 => r [x, y] H2 Q) : tCB r (tCons ta (tCons tb tNil)) σ H Q := h
theorem g_int {i : Int} (q : Q (.int i) H) : rInt [.int i] H Q := ⟨i, rfl, q⟩
theorem g_intB {k : Bool} (q : Q (.int (if k then 1 else 0)) H) : rIntB [.bl k] H Q := ⟨k, rfl, q⟩
theorem g_abs {i : Int} (q : Q (.int (if i < 0 then -i else i)) H) : rAbs [.int i] H Q := ⟨i, rfl, q⟩
theorem g_max {i j : Int} (q : Q (.int (if j > i then j else i)) H) : rMax [.int i, .int j] H Q := ⟨i, j, rfl, q⟩
theorem g_min {i j : Int} (q : Q (.int (if j < i then j else i)) H) : rMin [.int i, .int j] H Q := ⟨i, j, rfl, q⟩
theorem g_lenL {p : Addr} {ys : List V} (h : SqL K H p ys) (q : Q (.int (ys.length : Int)) H) : rLen K [.ref p] H Q := ⟨p, ys, rfl, .inl h, q⟩
theorem g_lenT {p : Addr} {ys : List V} (h : SqT K H p ys) (q : Q (.int (ys.length : Int)) H) : rLen K [.ref p] H Q := ⟨p, ys, rfl, .inr h, q⟩
theorem g_listL {p : Addr} {ys : List V} (h : SqL K H p ys) (q : ∀ l, H l = none → Q (.ref l) (upd H l (.lst ys))) : rList K [.ref p] H Q := ⟨p, ys, rfl, .inl h, q⟩
theorem g_gcd {a b : Int} (q : Q (.int ((Nat.gcd a.natAbs b.natAbs : Nat) : Int)) H) : rGcd [.int a, .int b] H Q := ⟨a, b, rfl, q⟩
theorem g_isi {c : V} {ty w : Value} {b : Bool} (hc : ClsV c w) (ht : TyX K H x ty) (e : PySem.W.kitOne K ty w = some b) (q : Q (.bl b) H) : rIsi K [x, c] H Q := ⟨x, c, ty, w, b, rfl, hc, ht, e, q⟩
/-- isinstance(x, T), T a built-in type's name, x of the built-in type n -/
theorem g_isiT {n m : String} {b : Bool} (ht : TyX K H x (.type n)) (e : kitB n m = some b) (q : Q (.bl b) H) : rIsi K [x, .ty m] H Q := ⟨x, .ty m, .type n, .type m, b, rfl, .ty m, ht, kit_ty e, q⟩
/-! displays -/
theorem g_tup2 (h : ta σ H fun x H1 => tb σ H1 fun y H2 => ∀ p, H2 p = none → Q (.ref p) (upd H2 p (.tup [x, y]))) : tTup (tCons ta (tCons tb tNil)) σ H Q := by
  show ta σ H fun x H1 => tb σ H1 fun y H2 => 2 ≤ sizeLine ∧ ∀ p, H2 p = none → Q (.ref p) (upd H2 p (.tup [x, y]))
  simpa [show (2 : Nat) ≤ sizeLine by decide] using h
theorem g_tupN {ta : TA} (h : ta σ H fun xs H1 => xs.length ≤ sizeLine ∧ ∀ p, H1 p = none → Q (.ref p) (upd H1 p (.tup xs))) : tTup ta σ H Q := h
theorem g_lstN {ta : TA} (h : ta σ H fun xs H1 => xs.length ≤ sizeLine ∧ ∀ p, H1 p = none → Q (.ref p) (upd H1 p (.lst xs))) : tLst ta σ H Q := h
theorem g_nil {Q : List V → Hp → Prop} (q : Q [] H) : tNil σ H Q := q
theorem g_cons {tr : TA} {Q : List V → Hp → Prop} (h : ta σ H fun x H1 => tr σ H1 fun xs H2 => Q (x :: xs) H2) : tCons ta tr σ H Q := h
theorem g_new {n : Nat} {Q : Addr → Hp → Prop} {f : Addr → Hp} (hn : n ≤ 1000) (h : ∀ p, H p = none → Q p (f p)) : n ≤ sizeLine ∧ ∀ p, H p = none → Q p (f p) := ⟨Nat.le_trans hn (by decide), h⟩
/-! tests -/
variable {QB : Bool → Hp → Prop} {tt tu : TT}
theorem g_test (h : te σ H fun x H1 => ∃ k, x = .bl k ∧ QB k H1) : tTest te σ H QB := h
theorem g_B (h : te σ H fun x H1 => ∃ k, x = .bl k ∧ QB k H1) : tB te σ H QB := h
theorem g_bl {b : Bool} (q : QB b H) : ∃ k, V.bl b = .bl k ∧ QB k H := ⟨b, rfl, q⟩
theorem g_not (h : tt σ H fun b H1 => QB (!b) H1) : tNot tt σ H QB := h
theorem g_and (h : tt σ H fun b H1 => if b = true then tu σ H1 QB else QB false H1) : tAnd tt tu σ H QB := h
theorem g_or (h : tt σ H fun b H1 => if b = true then QB true H1 else tu σ H1 QB) : tOr tt tu σ H QB := h
theorem g_andV (h : ta σ H fun x H1 => ∃ c, x = .bl c ∧ if c = true then tb σ H1 Q else Q (.bl false) H1) : tAndV ta tb σ H Q := h
theorem g_orV (h : ta σ H fun x H1 => ∃ c, x = .bl c ∧ if c = true then Q (.bl true) H1 else tb σ H1 Q) : tOrV ta tb σ H Q := h
theorem g_notV (h : ta σ H fun x H1 => ∃ c, x = .bl c ∧ Q (.bl (!c)) H1) : tNotV ta σ H Q := h
theorem g_ex {b : Bool} {P : Bool → Prop} (q : P b) : ∃ c, V.bl b = .bl c ∧ P c := ⟨b, rfl, q⟩
theorem g_ite {p : Prop} [Decidable p] {A B : Prop} (h1 : p → A) (h2 : ¬ p → B) : if decide p = true then A else B := by
  by_cases h : p
  · rw [decide_eq_true h, if_pos rfl]; exact h1 h
  · rw [decide_eq_false h, if_neg Bool.false_ne_true]; exact h2 h
theorem g_iteN {p : Prop} [Decidable p] {A B : Prop} (h1 : ¬ p → A) (h2 : p → B) : if (!decide p) = true then A else B := by
  by_cases h : p
  · rw [decide_eq_true h, if_neg (by decide)]; exact h2 h
  · rw [decide_eq_false h, if_pos (by decide)]; exact h1 h
theorem g_iteT {A B : Prop} (h : A) : if true = true then A else B := by rw [if_pos rfl]; exact h
theorem g_iteF {A B : Prop} (h : B) : if false = true then A else B := by rw [if_neg Bool.false_ne_true]; exact h
theorem g_iteNT {A B : Prop} (h : B) : if (!true) = true then A else B := by rw [if_neg (by decide)]; exact h
theorem g_iteNF {A B : Prop} (h : A) : if (!false) = true then A else B := by rw [if_pos (by decide)]; exact h
theorem g_iteB {b : Bool} {A B : Prop} (h1 : b = true → A) (h2 : b = false → B) : if b = true then A else B := by
  cases b with
  | true => rw [if_pos rfl]; exact h1 rfl
  | false => rw [if_neg Bool.false_ne_true]; exact h2 rfl
/-! statements -/
variable {g : TG}
theorem g_seq (h : t { D with nx := u D } σ H) : tSeq t u D σ H := h
theorem g_next (q : D.nx σ H) : tNext D σ H := q
theorem g_ret (h : te σ H D.rt) : tRet te D σ H := h
theorem g_if {c : TT} (h : c σ H fun b H1 => if b = true then t D σ H1 else u D σ H1) : tIfS c t u D σ H := h
theorem g_set {i : Nat} (h : te σ H fun x H1 => D.nx (σ.set i (some x)) H1) : tAsg te (gName i) D σ H := h
theorem g_setS (h : te σ H fun x H1 => ta σ H1 fun o H2 => tb σ H2 fun i H3 => rSetL o i x H3 fun H4 => D.nx σ H4) : tAsg te (gSub ta tb rSetL) D σ H := h
theorem g_setL {p : Addr} {xs : List V} {k : Int} {j : Nat} {Q : Hp → Prop} (h : H p = some (.lst xs)) (e : ixN xs.length k = some j) (q : Q (upd H p (.lst (xs.set j v)))) : rSetL (.ref p) (.int k) v H Q := ⟨p, xs, k, j, rfl, rfl, h, e, q⟩
theorem g_drop (h : te σ H fun _ H1 => D.nx σ H1) : tDrop te D σ H := h
theorem g_aug {i : Nat} {r : TIp} (hx : σ[i]? = some (some x)) (h : te σ H fun y H1 => r x y H1 fun z H2 => D.nx (σ.set i (some z)) H2) : tAug i te r D σ H := ⟨x, hx, h⟩
theorem g_ipI {f : Int → Int → Int} {i j : Int} (q : Q (.int (f i j)) H) : ipI f (.int i) (.int j) H Q := ⟨i, j, rfl, rfl, q⟩
theorem g_call {sp : Sp} {E : XK} {ta : TA} (h : ta σ H fun vs H1 => sp vs H1 Q E) : tCall sp [] E ta σ H Q := by
  show ta σ H fun vs H1 => sp (vs ++ []) H1 Q E
  simpa using h
end
section
variable {X : Cx}
theorem pe_powc {a b r : Int} {j1 j2 : Nat} {p1 p2 pos : Pos} (h : 0 ≤ b ∧ b ≤ 1000000 ∧ a.natAbs < 2 ^ 64) (e : a ^ b.toNat = r) : PE X (.BinOp (.Constant (.int a) j1 p1) .Pow (.Constant (.int b) j2 p2) pos) (tC (.int r)) :=
  ⟨fun pins s σ H Q I q => (pe_op op_pow pe_int pe_int).run pins s σ H Q I ⟨a, b, rfl, rfl, h, by subst e; exact q⟩⟩
theorem call_int' : CallR X (.type "int") rInt := fun pins s σ H xs us Q I r h => call_int1 pins s σ H xs us Q I r (.inl h)
theorem call_intB : CallR X (.type "int") rIntB := fun pins s σ H xs us Q I r h => call_int1 pins s σ H xs us Q I r (.inr h)
theorem call_abs' : CallR X (.builtin "abs") rAbs := call_abs
theorem call_max' (hc : X.calm = true) : CallR X (.builtin "max") rMax := call_max2 hc
theorem call_min' (hc : X.calm = true) : CallR X (.builtin "min") rMin := call_min2 hc
theorem call_len' : CallR X (.builtin "len") (rLen X.K) := call_len_seq
theorem call_list' : CallR X (.type "list") (rList X.K) := call_list_of
end
/-! isinstance, by the built-in kinds -/
theorem kit_int_int : kitB "int" "int" = some true := by decide +kernel
theorem kit_int_bool : kitB "int" "bool" = some false := by decide +kernel
theorem kit_int_tuple : kitB "int" "tuple" = some false := by decide +kernel
theorem kit_int_str : kitB "int" "str" = some false := by decide +kernel
theorem kit_int_list : kitB "int" "list" = some false := by decide +kernel
theorem kit_int_dict : kitB "int" "dict" = some false := by decide +kernel
theorem kit_bool_int : kitB "bool" "int" = some true := by decide +kernel
theorem kit_bool_bool : kitB "bool" "bool" = some true := by decide +kernel
theorem kit_bool_tuple : kitB "bool" "tuple" = some false := by decide +kernel
theorem kit_bool_str : kitB "bool" "str" = some false := by decide +kernel
theorem kit_bool_list : kitB "bool" "list" = some false := by decide +kernel
theorem kit_bool_dict : kitB "bool" "dict" = some false := by decide +kernel
theorem kit_tuple_int : kitB "tuple" "int" = some false := by decide +kernel
theorem kit_tuple_bool : kitB "tuple" "bool" = some false := by decide +kernel
theorem kit_tuple_tuple : kitB "tuple" "tuple" = some true := by decide +kernel
theorem kit_tuple_str : kitB "tuple" "str" = some false := by decide +kernel
theorem kit_tuple_list : kitB "tuple" "list" = some false := by decide +kernel
theorem kit_tuple_dict : kitB "tuple" "dict" = some false := by decide +kernel
theorem kit_str_int : kitB "str" "int" = some false := by decide +kernel
theorem kit_str_bool : kitB "str" "bool" = some false := by decide +kernel
theorem kit_str_tuple : kitB "str" "tuple" = some false := by decide +kernel
theorem kit_str_str : kitB "str" "str" = some true := by decide +kernel
theorem kit_str_list : kitB "str" "list" = some false := by decide +kernel
theorem kit_str_dict : kitB "str" "dict" = some false := by decide +kernel
theorem kit_list_int : kitB "list" "int" = some false := by decide +kernel
theorem kit_list_bool : kitB "list" "bool" = some false := by decide +kernel
theorem kit_list_tuple : kitB "list" "tuple" = some false := by decide +kernel
theorem kit_list_str : kitB "list" "str" = some false := by decide +kernel
theorem kit_list_list : kitB "list" "list" = some true := by decide +kernel
theorem kit_list_dict : kitB "list" "dict" = some false := by decide +kernel
theorem kit_NoneType_int : kitB "NoneType" "int" = some false := by decide +kernel
theorem kit_NoneType_bool : kitB "NoneType" "bool" = some false := by decide +kernel
theorem kit_NoneType_tuple : kitB "NoneType" "tuple" = some false := by decide +kernel
theorem kit_NoneType_str : kitB "NoneType" "str" = some false := by decide +kernel
theorem kit_NoneType_list : kitB "NoneType" "list" = some false := by decide +kernel
theorem kit_NoneType_dict : kitB "NoneType" "dict" = some false := by decide +kernel
theorem kit_dict_int : kitB "dict" "int" = some false := by decide +kernel
theorem kit_dict_bool : kitB "dict" "bool" = some false := by decide +kernel
theorem kit_dict_tuple : kitB "dict" "tuple" = some false := by decide +kernel
theorem kit_dict_str : kitB "dict" "str" = some false := by decide +kernel
theorem kit_dict_list : kitB "dict" "list" = some false := by decide +kernel
theorem kit_dict_dict : kitB "dict" "dict" = some true := by decide +kernel

/-! defs with defaults -/
structure DefInD (K : PySem.W.Frag) (mg : Str → Option Value) (x : Str) (st : Stmt) (dvs : List V) : Prop where
  ex : ∃ (f : Addr) (fd : FuncData), FunD K x x (defArgs st) (defBody st) (defScope st) dvs [] f fd ∧ mg x = some (.ref f)
structure HasD (P : Program) (w : World) (K : PySem.W.Frag) (mg : Str → Option Value) (base : Heap) (k : Nat) (x : Str) (ps : List Str) (dvs : List V) (sp : Sp) : Prop where
  ex : ∃ (f : Addr) (fd : FuncData) (ds : List Value), FnOk P w K mg base CX0 k f fd ps sp ∧ mg x = some (.ref f) ∧ PySem.W.keepIn K (.ref f) = true ∧ Vals dvs ds ∧ Binds K fd ps ds
section
variable {P : Program} {w : World} {K : PySem.W.Frag} {mg : Str → Option Value} {base : Heap}
/-- the def's promise; its calls with n values written, the defaults behind the first j filling up -/
theorem hasD_of {x : Str} {st : Stmt} {N ps : List Str} {k : Nat} {sp : Sp} {dvs : List V} (D : DefInD K mg x st dvs) (S : FnScope N ps (defScope st)) (n j : Nat) (hd : dvs ≠ []) (hn : n + (dvs.length - j) = ps.length)
    (hb : ∀ (T : Addr) (kV doc pm : Value) (an : Option Addr) (cdv ct : Value) (us its : List Value), us.length = n → its.length = dvs.length →
      ∃ k, bindArgs (PySem.W.fnOf x x (defArgs st) (defBody st) (defScope st) (.ref T) kV doc pm an cdv ct) ⟨us, []⟩ = seqItems? (.ref T) >>= k ∧ k (some its.toArray) = pure (ps.zip (us ++ its.drop j)))
    (len : ∀ vs H Q E, sp vs H Q E → vs.length = ps.length)
    (hbody : ∀ (f : Addr) (cdv : Value) (A : Around) (outer : List Env) (s : Shared) (H : Hp) (vs : List V) (Q : VK) (E : XK), Room k (A.deeper (envOfC x (defScope st) s.heap.objs.size f cdv)) → sp vs H Q E →
      ∃ t, PSs (bx P w K mg base N x st f cdv A outer s H E) (defBody st) t ∧ t { nx := fun _ H' => Q .non H', rt := Q } (start N vs) H) : HasD P w K mg base (k + 1) x ps (dvs.drop j) sp := by
  obtain ⟨f, fd, F, m⟩ := D.ex
  obtain ⟨ds, r, b⟩ := F.binds1 n j hd hn hb
  refine ⟨f, fd, ds, F.ok S len fun cdv A outer s H vs Q E hr h => ?_, m, F.kp, r, b⟩
  obtain ⟨t, ht, q⟩ := hbody f cdv A outer s H vs Q E hr h
  exact ⟨t, ht.nox, q⟩
end
theorem pe_hD {X : Cx} {k : Nat} {x : Str} {ps : List Str} {dvs : List V} {sp : Sp} {e : Expr} {es : List Expr} {t : TA} {p pos : Pos} (h : HasD X.prog X.w X.K X.mg X.base k x ps dvs sp) (hr : Room k X.A) (ha : PA X (e :: es) t) (hg : Gl X x := by rfl)
    (hdb : (x == ("__debug__" : Str)) = false := by decide) (he : starEach (e :: es) X.env = (false, eval e X.env) :: starEach es X.env := by rfl) (hpl : (backTo pos (starEach es X.env)).any (·.1) = false := by rfl) :
    PE X (.Call (.Name x p) (e :: es) [] pos) (tCall sp dvs E0 t) := by
  obtain ⟨f, fd, ds, a, b, c, r, d⟩ := h.ex
  exact pe_call a hr hg b c d r pass0 ha hdb he hpl
theorem g_callD {sp : Sp} {dvs : List V} {E : XK} {ta : TA} {σ : L2.St} {H : Hp} {Q : VK} (h : ta σ H fun vs H1 => sp (vs ++ dvs) H1 Q E) : tCall sp dvs E ta σ H Q := h
end Fl

set_option Elab.async false
set_option linter.all false
set_option maxRecDepth 100000
set_option maxHeartbeats 4000000
set_option exponentiation.threshold 20000
/-! fractions: the mathematics, and what the helpers promise -/
namespace Fl
open PySem PySem.Spec PyProof.Rows L2

def gg (p q : Int) : Int := ((Nat.gcd p.natAbs q.natAbs : Nat) : Int)
def rp (p q : Int) : Int := if q < 0 then -(p / gg p q) else p / gg p q
def rq (p q : Int) : Int := if q < 0 then -(q / gg p q) else q / gg p q
theorem gg_pos {p q : Int} (h : q ≠ 0) : 0 < gg p q := by
  have : 0 < Nat.gcd p.natAbs q.natAbs := Nat.gcd_pos_of_pos_right _ (by omega)
  unfold gg; omega
theorem gg_dvd_l (p q : Int) : gg p q ∣ p := by
  unfold gg
  exact Int.ofNat_dvd_left.mpr (Nat.gcd_dvd_left _ _)
theorem gg_dvd_r (p q : Int) : gg p q ∣ q := by
  unfold gg
  exact Int.ofNat_dvd_left.mpr (Nat.gcd_dvd_right _ _)
theorem abs_div_le {p g : Int} (hg : 0 < g) : (p / g).natAbs ≤ p.natAbs := by
  have h := Int.natAbs_ediv_le_natAbs p g
  exact h
theorem fdiv_neg_exact {p g : Int} (hg : 0 < g) (hd : g ∣ p) : Int.fdiv p (-g) = -(p / g) := by
  obtain ⟨k, rfl⟩ := hd
  have h1 : g * k / g = k := Int.mul_ediv_cancel_left k (by omega)
  rw [h1]
  have h2 : g * k = (-g) * (-k) := by rw [Int.neg_mul_neg]
  rw [h2]
  exact Int.mul_fdiv_cancel_left (-k) (by omega)
theorem fdiv_pos_exact {p g : Int} (hg : 0 < g) : Int.fdiv p g = p / g := Int.fdiv_eq_ediv_of_nonneg p (by omega)
theorem rp_abs (p q : Int) (h : q ≠ 0) : (rp p q).natAbs ≤ p.natAbs := by
  have := abs_div_le (p := p) (gg_pos (p := p) h)
  unfold rp
  split <;> omega
theorem rq_abs (p q : Int) (h : q ≠ 0) : (rq p q).natAbs ≤ q.natAbs := by
  have := abs_div_le (p := q) (gg_pos (p := p) h)
  unfold rq
  split <;> omega
theorem rq_pos (p q : Int) (h : q ≠ 0) : 0 < rq p q := by
  have hg := gg_pos (p := p) h
  obtain ⟨k, hk⟩ := gg_dvd_r p q
  have e : q / gg p q = k := Int.ediv_eq_of_eq_mul_right (by omega) hk
  unfold rq
  rw [e]
  by_cases hq : q < 0
  · rw [if_pos hq]
    have : k < 0 := by
      rcases (by omega : k < 0 ∨ 0 ≤ k) with h1 | h1
      · exact h1
      · have : 0 ≤ gg p q * k := Int.mul_nonneg (by omega) h1
        omega
    omega
  · rw [if_neg hq]
    rcases (by omega : 0 < k ∨ k ≤ 0) with h1 | h1
    · exact h1
    · have h2 : gg p q * k ≤ 0 := Int.mul_nonpos_of_nonneg_of_nonpos (by omega) h1
      omega
theorem rp_mul (p q : Int) (h : q ≠ 0) : rp p q * q = p * rq p q := by
  have hg := gg_pos (p := p) h
  obtain ⟨k, hk⟩ := gg_dvd_r p q
  obtain ⟨l, hl⟩ := gg_dvd_l p q
  have e : q / gg p q = k := Int.ediv_eq_of_eq_mul_right (by omega) hk
  have e2 : p / gg p q = l := Int.ediv_eq_of_eq_mul_right (by omega) hl
  have key : l * q = p * k := by
    generalize gg p q = g at hk hl
    subst hk hl
    rw [Int.mul_comm g l, Int.mul_assoc]
  unfold rp rq
  rw [e, e2]
  split
  · rw [Int.neg_mul, key, Int.mul_neg]
  · exact key

/-! the loop of Euclid -/
theorem euclid_step {m n : Nat} (hn : 0 < n) : Nat.gcd n (m % n) = Nat.gcd m n := by
  rw [Nat.gcd_comm n (m % n), Nat.gcd_comm m n]
  exact (Nat.gcd_rec n m).symm
structure Eu (g B i m n : Nat) : Prop where
  gcd : Nat.gcd m n = g
  lt : (i = 0 ∧ m * n ≤ B) ∨ n < m
  le : m * n * 2 ^ i ≤ 2 * B
theorem Eu.start {m n B : Nat} (h : m * n ≤ B) : Eu (Nat.gcd m n) B 0 m n := ⟨rfl, .inl ⟨rfl, h⟩, by simp; omega⟩
theorem Eu.step {g B i m n : Nat} (h : Eu g B i m n) (hn : 0 < n) : Eu g B (i + 1) n (m % n) := by
  refine ⟨(euclid_step hn).trans h.gcd, .inr (Nat.mod_lt _ hn), ?_⟩
  have hle := h.le
  rcases h.lt with e | e
  · obtain ⟨e, e'⟩ := e
    subst e
    have h1 : m % n ≤ m := Nat.mod_le _ _
    have h2 : n * (m % n) ≤ n * m := Nat.mul_le_mul_left _ h1
    have h3 : n * m = m * n := Nat.mul_comm _ _
    rw [Nat.zero_add, Nat.pow_one]
    omega
  · have h1 : 2 * (m % n) ≤ m := by
      have q1 := Nat.div_add_mod m n
      have q2 : m % n < n := Nat.mod_lt _ hn
      have q3 : 1 ≤ m / n := (Nat.le_div_iff_mul_le hn).mpr (by omega)
      have q4 : n * 1 ≤ n * (m / n) := Nat.mul_le_mul_left _ q3
      omega
    have h2 : n * (m % n) * 2 ^ (i + 1) = n * (2 * (m % n)) * 2 ^ i := by
      rw [Nat.pow_succ]
      simp only [Nat.mul_assoc, Nat.mul_comm, Nat.mul_left_comm]
    have h3 : n * (2 * (m % n)) ≤ n * m := Nat.mul_le_mul_left _ h1
    have h4 : n * (2 * (m % n)) * 2 ^ i ≤ n * m * 2 ^ i := Nat.mul_le_mul_right _ h3
    rw [h2, Nat.mul_comm n m] at *
    omega
theorem Eu.fin {g B m n : Nat} (h : Eu g B 5000 m n) (hB : B < 2 ^ 4990) : m = g := by
  have h0 : n = 0 := by
    rcases Nat.eq_zero_or_pos n with e | e
    · exact e
    · exfalso
      have hm : n < m := by
        rcases h.lt with q | q
        · cases q.1
        · exact q
      have h1 : 1 * 1 ≤ m * n := Nat.mul_le_mul (by omega) e
      have h2 : 1 * 2 ^ 5000 ≤ m * n * 2 ^ 5000 := Nat.mul_le_mul_right _ (by omega)
      have h3 := h.le
      have h4 : 2 * 2 ^ 4990 ≤ 1 * 2 ^ 5000 := by decide +kernel
      omega
  have := h.gcd
  rw [h0, Nat.gcd_zero_right] at this
  exact this
theorem Eu.done {g B i m : Nat} (h : Eu g B i m 0) : m = g := by
  have := h.gcd
  rw [Nat.gcd_zero_right] at this
  exact this

/-! sizes -/
theorem mulW {i j : Int} (hi : i.natAbs < 2 ^ 4000) (hj : j.natAbs < 2 ^ 4000) : CMulW i j := wide_mul hi hj (by decide) (by decide) (by decide)
theorem divW {i j : Int} (h : 0 < j) (hj : j.natAbs < 2 ^ 4000) : CDivW i j := wide_div h hj (by decide) (by decide)
/-- // by a divisor of either sign -/
def CDivS (_ j : Int) : Prop := j ≠ 0 ∧ j.natAbs.log2 < 9000
theorem op_fdivS {X : Cx} : OpR X (binaryOp .FloorDiv) (rI CDivS fun i j => .int (i.fdiv j)) := opI fun i j _ _ _ _ _ hc q =>
  floordiv_int hc.1 q (.inl (PyProof.noPylong_of_log2 hc.2))
theorem divS {i j : Int} (h : j ≠ 0) (hj : j.natAbs < 2 ^ 4000) : CDivS i j := ⟨h, Nat.lt_of_lt_of_le (PySem.Flt.log2_lt_of (by decide) hj) (by decide)⟩

/-! loops -/
section
variable {σ : L2.St} {H : Hp} {te : TE} {D : Ends} {g : TG} {tb : TS}
theorem g_forR (n : Int) (Pv : Nat → L2.St → Hp → Prop) (h : te σ H fun x H1 => x = .int n ∧ -(2 ^ 62) ≤ n ∧ n < 2 ^ 62 ∧ Pv 0 σ H1)
    (hs : ∀ (i : Nat) σ' H', (i : Int) < n → Pv i σ' H' → g (.int (i : Int)) σ' H' fun σ2 H2 => tb { D with nx := Pv (i + 1), ct := Pv (i + 1), bk := D.nx } σ2 H2)
    (hd : ∀ σ' H', Pv n.toNat σ' H' → D.nx σ' H') (mono : ∀ Q Q' : VK, (∀ x H1, Q x H1 → Q' x H1) → te σ H Q → te σ H Q') : tFor (iRng1 (tCons te tNil)) g tb D σ H := by
  refine mono _ _ (fun x H1 q => ?_) h
  obtain ⟨rfl, h1, h2, p⟩ := q
  show ∃ j : Int, [V.int n] = [V.int j] ∧ _
  refine ⟨n, rfl, h1, h2, for_range Pv p (fun i σ' H' hi p' => ?_) hd⟩
  have e0 : (0 : Int) + (i : Int) = (i : Int) := Int.zero_add _
  rw [e0]
  exact hs i σ' H' (by omega) p'
end

/-! promises -/
/-- the frame: what stood stands -/
def spGcd : Sp := fun vs H Q _ => ∃ (m n : Nat), vs = [.int (m : Int), .int (n : Int)] ∧ m * n < 2 ^ 4990 ∧ Q (.int ((Nat.gcd m n : Nat) : Int)) H
def spRat : Sp := fun vs H Q _ => ∃ (p q : Int), vs = [.int p, .int q] ∧ q ≠ 0 ∧ p.natAbs < 2 ^ 2000 ∧ q.natAbs < 2 ^ 2000 ∧ ∀ t, H t = none → Q (.ref t) (upd H t (.tup [.int (rp p q), .int (rq p q)]))
/-- a fraction stands at a -/
def FrAt (K : PySem.W.Frag) (H : Hp) (a : Addr) (p q : Int) : Prop := SqT K H a [.int p, .int q]
theorem rat_app {p q : Int} {H : Hp} {Q : VK} {E : XK} (h : q ≠ 0) (h1 : p.natAbs < 2 ^ 2000) (h2 : q.natAbs < 2 ^ 2000) (k : ∀ t, H t = none → Q (.ref t) (upd H t (.tup [.int (rp p q), .int (rq p q)]))) : spRat [.int p, .int q] H Q E :=
  ⟨p, q, rfl, h, h1, h2, k⟩
theorem draw_app {K : PySem.W.Frag} {d : Addr} {m : Int} {H : Hp} {Q : VK} {E : XK} (h : DeckAt K H d) (h1 : 0 < m) (h2 : m < 10 ^ 62) (k : ∀ v H', 0 ≤ v → v < m → DeckAt K H' d → Ex1 d H H' → Q (.int v) H') : spDraw K [.ref d, .int m] H Q E :=
  ⟨d, m, rfl, h, h1, h2, k⟩
theorem deck_app {K : PySem.W.Frag} {a : Addr} {ns : List Int} {H : Hp} {Q : VK} {E : XK} (h : SqL K H a (ns.map V.int)) (k : ∀ d H', H d = none → DeckAt K H' d → Same H H' → Q (.ref d) H') : spDeck K [.ref a] H Q E :=
  ⟨a, ns, rfl, h, k⟩
theorem DeckAt.ne {K : PySem.W.Frag} {H : Hp} {d p : Addr} (h : DeckAt K H d) (hp : H p = none) : p ≠ d := by
  obtain ⟨s, ns, a, b, c, h1, _⟩ := h
  exact fun e => by rw [e, h1] at hp; cases hp
theorem Same.t {K : PySem.W.Frag} {H H' : Hp} {a : Addr} {xs : List V} (e : Same H H') (h : SqT K H a xs) : SqT K H' a xs := by
  rcases h with (h | ⟨o, h⟩) | h
  · exact .inl (.inl (e _ _ h))
  · exact .inl (.inr ⟨o, e _ _ h⟩)
  · exact .inr h

theorem at_int {ns : List Int} {i : Int} (h0 : 0 ≤ i) (h : i < ns.length) : ∃ n, atI (ns.map V.int) i = some (.int n) := by
  obtain ⟨k, rfl⟩ : ∃ k : Nat, i = (k : Int) := ⟨i.toNat, by omega⟩
  have hk : k < ns.length := by omega
  refine ⟨ns[k], atI_nat ?_⟩
  rw [List.getElem?_map, List.getElem?_eq_getElem hk]
  rfl

theorem natAbs_ediv_of_dvd {p g : Int} (hg : 0 < g) (hd : g ∣ p) : (p / g).natAbs = p.natAbs / g.natAbs := by
  obtain ⟨k, rfl⟩ := hd
  rw [Int.mul_ediv_cancel_left k (by omega), Int.natAbs_mul, Nat.mul_div_cancel_left _ (by omega)]
theorem rat_cop (p q : Int) (h : q ≠ 0) : Nat.gcd (rp p q).natAbs (rq p q).natAbs = 1 := by
  have hg := gg_pos (p := p) h
  have e : (gg p q).natAbs = Nat.gcd p.natAbs q.natAbs := rfl
  have h0 : 0 < Nat.gcd p.natAbs q.natAbs := by omega
  have key : Nat.gcd (p / gg p q).natAbs (q / gg p q).natAbs = 1 := by
    rw [natAbs_ediv_of_dvd hg (gg_dvd_l p q), natAbs_ediv_of_dvd hg (gg_dvd_r p q), e]
    exact Nat.gcd_div_gcd_div_gcd_of_pos_right (by omega)
  unfold rp rq
  split
  · rw [Int.natAbs_neg, Int.natAbs_neg]
    exact key
  · exact key
/-- a drawn fraction -/
structure Fra (n e : Int) : Prop where
  pos : 0 < e
  bn : n.natAbs ≤ 10 ^ 12
  be : e.natAbs ≤ 10 ^ 12
  cop : Nat.gcd n.natAbs e.natAbs = 1
theorem big12 {x : Int} (h : x.natAbs ≤ 10 ^ 12) : x.natAbs < 2 ^ 2000 := by
  have : (10 : Nat) ^ 12 < 2 ^ 2000 := by decide +kernel
  omega
theorem big40 {x : Int} (h : x.natAbs < 2 ^ 2000) : x.natAbs < 2 ^ 4000 := by
  have : (2 : Nat) ^ 2000 < 2 ^ 4000 := by decide +kernel
  omega
theorem Fra.int {n : Int} (h : n.natAbs ≤ 10 ^ 12) : Fra n 1 := ⟨by decide, h, by decide, Nat.gcd_one_right _⟩
theorem Fra.rat {p q : Int} (h : q ≠ 0) (h1 : p.natAbs ≤ 10 ^ 12) (h2 : q.natAbs ≤ 10 ^ 12) : Fra (rp p q) (rq p q) :=
  ⟨rq_pos p q h, Nat.le_trans (rp_abs p q h) h1, Nat.le_trans (rq_abs p q h) h2, rat_cop p q h⟩
def spBig (K : PySem.W.Frag) : Sp := fun vs H Q _ => ∃ (d : Addr), vs = [.ref d] ∧ DeckAt K H d ∧ ∀ t H' n e, DeckAt K H' d → Ex1 d H H' → t ≠ d → SqT K H' t [.int n, .int e] → Fra n e → Q (.ref t) H'
theorem big_app {K : PySem.W.Frag} {d : Addr} {H : Hp} {Q : VK} {E : XK} (h : DeckAt K H d) (k : ∀ t H' n e, DeckAt K H' d → Ex1 d H H' → t ≠ d → SqT K H' t [.int n, .int e] → Fra n e → Q (.ref t) H') : spBig K [.ref d] H Q E := ⟨d, rfl, h, k⟩
def sg (x : Int) : Int := if 0 < x then 1 else if x < 0 then -1 else 0
theorem sg_neg (x : Int) : sg (-x) = -sg x := by
  unfold sg
  rcases (by omega : x < 0 ∨ x = 0 ∨ 0 < x) with h | h | h
  · rw [if_pos (by omega), if_neg (by omega), if_pos h]; rfl
  · subst h; rfl
  · rw [if_neg (by omega), if_pos (by omega), if_pos h]

def spCmp (K : PySem.W.Frag) : Sp := fun vs H Q _ => ∃ (a b : Addr) (n e m k : Int), vs = [.ref a, .ref b] ∧ SqT K H a [.int n, .int e] ∧ SqT K H b [.int m, .int k] ∧
  n.natAbs < 2 ^ 4000 ∧ e.natAbs < 2 ^ 4000 ∧ m.natAbs < 2 ^ 4000 ∧ k.natAbs < 2 ^ 4000 ∧ Q (.int (sg (n * k - m * e))) H
theorem cmp_app {K : PySem.W.Frag} {a b : Addr} {n e m k : Int} {H : Hp} {Q : VK} {E : XK} (h1 : SqT K H a [.int n, .int e]) (h2 : SqT K H b [.int m, .int k])
  (f1 : Fra n e) (f2 : Fra m k) (q : Q (.int (sg (n * k - m * e))) H) : spCmp K [.ref a, .ref b] H Q E :=
  ⟨a, b, n, e, m, k, rfl, h1, h2, big40 (big12 f1.bn), big40 (big12 f1.be), big40 (big12 f2.bn), big40 (big12 f2.be), q⟩
def spDown (K : PySem.W.Frag) : Sp := fun vs H Q _ => ∃ (a : Addr) (n e : Int), vs = [.ref a] ∧ SqT K H a [.int n, .int e] ∧ 0 < e ∧ e.natAbs < 2 ^ 4000 ∧ Q (.int (n / e)) H
def spNear (K : PySem.W.Frag) : Sp := fun vs H Q _ => ∃ (a : Addr) (n e : Int), vs = [.ref a] ∧ SqT K H a [.int n, .int e] ∧ 0 < e ∧ (2 * e).natAbs < 2 ^ 4000 ∧ Q (.int ((2 * n + e) / (2 * e))) H
theorem down_app {K : PySem.W.Frag} {a : Addr} {n e : Int} {H : Hp} {Q : VK} {E : XK} (h1 : SqT K H a [.int n, .int e]) (f1 : Fra n e) (q : Q (.int (n / e)) H) : spDown K [.ref a] H Q E := ⟨a, n, e, rfl, h1, f1.pos, big40 (big12 f1.be), q⟩
theorem near_app {K : PySem.W.Frag} {a : Addr} {n e : Int} {H : Hp} {Q : VK} {E : XK} (h1 : SqT K H a [.int n, .int e]) (f1 : Fra n e) (q : Q (.int ((2 * n + e) / (2 * e))) H) : spNear K [.ref a] H Q E :=
  ⟨a, n, e, rfl, h1, f1.pos, by
    have h2 := f1.be
    have h3 : (2 : Nat) * 10 ^ 12 < 2 ^ 4000 := by decide +kernel
    omega, q⟩
def spIsInt : Sp := fun vs H Q _ => ∃ (i : Int), vs = [.int i] ∧ Q (.bl true) H
theorem isint_app {i : Int} {H : Hp} {Q : VK} {E : XK} (q : Q (.bl true) H) : spIsInt [.int i] H Q E := ⟨i, rfl, q⟩
def spSameI : Sp := fun vs H Q _ => ∃ (i j : Int), vs = [.int i, .int j] ∧ Q (.bl (decide (i = j))) H
theorem sameI_app {i j : Int} {H : Hp} {Q : VK} {E : XK} (q : Q (.bl (decide (i = j))) H) : spSameI [.int i, .int j] H Q E := ⟨i, j, rfl, q⟩

theorem fra_app {p q : Int} {H : Hp} {Q : VK} {E : XK} (h : q ≠ 0) (h1 : p.natAbs ≤ 10 ^ 12) (h2 : q.natAbs ≤ 10 ^ 12) (k : ∀ t n e, H t = none → Fra n e → Q (.ref t) (upd H t (.tup [.int n, .int e]))) : spRat [.int p, .int q] H Q E :=
  rat_app h (big12 h1) (big12 h2) fun t ht => k t _ _ ht (Fra.rat h h1 h2)
theorem down2_app {K : PySem.W.Frag} {a : Addr} {n e : Int} {H : Hp} {Q : VK} {E : XK} (h1 : SqT K H a [.int n, .int e]) (f1 : Fra n e)
    (q : ∀ v, v.natAbs < 2 ^ 4000 → (v + 1).natAbs < 2 ^ 4000 → e.natAbs < 2 ^ 4000 → v * e ≤ n → n < (v + 1) * e → Q (.int v) H) : spDown K [.ref a] H Q E := by
  have hp := f1.pos
  have b1 := f1.bn
  have b2 := f1.be
  have big : (10 : Nat) ^ 12 + 1 < 2 ^ 4000 := by decide +kernel
  have b3 : (n / e).natAbs ≤ n.natAbs := Int.natAbs_ediv_le_natAbs n e
  refine down_app h1 f1 (q _ (by omega) (by omega) (by omega) ?_ ?_)
  · exact Int.ediv_mul_le n (by omega)
  · exact Int.lt_ediv_add_one_mul_self n hp
theorem near2_app {K : PySem.W.Frag} {a : Addr} {n e : Int} {H : Hp} {Q : VK} {E : XK} (h1 : SqT K H a [.int n, .int e]) (f1 : Fra n e)
    (q : ∀ v, (2 * v).natAbs < 2 ^ 4000 → e.natAbs < 2 ^ 4000 → 2 * v * e ≤ 2 * n + e → 2 * n - e < 2 * v * e → Q (.int v) H) : spNear K [.ref a] H Q E := by
  have hp := f1.pos
  have b1 := f1.bn
  have b2 := f1.be
  have big : (10 : Nat) ^ 14 < 2 ^ 4000 := by decide +kernel
  have b3 : ((2 * n + e) / (2 * e)).natAbs ≤ (2 * n + e).natAbs := Int.natAbs_ediv_le_natAbs _ _
  have c1 := Int.ediv_mul_le (2 * n + e) (b := 2 * e) (by omega)
  have c2 := Int.lt_ediv_add_one_mul_self (2 * n + e) (b := 2 * e) (by omega)
  generalize hv : (2 * n + e) / (2 * e) = v at *
  have e1 : v * (2 * e) = 2 * v * e := by rw [Int.mul_left_comm, Int.mul_assoc]
  have e2 : (v + 1) * (2 * e) = 2 * v * e + 2 * e := by rw [Int.add_mul, e1, Int.one_mul]
  refine near_app h1 f1 ?_
  rw [hv]
  exact q v (by omega) (by omega) (by omega) (by omega)

theorem sg_opp (x y : Int) : sg (x - y) = -sg (y - x) := by
  rw [← sg_neg]
  congr 1
  omega
theorem of_dec {p : Prop} [Decidable p] {Q : VK} {H : Hp} (h : p) (q : Q (.bl true) H) : Q (.bl (decide p)) H := by
  rw [decide_eq_true h]
  exact q
theorem DeckAt.ne' {K : PySem.W.Frag} {H : Hp} {d p : Addr} (hp : H p = none) (h : DeckAt K H d) : p ≠ d := h.ne hp
end Fl

set_option Elab.async false
set_option linter.all false
set_option maxRecDepth 100000
set_option maxHeartbeats 4000000
set_option exponentiation.threshold 20000
/-! fractions as numbers -/
namespace Fl
open PySem PySem.Spec PyProof.Rows L2

theorem gg_comm (p q : Int) : gg p q = ((Int.gcd q p : Nat) : Int) := by
  unfold gg Int.gcd
  rw [Nat.gcd_comm]
theorem rp_num {p q : Int} (h : q ≠ 0) : rp p q = (Rat.divInt p q).num := by
  rw [Rat.num_divInt, ← gg_comm]
  have hg := gg_pos (p := p) h
  obtain ⟨k, hk⟩ := gg_dvd_l p q
  have e : p / gg p q = k := Int.ediv_eq_of_eq_mul_right (by omega) hk
  unfold rp
  rw [e]
  split
  · rename_i hq
    rw [Int.sign_eq_neg_one_of_neg hq]
    refine (Int.ediv_eq_of_eq_mul_right (by omega) ?_).symm
    rw [Int.mul_neg, ← hk, Int.neg_mul, Int.one_mul]
  · rw [Int.sign_eq_one_of_pos (by omega), Int.one_mul, e]
theorem rq_den {p q : Int} (h : q ≠ 0) : rq p q = ((Rat.divInt p q).den : Int) := by
  rw [Rat.den_divInt, if_neg h]
  have hg := gg_pos (p := p) h
  obtain ⟨k, hk⟩ := gg_dvd_r p q
  have e : q / gg p q = k := Int.ediv_eq_of_eq_mul_right (by omega) hk
  have e2 : ((q.natAbs / Int.gcd q p : Nat) : Int) = (q.natAbs : Int) / gg p q := by
    rw [gg_comm]
    exact Int.natCast_ediv _ _
  rw [e2]
  unfold rq
  rw [e]
  split
  · rename_i hq
    refine (Int.ediv_eq_of_eq_mul_right (by omega) ?_).symm
    rw [Int.mul_neg, ← hk]
    omega
  · refine (Int.ediv_eq_of_eq_mul_right (by omega) ?_).symm
    rw [← hk]
    omega

/-- the fraction x stands at a -/
def RV (K : PySem.W.Frag) (H : Hp) (a : Addr) (x : Rat) : Prop := SqT K H a [.int x.num, .int (x.den : Int)]
theorem RV.ex1 {K : PySem.W.Frag} {d : Addr} {H H' : Hp} {a : Addr} {x : Rat} (e : Ex1 d H H') (n : a ≠ d) (h : RV K H a x) : RV K H' a x := Ex1.t e n h
theorem RV.same {K : PySem.W.Frag} {H H' : Hp} {a : Addr} {x : Rat} (e : Same H H') (h : RV K H a x) : RV K H' a x := Same.t e h
theorem RV.sq {K : PySem.W.Frag} {H : Hp} {a : Addr} {x : Rat} (h : RV K H a x) : SqT K H a [.int x.num, .int (x.den : Int)] := h
/-- of moderate size -/
structure Md (x : Rat) : Prop where
  n : x.num.natAbs < 2 ^ 900
  d : x.den < 2 ^ 900
structure Szq (k : Nat) (x : Rat) : Prop where
  n : x.num.natAbs < 2 ^ k
  d : x.den < 2 ^ k
theorem Szq.md {k : Nat} {x : Rat} (h : Szq k x) (hk : k ≤ 900) : Md x :=
  ⟨Nat.lt_of_lt_of_le h.n (Nat.pow_le_pow_right (by decide) hk), Nat.lt_of_lt_of_le h.d (Nat.pow_le_pow_right (by decide) hk)⟩
theorem szq_div {p q : Int} {k : Nat} (h : q ≠ 0) (h1 : p.natAbs < 2 ^ k) (h2 : q.natAbs < 2 ^ k) : Szq k (Rat.divInt p q) := by
  have e1 := rp_abs p q h
  have e2 := rq_abs p q h
  rw [rp_num h] at e1
  rw [rq_den h] at e2
  exact ⟨by omega, by omega⟩
theorem pw_add {a b j k : Nat} (ha : a < 2 ^ j) (hb : b < 2 ^ k) : a * b < 2 ^ (j + k) := by
  rw [Nat.pow_add]
  exact Nat.mul_lt_mul'' ha hb
theorem add_div (x y : Rat) : Rat.divInt (x.num * y.den + y.num * x.den) ((x.den : Int) * y.den) = x + y := by
  rw [Rat.add_def', ← Rat.divInt_ofNat, Int.natCast_mul]
theorem sub_div (x y : Rat) : Rat.divInt (x.num * y.den - y.num * x.den) ((x.den : Int) * y.den) = x - y := by
  rw [Rat.sub_def', ← Rat.divInt_ofNat, Int.natCast_mul]
theorem mul_div' (x y : Rat) : Rat.divInt (x.num * y.num) ((x.den : Int) * y.den) = x * y := by
  rw [Rat.mul_def', ← Rat.divInt_ofNat, Int.natCast_mul]
theorem div_div' (x y : Rat) : Rat.divInt (x.num * y.den) ((x.den : Int) * y.num) = x / y := by
  rw [Rat.div_def, Rat.inv_def]
  conv => rhs; rw [← Rat.num_divInt_den x]
  rw [Rat.divInt_mul_divInt]
theorem den0 (x : Rat) : (x.den : Int) ≠ 0 := by
  have := x.den_nz
  omega
theorem sz_cross {x y : Rat} {j k : Nat} (hx : Szq j x) (hy : Szq k y) : (x.num * y.den).natAbs < 2 ^ (j + k) ∧ (y.num * x.den).natAbs < 2 ^ (j + k) ∧ ((x.den : Int) * y.den).natAbs < 2 ^ (j + k) ∧ (x.num * y.num).natAbs < 2 ^ (j + k) ∧ ((x.den : Int) * y.num).natAbs < 2 ^ (j + k) := by
  simp only [Int.natAbs_mul, Int.natAbs_natCast]
  refine ⟨pw_add hx.n hy.d, ?_, pw_add hx.d hy.d, pw_add hx.n hy.n, pw_add hx.d hy.n⟩
  rw [Nat.mul_comm]
  exact pw_add hx.d hy.n
theorem Szq.add {x y : Rat} {j k : Nat} (hx : Szq j x) (hy : Szq k y) : Szq (j + k + 1) (x + y) := by
  obtain ⟨h1, h2, h3, h4, h5⟩ := sz_cross hx hy
  rw [← add_div]
  have e : 2 ^ (j + k + 1) = 2 * 2 ^ (j + k) := by rw [Nat.pow_succ, Nat.mul_comm]
  exact szq_div (Int.mul_ne_zero (den0 x) (den0 y)) (by omega) (by omega)
theorem Szq.sub {x y : Rat} {j k : Nat} (hx : Szq j x) (hy : Szq k y) : Szq (j + k + 1) (x - y) := by
  obtain ⟨h1, h2, h3, h4, h5⟩ := sz_cross hx hy
  rw [← sub_div]
  have e : 2 ^ (j + k + 1) = 2 * 2 ^ (j + k) := by rw [Nat.pow_succ, Nat.mul_comm]
  exact szq_div (Int.mul_ne_zero (den0 x) (den0 y)) (by omega) (by omega)
theorem Szq.mul {x y : Rat} {j k : Nat} (hx : Szq j x) (hy : Szq k y) : Szq (j + k) (x * y) := by
  obtain ⟨h1, h2, h3, h4, h5⟩ := sz_cross hx hy
  rw [← mul_div']
  exact szq_div (Int.mul_ne_zero (den0 x) (den0 y)) (by omega) (by omega)
theorem num0 {x : Rat} (h : x ≠ 0) : x.num ≠ 0 := fun e => h (Rat.num_eq_zero.mp e)
theorem Szq.div {x y : Rat} {j k : Nat} (hx : Szq j x) (hy : Szq k y) (h : y ≠ 0) : Szq (j + k) (x / y) := by
  obtain ⟨h1, h2, h3, h4, h5⟩ := sz_cross hx hy
  rw [← div_div']
  exact szq_div (Int.mul_ne_zero (den0 x) (num0 h)) (by omega) (by omega)
theorem Fra.rat_of {n e : Int} (h : Fra n e) : ∃ x : Rat, x.num = n ∧ (x.den : Int) = e ∧ Szq 41 x := by
  have hp := h.pos
  obtain ⟨k, rfl⟩ : ∃ k : Nat, e = (k : Int) := ⟨e.toNat, by omega⟩
  refine ⟨⟨n, k, by omega, h.cop⟩, rfl, rfl, ?_, ?_⟩
  · have := h.bn
    show n.natAbs < _
    have e : (10 : Nat) ^ 12 < 2 ^ 41 := by decide
    omega
  · have := h.be
    show k < _
    have e : (10 : Nat) ^ 12 < 2 ^ 41 := by decide
    omega

/-! promises -/
def spRatP : Sp := spRat
def spBin (K : PySem.W.Frag) (f : Rat → Rat → Rat) (pre : Rat → Rat → Prop) : Sp := fun vs H Q _ => ∃ (a b : Addr) (x y : Rat), vs = [.ref a, .ref b] ∧ RV K H a x ∧ RV K H b y ∧ Md x ∧ Md y ∧ pre x y ∧
  ∀ t H', H t = none → Same H H' → RV K H' t (f x y) → Q (.ref t) H'
theorem bin_app {K : PySem.W.Frag} {f : Rat → Rat → Rat} {pre : Rat → Rat → Prop} {a b : Addr} {x y : Rat} {H : Hp} {Q : VK} {E : XK} (h1 : RV K H a x) (h2 : RV K H b y) (m1 : Md x) (m2 : Md y) (hp : pre x y)
  (k : ∀ t H', H t = none → Same H H' → RV K H' t (f x y) → Q (.ref t) H') : spBin K f pre [.ref a, .ref b] H Q E := ⟨a, b, x, y, rfl, h1, h2, m1, m2, hp, k⟩
def cq (x y : Rat) : Int := if x < y then -1 else if y < x then 1 else 0
def spCq (K : PySem.W.Frag) : Sp := fun vs H Q _ => ∃ (a b : Addr) (x y : Rat), vs = [.ref a, .ref b] ∧ RV K H a x ∧ RV K H b y ∧ Md x ∧ Md y ∧ Q (.int (cq x y)) H
theorem cq_app {K : PySem.W.Frag} {a b : Addr} {x y : Rat} {H : Hp} {Q : VK} {E : XK} (h1 : RV K H a x) (h2 : RV K H b y) (m1 : Md x) (m2 : Md y) (q : Q (.int (cq x y)) H) : spCq K [.ref a, .ref b] H Q E := ⟨a, b, x, y, rfl, h1, h2, m1, m2, q⟩
theorem cq_add (x y z : Rat) : cq (x + z) (y + z) = cq x y := by
  unfold cq
  simp only [Rat.add_lt_add_right]
def nr (x : Rat) : Int := (2 * x.num + x.den) / (2 * x.den)
def spNr (K : PySem.W.Frag) : Sp := fun vs H Q _ => ∃ (a : Addr) (x : Rat), vs = [.ref a] ∧ RV K H a x ∧ Md x ∧ Q (.int (nr x)) H
theorem nr_app {K : PySem.W.Frag} {a : Addr} {x : Rat} {H : Hp} {Q : VK} {E : XK} (h1 : RV K H a x) (m1 : Md x) (q : Q (.int (nr x)) H) : spNr K [.ref a] H Q E := ⟨a, x, rfl, h1, m1, q⟩
def spRatq (K : PySem.W.Frag) : Sp := fun vs H Q _ => ∃ (p q : Int), vs = [.int p, .int q] ∧ q ≠ 0 ∧ p.natAbs < 2 ^ 1900 ∧ q.natAbs < 2 ^ 1900 ∧ ∀ t H', H t = none → Same H H' → RV K H' t (Rat.divInt p q) → Q (.ref t) H'
theorem ratq_app {K : PySem.W.Frag} {p q : Int} {H : Hp} {Q : VK} {E : XK} (h : q ≠ 0) (h1 : p.natAbs < 2 ^ 1900) (h2 : q.natAbs < 2 ^ 1900) (k : ∀ t H', H t = none → Same H H' → RV K H' t (Rat.divInt p q) → Q (.ref t) H') : spRatq K [.int p, .int q] H Q E := ⟨p, q, rfl, h, h1, h2, k⟩
theorem nr_add (x : Rat) (w : Int) : nr (x + Rat.divInt w 1) = nr x + w := by
  generalize hy : x + Rat.divInt w 1 = y
  have key : y.num * x.den = (x.num + w * x.den) * y.den := by
    have e : Rat.divInt (x.num + w * x.den) x.den = y := by
      rw [← hy]
      conv => rhs; lhs; rw [← Rat.num_divInt_den x]
      rw [Rat.divInt_add_divInt _ _ (den0 x) (by decide), Int.mul_one, Int.mul_one]
    rw [← Rat.num_divInt_den y] at e
    exact ((Rat.divInt_eq_divInt_iff (den0 x) (den0 y)).mp e).symm
  unfold nr
  have hx := x.den_pos
  have hyp := y.den_pos
  generalize x.num = n at *
  generalize (y.num) = m at *
  have hx' : (0 : Int) < x.den := by omega
  have hy' : (0 : Int) < y.den := by omega
  generalize (x.den : Int) = e at *
  generalize (y.den : Int) = k at *
  have c1 := Int.ediv_mul_le (2 * n + e) (b := 2 * e) (by omega)
  have c2 := Int.lt_ediv_add_one_mul_self (2 * n + e) (b := 2 * e) (by omega)
  generalize (2 * n + e) / (2 * e) = v at *
  have g1 : (v + w) * (2 * k) ≤ 2 * m + k := by
    refine Int.le_of_mul_le_mul_right (a := e) ?_ hx'
    have h1 : v * (2 * e) * k ≤ (2 * n + e) * k := Int.mul_le_mul_of_nonneg_right c1 (by omega)
    have e1 : (v + w) * (2 * k) * e = v * (2 * e) * k + 2 * (w * e * k) := by grind
    have e2 : (2 * m + k) * e = 2 * (m * e) + k * e := by grind
    rw [e1, e2, key]
    have e3 : 2 * ((n + w * e) * k) + k * e = (2 * n + e) * k + 2 * (w * e * k) := by grind
    rw [e3]
    omega
  have g2 : 2 * m + k < (v + w + 1) * (2 * k) := by
    refine Int.lt_of_mul_lt_mul_right (a := e) ?_ (by omega)
    have h1 : (2 * n + e) * k < (v + 1) * (2 * e) * k := Int.mul_lt_mul_of_pos_right c2 hy'
    have e1 : (v + w + 1) * (2 * k) * e = (v + 1) * (2 * e) * k + 2 * (w * e * k) := by grind
    have e2 : (2 * m + k) * e = 2 * (m * e) + k * e := by grind
    rw [e1, e2, key]
    have e3 : 2 * ((n + w * e) * k) + k * e = (2 * n + e) * k + 2 * (w * e * k) := by grind
    rw [e3]
    omega
  have f1 : v + w ≤ (2 * m + k) / (2 * k) := (Int.le_ediv_iff_mul_le (by omega)).mpr g1
  have f2 : (2 * m + k) / (2 * k) < v + w + 1 := (Int.ediv_lt_iff_lt_mul (by omega)).mpr g2
  omega
/-- != of two fractions that are the same number -/
theorem ne_app {K : PySem.W.Frag} {a b : Addr} {x y : Rat} {H : Hp} {Q : VK} (h1 : RV K H a x) (h2 : RV K H b y) (e : x = y) (q : Q (.bl false) H) : rNeD K (.ref a) (.ref b) H Q := by
  subst e
  have d1 : ∀ {a : Addr}, RV K H a x → Dp K H (.ref a) (.tuple [.int x.num, .int x.den]) := fun h => .tup h (.cons (.int _) (.cons (.int _) .nil))
  refine ⟨_, _, d1 h1, d1 h2, rfl, rfl, ?_⟩
  have e2 : PyData.eqv (.tuple [.int x.num, .int x.den]) (.tuple [.int x.num, .int x.den]) = true := SeqAt.eqv_refl _ rfl
  rw [e2]
  exact q
theorem g_neD {r : R2} {x y : V} {H : Hp} {Q : VK} (h : r x y H Q) : r x y H Q := h

theorem Md.big {x : Rat} (h : Md x) : x.num.natAbs < 2 ^ 4000 ∧ ((x.den : Int)).natAbs < 2 ^ 4000 := by
  have h1 := h.n
  have h2 := h.d
  have e : (2 : Nat) ^ 900 < 2 ^ 4000 := by decide +kernel
  constructor <;> omega
theorem md_cross {x y : Rat} (hx : Md x) (hy : Md y) : (x.num * y.den + y.num * x.den).natAbs < 2 ^ 1900 ∧ (x.num * y.den - y.num * x.den).natAbs < 2 ^ 1900 ∧ ((x.den : Int) * y.den).natAbs < 2 ^ 1900 ∧ (x.num * y.num).natAbs < 2 ^ 1900 ∧ ((x.den : Int) * y.num).natAbs < 2 ^ 1900 ∧ (x.num * y.den).natAbs < 2 ^ 1900 := by
  obtain ⟨h1, h2, h3, h4, h5⟩ := sz_cross (j := 900) (k := 900) ⟨hx.n, hx.d⟩ ⟨hy.n, hy.d⟩
  have e : 2 * 2 ^ (900 + 900) < (2 : Nat) ^ 1900 := by decide +kernel
  refine ⟨?_, ?_, ?_, ?_, ?_, ?_⟩ <;> omega

theorem bigq_app {K : PySem.W.Frag} {d : Addr} {H : Hp} {Q : VK} {E : XK} (h : DeckAt K H d) (k : ∀ t H' (x : Rat), DeckAt K H' d → Ex1 d H H' → t ≠ d → RV K H' t x → Szq 41 x → Q (.ref t) H') : spBig K [.ref d] H Q E := by
  refine big_app h fun t H' n e hD hE hn hS hF => ?_
  obtain ⟨x, rfl, rfl, hz⟩ := hF.rat_of
  exact k t H' x hD hE hn hS hz
theorem ne_of_num {x : Rat} (h : ¬ x.num = 0) : x ≠ 0 := fun e => h (by rw [e]; rfl)
end Fl

set_option Elab.async false
set_option linter.all false
set_option maxRecDepth 100000
set_option maxHeartbeats 4000000
set_option exponentiation.threshold 20000
/-! data at any depth, apart from the addresses S that are being written -/
namespace Fl
open PySem PySem.Spec PyProof.Rows L2

mutual
inductive Dq (S : List Addr) (H : Hp) : V → PyData → Prop
  | non : Dq S H .non .none
  | bl (b : Bool) : Dq S H (.bl b) (.bool b)
  | int (i : Int) : Dq S H (.int i) (.int i)
  | str (x : Str) : Dq S H (.str x) (.str x)
  | lst {a : Addr} {xs : List V} {ds : List PyData} : a ∉ S → H a = some (.lst xs) → DqA S H xs ds → Dq S H (.ref a) (.list ds)
  | tup {a : Addr} {xs : List V} {ds : List PyData} : a ∉ S → H a = some (.tup xs) → DqA S H xs ds → Dq S H (.ref a) (.tuple ds)
  | ins {a C dx : Addr} {fs : List (Str × V)} {ds : List (PyData × PyData)} : a ∉ S → H a = some (.ins C dx fs) → DqF S H fs ds → Dq S H (.ref a) (.dict ((.none, .int (C : Int)) :: ds))
inductive DqA (S : List Addr) (H : Hp) : List V → List PyData → Prop
  | nil : DqA S H [] []
  | cons {v : V} {vs : List V} {d : PyData} {ds : List PyData} : Dq S H v d → DqA S H vs ds → DqA S H (v :: vs) (d :: ds)
inductive DqF (S : List Addr) (H : Hp) : List (Str × V) → List (PyData × PyData) → Prop
  | nil : DqF S H [] []
  | cons {n : Str} {v : V} {fs : List (Str × V)} {d : PyData} {ds : List (PyData × PyData)} : Dq S H v d → DqF S H fs ds → DqF S H ((n, v) :: fs) ((.str n, d) :: ds)
end
mutual
theorem Dq.to {S S' : List Addr} {H H' : Hp} (k : ∀ a o, a ∉ S → H a = some o → a ∉ S' ∧ H' a = some o) : ∀ {v : V} {d : PyData}, Dq S H v d → Dq S' H' v d
  | _, _, .non => .non
  | _, _, .bl b => .bl b
  | _, _, .int i => .int i
  | _, _, .str x => .str x
  | _, _, .lst n h r => .lst (k _ _ n h).1 (k _ _ n h).2 (DqA.to k r)
  | _, _, .tup n h r => .tup (k _ _ n h).1 (k _ _ n h).2 (DqA.to k r)
  | _, _, .ins n h r => .ins (k _ _ n h).1 (k _ _ n h).2 (DqF.to k r)
theorem DqA.to {S S' : List Addr} {H H' : Hp} (k : ∀ a o, a ∉ S → H a = some o → a ∉ S' ∧ H' a = some o) : ∀ {vs : List V} {ds : List PyData}, DqA S H vs ds → DqA S' H' vs ds
  | _, _, .nil => .nil
  | _, _, .cons h r => .cons (Dq.to k h) (DqA.to k r)
theorem DqF.to {S S' : List Addr} {H H' : Hp} (k : ∀ a o, a ∉ S → H a = some o → a ∉ S' ∧ H' a = some o) : ∀ {fs : List (Str × V)} {ds : List (PyData × PyData)}, DqF S H fs ds → DqF S' H' fs ds
  | _, _, .nil => .nil
  | _, _, .cons h r => .cons (Dq.to k h) (DqF.to k r)
end
mutual
theorem Dq.dp {S : List Addr} {H : Hp} {K : PySem.W.Frag} : ∀ {v : V} {d : PyData}, Dq S H v d → d.hasDict = false → Dp K H v d
  | _, _, .non, _ => .non
  | _, _, .bl b, _ => .bl b
  | _, _, .int i, _ => .int i
  | _, _, .str x, _ => .str x
  | _, _, .lst _ h r, n => .lst (SqL.of h) (DqA.dp r (by simpa [PyData.hasDict] using n))
  | _, _, .tup _ h r, n => .tup (SqT.of h) (DqA.dp r (by simpa [PyData.hasDict] using n))
  | _, _, .ins _ _ _, n => by simp [PyData.hasDict] at n
theorem DqA.dp {S : List Addr} {H : Hp} {K : PySem.W.Frag} : ∀ {vs : List V} {ds : List PyData}, DqA S H vs ds → PyData.hasDictAll ds = false → DpAll K H vs ds
  | _, _, .nil, _ => .nil
  | _, _, .cons h r, n => .cons (Dq.dp h (by simp [PyData.hasDictAll] at n; exact n.1)) (DqA.dp r (by simp [PyData.hasDictAll] at n; exact n.2))
end
mutual
theorem nodict_lay : ∀ d : PyData, d.canLay0 = true → d.hasDict = false
  | .none, _ | .bool _, _ | .int _, _ | .str _, _ => rfl
  | .list xs, h => by
    simp only [PyData.hasDict]
    exact nodictAll_lay xs (by simpa [PyData.canLay0] using h)
  | .tuple xs, h => by
    simp only [PyData.hasDict]
    exact nodictAll_lay xs (by simpa [PyData.canLay0] using h)
  | .dict _, h => by simp [PyData.canLay0] at h
theorem nodictAll_lay : ∀ ds : List PyData, PyData.canLayAll0 ds = true → PyData.hasDictAll ds = false
  | [], _ => rfl
  | d :: ds, h => by
    simp [PyData.canLayAll0] at h
    simp [PyData.hasDictAll, nodict_lay d h.1, nodictAll_lay ds h.2]
end
theorem nodict_sh {d : PyData} (h : SeqAt.shaped d = true) : d.hasDict = false := by
  unfold SeqAt.shaped at h
  simp only [Bool.and_eq_true] at h
  exact nodict_lay d h.1
/-- all but what stands at S stands -/
def Fr (S : List Addr) (H H' : Hp) : Prop := ∀ a o, a ∉ S → H a = some o → H' a = some o
/-- these are there -/
def Al (S : List Addr) (H : Hp) : Prop := ∀ a, a ∈ S → H a ≠ none
section
variable {S T : List Addr} {H H' H2 : Hp} {a p D : Addr} {v : V} {d : PyData} {vs ws : List V} {ds es : List PyData} {o : HO}
theorem Fr.refl : Fr S H H := fun _ _ _ h => h
theorem Fr.trans (h : Fr S H H') (k : Fr S H' H2) : Fr S H H2 := fun a o n e => k a o n (h a o n e)
theorem Fr.mono (h : Fr S H H') (k : ∀ a, a ∈ S → a ∈ T) : Fr T H H' := fun a o n e => h a o (fun m => n (k a m)) e
theorem Fr.same (h : Same H H') : Fr S H H' := fun a o _ e => h a o e
theorem Fr.new (h : H p = none) : Fr S H (upd H p o) := Fr.same (Fl.Same.new h)
theorem Fr.upd (h : p ∈ S) : Fr S H (upd H p o) := fun a u n e => by
  rw [upd_ne (fun q => n (by rw [q]; exact h))]
  exact e
theorem Fr.sm (h : Fr [] H H') : Same H H' := fun a o e => h a o (List.not_mem_nil) e
theorem Al.nil : Al [] H := fun a h => nomatch h
theorem Al.cons (h : H a ≠ none) (k : Al S H) : Al (a :: S) H := fun b m => by
  rcases List.mem_cons.mp m with rfl | m
  · exact h
  · exact k b m
theorem Al.same (k : Al S H) (e : Same H H') : Al S H' := fun b m q => by
  cases z : H b with
  | none => exact k b m z
  | some o => rw [e b o z] at q; cases q
theorem Al.fr (k : Al S H) (e : Fr T H H') (k2 : Al T H') : Al S H' := fun b m q => by
  by_cases hb : b ∈ T
  · exact k2 b hb q
  · cases z : H b with
    | none => exact k b m z
    | some o => rw [e b o hb z] at q; cases q
theorem Al.ni (k : Al S H) (e : H p = none) : p ∉ S := fun m => k p m e
theorem Dq.fr (h : Dq S H v d) (e : Fr S H H') : Dq S H' v d := h.to fun a o n q => ⟨n, e a o n q⟩
theorem Dq.same (h : Dq S H v d) (e : Same H H') : Dq S H' v d := h.fr (Fr.same e)
theorem Dq.mono (h : Dq S H v d) (k : ∀ a, a ∈ T → a ∈ S) : Dq T H v d := h.to fun a o n q => ⟨fun m => n (k a m), q⟩
theorem Dq.new (h : Dq S H v d) (e : H D = none) : Dq (D :: S) H v d := h.to fun a o n q => ⟨fun m => by
  rcases List.mem_cons.mp m with rfl | m
  · rw [e] at q; cases q
  · exact n m, q⟩
theorem Dq.tail (h : Dq (D :: S) H v d) : Dq S H v d := h.mono fun _ m => List.mem_cons_of_mem _ m
theorem DqA.fr (h : DqA S H vs ds) (e : Fr S H H') : DqA S H' vs ds := h.to fun a o n q => ⟨n, e a o n q⟩
theorem DqA.same (h : DqA S H vs ds) (e : Same H H') : DqA S H' vs ds := h.fr (Fr.same e)
theorem DqA.mono (h : DqA S H vs ds) (k : ∀ a, a ∈ T → a ∈ S) : DqA T H vs ds := h.to fun a o n q => ⟨fun m => n (k a m), q⟩
theorem DqA.new (h : DqA S H vs ds) (e : H D = none) : DqA (D :: S) H vs ds := h.to fun a o n q => ⟨fun m => by
  rcases List.mem_cons.mp m with rfl | m
  · rw [e] at q; cases q
  · exact n m, q⟩
theorem DqA.tail (h : DqA (D :: S) H vs ds) : DqA S H vs ds := h.mono fun _ m => List.mem_cons_of_mem _ m
theorem DqA.len : ∀ {vs : List V} {ds : List PyData}, DqA S H vs ds → vs.length = ds.length
  | _, _, .nil => rfl
  | _, _, .cons _ r => congrArg (· + 1) (DqA.len r)
theorem DqA.app : ∀ {vs : List V} {ds : List PyData}, DqA S H vs ds → DqA S H ws es → DqA S H (vs ++ ws) (ds ++ es)
  | _, _, .nil, k => k
  | _, _, .cons h r, k => .cons h (DqA.app r k)
theorem DqA.one (h : Dq S H v d) : DqA S H [v] [d] := .cons h .nil
theorem DqA.drop : ∀ {vs : List V} {ds : List PyData} (n : Nat), DqA S H vs ds → DqA S H (vs.drop n) (ds.drop n)
  | _, _, 0, h => h
  | _, _, _ + 1, .nil => .nil
  | _, _, n + 1, .cons _ r => DqA.drop n r
theorem DqA.take : ∀ {vs : List V} {ds : List PyData} (n : Nat), DqA S H vs ds → DqA S H (vs.take n) (ds.take n)
  | _, _, 0, _ => .nil
  | _, _, _ + 1, .nil => .nil
  | _, _, n + 1, .cons h r => .cons h (DqA.take n r)
theorem DqA.rev : ∀ {vs : List V} {ds : List PyData}, DqA S H vs ds → DqA S H vs.reverse ds.reverse
  | _, _, .nil => .nil
  | _, _, .cons h r => by
    rw [List.reverse_cons, List.reverse_cons]
    exact (DqA.rev r).app (.one h)
theorem DqA.get : ∀ {vs : List V} {ds : List PyData} {i : Nat}, DqA S H vs ds → vs[i]? = some v → ∃ d, ds[i]? = some d ∧ Dq S H v d
  | _, _, _, .nil, e => by simp at e
  | _, _, 0, .cons h _, e => by simp at e; subst e; exact ⟨_, rfl, h⟩
  | _, _, i + 1, .cons _ r, e => by
    obtain ⟨d, h1, h2⟩ := DqA.get (i := i) r (by simpa using e)
    exact ⟨d, by simpa using h1, h2⟩
theorem DqA.getD : ∀ {vs : List V} {ds : List PyData} {i : Nat}, DqA S H vs ds → ds[i]? = some d → ∃ v, vs[i]? = some v ∧ Dq S H v d
  | _, _, _, .nil, e => by simp at e
  | _, _, 0, .cons h _, e => by simp at e; subst e; exact ⟨_, rfl, h⟩
  | _, _, i + 1, .cons _ r, e => by
    obtain ⟨v, h1, h2⟩ := DqA.getD (i := i) r (by simpa using e)
    exact ⟨v, by simpa using h1, h2⟩
theorem Dq.lstE (h : Dq S H v (.list ds)) : ∃ a xs, v = .ref a ∧ a ∉ S ∧ H a = some (.lst xs) ∧ DqA S H xs ds := by
  cases h with
  | lst n q r => exact ⟨_, _, rfl, n, q, r⟩
theorem Dq.tupE (h : Dq S H v (.tuple ds)) : ∃ a xs, v = .ref a ∧ a ∉ S ∧ H a = some (.tup xs) ∧ DqA S H xs ds := by
  cases h with
  | tup n q r => exact ⟨_, _, rfl, n, q, r⟩
theorem Dq.intE {i : Int} (h : Dq S H v (.int i)) : v = .int i := by cases h; rfl
theorem Dq.blE {b : Bool} (h : Dq S H v (.bool b)) : v = .bl b := by cases h; rfl
theorem Dq.nonE (h : Dq S H v .none) : v = .non := by cases h; rfl
theorem DqA.nilE (h : DqA S H vs []) : vs = [] := by cases h; rfl
theorem DqA.consE (h : DqA S H vs (d :: ds)) : ∃ v ws, vs = v :: ws ∧ Dq S H v d ∧ DqA S H ws ds := by
  cases h with
  | cons h r => exact ⟨_, _, rfl, h, r⟩
end
/-- a new list or tuple of data -/
theorem Dq.newL {S : List Addr} {H : Hp} {p : Addr} {xs : List V} {ds : List PyData} (k : Al S H) (e : H p = none) (h : DqA S H xs ds) : Dq S (upd H p (.lst xs)) (.ref p) (.list ds) :=
  .lst (k.ni e) upd_same (h.fr (Fr.new e))
theorem Dq.newT {S : List Addr} {H : Hp} {p : Addr} {xs : List V} {ds : List PyData} (k : Al S H) (e : H p = none) (h : DqA S H xs ds) : Dq S (upd H p (.tup xs)) (.ref p) (.tuple ds) :=
  .tup (k.ni e) upd_same (h.fr (Fr.new e))

/-- a function of data: nothing that stands is changed -/
def spD (f : List PyData → PyData → Prop) : Sp := fun vs H Q _ => ∃ S ds d, Al S H ∧ DqA S H vs ds ∧ f ds d ∧ ∀ v H', Same H H' → Dq S H' v d → Q v H'
theorem spD_app {f : List PyData → PyData → Prop} {vs : List V} {H : Hp} {Q : VK} {E : XK} (S : List Addr) (ds : List PyData) (d : PyData) (hS : Al S H) (hd : DqA S H vs ds) (hf : f ds d) (q : ∀ v H', Same H H' → Dq S H' v d → Q v H') : spD f vs H Q E :=
  ⟨S, ds, d, hS, hd, hf, q⟩

/-! ### points -/
abbrev Pt := Int × Int × Bool
def ptD (p : Pt) : PyData := .tuple [.int p.1, .int p.2.1, .bool p.2.2]
def ctD (c : List Pt) : PyData := .list (c.map ptD)
def ouD (o : List (List Pt)) : PyData := .list (o.map ctD)
theorem ptE {S : List Addr} {H : Hp} {v : V} {p : Pt} (h : Dq S H v (ptD p)) : ∃ a, v = .ref a ∧ a ∉ S ∧ H a = some (.tup [.int p.1, .int p.2.1, .bl p.2.2]) := by
  obtain ⟨a, xs, rfl, n, q, r⟩ := h.tupE
  obtain ⟨x1, w1, rfl, h1, r⟩ := r.consE
  obtain ⟨x2, w2, rfl, h2, r⟩ := r.consE
  obtain ⟨x3, w3, rfl, h3, r⟩ := r.consE
  cases r.nilE
  cases h1.intE
  cases h2.intE
  cases h3.blE
  exact ⟨a, rfl, n, q⟩
theorem ptI {S : List Addr} {H : Hp} {a : Addr} {x y : Int} {b : Bool} (n : a ∉ S) (q : H a = some (.tup [.int x, .int y, .bl b])) : Dq S H (.ref a) (ptD (x, y, b)) := .tup n q (.cons (.int _) (.cons (.int _) (.cons (.bl _) .nil)))

/-! ### comprehensions -/
section
variable {H1 : Hp} {Q : VK} {g : TG} {tt : TT} {te : TE} {tb : TS} {vs : List Nat} {σ : L2.St} {D : Ends}
/-- what is left of a comprehension when it is known what is walked -/
def lcK (J : It) (g : TG) (tt : TT) (te : TE) (vs : List Nat) (σ : L2.St) (H1 : Hp) (Q : VK) : Prop :=
  ∀ B, H1 B = none → ∃ W : Nat → Nat → Hp → Prop, (∃ m, W 0 m (upd H1 B (.lst []))) ∧ ∀ i m H, W i m H →
    (J.stop i H ∧ Q (.ref B) H) ∨ (J.go i H ∧ ∃ Nx : Hp → Prop, (∀ H', Nx H' → ∃ m', m' < m ∧ W (i + 1) m' H') ∧
      ∀ x H', J.yld i H x H' → g x (wipe σ vs) H' fun σ2 H2 => wipe σ2 vs = wipe σ vs ∧ tt σ2 H2 fun b H3 =>
        if b = true then te σ2 H3 fun y H4 => ∃ acc, H4 B = some (.lst acc) ∧ acc.length < sizeLine ∧ Nx (upd H4 B (.lst (acc ++ [y]))) else Nx H3)
/-- the same of a loop -/
def forK (J : It) (g : TG) (tb : TS) (D : Ends) (σ : L2.St) (H1 : Hp) : Prop :=
  ∃ W : Nat → Nat → L2.St → Hp → Prop, (∃ m, W 0 m σ H1) ∧ ∀ i m σ H, W i m σ H →
    (J.stop i H ∧ D.nx σ H) ∨ (J.go i H ∧ ∃ N : L2.St → Hp → Prop, (∀ σ' H', N σ' H' → ∃ m', m' < m ∧ W (i + 1) m' σ' H') ∧
      ∀ x H', J.yld i H x H' → g x σ H' fun σ2 H2 => tb { D with nx := N, ct := N, bk := D.nx } σ2 H2)
end
section
variable {S : List Addr} {H1 : Hp} {K : PySem.W.Frag} {g : TG} {tt : TT} {te : TE} {vs : List Nat} {σ : L2.St} {Q : VK}
theorem fm_succ {f : Nat → Option PyData} (i : Nat) : (List.range (i + 1)).filterMap f = (List.range i).filterMap f ++ (f i).toList := by
  rw [List.range_succ, List.filterMap_append]
  cases h : f i <;> simp [h]
theorem sm_of {D : Addr} {H : Hp} (hD : H1 D = none) (f : Fr [D] H1 H) : Same H1 H := fun b o q => f b o (fun m => by
  have : b = D := by simpa using m
  rw [this, hD] at q; cases q) q
/-- the list D at turn i: the items that f has given so far -/
structure CompAt (S : List Addr) (H1 : Hp) (D : Addr) (f : Nat → Option PyData) (i : Nat) (H : Hp) : Prop where
  ex : ∃ acc, H D = some (.lst acc) ∧ DqA (D :: S) H acc ((List.range i).filterMap f)
  fr : Fr [D] H1 H
theorem CompAt.zero {D : Addr} {f : Nat → Option PyData} (hD : H1 D = none) : CompAt S H1 D f 0 (upd H1 D (.lst [])) := ⟨⟨[], upd_same, .nil⟩, Fr.same (Fl.Same.new hD)⟩
theorem CompAt.same {D : Addr} {f : Nat → Option PyData} {i : Nat} {H H' : Hp} (h : CompAt S H1 D f i H) (e : Same H H') : CompAt S H1 D f i H' := by
  obtain ⟨⟨acc, h1, h2⟩, h3⟩ := h
  exact ⟨⟨acc, e _ _ h1, h2.same e⟩, h3.trans (Fr.same e)⟩
theorem CompAt.skip {D : Addr} {f : Nat → Option PyData} {i : Nat} {H : Hp} (h : CompAt S H1 D f i H) (e : f i = none) : CompAt S H1 D f (i + 1) H := by
  obtain ⟨⟨acc, h1, h2⟩, h3⟩ := h
  refine ⟨⟨acc, h1, ?_⟩, h3⟩
  rw [fm_succ, e]
  simpa using h2
theorem CompAt.len {D : Addr} {f : Nat → Option PyData} {i : Nat} {H : Hp} (h : CompAt S H1 D f i H) (hi : i < 1000) : ∀ acc, H D = some (.lst acc) → acc.length < sizeLine := by
  obtain ⟨⟨acc, h1, h2⟩, h3⟩ := h
  intro acc' h'
  rw [h1] at h'
  cases h'
  have e := h2.len
  have e2 := List.length_filterMap_le f (List.range i)
  rw [List.length_range] at e2
  have : (1000 : Nat) ≤ sizeLine := by decide
  omega
theorem CompAt.put {D : Addr} {f : Nat → Option PyData} {i : Nat} {H H4 : Hp} {y : V} {r : PyData} (h : CompAt S H1 D f i H) (hi : i < 1000) (e : f i = some r) (s : Same H H4) (d : Dq (D :: S) H4 y r) :
    ∃ acc, H4 D = some (.lst acc) ∧ acc.length < sizeLine ∧ CompAt S H1 D f (i + 1) (upd H4 D (.lst (acc ++ [y]))) := by
  have h4 := h.same s
  obtain ⟨⟨acc, h1, h2⟩, h3⟩ := h4
  refine ⟨acc, h1, (h.same s).len hi acc h1, ⟨acc ++ [y], upd_same, ?_⟩, h3.trans (Fr.upd (by simp))⟩
  rw [fm_succ, e]
  exact (h2.app (.one d)).fr (Fr.upd (by simp))
theorem CompAt.al {D : Addr} {f : Nat → Option PyData} {i : Nat} {H : Hp} (h : CompAt S H1 D f i H) (hS : Al S H1) (hD : H1 D = none) : Al (D :: S) H := by
  obtain ⟨⟨acc, h1, h2⟩, h3⟩ := h
  exact .cons (by rw [h1]; simp) (hS.same (sm_of hD h3))
theorem CompAt.fin {D : Addr} {f : Nat → Option PyData} {i : Nat} {H : Hp} (h : CompAt S H1 D f i H) (hS : Al S H1) (hD : H1 D = none) : Dq S H (.ref D) (.list ((List.range i).filterMap f)) := by
  obtain ⟨⟨acc, h1, h2⟩, h3⟩ := h
  exact .lst (hS.ni hD) h1 h2.tail
/-- [elt for x in list if test], nothing changed: es the items, f what becomes of each -/
theorem lcL {a : Addr} {es : List PyData} (f : Nat → Option PyData) (hS : Al S H1) (ha : Dq S H1 (.ref a) (.list es)) (hz : es.length < 1000)
    (step : ∀ (D : Addr) (i : Nat) (x : V) (e : PyData) (H : Hp), H1 D = none → es[i]? = some e → Same H1 H → Al (D :: S) H → Dq (D :: S) H x e →
      ∀ (R : V → Hp → Prop) (N : Hp → Prop), (∀ r y H4, f i = some r → Same H H4 → Dq (D :: S) H4 y r → R y H4) → (f i = none → ∀ H4, Same H H4 → N H4) →
      g x (wipe σ vs) H fun σ2 H2 => wipe σ2 vs = wipe σ vs ∧ tt σ2 H2 fun b H3 => if b = true then te σ2 H3 R else N H3)
    (q : ∀ (D : Addr) (H : Hp), Same H1 H → H1 D = none → Dq S H (.ref D) (.list ((List.range es.length).filterMap f)) → Q (.ref D) H) :
    lcK (Itl K a) g tt te vs σ H1 Q := by
  unfold lcK
  intro D hD
  obtain ⟨a', xs, ea, na, hxs, hall⟩ := ha.lstE
  cases ea
  have hlx := hall.len
  have hDa : a ≠ D := fun e => by rw [e, hD] at hxs; cases hxs
  refine lc_list (xs := xs) (CompAt S H1 D f) (CompAt.zero hD) ?_ ?_ ?_
  · intro i H _ h
    exact SqL.of (h.fr a _ (by simpa using hDa) hxs)
  · intro i x H hx h
    have hlt : i < xs.length := (List.getElem?_eq_some_iff.mp hx).1
    have hsm : Same H1 H := sm_of hD h.fr
    have hall' : DqA (D :: S) H xs es := (hall.new hD).same hsm
    obtain ⟨e, he, hxe⟩ := hall'.get hx
    exact step D i x e H hD he hsm (h.al hS hD) hxe _ _ (fun r y H4 er s d => h.put (by omega) er s d) fun en H4 s => (h.same s).skip en
  · intro H h
    rw [hlx] at h
    exact q D H (sm_of hD h.fr) hD (h.fin hS hD)
/-- the same over range(lo, ..) of n numbers -/
theorem lcR {lo : Int} {n : Nat} (f : Nat → Option PyData) (hS : Al S H1) (hz : n < 1000)
    (step : ∀ (D : Addr) (i : Nat) (H : Hp), H1 D = none → i < n → Same H1 H → Al (D :: S) H →
      ∀ (R : V → Hp → Prop) (N : Hp → Prop), (∀ r y H4, f i = some r → Same H H4 → Dq (D :: S) H4 y r → R y H4) → (f i = none → ∀ H4, Same H H4 → N H4) →
      g (.int (lo + i)) (wipe σ vs) H fun σ2 H2 => wipe σ2 vs = wipe σ vs ∧ tt σ2 H2 fun b H3 => if b = true then te σ2 H3 R else N H3)
    (q : ∀ (D : Addr) (H : Hp), Same H1 H → H1 D = none → Dq S H (.ref D) (.list ((List.range n).filterMap f)) → Q (.ref D) H) :
    lcK (Itr lo n) g tt te vs σ H1 Q := by
  unfold lcK
  intro D hD
  refine lc_range (CompAt S H1 D f) (CompAt.zero hD) ?_ ?_
  · intro i H hlt h
    exact step D i H hD hlt (sm_of hD h.fr) (h.al hS hD) _ _ (fun r y H4 er s d => h.put (by omega) er s d) fun en H4 s => (h.same s).skip en
  · intro H h
    exact q D H (sm_of hD h.fr) hD (h.fin hS hD)
theorem fm_take (rs : List PyData) : ∀ n : Nat, (List.range n).filterMap (fun i => rs[i]?) = rs.take n
  | 0 => by simp
  | n + 1 => by rw [fm_succ, fm_take rs n, List.take_succ]
theorem fm_map {es rs : List PyData} (hl : rs.length = es.length) : (List.range es.length).filterMap (fun i => rs[i]?) = rs := by
  rw [fm_take, List.take_of_length_le (by omega)]
end

/-! ### the deck -/
def Dk (d s : Addr) (ns : List Int) (H : Hp) : Prop := s ≠ d ∧ H s = some (.lst (ns.map V.int)) ∧ ∃ pos rest seed : Int, H d = some (.lst [.ref s, .int pos, .int rest, .int seed]) ∧ 0 ≤ pos
/-- only what stands at d is another -/
def On (d : Addr) (H H' : Hp) : Prop := ∀ b, b ≠ d → H' b = H b
section
variable {d s D : Addr} {ns : List Int} {H H' H2 : Hp} {o : HO} {S : List Addr}
theorem On.refl : On d H H := fun _ _ => rfl
theorem On.trans (h : On d H H') (k : On d H' H2) : On d H H2 := fun b n => (k b n).trans (h b n)
theorem On.upd : On d H (upd H d o) := fun b n => upd_ne n
theorem On.fr (h : On d H H') : Fr [d] H H' := fun a u n e => by
  rw [h a (by simpa using n)]
  exact e
theorem On.frS (h : On d H H') (m : d ∈ S) : Fr S H H' := h.fr.mono fun a k => by
  rw [show a = d by simpa using k]
  exact m
theorem Dk.hd (h : Dk d s ns H) : H d ≠ none := by
  obtain ⟨_, _, _, _, _, e, _⟩ := h
  rw [e]
  simp
theorem Dk.hs (h : Dk d s ns H) : H s ≠ none := by
  obtain ⟨_, e, _⟩ := h
  rw [e]
  simp
theorem Dk.fr (h : Dk d s ns H) (e : Fr S H H') (h1 : d ∉ S) (h2 : s ∉ S) : Dk d s ns H' := by
  obtain ⟨a, b, p, r, q, c, e0⟩ := h
  exact ⟨a, e _ _ h2 b, p, r, q, e _ _ h1 c, e0⟩
theorem Dk.same (h : Dk d s ns H) (e : Same H H') : Dk d s ns H' := h.fr (S := []) (Fr.same e) (by simp) (by simp)
theorem Dk.put (h : Dk d s ns H) (hD : D ≠ d) (hs : D ≠ s) : Dk d s ns (upd H D o) := h.fr (S := [D]) (Fr.upd (by simp)) (by simpa using hD.symm) (by simpa using hs.symm)
theorem Dk.ned (h : Dk d s ns H) (hD : H D = none) : D ≠ d := fun e => h.hd (e ▸ hD)
theorem Dk.nes (h : Dk d s ns H) (hD : H D = none) : D ≠ s := fun e => h.hs (e ▸ hD)
end
def spDk (K : PySem.W.Frag) : Sp := fun vs H Q _ => ∃ (a : Addr) (ns : List Int), vs = [.ref a] ∧ SqL K H a (ns.map V.int) ∧ ∀ d s H', Same H H' → Dk d s ns H' → Q (.ref d) H'
def spDr : Sp := fun vs H Q _ => ∃ (d s : Addr) (ns : List Int) (m : Int), vs = [.ref d, .int m] ∧ Dk d s ns H ∧ 0 < m ∧ m < 10 ^ 62 ∧ ∀ v H', 0 ≤ v → v < m → Dk d s ns H' → On d H H' → Q (.int v) H'
theorem dr_app {d s : Addr} {ns : List Int} {m : Int} {H : Hp} {Q : VK} {E : XK} (h : Dk d s ns H) (h1 : 0 < m) (h2 : m < 10 ^ 62) (k : ∀ v H', 0 ≤ v → v < m → Dk d s ns H' → On d H H' → Q (.int v) H') : spDr [.ref d, .int m] H Q E := ⟨d, s, ns, m, rfl, h, h1, h2, k⟩
/-- how far a point lies -/
def PtIn (b : Int) (p : Pt) : Prop := -b ≤ p.1 ∧ p.1 ≤ b ∧ -b ≤ p.2.1 ∧ p.2.1 ≤ b
def spPt : Sp := fun vs H Q _ => ∃ (S : List Addr) (d s : Addr) (ns : List Int) (far : Int), vs = [.ref d, .int far] ∧ d ∈ S ∧ Al S H ∧ Dk d s ns H ∧ 130 ≤ far ∧ far ≤ 10 ^ 6 ∧
  ∀ t H' p, Fr [d] H H' → Dk d s ns H' → Dq S H' (.ref t) (ptD p) → PtIn far p → Q (.ref t) H'

/-! ### more readings -/
section
variable {σ : L2.St} {H H' H2 : Hp} {Q : VK} {v x y : V} {ta tb tc te : TE} {K : PySem.W.Frag} {p a b l : Addr} {xs zs : List V} {o : HO}
theorem raw_new (h : H p = none) (e : H a = some o) {u : HO} : upd H p u a = some o := Fl.Same.new h a o e
theorem raw_same (h : Same H H') (e : H a = some o) : H' a = some o := h a o e
theorem none_upd {u : HO} (h : H p = none) (n : p ≠ a) : upd H a u p = none := by rw [upd_ne n]; exact h
theorem Dq.newH {S : List Addr} {d : PyData} {u : HO} (e : H p = none) (h : Dq S H v d) : Dq S (upd H p u) v d := h.same (Fl.Same.new e)
theorem DqA.newH {S : List Addr} {vs : List V} {ds : List PyData} {u : HO} (e : H p = none) (h : DqA S H vs ds) : DqA S (upd H p u) vs ds := h.same (Fl.Same.new e)
theorem Al.newH {S : List Addr} {u : HO} (e : H p = none) (h : Al S H) : Al S (upd H p u) := h.same (Fl.Same.new e)
theorem g_sl {r : V → Option Int → Option Int → Hp → VK → Prop} {tl th : TO} (h : te σ H fun x H1 => tl σ H1 fun l H2 => th σ H2 fun u H3 => r x l u H3 Q) : L2.tSl r te tl th σ H Q := h
theorem g_part {QO : Option Int → Hp → Prop} (h : te σ H fun x H1 => ∃ i, x = .int i ∧ QO (some i) H1) : tPart te σ H QO := h
theorem g_nop {QO : Option Int → Hp → Prop} (h : QO none H) : tNoPart σ H QO := h
theorem g_ei {i : Int} {R : Int → Prop} (q : R i) : ∃ j, V.int i = .int j ∧ R j := ⟨i, rfl, q⟩
theorem g_slL {lo hi : Option Int} (h : SqL K H a xs) (q : ∀ p, H p = none → Q (.ref p) (upd H p (.lst (cutV xs lo hi)))) : rSlL K (.ref a) lo hi H Q := ⟨a, xs, rfl, h, q⟩
theorem g_slT {lo hi : Option Int} (h : SqT K H a xs) (n : ¬ (HT.sIx xs.length 0 lo = 0 ∧ HT.sIx xs.length xs.length hi = xs.length)) (q : ∀ p, H p = none → Q (.ref p) (upd H p (.tup (cutV xs lo hi)))) : rSlT K (.ref a) lo hi H Q := ⟨a, xs, rfl, h, n, q⟩
theorem cut_from (k : Nat) : cutV xs (some (k : Int)) none = xs.drop k := by
  show (xs.drop (HT.sIx xs.length 0 (some (k : Int)))).take (HT.sIx xs.length xs.length none - HT.sIx xs.length 0 (some (k : Int))) = _
  rw [HT.sIx_nat, HT.sIx_none]
  rcases Nat.le_total k xs.length with h | h
  · rw [Nat.min_eq_left h, List.take_of_length_le (by rw [List.length_drop]; omega)]
  · rw [Nat.min_eq_right h, Nat.sub_self, List.take_zero, List.drop_of_length_le h]
theorem cut_to (k : Nat) : cutV xs none (some (k : Int)) = xs.take k := by
  show (xs.drop (HT.sIx xs.length 0 none)).take (HT.sIx xs.length xs.length (some (k : Int)) - HT.sIx xs.length 0 none) = _
  rw [HT.sIx_nat, HT.sIx_none, List.drop_zero, Nat.sub_zero]
  rcases Nat.le_total k xs.length with h | h
  · rw [Nat.min_eq_left h]
  · rw [Nat.min_eq_right h, List.take_of_length_le (Nat.le_refl _), List.take_of_length_le h]
theorem cut_last : cutV xs none (some (-1)) = xs.dropLast := by
  show (xs.drop (HT.sIx xs.length 0 none)).take (HT.sIx xs.length xs.length (some (-1)) - HT.sIx xs.length 0 none) = _
  rw [HT.sIx_none, List.drop_zero, Nat.sub_zero, List.dropLast_eq_take]
  congr 1
  show (if (-1 : Int) < 0 then ((-1 : Int) + (xs.length : Int)).toNat else min (-1 : Int).toNat xs.length) = _
  rw [if_pos (by decide)]
  omega
theorem cut_fromLast : cutV xs (some (-1)) none = xs.drop (xs.length - 1) := by
  show (xs.drop (HT.sIx xs.length 0 (some (-1)))).take (HT.sIx xs.length xs.length none - HT.sIx xs.length 0 (some (-1))) = _
  have e : HT.sIx xs.length 0 (some (-1)) = xs.length - 1 := by
    show (if (-1 : Int) < 0 then ((-1 : Int) + (xs.length : Int)).toNat else min (-1 : Int).toNat xs.length) = _
    rw [if_pos (by decide)]
    omega
  rw [e, HT.sIx_none, List.take_of_length_le (by rw [List.length_drop]; omega)]
theorem g_cat (h1 : H l = some (.lst xs)) (h2 : H b = some (.lst zs)) (hz : xs.length + zs.length ≤ 2000) (q : ∀ p, H p = none → Q (.ref p) (upd H p (.lst (xs ++ zs)))) : rCat (.ref l) (.ref b) H Q :=
  ⟨l, b, xs, zs, rfl, rfl, h1, h2, Nat.le_trans hz (by decide), q⟩
end
/-! promises about outlines -/
def beg (c : List α) (k : Nat) : List α := c.drop k ++ c.take k
def fBeg (ds : List PyData) (d : PyData) : Prop := ∃ (c : List PyData) (k : Nat), ds = [.list c, .int (k : Int)] ∧ c.length ≤ 900 ∧ d = .list (beg c k)

section
variable {d s D : Addr} {ns : List Int} {H H' H1 H2 : Hp} {o : HO} {S : List Addr} {a : Addr} {v : V} {e : PyData}
theorem raw_on (h : On d H H') (n : a ≠ d) (e : H a = some o) : H' a = some o := by rw [h a n]; exact e
theorem raw_frd (h : Fr [d] H H') (n : a ≠ d) (e : H a = some o) : H' a = some o := h a o (by simpa using n) e
theorem Dq.frd (h : Fr [d] H H') (m : d ∈ S) (k : Dq S H v e) : Dq S H' v e := k.fr (h.mono fun a q => by
  rw [show a = d by simpa using q]
  exact m)
theorem Al.frd (h : Fr [d] H H') (k : Dk d s ns H') (q : Al S H) : Al S H' := q.fr h (.cons k.hd .nil)
theorem spread_at {v far : Int} (h0 : 0 ≤ v) (h1 : v < 3) (hf : 130 ≤ far) : ∃ sp : Int, atI [V.int 9, V.int 130, V.int far] v = some (.int sp) ∧ 9 ≤ sp ∧ sp ≤ far := by
  rcases (by omega : v = 0 ∨ v = 1 ∨ v = 2) with rfl | rfl | rfl
  · exact ⟨9, rfl, by omega, by omega⟩
  · exact ⟨130, rfl, by omega, by omega⟩
  · exact ⟨far, rfl, by omega, by omega⟩
theorem pt_app {far : Int} {Q : VK} {E : XK} (S : List Addr) (h1 : d ∈ S) (h2 : Al S H) (h3 : Dk d s ns H) (h4 : 130 ≤ far) (h5 : far ≤ 10 ^ 6) (q : ∀ t H' p, Fr [d] H H' → Dk d s ns H' → Dq S H' (.ref t) (ptD p) → PtIn far p → Q (.ref t) H') : spPt [.ref d, .int far] H Q E :=
  ⟨S, d, s, ns, far, rfl, h1, h2, h3, h4, h5, q⟩
/-- the list of points D at turn i -/
structure PtsAt (S : List Addr) (H1 : Hp) (d s : Addr) (ns : List Int) (far : Int) (D : Addr) (i : Nat) (H : Hp) : Prop where
  ex : ∃ (acc : List V) (c : List Pt), H D = some (.lst acc) ∧ DqA (D :: S) H acc (c.map ptD) ∧ c.length = i ∧ ∀ p, p ∈ c → PtIn far p
  fr : Fr [D, d] H1 H
  dk : Dk d s ns H
/-- [point for j in range(n)], points drawn from the deck at d -/
theorem lcDk {n : Nat} {lo far : Int} {g : TG} {te : TE} {vs : List Nat} {σ : L2.St} {Q : VK} (hS : Al S H1) (hd : d ∈ S) (hk : Dk d s ns H1) (hz : n < 1000)
    (step : ∀ (D : Addr) (i : Nat) (H : Hp), Al (D :: S) H → Dk d s ns H →
      ∀ (R : V → Hp → Prop), (∀ t H' p, Fr [d] H H' → Dk d s ns H' → Dq (D :: S) H' (.ref t) (ptD p) → PtIn far p → R (.ref t) H') →
      g (.int (lo + i)) (wipe σ vs) H fun σ2 H2 => wipe σ2 vs = wipe σ vs ∧ te σ2 H2 R)
    (q : ∀ (D : Addr) (H : Hp) (c : List Pt), Fr [d] H1 H → Dk d s ns H → Dq S H (.ref D) (ctD c) → c.length = n → (∀ p, p ∈ c → PtIn far p) → Q (.ref D) H)
    (gm : ∀ x σ' H' (Q1 Q2 : L2.St → Hp → Prop), (∀ s h, Q1 s h → Q2 s h) → g x σ' H' Q1 → g x σ' H' Q2) :
    lcK (Itr lo n) g tYes te vs σ H1 Q := by
  unfold lcK
  intro D hD
  have hnd : D ≠ d := hk.ned hD
  have hns : D ≠ s := hk.nes hD
  refine lc_range (PtsAt S H1 d s ns far D) ⟨⟨[], [], upd_same, .nil, rfl, fun _ m => nomatch m⟩, Fr.same (Fl.Same.new hD), hk.put hnd hns⟩ ?_ ?_
  · intro i H hlt h
    obtain ⟨⟨acc, c, hacc, hA, hl, hp⟩, hf, hk'⟩ := h
    have hAl : Al (D :: S) H := .cons (by rw [hacc]; simp) (hS.fr hf fun b m => by
      rcases List.mem_cons.mp m with rfl | m
      · rw [hacc]; simp
      · rw [show b = d by simpa using m]
        exact hk'.hd)
    refine gm _ _ _ _ _ (fun σ2 H2 hq => ⟨hq.1, ?_⟩) (step D i H hAl hk' (fun y H4 => ∃ acc, H4 D = some (.lst acc) ∧ acc.length < sizeLine ∧ PtsAt S H1 d s ns far D (i + 1) (upd H4 D (.lst (acc ++ [y])))) ?_)
    · exact hq.2
    · intro t H' p f k dq hp'
      have f' : Fr (D :: S) H H' := f.mono fun b m => by
        rw [show b = d by simpa using m]
        exact List.mem_cons_of_mem _ hd
      refine ⟨acc, f D _ (by simpa using hnd) hacc, ?_, ⟨acc ++ [.ref t], c ++ [p], upd_same, ?_, ?_, ?_⟩, ?_, ?_⟩
      · have := hA.len
        rw [List.length_map] at this
        have : (1000 : Nat) ≤ sizeLine := by decide
        omega
      · rw [List.map_append]
        exact ((hA.fr f').app (.one dq)).fr (Fr.upd (by simp))
      · rw [List.length_append, hl]
        rfl
      · intro p2 m
        rcases List.mem_append.mp m with m | m
        · exact hp p2 m
        · rw [show p2 = p by simpa using m]
          exact hp'
      · exact (hf.trans (f.mono fun b m => by simpa using Or.inr (show b = d by simpa using m))).trans (Fr.upd (by simp))
      · exact k.put hnd hns
  · intro H h
    obtain ⟨⟨acc, c, hacc, hA, hl, hp⟩, hf, hk'⟩ := h
    refine q D H c (fun b o n e => hf b o (fun m => ?_) e) hk' (.lst (hS.ni hD) hacc hA.tail) hl hp
    rcases List.mem_cons.mp m with rfl | m
    · rw [hD] at e; cases e
    · exact n m
/-- an outline that was drawn -/
structure OuIn (least : Nat) (far : Int) (o : List (List Pt)) : Prop where
  len : o.length ≤ 3
  cs : ∀ c, c ∈ o → least ≤ c.length ∧ c.length ≤ least + 5 ∧ ∀ p, p ∈ c → PtIn far p
end
def spOu : Sp := fun vs H Q _ => ∃ (d s : Addr) (ns : List Int) (least : Nat) (far : Int), vs = [.ref d, .int (least : Int), .int far] ∧ Dk d s ns H ∧ least ≤ 2 ∧ 130 ≤ far ∧ far ≤ 10 ^ 6 ∧
  ∀ t H' o, Fr [d] H H' → Dk d s ns H' → Dq [d] H' (.ref t) (ouD o) → OuIn least far o → Q (.ref t) H'
theorem g_sz {n : Nat} {A : Prop} (hn : n ≤ 1000) (h : A) : n ≤ sizeLine ∧ A := ⟨Nat.le_trans hn (by decide), h⟩
section
variable {σ : L2.St} {H : Hp} {te : TE} {D : Ends} {g : TG} {tb : TS}
/-- for _ in range(n): the number first, then the turns (te keeps its continuation: what it gives is put into te's own reading) -/
theorem g_forR_ (Pv : Nat → L2.St → Hp → Prop)
    (h : te σ H fun x H1 => ∃ n : Int, x = .int n ∧ -(2 ^ 62) ≤ n ∧ n < 2 ^ 62 ∧ Pv 0 σ H1 ∧ (∀ (i : Nat) σ' H', (i : Int) < n → Pv i σ' H' → g (.int (i : Int)) σ' H' fun σ2 H2 => tb { D with nx := Pv (i + 1), ct := Pv (i + 1), bk := D.nx } σ2 H2) ∧ ∀ σ' H', Pv n.toNat σ' H' → D.nx σ' H')
    (mono : ∀ Q Q' : VK, (∀ x H1, Q x H1 → Q' x H1) → te σ H Q → te σ H Q') : tFor (iRng1 (tCons te tNil)) g tb D σ H := by
  refine mono _ _ (fun x H1 q => ?_) h
  obtain ⟨n, rfl, h1, h2, p, hs, hd⟩ := q
  show ∃ j : Int, [V.int n] = [V.int j] ∧ _
  refine ⟨n, rfl, h1, h2, for_range Pv p (fun i σ' H' hi p' => ?_) hd⟩
  have e0 : (0 : Int) + (i : Int) = (i : Int) := Int.zero_add _
  rw [e0]
  exact hs i σ' H' (by omega) p'
end
section
variable {S : List Addr} {d s p : Addr} {ns : List Int} {H H' H2 : Hp} {v : V} {e : PyData} {u o : HO} {vs : List V} {es : List PyData}
theorem Dk.newH (h : H p = none) (k : Dk d s ns H) : Dk d s ns (upd H p u) := k.same (Fl.Same.new h)
theorem Dk.sm (h : Same H H') (k : Dk d s ns H) : Dk d s ns H' := k.same h
theorem Dq.sm (h : Same H H') (k : Dq S H v e) : Dq S H' v e := k.same h
theorem DqA.sm (h : Same H H') (k : DqA S H vs es) : DqA S H' vs es := k.same h
theorem Al.sm (h : Same H H') (k : Al S H) : Al S H' := k.same h
theorem Dq.ond (h : On d H H') (m : d ∈ S) (k : Dq S H v e) : Dq S H' v e := Dq.frd h.fr m k
theorem Al.ond (h : On d H H') (k : Dk d s ns H') (q : Al S H) : Al S H' := Al.frd h.fr k q
theorem Same.newT (h : H2 p = none) (k : Same H H2) : Same H (upd H2 p u) := L2.Same.trans k (Fl.Same.new h)
theorem Same.sm (h : Same H2 H') (k : Same H H2) : Same H H' := L2.Same.trans k h
theorem Fr.newT (h : H2 p = none) (k : Fr S H H2) : Fr S H (L2.upd H2 p u) := k.trans (Fr.new h)
theorem Fr.ond (h : On d H2 H') (k : Fr [d] H H2) : Fr [d] H H' := k.trans h.fr
theorem Fr.smT (h : Same H2 H') (k : Fr S H H2) : Fr S H H' := k.trans (Fr.same h)
theorem Fr.frT (h : Fr S H2 H') (k : Fr S H H2) : Fr S H H' := k.trans h
end
theorem Dk.ned2 {d s D : Addr} {ns : List Int} {H : Hp} (hD : H D = none) (h : Dk d s ns H) : D ≠ d := h.ned hD
theorem g_name {i : Nat} {v : V} {σ : L2.St} {H : Hp} {Q : L2.St → Hp → Prop} (q : Q (σ.set i (some v)) H) : gName i v σ H Q := q
theorem g_bm {K : PySem.W.Frag} {T : String} {r : V → List V → Hp → VK → Prop} {to : TE} {t : TA} {σ : L2.St} {H : Hp} {Q : VK} (h : to σ H fun x H1 => tyV K T x H1 ∧ t σ H1 fun xs H2 => r x xs H2 Q) : tBM K T r to t σ H Q := h
theorem g_app {l : Addr} {xs : List V} {y : V} {H : Hp} {Q : VK} (h : H l = some (.lst xs)) (hz : xs.length < 2000) (q : Q .non (upd H l (.lst (xs ++ [y])))) : rAppend (.ref l) [y] H Q := ⟨l, xs, y, rfl, rfl, h, Nat.lt_of_lt_of_le hz (by decide), q⟩
theorem g_ext {l b : Addr} {xs zs : List V} {H : Hp} {Q : VK} (h : H l = some (.lst xs)) (h2 : H b = some (.lst zs)) (hz : xs.length + zs.length ≤ 2000) (q : Q .non (upd H l (.lst (xs ++ zs)))) : rExtend (.ref l) [.ref b] H Q := ⟨l, b, xs, zs, rfl, rfl, h, h2, Nat.le_trans hz (by decide), q⟩
section
variable {K : PySem.W.Frag} {σ : L2.St} {H H1 : Hp} {Q : VK} {g : TG} {tt : TT} {te tx ty : TE} {tb : TS} {vs : List Nat} {D : Ends} {wi : TI} {R : It → Hp → Prop} {a b : Addr} {xs ys : List V}
theorem g_tyL {A : Prop} (h : SqL K H a xs) (q : A) : tyV K "list" (.ref a) H ∧ A := ⟨.inl ⟨rfl, _, h⟩, q⟩
theorem g_lc (h : wi σ H fun J H1 => lcK J g tt te vs σ H1 Q) : tLc wi g tt te vs σ H Q := h
theorem g_for (h : wi σ H fun J H1 => forK J g tb D σ H1) : tFor wi g tb D σ H := h
theorem g_rng1 (h : te σ H fun x H1 => ∃ j : Int, [x] = [V.int j] ∧ -(2 ^ 62) ≤ j ∧ j < 2 ^ 62 ∧ R (Itr 0 j.toNat) H1) : iRng1 (tCons te tNil) σ H R := h
theorem g_rng2 (h : tx σ H fun x H1 => ty σ H1 fun y H2 => ∃ i j : Int, [x, y] = [V.int i, V.int j] ∧ (-(2 ^ 62) ≤ i ∧ i < 2 ^ 62 ∧ -(2 ^ 62) ≤ j ∧ j < 2 ^ 62) ∧ R (Itr i (j - i).toNat) H2) : iRng2 (tCons tx (tCons ty tNil)) σ H R := h
theorem g_e1 {n : Int} {Z : Int → Prop} (h1 : -(2 ^ 62) ≤ n) (h2 : n < 2 ^ 62) (q : Z n) : ∃ j : Int, [V.int n] = [V.int j] ∧ -(2 ^ 62) ≤ j ∧ j < 2 ^ 62 ∧ Z j := ⟨n, rfl, h1, h2, q⟩
theorem g_e2 {i j : Int} {Z : Int → Int → Prop} (h : -(2 ^ 62) ≤ i ∧ i < 2 ^ 62 ∧ -(2 ^ 62) ≤ j ∧ j < 2 ^ 62) (q : Z i j) : ∃ k l : Int, [V.int i, V.int j] = [V.int k, V.int l] ∧ (-(2 ^ 62) ≤ k ∧ k < 2 ^ 62 ∧ -(2 ^ 62) ≤ l ∧ l < 2 ^ 62) ∧ Z k l := ⟨i, j, rfl, h, q⟩
theorem g_il (h : te σ H fun x H1 => ∃ a, x = .ref a ∧ (∃ xs, SqL K H1 a xs) ∧ R (Itl K a) H1) : iList K te σ H R := h
theorem g_el {Z : Addr → Prop} (h : SqL K H a xs) (q : Z a) : ∃ c, V.ref a = .ref c ∧ (∃ xs, SqL K H c xs) ∧ Z c := ⟨a, rfl, ⟨xs, h⟩, q⟩
theorem g_zip (h : tx σ H fun x H1 => ty σ H1 fun y H2 => ∃ a b xs ys, [x, y] = [V.ref a, V.ref b] ∧ SqL K H2 a xs ∧ SqL K H2 b ys ∧ R (Itz K a b) H2) : iZip K (tCons tx (tCons ty tNil)) σ H R := h
theorem g_ez {Z : Addr → Addr → Prop} (h1 : SqL K H a xs) (h2 : SqL K H b ys) (q : Z a b) : ∃ c d zs ws, [V.ref a, V.ref b] = [V.ref c, V.ref d] ∧ SqL K H c zs ∧ SqL K H d ws ∧ Z c d := ⟨a, b, xs, ys, rfl, h1, h2, q⟩
theorem forK_r {lo : Int} {n : Nat} (Pv : Nat → L2.St → Hp → Prop) (h0 : Pv 0 σ H)
    (hs : ∀ i σ H, i < n → Pv i σ H → g (.int (lo + i)) σ H fun σ2 H2 => tb { D with nx := Pv (i + 1), ct := Pv (i + 1), bk := D.nx } σ2 H2) (hd : ∀ σ H, Pv n σ H → D.nx σ H) : forK (Itr lo n) g tb D σ H := for_range Pv h0 hs hd
theorem forK_l (Pv : Nat → L2.St → Hp → Prop) (h0 : Pv 0 σ H) (hl : ∀ i σ H, i ≤ xs.length → Pv i σ H → SqL K H a xs)
    (hs : ∀ i x σ H, xs[i]? = some x → Pv i σ H → g x σ H fun σ2 H2 => tb { D with nx := Pv (i + 1), ct := Pv (i + 1), bk := D.nx } σ2 H2) (hd : ∀ σ H, Pv xs.length σ H → D.nx σ H) : forK (Itl K a) g tb D σ H := for_list Pv h0 hl hs hd
theorem forK_z (hl : xs.length = ys.length) (Pv : Nat → L2.St → Hp → Prop) (h0 : Pv 0 σ H) (hq : ∀ i σ H, Pv i σ H → SqL K H a xs ∧ SqL K H b ys)
    (hs : ∀ (i : Nat) (x y : V) (T : Addr) (σ : L2.St) (H : Hp), xs[i]? = some x → ys[i]? = some y → Pv i σ H → H T = none → g (.ref T) σ (upd H T (.tup [x, y])) fun σ2 H2 => tb { D with nx := Pv (i + 1), ct := Pv (i + 1), bk := D.nx } σ2 H2)
    (hd : ∀ σ H, Pv xs.length σ H → D.nx σ H) : forK (Itz K a b) g tb D σ H := RZ.for_zipL hl Pv h0 hq hs hd
end
section
variable {K : PySem.W.Frag} {H : Hp} {Q : VK} {a : Addr} {xs : List V} {x y z : V}
theorem g_slF {k : Nat} (h : SqL K H a xs) (q : ∀ p, H p = none → Q (.ref p) (upd H p (.lst (xs.drop k)))) : rSlL K (.ref a) (some (k : Int)) none H Q := g_slL h (by rw [cut_from]; exact q)
theorem g_slF1 (h : SqL K H a xs) (q : ∀ p, H p = none → Q (.ref p) (upd H p (.lst (xs.drop 1)))) : rSlL K (.ref a) (some 1) none H Q := g_slF (k := 1) h q
theorem g_slTo {k : Nat} (h : SqL K H a xs) (q : ∀ p, H p = none → Q (.ref p) (upd H p (.lst (xs.take k)))) : rSlL K (.ref a) none (some (k : Int)) H Q := g_slL h (by rw [cut_to]; exact q)
theorem g_slT1 (h : SqL K H a xs) (q : ∀ p, H p = none → Q (.ref p) (upd H p (.lst (xs.take 1)))) : rSlL K (.ref a) none (some 1) H Q := g_slTo (k := 1) h q
theorem g_slB (h : SqL K H a xs) (q : ∀ p, H p = none → Q (.ref p) (upd H p (.lst xs.dropLast))) : rSlL K (.ref a) none (some (-1)) H Q := g_slL h (by rw [cut_last]; exact q)
theorem g_slE (h : SqL K H a xs) (q : ∀ p, H p = none → Q (.ref p) (upd H p (.lst (xs.drop (xs.length - 1))))) : rSlL K (.ref a) (some (-1)) none H Q := g_slL h (by rw [cut_fromLast]; exact q)
theorem g_sl2 (h : SqT K H a [x, y, z]) (q : ∀ p, H p = none → Q (.ref p) (upd H p (.tup [x, y]))) : rSlT K (.ref a) none (some 2) H Q := g_slT h (by show ¬ (0 = 0 ∧ 2 = 3); decide) q
end
/-- a global number -/
theorem pe_gv {X : Cx} {x : Str} {pos : Pos} {v : V} (g : Gl X x) (h : ∃ u, X.mg x = some u ∧ RelV v u)
    (n : (x == ("__debug__" : Str)) = false := by decide) : PE X (.Name x pos) (tC v) := pe_glob g h.choose_spec.1 h.choose_spec.2 n
/-! the rules whose readings name the written part, for blocks within defs -/
section
variable {X : Cx} {K : PySem.W.Frag}
theorem ixT (e : X.K = K) : IxR X (rIxT K) := by subst e; exact ix_tup
theorem ixL (e : X.K = K) : IxR X (rIxL K) := by subst e; exact ix_list
theorem slL' (e : X.K = K) : SlR X (rSlL K) := by subst e; exact sl_list
theorem slT' (e : X.K = K) : SlR X (rSlT K) := by subst e; exact sl_tup
theorem clLen (e : X.K = K) : CallR X (.builtin "len") (Fl.rLen K) := by subst e; exact call_len'
theorem clList (e : X.K = K) : CallR X (.type "list") (Fl.rList K) := by subst e; exact call_list'
theorem clIsi (e : X.K = K) : CallR X (.builtin "isinstance") (rIsi K) := by subst e; exact call_isi
theorem opEqD (e : X.K = K) (hu : X.A.units + 64 < cLine) : OpR X (compareOp .Eq) (rEqD K) := by subst e; exact op_eqD hu
theorem opNeD (e : X.K = K) (hu : X.A.units + 64 < cLine) : OpR X (compareOp .NotEq) (rNeD K) := by subst e; exact op_neD hu
theorem opIn (e : X.K = K) : OpR X (compareOp .In) (rIn K false) := by subst e; exact op_in_seq
theorem opNotIn (e : X.K = K) : OpR X (compareOp .NotIn) (rIn K true) := by subst e; exact op_notIn_seq
def tTru (K : PySem.W.Frag) (ta : TE) : TT := fun σ H Q => ta σ H fun x H' => ∃ k, TruV K x H' k ∧ Q k H'
theorem ptTru {a : Expr} {ta : TE} (e : X.K = K) (ha : PE X a ta) (he : ∀ whole, isTrue a X.env whole = (do let v ← whole; standAt a.pos; holding [v] (truthy v))) : PT X a (tTru K ta) := by subst e; exact pt_truth ha he
theorem piL {l tg : Expr} {tl : TE} (e : X.K = K) (h : PE X l tl) : PI X tg l (iList K tl) := by subst e; exact pi_list h
theorem piT {l tg : Expr} {tl : TE} (e : X.K = K) (h : PE X l tl) : PI X tg l (iTup K tl) := by subst e; exact pi_tup h
theorem pgT {es : List Expr} {j : Nat} {t : TGs} {n : Nat} {pos : Pos} (e : X.K = K) (hc : X.calm = true) (h : PGs X es t)
    (hn : (assignEach es X.env).length = n := by rfl)
    (hst : (assignEach es X.env).findIdx? (·.1) = none := by rfl) : PG X (.Tuple es j pos) (gTup K n t) := by subst e; exact pg_tup hc h hn hst
theorem g_gtup {n : Nat} {t : TGs} {a : Addr} {xs : List V} {σ : L2.St} {H : Hp} {Q : L2.St → Hp → Prop} (h : SqT K H a xs) (e : xs.length = n) (q : t xs σ H Q) : gTup K n t (.ref a) σ H Q := ⟨a, xs, rfl, h, e, q⟩
theorem g_gcons {t : TG} {u : TGs} {v : V} {r : List V} {σ : L2.St} {H : Hp} {Q : L2.St → Hp → Prop} (q : t v σ H fun σ' H' => u r σ' H' Q) : gCons t u (v :: r) σ H Q := ⟨v, r, rfl, q⟩
theorem g_gnil {σ : L2.St} {H : Hp} {Q : L2.St → Hp → Prop} (q : Q σ H) : gNil [] σ H Q := ⟨rfl, q⟩
theorem g_truL {a : Addr} {xs : List V} {te : TE} {σ : L2.St} {H : Hp} {Q : Bool → Hp → Prop} (h : te σ H fun x H' => ∃ k, TruV K x H' k ∧ Q k H') : tTru K te σ H Q := h
end
theorem g_yes {te : TE} {R : VK} {N : Hp → Prop} {σ : L2.St} {H : Hp} (h : te σ H R) : tYes σ H fun b H3 => if b = true then te σ H3 R else N H3 := h
theorem fm_all {rs : List PyData} {n : Nat} (h : rs.length ≤ n) : (List.range n).filterMap (fun i => rs[i]?) = rs := by rw [fm_take, List.take_of_length_le h]
theorem DqA.getM {α : Type} {f : α → PyData} {S : List Addr} {H : Hp} {vs : List V} {c : List α} {i : Nat} {x : V} (h : DqA S H vs (c.map f)) (e : vs[i]? = some x) : ∃ p, c[i]? = some p ∧ Dq S H x (f p) := by
  obtain ⟨d, h1, h2⟩ := h.get e
  rw [List.getElem?_map] at h1
  cases hc : c[i]? with
  | none => rw [hc] at h1; cases h1
  | some p =>
    rw [hc] at h1
    cases h1
    exact ⟨p, rfl, h2⟩
theorem take_zip {α β : Type} {l : List α} {m : List β} {i : Nat} {x : α} {y : β} (h1 : l[i]? = some x) (h2 : m[i]? = some y) : (l.zip m).take (i + 1) = (l.zip m).take i ++ [(x, y)] := by
  rw [List.take_succ, (List.getElem?_zip_eq_some (z := (x, y))).mpr ⟨h1, h2⟩]
  rfl
theorem g_tru {K : PySem.W.Frag} {te : TE} {σ : L2.St} {H : Hp} {Q : Bool → Hp → Prop} (h : te σ H fun x H' => ∃ k, TruV K x H' k ∧ Q k H') : tTru K te σ H Q := h
theorem g_tru0 {K : PySem.W.Frag} {a : Addr} {H : Hp} {Z : Bool → Prop} (h : SqL K H a []) (q : Z false) : ∃ k, TruV K (.ref a) H k ∧ Z k := ⟨_, .inl ⟨_, h, rfl⟩, q⟩
theorem g_tru1 {K : PySem.W.Frag} {a : Addr} {x : V} {xs : List V} {H : Hp} {Z : Bool → Prop} (h : SqL K H a (x :: xs)) (q : Z true) : ∃ k, TruV K (.ref a) H k ∧ Z k := ⟨_, .inl ⟨_, h, rfl⟩, q⟩
theorem at0 {x : V} {xs : List V} : atI (x :: xs) 0 = some x := atI_nat (j := 0) rfl
theorem DqA.dl {S : List Addr} {H : Hp} {vs : List V} {ds : List PyData} (h : DqA S H vs ds) : DqA S H vs.dropLast ds.dropLast := by
  rw [List.dropLast_eq_take, List.dropLast_eq_take, h.len]
  exact h.take _
theorem dk_app {K : PySem.W.Frag} {a : Addr} {ns : List Int} {H : Hp} {Q : VK} {E : XK} (h : SqL K H a (ns.map V.int)) (k : ∀ d s H', Same H H' → Dk d s ns H' → Q (.ref d) H') : spDk K [.ref a] H Q E := ⟨a, ns, rfl, h, k⟩
def spLaw (K : PySem.W.Frag) : Sp := fun vs H Q _ => ∃ (a : Addr) (ns : List Int), vs = [.ref a] ∧ SqL K H a (ns.map V.int) ∧ ns.length ≤ 63 ∧ ∀ H', Q (.bl true) H'
theorem g_nn {A : Prop} (h : A) : V.non = V.non ∧ A := ⟨rfl, h⟩
end Fl

set_option Elab.async false
set_option linter.all false
set_option maxRecDepth 100000
set_option maxHeartbeats 4000000
/-! lines of contours: the mathematics -/
namespace Fl
open PySem PySem.Spec PyProof.Rows L2

abbrev Pr := Int × Int
def prD (p : Pr) : PyData := .tuple [.int p.1, .int p.2]
def lnD (l : List Pr) : PyData := .list (l.map prD)
def lsD (ls : List (List Pr)) : PyData := .list (ls.map lnD)
def pr (p : Pt) : Pr := (p.1, p.2.1)
def mid (p q : Pt) : Pt := ((p.1 + q.1) / 2, (p.2.1 + q.2.1) / 2, true)
def w1 (p q : Pt) : List Pt := if p.2.2 = true then [p] else if q.2.2 = true then [p] else [p, mid p q]
/-- a path and the point behind it, with its middle points -/
def wp : List Pt → Pt → List Pt
  | [], _ => []
  | [p], nx => w1 p nx
  | p :: q :: l, nx => w1 p q ++ wp (q :: l) nx
def wm : List Pt → List Pt
  | [] => []
  | p :: l => wp (p :: l) p
def cv (n a c b : Int) : Int := ((8 - n) * (8 - n) * a + 2 * n * (8 - n) * c + n * n * b + 32) / 64
def cp (a c b : Pt) (n : Nat) : Pr := (cv (n + 1) a.1 c.1 b.1, cv (n + 1) a.2.1 c.2.1 b.2.1)
def cvs (a c b : Pt) : List Pr := (List.range 8).map (cp a c b)
def cv7 (a c b : Pt) : List Pr := (List.range 7).map (cp a c b)
theorem cv_end (a c b : Int) : cv 8 a c b = b := by
  show ((8 - 8) * (8 - 8) * a + 2 * 8 * (8 - 8) * c + 8 * 8 * b + 32) / 64 = b
  omega
theorem cvs_eq (a c b : Pt) : cvs a c b = cv7 a c b ++ [pr b] := by
  have e : cp a c b 7 = pr b := Prod.ext (cv_end _ _ _) (cv_end _ _ _)
  rw [← e]
  rfl
/-- what the walk along a closed ring gives at a point -/
def s1 (a p b : Pt) : List Pr := if p.2.2 = true then (if b.2.2 = true then [pr b] else []) else cvs a p b
def e1 (a p b : Pt) : List Pr := if p.2.2 = true then [pr p] else cv7 a p b
def sp' : Pt → List Pt → List Pr
  | pv, p :: q :: l => s1 pv p q ++ sp' p (q :: l)
  | _, _ => []
def ep : Pt → List Pt → Pt → List Pr
  | _, [], _ => []
  | pv, [p], nx => e1 pv p nx
  | pv, p :: q :: l, nx => e1 pv p q ++ ep p (q :: l) nx
/-- no two neighbours are off -/
def Na : List Pt → Prop
  | p :: q :: l => (p.2.2 = true ∨ q.2.2 = true) ∧ Na (q :: l)
  | _ => True
theorem tele (h : Pt) (hh : h.2.2 = true) : ∀ (l : List Pt) (pv p : Pt), Na (p :: l ++ [h]) → (if p.2.2 = true then [pr p] else []) ++ sp' pv (p :: l ++ [h]) = ep pv (p :: l) h ++ [pr h]
  | [], pv, p, _ => by
    show (if p.2.2 = true then [pr p] else []) ++ (s1 pv p h ++ []) = e1 pv p h ++ [pr h]
    unfold s1 e1
    by_cases hp : p.2.2 = true
    · simp [hp, hh]
    · simp [hp, cvs_eq]
  | q :: l, pv, p, na => by
    have ih := tele h hh l p q na.2
    have hpq : p.2.2 = true ∨ q.2.2 = true := na.1
    show (if p.2.2 = true then [pr p] else []) ++ (s1 pv p q ++ sp' p (q :: l ++ [h])) = (e1 pv p q ++ ep p (q :: l) h) ++ [pr h]
    rw [List.append_assoc, ← ih]
    unfold s1 e1
    by_cases hp : p.2.2 = true
    · simp [hp]
    · have hq : q.2.2 = true := hpq.resolve_left hp
      simp [hp, hq, cvs_eq]

/-! by index -/
def p0 : Pt := (0, 0, false)
def st (pv : Pt) (cl : List Pt) (k : Nat) : List Pr := s1 (if k = 0 then pv else cl.getD (k - 1) p0) (cl.getD k p0) (cl.getD (k + 1) p0)
theorem st_sp : ∀ (l : List Pt) (pv p : Pt), (List.range l.length).flatMap (st pv (p :: l)) = sp' pv (p :: l)
  | [], _, _ => rfl
  | q :: l, pv, p => by
    have ih := st_sp l p q
    show (List.range (l.length + 1)).flatMap (st pv (p :: q :: l)) = s1 pv p q ++ sp' p (q :: l)
    rw [List.range_succ_eq_map, List.flatMap_cons, ← ih, List.flatMap_map]
    congr 1
    congr 1
    funext k
    cases k with
    | zero => rfl
    | succ k => rfl
def wz (c : List Pt) : List Pt := (c.zip (beg c 1)).flatMap fun z => w1 z.1 z.2
theorem wz_wp : ∀ (l : List Pt) (p nx : Pt), ((p :: l).zip (l ++ [nx])).flatMap (fun z => w1 z.1 z.2) = wp (p :: l) nx
  | [], _, _ => by simp [wp]
  | q :: l, p, nx => by
    have ih := wz_wp l q nx
    show w1 p q ++ ((q :: l).zip (l ++ [nx])).flatMap (fun z => w1 z.1 z.2) = w1 p q ++ wp (q :: l) nx
    rw [ih]
theorem wz_wm (c : List Pt) : wz c = wm c := by
  cases c with
  | nil => rfl
  | cons p l => exact wz_wp l p p
theorem w1_len (p q : Pt) : 1 ≤ (w1 p q).length ∧ (w1 p q).length ≤ 2 := by
  unfold w1
  split
  · simp
  · split <;> simp
theorem wp_len : ∀ (l : List Pt) (nx : Pt), l.length ≤ (wp l nx).length ∧ (wp l nx).length ≤ 2 * l.length
  | [], _ => ⟨Nat.le_refl _, Nat.le_refl _⟩
  | [p], nx => w1_len p nx
  | p :: q :: l, nx => by
    have ih := wp_len (q :: l) nx
    have := w1_len p q
    show _ ≤ (w1 p q ++ wp (q :: l) nx).length ∧ (w1 p q ++ wp (q :: l) nx).length ≤ _
    rw [List.length_append]
    simp only [List.length_cons] at *
    omega
theorem wm_len (c : List Pt) : c.length ≤ (wm c).length ∧ (wm c).length ≤ 2 * c.length := by
  cases c with
  | nil => exact ⟨Nat.le_refl _, Nat.le_refl _⟩
  | cons p l => exact wp_len _ _
theorem w1_head (p q : Pt) : ∃ t, w1 p q = p :: t := by
  unfold w1
  split
  · exact ⟨_, rfl⟩
  · split <;> exact ⟨_, rfl⟩
theorem wp_head (p : Pt) (l : List Pt) (nx : Pt) : ∃ t, wp (p :: l) nx = p :: t := by
  cases l with
  | nil => exact w1_head p nx
  | cons q l =>
    obtain ⟨t, e⟩ := w1_head p q
    refine ⟨t ++ wp (q :: l) nx, ?_⟩
    show w1 p q ++ _ = _
    rw [e]
    rfl
/-- in which box -/
def InB (P : Pt → Prop) : Prop := ∀ p q, P p → P q → P (mid p q)
theorem w1_in {P : Pt → Prop} (hP : InB P) {p q x : Pt} (hp : P p) (hq : P q) (m : x ∈ w1 p q) : P x := by
  unfold w1 at m
  split at m
  · rw [show x = p by simpa using m]; exact hp
  · split at m
    · rw [show x = p by simpa using m]; exact hp
    · rcases List.mem_cons.mp m with rfl | m
      · exact hp
      · rw [show x = mid p q by simpa using m]
        exact hP p q hp hq
theorem wp_in {P : Pt → Prop} (hP : InB P) : ∀ (l : List Pt) (nx : Pt), (∀ p, p ∈ l → P p) → P nx → ∀ x, x ∈ wp l nx → P x
  | [], _, _, _, _, m => nomatch m
  | [p], nx, h, hn, x, m => w1_in hP (h p (by simp)) hn m
  | p :: q :: l, nx, h, hn, x, m => by
    rcases List.mem_append.mp (show x ∈ w1 p q ++ wp (q :: l) nx from m) with m | m
    · exact w1_in hP (h p (by simp)) (h q (by simp)) m
    · exact wp_in hP (q :: l) nx (fun z mz => h z (List.mem_cons_of_mem _ mz)) hn x m
theorem wm_in {P : Pt → Prop} (hP : InB P) {c : List Pt} (h : ∀ p, p ∈ c → P p) : ∀ x, x ∈ wm c → P x := by
  cases c with
  | nil => intro x m; cases m
  | cons p l => exact wp_in hP _ _ h (h p (by simp))
theorem mem_beg {α : Type} {c : List α} {k : Nat} {x : α} : x ∈ beg c k ↔ x ∈ c := by
  unfold beg
  rw [List.mem_append]
  constructor
  · rintro (m | m)
    · exact List.mem_of_mem_drop m
    · exact List.mem_of_mem_take m
  · intro m
    rw [← List.take_append_drop k c] at m
    rcases List.mem_append.mp m with m | m
    · exact .inr m
    · exact .inl m
theorem beg_len {α : Type} (c : List α) (k : Nat) : (beg c k).length = c.length := by
  unfold beg
  rw [List.length_append, List.length_drop, List.length_take]
  omega
/-- the indexes of the points that are on -/
def ps (c : List Pt) : List Nat := (List.range c.length).filter fun i => (c.getD i p0).2.2
def ro (c : List Pt) : List Pt := match ps c with
  | [] => (wm c).drop ((wm c).length - 1) ++ (wm c).dropLast
  | k :: _ => wm (beg c k)
theorem inB_in (b : Int) : InB (PtIn b) := fun p q hp hq => by
  obtain ⟨h1, h2, h3, h4⟩ := hp
  obtain ⟨g1, g2, g3, g4⟩ := hq
  refine ⟨?_, ?_, ?_, ?_⟩
  · show -b ≤ (p.1 + q.1) / 2; omega
  · show (p.1 + q.1) / 2 ≤ b; omega
  · show -b ≤ (p.2.1 + q.2.1) / 2; omega
  · show (p.2.1 + q.2.1) / 2 ≤ b; omega
theorem ro_in {P : Pt → Prop} (hP : InB P) {c : List Pt} (h : ∀ p, p ∈ c → P p) : ∀ x, x ∈ ro c → P x := by
  intro x m
  unfold ro at m
  split at m
  · refine wm_in hP h x ?_
    rcases List.mem_append.mp m with m | m
    · exact List.mem_of_mem_drop m
    · exact List.dropLast_subset _ m
  · exact wm_in hP (fun p mp => h p (mem_beg.mp mp)) x m
theorem ro_len (c : List Pt) : (ro c).length ≤ 2 * c.length ∧ c.length ≤ (ro c).length := by
  unfold ro
  split
  · have := wm_len c
    rw [List.length_append, List.length_drop, List.length_dropLast]
    omega
  · rename_i k _ _
    have := wm_len (beg c k)
    rw [beg_len] at this
    omega
/-- the line of a contour -/
def lnOf (c : List Pt) : List Pr := match ro c with
  | [] => []
  | r :: l => (pr r :: (List.range (r :: l).length).flatMap (st p0 (r :: l ++ [r]))).dropLast
/-! promises -/
def fMid (ds : List PyData) (d : PyData) : Prop := ∃ p q : Pt, ds = [ptD p, ptD q] ∧ d = ptD (mid p q)
def spCv : Sp := fun vs H Q _ => ∃ n a c b : Int, vs = [.int n, .int a, .int c, .int b] ∧ 0 ≤ n ∧ n ≤ 8 ∧ a.natAbs ≤ 10 ^ 7 ∧ c.natAbs ≤ 10 ^ 7 ∧ b.natAbs ≤ 10 ^ 7 ∧ Q (.int (cv n a c b)) H
theorem cv_app {n a c b : Int} {H : Hp} {Q : VK} {E : XK} (h1 : 0 ≤ n) (h2 : n ≤ 8) (h3 : a.natAbs ≤ 10 ^ 7) (h4 : c.natAbs ≤ 10 ^ 7) (h5 : b.natAbs ≤ 10 ^ 7) (q : Q (.int (cv n a c b)) H) : spCv [.int n, .int a, .int c, .int b] H Q E := ⟨n, a, c, b, rfl, h1, h2, h3, h4, h5, q⟩
def fCur (ds : List PyData) (d : PyData) : Prop := ∃ a c b : Pt, ds = [ptD a, ptD c, ptD b] ∧ PtIn (10 ^ 6) a ∧ PtIn (10 ^ 6) c ∧ PtIn (10 ^ 6) b ∧ d = lnD (cvs a c b)
def fWm (ds : List PyData) (d : PyData) : Prop := ∃ c : List Pt, ds = [ctD c] ∧ c.length ≤ 100 ∧ d = ctD (wm c)
def fRo (ds : List PyData) (d : PyData) : Prop := ∃ c : List Pt, ds = [ctD c] ∧ c.length ≤ 100 ∧ d = ctD (ro c)
def fLo (ds : List PyData) (d : PyData) : Prop := ∃ c : List Pt, ds = [ctD c] ∧ c.length ≤ 100 ∧ (∀ p, p ∈ c → PtIn (10 ^ 6) p) ∧ d = lnD (lnOf c)
def fLs (ds : List PyData) (d : PyData) : Prop := ∃ o : List (List Pt), ds = [ouD o] ∧ o.length ≤ 100 ∧ (∀ c, c ∈ o → c.length ≤ 100 ∧ ∀ p, p ∈ c → PtIn (10 ^ 6) p) ∧ d = lsD (o.map lnOf)
theorem fm_filter {α β : Type} (p : α → Bool) (f : α → β) : ∀ l : List α, l.filterMap (fun i => if p i = true then some (f i) else none) = (l.filter p).map f
  | [] => rfl
  | x :: l => by
    rw [List.filterMap_cons, List.filter_cons, fm_filter p f l]
    by_cases h : p x = true
    · simp [h]
    · simp [h]
theorem ps_fm (c : List Pt) : (List.range c.length).filterMap (fun i => if (c.getD i p0).2.2 = true then some (PyData.int (i : Int)) else none) = (ps c).map fun i : Nat => PyData.int (i : Int) := fm_filter _ _ _
theorem ps_lt {c : List Pt} {k : Nat} (h : k ∈ ps c) : k < c.length := by
  unfold ps at h
  exact List.mem_range.mp (List.mem_filter.mp h).1
theorem ps_on {c : List Pt} {k : Nat} (h : k ∈ ps c) : (c.getD k p0).2.2 = true := (List.mem_filter.mp h).2
/-! a ring begins with a point that is on -/
theorem w1_last (p q : Pt) : p.2.2 = false → q.2.2 = false → (w1 p q).getLast? = some (mid p q) := fun h1 h2 => by
  unfold w1
  simp [h1, h2]
theorem wp_last_off : ∀ (l : List Pt) (p nx : Pt), (∀ x, x ∈ p :: l → x.2.2 = false) → nx.2.2 = false → ∃ z, (wp (p :: l) nx).getLast? = some z ∧ z.2.2 = true
  | [], p, nx, h, hn => ⟨mid p nx, w1_last p nx (h p (by simp)) hn, rfl⟩
  | q :: l, p, nx, h, hn => by
    obtain ⟨z, e, hz⟩ := wp_last_off l q nx (fun x m => h x (List.mem_cons_of_mem _ m)) hn
    refine ⟨z, ?_, hz⟩
    show (w1 p q ++ wp (q :: l) nx).getLast? = _
    rw [List.getLast?_append, e]
    rfl
theorem beg_head {α : Type} {c : List α} {k : Nat} {x : α} (h : c[k]? = some x) : ∃ t, beg c k = x :: t := by
  unfold beg
  have hk := (List.getElem?_eq_some_iff.mp h).1
  rw [List.drop_eq_getElem_cons hk, (List.getElem?_eq_some_iff.mp h).2]
  exact ⟨_, rfl⟩
theorem getD_of {c : List Pt} {k : Nat} {x : Pt} (h : c[k]? = some x) : c.getD k p0 = x := by
  rw [List.getD_eq_getElem?_getD, h]
  rfl
theorem ro_on {c : List Pt} {r : Pt} {l : List Pt} (h : ro c = r :: l) : r.2.2 = true := by
  unfold ro at h
  cases hps : ps c with
  | nil =>
    rw [hps] at h
    have h : (wm c).drop ((wm c).length - 1) ++ (wm c).dropLast = r :: l := h
    cases c with
    | nil => cases h
    | cons p t =>
      have off : ∀ x, x ∈ p :: t → x.2.2 = false := fun x m => by
        obtain ⟨i, hi⟩ := List.getElem?_of_mem m
        cases hx : x.2.2 with
        | false => rfl
        | true =>
          have : i ∈ ps (p :: t) := by
            refine List.mem_filter.mpr ⟨List.mem_range.mpr (List.getElem?_eq_some_iff.mp hi).1, ?_⟩
            rw [getD_of hi]
            exact hx
          rw [hps] at this
          cases this
      obtain ⟨z, e, hz⟩ := wp_last_off t p p off (off p (by simp))
      have e' : (wm (p :: t)).drop ((wm (p :: t)).length - 1) = [z] := by
        have e2 : (wm (p :: t)).getLast? = some z := e
        rw [List.getLast?_eq_getElem?] at e2
        have hlt := (List.getElem?_eq_some_iff.mp e2).1
        rw [List.drop_eq_getElem_cons hlt, (List.getElem?_eq_some_iff.mp e2).2, List.drop_of_length_le (by omega)]
      rw [e'] at h
      have : z = r := by
        have h : z :: (wm (p :: t)).dropLast = r :: l := h
        exact (List.cons.inj h).1
      rw [← this]
      exact hz
  | cons k t =>
    rw [hps] at h
    have h : wm (beg c k) = r :: l := h
    have hk : k ∈ ps c := by rw [hps]; simp
    have hkl : k < c.length := ps_lt hk
    have hx : c[k]? = some c[k] := List.getElem?_eq_getElem hkl
    have hon := ps_on hk
    rw [getD_of hx] at hon
    obtain ⟨u, hu⟩ := beg_head hx
    rw [hu] at h
    obtain ⟨v, hv⟩ := wp_head c[k] u c[k]
    have h : wp (c[k] :: u) c[k] = r :: l := h
    rw [hv] at h
    rw [← (List.cons.inj h).1]
    exact hon
end Fl

set_option Elab.async false
set_option linter.all false
set_option maxRecDepth 100000
set_option maxHeartbeats 4000000
/-! the line of a contour, in a closed form; it goes around with the contour -/
namespace Fl
open PySem PySem.Spec PyProof.Rows L2

def Rot {α : Type} (a b : List α) : Prop := ∃ u v, a = u ++ v ∧ b = v ++ u
theorem Rot.refl {α : Type} (a : List α) : Rot a a := ⟨a, [], by simp, by simp⟩
theorem Rot.symm {α : Type} {a b : List α} (h : Rot a b) : Rot b a := by
  obtain ⟨u, v, rfl, rfl⟩ := h
  exact ⟨v, u, rfl, rfl⟩
theorem Rot.trans {α : Type} {a b c : List α} (h : Rot a b) (k : Rot b c) : Rot a c := by
  obtain ⟨u, v, rfl, hb⟩ := h
  obtain ⟨u', v', rfl, rfl⟩ := k
  rcases List.append_eq_append_iff.mp hb with ⟨w, h1, h2⟩ | ⟨w, h1, h2⟩
  · -- v = u' ++ w, v' = w ++ u
    subst h1 h2
    exact ⟨u ++ u', w, by simp, by simp⟩
  · subst h1 h2
    exact ⟨w, v' ++ v, by simp, by simp⟩
theorem Rot.beg {α : Type} (a : List α) (k : Nat) : Rot a (Fl.beg a k) := ⟨a.take k, a.drop k, (List.take_append_drop k a).symm, rfl⟩
theorem Rot.len {α : Type} {a b : List α} (h : Rot a b) : a.length = b.length := by
  obtain ⟨u, v, rfl, rfl⟩ := h
  simp [Nat.add_comm]
/-- a turn by less than the whole length -/
theorem Rot.ex {α : Type} {a b : List α} (h : Rot a b) (n : a ≠ []) : ∃ k, k < a.length ∧ Fl.beg a k = b := by
  obtain ⟨u, v, rfl, rfl⟩ := h
  cases v with
  | nil =>
    refine ⟨0, ?_, ?_⟩
    · cases u with
      | nil => exact absurd rfl n
      | cons x u => simp
    · unfold Fl.beg
      simp
  | cons x v =>
    refine ⟨u.length, by simp, ?_⟩
    unfold Fl.beg
    simp

/-! middle points go around -/
theorem wp_app : ∀ (u : List Pt) (p : Pt) (v : List Pt) (nx : Pt), wp (u ++ p :: v) nx = wp u p ++ wp (p :: v) nx
  | [], _, _, _ => rfl
  | [x], p, v, nx => rfl
  | x :: y :: u, p, v, nx => by
    show w1 x y ++ wp (y :: u ++ p :: v) nx = (w1 x y ++ wp (y :: u) p) ++ wp (p :: v) nx
    rw [wp_app (y :: u) p v nx, List.append_assoc]
theorem wm_rot {a b : List Pt} (h : Rot a b) : Rot (wm a) (wm b) := by
  obtain ⟨u, v, rfl, rfl⟩ := h
  cases u with
  | nil => simpa using Rot.refl _
  | cons x u =>
    cases v with
    | nil => simpa using Rot.refl _
    | cons y v =>
      have e1 : wm (x :: u ++ y :: v) = wp (x :: u) y ++ wp (y :: v) x := wp_app (x :: u) y v x
      have e2 : wm (y :: v ++ x :: u) = wp (y :: v) x ++ wp (x :: u) y := wp_app (y :: v) x u y
      exact ⟨_, _, e1, e2⟩
theorem ro_rot (c : List Pt) : Rot (wm c) (ro c) := by
  unfold ro
  cases ps c with
  | nil =>
    refine ⟨(wm c).dropLast, (wm c).drop ((wm c).length - 1), ?_, rfl⟩
    rw [List.dropLast_eq_take, List.take_append_drop]
  | cons k l => exact wm_rot (Rot.beg c k)

/-! no two neighbours are off, around -/
def Nc : List Pt → Pt → Prop
  | [], _ => True
  | [p], nx => p.2.2 = true ∨ nx.2.2 = true
  | p :: q :: l, nx => (p.2.2 = true ∨ q.2.2 = true) ∧ Nc (q :: l) nx
theorem Nc.app : ∀ (u : List Pt) (p : Pt) (v : List Pt) (nx : Pt), Nc (u ++ p :: v) nx ↔ Nc u p ∧ Nc (p :: v) nx
  | [], _, _, _ => by simp [Nc]
  | [x], p, v, nx => by
    show (x.2.2 = true ∨ p.2.2 = true) ∧ Nc (p :: v) nx ↔ _
    rfl
  | x :: y :: u, p, v, nx => by
    show (x.2.2 = true ∨ y.2.2 = true) ∧ Nc (y :: u ++ p :: v) nx ↔ ((x.2.2 = true ∨ y.2.2 = true) ∧ Nc (y :: u) p) ∧ Nc (p :: v) nx
    rw [Nc.app (y :: u) p v nx, and_assoc]
theorem Nc.na : ∀ (l : List Pt) (nx : Pt), Nc l nx → Na (l ++ [nx])
  | [], _, _ => trivial
  | [p], nx, h => ⟨h, trivial⟩
  | p :: q :: l, nx, h => ⟨h.1, Nc.na (q :: l) nx h.2⟩
theorem w1_nc (p q : Pt) : Nc (w1 p q) q := by
  unfold w1
  by_cases hp : p.2.2 = true
  · rw [if_pos hp]; exact .inl hp
  · rw [if_neg hp]
    by_cases hq : q.2.2 = true
    · rw [if_pos hq]; exact .inr hq
    · rw [if_neg hq]
      exact ⟨.inr rfl, .inl rfl⟩
theorem wp_nc : ∀ (l : List Pt) (nx : Pt), Nc (wp l nx) nx
  | [], _ => trivial
  | [p], nx => w1_nc p nx
  | p :: q :: l, nx => by
    obtain ⟨t, e⟩ := wp_head q l nx
    have ih := wp_nc (q :: l) nx
    show Nc (w1 p q ++ wp (q :: l) nx) nx
    rw [e] at ih ⊢
    exact (Nc.app _ _ _ _).mpr ⟨w1_nc p q, ih⟩
/-- around -/
def Nr : List Pt → Prop
  | [] => True
  | p :: l => Nc (p :: l) p
theorem Nr.rot {a b : List Pt} (h : Rot a b) (k : Nr a) : Nr b := by
  obtain ⟨u, v, rfl, rfl⟩ := h
  cases u with
  | nil => simpa using k
  | cons x u =>
    cases v with
    | nil => simpa using k
    | cons y v =>
      have k : Nc (x :: u ++ y :: v) x := k
      show Nc (y :: v ++ x :: u) y
      rw [Nc.app] at k ⊢
      exact ⟨k.2, k.1⟩
theorem wm_nr (c : List Pt) : Nr (wm c) := by
  cases c with
  | nil => trivial
  | cons p l =>
    obtain ⟨t, e⟩ := wp_head p l p
    have h := wp_nc (p :: l) p
    show Nr (wp (p :: l) p)
    rw [e] at h ⊢
    exact h
theorem ro_nr (c : List Pt) : Nr (ro c) := (wm_nr c).rot (ro_rot c)

/-! the line, around -/
def er (l : List Pt) : List Pr := match l with
  | [] => []
  | p :: t => ep ((p :: t).getLast (by simp)) (p :: t) p
theorem ep_app : ∀ (u : List Pt) (pv p : Pt) (v : List Pt) (nx x : Pt), ep pv (x :: u ++ p :: v) nx = ep pv (x :: u) p ++ ep ((x :: u).getLast (by simp)) (p :: v) nx
  | [], _, _, _, _, _ => rfl
  | y :: u, pv, p, v, nx, x => by
    have ih := ep_app u x p v nx y
    show e1 pv x y ++ ep x (y :: u ++ p :: v) nx = (e1 pv x y ++ ep x (y :: u) p) ++ ep ((x :: y :: u).getLast (by simp)) (p :: v) nx
    rw [ih, List.append_assoc]
    rfl
theorem er_rot {a b : List Pt} (h : Rot a b) : Rot (er a) (er b) := by
  obtain ⟨u, v, rfl, rfl⟩ := h
  cases u with
  | nil => simpa using Rot.refl _
  | cons x u =>
    cases v with
    | nil => simpa using Rot.refl _
    | cons y v =>
      have g1 : (x :: u ++ y :: v).getLast (by simp) = (y :: v).getLast (by simp) := List.getLast_append_of_ne_nil (by simp) (by simp)
      have g2 : (y :: v ++ x :: u).getLast (by simp) = (x :: u).getLast (by simp) := List.getLast_append_of_ne_nil (by simp) (by simp)
      refine ⟨ep ((y :: v).getLast (by simp)) (x :: u) y, ep ((x :: u).getLast (by simp)) (y :: v) x, ?_, ?_⟩
      · show ep ((x :: u ++ y :: v).getLast (by simp)) (x :: u ++ y :: v) x = _
        rw [g1, ep_app]
      · show ep ((y :: v ++ x :: u).getLast (by simp)) (y :: v ++ x :: u) y = _
        rw [g2, ep_app]
theorem lnOf_er (c : List Pt) : lnOf c = er (ro c) := by
  unfold lnOf
  have hn := ro_nr c
  cases hro : ro c with
  | nil => rfl
  | cons r l =>
    have hr := ro_on hro
    rw [hro] at hn
    have hna : Na (r :: l ++ [r]) := Nc.na _ _ hn
    have h1 := tele r hr l ((r :: l).getLast (by simp)) r hna
    rw [if_pos hr] at h1
    have h2 : (List.range (r :: l).length).flatMap (st p0 (r :: l ++ [r])) = sp' p0 (r :: l ++ [r]) := by
      have := st_sp (l ++ [r]) p0 r
      rw [List.length_append] at this
      exact this
    have h3 : sp' p0 (r :: l ++ [r]) = sp' ((r :: l).getLast (by simp)) (r :: l ++ [r]) := by
      cases l with
      | nil =>
        show s1 _ r r ++ [] = s1 _ r r ++ []
        unfold s1
        simp [hr]
      | cons q l =>
        show s1 _ r q ++ _ = s1 _ r q ++ _
        unfold s1
        simp [hr]
    show (pr r :: (List.range (r :: l).length).flatMap (st p0 (r :: l ++ [r]))).dropLast = ep ((r :: l).getLast (by simp)) (r :: l) r
    rw [h2, h3]
    have h4 : pr r :: sp' ((r :: l).getLast (by simp)) (r :: l ++ [r]) = ep ((r :: l).getLast (by simp)) (r :: l) r ++ [pr r] := h1
    rw [h4, List.dropLast_concat]
theorem lnOf_rot {a b : List Pt} (h : Rot a b) : Rot (lnOf a) (lnOf b) := by
  rw [lnOf_er, lnOf_er]
  exact er_rot ((ro_rot a).symm.trans ((wm_rot h).trans (ro_rot b)))
theorem lnOf_ne {c : List Pt} (h : c ≠ []) : lnOf c ≠ [] := by
  rw [lnOf_er]
  have hl := ro_len c
  cases hro : ro c with
  | nil =>
    rw [hro] at hl
    exact absurd (List.eq_nil_of_length_eq_zero (by simpa using hl.2)) h
  | cons r l =>
    have hr := ro_on hro
    show ep _ (r :: l) r ≠ []
    cases l with
    | nil =>
      show e1 _ r r ≠ []
      unfold e1
      rw [if_pos hr]
      simp
    | cons q l =>
      show e1 _ r q ++ _ ≠ []
      unfold e1
      rw [if_pos hr]
      simp
end Fl
namespace Fl
open PySem PySem.Spec PyProof.Rows L2
theorem canLay_all (P : PyData → Prop) (h : ∀ d, P d → d.canLay0 = true) : ∀ ds : List PyData, (∀ d, d ∈ ds → P d) → PyData.canLayAll0 ds = true
  | [], _ => by simp [PyData.canLayAll0]
  | d :: ds, k => by
    simp [PyData.canLayAll0, h d (k d (by simp)), canLay_all P h ds (fun e m => k e (List.mem_cons_of_mem _ m))]
theorem depth_all (n : Nat) : ∀ ds : List PyData, (∀ d, d ∈ ds → d.depth ≤ n) → PyData.depthAll ds ≤ n
  | [], _ => by simp [PyData.depthAll]
  | d :: ds, k => by
    have h1 := k d (by simp)
    have h2 := depth_all n ds (fun e m => k e (List.mem_cons_of_mem _ m))
    simp only [PyData.depthAll]
    omega
theorem sh_list {ds : List PyData} {n : Nat} (h : ∀ d, d ∈ ds → d.canLay0 = true ∧ d.depth ≤ n) (hn : n < 64) : SeqAt.shaped (.list ds) = true := by
  unfold SeqAt.shaped
  have h1 := canLay_all (fun d => d.canLay0 = true) (fun _ h => h) ds (fun d m => (h d m).1)
  have h2 := depth_all n ds (fun d m => (h d m).2)
  have h3 : (PyData.list ds).depth = PyData.depthAll ds + 1 := by simp [PyData.depth]
  have h4 : (PyData.list ds).canLay0 = true := by simp [PyData.canLay0, h1]
  rw [h4, Bool.true_and, decide_eq_true_eq, h3]
  omega
theorem pr_lay (p : Pr) : (prD p).canLay0 = true ∧ (prD p).depth ≤ 1 := by
  unfold prD
  simp [PyData.canLay0, PyData.canLayAll0, PyData.depth, PyData.depthAll]
theorem sh_ln (l : List Pr) : SeqAt.shaped (lnD l) = true := sh_list (n := 1) (fun d m => by
  obtain ⟨p, _, rfl⟩ := List.mem_map.mp m
  exact pr_lay p) (by decide)
theorem eqv_self {d : PyData} (h : SeqAt.shaped d = true) : PyData.eqv d d = true := SeqAt.eqv_refl d (SeqAt.canLay_of_shaped h)
theorem g_eqD {K : PySem.W.Frag} {S T : List Addr} {H : Hp} {x y : V} {d e : PyData} {Q : VK} (h1 : Dq S H x d) (h2 : Dq T H y e) (s1 : SeqAt.shaped d = true) (s2 : SeqAt.shaped e = true) (q : Q (.bl (PyData.eqv d e)) H) : rEqD K x y H Q :=
  ⟨d, e, h1.dp (nodict_sh s1), h2.dp (nodict_sh s2), s1, s2, q⟩
theorem g_neD' {K : PySem.W.Frag} {S T : List Addr} {H : Hp} {x y : V} {d e : PyData} {Q : VK} (h1 : Dq S H x d) (h2 : Dq T H y e) (s1 : SeqAt.shaped d = true) (s2 : SeqAt.shaped e = true) (q : Q (.bl (!PyData.eqv d e)) H) : rNeD K x y H Q :=
  ⟨d, e, h1.dp (nodict_sh s1), h2.dp (nodict_sh s2), s1, s2, q⟩
end Fl
namespace Fl
open PySem PySem.Spec PyProof.Rows L2
theorem e1_len (a p b : Pt) : (e1 a p b).length ≤ 7 := by
  unfold e1
  split
  · simp
  · simp [cv7]
theorem ep_len : ∀ (l : List Pt) (pv nx : Pt), (ep pv l nx).length ≤ 7 * l.length
  | [], _, _ => Nat.le_refl _
  | [p], pv, nx => e1_len pv p nx
  | p :: q :: l, pv, nx => by
    have ih := ep_len (q :: l) p nx
    have h := e1_len pv p q
    show (e1 pv p q ++ ep p (q :: l) nx).length ≤ _
    rw [List.length_append]
    simp only [List.length_cons] at *
    omega
theorem lnOf_len (c : List Pt) : (lnOf c).length ≤ 14 * c.length := by
  rw [lnOf_er]
  have h := (ro_len c).1
  unfold er
  cases hro : ro c with
  | nil => simp
  | cons r l =>
    rw [hro] at h
    have := ep_len (r :: l) ((r :: l).getLast (by simp)) r
    show (ep ((r :: l).getLast (by simp)) (r :: l) r).length ≤ _
    omega
end Fl

set_option Elab.async false
set_option linter.all false
set_option maxRecDepth 100000
set_option maxHeartbeats 4000000
/-! flattened lists; least and greatest numbers; the same data twice -/
namespace Fl
open PySem PySem.Spec PyProof.Rows L2
section
variable {K : PySem.W.Frag} {S : List Addr} {H1 : Hp} {Q : VK}
def lc2K (J : It) (g : TG) (tt : TT) (wi1 : TI) (g1 : TG) (tt1 : TT) (te : TE) (vs vs1 : List Nat) (σ : L2.St) (H1 : Hp) (Q : VK) : Prop :=
  ∀ B, H1 B = none → ∃ W : Nat → Nat → Hp → Prop, (∃ m, W 0 m (upd H1 B (.lst []))) ∧ ∀ i m H, W i m H →
    (J.stop i H ∧ Q (.ref B) H) ∨ (J.go i H ∧ ∃ Nx : Hp → Prop, (∀ H', Nx H' → ∃ m', m' < m ∧ W (i + 1) m' H') ∧
      ∀ x H', J.yld i H x H' → g x (wipe σ vs) H' fun σ2 H2 => wipe σ2 vs = wipe σ vs ∧ tt σ2 H2 fun b H3 =>
        if b = true then wi1 σ2 H3 fun J1 H4 => ∃ W1 : Nat → Nat → Hp → Prop, (∃ m, W1 0 m H4) ∧ ∀ j k H, W1 j k H →
          (J1.stop j H ∧ Nx H) ∨ (J1.go j H ∧ ∃ Nx1 : Hp → Prop, (∀ H', Nx1 H' → ∃ k', k' < k ∧ W1 (j + 1) k' H') ∧
            ∀ x H', J1.yld j H x H' → g1 x (wipe σ2 vs1) H' fun σ3 H5 => wipe σ3 vs1 = wipe σ2 vs1 ∧ tt1 σ3 H5 fun b H6 =>
              if b = true then te σ3 H6 fun y H7 => ∃ acc, H7 B = some (.lst acc) ∧ acc.length < sizeLine ∧ Nx1 (upd H7 B (.lst (acc ++ [y]))) else Nx1 H6)
        else Nx H3)
theorem g_lc2 {wi : TI} {g : TG} {tt : TT} {wi1 : TI} {g1 : TG} {tt1 : TT} {te : TE} {vs vs1 : List Nat} {σ : L2.St} {H : Hp} (h : wi σ H fun J H1 => lc2K J g tt wi1 g1 tt1 te vs vs1 σ H1 Q) : tLc2 wi g tt wi1 g1 tt1 te vs vs1 σ H Q := h
theorem g_yesI {A B : Hp → Prop} {σ : L2.St} {H : Hp} (h : A H) : tYes σ H (fun b H3 => if b = true then A H3 else B H3) := h
structure FlatAt (S : List Addr) (H1 : Hp) (D : Addr) (ds : List PyData) (H : Hp) : Prop where
  ex : ∃ acc, H D = some (.lst acc) ∧ DqA (D :: S) H acc ds
  fr : Fr [D] H1 H
/-- [y for x in xs for y in x] -/
theorem lcLL {a : Addr} {es : List (List PyData)} {vs vs1 : List Nat} {σ : L2.St} {i0 j0 : Nat} (hS : Al S H1) (ha : Dq S H1 (.ref a) (.list (es.map PyData.list))) (hz : es.flatten.length < 1000)
    (hw : ∀ x, wipe ((wipe σ vs).set i0 (some x)) vs = wipe σ vs) (hw1 : ∀ x y, wipe ((wipe ((wipe σ vs).set i0 (some x)) vs1).set j0 (some y)) vs1 = wipe ((wipe σ vs).set i0 (some x)) vs1)
    (hi0 : ∀ x, ((wipe σ vs).set i0 (some x))[i0]? = some (some x)) (hj0 : ∀ x y, ((wipe ((wipe σ vs).set i0 (some x)) vs1).set j0 (some y))[j0]? = some (some y))
    (q : ∀ (D : Addr) (H : Hp), Same H1 H → H1 D = none → Dq S H (.ref D) (.list es.flatten) → Q (.ref D) H) :
    lc2K (Itl K a) (gName i0) tYes (iList K (tVar i0)) (gName j0) tYes (tVar j0) vs vs1 σ H1 Q := by
  intro D hD
  obtain ⟨a', xs, ea, na, hxs, hall⟩ := ha.lstE
  cases ea
  have hlx := hall.len
  rw [List.length_map] at hlx
  have hDa : a ≠ D := fun e => by rw [e, hD] at hxs; cases hxs
  have hDS : D ∉ S := hS.ni hD
  refine ⟨fun i m H => m = xs.length - i ∧ i ≤ xs.length ∧ FlatAt S H1 D (es.take i).flatten H, ⟨_, rfl, Nat.zero_le _, ⟨⟨[], upd_same, .nil⟩, Fr.same (Fl.Same.new hD)⟩⟩, ?_⟩
  rintro i m H ⟨rfl, hle, F⟩
  have hsm : Same H1 H := sm_of hD F.fr
  have qa : SqL K H a xs := SqL.of (F.fr a _ (by simpa using hDa) hxs)
  by_cases hlt : i < xs.length
  · refine .inr ⟨⟨xs, xs[i], qa, by simp [hlt]⟩, FlatAt S H1 D (es.take (i + 1)).flatten, fun H' p => ⟨xs.length - (i + 1), by omega, rfl, hlt, p⟩, fun x H' y => ?_⟩
    obtain ⟨e, y⟩ := y
    subst e
    have hx := y xs qa
    refine g_name ⟨hw x, g_yesI ?_⟩
    obtain ⟨e, he, dx⟩ := ((hall.new hD).same hsm).getM hx
    obtain ⟨b, zs, rfl, nb, hb, hB⟩ := dx.lstE
    have hDb : b ≠ D := fun e => nb (by rw [e]; simp)
    have hlz := hB.len
    have hflat : (es.take (i + 1)).flatten = (es.take i).flatten ++ e := by
      rw [List.take_succ, he, List.flatten_append]
      simp
    have hsub : (es.take (i + 1)).flatten.length ≤ es.flatten.length := by
      conv => rhs; rw [← List.take_append_drop (i + 1) es, List.flatten_append, List.length_append]
      omega
    refine g_il (g_var (hi0 _) (g_el (SqL.of hb) ?_))
    refine ⟨fun j k H => k = zs.length - j ∧ j ≤ zs.length ∧ FlatAt S H1 D ((es.take i).flatten ++ e.take j) H ∧ Fr [D] H' H, ⟨_, rfl, Nat.zero_le _, by simpa using F, Fr.refl⟩, ?_⟩
    rintro j k H2 ⟨rfl, hj, F2, f2⟩
    have qb : SqL K H2 b zs := SqL.of (f2 b _ (by simpa using hDb) hb)
    by_cases hjl : j < zs.length
    · refine .inr ⟨⟨zs, zs[j], qb, by simp [hjl]⟩, fun H => FlatAt S H1 D ((es.take i).flatten ++ e.take (j + 1)) H ∧ Fr [D] H' H, fun H3 p => ⟨zs.length - (j + 1), by omega, rfl, hjl, p⟩, fun x2 H3 y2 => ?_⟩
      obtain ⟨e2, y2⟩ := y2
      subst e2
      have hx2 := y2 zs qb
      refine g_name ⟨hw1 _ x2, g_yesI (g_var (hj0 _ x2) ?_)⟩
      obtain ⟨⟨acc, hacc, hA⟩, hf⟩ := F2
      have hfS : Fr (D :: S) H' H3 := f2.mono fun b m => by simpa using Or.inl (show b = D by simpa using m)
      obtain ⟨e', he', dx2⟩ := (hB.fr hfS).get hx2
      have hal := hA.len
      have hlen : ((es.take i).flatten ++ e.take j).length < 1000 := by
        rw [hflat] at hsub
        rw [List.length_append] at hsub ⊢
        rw [List.length_take]
        omega
      refine ⟨acc, hacc, ?_, ⟨⟨acc ++ [x2], upd_same, ?_⟩, hf.trans (Fr.upd (by simp))⟩, f2.trans (Fr.upd (by simp))⟩
      · have : (1000 : Nat) ≤ sizeLine := by decide
        omega
      · rw [List.take_succ, he', ← List.append_assoc]
        exact (hA.app (.one dx2)).fr (Fr.upd (by simp))
    · have ej : j = zs.length := by omega
      subst ej
      refine .inl ⟨⟨zs, qb, Nat.le_refl _⟩, ?_⟩
      rw [hflat]
      rw [List.take_of_length_le (l := e) (i := zs.length) (by omega)] at F2
      exact F2
  · have e : i = xs.length := by omega
    subst e
    refine .inl ⟨⟨xs, qa, Nat.le_refl _⟩, ?_⟩
    rw [List.take_of_length_le (by omega)] at F
    obtain ⟨⟨acc, hacc, hA⟩, hf⟩ := F
    exact q D _ hsm hD (.lst hDS hacc hA.tail)
end

/-! the least and the greatest -/
def IsMin (m : Int) (l : List Int) : Prop := m ∈ l ∧ ∀ y, y ∈ l → m ≤ y
def IsMax (m : Int) (l : List Int) : Prop := m ∈ l ∧ ∀ y, y ∈ l → y ≤ m
theorem ex_min : ∀ l : List Int, l ≠ [] → ∃ m, IsMin m l
  | [], h => absurd rfl h
  | [x], _ => ⟨x, by simp, fun y m => by rw [show y = x by simpa using m]; exact Int.le_refl _⟩
  | x :: z :: l, _ => by
    obtain ⟨m, h1, h2⟩ := ex_min (z :: l) (by simp)
    rcases Int.le_total x m with h | h
    · refine ⟨x, by simp, fun y my => ?_⟩
      rcases List.mem_cons.mp my with rfl | my
      · exact Int.le_refl _
      · exact Int.le_trans h (h2 y my)
    · refine ⟨m, List.mem_cons_of_mem _ h1, fun y my => ?_⟩
      rcases List.mem_cons.mp my with rfl | my
      · exact h
      · exact h2 y my
theorem ex_max : ∀ l : List Int, l ≠ [] → ∃ m, IsMax m l
  | [], h => absurd rfl h
  | [x], _ => ⟨x, by simp, fun y m => by rw [show y = x by simpa using m]; exact Int.le_refl _⟩
  | x :: z :: l, _ => by
    obtain ⟨m, h1, h2⟩ := ex_max (z :: l) (by simp)
    rcases Int.le_total x m with h | h
    · refine ⟨m, List.mem_cons_of_mem _ h1, fun y my => ?_⟩
      rcases List.mem_cons.mp my with rfl | my
      · exact h
      · exact h2 y my
    · refine ⟨x, by simp, fun y my => ?_⟩
      rcases List.mem_cons.mp my with rfl | my
      · exact Int.le_refl _
      · exact Int.le_trans (h2 y my) h
theorem IsMin.eq {m n : Int} {l : List Int} (h : IsMin m l) (k : IsMin n l) : m = n := Int.le_antisymm (h.2 n k.1) (k.2 m h.1)
theorem IsMax.eq {m n : Int} {l : List Int} (h : IsMax m l) (k : IsMax n l) : m = n := Int.le_antisymm (k.2 m h.1) (h.2 n k.1)
theorem ints_of {S : List Addr} {H : Hp} : ∀ {xs : List V} {ns : List Int}, DqA S H xs (ns.map PyData.int) → xs = ns.map V.int
  | _, [], h => h.nilE
  | _, n :: ns, h => by
    obtain ⟨v, ws, rfl, hv, hw⟩ := h.consE
    rw [hv.intE, ints_of hw]
    rfl
def rMinL (K : PySem.W.Frag) : List V → Hp → VK → Prop := fun vs H Q => ∃ (a : Addr) (ns : List Int), vs = [V.ref a] ∧ SqL K H a (ns.map V.int) ∧ ∃ m, IsMin m ns ∧ Q (.int m) H
def rMaxL (K : PySem.W.Frag) : List V → Hp → VK → Prop := fun vs H Q => ∃ (a : Addr) (ns : List Int), vs = [V.ref a] ∧ SqL K H a (ns.map V.int) ∧ ∃ m, IsMax m ns ∧ Q (.int m) H
section
variable {X : Cx} {K : PySem.W.Frag}
theorem clMin (e : X.K = K) (hc : X.calm = true) : CallR X (.builtin "min") (Fl.rMinL K) := by
  subst e
  intro pins s σ H xs us Q I r h
  obtain ⟨a, ns, rfl, hs, m, hm, q⟩ := h
  exact cr_min hc pins s σ H _ us Q I r ⟨a, ns, rfl, hs, List.length_pos_of_mem hm.1, fun m' h1 h2 => by rw [IsMin.eq ⟨h1, h2⟩ hm]; exact q⟩
theorem clMax (e : X.K = K) (hc : X.calm = true) : CallR X (.builtin "max") (Fl.rMaxL K) := by
  subst e
  intro pins s σ H xs us Q I r h
  obtain ⟨a, ns, rfl, hs, m, hm, q⟩ := h
  exact cr_max hc pins s σ H _ us Q I r ⟨a, ns, rfl, hs, List.length_pos_of_mem hm.1, fun m' h1 h2 => by rw [IsMax.eq ⟨h1, h2⟩ hm]; exact q⟩
theorem clSum (e : X.K = K) (hc : X.calm = true) : CallR X (.builtin "sum") (rSum K) := by subst e; exact cr_sum hc
theorem g_minL {a : Addr} {ns : List Int} {m : Int} {H : Hp} {Q : VK} (h : SqL K H a (ns.map V.int)) (hm : IsMin m ns) (q : Q (.int m) H) : Fl.rMinL K [.ref a] H Q := ⟨a, ns, rfl, h, m, hm, q⟩
theorem g_maxL {a : Addr} {ns : List Int} {m : Int} {H : Hp} {Q : VK} (h : SqL K H a (ns.map V.int)) (hm : IsMax m ns) (q : Q (.int m) H) : Fl.rMaxL K [.ref a] H Q := ⟨a, ns, rfl, h, m, hm, q⟩
theorem g_sum {a : Addr} {ns : List Int} {H : Hp} {Q : VK} (h : SqL K H a (ns.map V.int)) (q : Q (.int ns.sum) H) : rSum K [.ref a] H Q := ⟨a, ns, rfl, h, q⟩
end

/-! promises -/
def xsOf (o : List (List Pt)) : List Int := o.flatten.map fun p => p.1
def ysOf (o : List (List Pt)) : List Int := o.flatten.map fun p => p.2.1
def fBox (ds : List PyData) (d : PyData) : Prop := ∃ o : List (List Pt), ds = [ouD o] ∧ o.flatten.length < 900 ∧
  ((o.flatten = [] ∧ d = .none) ∨ ∃ x1 y1 x2 y2 : Int, IsMin x1 (xsOf o) ∧ IsMin y1 (ysOf o) ∧ IsMax x2 (xsOf o) ∧ IsMax y2 (ysOf o) ∧ d = .tuple [.int x1, .int y1, .int x2, .int y2])
def mv (x y : Int) (p : Pt) : Pt := (p.1 + x, p.2.1 + y, p.2.2)
def fMv (ds : List PyData) (d : PyData) : Prop := ∃ (o : List (List Pt)) (x y : Int), ds = [ouD o, .int x, .int y] ∧ o.length ≤ 100 ∧ (∀ c, c ∈ o → c.length ≤ 900) ∧ d = ouD (o.map fun c => c.map (mv x y))
/-- flat data -/
def FlD : PyData → Prop
  | .int _ | .bool _ | .none => True
  | _ => False
def TfD (d : PyData) : Prop := ∃ es, d = .tuple es ∧ es.length ≤ 10 ∧ ∀ e, e ∈ es → FlD e
/-- same(x, y), x and y the same flat data -/
def spSm1 : Sp := fun vs H Q _ => ∃ (S T : List Addr) (d : PyData) (x y : V), vs = [x, y] ∧ FlD d ∧ Dq S H x d ∧ Dq T H y d ∧ Q (.bl true) H
def spSm2 : Sp := fun vs H Q _ => ∃ (S T : List Addr) (d : PyData) (x y : V), vs = [x, y] ∧ TfD d ∧ Dq S H x d ∧ Dq T H y d ∧ Q (.bl true) H
def spSml : Sp := fun vs H Q _ => ∃ (S T : List Addr) (ds : List PyData) (x y : V), vs = [x, y] ∧ ds.length ≤ 900 ∧ (∀ d, d ∈ ds → TfD d) ∧ Dq S H x (.list ds) ∧ Dq T H y (.list ds) ∧ Q (.bl true) H
def spSmr : Sp := fun vs H Q _ => ∃ (S T : List Addr) (dss : List (List PyData)) (x y : V), vs = [x, y] ∧ Al S H ∧ dss.length ≤ 900 ∧ (∀ ds, ds ∈ dss → ds.length ≤ 900 ∧ ∀ d, d ∈ ds → TfD d) ∧ Dq S H x (.list (dss.map PyData.list)) ∧ Dq T H y (.list (dss.map PyData.list)) ∧ ∀ H', Same H H' → Q (.bl true) H'
theorem tf_pt (p : Pt) : TfD (ptD p) := ⟨_, rfl, by simp, fun e m => by
  simp only [List.mem_cons, List.not_mem_nil, or_false] at m
  rcases m with rfl | rfl | rfl <;> trivial⟩
theorem tf_pr (p : Pr) : TfD (prD p) := ⟨_, rfl, by simp, fun e m => by
  simp only [List.mem_cons, List.not_mem_nil, or_false] at m
  rcases m with rfl | rfl <;> trivial⟩
theorem trues_of {S : List Addr} {H : Hp} : ∀ (l : List Nat) (zs : List V), DqA S H zs (l.filterMap fun _ => some (PyData.bool true)) → zs.all flatV = true ∧ inV (.bl false) zs = false
  | [], zs, h => by
    rw [h.nilE]
    exact ⟨rfl, rfl⟩
  | _ :: l, zs, h => by
    obtain ⟨v, ws, rfl, hv, hw⟩ := h.consE
    obtain ⟨h1, h2⟩ := trues_of l ws hw
    rw [hv.blE]
    exact ⟨by rw [List.all_cons, h1]; rfl, by
      show (eqV (.bl true) (.bl false) || inV (.bl false) ws) = false
      rw [h2]
      rfl⟩
end Fl

set_option Elab.async false
set_option linter.all false
set_option maxRecDepth 100000
set_option maxHeartbeats 4000000
/-! lines: where they lie, where they begin, how they move -/
namespace Fl
open PySem PySem.Spec PyProof.Rows L2
theorem e1_in {P : Pt → Prop} {R : Pr → Prop} (h1 : ∀ p, P p → R (pr p)) (h2 : ∀ a p b n, n < 7 → P a → P p → P b → R (cp a p b n)) {a p b : Pt} (ha : P a) (hp : P p) (hb : P b) {x : Pr} (m : x ∈ e1 a p b) : R x := by
  unfold e1 at m
  split at m
  · rw [show x = pr p by simpa using m]
    exact h1 p hp
  · unfold cv7 at m
    obtain ⟨n, hn, rfl⟩ := List.mem_map.mp m
    exact h2 a p b n (List.mem_range.mp hn) ha hp hb
theorem ep_in {P : Pt → Prop} {R : Pr → Prop} (h1 : ∀ p, P p → R (pr p)) (h2 : ∀ a p b n, n < 7 → P a → P p → P b → R (cp a p b n)) : ∀ (l : List Pt) (pv nx : Pt), P pv → P nx → (∀ p, p ∈ l → P p) → ∀ x, x ∈ ep pv l nx → R x
  | [], _, _, _, _, _, _, m => nomatch m
  | [p], pv, nx, hv, hn, h, x, m => e1_in h1 h2 hv (h p (by simp)) hn m
  | p :: q :: l, pv, nx, hv, hn, h, x, m => by
    rcases List.mem_append.mp (show x ∈ e1 pv p q ++ ep p (q :: l) nx from m) with m | m
    · exact e1_in h1 h2 hv (h p (by simp)) (h q (by simp)) m
    · exact ep_in h1 h2 (q :: l) p nx (h p (by simp)) hn (fun z mz => h z (List.mem_cons_of_mem _ mz)) x m
theorem lnOf_in {P : Pt → Prop} {R : Pr → Prop} (hP : InB P) (h1 : ∀ p, P p → R (pr p)) (h2 : ∀ a p b n, n < 7 → P a → P p → P b → R (cp a p b n)) {c : List Pt} (h : ∀ p, p ∈ c → P p) : ∀ x, x ∈ lnOf c → R x := by
  intro x m
  rw [lnOf_er] at m
  have hr := ro_in hP h
  cases hro : ro c with
  | nil => rw [hro] at m; cases m
  | cons r l =>
    rw [hro] at m hr
    exact ep_in h1 h2 (r :: l) _ r (hr _ (List.getLast_mem _)) (hr r (by simp)) hr x m
theorem cv_box {lo hi n a c b : Int} (h0 : 1 ≤ n) (h1 : n ≤ 7) (ha : lo ≤ a ∧ a ≤ hi) (hc : lo ≤ c ∧ c ≤ hi) (hb : lo ≤ b ∧ b ≤ hi) : lo ≤ cv n a c b ∧ cv n a c b ≤ hi := by
  unfold cv
  rcases (by omega : n = 1 ∨ n = 2 ∨ n = 3 ∨ n = 4 ∨ n = 5 ∨ n = 6 ∨ n = 7) with rfl | rfl | rfl | rfl | rfl | rfl | rfl <;> omega
theorem ln_box {x1 y1 x2 y2 : Int} {c : List Pt} (h : ∀ p, p ∈ c → (x1 ≤ p.1 ∧ p.1 ≤ x2) ∧ y1 ≤ p.2.1 ∧ p.2.1 ≤ y2) : ∀ z, z ∈ lnOf c → (x1 ≤ z.1 ∧ z.1 ≤ x2) ∧ y1 ≤ z.2 ∧ z.2 ≤ y2 := by
  refine lnOf_in (P := fun p => (x1 ≤ p.1 ∧ p.1 ≤ x2) ∧ y1 ≤ p.2.1 ∧ p.2.1 ≤ y2) (R := fun z => (x1 ≤ z.1 ∧ z.1 ≤ x2) ∧ y1 ≤ z.2 ∧ z.2 ≤ y2) ?_ (fun p hp => hp) ?_ h
  · intro p q hp hq
    refine ⟨⟨?_, ?_⟩, ?_, ?_⟩
    · show _ ≤ (p.1 + q.1) / 2; omega
    · show (p.1 + q.1) / 2 ≤ _; omega
    · show _ ≤ (p.2.1 + q.2.1) / 2; omega
    · show (p.2.1 + q.2.1) / 2 ≤ _; omega
  · intro a p b n hn ha hp hb
    exact ⟨cv_box (by omega) (by omega) ha.1 hp.1 hb.1, cv_box (by omega) (by omega) ha.2 hp.2 hb.2⟩

/-! the points that are on -/
def fon (c : List Pt) : List Pt := c.filter fun p => p.2.2
theorem range_map (c : List Pt) : (List.range c.length).map (fun i => c.getD i p0) = c := by
  apply List.ext_getElem
  · simp
  · intro i h1 h2
    rw [List.getElem_map, List.getElem_range, List.getD_eq_getElem?_getD, List.getElem?_eq_getElem h2]
    rfl
theorem fon_ps (c : List Pt) : fon c = (ps c).map fun i => c.getD i p0 := by
  have h : fon c = fon ((List.range c.length).map fun i => c.getD i p0) := by rw [range_map]
  rw [h]
  unfold fon ps
  rw [List.filter_map]
  rfl
theorem lnOf_head {c : List Pt} {f : Pt} {t : List Pt} (h : fon c = f :: t) : ∃ l, lnOf c = pr f :: l := by
  rw [fon_ps] at h
  cases hps : ps c with
  | nil => rw [hps] at h; cases h
  | cons k u =>
    rw [hps] at h
    have hk : k ∈ ps c := by rw [hps]; simp
    have hkl : k < c.length := ps_lt hk
    have hx : c[k]? = some c[k] := List.getElem?_eq_getElem hkl
    have hf : c[k] = f := by
      rw [List.map_cons] at h
      rw [← (List.cons.inj h).1, getD_of hx]
    have hon := ps_on hk
    rw [getD_of hx] at hon
    obtain ⟨v, hv⟩ := beg_head hx
    have hro : ro c = wm (beg c k) := by unfold ro; rw [hps]
    obtain ⟨z, hz⟩ := wp_head c[k] v c[k]
    rw [hv] at hro
    have hro : ro c = c[k] :: z := hro.trans hz
    rw [lnOf_er, hro, ← hf]
    show ∃ l, ep _ (c[k] :: z) c[k] = _
    cases z with
    | nil =>
      refine ⟨[], ?_⟩
      show e1 _ _ _ = _
      unfold e1
      rw [if_pos hon]
    | cons q z =>
      refine ⟨ep c[k] (q :: z) c[k], ?_⟩
      show e1 _ _ _ ++ _ = _
      unfold e1
      rw [if_pos hon]
      rfl
theorem wp_on : ∀ (l : List Pt) (nx : Pt), (∀ p, p ∈ l → p.2.2 = true) → wp l nx = l
  | [], _, _ => rfl
  | [p], nx, h => by
    show w1 p nx = _
    unfold w1
    rw [if_pos (h p (by simp))]
  | p :: q :: l, nx, h => by
    show w1 p q ++ wp (q :: l) nx = _
    rw [wp_on (q :: l) nx (fun x m => h x (List.mem_cons_of_mem _ m))]
    unfold w1
    rw [if_pos (h p (by simp))]
    rfl
theorem ep_on : ∀ (l : List Pt) (pv nx : Pt), (∀ p, p ∈ l → p.2.2 = true) → ep pv l nx = l.map pr
  | [], _, _, _ => rfl
  | [p], pv, nx, h => by
    show e1 pv p nx = _
    unfold e1
    rw [if_pos (h p (by simp))]
    rfl
  | p :: q :: l, pv, nx, h => by
    show e1 pv p q ++ ep p (q :: l) nx = _
    rw [ep_on (q :: l) p nx (fun x m => h x (List.mem_cons_of_mem _ m))]
    unfold e1
    rw [if_pos (h p (by simp))]
    rfl
theorem lnOf_on {c : List Pt} (h : ∀ p, p ∈ c → p.2.2 = true) : lnOf c = c.map pr := by
  have hr : ro c = c := by
    cases c with
    | nil => rfl
    | cons p l =>
      have h0 : ps (p :: l) = List.range (p :: l).length := by
        unfold ps
        rw [List.filter_eq_self]
        intro i hi
        have hi := List.mem_range.mp hi
        have hx : (p :: l)[i]? = some (p :: l)[i] := List.getElem?_eq_getElem hi
        show ((p :: l).getD i p0).2.2 = true
        rw [getD_of hx]
        exact h _ (List.mem_of_getElem? hx)
      unfold ro
      rw [h0, show (p :: l).length = l.length + 1 from rfl, List.range_succ_eq_map]
      show wm (beg (p :: l) 0) = p :: l
      have hb : beg (p :: l) 0 = p :: l := by unfold beg; simp
      rw [hb]
      exact wp_on (p :: l) p h
  rw [lnOf_er, hr]
  cases c with
  | nil => rfl
  | cons p l => exact ep_on (p :: l) _ p h
theorem fon_all {c : List Pt} (h : (fon c).length = c.length) : (∀ p, p ∈ c → p.2.2 = true) ∧ fon c = c := by
  have h2 : fon c = c := List.Sublist.eq_of_length (List.filter_sublist) h
  refine ⟨fun p m => ?_, h2⟩
  rw [← h2] at m
  exact (List.mem_filter.mp m).2

/-! moving -/
def mp (x y : Int) (p : Pr) : Pr := (p.1 + x, p.2 + y)
section
variable (x y : Int)
theorem w1_mv (p q : Pt) : w1 (mv x y p) (mv x y q) = (w1 p q).map (mv x y) := by
  have h : mid (mv x y p) (mv x y q) = mv x y (mid p q) := by
    refine Prod.ext ?_ (Prod.ext ?_ rfl)
    · show (p.1 + x + (q.1 + x)) / 2 = (p.1 + q.1) / 2 + x
      omega
    · show (p.2.1 + y + (q.2.1 + y)) / 2 = (p.2.1 + q.2.1) / 2 + y
      omega
  have e1 : (mv x y p).2.2 = p.2.2 := rfl
  have e2 : (mv x y q).2.2 = q.2.2 := rfl
  unfold w1
  rw [e1, e2, h]
  split
  · rfl
  · split <;> rfl
theorem wp_mv : ∀ (l : List Pt) (nx : Pt), wp (l.map (mv x y)) (mv x y nx) = (wp l nx).map (mv x y)
  | [], _ => rfl
  | [p], nx => w1_mv x y p nx
  | p :: q :: l, nx => by
    have ih := wp_mv (q :: l) nx
    show w1 (mv x y p) (mv x y q) ++ wp ((q :: l).map (mv x y)) (mv x y nx) = (w1 p q ++ wp (q :: l) nx).map (mv x y)
    rw [ih, w1_mv, List.map_append]
theorem wm_mv (c : List Pt) : wm (c.map (mv x y)) = (wm c).map (mv x y) := by
  cases c with
  | nil => rfl
  | cons p l => exact wp_mv x y (p :: l) p
theorem ps_mv (c : List Pt) : ps (c.map (mv x y)) = ps c := by
  unfold ps
  rw [List.length_map]
  apply List.filter_congr
  intro i hi
  have hi := List.mem_range.mp hi
  have hx : c[i]? = some c[i] := List.getElem?_eq_getElem hi
  have hy : (c.map (mv x y))[i]? = some (mv x y c[i]) := by rw [List.getElem?_map, hx]; rfl
  rw [getD_of hx, getD_of hy]
  rfl
theorem beg_map {α β : Type} (f : α → β) (c : List α) (k : Nat) : beg (c.map f) k = (beg c k).map f := by
  unfold beg
  rw [List.map_append, List.map_drop, List.map_take]
theorem ro_mv (c : List Pt) : ro (c.map (mv x y)) = (ro c).map (mv x y) := by
  unfold ro
  rw [ps_mv, wm_mv]
  cases ps c with
  | nil =>
    show ((wm c).map (mv x y)).drop (((wm c).map (mv x y)).length - 1) ++ ((wm c).map (mv x y)).dropLast = ((wm c).drop ((wm c).length - 1) ++ (wm c).dropLast).map (mv x y)
    rw [List.map_append, List.map_drop, List.length_map, List.map_dropLast]
  | cons k l =>
    show wm (beg (c.map (mv x y)) k) = (wm (beg c k)).map (mv x y)
    rw [beg_map, wm_mv]
theorem cv_mv {n : Int} (h0 : 1 ≤ n) (h1 : n ≤ 7) (a c b z : Int) : cv n (a + z) (c + z) (b + z) = cv n a c b + z := by
  unfold cv
  rcases (by omega : n = 1 ∨ n = 2 ∨ n = 3 ∨ n = 4 ∨ n = 5 ∨ n = 6 ∨ n = 7) with rfl | rfl | rfl | rfl | rfl | rfl | rfl <;> omega
theorem e1_mv (a p b : Pt) : e1 (mv x y a) (mv x y p) (mv x y b) = (e1 a p b).map (mp x y) := by
  have e1' : (mv x y p).2.2 = p.2.2 := rfl
  unfold e1
  rw [e1']
  split
  · rfl
  · unfold cv7
    rw [List.map_map]
    apply List.map_congr_left
    intro n hn
    have hn := List.mem_range.mp hn
    exact Prod.ext (cv_mv (by omega) (by omega) _ _ _ _) (cv_mv (by omega) (by omega) _ _ _ _)
theorem ep_mv : ∀ (l : List Pt) (pv nx : Pt), ep (mv x y pv) (l.map (mv x y)) (mv x y nx) = (ep pv l nx).map (mp x y)
  | [], _, _ => rfl
  | [p], pv, nx => e1_mv x y pv p nx
  | p :: q :: l, pv, nx => by
    have ih := ep_mv (q :: l) p nx
    show e1 (mv x y pv) (mv x y p) (mv x y q) ++ ep (mv x y p) ((q :: l).map (mv x y)) (mv x y nx) = (e1 pv p q ++ ep p (q :: l) nx).map (mp x y)
    rw [ih, e1_mv, List.map_append]
theorem lnOf_mv (c : List Pt) : lnOf (c.map (mv x y)) = (lnOf c).map (mp x y) := by
  rw [lnOf_er, lnOf_er, ro_mv]
  cases ro c with
  | nil => rfl
  | cons r l =>
    have hg : ((r :: l).map (mv x y)).getLast (by simp) = mv x y ((r :: l).getLast (by simp)) := List.getLast_map (by simp)
    show ep (((r :: l).map (mv x y)).getLast (by simp)) ((r :: l).map (mv x y)) (mv x y r) = (ep ((r :: l).getLast (by simp)) (r :: l) r).map (mp x y)
    rw [hg, ep_mv]
end
end Fl
namespace Fl
open PySem PySem.Spec PyProof.Rows L2
theorem fon_fm (c : List Pt) : (List.range c.length).filterMap (fun i => if (c.getD i p0).2.2 = true then some (prD (pr (c.getD i p0))) else none) = ((fon c).map pr).map prD := by
  rw [fm_filter (fun i => (c.getD i p0).2.2) (fun i => prD (pr (c.getD i p0))), fon_ps, List.map_map, List.map_map]
  rfl
theorem xs_one (c : List Pt) : xsOf [c] = c.map fun p => p.1 := by unfold xsOf; simp
theorem ys_one (c : List Pt) : ysOf [c] = c.map fun p => p.2.1 := by unfold ysOf; simp
/-- a box of one contour -/
theorem box_one {c : List Pt} (h : c ≠ []) : ∃ x1 y1 x2 y2 : Int, (IsMin x1 (xsOf [c]) ∧ IsMin y1 (ysOf [c]) ∧ IsMax x2 (xsOf [c]) ∧ IsMax y2 (ysOf [c])) ∧ ∀ z, z ∈ lnOf c → (x1 ≤ z.1 ∧ z.1 ≤ x2) ∧ y1 ≤ z.2 ∧ z.2 ≤ y2 := by
  obtain ⟨x1, m1⟩ := ex_min (xsOf [c]) (by rw [xs_one]; simpa using h)
  obtain ⟨y1, m2⟩ := ex_min (ysOf [c]) (by rw [ys_one]; simpa using h)
  obtain ⟨x2, m3⟩ := ex_max (xsOf [c]) (by rw [xs_one]; simpa using h)
  obtain ⟨y2, m4⟩ := ex_max (ysOf [c]) (by rw [ys_one]; simpa using h)
  refine ⟨x1, y1, x2, y2, ⟨m1, m2, m3, m4⟩, ln_box fun p hp => ?_⟩
  have a1 : p.1 ∈ xsOf [c] := by rw [xs_one]; exact List.mem_map.mpr ⟨p, hp, rfl⟩
  have a2 : p.2.1 ∈ ysOf [c] := by rw [ys_one]; exact List.mem_map.mpr ⟨p, hp, rfl⟩
  exact ⟨⟨m1.2 _ a1, m3.2 _ a1⟩, m2.2 _ a2, m4.2 _ a2⟩
theorem sh_pr (p : Pr) : SeqAt.shaped (prD p) = true := by
  have h := pr_lay p
  unfold SeqAt.shaped
  rw [h.1, Bool.true_and, decide_eq_true_eq]
  omega
theorem sh_nil : SeqAt.shaped (PyData.list []) = true := sh_list (n := 0) (fun _ m => nomatch m) (by decide)
theorem eqv_cons_nil (x : PyData) (l : List PyData) : PyData.eqv (.list (x :: l)) (.list []) = false := by simp [PyData.eqv, PyData.eqvAll]
theorem prE {S : List Addr} {H : Hp} {v : V} {p : Pr} (h : Dq S H v (prD p)) : ∃ a, v = .ref a ∧ a ∉ S ∧ H a = some (.tup [.int p.1, .int p.2]) := by
  obtain ⟨a, xs, rfl, n, q, r⟩ := h.tupE
  obtain ⟨x1, w1, rfl, h1, r⟩ := r.consE
  obtain ⟨x2, w2, rfl, h2, r⟩ := r.consE
  cases r.nilE
  cases h1.intE
  cases h2.intE
  exact ⟨a, rfl, n, q⟩
end Fl
namespace Fl
open PySem PySem.Spec PyProof.Rows L2
theorem g_andF {k : Bool} {t2 : TT} {σ : L2.St} {H : Hp} {Q : Bool → Hp → Prop} (h : Q false H) (h2 : k = true → Q false H → t2 σ H Q) : if k = true then t2 σ H Q else Q false H := by
  cases k with
  | true => rw [if_pos rfl]; exact h2 rfl h
  | false => rw [if_neg Bool.false_ne_true]; exact h
end Fl

set_option Elab.async false
set_option linter.all false
set_option maxRecDepth 100000
set_option maxHeartbeats 4000000
/-! repr of data; the law's def, called from outside (no guard stands below it) -/
namespace Fl
open PySem PySem.Spec PyProof.Rows L2

/-! ### repr -/
structure Shw (d : PyData) : Prop where
  sh : d.showable = true
  nd : d.hasDict = false
  dp : d.depth ≤ 40
  lv : d.leavesShort 13 = true
  wt : d.weight ≤ 2 ^ 20
def rRp (K : PySem.W.Frag) : List V → Hp → VK → Prop := fun xs H Q => ∃ (a : Addr) (d : PyData), xs = [.ref a] ∧ Dp K H (.ref a) d ∧ Shw d ∧ Q (.str d.shown) H
theorem clRepr {X : Cx} {K : PySem.W.Frag} (e : X.K = K) (hg : X.A.guards = some []) (hu : X.A.units + 64 < cLine) : CallR X (.builtin "repr") (rRp K) := by
  subst e
  intro pins s σ H xs us Q I r h
  obtain ⟨a, d, rfl, hd, hw, q⟩ := h
  obtain ⟨u, rfl, hu1⟩ := vals1 r
  cases hu1
  obtain ⟨as, rd⟩ := Dp.reads I d (.ref a) (.ref a) hd rfl
  have hdp := hw.dp
  refine repr_of_reads' rd hw.sh (fun z => ?_) hg (by omega) (fun b o z => z) (fun h' u tk hk => ⟨.str _, H, I.kept hk, ⟨u, rfl⟩, q⟩) (PyData.shown_fits (B := 13) (by decide) (by decide) hw.lv hw.wt)
  rw [hw.nd] at z
  cases z
theorem g_rp {K : PySem.W.Frag} {H : Hp} {Q : VK} {S : List Addr} {a : Addr} {d : PyData} (h : Dq S H (.ref a) d) (w : Shw d) (q : Q (.str d.shown) H) : rRp K [.ref a] H Q := ⟨a, d, rfl, h.dp w.nd, w, q⟩

/-! ### the law's def -/
def AtLaw (P : Program) (w : World) (K : PySem.W.Frag) (mg : Str → Option Value) (f : Addr) (fd : FuncData) (x : Str) (sp : Sp) : Prop :=
  ∀ base : Heap, K.In base → base.Ns mainGlobals mg → ∀ (s : Shared) (H : Hp) (a : Addr) (Q : VK), Env0 P w K mg base callerA [] s H → BindsTo s fd ⟨[.ref a], []⟩ [(x, .ref a)] → sp [.ref a] H Q E0 →
    codeAny (model P w) callerA (.call (.ref f) ⟨[.ref a], []⟩) (CR CX0 [] P w H s Q E0) s
theorem atLaw_of {P : Program} {w : World} {K : PySem.W.Frag} {mg : Str → Option Value} {k : Nat} {x y : Str} {st : Stmt} {N : List Str} {sp : Sp} {f : Addr} {fd : FuncData} (F : Fun K x x st f fd) (S : FnScope N [y] (defScope st)) (hr : Room (k + 1) callerA)
    (body : ∀ (base : Heap) (cdv : Value) (s : Shared) (H : Hp) (a : Addr) (Q : VK), Room k (callerA.deeper (envOfC x (defScope st) s.heap.objs.size f cdv)) → sp [.ref a] H Q E0 →
      ∃ t, PSs (bx P w K mg base N x st f cdv callerA [] s H E0) (defBody st) t ∧ t { nx := fun _ H' => Q .non H', rt := Q } (start N [.ref a]) H) : AtLaw P w K mg f fd y sp := by
  obtain ⟨_, _, kV, doc, pm, an, cdv, ct, _, rfl, atf, code⟩ := F.ex
  intro base kb nb s H a Q e0 bind hsp
  have here : ∀ {b : Addr} {o : Obj}, base.get? b = some o → s.heap.get? b = some o := fun e => (e0.bs _ _ e).1
  have Ks : K.In s.heap := e0.mod.kin.keeps fun _ _ => here
  have kinds : ∀ z ∈ [(y, Value.ref a)], (defScope st).names.lookup z.1 = some .local ∨ ((defScope st).names.lookup z.1 = some .cell ∧ ((cellsFrom (s.heap.objs.size + 1) (defScope st).names []).lookup z.1).isSome = true) := by
    intro z hz
    obtain rfl := List.mem_singleton.mp hz
    cases S.par y (List.mem_singleton.mpr rfl) with
    | inl q => exact .inl q
    | inr q => exact .inr ⟨q, PySem.W.cellsFrom_some _ _ _ (.inl q)⟩
  have vals : Vals [V.ref a] [Value.ref a] := .cons rfl .nil
  obtain ⟨t, ht, hq⟩ := body base cdv s H a Q (hr.deeper _) hsp
  exact codeAny_call_function hr.depth (Ks _ _ atf) rfl S.co S.gen rfl (PySem.W.codeRec_of Ks code) (bind _ _ _ _ (wpAny_newFunctionEnv_cells S.kind kinds (fun env he s1 z => by
    subst he
    refine ⟨(e0.mod.nolimit.keeps fun _ _ => here).keeps z.toInCall.keep, codeAny_func ?_⟩
    have I := inv_start (N := N) (E := E0) (CX := CX0) S hr.hd e0 rfl vals z
    have R := (PSs.nox (X := cxOf CX0 P w K mg base N x (defScope st) f cdv callerA [] s H E0) ht).run [] s1 (start N [.ref a]) H _ I hq
    exact wpAny_mono R (fun fl s' hs => (match fl, hs with
      | .ret u, ⟨v, σ', H', J, rv, q⟩ => ⟨v, H', J.os, J.bare, J.base, J.hok, rv, q⟩
      | .next, ⟨σ', H', J, q⟩ => ⟨.non, H', J.os, J.bare, J.base, J.hok, rfl, q⟩
      | .brk, ⟨_, _, _, q⟩ => q.elim
      | .cont, ⟨_, _, _, q⟩ => q.elim)) (fun _ _ z => z))))
/-- the goal of the end, from the law's def called from outside: nothing is tracked but the script -/
theorem atLaw_end {l : PySem.W.OpenLaw} {n : Nat} {q : Program} {loose : List Str} {XP : (Str → Option Value) → Heap → Prop} {YP : World → Heap → Prop} {d : DefRec} {K : Params → PySem.W.Frag} {sp : PySem.W.Frag → Sp} {x : Str}
    (hn : l.most = some n) (hn2 : n ≤ sizeLine) (hdf : d.params.defaults = []) (hY : ∀ (w : World) (h : Heap), YP w h → (K w.params).In h)
    (F : ∀ (w : World) (mg : Str → Option Value) (fa : Addr) (h : Heap), (K w.params).In h → h.Ns mainGlobals mg → mg d.name = some (.ref fa) →
      ∃ fd : FuncData, (∀ (s : Shared) (u : Value), BindsTo s fd ⟨[u], []⟩ [(x, u)]) ∧ AtLaw l.prog w (K w.params) mg fa fd x (sp (K w.params)))
    (hsp : ∀ (K : PySem.W.Frag) (H : Hp) (a : Addr) (ns : List Int), ns.length ≤ n → SqL K H a (ns.map V.int) → sp K [.ref a] H (fun v _ => v = .bl true) E0) :
    PySem.W.WalkO q loose XP YP l.row.toRowW d [] (fun f vs => PySem.call f vs) := by
  refine Att.attach_call hn hdf fun w s₀ s₁ mg mb fa o pm cd doc a vs ns G Y ho hd hcd hmg hobj hints hlen hg => ?_
  have Kh := hY w _ Y
  obtain ⟨fd, bind, run⟩ := F w mg fa _ Kh G.T.g hmg
  have vals := vals_ints hints
  -- the script: one of the module's own lists, or the one object that is tracked
  obtain ⟨H, only, sq, hok, none_of, own⟩ : ∃ H : Hp, Only H ∧ SqL (K w.params) H a (ns.map V.int) ∧ HOk l.prog w H s₁.heap ∧ (∀ b, b ≠ a → H b = none) ∧ (H a ≠ none → (K w.params).lookup a = none) := by
    have fits : (ns.map V.int).length ≤ sizeLine := by rw [List.length_map]; exact Nat.le_trans hlen hn2
    cases hk : (K w.params).lookup a with
    | some u =>
      cases hobj.symm.trans (Kh a u hk)
      refine ⟨fun _ => none, fun _ => .inl rfl, .inr ⟨_, vs.toArray, _, hk, rfl, rfl, rfl, ?_, by simpa using vals⟩, fun b u z => (nomatch (show (none : Option HO) = some u from z)), fun _ _ => rfl, fun z => (z rfl).elim⟩
      rw [List.size_toArray, hints.length]
      exact Nat.le_trans hlen hn2
    | none =>
      have at_a : ∀ {b : Addr}, b = a → (if b = a then some (HO.frz { cls := .type "list", data := .seq vs.toArray } (.lst (ns.map V.int))) else none) = some (HO.frz { cls := .type "list", data := .seq vs.toArray } (.lst (ns.map V.int))) := fun e => if_pos e
      refine ⟨fun b => if b = a then some (HO.frz { cls := .type "list", data := .seq vs.toArray } (.lst (ns.map V.int))) else none, fun b => ?_, .inl (.inr ⟨_, at_a rfl⟩), fun b u z => ?_, fun b e => if_neg e, fun _ => rfl⟩
      · rcases Decidable.em (b = a) with e | e
        · exact .inr ⟨_, _, at_a e⟩
        · exact .inl (if_neg e)
      · rcases Decidable.em (b = a) with e | e
        · cases (at_a e).symm.trans z
          exact ⟨by rw [e]; exact hobj, fits, vs, _, vals, by rw [e]; exact hobj⟩
        · cases (if_neg e).symm.trans z
  have keep : ∀ {b : Addr} {u : Obj}, s₁.heap.get? b = some u → H b = none → (hidT s₁.heap H).get? b = some u := fun e z => hidT_get e z
  have plain : ∀ {b : Addr} {u : Obj} {es : Array DictEntry} {ep : Nat}, s₁.heap.get? b = some u → u.data = .dict es ep → H b = none := by
    intro b u es ep e z
    rcases Decidable.em (b = a) with e2 | e2
    · rw [e2] at e
      cases hobj.symm.trans e
      exact (nomatch (show Data.seq vs.toArray _ = Data.dict es ep from z))
    · exact none_of b e2
  have space : ∀ {b : Addr} {m : Str → Option Value}, s₁.heap.Ns b m → (hidT s₁.heap H).Ns b m := fun ⟨u, es, ep, e, z, r⟩ => ⟨u, es, ep, keep e (plain e z), z, r⟩
  have Kb : (K w.params).In (hidT s₁.heap H) := fun b u e => keep (Kh b u e) (by
    rcases Decidable.em (b = a) with e2 | e2
    · cases z : H b with
      | none => rfl
      | some v =>
        rw [e2] at e z
        rw [own (by rw [z]; exact Option.some_ne_none _)] at e
        cases e
    · exact none_of b e2)
  obtain ⟨mc, lim1, lim2⟩ := G.T.nolimit
  have e0 : Env0 l.prog w (K w.params) mg (hidT s₁.heap H) callerA [] s₁ H := ⟨rfl, ⟨Kb, space G.T.g, ⟨mb, space G.T.b, G.T.builtins⟩, ⟨mc, space lim1, lim2⟩⟩, fun b u e => of_hidT e, Nat.le_of_eq (hidT_size _ _), trivial, fun b hb => (nomatch (show b ∈ ([] : List Addr) from hb)), hok, .of_eq hg⟩
  refine codeAny_mono (run _ Kb (space G.T.g) s₁ H a _ e0 (bind s₁ (.ref a)) (hsp _ H a ns hlen sq)) fun r s' h => ?_
  match r, h with
  | .ok (.ret u), ⟨v, H', os, bare, un, hok', rv, q⟩ =>
    obtain rfl : v = .bl true := q
    obtain rfl : u = Value.bool true := rv
    refine ⟨rfl, OldK.of_keep fun b u e => ?_, os, bare⟩
    cases z : H b with
    | none => exact un.keep b u e z (fun m => (nomatch (show b ∈ ([] : List Addr) from m))) (List.not_mem_nil)
    | some v =>
      rcases only b with y | ⟨u2, xs, y⟩
      · cases y.symm.trans z
      · have later := (hok' b _ (un.frzs b u2 _ y)).1
        rw [e.symm.trans (hok b _ y).1]
        exact later
end Fl

set_option Elab.async false
set_option linter.all false
set_option maxRecDepth 100000
set_option maxHeartbeats 4000000
/-! slices of lists backwards, by ones -/
namespace Fl
open PySem PySem.Spec PyProof.Rows L2

/-- what xs[lo:hi:-1] takes -/
def pickR {α : Type} (xs : List α) (lo hi : Option Int) : List α := (let (a, b, c) := sliceBounds lo hi (some (-1)) xs.length; sliceRange a b c).filterMap (xs[·]?)
theorem pick_vals {xs : List V} {its : List Value} (r : Vals xs its) : ∀ ks : List Nat, Vals (ks.filterMap (xs[·]?)) (ks.filterMap (its[·]?))
  | [] => .nil
  | k :: ks => by
    have ih := pick_vals r ks
    have hl := r.length
    rw [List.filterMap_cons, List.filterMap_cons]
    cases hx : xs[k]? with
    | none =>
      have : its[k]? = none := by
        rw [List.getElem?_eq_none_iff] at hx ⊢
        omega
      rw [this]
      exact ih
    | some x =>
      obtain ⟨u, hu, rv⟩ := r.get hx
      rw [hu]
      exact .cons rv ih
def rSlR (K : PySem.W.Frag) : V → Option Int → Option Int → Hp → VK → Prop := fun x lo hi H Q => ∃ a xs, x = .ref a ∧ SqL K H a xs ∧ (pickR xs lo hi).length ≤ xs.length ∧ ∀ p, H p = none → Q (.ref p) (upd H p (.lst (pickR xs lo hi)))
theorem pe_slR {X : Cx} {K : PySem.W.Frag} {e : Expr} {te : TE} {lo hi : Option Expr} {tl th : TO} {k : Nat} {p1 p2 p3 pos : Pos} (eK : X.K = K) (he : PE X e te) (hl : PO X lo tl) (hh : PO X hi th) :
    PE X (.Subscript e (.Slice lo hi (some (.UnaryOp .USub (.Constant (.int 1) k p1) p2)) p3) pos) (L2.tSl (rSlR K) te tl th) := by
  subst eK
  refine ⟨fun pins s σ H Q I h => ?_⟩
  have one : PO X (some (.UnaryOp .USub (.Constant (.int 1) k p1) p2)) (tPart (tUn (rU fun i => .int (-i)) (tC (.int 1)))) := po_some (pe_un un_neg pe_int)
  refine Subscript_ (thn (he.run pins s σ H _ I h) fun v s1 ⟨x, H1, I1, r1, q1⟩ => ?_)
  refine wpAny_Slice (thn (hl.run pins s1 σ H1 _ I1 q1) fun vl s2 ⟨l, H2, I2, pl, q2⟩ => thn (hh.run pins s2 σ H2 _ I2 q2) fun vu s3 ⟨u, H3, I3, pu, a, xs, ex, hx, hz1, q⟩ =>
    thn (one.run pins s3 σ H3 (fun o H4 => o = some (-1) ∧ H4 = H3) I3 ⟨1, rfl, -1, rfl, rfl, rfl⟩) fun vs s4 ⟨o, H4, I4, ps, eo, e4⟩ => ?_)
  subst eo e4 ex
  cases r1
  have I5 : Inv X pins σ H4 { s4 with heap := s4.heap.push { cls := .type "slice", data := .fields #[vl, vu, vs] } } := I4.kept (t' := s4.toks) fun _ _ z => Heap.get?_push_of_some _ z
  obtain ⟨its, r, ht, hz⟩ := I5.list hx
  have hlen := r.length
  have hsz : its.toArray.size ≤ sizeLine := by rw [List.size_toArray]; omega
  refine tail_any (ops := [.ref a, .ref s4.heap.objs.size]) ht.isList.typeIs (PySem.slot_list_getitem.lookup) (wpAny_getItem_list_slice ht.isList (Heap.IsSliceOf.new _ vl vu vs) pl pu ps (by decide) ?_ hsz) (by with_unfolding_all rfl)
  have hp : slicePick its.toArray l u (some (-1)) = (pickR its l u).toArray := by
    unfold slicePick pickR
    simp only [List.size_toArray]
    congr 1
    congr 1
    funext i
    simp
  rw [hp]
  have hv : Vals (pickR xs l u) (pickR its l u) := by
    unfold pickR
    rw [hlen]
    exact pick_vals r _
  exact ⟨.ref _, _, I5.laid (t' := s4.toks) (o := .lst (pickR xs l u)) (fun _ _ z => Heap.get?_push_of_some _ z) (Nat.le_refl _) ⟨Nat.le_trans hz1 hz, _, 0, hv, Heap.get?_push_size _ rfl⟩, rfl, q _ (I5.hok.fresh (Nat.le_refl _))⟩
theorem fmc {α β : Type} {f g : α → Option β} : ∀ {l : List α}, (∀ x, x ∈ l → f x = g x) → l.filterMap f = l.filterMap g
  | [], _ => rfl
  | x :: l, h => by
    rw [List.filterMap_cons, List.filterMap_cons, h x (by simp), fmc fun y m => h y (List.mem_cons_of_mem _ m)]
theorem fm_takeG {α : Type} (rs : List α) : ∀ n : Nat, (List.range n).filterMap (fun i => rs[i]?) = rs.take n
  | 0 => by simp
  | n + 1 => by
    rw [List.range_succ, List.filterMap_append, fm_takeG rs n, List.take_succ]
    cases h : rs[n]? <;> simp [h]
/-- xs[:0:-1] -/
theorem pickR_0 {α : Type} (xs : List α) : pickR xs none (some 0) = (xs.drop 1).reverse := by
  have e0 : pickR xs none (some 0) = (sliceRange ((xs.length : Int) - 1) 0 (-1)).filterMap (xs[·]?) := by
    unfold pickR
    have : sliceBounds none (some 0) (some (-1)) xs.length = ((xs.length : Int) - 1, 0, -1) ∨ xs.length = 0 := by
      rcases Nat.eq_zero_or_pos xs.length with h | h
      · exact .inr h
      · left
        unfold sliceBounds
        simp
        omega
    rcases this with h | h
    · rw [h]
    · have : xs = [] := List.eq_nil_of_length_eq_zero h
      subst this
      rfl
  rw [e0]
  have e1 : sliceRange ((xs.length : Int) - 1) 0 (-1) = (List.range (xs.length - 1)).map fun k => xs.length - 1 - k := by
    unfold sliceRange
    rw [if_neg (by decide)]
    have : (if (xs.length : Int) - 1 > 0 then ((xs.length : Int) - 1 - 0 - -1 - 1) / - -1 else 0).toNat = xs.length - 1 := by
      split
      · rw [show (- -1 : Int) = 1 from rfl, Int.ediv_one]
        omega
      · omega
    show (List.range (if (xs.length : Int) - 1 > 0 then ((xs.length : Int) - 1 - 0 - -1 - 1) / - -1 else 0).toNat).map _ = _
    rw [this]
    refine List.map_congr_left fun k hk => ?_
    have := List.mem_range.mp hk
    omega
  rw [e1]
  rw [List.filterMap_map]
  have e2 : ((List.range (xs.length - 1)).filterMap ((fun x => xs[x]?) ∘ fun k => xs.length - 1 - k)) = (List.range (xs.length - 1)).filterMap fun k => ((xs.drop 1).reverse)[k]? := by
    refine fmc fun k hk => ?_
    have hk := List.mem_range.mp hk
    show xs[xs.length - 1 - k]? = _
    rw [List.getElem?_reverse (by rw [List.length_drop]; omega), List.length_drop, List.getElem?_drop]
    congr 1
    omega
  rw [e2, fm_takeG, List.take_of_length_le (by simp)]
theorem g_slR0 {K : PySem.W.Frag} {H : Hp} {Q : VK} {a : Addr} {xs : List V} (h : SqL K H a xs) (q : ∀ p, H p = none → Q (.ref p) (upd H p (.lst (xs.drop 1).reverse))) : rSlR K (.ref a) none (some 0) H Q :=
  ⟨a, xs, rfl, h, by rw [pickR_0]; simp, by rw [pickR_0]; exact q⟩
end Fl

set_option Elab.async false
set_option linter.all false
set_option maxRecDepth 100000
set_option maxHeartbeats 4000000
/-! list(reversed(xs)), xs a list -/
namespace Fl
open PySem PySem.Spec PyProof.Rows L2
section
variable {prog : Program} {w : World} {A : Around} {E : Value → Shared → Prop} {s : Shared}
abbrev nilO : Obj := { cls := .type "list", data := .seq #[] }
/-- S.extend(it), S a new list, it a list's iterator from its end -/
theorem ext_rev {it l S : Addr} {items : Array Value} {c0 : Nat} {R : Result → Shared → Prop} (hh : A.handled = none) (hit : s.heap.IsRevIter it l ((items.size : Int) - 1)) (hl : s.heap.IsList l items) (hne : l ≠ it) (hn : items.size ≤ sizeLine)
    (hSf : S ∉ [it, l]) (hS : s.heap.get? S = some { cls := .type "list", data := .seq #[] c0 })
    (hR : ∀ s' acc' c', Moved [S, it] (fun a b => b = a) s s' → s'.heap.get? S = some { cls := .type "list", dict := none, data := .seq acc' c', slots := #[] } → ItemsOf (fun i v => items[items.size - 1 - i]? = some v) acc' items.size → R (.ok (.ret .none)) s') :
    wpAny (model prog w) A.in1 (Builtin.List.listExtendWith (.ref S) (.ref it) .none)
      (fun fin s' => match fin with | .done f => R (.ok f) s' | .again c' => c'.quiet = true ∧ codeAny (model prog w) A c' R s') (fun e s' => R (.error e) s') s := by
  have W := (Walks.listRev (prog := prog) (w := w) (A := A.in1) hh it l hne items).toS
  have T := hit.typeIs (s := s)
  have ne : S ≠ it := fun e => hSf (by rw [e]; exact List.mem_cons_self)
  have same : Builtin.List.listSameRef (.ref S) (.ref it) = false := by simp [Builtin.List.listSameRef, ne]
  unfold Builtin.List.listExtendWith
  refine wpAny_bind (wpAny_typeOf T ?_); rw [if_neg (by rw [same]; decide)]
  refine wpAny_bind (wpAny_pyIter_revIter hit ?_); refine wpAny_bind (wpAny_holding ?_)
  unfold Builtin.List.listLengthHint
  refine wpAny_bind (wpAny_specialOf T RT.nolen_lri ?_); show wpAny _ A.in1 (specialOf (Value.ref it) (Str.ofString "__length_hint__") >>= _) _ _ s
  refine wpAny_bind (wpAny_specialOf T RT.hint_lri ?_); generalize hid : ("list_reverseiterator.__length_hint__" : String) = id0
  wp_delta
  rw [show splitId id0 = some ("list_reverseiterator", "__length_hint__") from by subst hid; decide +kernel]; subst hid
  refine wpAny_bind (wpAny_isInstance (b := true) T (by rw [isSubtype_type]; kernel_rfl) (wpAny_pure ?_)); rw [if_neg (by decide)]
  have e0 : ((items.size : Nat) : Int) - 1 - ((0 : Nat) : Int) = (items.size : Int) - 1 := Int.sub_zero _
  refine wpAny_pure ⟨plainId_quiet F.plain_extend_loop _, codeAny_extend_loopS W hn _ hSf _ items.size 0 _ _ _ rfl (Nat.zero_le _) ⟨Nat.zero_le _, by rw [e0]; exact hit, hl⟩ hS (ItemsOf.nil _) hR⟩
theorem make_rev {it l : Addr} {items : Array Value} {Q : Value → Shared → Prop} (hh : A.handled = none) (hit : s.heap.IsRevIter it l ((items.size : Int) - 1)) (hl : s.heap.IsList l items) (hne : l ≠ it) (hn : items.size ≤ sizeLine)
    (hQ : ∀ s' acc' c', Moved [s.heap.objs.size, it] (fun a b => b = a) { s with heap := s.heap.push nilO } s' → s'.heap.get? s.heap.objs.size = some { cls := .type "list", dict := none, data := .seq acc' c', slots := #[] } →
      ItemsOf (fun i v => items[items.size - 1 - i]? = some v) acc' items.size → Q (.ref s.heap.objs.size) s') : wpAny (model prog w) A (call (.type "list") [.ref it]) Q E s := by
  obtain ⟨oi, hoi, _⟩ := id hit
  obtain ⟨ol, hol, _⟩ := id hl
  have n1 : s.heap.objs.size ≠ it := Nat.ne_of_gt (Heap.lt_size hoi)
  have n2 : s.heap.objs.size ≠ l := Nat.ne_of_gt (Heap.lt_size hol)
  refine callType_codes (Q₁ := fun obj s₁ => obj = .ref s.heap.objs.size ∧ s₁ = { s with heap := s.heap.push nilO }) F.called_list (F.typeCall_list_1 _) F.entry_list_init (code_list_new _ ⟨rfl, rfl⟩) fun obj s₁ ⟨e1, e2⟩ => ?_
  subst e1 e2
  have hS : (s.heap.push nilO).get? s.heap.objs.size = some nilO := Heap.get?_push_size _ rfl
  refine ⟨⟨_, hS, rfl⟩, F.args_list_init_2 _ _, ?_⟩
  show wpAny _ A.in1.in1 (do let old ← Builtin.List.listItems (.ref s.heap.objs.size); Builtin.List.listUpdate (.ref s.heap.objs.size) (fun _ => #[]); letGo old.toList.reverse; Builtin.List.listExtendWith (.ref s.heap.objs.size) (.ref it) .none) _ _ _
  unfold Builtin.List.listItems
  refine wpAny_bind (wpAny_bind (wpAny_seqItems hS rfl (wpAny_pure ?_)))
  all_goals first
    | (refine wpAny_bind (wpAny_updateSeq hS rfl (wpAny_bind (wpAny_letGo ?_)))
       have hS2 := Heap.get?_update_self (Obj.mapSeq (fun _ => (#[] : Array Value))) hS rfl
       have oth : ∀ b o, b ≠ s.heap.objs.size → s.heap.get? b = some o → ((s.heap.push nilO).update s.heap.objs.size (Obj.mapSeq (fun _ => (#[] : Array Value)))).get? b = some o := fun b o hb e => (Heap.get?_update_other _ _ (Ne.symm hb)).trans (Heap.get?_push_of_some _ e)
       refine ext_rev (A := A.in1) hh (hit.at fun o e => oth it o (Ne.symm n1) e) (hl.at fun o e => oth l o (Ne.symm n2) e) hne hn (by simp [n1, n2]) hS2 fun s' acc' c' hm hS' hacc => ?_
       refine ⟨rfl, hQ s' acc' c' (Moved.trans (G := fun a b => b = a) (fun a b c h k => k.trans h) ((Moved.refl (G := fun a b => b = a) fun _ => rfl).then_heap (Nat.le_refl _) fun b o hb e => ?_) hm) hS' hacc⟩
       exact (Heap.get?_update_other _ _ (fun z => hb (by rw [z]; exact List.mem_cons_self))).trans e)
end
/-- list(reversed(x)), x a list: a new list -/
def tListRev (K : PySem.W.Frag) (te : TE) : TE := fun σ H Q => te σ H fun v H1 => ∃ (a : Addr) (xs : List V), v = .ref a ∧ SqL K H1 a xs ∧ ∀ q, H1 q = none → Q (.ref q) (upd H1 q (.lst xs.reverse))
theorem pe_listRev {X : Cx} {K : PySem.W.Frag} {e : Expr} {te : TE} {p p2 pos pos2 : Pos} (eK : X.K = K) (hc : X.calm = true) (hg : Gl X "list") (hm : X.mg "list" = none) (hg2 : Gl X "reversed") (hm2 : X.mg "reversed" = none) (he : PE X e te)
    (hs : starEach [e] X.env = (false, eval e X.env) :: starEach [] X.env := by rfl)
    (hs2 : starEach [.Call (.Name "reversed" p2) [e] [] pos2] X.env = (false, eval (.Call (.Name "reversed" p2) [e] [] pos2) X.env) :: starEach [] X.env := by rfl) :
    PE X (.Call (.Name "list" p) [.Call (.Name "reversed" p2) [e] [] pos2] [] pos) (tListRev K te) := by
  subst eK
  refine ⟨fun pins s σ H Q I h => Call_ (ld_blt I hg hm boot_list (PyProof.Rows.callWith_type1 (args_cons (Call_ (ld_blt I hg2 hm2 PyProof.Rows.boot_reversed (PyProof.Rows.callWith_type1 (args_cons (thn (he.run pins s σ H _ I h) fun u s1 ⟨v, H1, I1, r1, a, xs, ev, hq, q⟩ => args_nil ?_) hs) hs rfl))) hs2) hs2 rfl))⟩
  subst ev
  obtain rfl : u = Value.ref a := r1
  obtain ⟨its, rv, pl, hz⟩ := I1.list hq
  have hl := pl.isList
  have hlen := rv.length
  obtain ⟨ol, hol, _⟩ := id hl
  refine call_reversed_list hl (args_nil ?_)
  have I2 : Inv X pins σ H1 { s1 with heap := s1.heap.push (revObj a ((its.toArray.size : Int) - 1)) } := I1.kept (t' := s1.toks) fun b o z => Heap.get?_push_of_some _ z
  obtain ⟨f0, f1, f2, f3, f4, f5⟩ := I1.fpOk (H' := H1) (b := s1.heap.objs.size) (Nat.le_refl _) (I1.hok.fresh (Nat.le_refl _))
  refine make_rev (s := { s1 with heap := s1.heap.push (revObj a ((its.toArray.size : Int) - 1)) }) (items := its.toArray) (I1.ok.hd hc) ⟨_, Heap.get?_push_size _ rfl, rfl, rfl⟩ (hl.push _) (Nat.ne_of_lt (Heap.lt_size hol)) (by rw [List.size_toArray]; omega) fun s' acc' c' hm hS hi => ?_
  rw [Moved.eq_with hm]
  have new : H1 (s1.heap.objs.size + 1) = none := I1.hok.fresh (Nat.le_succ _)
  have at1 : ({ s1 with heap := s1.heap.push (revObj a ((its.toArray.size : Int) - 1)) } : Shared).heap.objs.size = s1.heap.objs.size + 1 := by simp [Heap.push]
  rw [at1] at hS hm ⊢
  have keep : ∀ b o, b ≠ s1.heap.objs.size → b ≠ s1.heap.objs.size + 1 → ((s1.heap.push (revObj a ((its.toArray.size : Int) - 1))).push nilO).get? b = some o → s'.heap.get? b = some o := fun b o n n1 z => hm.heap b o (by simp [n, n1]) z
  have I3 : Inv X pins σ (upd H1 (s1.heap.objs.size + 1) (.lst [])) { s1 with heap := (s1.heap.push (revObj a ((its.toArray.size : Int) - 1))).push nilO } :=
    I2.laid (t' := s1.toks) (fun b o z => Heap.get?_push_of_some _ z) (Nat.le_of_eq at1) ⟨Nat.zero_le _, [], 0, .nil, by rw [← at1]; exact Heap.get?_push_size _ rfl⟩
  have n2 : s1.heap.objs.size ≠ s1.heap.objs.size + 1 := Nat.ne_of_lt (Nat.lt_succ_self _)
  have mid : (s'.heap.update (s1.heap.objs.size + 1) (fun _ => nilO)).get? (s1.heap.objs.size + 1) = some nilO := Heap.get?_update_self _ hS rfl
  have I4 : Inv X pins σ (upd H1 (s1.heap.objs.size + 1) (.lst [])) { s1 with heap := s'.heap.update (s1.heap.objs.size + 1) (fun _ => nilO), toks := s'.toks } := by
    refine I3.turned (t' := s'.toks) (fun b o n z => ?_) (by rw [upd_ne n2]; exact I1.hok.fresh (Nat.le_refl _)) f1 f3 f4 f5
    by_cases e : b = s1.heap.objs.size + 1
    · subst e
      rw [← at1] at z
      rw [Heap.get?_push_size _ rfl] at z
      cases z
      exact mid
    · exact (Heap.get?_update_other _ _ (Ne.symm e)).trans (keep b o n e z)
  have I5 : Inv X pins σ (upd (upd H1 (s1.heap.objs.size + 1) (.lst [])) (s1.heap.objs.size + 1) (.lst xs.reverse)) { s1 with heap := s'.heap, toks := s'.toks } :=
    I4.write (by rw [upd_same]; trivial) (.inl rfl) (fun b o n z => by rw [← z]; exact (Heap.get?_update_other _ _ (Ne.symm n)).symm) ⟨_, hS⟩ ⟨by rw [List.length_reverse]; exact hz, acc'.toList, c', RT.vals_rev rv hi, by rw [hS]⟩
  refine ⟨.ref _, _, I5, rfl, ?_⟩
  rw [upd_upd]
  exact q _ new
end Fl

set_option Elab.async false
set_option linter.all false
set_option maxRecDepth 100000
set_option maxHeartbeats 4000000
/-! turning sums, reversed contours: the mathematics -/
namespace Fl
open PySem PySem.Spec PyProof.Rows L2

def cr (p q : Pt) : Int := p.1 * q.2.1 - q.1 * p.2.1
/-- over a path -/
def pa : List Pt → Int
  | p :: q :: l => cr p q + pa (q :: l)
  | _ => 0
def tc (c : List Pt) : Int := ((c.zip (beg c 1)).map fun z => cr z.1 z.2).sum
def ts (o : List (List Pt)) : Int := (o.map tc).sum
def rv (c : List Pt) : List Pt := c.take 1 ++ (c.drop 1).reverse
theorem pa_app : ∀ (u : List Pt) (x : Pt) (v : List Pt), pa (u ++ x :: v) = pa (u ++ [x]) + pa (x :: v)
  | [], x, v => by simp [pa]
  | [y], x, v => by simp [pa]
  | y :: z :: u, x, v => by
    have ih := pa_app (z :: u) x v
    show cr y z + pa (z :: u ++ x :: v) = cr y z + pa (z :: u ++ [x]) + pa (x :: v)
    rw [ih, Int.add_assoc]
theorem pa_rev : ∀ l : List Pt, pa l.reverse = -pa l
  | [] => rfl
  | [_] => rfl
  | p :: q :: l => by
    have ih := pa_rev (q :: l)
    rw [List.reverse_cons] at ih
    rw [List.reverse_cons, List.reverse_cons, List.append_assoc]
    show pa (l.reverse ++ q :: [p]) = -(cr p q + pa (q :: l))
    rw [pa_app, ih]
    show -pa (q :: l) + (cr q p + 0) = _
    unfold cr
    omega
theorem tc_pa (p : Pt) (l : List Pt) : tc (p :: l) = pa (p :: l ++ [p]) := by
  have key : ∀ (l : List Pt) (p x : Pt), (((p :: l).zip (l ++ [x])).map fun z => cr z.1 z.2).sum = pa (p :: l ++ [x]) := by
    intro l
    induction l with
    | nil => intro p x; simp [pa]
    | cons q l ih =>
      intro p x
      have := ih q x
      show (cr p q :: ((q :: l).zip (l ++ [x])).map fun z => cr z.1 z.2).sum = cr p q + pa (q :: l ++ [x])
      rw [List.sum_cons, this]
  exact key l p p
theorem tc_rv (c : List Pt) : tc (rv c) = -tc c := by
  cases c with
  | nil => rfl
  | cons p l =>
    show tc (p :: l.reverse) = _
    rw [tc_pa, tc_pa, ← pa_rev]
    congr 1
    simp
theorem ts_rv (o : List (List Pt)) : ts (o.map rv) = -ts o := by
  unfold ts
  induction o with
  | nil => rfl
  | cons c o ih =>
    rw [List.map_cons, List.map_cons, List.sum_cons, List.map_cons, List.sum_cons, ih, tc_rv]
    omega
theorem rv_rv (c : List Pt) : rv (rv c) = c := by
  cases c with
  | nil => rfl
  | cons p l =>
    show p :: l.reverse.reverse = _
    rw [List.reverse_reverse]
theorem rv_len (c : List Pt) : (rv c).length = c.length := by
  cases c with
  | nil => rfl
  | cons p l =>
    show (p :: l.reverse).length = _
    simp
theorem rv_mem {c : List Pt} {x : Pt} : x ∈ rv c ↔ x ∈ c := by
  cases c with
  | nil => rfl
  | cons p l =>
    show x ∈ p :: l.reverse ↔ _
    simp
/-! turn by turn -/
def tz (c : List Pt) (i : Nat) : Int := (((c.zip (beg c 1)).take i).map fun z => cr z.1 z.2).sum
theorem tz_zero (c : List Pt) : tz c 0 = 0 := rfl
theorem tz_all (c : List Pt) : tz c c.length = tc c := by
  unfold tz tc
  rw [List.take_of_length_le (by rw [List.length_zip, beg_len]; omega)]
theorem beg1_get {c : List Pt} {i : Nat} (h : i < c.length) : (beg c 1)[i]? = c[(i + 1) % c.length]? := by
  unfold beg
  rcases Nat.lt_or_ge (i + 1) c.length with g | g
  · rw [Nat.mod_eq_of_lt g, List.getElem?_append_left (by rw [List.length_drop]; omega), List.getElem?_drop, Nat.add_comm]
  · have e : i + 1 = c.length := by omega
    rw [e, Nat.mod_self, List.getElem?_append_right (by rw [List.length_drop]; omega), List.length_drop]
    have : i - (c.length - 1) = 0 := by omega
    rw [this]
    cases c with
    | nil => cases h
    | cons p l => rfl
theorem tz_succ {c : List Pt} {i : Nat} {p q : Pt} (hp : c[i]? = some p) (hq : (beg c 1)[i]? = some q) : tz c (i + 1) = tz c i + cr p q := by
  unfold tz
  rw [take_zip hp hq, List.map_append, List.sum_append]
  simp
theorem cr_big {p q : Pt} (hp : PtIn (10 ^ 6) p) (hq : PtIn (10 ^ 6) q) : (cr p q).natAbs ≤ 2 * 10 ^ 12 ∧ (p.1 * q.2.1).natAbs ≤ 10 ^ 12 ∧ (q.1 * p.2.1).natAbs ≤ 10 ^ 12 := by
  obtain ⟨a1, a2, a3, a4⟩ := hp
  obtain ⟨b1, b2, b3, b4⟩ := hq
  have h1 : (p.1 * q.2.1).natAbs ≤ 10 ^ 12 := by
    rw [Int.natAbs_mul]
    exact Nat.le_trans (Nat.mul_le_mul (show p.1.natAbs ≤ 10 ^ 6 by omega) (show q.2.1.natAbs ≤ 10 ^ 6 by omega)) (by decide)
  have h2 : (q.1 * p.2.1).natAbs ≤ 10 ^ 12 := by
    rw [Int.natAbs_mul]
    exact Nat.le_trans (Nat.mul_le_mul (show q.1.natAbs ≤ 10 ^ 6 by omega) (show p.2.1.natAbs ≤ 10 ^ 6 by omega)) (by decide)
  refine ⟨?_, h1, h2⟩
  unfold cr
  omega
/-! how data is shown -/
structure Sw (k W : Nat) (d : PyData) : Prop where
  sh : d.showable = true
  nd : d.hasDict = false
  lv : d.leavesShort 13 = true
  dp : d.depth ≤ k
  wt : d.weight ≤ W
theorem Sw.shw {k W : Nat} {d : PyData} (h : Sw k W d) (hk : k ≤ 40) (hW : W ≤ 2 ^ 20) : Shw d := ⟨h.sh, h.nd, Nat.le_trans h.dp hk, h.lv, Nat.le_trans h.wt hW⟩
theorem Sw.mono {k W j U : Nat} {d : PyData} (h : Sw k W d) (hk : k ≤ j) (hW : W ≤ U) : Sw j U d := ⟨h.sh, h.nd, h.lv, Nat.le_trans h.dp hk, Nat.le_trans h.wt hW⟩
theorem Sw.all {k W : Nat} : ∀ ds : List PyData, (∀ d, d ∈ ds → Sw k W d) → PyData.showableAll ds = true ∧ PyData.hasDictAll ds = false ∧ PyData.leavesShortAll 13 ds = true ∧ PyData.depthAll ds ≤ k ∧ PyData.weightAll ds ≤ (W + 1) * ds.length
  | [], _ => by simp [PyData.showableAll, PyData.hasDictAll, PyData.leavesShortAll, PyData.depthAll, PyData.weightAll]
  | d :: ds, h => by
    obtain ⟨a, b, c, e, f⟩ := h d (by simp)
    obtain ⟨a2, b2, c2, e2, f2⟩ := Sw.all ds fun e m => h e (List.mem_cons_of_mem _ m)
    refine ⟨by simp [PyData.showableAll, a, a2], by simp [PyData.hasDictAll, b, b2], by simp [PyData.leavesShortAll, c, c2], ?_, ?_⟩
    · simp only [PyData.depthAll]
      omega
    · simp only [PyData.weightAll, List.length_cons, Nat.mul_succ]
      omega
theorem Sw.lst {k W : Nat} {ds : List PyData} (h : ∀ d, d ∈ ds → Sw k W d) : Sw (k + 1) ((W + 1) * ds.length) (.list ds) := by
  obtain ⟨a, b, c, e, f⟩ := Sw.all ds h
  exact ⟨by simpa [PyData.showable] using a, by simpa [PyData.hasDict] using b, by simpa [PyData.leavesShort] using c, by simp only [PyData.depth]; omega, by simp only [PyData.weight]; omega⟩
theorem Sw.tup {k W : Nat} {ds : List PyData} (h : ∀ d, d ∈ ds → Sw k W d) : Sw (k + 1) ((W + 1) * ds.length) (.tuple ds) := by
  obtain ⟨a, b, c, e, f⟩ := Sw.all ds h
  exact ⟨by simpa [PyData.showable] using a, by simpa [PyData.hasDict] using b, by simpa [PyData.leavesShort] using c, by simp only [PyData.depth]; omega, by simp only [PyData.weight]; omega⟩
theorem Sw.int {i : Int} (h : i.natAbs < 10 ^ 12) : Sw 0 41 (.int i) := by
  have h2 : i.natAbs < 2 ^ 41 := Nat.lt_of_lt_of_le h (by decide)
  have l : i.natAbs.log2 ≤ 40 := by
    rcases Nat.eq_zero_or_pos i.natAbs with z | z
    · rw [z]; decide
    · have := (Nat.log2_lt (k := 41) (by omega)).mpr h2
      omega
  refine ⟨?_, rfl, ?_, Nat.le_refl _, ?_⟩
  · simp only [PyData.showable, decide_eq_true_eq]
    omega
  · simp only [PyData.leavesShort, decide_eq_true_eq]
    exact PyData.shown_int_le h
  · simp only [PyData.weight]
    split <;> omega
theorem Sw.bl {b : Bool} : Sw 0 0 (.bool b) := ⟨rfl, rfl, rfl, Nat.le_refl _, Nat.le_refl _⟩
theorem Sw.int20 {i : Int} (h : i.natAbs ≤ 10 ^ 6) : Sw 0 20 (.int i) := by
  obtain ⟨a, b, c, d, _⟩ := Sw.int (i := i) (by omega)
  refine ⟨a, b, c, d, ?_⟩
  have l : i.natAbs.log2 ≤ 19 := by
    rcases Nat.eq_zero_or_pos i.natAbs with z | z
    · rw [z]; decide
    · have := (Nat.log2_lt (k := 20) (by omega)).mpr (Nat.lt_of_le_of_lt h (by decide))
      omega
  simp only [PyData.weight]
  split <;> omega
theorem sw_pt {p : Pt} (h : PtIn (10 ^ 6) p) : Sw 1 63 (ptD p) := by
  obtain ⟨h1, h2, h3, h4⟩ := h
  refine (Sw.tup (k := 0) (W := 20) fun d m => ?_).mono (Nat.le_refl _) (by show (20 + 1) * 3 ≤ 63; decide)
  simp only [List.mem_cons, List.not_mem_nil, or_false] at m
  rcases m with rfl | rfl | rfl
  · exact Sw.int20 (by omega)
  · exact Sw.int20 (by omega)
  · exact Sw.bl.mono (Nat.le_refl _) (by decide)
theorem sw_ct {c : List Pt} {n : Nat} (h : ∀ p, p ∈ c → PtIn (10 ^ 6) p) (hn : c.length ≤ n) : Sw 2 (64 * n) (ctD c) := by
  refine (Sw.lst (k := 1) (W := 63) fun d m => ?_).mono (Nat.le_refl _) (by rw [List.length_map]; omega)
  obtain ⟨p, hp, rfl⟩ := List.mem_map.mp m
  exact sw_pt (h p hp)
theorem sw_ou {o : List (List Pt)} {n : Nat} (h : ∀ c, c ∈ o → c.length ≤ n ∧ ∀ p, p ∈ c → PtIn (10 ^ 6) p) : Sw 3 ((64 * n + 1) * o.length) (ouD o) := by
  refine (Sw.lst (k := 2) (W := 64 * n) fun d m => ?_).mono (Nat.le_refl _) (by rw [List.length_map]; exact Nat.le_refl _)
  obtain ⟨c, hc, rfl⟩ := List.mem_map.mp m
  exact sw_ct (h c hc).2 (h c hc).1
end Fl
namespace Fl
open PySem PySem.Spec PyProof.Rows L2
def fTs (ds : List PyData) (d : PyData) : Prop := ∃ o : List (List Pt), ds = [ouD o] ∧ o.length ≤ 100 ∧ (∀ c, c ∈ o → c.length ≤ 100 ∧ ∀ p, p ∈ c → PtIn (10 ^ 6) p) ∧ d = .int (ts o)
def fRv (ds : List PyData) (d : PyData) : Prop := ∃ o : List (List Pt), ds = [ouD o] ∧ o.length ≤ 100 ∧ (∀ c, c ∈ o → c.length ≤ 100) ∧ d = ouD (o.map rv)
theorem ts_take {o : List (List Pt)} {i : Nat} {c : List Pt} (h : o[i]? = some c) : ((o.take (i + 1)).map tc).sum = ((o.take i).map tc).sum + tc c := by
  rw [List.take_succ, h, List.map_append, List.sum_append]
  simp
theorem md_cast (i n : Nat) : ((i : Int) + 1) % (n : Int) = (((i + 1) % n : Nat) : Int) := by
  rw [Int.natCast_emod]
  rfl
theorem sz12 {n : Int} (h : n.natAbs ≤ 10 ^ 12) : n.natAbs < 2 ^ 4000 := Nat.lt_of_le_of_lt h (by decide +kernel)
theorem sz6 {n : Int} (h1 : -(10 ^ 6) ≤ n) (h2 : n ≤ 10 ^ 6) : n.natAbs < 2 ^ 4000 := sz12 (by omega)
end Fl
namespace Fl
open PySem PySem.Spec PyProof.Rows L2
section
variable {K : PySem.W.Frag} {H : Hp} {Q : VK} {a : Addr} {xs : List V} {te : TE} {σ : L2.St}
theorem g_lrev (h : te σ H fun v H1 => ∃ (a : Addr) (xs : List V), v = .ref a ∧ SqL K H1 a xs ∧ ∀ q, H1 q = none → Q (.ref q) (upd H1 q (.lst xs.reverse))) : tListRev K te σ H Q := h
theorem g_lrev2 {Q : Addr → List V → Prop} (h : SqL K H a xs) (q : Q a xs) : ∃ (b : Addr) (ys : List V), V.ref a = .ref b ∧ SqL K H b ys ∧ Q b ys := ⟨a, xs, rfl, h, q⟩
theorem g_eqS {x y : Str} (q : Q (.bl (decide (x = y))) H) : rEq (.str x) (.str y) H Q := ⟨rfl, by
  have e : decide (V.str x = V.str y) = decide (x = y) := by simp
  rw [e]; exact q⟩
end
end Fl

set_option Elab.async false
set_option linter.all false
set_option maxRecDepth 100000
set_option maxHeartbeats 4000000
/-! proper outlines -/
namespace Fl
open PySem PySem.Spec PyProof.Rows L2
def cnt (o : List (List Pt)) : Int := (o.map fun c => (c.length : Int)).sum
def okP (p : Pt) : Bool := decide (-16384 ≤ p.1 ∧ p.1 ≤ 16384 ∧ -16384 ≤ p.2.1 ∧ p.2.1 ≤ 16384)
def okC (c : List Pt) : Bool := decide (2 ≤ c.length) && c.all okP
def prp (o : List (List Pt)) : Bool := (decide (o.length ≤ 40) && decide (cnt o ≤ 200)) && o.all okC
def fCt (ds : List PyData) (d : PyData) : Prop := ∃ o : List (List Pt), ds = [ouD o] ∧ o.length ≤ 100 ∧ d = .int (cnt o)
def fPr (ds : List PyData) (d : PyData) : Prop := ∃ o : List (List Pt), ds = [ouD o] ∧ o.length ≤ 100 ∧ (∀ c, c ∈ o → c.length ≤ 900) ∧ d = .bool (prp o)
theorem cnt_flat (o : List (List Pt)) : cnt o = (o.flatten.length : Int) := by
  unfold cnt
  induction o with
  | nil => rfl
  | cons c o ih =>
    rw [List.map_cons, List.sum_cons, ih, List.flatten_cons, List.length_append]
    omega
theorem prp_many {o : List (List Pt)} (h : ¬ ((o.length : Int) ≤ 40)) : prp o = false := by
  unfold prp
  rw [decide_eq_false (by omega), Bool.false_and, Bool.false_and]
theorem prp_cnt {o : List (List Pt)} (h : ¬ (cnt o ≤ 200)) : prp o = false := by
  unfold prp
  rw [decide_eq_false h, Bool.and_false, Bool.false_and]
theorem prp_c {o : List (List Pt)} {c : List Pt} (m : c ∈ o) (h : okC c = false) : prp o = false := by
  unfold prp
  have : o.all okC = false := by
    rw [List.all_eq_false]
    exact ⟨c, m, by rw [h]; exact Bool.false_ne_true⟩
  rw [this, Bool.and_false]
theorem prp_true {o : List (List Pt)} (h1 : (o.length : Int) ≤ 40) (h2 : cnt o ≤ 200) (h3 : ∀ c, c ∈ o → okC c = true) : prp o = true := by
  unfold prp
  rw [decide_eq_true (by omega), decide_eq_true h2, List.all_eq_true.mpr h3]
  rfl
theorem okC_few {c : List Pt} (h : (c.length : Int) < 2) : okC c = false := by
  unfold okC
  rw [decide_eq_false (by omega), Bool.false_and]
theorem okC_p {c : List Pt} {p : Pt} (m : p ∈ c) (h : okP p = false) : okC c = false := by
  unfold okC
  have : c.all okP = false := by
    rw [List.all_eq_false]
    exact ⟨p, m, by rw [h]; exact Bool.false_ne_true⟩
  rw [this, Bool.and_false]
theorem okC_true {c : List Pt} (h1 : ¬ (c.length : Int) < 2) (h3 : ∀ p, p ∈ c → okP p = true) : okC c = true := by
  unfold okC
  rw [decide_eq_true (by omega), List.all_eq_true.mpr h3]
  rfl
theorem okP_f {p : Pt} (h : ¬ (-16384 ≤ p.1 ∧ p.1 ≤ 16384 ∧ -16384 ≤ p.2.1 ∧ p.2.1 ≤ 16384)) : okP p = false := decide_eq_false h
theorem okP_t {p : Pt} (h : -16384 ≤ p.1 ∧ p.1 ≤ 16384 ∧ -16384 ≤ p.2.1 ∧ p.2.1 ≤ 16384) : okP p = true := decide_eq_true h
theorem take_mem {α : Type} {l : List α} {P : α → Prop} {i : Nat} {x : α} (hx : l[i]? = some x) (h : ∀ y, y ∈ l.take i → P y) (k : P x) : ∀ y, y ∈ l.take (i + 1) → P y := by
  intro y m
  rw [List.take_succ, hx] at m
  rcases List.mem_append.mp m with m | m
  · exact h y m
  · rw [show y = x by simpa using m]
    exact k
/-- a changed outline -/
structure ChIn (o : List (List Pt)) : Prop where
  len : o.length ≤ 45
  cs : ∀ c, c ∈ o → c.length ≤ 300 ∧ ∀ p, p ∈ c → PtIn (10 ^ 6) p
  fl : o.flatten.length ≤ 400
def spCh : Sp := fun vs H Q _ => ∃ (d s : Addr) (ns : List Int) (a : V) (o : List (List Pt)), vs = [.ref d, a] ∧ Dk d s ns H ∧ Dq [d] H a (ouD o) ∧ OuIn 2 400 o ∧
  ∀ t H' o', Dk d s ns H' → Dq [d] H' t (ouD o') → ChIn o' → Q t H'
theorem flat_len {n : Nat} : ∀ {o : List (List Pt)}, (∀ c, c ∈ o → c.length ≤ n) → o.flatten.length ≤ n * o.length
  | [], _ => Nat.zero_le _
  | c :: o, h => by
    have h1 := h c (by simp)
    have h2 := flat_len (o := o) fun x m => h x (List.mem_cons_of_mem _ m)
    rw [List.flatten_cons, List.length_append, List.length_cons, Nat.mul_succ]
    omega
theorem OuIn.ch {o : List (List Pt)} (h : OuIn 2 400 o) : ChIn o := by
  have h1 := h.len
  refine ⟨by omega, fun c m => ?_, ?_⟩
  · obtain ⟨g1, g2, g3⟩ := h.cs c m
    refine ⟨by omega, fun p mp => ?_⟩
    obtain ⟨g1, g2, g3, g4⟩ := g3 p mp
    exact ⟨by omega, by omega, by omega, by omega⟩
  · have := flat_len (n := 7) fun c m => (h.cs c m).2.1
    omega
theorem ChIn.app {o u : List (List Pt)} (h : OuIn 2 400 o) (h1 : u.length ≤ 42) (h2 : ∀ c, c ∈ u → c.length ≤ 300 ∧ ∀ p, p ∈ c → PtIn (10 ^ 6) p) (h3 : u.flatten.length ≤ 300) : ChIn (o ++ u) := by
  obtain ⟨a, b, c⟩ := h.ch
  have h0 := h.len
  have := flat_len (n := 7) fun c m => (h.cs c m).2.1
  refine ⟨by rw [List.length_append]; omega, fun c m => ?_, by rw [List.flatten_append, List.length_append]; omega⟩
  rcases List.mem_append.mp m with m | m
  · exact b c m
  · exact h2 c m
theorem ChIn.pre {o : List (List Pt)} (h : OuIn 2 400 o) : ChIn ([] :: o) := by
  obtain ⟨a, b, c⟩ := h.ch
  have h0 := h.len
  refine ⟨by rw [List.length_cons]; omega, fun c m => ?_, by simpa using c⟩
  rcases List.mem_cons.mp m with rfl | m
  · exact ⟨by simp, fun _ m => nomatch m⟩
  · exact b c m
theorem PtIn.big {p : Pt} (h : PtIn 400 p) : PtIn (10 ^ 6) p := by
  obtain ⟨g1, g2, g3, g4⟩ := h
  exact ⟨by omega, by omega, by omega, by omega⟩
/-- same(x, y), of data at a depth of up to one -/
def spSm12 : Sp := fun vs H Q E => spSm1 vs H Q E ∨ spSm2 vs H Q E
theorem sh_tu {ds : List PyData} {n : Nat} (h : ∀ d, d ∈ ds → d.canLay0 = true ∧ d.depth ≤ n) (hn : n < 63) : (PyData.list ds).canLay0 = true ∧ (PyData.list ds).depth ≤ n + 1 := by
  have h1 := canLay_all (fun d => d.canLay0 = true) (fun _ h => h) ds (fun d m => (h d m).1)
  have h2 := depth_all n ds (fun d m => (h d m).2)
  refine ⟨by simp [PyData.canLay0, h1], ?_⟩
  simp only [PyData.depth]
  omega
theorem pt_lay (p : Pt) : (ptD p).canLay0 = true ∧ (ptD p).depth ≤ 1 := by
  unfold ptD
  simp [PyData.canLay0, PyData.canLayAll0, PyData.depth, PyData.depthAll]
theorem sh_ct (c : List Pt) : SeqAt.shaped (ctD c) = true := sh_list (n := 1) (fun d m => by
  obtain ⟨p, _, rfl⟩ := List.mem_map.mp m
  exact pt_lay p) (by decide)
theorem sh_nilL : SeqAt.shaped (.list []) = true := sh_list (n := 0) (fun d m => nomatch m) (by decide)
/-- a list of data is the empty list just if it has no item -/
theorem eqv_nil (ds : List PyData) : PyData.eqv (.list ds) (.list []) = ds.isEmpty := by
  cases ds with
  | nil => exact eqv_self sh_nilL
  | cons d ds => rfl
end Fl
namespace Fl
open PySem PySem.Spec PyProof.Rows L2
theorem fm_getD {β : Type} (f : Pt → Option β) : ∀ c : List Pt, (List.range c.length).filterMap (fun j => f (c.getD j p0)) = c.filterMap f
  | [] => rfl
  | p :: c => by
    rw [List.length_cons, List.range_succ_eq_map, List.filterMap_cons, List.filterMap_cons, List.filterMap_map]
    have ih := fm_getD f c
    have e : (List.range c.length).filterMap ((fun j => f ((p :: c).getD j p0)) ∘ Nat.succ) = c.filterMap f := ih
    rw [e]
    rfl
def bad (c : List Pt) : List PyData := c.filterMap fun p => if okP p = true then none else some (ptD p)
theorem bad_fm (c : List Pt) : (List.range c.length).filterMap (fun j => if okP (c.getD j p0) = true then none else some (ptD (c.getD j p0))) = bad c := fm_getD (fun p => if okP p = true then none else some (ptD p)) c
theorem bad_sh (c : List Pt) : SeqAt.shaped (.list (bad c)) = true := sh_list (n := 1) (fun d m => by
  obtain ⟨p, _, h⟩ := List.mem_filterMap.mp m
  split at h
  · cases h
  · cases h
    exact pt_lay p) (by decide)
theorem bad_nil {c : List Pt} (h : (bad c).isEmpty = true) : ∀ p, p ∈ c → okP p = true := by
  intro p m
  cases hp : okP p with
  | true => rfl
  | false =>
    have : ptD p ∈ bad c := List.mem_filterMap.mpr ⟨p, m, by rw [hp]; rfl⟩
    rw [List.isEmpty_iff.mp h] at this
    cases this
theorem bad_one {c : List Pt} (h : (bad c).isEmpty = false) : okC c = false := by
  cases hb : bad c with
  | nil => rw [hb] at h; cases h
  | cons d ds =>
    have m : d ∈ bad c := by rw [hb]; simp
    obtain ⟨p, mp, e⟩ := List.mem_filterMap.mp m
    split at e
    · cases e
    · rename_i hk
      exact okC_p mp (by simpa using hk)
theorem g_iteNB {b : Bool} {A B : Prop} (h1 : b = false → A) (h2 : b = true → B) : if (!b) = true then A else B := by
  cases b with
  | true => rw [if_neg (by decide)]; exact h2 rfl
  | false => rw [if_pos (by decide)]; exact h1 rfl
end Fl
namespace Fl
open PySem PySem.Spec PyProof.Rows L2
theorem cat_ou {S : List Addr} {H : Hp} {xs ys : List V} {o u : List (List Pt)} (h : DqA S H xs (o.map ctD)) (k : DqA S H ys (u.map ctD)) : DqA S H (xs ++ ys) ((o ++ u).map ctD) := by
  rw [List.map_append]
  exact h.app k
theorem rep_fm {α β : Type} (x : β) : ∀ l : List α, l.filterMap (fun _ => some x) = List.replicate l.length x
  | [] => rfl
  | _ :: l => by
    rw [List.filterMap_cons, rep_fm x l]
    rfl
theorem far_at {v : Int} (h0 : 0 ≤ v) (h1 : v < 4) : ∃ f : Int, atI [V.int 16384, V.int (-16384), V.int 16385, V.int (-16385)] v = some (.int f) ∧ -16385 ≤ f ∧ f ≤ 16385 := by
  rcases (by omega : v = 0 ∨ v = 1 ∨ v = 2 ∨ v = 3) with rfl | rfl | rfl | rfl
  · exact ⟨_, rfl, by decide, by decide⟩
  · exact ⟨_, rfl, by decide, by decide⟩
  · exact ⟨_, rfl, by decide, by decide⟩
  · exact ⟨_, rfl, by decide, by decide⟩
theorem flat_rep {α : Type} (x : List α) : ∀ n : Nat, (List.replicate n x).flatten.length = n * x.length
  | 0 => by simp
  | n + 1 => by rw [List.replicate_succ, List.flatten_cons, List.length_append, flat_rep x n, Nat.succ_mul, Nat.add_comm]
end Fl

set_option Elab.async false
set_option linter.all false
set_option maxRecDepth 100000
set_option maxHeartbeats 4000000
/-! the line of a contour by its ring and its start -/
namespace Fl
open PySem PySem.Spec PyProof.Rows L2
def wk (c : List Pt) (i : Nat) : List Pt := ((c.zip (beg c 1)).take i).flatMap fun z => w1 z.1 z.2
theorem wk_all (c : List Pt) : wk c c.length = wm c := by
  unfold wk
  rw [List.take_of_length_le (by rw [List.length_zip, beg_len]; omega)]
  exact wz_wm c
theorem wk_succ {c : List Pt} {i : Nat} {p q : Pt} (hp : c[i]? = some p) (hq : (beg c 1)[i]? = some q) : wk c (i + 1) = wk c i ++ w1 p q := by
  unfold wk
  rw [take_zip hp hq, List.flatMap_append]
  simp
theorem wk_len {c : List Pt} : ∀ i : Nat, (wk c i).length ≤ 2 * i
  | 0 => Nat.le_refl _
  | i + 1 => by
    have ih := wk_len (c := c) i
    rcases Nat.lt_or_ge i c.length with h | h
    · obtain ⟨p, hp⟩ : ∃ p, c[i]? = some p := ⟨_, List.getElem?_eq_getElem h⟩
      obtain ⟨q, hq⟩ : ∃ q, (beg c 1)[i]? = some q := ⟨_, List.getElem?_eq_getElem (by rw [beg_len]; exact h)⟩
      rw [wk_succ hp hq, List.length_append]
      have := (w1_len p q).2
      omega
    · have e : wk c (i + 1) = wk c i := by
        unfold wk
        rw [List.take_of_length_le (by rw [List.length_zip, beg_len]; omega), List.take_of_length_le (by rw [List.length_zip, beg_len]; omega)]
      rw [e]
      omega
def stOf (c : List Pt) : Int := match ps c with
  | [] => ((wm c).length : Int) - 1
  | k :: _ => ((wk c k).length : Int)
theorem wk_wp {u : List Pt} {p : Pt} {v : List Pt} : wk (u ++ p :: v) u.length = wp u p := by
  cases u with
  | nil => rfl
  | cons x u =>
    have e : (x :: u ++ p :: v).zip (beg (x :: u ++ p :: v) 1) = (x :: u).zip (u ++ [p]) ++ (p :: v).zip (v ++ [x]) := by
      have e2 : beg (x :: u ++ p :: v) 1 = (u ++ [p]) ++ (v ++ [x]) := by
        unfold beg
        simp
      rw [e2]
      exact List.zip_append (by simp)
    unfold wk
    rw [e, List.take_append_of_le_length (by simp), List.take_of_length_le (by simp)]
    exact wz_wp u x p
theorem beg_ro {c : List Pt} (n : c ≠ []) : ∃ k : Nat, stOf c = (k : Int) ∧ k ≤ (wm c).length ∧ beg (wm c) k = ro c := by
  have hl := (wm_len c).1
  have hc : 0 < c.length := List.length_pos_iff.mpr n
  unfold stOf ro
  cases hp : ps c with
  | nil =>
    refine ⟨(wm c).length - 1, by show ((wm c).length : Int) - 1 = _; omega, by omega, ?_⟩
    unfold beg
    rw [List.dropLast_eq_take]
  | cons k l =>
    have hk : k < c.length := ps_lt (by rw [hp]; simp)
    obtain ⟨u, p, v, rfl, rfl⟩ : ∃ (u : List Pt) (p : Pt) (v : List Pt), c = u ++ p :: v ∧ k = u.length := by
      refine ⟨c.take k, c[k], c.drop (k + 1), ?_, ?_⟩
      · rw [List.getElem_cons_drop, List.take_append_drop]
      · rw [List.length_take]; omega
    refine ⟨(wk (u ++ p :: v) u.length).length, rfl, ?_, ?_⟩
    · rw [wk_wp]
      cases u with
      | nil => exact Nat.zero_le _
      | cons x u =>
        have e1 : wm (x :: u ++ p :: v) = wp (x :: u) p ++ wp (p :: v) x := wp_app (x :: u) p v x
        rw [e1, List.length_append]
        omega
    · show beg (wm (u ++ p :: v)) (wk (u ++ p :: v) u.length).length = wm (beg (u ++ p :: v) u.length)
      rw [wk_wp]
      have e0 : beg (u ++ p :: v) u.length = p :: v ++ u := by
        unfold beg
        simp
      rw [e0]
      cases u with
      | nil =>
        unfold beg
        simp [wp]
      | cons x u =>
        have e1 : wm (x :: u ++ p :: v) = wp (x :: u) p ++ wp (p :: v) x := wp_app (x :: u) p v x
        have e2 : wm (p :: v ++ x :: u) = wp (p :: v) x ++ wp (x :: u) p := wp_app (p :: v) x u p
        rw [e1, e2]
        unfold beg
        simp
theorem na_get : ∀ {l : List Pt} {i : Nat} {p q : Pt}, Na l → l[i]? = some p → l[i + 1]? = some q → p.2.2 = true ∨ q.2.2 = true
  | [], _, _, _, _, h, _ => by simp at h
  | [x], i, p, q, _, _, h => by simp at h
  | x :: y :: l, 0, p, q, na, h, k => by
    simp at h k
    subst h k
    exact na.1
  | x :: y :: l, i + 1, p, q, na, h, k => na_get (l := y :: l) (i := i) na.2 (by simpa using h) (by simpa using k)
def fRi (ds : List PyData) (d : PyData) : Prop := ∃ c : List Pt, ds = [ctD c] ∧ c.length ≤ 100 ∧ d = ctD (wm c)
def fSt (ds : List PyData) (d : PyData) : Prop := ∃ c : List Pt, ds = [ctD c] ∧ c.length ≤ 100 ∧ d = .int (stOf c)
theorem stOf_first {c : List Pt} {k : Nat} {p : Pt} (hk : c[k]? = some p) (on : p.2.2 = true) (off : ∀ x, x ∈ c.take k → x.2.2 = false) : stOf c = ((wk c k).length : Int) := by
  have hkl := (List.getElem?_eq_some_iff.mp hk).1
  have e : ∃ l, ps c = k :: l := by
    unfold ps
    have h1 : List.range c.length = List.range k ++ (List.range (c.length - k)).map (k + ·) := by
      rw [← List.range_add]
      congr 1
      omega
    rw [h1, List.filter_append]
    have h2 : (List.range k).filter (fun i => (c.getD i p0).2.2) = [] := by
      rw [List.filter_eq_nil_iff]
      intro i hi
      have hi := List.mem_range.mp hi
      obtain ⟨x, hx⟩ : ∃ x, c[i]? = some x := ⟨_, List.getElem?_eq_getElem (by omega)⟩
      rw [getD_of hx, off x (List.mem_of_getElem? (i := i) (by rw [List.getElem?_take]; simp [hi, hx]))]
      decide
    rw [h2, List.nil_append]
    obtain ⟨n, hn⟩ : ∃ n, c.length - k = n + 1 := ⟨c.length - k - 1, by omega⟩
    rw [hn, List.range_succ_eq_map, List.map_cons, List.filter_cons]
    have : (c.getD (k + 0) p0).2.2 = true := by
      rw [Nat.add_zero, getD_of hk]
      exact on
    rw [if_pos this]
    exact ⟨_, rfl⟩
  obtain ⟨l, e⟩ := e
  unfold stOf
  rw [e]
theorem stOf_none {c : List Pt} (off : ∀ x, x ∈ c → x.2.2 = false) : stOf c = ((wm c).length : Int) - 1 := by
  have e : ps c = [] := by
    unfold ps
    rw [List.filter_eq_nil_iff]
    intro i hi
    have hi := List.mem_range.mp hi
    obtain ⟨x, hx⟩ : ∃ x, c[i]? = some x := ⟨_, List.getElem?_eq_getElem hi⟩
    rw [getD_of hx, off x (List.mem_of_getElem? hx)]
    decide
  unfold stOf
  rw [e]
end Fl

set_option Elab.async false
set_option linter.all false
set_option maxRecDepth 100000
set_option maxHeartbeats 4000000
set_option exponentiation.threshold 20000
/-! own errors: B.__init__(self, ..) of an own base; X() without fields; isinstance of a caught one -/
namespace Fl
open PySem PySem.Spec PyProof.Rows L2
/-- what the written part says of an own base class whose __init__ is ValueError's -/
structure BaseC (K : PySem.W.Frag) (C : Addr) : Prop where
  sg : PySem.W.specialIn K (.ref C) "__getattribute__" = some (some (.builtin "type.__getattribute__"))
  ty : PySem.W.typeIn K (.ref C) = some (.type "type")
  rd : PySem.W.readsIn K C (.type "type") = true
  fc : PySem.W.findCls K (.ref C) (.type "type") "__init__" = some (.val (.builtin "ValueError.__init__"))
section
variable {X : Cx} {o e : Expr} {es : List Expr} {te : TE} {ta : TA} {x : Str} {C : Addr} {p p' p1 p2 pos : Pos}
theorem pe_binit {pl : Sem Bool} (hg : Gl X x) (hm : X.mg x = some (.ref C)) (B : BaseC X.K C) (ha : PA X (e :: es) ta) (hdb : (x == ("__debug__" : Str)) = false := by decide)
    (hc : eval (.Call (.Attribute (.Name x p1) "__init__" p2) (e :: es) [] pos) X.env = (do
      let ov ← eval (.Name x p1) X.env
      standAt p2.atName
      let (f, first) ← holding [ov] (getMethod ov "__init__" pl)
      callWith pos f first (backTo pos (starEach (e :: es) X.env)) (backToKw pos (keywordEach [] X.env))) := by rfl)
    (he : starEach (e :: es) X.env = (false, eval e X.env) :: starEach es X.env := by rfl) (hpl : (backTo pos (starEach es X.env)).any (·.1) = false := by rfl) :
    PE X (.Call (.Attribute (.Name x p1) "__init__" p2) (e :: es) [] pos) (tVeI X.K ta) := by
  refine ⟨fun pins s σ H Q I h => PySem.W.methodCall_KW (ld_glob I hg hm ?_ hdb) hc⟩
  obtain ⟨m, fr⟩ := I.fr
  refine PySem.W.method_of_cls fr I.ok.mod.kin B.sg (PySem.W.cls_val fr I.ok.mod.kin B.ty B.rd B.fc (by decide +kernel) ?_)
  refine PyProof.Rows.callWith_method1 (thn (ha.run pos pins _ σ H _ (I.tok _) h) fun us s1 ⟨vs, H1, I1, r1, a, C, ws, ev, hl, T, ea, q⟩ => ?_) he hpl
  subst ev
  cases r1 with
  | cons ra rw' =>
    cases ra
    exact oinit_ok T I1 ea (by rw [← Paired.length rw', sizeLine_eq]; omega) fun s' J => ⟨.non, H1, J, rfl, q⟩
end
section
variable {X : Cx}
/-- an error without fields, made: let go -/
theorem mk_nod {pins : List (Addr × Obj)} {σ : L2.St} {H1 H2 : Hp} {hp hp2 h2 : Heap} {g1 g2 : Array GenState} {d1 d2 : Drawn} {t1 t2 : Nat} {os1 os2 : OsState} {a C : Addr} (I1 : Inv X pins σ H1 ⟨hp, g1, d1, t1, os1⟩)
    (ha : hp.objs.size ≤ a) (k : ∀ b o, hp.get? b = some o → hp2.get? b = some o) (un : Un (frs X.stack) [] (upd H1 a (exo a C none)) H2 hp2 h2) (hok : HOk X.prog X.w H2 h2) (ho : os2 = os1) (hb : AllBare g2) (ea : H2 a = some (exo a C none)) :
    ∃ (t0 : Addr) (G : Heap), Inv X pins σ (del H2 a) ⟨G, g2, d2, t2, os2⟩ ∧ (∀ b o, G.get? b = some o → h2.get? b = some o) ∧ G.get? a = none ∧
      h2.get? a = some ({ cls := .ref C, dict := none, data := .fields #[.ref t0, .none, .none, .none, .bool false, .none] } : Obj) := by
  obtain ⟨t0, hoe⟩ := exo_at hok ea
  have hn : H1 a = none := I1.hok.fresh ha
  obtain ⟨G, gk', ge'⟩ := restrict h2 fun b => decide (b ≠ a)
  have gk : ∀ b, b ≠ a → G.get? b = h2.get? b := fun b n => gk' b (decide_eq_true n)
  have ge : G.get? a = none := ge' a (by simp)
  have old : ∀ {b : Addr} {u : Obj}, hp.get? b = some u → b ≠ a := fun z => Nat.ne_of_lt (Nat.lt_of_lt_of_le (Heap.lt_size z) ha)
  have none1 : ∀ {b : Addr}, b ≠ a → H1 b = none → upd H1 a (exo a C none) b = none := fun n z => (upd_ne n).trans z
  have some1 : ∀ {b : Addr} {u : HO}, H1 b = some u → upd H1 a (exo a C none) b = some u := fun z => (upd_ne (ne_of_none z hn)).trans z
  have U : Un (frs X.stack) [] H1 (del H2 a) hp G :=
    { keep := fun b u z n hf hx => (gk b (old z)).trans (un.keep b u (k b u z) (none1 (old z) n) hf hx)
      slot := fun b u z n hf hx => by rw [gk b (old z)]; exact un.slot b u (k b u z) (none1 (old z) n) hf hx
      free := fun b u z n hx => (del_ne (old z)).trans (un.free b u (k b u z) (none1 (old z) n) hx)
      there := fun b u z hx => by rw [gk b (old z)]; exact un.there b u (k b u z) hx
      tups := fun b xs z => (del_ne (ne_of_none z hn)).trans (un.tups b xs (some1 z))
      frzs := fun b u v z => (del_ne (ne_of_none z hn)).trans (un.frzs b u v (some1 z))
      tbls := fun b ps z => by rw [del_ne (ne_of_none z hn)]; exact un.tbls b ps (some1 z) }
  have hok3 : HOk X.prog X.w (del H2 a) G := fun b u z => by
    have n : b ≠ a := fun e => by rw [e, del_same] at z; cases z
    rw [del_ne n] at z
    have away : ∀ {c : Addr}, H2 c = some (.own b) → c ≠ a := fun hc => at_ne ea hc exo_own
    refine (hok b u z).stay (fun c v hc y => (gk c ?_).trans y) (fun c hc => (del_ne (away hc)).trans hc) (fun c xs hc => (del_ne (at_ne ea hc exo_tup)).trans hc)
    rcases hc with hc | hc
    · rw [hc]; exact n
    · exact away hc
  refine ⟨t0, G, I1.call' (ch := []) ho U hok3 hb (fun b z => absurd z (by simp)), fun b u z => ?_, ge, hoe⟩
  rcases Decidable.em (b = a) with e | e
  · rw [e, ge] at z; cases z
  · exact (gk b e).symm.trans z
/-- X(), X's __init__ keeping sp -/
def tMkN (C : Addr) (sp : Sp) : L2.St → Hp → XK → Prop := fun _ H Q => ∀ a, H a = none → sp [.ref a] (upd H a (exo a C none)) (fun v H2 => v = .non ∧ H2 a = some (exo a C none) ∧ Q (.ref C) none (del H2 a)) (fun _ _ _ => False)
theorem pmk_nod {CX : CXT} {x : Str} {C fI : Addr} {k : Nat} {fd : FuncData} {ps : List Str} {sp : Sp} {p pos : Pos} (T : OexC X.K C) (iC : PySem.W.findIn X.K (.ref C) "__init__" = some (some (.ref fI))) (tI : PySem.W.typeIn X.K (.ref fI) = some (.type "function"))
    (F1 : FnOk X.prog X.w X.K X.mg X.base CX k fI fd ps sp) (hr : Room (k + 1) X.A) (hb : Binds X.K fd ps []) (hx : Passes CX X (fun _ _ _ => False)) (hg : Gl X x) (hm : X.mg x = some (.ref C)) (hdb : (x == ("__debug__" : Str)) = false := by decide) :
    PMk X (.Call (.Name x p) [] [] pos) (tMkN C sp) := by
  intro pins s σ H Q I h
  obtain ⟨nm, q, N, bs, bm, sn, sub, ab, col, dd, k0, k1, k2, k3, k5, hC, hbm⟩ := T.cls
  refine wpAny_Call_Name_kw (ld_glob I hg hm (PySem.W.callWith_K0 I.kIn T.kC ?_) hdb)
  show wpAny _ _ (call (.ref C) []) _ _ _
  obtain ⟨hp, g, dr, tk, os⟩ := s
  have hsz : hp.objs.size ≤ hp.objs.size + 1 := Nat.le_succ _
  have hn : H (hp.objs.size + 1) = none := I.hok.fresh hsz
  have hq := h (hp.objs.size + 1) hn
  have kk : ∀ b o, hp.get? b = some o → ((hp.push (PySem.W.kdv_tup [])).push (PySem.HandSPX.excO C hp.objs.size)).get? b = some o := fun b o e => Heap.get?_push_of_some _ (Heap.get?_push_of_some _ e)
  have here : ((hp.push (PySem.W.kdv_tup [])).push (PySem.HandSPX.excO C hp.objs.size)).get? (hp.objs.size + 1) = some (PySem.HandSPX.excO C hp.objs.size) := by heap_get
  have I2 : Inv X pins σ (upd H (hp.objs.size + 1) (exo (hp.objs.size + 1) C none)) ⟨(hp.push (PySem.W.kdv_tup [])).push (PySem.HandSPX.excO C hp.objs.size), g, dr, tk, os⟩ := I.laid (t' := tk) kk hsz (exo_ok here)
  have r2 : Vals [V.ref (hp.objs.size + 1)] [Value.ref (hp.objs.size + 1)] := .cons rfl .nil
  have hl : ([Value.ref (hp.objs.size + 1)] ++ ([] : List Value)).length = ps.length := (F1.len _ _ _ _ hq)
  refine wpAny_call (PySem.HandSPX.call_own F.excBase_ValueError (fun Y => PySem.HandSPX.refsVE_contains Y bm hbm) (I.kIn _ _ hC) (PySem.W.looks_findIn I.kIn iC) (fun self => PySem.W.bind_fn I.kIn self tI) (Nat.zero_le _)
    (codeAny_mono (F1.run _ X.stack _ _ ⟨[Value.ref (hp.objs.size + 1)], []⟩ [Value.ref (hp.objs.size + 1)] _ _ (fun _ _ _ => False) (hr.make C [] []) (I2.env0.make C [] []) (hb _ _ I2.kIn hl) r2 hq) fun r s' hq' => ?_))
  match r, hq' with
  | .error er, hq' => exact hx pins σ _ _ er s' I2 hq'
  | .ok (.ret u), ⟨v, H2, os2, bare2, un2, hok2, rv, ev, ea, q2⟩ =>
    subst ev
    obtain ⟨h2, g2, d2, t2, os'⟩ := s'
    obtain ⟨t0, G, J, kG, ge, hoe⟩ := mk_nod (d2 := d2) (t2 := t2) I hsz kk un2 hok2 os2 bare2 ea
    exact ⟨rv, _, _, _, ⟨G, g2, d2, t2, os'⟩, _, .ref C, none, rfl, J, kG, ge, hoe, ⟨rfl, rfl⟩, rfl, rfl, del_same, rfl, bare2, raises_own T.exC T.tyC, q2⟩
/-- isinstance(e, c), e the error that the suite holds, without fields -/
def rIsN (K : PySem.W.Frag) (cls : Value) (d : Option Addr) (a : Addr) : List V → Hp → VK → Prop := fun xs H Q => ∃ D, cls = .ref D ∧ d = none ∧ ExcC K D ∧ rIsE K D a xs H Q
theorem call_isN {a : Addr} {cls : Value} {d : Option Addr} {oe : Obj} {K : PySem.W.Frag} (eK : X.K = K) (hp : (a, oe) ∈ X.pn) (hz : Zc cls d oe) (hf : ∃ vs, oe.data = .fields vs) : CallR X (.builtin "isinstance") (rIsN K cls d a) := by
  subst eK
  intro pins s σ H xs us Q I r ⟨D, e1, e2, C, c, cv, b, e3, hcv, e, q⟩
  subst e1 e2 e3
  obtain ⟨u1, u2, rfl, r1, r2⟩ := vals2 r
  cases r1
  obtain rfl := hcv _ r2
  obtain ⟨vs, hv⟩ := hf
  have J : PySem.W.InstAt s.heap a oe D none := by
    obtain ⟨h1, h2⟩ := hz
    refine ⟨(I.pin (a, oe) (List.mem_append_left _ hp)).1, h1, ?_, ?_⟩
    · unfold PySem.W.notCls
      rw [hv]
    · rw [h2]
      trivial
  exact PySem.W.kia_one (PySem.W.handS_kitx_exc C.hg C.hk C.hs C.hd C.ha C.hn C.ht C.hm) I.kIn J e (fun z => nomatch z) fun tk => ⟨.bl b, H, I.kept (t' := tk) fun _ _ z => z, rfl, q⟩
end
end Fl
namespace Fl
open PySem PySem.Spec PyProof.Rows L2
/-- where a name of the module's top stands -/
def adr (mg : Str → Option Value) (x : Str) : Addr := match mg x with | some (.ref a) => a | _ => 0
theorem adr_of {mg : Str → Option Value} {x : Str} {a : Addr} (h : mg x = some (.ref a)) : adr mg x = a := by unfold adr; rw [h]
/-- an own error class without fields -/
structure ClsN (K : PySem.W.Frag) (mg : Str → Option Value) (x qual : Str) (st : Stmt) : Prop where
  g : mg x = some (.ref (adr mg x))
  o : OexC K (adr mg x)
  c : ExcC K (adr mg x)
  i : ∃ (fI : Addr) (fd : FuncData), PySem.W.findIn K (.ref (adr mg x)) "__init__" = some (some (.ref fI)) ∧ PySem.W.typeIn K (.ref fI) = some (.type "function") ∧ Fun K "__init__" qual st fI fd
def spIniN (K : PySem.W.Frag) (C : Addr) : Sp := fun vs H Q _ => ∃ a : Addr, vs = [.ref a] ∧ H a = some (exo a C none) ∧ Q .non H
structure MkX (P : Program) (w : World) (K : PySem.W.Frag) (mg : Str → Option Value) (base : Heap) (k : Nat) (x : Str) : Prop where
  g : mg x = some (.ref (adr mg x))
  o : OexC K (adr mg x)
  i : ∃ (fI : Addr) (fd : FuncData), PySem.W.findIn K (.ref (adr mg x)) "__init__" = some (some (.ref fI)) ∧ PySem.W.typeIn K (.ref fI) = some (.type "function") ∧ FnOk P w K mg base L2.CX0 k fI fd ["self"] (spIniN K (adr mg x)) ∧ L2.Binds K fd ["self"] []
def tRaiseN (W : WX) (C : Addr) : TS := fun _ σ H => W (.ref C) none σ H
theorem del_upd {H : Hp} {a : Addr} {u : HO} (h : H a = none) : del (upd H a u) a = H := by
  funext b
  by_cases e : b = a
  · rw [e, del_same, h]
  · rw [del_ne e, upd_ne e]
theorem ps_raiseN {X : Cx} {W : WX} {k : Nat} {x : Str} {p pos pos2 : Pos} (M : MkX X.prog X.w X.K X.mg X.base k x) (hc : X.calm = true) (hr : Room (k + 1) X.A) (tk : Takes X W) (hg : Gl X x := by rfl) (hdb : (x == ("__debug__" : Str)) = false := by decide) :
    PS X (.Raise (some (.Call (.Name x p) [] [] pos)) none pos2) (tRaiseN W (adr X.mg x)) := by
  obtain ⟨fI, fd, iC, tI, F, b⟩ := M.i
  refine ⟨fun pins s σ H D I h => (ps_raise hc tk (pmk_nod (CX := L2.CX0) M.o iC tI F hr b (fun _ _ _ _ _ _ _ z => z.elim) hg M.g hdb)).run pins s σ H D I fun a ha => ⟨a, rfl, upd_same, rfl, upd_same, ?_⟩⟩
  rw [del_upd ha]
  exact h
/-- defs that may raise -/
structure HasX (P : Program) (w : World) (K : PySem.W.Frag) (mg : Str → Option Value) (base : Heap) (k : Nat) (x : Str) (ps : List Str) (sp : Sp) : Prop where
  ex : ∃ (f : Addr) (fd : FuncData), FnOk P w K mg base (L2.CX P w) k f fd ps sp ∧ mg x = some (.ref f) ∧ PySem.W.keepIn K (.ref f) = true ∧ L2.Binds K fd ps []
abbrev bxX (P : Program) (w : World) (K : PySem.W.Frag) (mg : Str → Option Value) (base : Heap) (N : List Str) (x : Str) (st : Stmt) (f : Addr) (cdv : Value) (A : Around) (outer : List Env) (s : Shared) (H : Hp) (E : XK) : Cx :=
  cxOf (L2.CX P w) P w K mg base N x (defScope st) f cdv A outer s H E
section
variable {P : Program} {w : World} {K : PySem.W.Frag} {mg : Str → Option Value} {base : Heap}
theorem hasX_of {x : Str} {st : Stmt} {N ps : List Str} {k : Nat} {sp : Sp} (D : DefIn K mg x st) (S : FnScope N ps (defScope st))
    (hb : ∀ (kV doc pm : Value) (an : Option Addr) (cdv ct : Value) (us : List Value), us.length = ps.length → bindArgs (PySem.W.fnOf x x (defArgs st) (defBody st) (defScope st) .none kV doc pm an cdv ct) ⟨us, []⟩ = pure (ps.zip us))
    (len : ∀ vs H Q E, sp vs H Q E → vs.length = ps.length)
    (hbody : ∀ (f : Addr) (cdv : Value) (A : Around) (outer : List Env) (s : Shared) (H : Hp) (vs : List V) (Q : VK) (E : XK), Room k (A.deeper (envOfC x (defScope st) s.heap.objs.size f cdv)) → sp vs H Q E →
      ∃ t, PSs (bxX P w K mg base N x st f cdv A outer s H E) (defBody st) t ∧ t { nx := fun _ H' => Q .non H', rt := Q } (start N vs) H) : HasX P w K mg base (k + 1) x ps sp := by
  obtain ⟨f, fd, F, m⟩ := D.ex
  exact ⟨f, fd, F.okX S len fun cdv A outer s H vs Q E hr h => hbody f cdv A outer s H vs Q E hr h, m, F.kp, F.binds hb⟩
/-- the same of a def with defaults, all values written -/
theorem hasXD_of {x : Str} {st : Stmt} {N ps : List Str} {k : Nat} {sp : Sp} {dvs : List V} (D : DefInD K mg x st dvs) (S : FnScope N ps (defScope st)) (hd : dvs ≠ [])
    (hb : ∀ (T : Addr) (kV doc pm : Value) (an : Option Addr) (cdv ct : Value) (us its : List Value), us.length = ps.length → its.length = dvs.length →
      ∃ k, bindArgs (PySem.W.fnOf x x (defArgs st) (defBody st) (defScope st) (.ref T) kV doc pm an cdv ct) ⟨us, []⟩ = seqItems? (.ref T) >>= k ∧ k (some its.toArray) = pure (ps.zip (us ++ its.drop dvs.length)))
    (len : ∀ vs H Q E, sp vs H Q E → vs.length = ps.length)
    (hbody : ∀ (f : Addr) (cdv : Value) (A : Around) (outer : List Env) (s : Shared) (H : Hp) (vs : List V) (Q : VK) (E : XK), Room k (A.deeper (envOfC x (defScope st) s.heap.objs.size f cdv)) → sp vs H Q E →
      ∃ t, PSs (bxX P w K mg base N x st f cdv A outer s H E) (defBody st) t ∧ t { nx := fun _ H' => Q .non H', rt := Q } (start N vs) H) : HasX P w K mg base (k + 1) x ps sp := by
  obtain ⟨f, fd, F, m⟩ := D.ex
  obtain ⟨ds, r, b⟩ := F.binds1 ps.length dvs.length hd (by rw [Nat.sub_self, Nat.add_zero]) hb
  rw [List.drop_length] at r
  cases r
  exact ⟨f, fd, F.ok S len fun cdv A outer s H vs Q E hr h => hbody f cdv A outer s H vs Q E hr h, m, F.kp, b⟩
theorem mkX_of {x qual : Str} {st : Stmt} {k : Nat} (C : ClsN K mg x qual st) (S : FnScope ["self"] ["self"] (defScope st))
    (hb : ∀ (kV doc pm : Value) (an : Option Addr) (cdv ct : Value) (us : List Value), us.length = 1 → bindArgs (PySem.W.fnOf "__init__" qual (defArgs st) (defBody st) (defScope st) .none kV doc pm an cdv ct) ⟨us, []⟩ = pure ((["self"] : List Str).zip us))
    (hbody : ∀ (f : Addr) (cdv : Value) (A : Around) (outer : List Env) (s : Shared) (H : Hp) (a : Addr) (Q : VK) (E : XK), Room k (A.deeper (envOfC qual (defScope st) s.heap.objs.size f cdv)) → H a = some (exo a (adr mg x) none) → Q .non H →
      ∃ t, PSs (cxOf L2.CX0 P w K mg base ["self"] qual (defScope st) f cdv A outer s H E).nox (defBody st) t ∧ t { nx := fun _ H' => Q .non H', rt := Q } (start ["self"] [.ref a]) H) : MkX P w K mg base (k + 1) x := by
  obtain ⟨fI, fd, iC, tI, F⟩ := C.i
  refine ⟨C.g, C.o, fI, fd, iC, tI, F.ok S (fun vs H Q E ⟨a, e, _⟩ => by rw [e]; rfl) fun cdv A outer s H vs Q E hr ⟨a, e, h, q⟩ => ?_, F.binds hb⟩
  subst e
  exact hbody fI cdv A outer s H a Q E hr h q
end
theorem pe_hX {X : Cx} {k : Nat} {x : Str} {ps : List Str} {sp : Sp} {W : WX} {e : Expr} {es : List Expr} {t : TA} {p pos : Pos} (h : HasX X.prog X.w X.K X.mg X.base k x ps sp) (hr : Room k X.A) (tk : Takes X W) (ha : PA X (e :: es) t) (hg : Gl X x := by rfl)
    (hdb : (x == ("__debug__" : Str)) = false := by decide) (he : starEach (e :: es) X.env = (false, eval e X.env) :: starEach es X.env := by rfl) (hpl : (backTo pos (starEach es X.env)).any (·.1) = false := by rfl) :
    PE X (.Call (.Name x p) (e :: es) [] pos) (tCallS sp (WE W) t) := by
  obtain ⟨f, fd, a, b, c, d⟩ := h.ex
  exact pe_callS a hr hg b c d (fun σ => passAt tk σ) ha hdb he hpl
theorem g_callS {sp : Sp} {E : L2.St → XK} {t : TA} {σ : L2.St} {H : Hp} {Q : VK} (h : t σ H fun vs H1 => sp vs H1 Q (E σ)) : tCallS sp E t σ H Q := h
theorem g_raiseN {W : WX} {C : Addr} {D : Ends} {σ : L2.St} {H : Hp} (h : W (.ref C) none σ H) : tRaiseN W C D σ H := h
theorem g_isN {K : PySem.W.Frag} {D a : Addr} {c : V} {cv : Value} {b : Bool} {H : Hp} {Q : VK} (C : ExcC K D) (hc : ∀ u, RelV c u → u = cv) (k : PySem.W.kitOne K (.ref D) cv = some b) (q : Q (.bl b) H) : rIsN K (.ref D) none a [.ref a, c] H Q := ⟨D, rfl, rfl, C, c, cv, b, rfl, hc, k, q⟩
theorem wAs_yes {K : PySem.W.Frag} {c cls : Value} {d : Option Addr} {i : Nat} {ts : Addr → Value → Option Addr → TS} {Wout : WX} {D : Ends} {σ : L2.St} {H : Hp} (h : PySem.W.exmOne K cls c = some true)
    (k : ∀ a, H a = none → ts a cls d { nx := fun σ' H' => D.nx (σ'.set i none) H', rt := D.rt, bk := fun σ' H' => D.bk (σ'.set i none) H', ct := fun σ' H' => D.ct (σ'.set i none) H' } (σ.set i (some (.ref a))) H) : wAs K c i ts Wout D cls d σ H :=
  ⟨true, h, fun _ => k, fun z => nomatch z⟩
theorem Has.imp {P : Program} {w : World} {K : PySem.W.Frag} {mg : Str → Option Value} {base : Heap} {k : Nat} {x : Str} {ps : List Str} {sp sp' : Sp} (h : Has P w K mg base k x ps sp) (i : ∀ vs H Q E, sp' vs H Q E → sp vs H Q E) : Has P w K mg base k x ps sp' := by
  obtain ⟨f, fd, a, b⟩ := h.ex
  exact ⟨f, fd, a.imp i, b⟩
end Fl
namespace Fl
open PySem PySem.Spec PyProof.Rows L2
theorem ratq_rat {K : PySem.W.Frag} {vs : List V} {H : Hp} {Q : VK} {E : XK} (h : spRatq K vs H Q E) : spRat vs H Q E := by
  obtain ⟨p, q, rfl, hq, h1, h2, k⟩ := h
  refine ⟨p, q, rfl, hq, Nat.lt_of_lt_of_le h1 (Nat.pow_le_pow_right (by decide) (by decide)), Nat.lt_of_lt_of_le h2 (Nat.pow_le_pow_right (by decide) (by decide)), fun t ht => k t _ ht (Fl.Same.new ht) ?_⟩
  unfold RV
  rw [rp_num hq, rq_den hq]
  exact SqT.of upd_same
def spInt (K : PySem.W.Frag) : Sp := fun vs H Q _ => ∃ d : Addr, vs = [.ref d] ∧ DeckAt K H d ∧ ∀ v H', v.natAbs < 10 ^ 60 → DeckAt K H' d → Ex1 d H H' → Q (.int v) H'
theorem int_app {K : PySem.W.Frag} {d : Addr} {H : Hp} {Q : VK} {E : XK} (h : DeckAt K H d) (k : ∀ v H', v.natAbs < 10 ^ 60 → DeckAt K H' d → Ex1 d H H' → Q (.int v) H') : spInt K [.ref d] H Q E := ⟨d, rfl, h, k⟩
def spSameQ (K : PySem.W.Frag) : Sp := fun vs H Q _ => ∃ (a b : Addr) (x : Rat), vs = [.ref a, .ref b] ∧ RV K H a x ∧ RV K H b x ∧ Q (.bl true) H
theorem sameQ_app {K : PySem.W.Frag} {a b : Addr} {x : Rat} {H : Hp} {Q : VK} {E : XK} (h1 : RV K H a x) (h2 : RV K H b x) (q : Q (.bl true) H) : spSameQ K [.ref a, .ref b] H Q E := ⟨a, b, x, rfl, h1, h2, q⟩
def spRat0 (Z : Addr) : Sp := fun vs H _ E => ∃ p : Int, vs = [.int p, .int 0] ∧ E (.ref Z) none H
def spDiv0 (K : PySem.W.Frag) (Z : Addr) : Sp := fun vs H _ E => ∃ (a b : Addr) (x : Rat), vs = [.ref a, .ref b] ∧ RV K H a x ∧ Md x ∧ SqT K H b [.int 0, .int 1] ∧ E (.ref Z) none H
def spRefu (K : PySem.W.Frag) : Sp := fun vs H Q _ => ∃ (p : Int) (a : Addr) (x : Rat), vs = [.int p, .ref a] ∧ RV K H a x ∧ Md x ∧ ∀ H', Same H H' → Q (.bl true) H'
theorem refu_app {K : PySem.W.Frag} {p : Int} {a : Addr} {x : Rat} {H : Hp} {Q : VK} {E : XK} (h : RV K H a x) (m : Md x) (q : ∀ H', Same H H' → Q (.bl true) H') : spRefu K [.int p, .ref a] H Q E := ⟨p, a, x, rfl, h, m, q⟩
theorem rv_int {K : PySem.W.Frag} {H : Hp} {a : Addr} {p : Int} (h : SqT K H a [.int p, .int 1]) : RV K H a (Rat.divInt p 1) := by
  unfold RV
  have e1 : (Rat.divInt p 1).num = p := by rw [Rat.num_divInt]; simp
  have e2 : (Rat.divInt p 1).den = 1 := by rw [Rat.den_divInt]; simp
  rw [e1, e2]
  exact h
end Fl
namespace Fl
open PySem PySem.Spec PyProof.Rows L2
theorem tyT {K : PySem.W.Frag} {H : Hp} {a : Addr} {xs : List V} (h : SqT K H a xs) : TyX K H (.ref a) (.type "tuple") := by
  rcases h with (h | ⟨o, h⟩) | ⟨o, its, n, h, c, _⟩
  · exact .base (.tup h)
  · exact .fTuple h
  · exact .kTuple h c
end Fl
namespace Fl
open PySem PySem.Spec PyProof.Rows L2
theorem pe_cls {X : Cx} {x : Str} {pos : Pos} {a : Addr} (g : Gl X x) (h : X.mg x = some (.ref a)) (n : (x == ("__debug__" : Str)) = false := by decide) : PE X (.Name x pos) (tC (.ref a)) := pe_glob g h rfl n
end Fl
namespace Fl
open PySem PySem.Spec PyProof.Rows L2
theorem pe_asK {X : Cx} {e : Expr} {t t' : TE} (h : PE X e t) (q : t' = t := by rfl) : PE X e t' := by subst q; exact h
end Fl
namespace Fl
open PySem PySem.Spec PyProof.Rows L2
theorem pe_bmK {X : Cx} {K : PySem.W.Frag} {o e : Expr} {es : List Expr} {to : TE} {t : TA} {T id : String} {name : Str} {apos cpos : Pos} {r : V → List V → Hp → VK → Prop} (eK : X.K = K) (pa : PlainAttrs T) (slot : Slot T name id) (hty : typeOf (.builtin id) = pure (.type "method_descriptor")) (hm : MtR X id r) (ho : PE X o to) (ha : PA X (e :: es) t)
    (h1 : attributeBase o name X.env (eval o X.env) = eval o X.env := by rfl)
    (h2 : ((backTo cpos (starEach (e :: es) X.env)).all (fun x => !x.1) && (backToKw cpos (keywordEach [] X.env)).all (fun x => x.1.isSome) && decide ((e :: es).length + ([] : List Keyword).length + (if ([] : List Keyword).isEmpty then 0 else 1) < 30)) = true := by rfl)
    (h3 : (apos.endLine == cpos.line) = true := by rfl) (h4 : starEach (e :: es) X.env = (false, eval e X.env) :: starEach es X.env := by rfl) (h5 : (backTo cpos (starEach es X.env)).any (·.1) = false := by rfl) :
    PE X (.Call (.Attribute o name apos) (e :: es) [] cpos) (tBM K T r to t) := by
  subst eK
  exact pe_bm pa slot hty hm ho ha h1 h2 h3 h4 h5
end Fl
namespace Fl
open PySem PySem.Spec PyProof.Rows L2
theorem kit_self (K : PySem.W.Frag) (a : Addr) : PySem.W.kitOne K (.ref a) (.ref a) = some true := by
  unfold PySem.W.kitOne
  rw [if_pos (by simp)]
theorem kit_typ {K : PySem.W.Frag} {a : Addr} {T : String} {b : Bool} (h : PySem.W.subIn K (.ref a) (.type T) = some b) (m : PySem.W.kitMeta T = true) : PySem.W.kitOne K (.ref a) (.type T) = some b := by
  unfold PySem.W.kitOne
  rw [if_neg (by intro z; cases z)]
  show (if PySem.W.kitMeta T = true then PySem.W.subIn K (.ref a) (.type T) else none) = some b
  rw [if_pos m, h]
end Fl

set_option Elab.async false
set_option linter.all false
set_option maxRecDepth 100000
set_option maxHeartbeats 4000000
set_option exponentiation.threshold 20000
/-! objects of the program's own classes: made with named parameters, their fields set and read -/
namespace Fl
open PySem PySem.Spec PyProof.Rows L2

/-! ### parameters put in order -/
def pick {α : Type} (is : List Nat) (l : List α) : List α := is.filterMap fun i => l[i]?
theorem Vals.getO : ∀ {vs : List V} {us : List Value} (h : Vals vs us) (i : Nat), (∃ v u, vs[i]? = some v ∧ us[i]? = some u ∧ RelV v u) ∨ (vs[i]? = none ∧ us[i]? = none)
  | _, _, .nil, i => .inr ⟨by simp, by simp⟩
  | _, _, .cons h r, 0 => .inl ⟨_, _, rfl, rfl, h⟩
  | _, _, .cons h r, i + 1 => by
    rcases Vals.getO r i with ⟨v, u, a, b, c⟩ | ⟨a, b⟩
    · exact .inl ⟨v, u, by simpa using a, by simpa using b, c⟩
    · exact .inr ⟨by simpa using a, by simpa using b⟩
theorem Vals.pick {vs : List V} {us : List Value} (h : Vals vs us) : ∀ is : List Nat, Vals (Fl.pick is vs) (Fl.pick is us)
  | [] => .nil
  | i :: is => by
    unfold Fl.pick
    rw [List.filterMap_cons, List.filterMap_cons]
    rcases Vals.getO h i with ⟨v, u, a, b, c⟩ | ⟨a, b⟩
    · rw [a, b]
      exact .cons c (Vals.pick h is)
    · rw [a, b]
      exact Vals.pick h is
theorem Vals.app : ∀ {vs : List V} {us : List Value} {ws : List V} {zs : List Value}, Vals vs us → Vals ws zs → Vals (vs ++ ws) (us ++ zs)
  | _, _, _, _, .nil, k => k
  | _, _, _, _, .cons h r, k => .cons h (Vals.app r k)

/-! ### classes -/
/-- a class without bases whose __init__ has named parameters with defaults -/
structure ClsI (K : PySem.W.Frag) (mg : Str → Option Value) (x qual : Str) (st : Stmt) (fs : List Str) (kws : List (Str × V)) : Prop where
  g : mg x = some (.ref (adr mg x))
  cl : Cls K (adr mg x)
  na : ∀ f, f ∈ fs → NoAttr K (adr mg x) f
  mi : ∃ (f : Addr) (fd : FuncData), Mk K (adr mg x) f ∧ FunD K "__init__" qual (defArgs st) (defBody st) (defScope st) [] kws f fd
/-- the class can be called with n values and the names ks -/
structure MkI (P : Program) (w : World) (K : PySem.W.Frag) (mg : Str → Option Value) (base : Heap) (k : Nat) (x : Str) (n : Nat) (ks : List Str) (gV : List V → List V → List V) (sp : Sp) : Prop where
  ex : ∃ (f : Addr) (fd : FuncData) (ps : List Str) (g : List Value → List Value → List Value), mg x = some (.ref (adr mg x)) ∧ Mk K (adr mg x) f ∧ FnOk P w K mg base L2.CX0 k f fd ps sp ∧ KBn K fd ps (n + 1) ks g gV
theorem MkI.mono {P : Program} {w : World} {K : PySem.W.Frag} {mg : Str → Option Value} {base : Heap} {j k : Nat} {x : Str} {n : Nat} {ks : List Str} {gV : List V → List V → List V} {sp : Sp} (h : MkI P w K mg base j x n ks gV sp) (e : j ≤ k) : MkI P w K mg base k x n ks gV sp := by
  obtain ⟨f, fd, ps, g, a, b, c, d⟩ := h.ex
  exact ⟨f, fd, ps, g, a, b, c.mono e, d⟩
/-- an __init__'s promise -/
structure InI (P : Program) (w : World) (K : PySem.W.Frag) (mg : Str → Option Value) (base : Heap) (k : Nat) (x qual : Str) (st : Stmt) (fs : List Str) (kws : List (Str × V)) (ps : List Str) (sp : Sp) : Prop where
  ex : ∃ (f : Addr) (fd : FuncData), mg x = some (.ref (adr mg x)) ∧ Mk K (adr mg x) f ∧ FunD K "__init__" qual (defArgs st) (defBody st) (defScope st) [] kws f fd ∧ FnOk P w K mg base L2.CX0 k f fd ps sp
section
variable {P : Program} {w : World} {K : PySem.W.Frag} {mg : Str → Option Value} {base : Heap}
theorem inI_of {x qual : Str} {st : Stmt} {fs : List Str} {kws : List (Str × V)} {N ps : List Str} {k : Nat} {sp : Sp} (D : ClsI K mg x qual st fs kws) (S : FnScope N ps (defScope st))
    (len : ∀ vs H Q E, sp vs H Q E → vs.length = ps.length)
    (hbody : ∀ (f : Addr) (cdv : Value) (A : Around) (outer : List Env) (s : Shared) (H : Hp) (vs : List V) (Q : VK) (E : XK), Room k (A.deeper (envOfC qual (defScope st) s.heap.objs.size f cdv)) → sp vs H Q E →
      ∃ t, PSs (bx P w K mg base N qual st f cdv A outer s H E) (defBody st) t ∧ t { nx := fun _ H' => Q .non H', rt := Q } (start N vs) H) : InI P w K mg base (k + 1) x qual st fs kws ps sp := by
  obtain ⟨f, fd, M, F⟩ := D.mi
  refine ⟨f, fd, D.g, M, F, F.ok S len fun cdv A outer s H vs Q E hr h => ?_⟩
  obtain ⟨t, ht, q⟩ := hbody f cdv A outer s H vs Q E hr h
  exact ⟨t, ht.nox, q⟩
/-- the calls with n values and the names ks; ms stand by default; is: where each parameter stands in values, defaults, named ones -/
theorem InI.make {x qual : Str} {st : Stmt} {fs : List Str} {kws : List (Str × V)} {ps : List Str} {k : Nat} {sp : Sp} (D : InI P w K mg base k x qual st fs kws ps sp) (n : Nat) (ks : List Str) (ms : List (Str × V)) (is : List Nat) (hk : kws ≠ [])
    (hm : ∀ q, q ∈ ms → q ∈ kws)
    (hb : ∀ (D : Addr) (doc pm : Value) (an : Option Addr) (cdv ct : Value) (us mv ws : List Value), us.length = n + 1 → mv.length = ms.length → ws.length = ks.length →
      KwChain D ((ms.map (fun x => x.fst)).zip mv) (bindArgs (PySem.W.fnOf "__init__" qual (defArgs st) (defBody st) (defScope st) .none (.ref D) doc pm an cdv ct) ⟨us, ks.zip ws⟩) (ps.zip (pick is (us ++ (mv ++ ws))))) :
    MkI P w K mg base k x n ks (fun vs zs => pick is (vs ++ (ms.map (fun x => x.snd) ++ zs))) sp := by
  obtain ⟨f, fd, a, M, F, G⟩ := D.ex
  obtain ⟨mv, b⟩ := F.kbinds0 (n + 1) ks ms (fun {α} us mv ws => pick is (us ++ (mv ++ ws))) hk hm (fun h1 h2 h3 => Vals.pick (Vals.app h1 (Vals.app h2 h3)) is) hb
  exact ⟨f, fd, ps, _, a, M, G, b⟩
end
theorem pe_mk {X : Cx} {mg : Str → Option Value} {k n : Nat} {x : Str} {ks : List Str} {sp : Sp} {gV : List V → List V → List V} {e : Expr} {es : List Expr} {kws : List Keyword} {t tk : TA} {p pos : Pos} (em : X.mg = mg) (h : MkI X.prog X.w X.K X.mg X.base k x n ks gV sp) (hr : Room (k + 1) X.A) (ha : PA X (e :: es) t) (hk : PK X kws tk) (hg : Gl X x := by rfl)
    (h1 : ((backToKw pos (keywordEach kws X.env)).all fun x => x.fst.isSome) = true := by rfl) (h2 : List.filterMap (fun x => x.fst) (backToKw pos (keywordEach kws X.env)) = ks := by rfl)
    (hdb : (x == ("__debug__" : Str)) = false := by decide) (he : starEach (e :: es) X.env = (false, eval e X.env) :: starEach es X.env := by rfl)
    (hpl : (((backTo pos (starEach (e :: es) X.env)).any fun x => x.fst) || (backToKw pos (keywordEach kws X.env)).any fun x => x.fst.isNone) = false := by rfl) :
    PE X (.Call (.Name x p) (e :: es) kws pos) (tMakeK (adr mg x) n ks.length sp gV E0 t tk) := by
  subst em
  obtain ⟨f, fd, ps, g, a, b, c, d⟩ := h.ex
  exact pe_makeK b c hr hg a d pass0 ha hk h1 h2 hdb he hpl

/-! ### walked things of two kinds -/
def iOr (t1 t2 : TI) : TI := fun σ H R => t1 σ H R ∨ t2 σ H R
theorem piOr {X : Cx} {tg l : Expr} {t1 t2 : TI} (h1 : PI X tg l t1) (h2 : PI X tg l t2) : PI X tg l (iOr t1 t2) := ⟨fun pins s σ H R I h => h.elim (h1.run pins s σ H R I) (h2.run pins s σ H R I)⟩
theorem piS {X : Cx} {K : PySem.W.Frag} {l tg : Expr} {tl : TE} (e : X.K = K) (h : PE X l tl) : PI X tg l (iOr (iList K tl) (iTup K tl)) := piOr (piL e h) (piT e h)
section
variable {X : Cx} {K : PySem.W.Frag}
def rTupOf (K : PySem.W.Frag) : List V → Hp → VK → Prop := fun xs H Q => ∃ p ys, xs = [V.ref p] ∧ ((SqL K H p ys ∧ ∀ l, H l = none → Q (.ref l) (upd H l (.tup ys))) ∨ SqT K H p ys ∧ Q (.ref p) H)
theorem clTupOf (e : X.K = K) : CallR X (.type "tuple") (rTupOf K) := by subst e; exact call_tuple_of
def rLstOf (K : PySem.W.Frag) : List V → Hp → VK → Prop := fun xs H Q => ∃ p ys, xs = [V.ref p] ∧ (SqL K H p ys ∨ SqT K H p ys) ∧ ∀ l, H l = none → Q (.ref l) (upd H l (.lst ys))
theorem clLstOf (e : X.K = K) : CallR X (.type "list") (rLstOf K) := by subst e; exact call_list_of
/-- o.f = e, within a written part of its own -/
theorem psFld {o value : Expr} {f : Str} {pos pos' : Pos} {ta tv : TE} (e : X.K = K) (h1 : PE X o ta) (h2 : PE X value tv) (hs : swapsWith value (some (o.Attribute f pos')) pos.line X.env = pure false) : PS X (.Assign [o.Attribute f pos'] value pos) (sFld K ta tv f) := by subst e; exact ps_fld h1 h2 hs
theorem peFld {o : Expr} {f : Str} {pos : Pos} {ta : TE} (e : X.K = K) (h : PE X o ta) (hb : attributeBase o f X.env (eval o X.env) = eval o X.env) : PE X (o.Attribute f pos) (tFld K ta f) := by subst e; exact pe_fld h hb
end

/-! ### data of objects -/
def encF (p : Str × PyData) : PyData × PyData := (.str p.1, p.2)
def insD (C : Addr) (fs : List (Str × PyData)) : PyData := .dict ((.none, .int (C : Int)) :: fs.map encF)
inductive DqN (S : List Addr) (H : Hp) : List (Str × V) → List (Str × PyData) → Prop
  | nil : DqN S H [] []
  | cons {n : Str} {v : V} {d : PyData} {fs : List (Str × V)} {ds : List (Str × PyData)} : Dq S H v d → DqN S H fs ds → DqN S H ((n, v) :: fs) ((n, d) :: ds)
section
variable {S T : List Addr} {H H' : Hp} {fs gs : List (Str × V)} {ds es : List (Str × PyData)} {v : V} {d : PyData} {n : Str}
theorem DqN.enc : ∀ {fs : List (Str × V)} {ds : List (Str × PyData)}, DqN S H fs ds → DqF S H fs (ds.map encF)
  | _, _, .nil => .nil
  | _, _, .cons h r => .cons h (DqN.enc r)
theorem DqF.dec : ∀ {fs : List (Str × V)} {ds : List (Str × PyData)}, DqF S H fs (ds.map encF) → DqN S H fs ds
  | _, [], h => by cases h; exact .nil
  | _, (n, d) :: ds, h => by
    cases h with
    | cons h r => exact .cons h (DqF.dec r)
theorem DqN.app : ∀ {fs gs : List (Str × V)} {ds es : List (Str × PyData)}, DqN S H fs ds → DqN S H gs es → DqN S H (fs ++ gs) (ds ++ es)
  | _, _, _, _, .nil, k => k
  | _, _, _, _, .cons h r, k => .cons h (DqN.app r k)
theorem DqN.fr : ∀ {fs : List (Str × V)} {ds : List (Str × PyData)}, DqN S H fs ds → Fr S H H' → DqN S H' fs ds
  | _, _, .nil, _ => .nil
  | _, _, .cons h r, e => .cons (h.fr e) (DqN.fr r e)
theorem DqN.mono : ∀ {fs : List (Str × V)} {ds : List (Str × PyData)}, DqN S H fs ds → (∀ a, a ∈ T → a ∈ S) → DqN T H fs ds
  | _, _, .nil, _ => .nil
  | _, _, .cons h r, e => .cons (h.mono e) (DqN.mono r e)
theorem DqN.names : ∀ {fs : List (Str × V)} {ds : List (Str × PyData)}, DqN S H fs ds → fs.map Prod.fst = ds.map Prod.fst
  | _, _, .nil => rfl
  | _, _, .cons h r => by rw [List.map_cons, List.map_cons, DqN.names r]
theorem DqN.look : ∀ {fs : List (Str × V)} {ds : List (Str × PyData)} {d : PyData}, DqN S H fs ds → ds.lookup n = some d → ∃ v, fs.lookup n = some v ∧ Dq S H v d
  | _, _, _, .nil, e => by simp at e
  | _, _, d, .cons (n := m) h r, e => by
    rw [List.lookup_cons] at e ⊢
    cases hb : n == m with
    | true => rw [hb] at e; cases e; exact ⟨_, rfl, h⟩
    | false => rw [hb] at e; exact DqN.look r e
theorem Dq.insE {C : Addr} (h : Dq S H v (insD C ds)) : ∃ a dx fs, v = .ref a ∧ a ∉ S ∧ H a = some (.ins C dx fs) ∧ DqN S H fs ds := by
  unfold insD at h
  generalize e : (C : Int) = c at h
  cases h with
  | ins n q r =>
    rename_i C' dx fs
    have : C = C' := by exact_mod_cast e
    subst this
    exact ⟨_, _, _, rfl, n, q, DqF.dec r⟩
theorem Dq.insI {C a dx : Addr} (n : a ∉ S) (q : H a = some (.ins C dx fs)) (r : DqN S H fs ds) : Dq S H (.ref a) (insD C ds) := .ins n q r.enc
end
/-- an empty tuple of the written part: a default -/
def EmT (K : PySem.W.Frag) (a : Addr) : Prop := ∃ o its n, K.lookup a = some o ∧ o.cls = .type "tuple" ∧ o.data = .seq its n ∧ its.size ≤ sizeLine ∧ Vals [] its.toList
theorem EmT.sq {K : PySem.W.Frag} {a : Addr} (h : EmT K a) (H : Hp) : SqT K H a [] := .inr h
/-- what may be handed to a maker: data, or a default () -/
def De (K : PySem.W.Frag) (S : List Addr) (H : Hp) (v : V) (d : PyData) : Prop := Dq S H v d ∨ (d = .tuple [] ∧ ∃ a, v = .ref a ∧ EmT K a)
inductive DeA (K : PySem.W.Frag) (S : List Addr) (H : Hp) : List V → List PyData → Prop
  | nil : DeA K S H [] []
  | cons {v : V} {vs : List V} {d : PyData} {ds : List PyData} : De K S H v d → DeA K S H vs ds → DeA K S H (v :: vs) (d :: ds)
section
variable {K : PySem.W.Frag} {S T : List Addr} {H H' : Hp} {v : V} {d : PyData} {vs : List V} {ds : List PyData}
theorem De.fr (h : De K S H v d) (e : Fr S H H') : De K S H' v d := h.imp (fun h => h.fr e) id
theorem De.mono (h : De K S H v d) (k : ∀ a, a ∈ T → a ∈ S) : De K T H v d := h.imp (fun h => h.mono k) id
theorem De.new {p : Addr} (h : De K S H v d) (e : H p = none) : De K (p :: S) H v d := h.imp (fun h => h.new e) id
theorem DeA.fr : ∀ {vs : List V} {ds : List PyData}, DeA K S H vs ds → Fr S H H' → DeA K S H' vs ds
  | _, _, .nil, _ => .nil
  | _, _, .cons h r, e => .cons (h.fr e) (DeA.fr r e)
theorem DeA.new {p : Addr} : ∀ {vs : List V} {ds : List PyData}, DeA K S H vs ds → H p = none → DeA K (p :: S) H vs ds
  | _, _, .nil, _ => .nil
  | _, _, .cons h r, e => .cons (h.new e) (DeA.new r e)
theorem DeA.consE (h : DeA K S H vs (d :: ds)) : ∃ v ws, vs = v :: ws ∧ De K S H v d ∧ DeA K S H ws ds := by
  cases h with
  | cons h r => exact ⟨_, _, rfl, h, r⟩
theorem DeA.nilE (h : DeA K S H vs []) : vs = [] := by cases h; rfl
theorem De.lst {xs : List PyData} (h : De K S H v (.list xs)) : Dq S H v (.list xs) := by
  rcases h with h | ⟨e, _⟩
  · exact h
  · cases e
theorem De.ofDq (h : Dq S H v d) : De K S H v d := .inl h
end
/-- the items of a list or a tuple -/
def sqI : PyData → Option (List PyData)
  | .list xs => some xs
  | .tuple xs => some xs
  | _ => none
theorem De.seq {K : PySem.W.Frag} {S : List Addr} {H : Hp} {v : V} {d : PyData} {xs : List PyData} (h : De K S H v d) (e : sqI d = some xs) :
    ∃ a vs, v = .ref a ∧ DqA S H vs xs ∧ (∀ H', Fr S H H' → SqL K H' a vs) ∨ (∃ a vs, v = .ref a ∧ DqA S H vs xs ∧ (∀ H', Fr S H H' → SqT K H' a vs)) := by
  rcases h with h | ⟨rfl, a, rfl, m⟩
  · cases h with
    | lst n q r => cases e; exact ⟨_, _, .inl ⟨rfl, r, fun H' f => SqL.of (f _ _ n q)⟩⟩
    | tup n q r => cases e; exact ⟨0, [], .inr ⟨_, _, rfl, r, fun H' f => SqT.of (f _ _ n q)⟩⟩
    | _ => cases e
  · cases e
    exact ⟨0, [], .inr ⟨a, [], rfl, .nil, fun H' f => m.sq H'⟩⟩
/-- a function of what may be handed to a maker -/
def spE (K : PySem.W.Frag) (f : List PyData → PyData → Prop) : Sp := fun vs H Q _ => ∃ S ds d, Al S H ∧ DeA K S H vs ds ∧ f ds d ∧ ∀ v H', Same H H' → Dq S H' v d → Q v H'
theorem spE_app {K : PySem.W.Frag} {f : List PyData → PyData → Prop} {vs : List V} {H : Hp} {Q : VK} {E : XK} (S : List Addr) (ds : List PyData) (d : PyData) (hS : Al S H) (hd : DeA K S H vs ds) (hf : f ds d) (q : ∀ v H', Same H H' → Dq S H' v d → Q v H') : spE K f vs H Q E :=
  ⟨S, ds, d, hS, hd, hf, q⟩
/-- an __init__: the new object's fields -/
def spI (K : PySem.W.Frag) (C : Addr) (f : List PyData → List (Str × PyData) → Prop) : Sp := fun vs H Q _ =>
  ∃ S x dx ws ds fs, vs = .ref x :: ws ∧ x ∈ S ∧ Al S H ∧ H x = some (.ins C dx []) ∧ DeA K S H ws ds ∧ f ds fs ∧ ∀ H' gs, Fr [x] H H' → H' x = some (.ins C dx gs) → DqN S H' gs fs → Q .non H'
theorem mk_app {K : PySem.W.Frag} {C : Addr} {f : List PyData → List (Str × PyData) → Prop} {ws : List V} {H : Hp} {Z : Addr → Hp → Prop} {E : XK} {gl : Addr → List V} (S : List Addr) (ds : List PyData) (fs : List (Str × PyData)) (hg : ∀ x, gl x = .ref x :: ws) (hS : Al S H) (hd : DeA K S H ws ds) (hf : f ds fs)
    (q : ∀ x H', Same H H' → Dq S H' (.ref x) (insD C fs) → Z x H') :
    ∀ x dx, H x = none → H dx = none → dx ≠ x → spI K C f (gl x) (upd (upd H dx (.own x)) x (.ins C dx [])) (fun v H3 => v = .non ∧ Z x H3) E := by
  intro x dx h1 h2 h3
  have s1 : Same H (upd H dx (.own x)) := Fl.Same.new h2
  have h1' : upd H dx (.own x) x = none := by rw [upd_ne (Ne.symm h3)]; exact h1
  have s2 : Same H (upd (upd H dx (.own x)) x (.ins C dx [])) := L2.Same.trans s1 (Fl.Same.new h1')
  have al : Al (x :: S) (upd (upd H dx (.own x)) x (.ins C dx [])) := .cons (by rw [upd_same]; simp) (hS.same s2)
  rw [hg]
  refine ⟨x :: S, x, dx, ws, ds, fs, rfl, by simp, al, upd_same, (hd.new h1).fr (Fr.same s2), hf, fun H' gs f' e n => ⟨rfl, ?_⟩⟩
  have sm : Same H H' := fun a o e2 => f' a o (by simp; intro z; rw [z, h1] at e2; cases e2) (s2 a o e2)
  exact q x H' sm (Dq.insI (hS.ni h1) e (n.mono fun a m => List.mem_cons_of_mem _ m))

/-! ### comprehensions over tuples -/
section
variable {S : List Addr} {H1 : Hp} {K : PySem.W.Frag} {g : TG} {tt : TT} {te : TE} {vs : List Nat} {σ : L2.St} {Q : VK}
theorem lc_tupP {a : Addr} {xs : List V} {D : Addr} {Qd : Hp → Prop} (Pv : Nat → Hp → Prop) (h0 : Pv 0 (upd H1 D (.lst [])))
    (hl : ∀ i H, i ≤ xs.length → Pv i H → SqT K H a xs)
    (hs : ∀ i x H, xs[i]? = some x → Pv i H → g x (wipe σ vs) H fun σ2 H2 => wipe σ2 vs = wipe σ vs ∧ tt σ2 H2 fun b H3 =>
        if b = true then te σ2 H3 fun y H4 => ∃ acc, H4 D = some (.lst acc) ∧ acc.length < sizeLine ∧ Pv (i + 1) (upd H4 D (.lst (acc ++ [y]))) else Pv (i + 1) H3)
    (hd : ∀ H, Pv xs.length H → Qd H) :
    ∃ W : Nat → Nat → Hp → Prop, (∃ m, W 0 m (upd H1 D (.lst []))) ∧ ∀ i m H, W i m H →
      ((Itt K a).stop i H ∧ Qd H) ∨ ((Itt K a).go i H ∧ ∃ Nx : Hp → Prop, (∀ H', Nx H' → ∃ m', m' < m ∧ W (i + 1) m' H') ∧
        ∀ x H', (Itt K a).yld i H x H' → g x (wipe σ vs) H' fun σ2 H2 => wipe σ2 vs = wipe σ vs ∧ tt σ2 H2 fun b H3 =>
          if b = true then te σ2 H3 fun y H4 => ∃ acc, H4 D = some (.lst acc) ∧ acc.length < sizeLine ∧ Nx (upd H4 D (.lst (acc ++ [y]))) else Nx H3) := by
  refine ⟨fun i m H => m = xs.length - i ∧ i ≤ xs.length ∧ Pv i H, ⟨xs.length, rfl, Nat.zero_le _, h0⟩, fun i m H h => ?_⟩
  obtain ⟨rfl, hi, p⟩ := h
  have q := hl i H hi p
  by_cases hlt : i < xs.length
  · refine .inr ⟨⟨xs, xs[i], q, by simp [hlt]⟩, Pv (i + 1), fun H' p' => ⟨xs.length - (i + 1), by omega, rfl, hlt, p'⟩, fun x H' y => ?_⟩
    obtain ⟨rfl, y⟩ := y
    exact hs i x H' (y xs q) p
  · have e : i = xs.length := by omega
    subst e
    exact .inl ⟨⟨xs, q, Nat.le_refl _⟩, hd H p⟩
/-- [elt for x in t if test], t a list or a tuple; nothing changed -/
theorem lcS {wi : TE} {v : V} {d : PyData} {es : List PyData} (f : Nat → Option PyData) (hS : Al S H1) (ha : De K S H1 v d) (he : sqI d = some es) (hz : es.length < 1000)
    (hv : ∀ R : VK, R v H1 → wi σ H1 R)
    (step : ∀ (D : Addr) (i : Nat) (x : V) (e : PyData) (H : Hp), H1 D = none → es[i]? = some e → Same H1 H → Al (D :: S) H → Dq (D :: S) H x e →
      ∀ (R : V → Hp → Prop) (N : Hp → Prop), (∀ r y H4, f i = some r → Same H H4 → Dq (D :: S) H4 y r → R y H4) → (f i = none → ∀ H4, Same H H4 → N H4) →
      g x (wipe σ vs) H fun σ2 H2 => wipe σ2 vs = wipe σ vs ∧ tt σ2 H2 fun b H3 => if b = true then te σ2 H3 R else N H3)
    (q : ∀ (D : Addr) (H : Hp), Same H1 H → H1 D = none → Dq S H (.ref D) (.list ((List.range es.length).filterMap f)) → Q (.ref D) H) :
    iOr (iList K wi) (iTup K wi) σ H1 fun J H1 => lcK J g tt te vs σ H1 Q := by
  obtain ⟨a, xs, h | h⟩ := ha.seq he
  · obtain ⟨rfl, hall, hsq⟩ := h
    refine .inl (hv _ ⟨a, rfl, ⟨xs, hsq H1 Fr.refl⟩, ?_⟩)
    unfold lcK
    intro D hD
    have hlx := hall.len
    have hfr : ∀ H, Fr [D] H1 H → Fr S H1 H := fun H f b o n e => f b o (by simp; intro z; rw [z, hD] at e; cases e) e
    refine lc_list (xs := xs) (CompAt S H1 D f) (CompAt.zero hD) (fun i H _ h => hsq H (hfr H h.fr)) ?_ ?_
    · intro i x H hx h
      have hlt : i < xs.length := (List.getElem?_eq_some_iff.mp hx).1
      have hsm : Same H1 H := sm_of hD h.fr
      obtain ⟨e, he, hxe⟩ := ((hall.new hD).same hsm).get hx
      exact step D i x e H hD he hsm (h.al hS hD) hxe _ _ (fun r y H4 er s d => h.put (by omega) er s d) fun en H4 s => (h.same s).skip en
    · intro H h
      rw [hlx] at h
      exact q D H (sm_of hD h.fr) hD (h.fin hS hD)
  · obtain ⟨a, xs, rfl, hall, hsq⟩ := h
    refine .inr (hv _ ⟨a, rfl, ⟨xs, hsq H1 Fr.refl⟩, ?_⟩)
    unfold lcK
    intro D hD
    have hlx := hall.len
    have hfr : ∀ H, Fr [D] H1 H → Fr S H1 H := fun H f b o n e => f b o (by simp; intro z; rw [z, hD] at e; cases e) e
    refine lc_tupP (xs := xs) (CompAt S H1 D f) (CompAt.zero hD) (fun i H _ h => hsq H (hfr H h.fr)) ?_ ?_
    · intro i x H hx h
      have hlt : i < xs.length := (List.getElem?_eq_some_iff.mp hx).1
      have hsm : Same H1 H := sm_of hD h.fr
      obtain ⟨e, he, hxe⟩ := ((hall.new hD).same hsm).get hx
      exact step D i x e H hD he hsm (h.al hS hD) hxe _ _ (fun r y H4 er s d => h.put (by omega) er s d) fun en H4 s => (h.same s).skip en
    · intro H h
      rw [hlx] at h
      exact q D H (sm_of hD h.fr) hD (h.fin hS hD)
end
end Fl

set_option Elab.async false
set_option linter.all false
set_option maxRecDepth 100000
set_option maxHeartbeats 4000000
set_option exponentiation.threshold 20000
/-! what fonts consist of -/
namespace Fl
open PySem PySem.Spec PyProof.Rows L2
/-! ### readings of fields -/
section
variable {K : PySem.W.Frag} {σ : L2.St} {H : Hp} {Q : VK} {ta tv : TE} {f : Str} {D : Ends} {a C dx : Addr} {fs : List (Str × V)} {v y : V} {l : List Str}
theorem g_fld (h : ta σ H fun x H1 => ∃ a C dx fs v, x = .ref a ∧ H1 a = some (.ins C dx fs) ∧ Cls K C ∧ NoAttr K C f ∧ fs.lookup f = some v ∧ Q v H1) : tFld K ta f σ H Q := h
theorem g_fldE {Z : V → Prop} (h : H a = some (.ins C dx fs)) (c : Cls K C) (n : NoAttr K C f) (e : fs.lookup f = some v) (q : Z v) : ∃ a' C' dx' fs' v', V.ref a = .ref a' ∧ H a' = some (.ins C' dx' fs') ∧ Cls K C' ∧ NoAttr K C' f ∧ fs'.lookup f = some v' ∧ Z v' := ⟨a, C, dx, fs, v, rfl, h, c, n, e, q⟩
theorem g_sf (h : tv σ H fun y H1 => ta σ H1 fun x H2 => ∃ a C dx fs, x = .ref a ∧ H2 a = some (.ins C dx fs) ∧ Cls K C ∧ NoAttr K C f ∧ fs.length < 1000 ∧ D.nx σ (upd H2 a (.ins C dx (putF f y fs)))) : sFld K ta tv f D σ H := h
theorem g_sfE {Z : Hp → Prop} (h : H a = some (.ins C dx fs)) (c : Cls K C) (n : NoAttr K C f) (e : fs.length < 1000) (q : Z (upd H a (.ins C dx (putF f y fs)))) : ∃ a' C' dx' fs', V.ref a = .ref a' ∧ H a' = some (.ins C' dx' fs') ∧ Cls K C' ∧ NoAttr K C' f ∧ fs'.length < 1000 ∧ Z (upd H a' (.ins C' dx' (putF f y fs'))) := ⟨a, C, dx, fs, rfl, h, c, n, e, q⟩
theorem na_of (h : ∀ f, f ∈ l → NoAttr K C f) (m : l.contains f = true) : NoAttr K C f := h f (List.contains_iff_mem.mp m)
theorem putF_new : ∀ {fs : List (Str × V)}, (fs.map Prod.fst).contains f = false → putF f y fs = fs ++ [(f, y)]
  | [], _ => rfl
  | (g, z) :: fs, h => by
    simp only [List.map_cons, List.contains_cons, Bool.or_eq_false_iff] at h
    unfold putF
    rw [putF_new h.2]
    have e : ¬ g = f := fun e => by
      rw [e] at h
      simp at h
    simp [e]
end
/-- a new object x while its fields are being set -/
structure InitAt (S : List Addr) (x C dx : Addr) (H0 H : Hp) (gs : List (Str × V)) (fs : List (Str × PyData)) : Prop where
  fr : Fr [x] H0 H
  hx : H x = some (.ins C dx gs)
  dq : DqN S H gs fs
  al : Al S H
  mem : x ∈ S
section
variable {K : PySem.W.Frag} {S : List Addr} {x C dx : Addr} {H0 H H' : Hp} {gs : List (Str × V)} {fs : List (Str × PyData)} {f : Str} {v : V} {d : PyData}
theorem InitAt.start (hx : H x = some (.ins C dx [])) (al : Al S H) (m : x ∈ S) : InitAt S x C dx H H [] [] := ⟨Fr.refl, hx, .nil, al, m⟩
theorem InitAt.same (I : InitAt S x C dx H0 H gs fs) (e : Same H H') : InitAt S x C dx H0 H' gs fs := ⟨I.fr.trans (Fr.same e), e _ _ I.hx, I.dq.fr (Fr.same e), I.al.same e, I.mem⟩
theorem InitAt.put (I : InitAt S x C dx H0 H gs fs) (hv : Dq S H v d) (f : Str) (hn : (gs.map Prod.fst).contains f = false) : InitAt S x C dx H0 (upd H x (.ins C dx (putF f v gs))) (gs ++ [(f, v)]) (fs ++ [(f, d)]) := by
  rw [putF_new hn]
  have u : Fr S H (upd H x (.ins C dx (gs ++ [(f, v)]))) := Fr.upd I.mem
  refine ⟨I.fr.trans (Fr.upd (by simp)), upd_same, (I.dq.fr u).app (.cons (hv.fr u) .nil), ?_, I.mem⟩
  intro b m q
  by_cases hb : b = x
  · rw [hb, upd_same] at q; cases q
  · rw [upd_ne hb] at q; exact I.al b m q
theorem InitAt.dqO (I : InitAt S x C dx H0 H gs fs) (h : Dq S H0 v d) : Dq S H v d := h.fr (I.fr.mono fun a m => by rw [show a = x by simpa using m]; exact I.mem)
theorem InitAt.deO (I : InitAt S x C dx H0 H gs fs) (h : De K S H0 v d) : De K S H v d := h.fr (I.fr.mono fun a m => by rw [show a = x by simpa using m]; exact I.mem)
theorem De.dq (h : De K S H v d) (n : d ≠ .tuple []) : Dq S H v d := by
  rcases h with h | ⟨e, _⟩
  · exact h
  · exact absurd e n
end
/-! ### sequences of data -/
def Sq1 (d : PyData) (L : List PyData) : Prop := sqI d = some L ∧ L.length < 1000
def Sq2 (d : PyData) (L : List (List PyData)) : Prop := ∃ xs, sqI d = some xs ∧ xs.map sqI = L.map some ∧ L.length < 1000
def Sq3 (d : PyData) (L : List (List (List PyData))) : Prop := ∃ xs, sqI d = some xs ∧ xs.length = L.length ∧ (∀ (i : Nat) x l, xs[i]? = some x → L[i]? = some l → Sq2 x l) ∧ L.length < 1000
def ltD (L : List (List PyData)) : PyData := .list (L.map .tuple)
def llD (L : List (List PyData)) : PyData := .list (L.map .list)
def ouD3 (L : List (List (List PyData))) : PyData := .list (L.map ltD)
section
variable {L : List (List PyData)} {M : List (List (List PyData))} {l : List PyData}
theorem Sq1.ls (h : l.length < 1000) : Sq1 (.list l) l := ⟨rfl, h⟩
theorem Sq1.e : Sq1 (.tuple []) [] := ⟨rfl, by decide⟩
theorem Sq2.lt (h : L.length < 1000) : Sq2 (ltD L) L := ⟨_, rfl, by rw [List.map_map]; rfl, h⟩
theorem Sq2.ll (h : L.length < 1000) : Sq2 (llD L) L := ⟨_, rfl, by rw [List.map_map]; rfl, h⟩
theorem Sq2.e : Sq2 (.tuple []) [] := ⟨[], rfl, rfl, by decide⟩
theorem Sq3.ou (h : M.length < 1000) (k : ∀ c, c ∈ M → c.length < 1000) : Sq3 (ouD3 M) M := by
  refine ⟨_, rfl, by rw [List.length_map], fun i x l e1 e2 => ?_, h⟩
  rw [List.getElem?_map, e2] at e1
  cases e1
  exact Sq2.lt (k l (List.mem_of_getElem? e2))
theorem Sq3.e : Sq3 (.tuple []) [] := ⟨[], rfl, rfl, fun i x l e1 _ => by simp at e1, by decide⟩
theorem Sq3.le : Sq3 (.list []) [] := ⟨[], rfl, rfl, fun i x l e1 _ => by simp at e1, by decide⟩
theorem Sq2.le : Sq2 (.list []) [] := ⟨[], rfl, rfl, by decide⟩
theorem fm_ltA {α : Type} {L : List α} {f : α → PyData} {n : Nat} (h : n = L.length) : (List.range n).filterMap (fun i => (L[i]?).map f) = L.map f := by
  subst h
  have e : (fun i : Nat => (L[i]?).map f) = fun i => (L.map f)[i]? := funext fun i => by rw [List.getElem?_map]
  rw [e]
  have := fm_map (es := L.map f) (rs := L.map f) rfl
  rwa [List.length_map] at this
theorem sq2_at {xs : List PyData} {i : Nat} {e : PyData} (h : xs.map sqI = L.map some) (he : xs[i]? = some e) : ∃ l, L[i]? = some l ∧ sqI e = some l := by
  have : (xs.map sqI)[i]? = (L.map some)[i]? := by rw [h]
  rw [List.getElem?_map, List.getElem?_map, he] at this
  cases hl : L[i]? with
  | none => rw [hl] at this; cases this
  | some l => rw [hl] at this; exact ⟨l, rfl, by simpa using this⟩
theorem sq2_len {xs : List PyData} (h : xs.map sqI = L.map some) : xs.length = L.length := by
  have := congrArg List.length h
  simpa using this
end
def fTof (ds : List PyData) (d : PyData) : Prop := ∃ r L, ds = [r] ∧ Sq2 r L ∧ d = ltD L
theorem DqN.consE {S : List Addr} {H : Hp} {n : Str} {d : PyData} {fs : List (Str × V)} {ds : List (Str × PyData)} (h : DqN S H fs ((n, d) :: ds)) : ∃ v gs, fs = (n, v) :: gs ∧ Dq S H v d ∧ DqN S H gs ds := by
  cases h with
  | cons h r => exact ⟨_, _, rfl, h, r⟩
theorem DqN.nilE {S : List Addr} {H : Hp} {fs : List (Str × V)} (h : DqN S H fs []) : fs = [] := by cases h; rfl
theorem lstOf_de {K : PySem.W.Frag} {S : List Addr} {H : Hp} {v : V} {e : PyData} {l : List PyData} {Q : VK} (al : Al S H) (h : De K S H v e) (hl : sqI e = some l) (q : ∀ p H', Same H H' → Dq S H' (.ref p) (.list l) → Q (.ref p) H') : rLstOf K [v] H Q := by
  obtain ⟨a, zs, h | h⟩ := h.seq hl
  · obtain ⟨rfl, hA, hs⟩ := h
    exact ⟨a, zs, rfl, .inl (hs _ Fr.refl), fun p hp => q p _ (Fl.Same.new hp) (Dq.newL al hp hA)⟩
  · obtain ⟨a, zs, rfl, hA, hs⟩ := h
    exact ⟨a, zs, rfl, .inr (hs _ Fr.refl), fun p hp => q p _ (Fl.Same.new hp) (Dq.newL al hp hA)⟩
theorem lstOf_app {K : PySem.W.Frag} {S : List Addr} {H : Hp} {v : V} {e : PyData} {l : List PyData} {Q : VK} (al : Al S H) (h : Dq S H v e) (hl : sqI e = some l) (q : ∀ p H', Same H H' → Dq S H' (.ref p) (.list l) → Q (.ref p) H') : rLstOf K [v] H Q := lstOf_de al (.inl h) hl q
theorem g_make {C : Addr} {n m : Nat} {sp : Sp} {gV : List V → List V → List V} {E : XK} {t tk : TA} {σ : L2.St} {H : Hp} {Q : VK}
    (h : t σ H fun vs H1 => tk σ H1 fun zs H2 => vs.length = n ∧ zs.length = m ∧ ∀ x dx, H2 x = none → H2 dx = none → dx ≠ x → sp (gV (.ref x :: vs) zs) (upd (upd H2 dx (.own x)) x (.ins C dx [])) (fun v H3 => v = .non ∧ Q (.ref x) H3) E) : tMakeK C n m sp gV E t tk σ H Q := h
theorem g_mk {A B C : Prop} (h1 : A) (h2 : B) (h3 : C) : A ∧ B ∧ C := ⟨h1, h2, h3⟩
/-! ### the parts of a font -/
structure GlR where
  adv : PyData
  outl : List (List (List PyData))
  parts : List (List PyData)
  anch : List (List PyData)
  mark : PyData
  deltas : List (List PyData)
  hint : List (List PyData)
structure RuR where
  inside : List (List PyData)
  back : List (List PyData)
  ahead : List (List PyData)
  out : List PyData
  calls : List (List PyData)
  extra : PyData
structure LkR where
  kind : PyData
  rules : List RuR
  ign : PyData
def GlR.F (g : GlR) : List (Str × PyData) := [("advance", g.adv), ("outline", ouD3 g.outl), ("parts", ltD g.parts), ("anchors", ltD g.anch), ("mark", g.mark), ("deltas", ltD g.deltas), ("hint", ltD g.hint)]
def RuR.F (r : RuR) : List (Str × PyData) := [("inside", llD r.inside), ("back", llD r.back), ("ahead", llD r.ahead), ("out", .list r.out), ("calls", ltD r.calls), ("extra", r.extra)]
def LkR.F (C : Addr) (k : LkR) : List (Str × PyData) := [("kind", k.kind), ("rules", .list (k.rules.map fun r => insD C r.F)), ("ignore", k.ign)]
structure GlR.ok (g : GlR) : Prop where
  a : g.adv ≠ .tuple []
  m : g.mark ≠ .tuple []
  o : g.outl.length < 1000
  c : ∀ c, c ∈ g.outl → c.length < 1000
  p : g.parts.length < 1000
  n : g.anch.length < 1000
  d : g.deltas.length < 1000
  h : g.hint.length < 1000
structure RuR.ok (x : RuR) : Prop where
  i : x.inside.length < 1000
  b : x.back.length < 1000
  a : x.ahead.length < 1000
  o : x.out.length < 1000
  c : x.calls.length < 1000
  e : x.extra ≠ .tuple []
structure LkR.ok (x : LkR) : Prop where
  k : x.kind ≠ .tuple []
  r : x.rules.length < 1000
  ro : ∀ r, r ∈ x.rules → RuR.ok r
  g : x.ign ≠ .tuple []
/-- what Glyph is called with -/
def fGl (ds : List PyData) (fs : List (Str × PyData)) : Prop := ∃ (o p n d h : PyData) (g : GlR), ds = [g.adv, o, p, n, g.mark, d, h] ∧ g.ok ∧ Sq3 o g.outl ∧ Sq2 p g.parts ∧ Sq2 n g.anch ∧ Sq2 d g.deltas ∧ Sq2 h g.hint ∧ fs = g.F
def fRu (ds : List PyData) (fs : List (Str × PyData)) : Prop := ∃ (i b a o c : PyData) (r : RuR), ds = [i, b, a, o, c, r.extra] ∧ r.ok ∧ Sq2 i r.inside ∧ Sq2 b r.back ∧ Sq2 a r.ahead ∧ Sq1 o r.out ∧ Sq2 c r.calls ∧ fs = r.F
def fLk (CR : Addr) (ds : List PyData) (fs : List (Str × PyData)) : Prop := ∃ (k : LkR) (rs : PyData), ds = [k.kind, rs, k.ign] ∧ k.ok ∧ sqI rs = some (k.rules.map fun r => insD CR r.F) ∧ fs = k.F CR
def fCg (CG : Addr) (ds : List PyData) (d : PyData) : Prop := ∃ g : GlR, g.ok ∧ ds = [insD CG g.F] ∧ d = insD CG g.F
def fCr (CR : Addr) (ds : List PyData) (d : PyData) : Prop := ∃ r : RuR, r.ok ∧ ds = [insD CR r.F] ∧ d = insD CR r.F
def fCl (CR CL : Addr) (ds : List PyData) (d : PyData) : Prop := ∃ k : LkR, k.ok ∧ ds = [insD CL (k.F CR)] ∧ d = insD CL (k.F CR)
/-- lcs_done: a walk over items of one kind, each copied -/
theorem at_map {α : Type} {L : List α} {f : α → PyData} {i : Nat} {e : PyData} (h : (L.map f)[i]? = some e) : ∃ x, L[i]? = some x ∧ e = f x := by
  rw [List.getElem?_map] at h
  cases hl : L[i]? with
  | none => rw [hl] at h; cases h
  | some x => rw [hl] at h; exact ⟨x, rfl, by simpa using h.symm⟩
/-! ### whole fonts -/
structure FoR where
  unit : PyData
  glyphs : List GlR
  chars : List (List PyData)
  lookups : List LkR
  features : List (PyData × List PyData)
  axes : List (List PyData)
  regions : List (List (List PyData))
  functions : List (List (List PyData))
  presets : List PyData
structure Cs where
  G : Addr
  R : Addr
  L : Addr
  F : Addr
def glD (c : Cs) (g : GlR) : PyData := insD c.G g.F
def lkD (c : Cs) (k : LkR) : PyData := insD c.L (k.F c.R)
def feD (f : PyData × List PyData) : PyData := .tuple [f.1, .list f.2]
def FoR.F (c : Cs) (f : FoR) : List (Str × PyData) := [("unit", f.unit), ("glyphs", .list (f.glyphs.map (glD c))), ("chars", ltD f.chars), ("lookups", .list (f.lookups.map (lkD c))), ("features", .list (f.features.map feD)), ("axes", ltD f.axes), ("regions", ouD3 f.regions), ("functions", ouD3 f.functions), ("presets", .list f.presets)]
def foD (c : Cs) (f : FoR) : PyData := insD c.F (f.F c)
structure FoR.ok (x : FoR) : Prop where
  u : x.unit ≠ .tuple []
  g : x.glyphs.length < 1000
  go : ∀ g, g ∈ x.glyphs → GlR.ok g
  c : x.chars.length < 1000
  l : x.lookups.length < 1000
  lo : ∀ k, k ∈ x.lookups → LkR.ok k
  f : x.features.length < 1000
  a : x.axes.length < 1000
  r : x.regions.length < 1000
  n : x.functions.length < 1000
  p : x.presets.length < 1000
/-- the pairs of features as they are handed in: a pair of a name and a list or tuple -/
def SqF (d : PyData) (L : List (PyData × List PyData)) : Prop := ∃ xs, sqI d = some xs ∧ xs.length = L.length ∧ (∀ (i : Nat) x (l : PyData × List PyData), xs[i]? = some x → L[i]? = some l → ∃ m, x = .tuple [l.1, m] ∧ Sq1 m l.2) ∧ L.length < 1000
theorem SqF.e : SqF (.tuple []) [] := ⟨[], rfl, rfl, fun i x l e1 _ => by simp at e1, by decide⟩
def fFf (c : Cs) (V : FoR → Prop) (ds : List PyData) (d : PyData) : Prop := ∃ f : FoR, V f ∧ ds = [foD c f] ∧ d = .none
def fFo (c : Cs) (V : FoR → Prop) (ds : List PyData) (fs : List (Str × PyData)) : Prop := ∃ (gs ch ls fe ax re fn pr : PyData) (f : FoR), ds = [f.unit, gs, ch, ls, fe, ax, re, fn, pr] ∧ f.ok ∧ V f ∧
  sqI gs = some (f.glyphs.map (glD c)) ∧ Sq2 ch f.chars ∧ sqI ls = some (f.lookups.map (lkD c)) ∧ SqF fe f.features ∧ Sq2 ax f.axes ∧ Sq3 re f.regions ∧ Sq3 fn f.functions ∧ Sq1 pr f.presets ∧ fs = f.F c
theorem InitAt.fin {S : List Addr} {x C dx : Addr} {H0 H : Hp} {gs : List (Str × V)} {fs : List (Str × PyData)} (I : InitAt S x C dx H0 H gs fs) : Al (S.filter fun a => a ≠ x) H ∧ Dq (S.filter fun a => a ≠ x) H (.ref x) (insD C fs) := by
  refine ⟨fun a m => I.al a ((List.mem_filter.mp m).1), Dq.insI (by simp) I.hx (I.dq.mono fun a m => (List.mem_filter.mp m).1)⟩
end Fl

set_option Elab.async false
set_option linter.all false
set_option maxRecDepth 100000
set_option maxHeartbeats 4000000
set_option exponentiation.threshold 20000
/-! readings for the checks of a font; fonts in numbers -/
namespace Fl
open PySem PySem.Spec PyProof.Rows L2
section
variable {X : Cx} {K : PySem.W.Frag} {σ : L2.St} {H : Hp} {Q : VK}
theorem peOrT {a b : Expr} {ta tb : TE} {rest : List Expr} {pos : Pos} (e : X.K = K) (h1 : PE X a ta) (h2 : PE X (.BoolOp .Or (b :: rest) pos) tb) : PE X (.BoolOp .Or (a :: b :: rest) pos) (tOrT K ta tb) := by subst e; exact pe_orT h1 h2
theorem g_orT {ta tb : TE} (h : ta σ H fun x H1 => ∃ k, TruV K x H1 k ∧ if k = true then Q x H1 else tb σ H1 Q) : tOrT K ta tb σ H Q := h
theorem g_truN {Z : Bool → Prop} (q : Z false) : ∃ k, TruV K .non H k ∧ Z k := ⟨false, rfl, q⟩
theorem g_chain {r r' : R2} {ta tb tc : TE} (h : ta σ H fun x H1 => tb σ H1 fun y H2 => r x y H2 fun z H3 => ∃ k, z = .bl k ∧ (if k = true then tc σ H3 fun w' H4 => r' y w' H4 Q else Q (.bl false) H3)) : tChain r r' ta tb tc σ H Q := h
theorem g_yesB {p : Prop} [Decidable p] {A B : Prop} (h : p) (q : A) : if decide p = true then A else B := by rw [if_pos (by simpa using h)]; exact q
theorem g_noB {p : Prop} [Decidable p] {A B : Prop} (h : ¬ p) (q : B) : if decide p = true then A else B := by rw [if_neg (by simpa using h)]; exact q
theorem g_nB {p : Prop} [Decidable p] {A B : Prop} (h : p) (q : B) : if (!decide p) = true then A else B := by rw [decide_eq_true h]; simpa using q
theorem g_inT {neg : Bool} {a : Addr} {xs : List V} {x : V} {b : Bool} (h : SqT K H a xs) (f1 : flatV x = true) (f2 : xs.all flatV = true) (e : (if neg = true then !inV x xs else inV x xs) = b) (q : Q (.bl b) H) : rIn K neg x (.ref a) H Q := ⟨a, xs, rfl, .inr h, f1, f2, by rw [e]; exact q⟩
theorem g_tru0n {a : Addr} {xs : List V} {Z : Bool → Prop} (h : SqL K H a xs) (e : xs.length = 0) (q : Z false) : ∃ k, TruV K (.ref a) H k ∧ Z k := by
  cases xs with
  | nil => exact ⟨_, .inl ⟨_, h, rfl⟩, q⟩
  | cons _ _ => cases e
theorem g_asg2 {te : TE} {g : TG} {D : Ends} (h : te σ H fun x H1 => g x σ H1 D.nx) : tAsg te g D σ H := h
theorem g_kd {w : World} {p : Addr} {z : Str} {v : V} (h : KDct K w p z v) (q : Q v H) : rIxD K w (.ref p) (.str z) H Q := ⟨p, z, v, rfl, rfl, h, q⟩
theorem g_neS {x y : Str} (q : Q (.bl (!decide (x = y))) H) : rNe (.str x) (.str y) H Q := ⟨rfl, by
  have e : decide (V.str x = V.str y) = decide (x = y) := by simp
  rw [e]
  exact q⟩
theorem g_nkd {d : Addr} {z : Str} {Z : VK} {u0 : Value} (h : PySem.W.nsIn K d z = some (some u0)) (q : Z (V.bl false) H) : ∃ z' r, V.str z = V.str z' ∧ V.ref d = V.ref d ∧ PySem.W.nsIn K d z' = some r ∧ Z (V.bl (!r.isSome)) H := ⟨z, _, rfl, rfl, h, q⟩
theorem g_noNB {p : Prop} [Decidable p] {A B : Prop} (h : ¬ p) (q : A) : if (!decide p) = true then A else B := by rw [decide_eq_false h]; simpa using q
theorem piEnum {e : Expr} {ta : TA} {p pos tpos : Pos} {elts : List Expr} {kk : Nat} (eK : X.K = K) (h1 : Gl X "enumerate") (h2 : X.mg "enumerate" = none) (h3 : PA X [e] ta) (h4 : starEach [e] X.env = [(false, eval e X.env)] := by rfl) :
    PI X (.Tuple elts kk tpos) (.Call (.Name "enumerate" p) [e] [] pos) (iEnum K ta) := by subst eK; exact pi_enum h1 h2 h3 h4
theorem g_enum {ta : TE} {R : It → Hp → Prop} (h : ta σ H fun x H1 => ∃ a xs, [x] = [V.ref a] ∧ SqL K H1 a xs ∧ R (Ite K a) H1) : iEnum K (tCons ta tNil) σ H R := h
theorem g_enE {a : Addr} {xs : List V} {Z : Addr → Prop} (h : SqL K H a xs) (q : Z a) : ∃ c zs, [V.ref a] = [V.ref c] ∧ SqL K H c zs ∧ Z c := ⟨a, xs, rfl, h, q⟩
theorem forK_e {a : Addr} {xs : List V} {g : TG} {tb : TS} {D : Ends} (Pv : Nat → L2.St → Hp → Prop) (h0 : Pv 0 σ H) (hl : ∀ i σ H, i ≤ xs.length → Pv i σ H → SqL K H a xs)
    (hs : ∀ (i : Nat) (x : V) (T : Addr) (σ : L2.St) (H : Hp), xs[i]? = some x → Pv i σ H → H T = none → g (.ref T) σ (upd H T (.tup [.int (i : Int), x])) fun σ2 H2 => tb { D with nx := Pv (i + 1), ct := Pv (i + 1), bk := D.nx } σ2 H2) (hd : ∀ σ H, Pv xs.length σ H → D.nx σ H) : forK (Ite K a) g tb D σ H := by
  refine ⟨fun i m σ H => m = xs.length - i ∧ i ≤ xs.length ∧ Pv i σ H, ⟨xs.length, rfl, Nat.zero_le _, h0⟩, fun i m σ H h => ?_⟩
  obtain ⟨rfl, hi, p⟩ := h
  have q := hl i σ H hi p
  by_cases hlt : i < xs.length
  · refine .inr ⟨⟨xs, xs[i], q, by simp [hlt]⟩, Pv (i + 1), fun σ' H' p' => ⟨xs.length - (i + 1), by omega, rfl, hlt, p'⟩, fun x H' y => ?_⟩
    obtain ⟨T, z, rfl, hT, rfl, y⟩ := y
    exact hs i z T σ H (y xs q) p hT
  · have e : i = xs.length := by omega
    subst e
    exact .inl ⟨⟨xs, q, Nat.le_refl _⟩, hd σ H p⟩
theorem clAll (e : X.K = K) (hc : X.calm = true) : CallR X (.builtin "all") (rAll K) := by subst e; exact cr_all hc
theorem g_allL {a : Addr} {bs : List Bool} (h : SqL K H a (bs.map V.bl)) (q : Q (.bl (bs.all id)) H) : rAll K [.ref a] H Q := ⟨a, bs, rfl, h, q⟩
def rKd (d : Addr) (K : PySem.W.Frag) (neg : Bool) : R2 := fun x y H Q => ∃ z r, x = V.str z ∧ y = V.ref d ∧ PySem.W.nsIn K d z = some r ∧ Q (V.bl (if neg then !r.isSome else r.isSome)) H
end
/-! ### objects taken apart -/
section
variable {S : List Addr} {H : Hp} {v : V} {c : Cs}
theorem glE {g : GlR} (h : Dq S H v (glD c g)) : ∃ a dx v1 v2 v3 v4 v5 v6 v7, v = .ref a ∧ a ∉ S ∧ H a = some (.ins c.G dx [("advance", v1), ("outline", v2), ("parts", v3), ("anchors", v4), ("mark", v5), ("deltas", v6), ("hint", v7)]) ∧
    Dq S H v1 g.adv ∧ Dq S H v2 (ouD3 g.outl) ∧ Dq S H v3 (ltD g.parts) ∧ Dq S H v4 (ltD g.anch) ∧ Dq S H v5 g.mark ∧ Dq S H v6 (ltD g.deltas) ∧ Dq S H v7 (ltD g.hint) := by
  obtain ⟨a, dx, fs, rfl, ha, hA, hN⟩ := h.insE
  obtain ⟨v1, fs, rfl, h1, hN⟩ := hN.consE
  obtain ⟨v2, fs, rfl, h2, hN⟩ := hN.consE
  obtain ⟨v3, fs, rfl, h3, hN⟩ := hN.consE
  obtain ⟨v4, fs, rfl, h4, hN⟩ := hN.consE
  obtain ⟨v5, fs, rfl, h5, hN⟩ := hN.consE
  obtain ⟨v6, fs, rfl, h6, hN⟩ := hN.consE
  obtain ⟨v7, fs, rfl, h7, hN⟩ := hN.consE
  cases hN.nilE
  exact ⟨a, dx, v1, v2, v3, v4, v5, v6, v7, rfl, ha, hA, h1, h2, h3, h4, h5, h6, h7⟩
theorem ruE {C : Addr} {r : RuR} (h : Dq S H v (insD C r.F)) : ∃ a dx v1 v2 v3 v4 v5 v6, v = .ref a ∧ a ∉ S ∧ H a = some (.ins C dx [("inside", v1), ("back", v2), ("ahead", v3), ("out", v4), ("calls", v5), ("extra", v6)]) ∧
    Dq S H v1 (llD r.inside) ∧ Dq S H v2 (llD r.back) ∧ Dq S H v3 (llD r.ahead) ∧ Dq S H v4 (.list r.out) ∧ Dq S H v5 (ltD r.calls) ∧ Dq S H v6 r.extra := by
  obtain ⟨a, dx, fs, rfl, ha, hA, hN⟩ := h.insE
  obtain ⟨v1, fs, rfl, h1, hN⟩ := hN.consE
  obtain ⟨v2, fs, rfl, h2, hN⟩ := hN.consE
  obtain ⟨v3, fs, rfl, h3, hN⟩ := hN.consE
  obtain ⟨v4, fs, rfl, h4, hN⟩ := hN.consE
  obtain ⟨v5, fs, rfl, h5, hN⟩ := hN.consE
  obtain ⟨v6, fs, rfl, h6, hN⟩ := hN.consE
  cases hN.nilE
  exact ⟨a, dx, v1, v2, v3, v4, v5, v6, rfl, ha, hA, h1, h2, h3, h4, h5, h6⟩
theorem lkE {k : LkR} (h : Dq S H v (lkD c k)) : ∃ a dx v1 v2 v3, v = .ref a ∧ a ∉ S ∧ H a = some (.ins c.L dx [("kind", v1), ("rules", v2), ("ignore", v3)]) ∧
    Dq S H v1 k.kind ∧ Dq S H v2 (.list (k.rules.map fun r => insD c.R r.F)) ∧ Dq S H v3 k.ign := by
  obtain ⟨a, dx, fs, rfl, ha, hA, hN⟩ := h.insE
  obtain ⟨v1, fs, rfl, h1, hN⟩ := hN.consE
  obtain ⟨v2, fs, rfl, h2, hN⟩ := hN.consE
  obtain ⟨v3, fs, rfl, h3, hN⟩ := hN.consE
  cases hN.nilE
  exact ⟨a, dx, v1, v2, v3, rfl, ha, hA, h1, h2, h3⟩
theorem foE {f : FoR} (h : Dq S H v (foD c f)) : ∃ a dx v1 v2 v3 v4 v5 v6 v7 v8 v9, v = .ref a ∧ a ∉ S ∧ H a = some (.ins c.F dx [("unit", v1), ("glyphs", v2), ("chars", v3), ("lookups", v4), ("features", v5), ("axes", v6), ("regions", v7), ("functions", v8), ("presets", v9)]) ∧
    Dq S H v1 f.unit ∧ Dq S H v2 (.list (f.glyphs.map (glD c))) ∧ Dq S H v3 (ltD f.chars) ∧ Dq S H v4 (.list (f.lookups.map (lkD c))) ∧ Dq S H v5 (.list (f.features.map feD)) ∧ Dq S H v6 (ltD f.axes) ∧ Dq S H v7 (ouD3 f.regions) ∧ Dq S H v8 (ouD3 f.functions) ∧ Dq S H v9 (.list f.presets) := by
  obtain ⟨a, dx, fs, rfl, ha, hA, hN⟩ := h.insE
  obtain ⟨v1, fs, rfl, h1, hN⟩ := hN.consE
  obtain ⟨v2, fs, rfl, h2, hN⟩ := hN.consE
  obtain ⟨v3, fs, rfl, h3, hN⟩ := hN.consE
  obtain ⟨v4, fs, rfl, h4, hN⟩ := hN.consE
  obtain ⟨v5, fs, rfl, h5, hN⟩ := hN.consE
  obtain ⟨v6, fs, rfl, h6, hN⟩ := hN.consE
  obtain ⟨v7, fs, rfl, h7, hN⟩ := hN.consE
  obtain ⟨v8, fs, rfl, h8, hN⟩ := hN.consE
  obtain ⟨v9, fs, rfl, h9, hN⟩ := hN.consE
  cases hN.nilE
  exact ⟨a, dx, v1, v2, v3, v4, v5, v6, v7, v8, v9, rfl, ha, hA, h1, h2, h3, h4, h5, h6, h7, h8, h9⟩
/-- a list whose length alone matters -/
theorem lstN {f : α → PyData} {L : List α} (h : Dq S H v (.list (L.map f))) : ∃ a xs, v = .ref a ∧ H a = some (.lst xs) ∧ xs.length = L.length ∧ DqA S H xs (L.map f) := by
  obtain ⟨a, xs, rfl, _, q, r⟩ := h.lstE
  exact ⟨a, xs, rfl, q, by rw [r.len, List.length_map], r⟩
end
/-! ### rules and lookups in numbers -/
def iD (l : List Int) : List PyData := l.map .int
structure RuV where
  inside : List (List Int)
  back : List (List Int)
  ahead : List (List Int)
  out : List Int
  calls : List (Int × Int)
structure LkV where
  kind : Str
  rules : List RuV
  ign : Bool
structure GlV where
  adv : Int
  mark : Bool
def RuV.R (r : RuV) : RuR := ⟨r.inside.map iD, r.back.map iD, r.ahead.map iD, iD r.out, r.calls.map fun p => [.int p.1, .int p.2], .int 0⟩
def LkV.R (k : LkV) : LkR := ⟨.str k.kind, k.rules.map RuV.R, .bool k.ign⟩
def GlV.R (g : GlV) : GlR := ⟨.int g.adv, [], [], [], .bool g.mark, [], []⟩
structure FoV where
  glyphs : List GlV
  lks : List LkV
def FoV.R (f : FoV) : FoR := ⟨.int 100, f.glyphs.map GlV.R, [], f.lks.map LkV.R, [], [], [], [], []⟩
/-- the number before the i-th -/
def prv (l : List Int) : Nat → Int
  | 0 => -1
  | i + 1 => (l[i]?).getD (-1)
/-- a set of glyphs of a font of n glyphs -/
structure IsSet (n : Nat) (l : List Int) : Prop where
  ne : l ≠ []
  up : ∀ (i : Nat) g, l[i]? = some g → prv l i < g ∧ g < n
theorem IsSet.len {n : Nat} {l : List Int} (h : IsSet n l) : l.length ≤ n := by
  have : ∀ i, i ≤ l.length → (i : Int) - 1 ≤ prv l i := by
    intro i
    induction i with
    | zero => intro _; simp [prv]
    | succ i ih =>
      intro hi
      have h1 := (h.up i _ (List.getElem?_eq_getElem (by omega))).1
      have h2 := ih (by omega)
      have e : prv l (i + 1) = l[i]'(by omega) := by simp [prv, List.getElem?_eq_getElem (show i < l.length by omega)]
      omega
  have h1 := this l.length (Nat.le_refl _)
  cases hl : l.length with
  | zero => omega
  | succ m =>
    rw [hl] at h1
    have h2 := (h.up m _ (List.getElem?_eq_getElem (by omega))).2
    have e : prv l (m + 1) = l[m]'(by omega) := by simp [prv, List.getElem?_eq_getElem (show m < l.length by omega)]
    omega
/-- a font of such parts, as the laws make it -/
def kindsR : List Str := ["single", "multiple", "ligature", "chain", "reverse"]
structure RuV.Ok (n : Nat) (ks : List Str) (kind : Str) (r : RuV) : Prop where
  i : (kind = "single" ∨ kind = "multiple" ∨ kind = "reverse") → r.inside.length = 1
  i2 : kind = "ligature" → 2 ≤ r.inside.length
  i3 : 1 ≤ r.inside.length ∧ r.inside.length ≤ 4
  b : r.back.length ≤ 3
  a : r.ahead.length ≤ 3
  ba : ¬ (kind = "chain" ∨ kind = "reverse") → r.back = [] ∧ r.ahead = []
  s : ∀ c, c ∈ r.inside ++ r.back ++ r.ahead → IsSet n c
  o : r.out.length ≤ 8
  og : ∀ g, g ∈ r.out → 0 ≤ g ∧ g < n
  oc : kind = "chain" → r.out = []
  os : (kind = "single" ∨ kind = "reverse") → ∀ l, r.inside[0]? = some l → r.out.length = l.length
  ol : kind = "ligature" → r.out.length = 1
  c : kind ≠ "chain" → r.calls = []
  cu : ∀ (i : Nat) p, r.calls[i]? = some p → prv (r.calls.map Prod.fst) i < p.1 ∧ p.1 < r.inside.length ∧ 0 ≤ p.2 ∧ ∃ k, ks[p.2.toNat]? = some k ∧ (k = "single" ∨ k = "multiple")
structure LkV.Ok (n : Nat) (ks : List Str) (x : LkV) : Prop where
  k : x.kind ∈ kindsR
  r : x.rules.length ≤ 12
  ro : ∀ r, r ∈ x.rules → RuV.Ok n ks x.kind r
structure FoV.Ok (f : FoV) : Prop where
  g : 1 ≤ f.glyphs.length ∧ f.glyphs.length ≤ 60
  ga : ∀ g, g ∈ f.glyphs → 0 ≤ g.adv ∧ g.adv ≤ 16384
  l : f.lks.length ≤ 20
  lo : ∀ k, k ∈ f.lks → k.Ok f.glyphs.length (f.lks.map LkV.kind)
theorem RuV.R_in (r : RuV) : llD (r.R.inside ++ r.R.back ++ r.R.ahead) = .list ((r.inside ++ r.back ++ r.ahead).map fun l => .list (iD l)) := by
  unfold llD RuV.R
  simp only [← List.map_append, List.map_map]
  rfl
theorem truesL {α : Type} {S : List Addr} {H : Hp} : ∀ {L : List α} {vs : List V}, DqA S H vs (L.map fun _ => PyData.bool true) → vs = (L.map fun _ => true).map V.bl
  | [], _, h => by cases h; rfl
  | _ :: L, _, .cons h r => by
    cases h.blE
    rw [truesL r]
    rfl
theorem all_trues {α : Type} : ∀ {L : List α}, (L.map fun _ => true).all id = true
  | [] => rfl
  | _ :: L => by simp
theorem allD {α : Type} {K : PySem.W.Frag} {S : List Addr} {H : Hp} {v : V} {L : List α} {Q : VK} (h : Dq S H v (.list (L.map fun _ => PyData.bool true))) (q : Q (.bl true) H) : rAll K [v] H Q := by
  obtain ⟨a, xs, rfl, _, hx, hA⟩ := h.lstE
  obtain rfl := truesL hA
  refine g_allL (SqL.of hx) ?_
  rw [all_trues]
  exact q
structure FoK (f : FoR) (ks : List Str) : Prop where
  g : f.glyphs.length < 1000
  l : f.lookups.length < 1000
  k : ∀ (i : Nat) k, ks[i]? = some k → ∃ lk, f.lookups[i]? = some lk ∧ lk.kind = .str k
theorem boolsL {α : Type} {p : α → Bool} {S : List Addr} {H : Hp} : ∀ {L : List α} {vs : List V}, DqA S H vs (L.map fun x => PyData.bool (p x)) → vs = (L.map p).map V.bl
  | [], _, h => by cases h; rfl
  | _ :: L, _, .cons h r => by
    cases h.blE
    rw [boolsL r]
    rfl
theorem lcNil {S : List Addr} {H1 : Hp} {K : PySem.W.Frag} {g : TG} {tt : TT} {te : TE} {vs : List Nat} {σ : L2.St} {Q : VK} {a : Addr} (hS : Al S H1) (ha : Dq S H1 (.ref a) (.list [])) (q : ∀ D H, Same H1 H → Dq S H (.ref D) (.list []) → Q (.ref D) H) : lcK (Itl K a) g tt te vs σ H1 Q :=
  lcL (S := S) (es := []) (fun _ => none) hS ha (by decide) (fun D i x e H hD he => by simp at he) (fun D H s hD h => q D H s h)
theorem allE {K : PySem.W.Frag} {S : List Addr} {H : Hp} {v : V} {Q : VK} (h : Dq S H v (.list [])) (q : Q (.bl true) H) : rAll K [v] H Q := allD (L := ([] : List Unit)) h q
theorem no_has {P : Program} {w : World} {K : PySem.W.Frag} {mg : Str → Option Value} {base : Heap} {x : Str} {st : Stmt} {N ps : List Str} (D : DefIn K mg x st) (S : FnScope N ps (defScope st))
    (hb : ∀ (kV doc pm : Value) (an : Option Addr) (cdv ct : Value) (us : List Value), us.length = ps.length → bindArgs (PySem.W.fnOf x x (defArgs st) (defBody st) (defScope st) .none kV doc pm an cdv ct) ⟨us, []⟩ = pure (ps.zip us)) : Has P w K mg base 1 x ps (fun _ _ _ _ => False) :=
  has_of D S hb (fun _ _ _ _ h => h.elim) (fun _ _ _ _ _ _ _ _ _ _ h => h.elim)
/-- the dict of depths of glyphs without parts -/
def kv0 (n : Nat) : List (Key × V) := (List.range n).map fun k : Nat => (.inl (k : Int), .int 0)
theorem kv0_succ (n : Nat) : kv0 (n + 1) = kv0 n ++ [(.inl (n : Int), .int 0)] := by
  unfold kv0
  rw [List.range_succ, List.map_append]
  rfl
theorem kv0_len (n : Nat) : (kv0 n).length = n := by unfold kv0; simp
theorem kv0_none {n i : Nat} (h : n ≤ i) : valV (kv0 n) (.inl (i : Int)) = none := by
  unfold valV kv0
  rw [Option.map_eq_none_iff, List.find?_eq_none]
  intro x hx
  obtain ⟨k, hk, rfl⟩ := List.mem_map.mp hx
  have := List.mem_range.mp hk
  simp
  omega
theorem kv0_some {n i : Nat} (h : i < n) : ∃ v, valV (kv0 n) (.inl (i : Int)) = some v := by
  cases e : valV (kv0 n) (.inl (i : Int)) with
  | some v => exact ⟨v, rfl⟩
  | none =>
    exfalso
    unfold valV kv0 at e
    rw [Option.map_eq_none_iff, List.find?_eq_none] at e
    have := e (.inl (i : Int), .int 0) (List.mem_map.mpr ⟨i, List.mem_range.mpr h, rfl⟩)
    simp at this
theorem g_tB {t : TE} {σ : L2.St} {H : Hp} {Q : Bool → Hp → Prop} (h : t σ H fun x H1 => ∃ c, x = .bl c ∧ Q c H1) : tB t σ H Q := h
theorem g_dn {ty td : TE} {σ : L2.St} {H : Hp} {Q : VK} (h : ty σ H fun y H1 => td σ H1 fun x H2 => ∃ a o, x = .ref a ∧ DGet H2 a y o ∧ Q (.bl (!o.isSome)) H2) : tDNotIn ty td σ H Q := h
theorem g_dp {ty td tv : TE} {D : Ends} {σ : L2.St} {H : Hp} (h : tv σ H fun v H1 => td σ H1 fun x H2 => ty σ H2 fun y H3 => ∃ a H4, x = V.ref a ∧ DPut H3 a y v H4 ∧ D.nx σ H4) : sDPut td ty tv D σ H := h
theorem fm_some {n : Nat} : (List.range n).filterMap (fun j : Nat => some (PyData.int (j : Int))) = (List.range n).map fun j : Nat => PyData.int (j : Int) := by
  rw [← List.filterMap_eq_map]
  rfl
theorem fm_none {n : Nat} : (List.range n).filterMap (fun _ : Nat => (none : Option PyData)) = [] := by
  rw [List.filterMap_eq_nil_iff]
  intros
  rfl
theorem fnok_weak {P : Program} {w : World} {K : PySem.W.Frag} {mg : Str → Option Value} {base : Heap} {k : Nat} {f : Addr} {fd : FuncData} {ps : List Str} {sp sp' : Sp} (a : FnOk P w K mg base L2.CX0 k f fd ps sp) (h : ∀ vs H Q E, sp' vs H Q E → sp vs H Q E) : FnOk P w K mg base L2.CX0 k f fd ps sp' :=
  ⟨fun vs H Q E z => a.len vs H Q E (h _ _ _ _ z), fun A outer s H args us vs Q E r e b v z => a.run A outer s H args us vs Q E r e b v (h _ _ _ _ z)⟩
/-- a rule, a lookup as the laws hold them -/
def ruT (r : RuV) : PyData := .tuple [llD (r.inside.map iD), llD (r.back.map iD), llD (r.ahead.map iD), .list (iD r.out), ltD (r.calls.map fun p => [.int p.1, .int p.2])]
def lkT (k : LkV) : PyData := .tuple [.str k.kind, .list (k.rules.map ruT), .bool k.ign]
theorem RuV.Rok {n : Nat} {ks : List Str} {kind : Str} {r : RuV} (h : r.Ok n ks kind) (hn : n < 900) : r.R.ok := by
  have hc : r.calls.length < 1000 := by
    have h3 := h.i3.2
    have : ∀ i, i ≤ r.calls.length → (i : Int) - 1 ≤ prv (r.calls.map Prod.fst) i := by
      intro i
      induction i with
      | zero => intro _; simp [prv]
      | succ i ih =>
        intro hi
        have h1 := (h.cu i _ (List.getElem?_eq_getElem (by omega))).1
        have h2 := ih (by omega)
        have e : prv (r.calls.map Prod.fst) (i + 1) = (r.calls[i]'(by omega)).1 := by simp [prv, List.getElem?_eq_getElem (show i < r.calls.length by omega)]
        omega
    have h1 := this r.calls.length (Nat.le_refl _)
    cases hl : r.calls.length with
    | zero => omega
    | succ m =>
      rw [hl] at h1
      have h2 := (h.cu m _ (List.getElem?_eq_getElem (by omega))).2.1
      have e : prv (r.calls.map Prod.fst) (m + 1) = (r.calls[m]'(by omega)).1 := by simp [prv, List.getElem?_eq_getElem (show m < r.calls.length by omega)]
      omega
  have h3 := h.i3
  have hb := h.b
  have ha := h.a
  have ho := h.o
  refine ⟨?_, ?_, ?_, ?_, ?_, by show PyData.int 0 ≠ _; intro e; cases e⟩
  · show (r.inside.map iD).length < 1000; rw [List.length_map]; omega
  · show (r.back.map iD).length < 1000; rw [List.length_map]; omega
  · show (r.ahead.map iD).length < 1000; rw [List.length_map]; omega
  · show (r.out.map PyData.int).length < 1000; rw [List.length_map]; omega
  · show (r.calls.map _).length < 1000; rw [List.length_map]; omega
theorem LkV.Rok {n : Nat} {ks : List Str} {k : LkV} (h : k.Ok n ks) (hn : n < 900) : k.R.ok := by
  have := h.r
  refine ⟨(by intro e; cases e), ?_, fun r m => ?_, (by intro e; cases e)⟩
  · show (k.rules.map RuV.R).length < 1000; rw [List.length_map]; omega
  · obtain ⟨r', m', rfl⟩ := List.mem_map.mp m
    exact RuV.Rok (h.ro r' m') hn
theorem GlV.Rok {g : GlV} : g.R.ok := ⟨(by intro e; cases e), (by intro e; cases e), (show (0 : Nat) < 1000 by decide), (fun c m => nomatch m), (show (0 : Nat) < 1000 by decide), (show (0 : Nat) < 1000 by decide), (show (0 : Nat) < 1000 by decide), (show (0 : Nat) < 1000 by decide)⟩
theorem FoV.Rok {f : FoV} (h : f.Ok) : f.R.ok := by
  have hg := h.g
  have hl := h.l
  refine ⟨(by intro e; cases e), ?_, fun g m => ?_, (show (0 : Nat) < 1000 by decide), ?_, fun k m => ?_, (show (0 : Nat) < 1000 by decide), (show (0 : Nat) < 1000 by decide), (show (0 : Nat) < 1000 by decide), (show (0 : Nat) < 1000 by decide), (show (0 : Nat) < 1000 by decide)⟩
  · show (f.glyphs.map GlV.R).length < 1000; rw [List.length_map]; omega
  · obtain ⟨g', m', rfl⟩ := List.mem_map.mp m
    exact GlV.Rok
  · show (f.lks.map LkV.R).length < 1000; rw [List.length_map]; omega
  · obtain ⟨k', m', rfl⟩ := List.mem_map.mp m
    exact LkV.Rok (h.lo k' m') (by omega)
/-- the table of kinds -/
structure InsK (K : PySem.W.Frag) (w : World) (mg : Str → Option Value) : Prop where
  g : mg "INSIDE" = some (.ref (adr mg "INSIDE"))
  d : ∃ es n, KDict K w (adr mg "INSIDE") es n
  k : ∀ kind, kind ∈ kindsR → ∃ t lo hi, PySem.W.nsIn K (adr mg "INSIDE") kind = some (some (.ref t)) ∧ (∀ H : Hp, SqT K H t [.int lo, .int hi]) ∧ (kind, lo, hi) ∈ ([("single", 1, 1), ("multiple", 1, 1), ("ligature", 2, 4), ("chain", 1, 4), ("reverse", 1, 1)] : List (Str × Int × Int))
end Fl

set_option Elab.async false
set_option linter.all false
set_option maxRecDepth 100000
set_option maxHeartbeats 4000000
set_option exponentiation.threshold 20000
/-! own errors with one field, a text -/
namespace Fl
open PySem PySem.Spec PyProof.Rows L2
/-- an own error class, made with a text that it keeps as f -/
structure Cls1 (K : PySem.W.Frag) (mg : Str → Option Value) (x qual : Str) (st : Stmt) (f : Str) : Prop where
  g : mg x = some (.ref (adr mg x))
  o : OexC K (adr mg x)
  n : PySem.W.findIn K (.ref (adr mg x)) f = some none
  i : ∃ (fI : Addr) (fd : FuncData), PySem.W.findIn K (.ref (adr mg x)) "__init__" = some (some (.ref fI)) ∧ PySem.W.typeIn K (.ref fI) = some (.type "function") ∧ Fun K "__init__" qual st fI fd
def spIni1 (C : Addr) (f : Str) : Sp := fun vs H Q _ => ∃ (a : Addr) (s : Str), vs = [.ref a, .str s] ∧ s.length ≤ 1000 ∧ H a = some (exo a C none) ∧ ∀ dx, H dx = none → dx ≠ a → Q .non (upd (upd H dx (exd dx [(f, .str s)])) a (exo a C (some dx)))
structure MkX1 (P : Program) (w : World) (K : PySem.W.Frag) (mg : Str → Option Value) (base : Heap) (k : Nat) (x f : Str) (ps : List Str) : Prop where
  g : mg x = some (.ref (adr mg x))
  o : OexC K (adr mg x)
  i : ∃ (fI : Addr) (fd : FuncData), PySem.W.findIn K (.ref (adr mg x)) "__init__" = some (some (.ref fI)) ∧ PySem.W.typeIn K (.ref fI) = some (.type "function") ∧ FnOk P w K mg base L2.CX0 k fI fd ps (spIni1 (adr mg x) f) ∧ L2.Binds K fd ps []
def tRaise1 (W : WX) (C : Addr) (f : Str) (ta : TA) : TS := fun _ σ H => tMkO C (spIni1 C f) [] ta σ H fun cls d H' => W cls d σ H'
theorem ps_raise1 {X : Cx} {W : WX} {k : Nat} {x f : Str} {ps : List Str} {e : Expr} {ta : TA} {p pos pos2 : Pos} (M : MkX1 X.prog X.w X.K X.mg X.base k x f ps) (hc : X.calm = true) (hr : Room (k + 1) X.A) (tk : Takes X W) (ha : PA X [e] ta) (hg : Gl X x := by rfl) (hdb : (x == ("__debug__" : Str)) = false := by decide)
    (he : starEach [e] X.env = (false, eval e X.env) :: starEach [] X.env := by rfl) (hpl : (backTo pos (starEach [] X.env)).any (·.1) = false := by rfl) :
    PS X (.Raise (some (.Call (.Name x p) [e] [] pos)) none pos2) (tRaise1 W (adr X.mg x) f ta) := by
  obtain ⟨fI, fd, iC, tI, F, b⟩ := M.i
  exact ⟨fun pins s σ H D I h => (ps_raise hc tk (pmk_oex (CX := L2.CX0) M.o iC tI F hr b .nil (fun _ _ _ _ _ _ _ z => z.elim) hg M.g ha hdb he hpl)).run pins s σ H D I h⟩
theorem g_raise1 {W : WX} {C : Addr} {f s : Str} {D : Ends} {σ : L2.St} {H : Hp} (hs : s.length ≤ 1000) (h : ∀ dx, H dx = none → W (.ref C) (some dx) σ (upd H dx (.xd [(f, .str s)]))) : tRaise1 W C f (tCons (tC (.str s)) tNil) D σ H := by
  refine ⟨by simp, fun a ha => ⟨a, s, rfl, hs, upd_same, fun dx hd hne => ⟨rfl, dx, [(f, .str s)], upd_same, by rw [upd_ne hne, upd_same], by rw [upd_ne hne] at hd; exact hd, ?_⟩⟩⟩
  rw [upd_ne hne] at hd
  have e : upd (del (upd (upd (upd H a (exo a C none)) dx (exd dx [(f, .str s)])) a (exo a C (some dx))) a) dx (.xd [(f, .str s)]) = upd H dx (.xd [(f, .str s)]) := by
    funext b
    by_cases h1 : b = dx
    · rw [h1, upd_same, upd_same]
    · rw [upd_ne h1, upd_ne h1]
      by_cases h2 : b = a
      · rw [h2, del_same, ha]
      · rw [del_ne h2, upd_ne h2, upd_ne h1, upd_ne h2]
  rw [e]
  exact h dx hd
section
variable {P : Program} {w : World} {K : PySem.W.Frag} {mg : Str → Option Value} {base : Heap}
theorem mkX1_of {x qual f : Str} {st : Stmt} {k : Nat} {N ps : List Str} (C : Cls1 K mg x qual st f) (hps : ps.length = 2) (S : FnScope N ps (defScope st))
    (hb : ∀ (kV doc pm : Value) (an : Option Addr) (cdv ct : Value) (us : List Value), us.length = ps.length → bindArgs (PySem.W.fnOf "__init__" qual (defArgs st) (defBody st) (defScope st) .none kV doc pm an cdv ct) ⟨us, []⟩ = pure (ps.zip us))
    (hbody : ∀ (fa : Addr) (cdv : Value) (A : Around) (outer : List Env) (s : Shared) (H : Hp) (a : Addr) (y : Str) (Q : VK) (E : XK), Room k (A.deeper (envOfC qual (defScope st) s.heap.objs.size fa cdv)) → y.length ≤ 1000 → H a = some (exo a (adr mg x) none) →
      (∀ dx, H dx = none → dx ≠ a → Q .non (upd (upd H dx (exd dx [(f, .str y)])) a (exo a (adr mg x) (some dx)))) →
      ∃ t, PSs (cxOf L2.CX0 P w K mg base N qual (defScope st) fa cdv A outer s H E).nox (defBody st) t ∧ t { nx := fun _ H' => Q .non H', rt := Q } (start N [.ref a, .str y]) H) : MkX1 P w K mg base (k + 1) x f ps := by
  obtain ⟨fI, fd, iC, tI, F⟩ := C.i
  refine ⟨C.g, C.o, fI, fd, iC, tI, F.ok S (fun vs H Q E ⟨a, y, e, _⟩ => by rw [e, hps]; rfl) fun cdv A outer s H vs Q E hr ⟨a, y, e, hy, h, q⟩ => ?_, F.binds hb⟩
  subst e
  exact hbody fI cdv A outer s H a y Q E hr hy h q
end
end Fl

set_option Elab.async false
set_option linter.all false
set_option maxRecDepth 100000
set_option maxHeartbeats 4000000
set_option exponentiation.threshold 20000
/-! own errors with two fields, numbers -/
namespace Fl
open PySem PySem.Spec PyProof.Rows L2
/-- an own error class, made with two numbers that it keeps as f and g -/
structure Cls2 (K : PySem.W.Frag) (mg : Str → Option Value) (x qual : Str) (st : Stmt) (f f2 : Str) : Prop where
  g : mg x = some (.ref (adr mg x))
  o : OexC K (adr mg x)
  n : PySem.W.findIn K (.ref (adr mg x)) f = some none
  m : PySem.W.findIn K (.ref (adr mg x)) f2 = some none
  r : XfC K (adr mg x)
  i : ∃ (fI : Addr) (fd : FuncData), PySem.W.findIn K (.ref (adr mg x)) "__init__" = some (some (.ref fI)) ∧ PySem.W.typeIn K (.ref fI) = some (.type "function") ∧ Fun K "__init__" qual st fI fd
def spIni2 (C : Addr) (f f2 : Str) : Sp := fun vs H Q _ => ∃ (a : Addr) (i j : Int), vs = [.ref a, .int i, .int j] ∧ i.natAbs < 10000 ∧ j.natAbs < 10000 ∧ H a = some (exo a C none) ∧ ∀ dx, H dx = none → dx ≠ a → Q .non (upd (upd (upd H dx (exd dx [(f, .int i)])) a (exo a C (some dx))) dx (exd dx [(f2, .int j), (f, .int i)]))
structure MkX2 (P : Program) (w : World) (K : PySem.W.Frag) (mg : Str → Option Value) (base : Heap) (k : Nat) (x f f2 : Str) (ps : List Str) : Prop where
  g : mg x = some (.ref (adr mg x))
  o : OexC K (adr mg x)
  i : ∃ (fI : Addr) (fd : FuncData), PySem.W.findIn K (.ref (adr mg x)) "__init__" = some (some (.ref fI)) ∧ PySem.W.typeIn K (.ref fI) = some (.type "function") ∧ FnOk P w K mg base L2.CX0 k fI fd ps (spIni2 (adr mg x) f f2) ∧ L2.Binds K fd ps []
def tRaise2 (W : WX) (C : Addr) (f f2 : Str) (ta : TA) : TS := fun _ σ H => tMkO C (spIni2 C f f2) [] ta σ H fun cls d H' => W cls d σ H'
theorem ps_raise2 {X : Cx} {W : WX} {k : Nat} {x f f2 : Str} {ps : List Str} {e e2 : Expr} {ta : TA} {p pos pos2 : Pos} (M : MkX2 X.prog X.w X.K X.mg X.base k x f f2 ps) (hc : X.calm = true) (hr : Room (k + 1) X.A) (tk : Takes X W) (ha : PA X [e, e2] ta) (hg : Gl X x := by rfl) (hdb : (x == ("__debug__" : Str)) = false := by decide)
    (he : starEach [e, e2] X.env = (false, eval e X.env) :: starEach [e2] X.env := by rfl) (hpl : (backTo pos (starEach [e2] X.env)).any (·.1) = false := by rfl) :
    PS X (.Raise (some (.Call (.Name x p) [e, e2] [] pos)) none pos2) (tRaise2 W (adr X.mg x) f f2 ta) := by
  obtain ⟨fI, fd, iC, tI, F, b⟩ := M.i
  exact ⟨fun pins s σ H D I h => (ps_raise hc tk (pmk_oex (CX := L2.CX0) M.o iC tI F hr b .nil (fun _ _ _ _ _ _ _ z => z.elim) hg M.g ha hdb he hpl)).run pins s σ H D I h⟩
theorem g_raise2 {W : WX} {C : Addr} {f f2 : Str} {i j : Int} {D : Ends} {σ : L2.St} {H : Hp} (hi : i.natAbs < 10000) (hj : j.natAbs < 10000) (h : ∀ dx, H dx = none → W (.ref C) (some dx) σ (upd H dx (.xd [(f2, .int j), (f, .int i)]))) : tRaise2 W C f f2 (tCons (tC (.int i)) (tCons (tC (.int j)) tNil)) D σ H := by
  refine ⟨by simp, fun a ha => ⟨a, i, j, rfl, hi, hj, upd_same, fun dx hd hne => ⟨rfl, dx, [(f2, .int j), (f, .int i)], by rw [upd_ne (Ne.symm hne), upd_same], upd_same, by rw [upd_ne hne] at hd; exact hd, ?_⟩⟩⟩
  rw [upd_ne hne] at hd
  have e : upd (del (upd (upd (upd (upd H a (exo a C none)) dx (exd dx [(f, .int i)])) a (exo a C (some dx))) dx (exd dx [(f2, .int j), (f, .int i)])) a) dx (.xd [(f2, .int j), (f, .int i)]) = upd H dx (.xd [(f2, .int j), (f, .int i)]) := by
    funext b
    by_cases h1 : b = dx
    · rw [h1, upd_same, upd_same]
    · rw [upd_ne h1, upd_ne h1]
      by_cases h2 : b = a
      · rw [h2, del_same, ha]
      · rw [del_ne h2, upd_ne h1, upd_ne h2, upd_ne h1, upd_ne h2]
  rw [e]
  exact h dx hd
section
variable {P : Program} {w : World} {K : PySem.W.Frag} {mg : Str → Option Value} {base : Heap}
theorem mkX2_of {x qual f f2 : Str} {st : Stmt} {k : Nat} {N ps : List Str} (C : Cls2 K mg x qual st f f2) (hps : ps.length = 3) (S : FnScope N ps (defScope st))
    (hb : ∀ (kV doc pm : Value) (an : Option Addr) (cdv ct : Value) (us : List Value), us.length = ps.length → bindArgs (PySem.W.fnOf "__init__" qual (defArgs st) (defBody st) (defScope st) .none kV doc pm an cdv ct) ⟨us, []⟩ = pure (ps.zip us))
    (hbody : ∀ (fa : Addr) (cdv : Value) (A : Around) (outer : List Env) (s : Shared) (H : Hp) (a : Addr) (i j : Int) (Q : VK) (E : XK), Room k (A.deeper (envOfC qual (defScope st) s.heap.objs.size fa cdv)) → i.natAbs < 10000 → j.natAbs < 10000 → H a = some (exo a (adr mg x) none) →
      (∀ dx, H dx = none → dx ≠ a → Q .non (upd (upd (upd H dx (exd dx [(f, .int i)])) a (exo a (adr mg x) (some dx))) dx (exd dx [(f2, .int j), (f, .int i)]))) →
      ∃ t, PSs (cxOf L2.CX0 P w K mg base N qual (defScope st) fa cdv A outer s H E).nox (defBody st) t ∧ t { nx := fun _ H' => Q .non H', rt := Q } (start N [.ref a, .int i, .int j]) H) : MkX2 P w K mg base (k + 1) x f f2 ps := by
  obtain ⟨fI, fd, iC, tI, F⟩ := C.i
  refine ⟨C.g, C.o, fI, fd, iC, tI, F.ok S (fun vs H Q E ⟨a, i, j, e, _⟩ => by rw [e, hps]; rfl) fun cdv A outer s H vs Q E hr ⟨a, i, j, e, hi, hj, h, q⟩ => ?_, F.binds hb⟩
  subst e
  exact hbody fI cdv A outer s H a i j Q E hr hi hj h q
end
/-- the reading of a field of the caught error -/
theorem g_xf {a C dd : Addr} {fs : List (Str × V)} {v : V} {f : Str} {i : Nat} {σ : L2.St} {H : Hp} {Q : VK} (h : σ[i]? = some (some (.ref a))) (hd : H dd = some (.xd fs)) (hl : fs.lookup f = some v) (q : Q v H) : tXf a (.ref C) (some dd) C f (tVar i) σ H Q := ⟨_, h, rfl, rfl, dd, fs, v, rfl, hd, hl, q⟩
end Fl

set_option Elab.async false
set_option linter.all false
set_option maxRecDepth 100000
set_option maxHeartbeats 4000000
set_option exponentiation.threshold 20000
/-! comprehensions that draw; fractions as data; lists taken apart; sorted -/
namespace Fl
open PySem PySem.Spec PyProof.Rows L2
section
variable {S X : List Addr} {H1 : Hp} {K : PySem.W.Frag}
/-- the list D at turn i of a comprehension whose steps change what stands at X and keep I -/
structure GenAt (S X : List Addr) (I : Hp → Prop) (Pr : PyData → Prop) (H1 : Hp) (D : Addr) (i : Nat) (H : Hp) : Prop where
  ex : ∃ (acc : List V) (rs : List PyData), H D = some (.lst acc) ∧ DqA (D :: S) H acc rs ∧ rs.length = i ∧ ∀ r, r ∈ rs → Pr r
  fr : Fr (D :: X) H1 H
  inv : I H
theorem lcG {n : Nat} {lo : Int} {j : Nat} {te : TE} {vs : List Nat} {σ : L2.St} {Q : VK} (X : List Addr) (I : Hp → Prop) (Pr : PyData → Prop) (hS : Al S H1) (hX : ∀ b, b ∈ X → b ∈ S) (hI : I H1) (hz : n < 1000)
    (hA : ∀ H, I H → Al X H) (hP : ∀ D H o, H1 D = none → I H → I (upd H D o))
    (step : ∀ (D : Addr) (i : Nat) (H : Hp), H1 D = none → i < n → Al (D :: S) H → I H →
      ∀ (R : V → Hp → Prop), (∀ y H' r, Fr X H H' → I H' → Dq (D :: S) H' y r → Pr r → R y H') →
      wipe ((wipe σ vs).set j (some (.int (lo + i)))) vs = wipe σ vs ∧ te ((wipe σ vs).set j (some (.int (lo + i)))) H R)
    (q : ∀ (D : Addr) (H : Hp) (rs : List PyData), Fr X H1 H → I H → H1 D = none → Dq S H (.ref D) (.list rs) → rs.length = n → (∀ r, r ∈ rs → Pr r) → Q (.ref D) H) :
    lcK (Itr lo n) (gName j) tYes te vs σ H1 Q := by
  unfold lcK
  intro D hD
  have hDX : D ∉ X := fun m => hS D (hX D m) hD
  refine lc_range (GenAt S X I Pr H1 D) ⟨⟨[], [], upd_same, .nil, rfl, fun _ m => nomatch m⟩, Fr.same (Fl.Same.new hD), hP D H1 _ hD hI⟩ ?_ ?_
  · intro i H hlt h
    obtain ⟨⟨acc, rs, hacc, hd, hl, hp⟩, hf, hi⟩ := h
    have hAl : Al (D :: S) H := .cons (by rw [hacc]; simp) (hS.fr hf fun b m => by
      rcases List.mem_cons.mp m with rfl | m
      · rw [hacc]; simp
      · exact hA H hi b m)
    have st := step D i H hD hlt hAl hi (fun y H4 => ∃ acc, H4 D = some (.lst acc) ∧ acc.length < sizeLine ∧ GenAt S X I Pr H1 D (i + 1) (upd H4 D (.lst (acc ++ [y])))) ?_
    · exact ⟨st.1, st.2⟩
    · intro y H' r f k dq hr
      have f' : Fr (D :: S) H H' := f.mono fun b m => List.mem_cons_of_mem _ (hX b m)
      refine ⟨acc, f D _ hDX hacc, ?_, ⟨acc ++ [y], rs ++ [r], upd_same, ?_, ?_, ?_⟩, ?_, ?_⟩
      · have := hd.len
        have : (1000 : Nat) ≤ sizeLine := by decide
        omega
      · exact ((hd.fr f').app (.one dq)).fr (Fr.upd (by simp))
      · rw [List.length_append, hl]
        rfl
      · intro p m
        rcases List.mem_append.mp m with m | m
        · exact hp p m
        · rw [show p = r by simpa using m]
          exact hr
      · exact (hf.trans (f.mono fun b m => List.mem_cons_of_mem _ m)).trans (Fr.upd (by simp))
      · exact hP D H' _ hD k
  · intro H h
    obtain ⟨⟨acc, rs, hacc, hd, hl, hp⟩, hf, hi⟩ := h
    refine q D H rs (fun b o n e => hf b o (fun m => ?_) e) hi hD (.lst (hS.ni hD) hacc hd.tail) hl hp
    rcases List.mem_cons.mp m with rfl | m
    · rw [hD] at e; cases e
    · exact n m
end
/-! fractions as data -/
def iq (n : Int) : Rat := Rat.divInt n 1
def fqD (x : Rat) : PyData := .tuple [.int x.num, .int (x.den : Int)]
theorem fqE {S : List Addr} {H : Hp} {v : V} {x : Rat} (h : Dq S H v (fqD x)) : ∃ a, v = .ref a ∧ a ∉ S ∧ H a = some (.tup [.int x.num, .int (x.den : Int)]) := by
  obtain ⟨a, xs, rfl, na, hx, hd⟩ := h.tupE
  obtain ⟨_, _, rfl, h1, hd⟩ := hd.consE
  obtain ⟨_, _, rfl, h2, hd⟩ := hd.consE
  cases hd.nilE
  cases h1.intE
  cases h2.intE
  exact ⟨a, rfl, na, hx⟩
theorem fqI {S : List Addr} {H : Hp} {a : Addr} {x : Rat} (n : a ∉ S) (q : H a = some (.tup [.int x.num, .int (x.den : Int)])) : Dq S H (.ref a) (fqD x) := .tup n q (.cons (.int _) (.cons (.int _) .nil))
theorem eqf_app {K : PySem.W.Frag} {a b : Addr} {x y : Rat} {H : Hp} {Q : VK} (h1 : RV K H a x) (h2 : RV K H b y) (q : Q (.bl (decide (x = y))) H) : rEqD K (.ref a) (.ref b) H Q := by
  have d1 : ∀ {a : Addr} {x : Rat}, RV K H a x → Dp K H (.ref a) (.tuple [.int x.num, .int x.den]) := fun h => .tup h (.cons (.int _) (.cons (.int _) .nil))
  refine ⟨_, _, d1 h1, d1 h2, rfl, rfl, ?_⟩
  by_cases e : x = y
  · subst e
    have e2 : PyData.eqv (.tuple [.int x.num, .int x.den]) (.tuple [.int x.num, .int x.den]) = true := SeqAt.eqv_refl _ rfl
    rw [e2]
    simpa using q
  · have e2 : PyData.eqv (.tuple [.int x.num, .int x.den]) (.tuple [.int y.num, .int y.den]) = false := by
      cases hb : PyData.eqv (.tuple [.int x.num, .int x.den]) (.tuple [.int y.num, .int y.den]) with
      | false => rfl
      | true =>
        exfalso
        apply e
        simp [PyData.eqv, PyData.eqvAll] at hb
        exact Rat.ext hb.1 (by omega)
    rw [e2]
    simpa [e] using q
/-! [ratio(n) for n in a tuple of integers] -/
theorem lcT {K : PySem.W.Frag} {H1 : Hp} {a : Addr} {ns : List Int} {j : Nat} {te : TE} {vs : List Nat} {σ : L2.St} {Q : VK} (ha : SqT K H1 a (ns.map V.int)) (hz : ns.length < 1000)
    (step : ∀ (D : Addr) (i : Nat) (n : Int) (H : Hp), H1 D = none → ns[i]? = some n → Same H1 H →
      ∀ (R : V → Hp → Prop), (∀ t H', H t = none → Same H H' → RV K H' t (iq n) → R (.ref t) H') →
      wipe ((wipe σ vs).set j (some (.int n))) vs = wipe σ vs ∧ te ((wipe σ vs).set j (some (.int n))) H R)
    (q : ∀ (D : Addr) (H : Hp) (ts : List Addr), Same H1 H → H D = some (.lst (ts.map V.ref)) → ts.length = ns.length → (∀ (k : Nat) (t : Addr) (n : Int), ts[k]? = some t → ns[k]? = some n → RV K H t (iq n)) → Q (.ref D) H) :
    lcK (Itt K a) (gName j) tYes te vs σ H1 Q := by
  unfold lcK
  intro D hD
  refine lc_tup (xs := ns.map V.int) (fun i H => (∃ ts : List Addr, H D = some (.lst (ts.map V.ref)) ∧ ts.length = i ∧ ∀ (k : Nat) (t : Addr) (n : Int), ts[k]? = some t → ns[k]? = some n → t ≠ D ∧ RV K H t (iq n)) ∧ Fr [D] H1 H) ⟨⟨[], upd_same, rfl, fun k t n h => by simp at h⟩, Fr.same (Fl.Same.new hD)⟩ ?_ ?_ ?_
  · intro i H _ ⟨_, hf⟩
    exact Fl.Same.t (sm_of hD hf) ha
  · intro i x H hx ⟨⟨ts, hts, hl, hr⟩, hf⟩
    have hlt : i < ns.length := by
      have := (List.getElem?_eq_some_iff.mp hx).1
      simpa using this
    rw [List.getElem?_map] at hx
    cases hn : ns[i]? with
    | none => rw [hn] at hx; cases hx
    | some n =>
      rw [hn] at hx
      cases hx
      have st := step D i n H hD hn (sm_of hD hf) (fun y H4 => ∃ acc, H4 D = some (.lst acc) ∧ acc.length < sizeLine ∧ ((∃ ts : List Addr, (upd H4 D (.lst (acc ++ [y]))) D = some (.lst (ts.map V.ref)) ∧ ts.length = i + 1 ∧ ∀ (k : Nat) (t : Addr) (n : Int), ts[k]? = some t → ns[k]? = some n → t ≠ D ∧ RV K (upd H4 D (.lst (acc ++ [y]))) t (iq n)) ∧ Fr [D] H1 (upd H4 D (.lst (acc ++ [y]))))) ?_
      · exact ⟨st.1, st.2⟩
      · intro t H' ht sm rv
        have htD : t ≠ D := fun e => by rw [e, hts] at ht; cases ht
        refine ⟨ts.map V.ref, sm _ _ hts, ?_, ⟨ts ++ [t], ?_, ?_, ?_⟩, ?_⟩
        · have : (1000 : Nat) ≤ sizeLine := by decide
          rw [List.length_map]
          omega
        · rw [upd_same, List.map_append]
          rfl
        · rw [List.length_append, hl]
          rfl
        · intro k u m hk hm
          by_cases hki : k < ts.length
          · rw [List.getElem?_append_left hki] at hk
            obtain ⟨g1, g2⟩ := hr k u m hk hm
            exact ⟨g1, RV.ex1 Ex1.upd g1 (g2.same sm)⟩
          · rw [List.getElem?_append_right (by omega)] at hk
            have hk0 : k - ts.length = 0 := by
              have := (List.getElem?_eq_some_iff.mp hk).1
              simp at this
              omega
            rw [hk0] at hk
            cases hk
            have : k = i := by omega
            rw [this, hn] at hm
            cases hm
            exact ⟨htD, RV.ex1 Ex1.upd htD rv⟩
        · exact (hf.trans (Fr.same sm)).trans (Fr.upd (by simp))
  · intro H ⟨⟨ts, hts, hl, hr⟩, hf⟩
    rw [List.length_map] at hl
    exact q D H ts (sm_of hD hf) hts hl (fun k t n h1 h2 => (hr k t n h1 h2).2)
/-! a, b, .. = a list -/
theorem pgL {X : Cx} {K : PySem.W.Frag} {es : List Expr} {j : Nat} {t : TGs} {n : Nat} {pos : Pos} (e : X.K = K) (hc : X.calm = true) (h : PGs X es t)
    (hn : (assignEach es X.env).length = n := by rfl) (hst : (assignEach es X.env).findIdx? (·.1) = none := by rfl) : PG X (.Tuple es j pos) (gLst K n t) := by subst e; exact pg_lst hc h hn hst
theorem g_glst {K : PySem.W.Frag} {n : Nat} {t : TGs} {a : Addr} {xs : List V} {σ : L2.St} {H : Hp} {Q : L2.St → Hp → Prop} (h : SqL K H a xs) (e : xs.length = n) (q : t xs σ H Q) : gLst K n t (.ref a) σ H Q := ⟨a, xs, rfl, h, e, q⟩
/-! sorted of a few integers -/
theorem clSort {X : Cx} {K : PySem.W.Frag} (e : X.K = K) : CallR X (.builtin "sorted") (rSorted K) := by subst e; exact cr_sorted
theorem g_sort {K : PySem.W.Frag} {a : Addr} {ns : List Int} {H : Hp} {Q : VK} (h : SqL K H a (ns.map V.int)) (hz : ns.length < 64) (q : ∀ (ns' : List Int) (p : Addr), ns'.Perm ns → ns'.Pairwise (· ≤ ·) → H p = none → Q (.ref p) (upd H p (.lst (ns'.map V.int)))) : rSorted K [.ref a] H Q := ⟨a, ns, rfl, h, hz, q⟩
theorem sort3 {ns : List Int} {a b c lo hi : Int} (hp : ns.Perm [a, b, c]) (hs : ns.Pairwise (· ≤ ·)) (ha : lo ≤ a ∧ a ≤ hi) (hb : lo ≤ b ∧ b ≤ hi) (hc : lo ≤ c ∧ c ≤ hi) : ∃ x y z, ns = [x, y, z] ∧ lo ≤ x ∧ x ≤ y ∧ y ≤ z ∧ z ≤ hi := by
  have hl := hp.length_eq
  match ns, hl with
  | [x, y, z], _ =>
    have hx : ∀ v, v ∈ [x, y, z] → lo ≤ v ∧ v ≤ hi := fun v m => by
      have := hp.mem_iff.mp m
      simp at this
      rcases this with rfl | rfl | rfl <;> assumption
    have h1 := hx x (by simp)
    have h3 := hx z (by simp)
    simp at hs
    exact ⟨x, y, z, rfl, h1.1, hs.1.1, hs.2, h3.2⟩
end Fl

set_option Elab.async false
set_option linter.all false
set_option maxRecDepth 100000
set_option maxHeartbeats 4000000
/-! draws: a list of integers, from whose end numbers are taken -/
namespace Fl
open PySem PySem.Spec PyProof.Rows L2
def Dw (d : Addr) (H : Hp) : Prop := ∃ zs : List Int, H d = some (.lst (zs.map V.int)) ∧ zs.length ≤ 10000
theorem Dw.hd {d : Addr} {H : Hp} (h : Dw d H) : H d ≠ none := by
  obtain ⟨zs, e, _⟩ := h
  rw [e]
  simp
theorem Dw.put {d D : Addr} {H : Hp} {o : HO} (h : Dw d H) (n : D ≠ d) : Dw d (upd H D o) := by
  obtain ⟨zs, e, b⟩ := h
  exact ⟨zs, by rw [upd_ne n.symm]; exact e, b⟩
theorem Dw.newH {d p : Addr} {H : Hp} {o : HO} (e : H p = none) (h : Dw d H) : Dw d (upd H p o) := h.put fun k => h.hd (k ▸ e)
theorem Dw.sm {d : Addr} {H H' : Hp} (s : Same H H') (h : Dw d H) : Dw d H' := by
  obtain ⟨zs, e, b⟩ := h
  exact ⟨zs, s _ _ e, b⟩
theorem Dw.fr {d : Addr} {H H' : Hp} {S : List Addr} (s : Fr S H H') (n : d ∉ S) (h : Dw d H) : Dw d H' := by
  obtain ⟨zs, e, b⟩ := h
  exact ⟨zs, s _ _ n e, b⟩
theorem Dw.ned {d p : Addr} {H : Hp} (e : H p = none) (h : Dw d H) : p ≠ d := fun k => h.hd (k ▸ e)
def spDws (K : PySem.W.Frag) : Sp := fun vs H Q _ => ∃ (a : Addr) (ns : List Int), vs = [.ref a] ∧ SqL K H a (ns.map V.int) ∧ ns.length ≤ 63 ∧ ∀ d H', Same H H' → H d = none → Dw d H' → Q (.ref d) H'
theorem dws_app {K : PySem.W.Frag} {a : Addr} {ns : List Int} {H : Hp} {Q : VK} {E : XK} (h : SqL K H a (ns.map V.int)) (hl : ns.length ≤ 63) (q : ∀ d H', Same H H' → H d = none → Dw d H' → Q (.ref d) H') : spDws K [.ref a] H Q E := ⟨a, ns, rfl, h, hl, q⟩
def spTk : Sp := fun vs H Q _ => ∃ (d : Addr) (m : Int), vs = [.ref d, .int m] ∧ Dw d H ∧ 0 < m ∧ ∀ v H', 0 ≤ v → v < m → Dw d H' → On d H H' → Q (.int v) H'
theorem tk_app {d : Addr} {m : Int} {H : Hp} {Q : VK} {E : XK} (h : Dw d H) (hm : 0 < m) (q : ∀ v H', 0 ≤ v → v < m → Dw d H' → On d H H' → Q (.int v) H') : spTk [.ref d, .int m] H Q E := ⟨d, m, rfl, h, hm, q⟩
theorem Same.updN {H H' : Hp} {D : Addr} {o : HO} (hD : H D = none) (h : Same H H') : Same H (upd H' D o) := fun b u e => by
  rw [upd_ne (fun k => by rw [k, hD] at e; cases e)]
  exact h b u e
theorem g_appB {l : Addr} {xs : List V} {y : V} {H : Hp} {Q : VK} (h : H l = some (.lst xs)) (hz : xs.length < 100000) (q : Q .non (upd H l (.lst (xs ++ [y])))) : rAppend (.ref l) [y] H Q := ⟨l, xs, y, rfl, rfl, h, Nat.lt_of_lt_of_le hz (by decide), q⟩
theorem g_bm0 {K : PySem.W.Frag} {T : String} {r : V → List V → Hp → VK → Prop} {to : TE} {σ : L2.St} {H : Hp} {Q : VK} (h : to σ H fun x H1 => tyV K T x H1 ∧ r x [] H1 Q) : tBM0 K T r to σ H Q := h
theorem g_pop {l : Addr} {xs : List V} {y : V} {H : Hp} {Q : VK} (h : H l = some (.lst xs)) (hy : xs[xs.length - 1]? = some y) (q : Q y (upd H l (.lst xs.dropLast))) : rPop (.ref l) [] H Q := ⟨l, xs, y, rfl, rfl, h, hy, q⟩
/-- more integers behind a list of integers -/
theorem ints_snoc {zs : List Int} {z : Int} : zs.map V.int ++ [V.int z] = (zs ++ [z]).map V.int := by simp
theorem picks {α : Type} {f : α → PyData} {Pr : α → Prop} : ∀ {rs : List PyData}, (∀ r, r ∈ rs → ∃ p, r = f p ∧ Pr p) → ∃ ps : List α, rs = ps.map f ∧ ∀ p, p ∈ ps → Pr p
  | [], _ => ⟨[], rfl, fun _ m => nomatch m⟩
  | r :: rs, h => by
    obtain ⟨p, e, hp⟩ := h r (by simp)
    subst e
    obtain ⟨ps, e, hps⟩ := picks (rs := rs) fun r m => h r (by simp [m])
    subst e
    exact ⟨p :: ps, rfl, fun q m => by
      rcases List.mem_cons.mp m with rfl | m
      · exact hp
      · exact hps q m⟩
section
variable {S : List Addr} {H1 : Hp} {K : PySem.W.Frag} {g : TG} {tt : TT} {te : TE} {vs : List Nat} {σ : L2.St} {Q : VK}
/-- [elt for i, x in enumerate(list) if test], nothing changed -/
theorem lcE {a : Addr} {xs : List V} (f : Nat → Option PyData) (hS : Al S H1) (ha : H1 a = some (.lst xs)) (hz : xs.length < 1000)
    (step : ∀ (D : Addr) (i : Nat) (x : V) (T : Addr) (H : Hp), H1 D = none → xs[i]? = some x → Same H1 H → Al (D :: S) H → H T = none →
      ∀ (R : V → Hp → Prop) (N : Hp → Prop), (∀ r y H4, f i = some r → Same (upd H T (.tup [.int (i : Nat), x])) H4 → Dq (D :: S) H4 y r → R y H4) → (f i = none → ∀ H4, Same (upd H T (.tup [.int (i : Nat), x])) H4 → N H4) →
      g (.ref T) (wipe σ vs) (upd H T (.tup [.int (i : Nat), x])) fun σ2 H2 => wipe σ2 vs = wipe σ vs ∧ tt σ2 H2 fun b H3 => if b = true then te σ2 H3 R else N H3)
    (q : ∀ (D : Addr) (H : Hp), Same H1 H → H1 D = none → Dq S H (.ref D) (.list ((List.range xs.length).filterMap f)) → Q (.ref D) H) :
    lcK (Ite K a) g tt te vs σ H1 Q := by
  unfold lcK
  intro D hD
  have hDa : a ≠ D := fun e => by rw [e, hD] at ha; cases ha
  refine lc_it (walk_enum (xs := xs)) (CompAt S H1 D f) (CompAt.zero hD) ?_ ?_ ?_
  · intro i H _ h
    exact SqL.of (h.fr a _ (by simpa using hDa) ha)
  · intro i x H H' hi h ⟨T, y, z, e1, hT, e2, e3, e4⟩
    subst e1 e2
    cases e3
    have hsm : Same H1 H := sm_of hD h.fr
    exact step D i z T H hD e4 hsm (h.al hS hD) hT _ _ (fun r y H4 er s d => h.put (by omega) er ((Fl.Same.new hT).trans s) d) fun en H4 s => (h.same ((Fl.Same.new hT).trans s)).skip en
  · intro H h
    exact q D H (sm_of hD h.fr) hD (h.fin hS hD)
/-- [test for x in dict.values()] -/
theorem lcVT {d : Addr} {od : Obj} {kvs : List (Key × V)} {j : Nat} (p : Nat → Bool) (hd : H1 d = some (.frz od (.dK kvs))) (hz : kvs.length < 1000)
    (step : ∀ (D : Addr) (i : Nat) (k : Key) (x : V) (H : Hp), H1 D = none → kvs[i]? = some (k, x) → Same H1 H → ∀ (R : V → Hp → Prop), R (.bl (p i)) H →
      wipe ((wipe σ vs).set j (some x)) vs = wipe σ vs ∧ te ((wipe σ vs).set j (some x)) H R)
    (q : ∀ (D : Addr) (H : Hp), Same H1 H → H1 D = none → H D = some (.lst (((List.range kvs.length).map p).map V.bl)) → Q (.ref D) H) :
    lcK (Itd d od kvs) (gName j) tYes te vs σ H1 Q := by
  unfold lcK
  intro D hD
  have hDd : d ≠ D := fun e => by rw [e, hD] at hd; cases hd
  refine lc_it (walk_values (kvs := kvs)) (fun i H => H D = some (.lst (((List.range i).map p).map V.bl)) ∧ Fr [D] H1 H) ⟨upd_same, Fr.same (Fl.Same.new hD)⟩ ?_ ?_ ?_
  · intro i H _ h
    exact h.2 d _ (by simpa using hDd) hd
  · intro i x H H' hi ⟨h1, h2⟩ ⟨e1, k, e2⟩
    subst e1
    have st := step D i k x H' hD e2 (sm_of hD h2) (fun y H4 => ∃ acc, H4 D = some (.lst acc) ∧ acc.length < sizeLine ∧ ((upd H4 D (.lst (acc ++ [y]))) D = some (.lst (((List.range (i + 1)).map p).map V.bl)) ∧ Fr [D] H1 (upd H4 D (.lst (acc ++ [y]))))) ?_
    · exact ⟨st.1, st.2⟩
    · refine ⟨_, h1, ?_, ?_, h2.trans (Fr.upd (by simp))⟩
      · have : (1000 : Nat) ≤ sizeLine := by decide
        rw [List.length_map, List.length_map, List.length_range]
        omega
      · rw [upd_same, List.range_succ, List.map_append, List.map_append]
        rfl
  · intro H ⟨h1, h2⟩
    exact q D H (sm_of hD h2) hD h1
end
theorem g_lockE {t : TE} {σ : L2.St} {H : Hp} {Q : VK} {d : Addr} {u : HO} (h : H d = some u) (m : Mut (some u)) (q : ∀ od, t σ (upd H d (.frz od u)) fun v H' => H' d = some (.frz od u) ∧ Q v (upd H' d u)) : tLockE t σ H Q := ⟨d, u, h, m, q⟩
theorem same_lock {H G : Hp} {d : Addr} {u w : HO} (h : H d = some u) (s : Same (upd H d w) G) : Same H (upd G d u) := fun b o e => by
  by_cases n : b = d
  · subst n
    rw [upd_same]
    rw [h] at e
    exact e
  · rw [upd_ne n]
    exact s b o (by rw [upd_ne n]; exact e)
theorem g_ivals {td : TE} {σ : L2.St} {H : Hp} {R : It → Hp → Prop} (h : td σ H fun x H1 => ∃ d o kvs, x = V.ref d ∧ H1 d = some (.frz o (.dK kvs)) ∧ R (Itd d o kvs) H1) : iVals td σ H R := h
theorem ixN_nat {n a : Nat} (h : a < n) : ixN n (a : Int) = some a := by
  unfold ixN
  simp [h]
theorem take_snoc {α : Type} {l : List α} {i : Nat} {x : α} (h : l[i]? = some x) : l.take (i + 1) = l.take i ++ [x] := by
  rw [List.take_add_one, h]
  rfl
end Fl

set_option Elab.async false
set_option linter.all false
set_option maxRecDepth 100000
set_option maxHeartbeats 4000000
/-! a dict of the written part whose keys are tuples of integers: d.get(k) -/
namespace Fl
open PySem PySem.Spec PyProof.Rows L2
/-- at a the written dict with these keys (each with its address) and values -/
structure KTup (K : PySem.W.Frag) (P : Program) (w : World) (a : Addr) (xs : List (List Int × Addr × Value)) : Prop where
  at_ : ∃ es n, K.lookup a = some ⟨.type "dict", none, .dict es n, #[]⟩ ∧ es.toList = xs.map (entryOfKey (TK P w))
  key : ∀ x, x ∈ xs → ∀ H : Hp, SqT K H x.2.1 (x.1.map V.int)
  nd : (xs.map (·.1)).Nodup
  ns : (a == sysModules) = false
def tDGetKT (K : PySem.W.Frag) (P : Program) (w : World) (td ty : TE) : TE := fun σ H Q => td σ H fun x H1 => ∃ a xs, x = .ref a ∧ KTup K P w a xs ∧ ty σ H1 fun y H2 => ∃ b k v, y = .ref b ∧ SqT K H2 b (k.map V.int) ∧ RelV v (((atKey xs k).map (·.2)).getD .none) ∧ Q v H2
section
variable {X : Cx} {pins : List (Addr × Obj)} {σ : L2.St} {H : Hp} {s : Shared} {a b : Addr} {A : Around} {E : Value → Shared → Prop} {xs : List (List Int × Addr × Value)} {k : List Int}
theorem KTup.of (h : KTup X.K X.prog X.w a xs) (I : Inv X pins σ H s) : s.heap.DictOfH (TK X.prog X.w) a xs := by
  obtain ⟨⟨es, n, hl, he⟩, hk, hn, _⟩ := h
  exact ⟨_, es, n, I.kIn _ _ hl, ⟨rfl, rfl, rfl⟩, rfl, he, fun x hx => I.isT (hk x hx H), hn⟩
theorem pe_dgetKT {o e : Expr} {apos cpos : Pos} {td ty : TE} (hu : X.A.units + 1 < cLine) (ho : PE X o td) (he : PE X e ty) (m : M1 X o "get" apos e cpos) : PE X (.Call (.Attribute o "get" apos) [e] [] cpos) (tDGetKT X.K X.prog X.w td ty) := by
  refine ⟨fun pins s σ H Q I h => ?_⟩
  refine wpAny_Call_method m.base m.few m.line PySem.F.plainAttrs_dict PySem.F.slot_dict_get PySem.F.type_dict_get (thn (ho.run pins s σ H _ I h) fun u s1 ⟨x, H1, I1, rx, a, xs, ex, d, q1⟩ => ?_)
  subst ex
  obtain rfl : u = Value.ref a := rx
  have dd := d.of I1
  refine ⟨dd.typeIs, fun b q => ?_, ?_⟩
  · cases q
    obtain ⟨ob, _, _, h1, h2, _⟩ := dd
    exact ⟨ob, h1, h2.2.1⟩
  rw [m.trees]
  refine Calls.callWith_builtin rfl (Calls.evalArgs_plain (Calls.spliced_cons (thn (he.run pins s1 σ H1 _ I1 q1) fun iv s2 ⟨y, H2, I2, ry, b, k, v, ey, hb, rv, q2⟩ => Calls.spliced_nil ?_)))
  subst ey
  obtain rfl : iv = Value.ref b := ry
  have dd2 := d.of I2
  exact call_meetsIn PySem.F.slot_dict_get dd2.typeIs PySem.F.entry_dict_get (PySem.F.args_dict_get_2 _ _) (meetsH_dict_get (TK X.prog X.w) a b d.ns) ⟨tupleKind_room_in1 hu, k, xs, I2.isT hb, dd2, ⟨_, H2, I2.tok _, rv, q2⟩⟩
end
/-- the same where the context is a def's -/
theorem pe_dgetKT' {X : Cx} {K : PySem.W.Frag} {P : Program} {w : World} {o e : Expr} {apos cpos : Pos} {td ty : TE} (e1 : X.K = K) (e2 : X.prog = P) (e3 : X.w = w) (hu : X.A.units + 1 < cLine) (ho : PE X o td) (he : PE X e ty) (m : M1 X o "get" apos e cpos) : PE X (.Call (.Attribute o "get" apos) [e] [] cpos) (tDGetKT K P w td ty) := by
  subst e1 e2 e3
  exact pe_dgetKT hu ho he m
theorem g_dgKT {K : PySem.W.Frag} {P : Program} {w : World} {td ty : TE} {σ : L2.St} {H : Hp} {Q : VK} (h : td σ H fun x H1 => ∃ a xs, x = .ref a ∧ KTup K P w a xs ∧ ty σ H1 fun y H2 => ∃ b k v, y = .ref b ∧ SqT K H2 b (k.map V.int) ∧ RelV v (((atKey xs k).map (·.2)).getD .none) ∧ Q v H2) : tDGetKT K P w td ty σ H Q := h
end Fl

set_option Elab.async false
set_option linter.all false
set_option maxRecDepth 100000
set_option maxHeartbeats 4000000
/-! straight code: its rows, when it is correct -/
namespace Fl
open PySem PySem.Spec PyProof.Rows L2
/-- a call without arguments -/
theorem pe_h0 {X : Cx} {k : Nat} {x : Str} {sp : Sp} {p pos : Pos} (h : Has X.prog X.w X.K X.mg X.base k x [] sp) (hr : Room k X.A) (hg : Gl X x := by rfl) (hdb : (x == ("__debug__" : Str)) = false := by decide) :
    PE X (.Call (.Name x p) [] [] pos) (tCall sp [] E0 tNil) := by
  obtain ⟨f, fd, a, b, c, d⟩ := h.ex
  exact pe_call0 a hr hg b c d .nil pass0 hdb
theorem opCatT {X : Cx} {K : PySem.W.Frag} (e : X.K = K) : OpR X (binaryOp .Add) (rCatT K) := by subst e; exact op_catT
abbrev Rw := Str × List Int
def rwD (r : Rw) : PyData := .tuple (.str r.1 :: r.2.map .int)
def coD (c : List Rw) : PyData := .list (c.map rwD)
theorem ints_dq {S : List Addr} {H : Hp} : ∀ {ns : List Int}, DqA S H (ns.map V.int) (ns.map PyData.int)
  | [] => .nil
  | n :: ns => .cons (.int n) (ints_dq (ns := ns))
theorem rwE {S : List Addr} {H : Hp} {v : V} {r : Rw} (h : Dq S H v (rwD r)) : ∃ a, v = .ref a ∧ a ∉ S ∧ H a = some (.tup (.str r.1 :: r.2.map V.int)) := by
  obtain ⟨a, xs, rfl, n, q, h⟩ := h.tupE
  obtain ⟨v, ws, rfl, hv, h2⟩ := h.consE
  cases hv
  rw [ints_of h2] at q
  exact ⟨a, rfl, n, q⟩
theorem rwI {S : List Addr} {H : Hp} {a : Addr} {r : Rw} (n : a ∉ S) (h : H a = some (.tup (.str r.1 :: r.2.map V.int))) : Dq S H (.ref a) (rwD r) := .tup n h (.cons (.str _) ints_dq)
def stL (l : List String) : List Str := l.map Str.ofString
def tabF : List (Str × List Str) := List.map (fun (p : String × List String) => (Str.ofString p.1, stL p.2)) [("push", ["place", "number"]), ("size", ["place"]), ("take", ["place", "place"]), ("jump", ["skip"]), ("jumpzero", ["place", "skip"]), ("jumpsmall", ["place", "number", "skip"]), ("end", ["many"])]
def tabW : List (Str × List Int) := List.map (fun (p : String × List Int) => (Str.ofString p.1, p.2)) [("push", [0, 1]), ("drop", [1, 0]), ("copy", [1, 2]), ("swap", [2, 2]), ("add", [2, 1]), ("subtract", [2, 1]), ("multiply", [2, 1]), ("divide", [2, 1]), ("negate", [1, 1]), ("amount", [1, 1]), ("lesser", [2, 1]), ("greater", [2, 1]), ("down", [1, 1]), ("up", [1, 1]), ("round", [1, 1]), ("less", [2, 1]), ("atmost", [2, 1]), ("equal", [2, 1]), ("not", [1, 1]), ("and", [2, 1]), ("or", [2, 1]), ("look", [0, 0]), ("go", [0, 0]), ("mode", [0, 0]), ("value", [1, 1]), ("load", [1, 1]), ("setvalue", [2, 0]), ("save", [2, 0]), ("get", [1, 1]), ("origin", [1, 1]), ("move", [2, 0]), ("set", [2, 0]), ("align", [2, 0]), ("between", [0, 0]), ("jump", [0, 0]), ("jumpzero", [1, 0]), ("call", [0, 0]), ("repeat", [1, 0]), ("size", [0, 1])]
def tabB : List (List Int × List Str) := List.map (fun (p : List Int × List String) => (p.1, stL p.2)) [([1, 1], ["place", "place"]), ([2, 1], ["place", "place", "place"]), ([2, 0], ["place", "place"]), ([0, 0], ["number"])]
def callsW : List Str := stL ["call", "repeat"]
def skW : List Str := stL ["jump", "jumpzero", "jumpsmall"]
def allW : List Str := stL ["push", "size", "take", "jump", "jumpzero", "jumpsmall", "end", "drop", "copy", "swap", "add", "subtract", "multiply", "divide", "negate", "amount", "lesser", "greater", "down", "up", "round", "less", "atmost", "equal", "not", "and", "or", "look", "go", "mode", "value", "load", "setvalue", "save", "get", "origin", "move", "set", "align", "between", "call", "repeat", "nothing"]
def fo (w : Str) : Option (List Str) := match tabF.lookup w with
  | some ks => some ks
  | none => match tabW.lookup w with
    | none => none
    | some p => if w ∈ callsW then none else tabB.lookup p
def argOk (k : Str) (n : Int) : Bool := if k = "place" then decide (0 ≤ n ∧ n < 64) else if k = "many" then decide (0 ≤ n ∧ n ≤ 64) else decide (k = "number") || decide (0 ≤ n)
def formed (r : Rw) : Bool := match fo r.1 with
  | none => false
  | some ks => decide (r.2.length = ks.length) && (List.zipWith (fun n k => argOk k n) r.2 ks).all id
def lastN (r : Rw) : Int := r.2.getLast?.getD 0
def rowA (r : Rw) (i last : Int) : Bool := formed r && (decide (r.1 = "end") == decide (i = last)) && !(decide (r.1 ∈ skW) && decide (lastN r > last - i - 1))
def isC (c : List Rw) : Bool := decide (1 ≤ c.length ∧ c.length ≤ 20000) && (List.range c.length).all fun i => rowA (c.getD i ("", [])) i ((c.length : Int) - 1)
theorem walk_zipT {K : PySem.W.Frag} {a b : Addr} {xs ys : List V} {n : Nat} (hn : n = min xs.length ys.length) : Walk (RZ.ItzT K a b) n (fun H => SqT K H a xs ∧ SqT K H b ys) (YPair (fun i => xs[i]?) (fun i => ys[i]?)) := by
  have le1 : n ≤ xs.length := by omega
  have le2 : n ≤ ys.length := by omega
  constructor
  · intro j G hj hlt
    exact ⟨xs, ys, _, _, hlt.1, hlt.2, List.getElem?_eq_getElem (Nat.lt_of_lt_of_le hj le1), List.getElem?_eq_getElem (Nat.lt_of_lt_of_le hj le2)⟩
  · intro G hq
    exact ⟨xs, ys, hq.1, hq.2, by omega⟩
  · intro j G v G' _ hq hy
    obtain ⟨pr, u, z, ev, eG, ep, fu, fz⟩ := hy
    exact ⟨pr, u, z, ev, eG, ep, fu _ hq.1, fz _ hq.2⟩
/-- [elt for x, y in zip(tuple, tuple) if test], nothing changed -/
theorem lcZT {S : List Addr} {H1 : Hp} {K : PySem.W.Frag} {g : TG} {tt : TT} {te : TE} {vs : List Nat} {σ : L2.St} {Q : VK} {a b : Addr} {xs ys : List V} (f : Nat → Option PyData) (hS : Al S H1) (ha : SqT K H1 a xs) (hb : SqT K H1 b ys) (hl : xs.length = ys.length) (hz : xs.length < 1000)
    (step : ∀ (D : Addr) (i : Nat) (x y : V) (T : Addr) (H : Hp), H1 D = none → xs[i]? = some x → ys[i]? = some y → Same H1 H → Al (D :: S) H → H T = none →
      ∀ (R : V → Hp → Prop) (N : Hp → Prop), (∀ r z H4, f i = some r → Same (upd H T (.tup [x, y])) H4 → Dq (D :: S) H4 z r → R z H4) → (f i = none → ∀ H4, Same (upd H T (.tup [x, y])) H4 → N H4) →
      g (.ref T) (wipe σ vs) (upd H T (.tup [x, y])) fun σ2 H2 => wipe σ2 vs = wipe σ vs ∧ tt σ2 H2 fun b H3 => if b = true then te σ2 H3 R else N H3)
    (q : ∀ (D : Addr) (H : Hp), Same H1 H → H1 D = none → Dq S H (.ref D) (.list ((List.range xs.length).filterMap f)) → Q (.ref D) H) :
    lcK (RZ.ItzT K a b) g tt te vs σ H1 Q := by
  unfold lcK
  intro D hD
  refine lc_it (walk_zipT (xs := xs) (ys := ys) (n := xs.length) (by omega)) (CompAt S H1 D f) (CompAt.zero hD) ?_ ?_ ?_
  · intro i H _ h
    exact ⟨Fl.Same.t (sm_of hD h.fr) ha, Fl.Same.t (sm_of hD h.fr) hb⟩
  · intro i x H H' hi h ⟨T, y, z, e1, hT, e2, e3, e4⟩
    subst e1 e2
    have hsm : Same H1 H := sm_of hD h.fr
    exact step D i y z T H hD e3 e4 hsm (h.al hS hD) hT _ _ (fun r y H4 er s d => h.put (by omega) er ((Fl.Same.new hT).trans s) d) fun en H4 s => (h.same ((Fl.Same.new hT).trans s)).skip en
  · intro H h
    exact q D H (sm_of hD h.fr) hD (h.fin hS hD)
theorem bools_of {S : List Addr} {H : Hp} : ∀ {L : List Bool} {xs : List V}, DqA S H xs (L.map PyData.bool) → xs = L.map V.bl
  | [], xs, h => h.nilE
  | b :: L, xs, h => by
    obtain ⟨v, ws, rfl, hv, h⟩ := h.consE
    rw [hv.blE, bools_of h]
    rfl
theorem g_slTF {K : PySem.W.Frag} {a : Addr} {xs : List V} {k : Nat} {H : Hp} {Q : VK} (h : SqT K H a xs) (hk : 0 < k) (hx : xs ≠ []) (q : ∀ p, H p = none → Q (.ref p) (upd H p (.tup (xs.drop k)))) : rSlT K (.ref a) (some (k : Int)) none H Q := by
  refine g_slT h (fun z => ?_) (by rw [cut_from]; exact q)
  have e := z.1
  rw [HT.sIx_nat] at e
  have : 0 < xs.length := List.length_pos_iff.mpr hx
  omega
theorem g_slTT {K : PySem.W.Frag} {a : Addr} {xs : List V} {k : Nat} {H : Hp} {Q : VK} (h : SqT K H a xs) (hk : k < xs.length) (q : ∀ p, H p = none → Q (.ref p) (upd H p (.tup (xs.take k)))) : rSlT K (.ref a) none (some (k : Int)) H Q := by
  refine g_slT h (fun z => ?_) (by rw [cut_to]; exact q)
  have e := z.2
  rw [HT.sIx_nat] at e
  omega
theorem fo_kinds : ∀ w, w ∈ allW → ∀ k, k ∈ (fo w).getD [] → k ∈ (stL ["place", "number", "skip", "many"]) := by decide +kernel
theorem fo_len : ∀ w, w ∈ allW → ((fo w).getD []).length ≤ 3 := by decide +kernel
theorem sk_some : ∀ w, w ∈ allW → w ∈ skW → ∀ ks, fo w = some ks → 0 < ks.length := by
  have h : ∀ w, w ∈ allW → w ∈ skW → 0 < ((fo w).getD ["x"]).length := by decide +kernel
  intro w h1 h2 ks e
  have := h w h1 h2
  rw [e] at this
  exact this
theorem sk_ne {w : Str} {ns : List Int} (hw : w ∈ allW) (hf : formed (w, ns) = true) (hs : w ∈ skW) : ns ≠ [] := by
  intro e
  subst e
  unfold formed at hf
  simp only at hf
  cases h : fo w with
  | none => rw [h] at hf; cases hf
  | some ks =>
    rw [h] at hf
    simp at hf
    have := sk_some w hw hs ks h
    omega
theorem at_last {x : V} {ns : List Int} {w : Str} (h : ns ≠ []) : atI (x :: ns.map V.int) (-1) = some (.int (lastN (w, ns))) := by
  have hp : 0 < ns.length := List.length_pos_iff.mpr h
  have e : ns[ns.length - 1]? = some (lastN (w, ns)) := by
    unfold lastN
    rw [List.getLast?_eq_getElem?, List.getElem?_eq_getElem (by omega)]
    rfl
  have l : (x :: ns.map V.int).length = ns.length + 1 := by simp
  unfold atI ixN
  rw [if_neg (by decide), l, if_pos (by omega)]
  show (x :: ns.map V.int)[((-1 : Int) + ((ns.length + 1 : Nat) : Int)).toNat]? = _
  rw [show ((-1 : Int) + ((ns.length + 1 : Nat) : Int)).toNat = (ns.length - 1) + 1 by omega, List.getElem?_cons_succ, List.getElem?_map, e]
  rfl
/-! promises -/
structure RwIn (r : Rw) : Prop where
  w : r.1 ∈ allW
  n : r.2.length ≤ 40
def fFm (ds : List PyData) (d : PyData) : Prop := ∃ r : Rw, ds = [rwD r] ∧ RwIn r ∧ d = .bool (formed r)
def fIc (ds : List PyData) (d : PyData) : Prop := ∃ c : List Rw, ds = [coD c] ∧ c.length ≤ 100 ∧ (∀ r, r ∈ c → RwIn r) ∧ d = .bool (isC c)
/-! the law's words -/
def w7 : List Str := stL ["push", "size", "take", "jump", "jumpzero", "jumpsmall", "end"]
def f7 : List (Nat × Nat) := [(1, 2), (1, 1), (2, 2), (0, 1), (1, 2), (1, 3), (0, 1)]
def W8 : List (List Str) := List.map stL [["push", "size"], ["drop", "jumpzero", "repeat"], ["copy"], ["swap"], ["look", "go", "mode", "between", "jump", "call"], ["negate", "amount", "down", "up", "round", "not", "value", "load", "get", "origin"], ["add", "subtract", "multiply", "divide", "lesser", "greater", "less", "atmost", "equal", "and", "or"], ["setvalue", "save", "move", "set", "align"]]
def r4 : List Str := stL ["look", "go", "mode", "between", "jump", "call"]
def r5 : List Str := stL ["negate", "amount", "down", "up", "round", "not", "value", "load", "get", "origin"]
def r6 : List Str := stL ["add", "subtract", "multiply", "divide", "lesser", "greater", "less", "atmost", "equal", "and", "or"]
def r7 : List Str := stL ["setvalue", "save", "move", "set", "align"]
def cf (w : Str) : Option (Nat × Nat) := if w ∈ w7 then f7[w7.idxOf w]? else if w ∈ r5 ∨ w ∈ r7 then some (2, 2) else if w ∈ r6 then some (3, 3) else if w ∈ r4 ∧ w ≠ "call" then some (0, 1) else none
def rowB (r : Rw) (i last : Int) : Bool := match cf r.1 with
  | none => false
  | some f => decide (r.2.length = f.2) && ((r.2.take f.1).all fun n => decide (0 ≤ n ∧ n ≤ 63)) && (decide (r.1 = "end") == decide (i = last)) && !(decide (r.1 = "end") && !decide (0 ≤ r.2.getD 0 0 ∧ r.2.getD 0 0 ≤ 64)) && !(decide (r.1 ∈ skW) && (!decide (0 ≤ lastN r) || decide (i + 1 + lastN r > last)))
def cls : List (Option (List Str) × Option (Nat × Nat) × Bool × Bool) := List.map (fun (p : Option (List String) × Option (Nat × Nat) × Bool × Bool) => (p.1.map stL, p.2)) [(some ["place", "number"], some (1, 2), false, false), (some ["place"], some (1, 1), false, false), (some ["place", "place"], some (2, 2), false, false), (some ["place", "place", "place"], some (3, 3), false, false), (some ["number"], some (0, 1), false, false), (some ["skip"], some (0, 1), false, true), (some ["place", "skip"], some (1, 2), false, true), (some ["place", "number", "skip"], some (1, 3), false, true), (some ["many"], some (0, 1), true, false), (none, none, false, false)]
theorem cls_of : ∀ w, w ∈ allW → (fo w, cf w, decide (w = "end"), decide (w ∈ skW)) ∈ cls := by decide +kernel
theorem ap (n : Int) : argOk "place" n = decide (0 ≤ n ∧ n < 64) := by unfold argOk; rw [if_pos rfl]
theorem an (n : Int) : argOk "number" n = true := by unfold argOk; rw [if_neg (by decide), if_neg (by decide), decide_eq_true rfl]; rfl
theorem am (n : Int) : argOk "many" n = decide (0 ≤ n ∧ n ≤ 64) := by unfold argOk; rw [if_neg (by decide), if_pos rfl]
theorem as (n : Int) : argOk "skip" n = decide (0 ≤ n) := by unfold argOk; rw [if_neg (by decide), if_neg (by decide), decide_eq_false (by decide)]; rfl
theorem len4 (ns : List Int) : ns = [] ∨ (∃ a, ns = [a]) ∨ (∃ a b, ns = [a, b]) ∨ (∃ a b c, ns = [a, b, c]) ∨ ∃ a b c d t, ns = a :: b :: c :: d :: t := by
  match ns with
  | [] => exact .inl rfl
  | [a] => exact .inr (.inl ⟨a, rfl⟩)
  | [a, b] => exact .inr (.inr (.inl ⟨a, b, rfl⟩))
  | [a, b, c] => exact .inr (.inr (.inr (.inl ⟨a, b, c, rfl⟩)))
  | a :: b :: c :: d :: t => exact .inr (.inr (.inr (.inr ⟨a, b, c, d, t, rfl⟩)))
theorem rowAB (r : Rw) (hw : r.1 ∈ allW) (i last : Int) : rowA r i last = rowB r i last := by
  obtain ⟨w, ns⟩ := r
  have h := cls_of w hw
  simp only at hw
  simp only [cls, stL, List.map_cons, List.map_nil, Option.map_some, Option.map_none, List.mem_cons, Prod.mk.injEq, List.not_mem_nil, or_false] at h
  rw [Bool.eq_iff_iff]
  rcases h with ⟨h1, h2, h3, h4⟩ | ⟨h1, h2, h3, h4⟩ | ⟨h1, h2, h3, h4⟩ | ⟨h1, h2, h3, h4⟩ | ⟨h1, h2, h3, h4⟩ | ⟨h1, h2, h3, h4⟩ | ⟨h1, h2, h3, h4⟩ | ⟨h1, h2, h3, h4⟩ | ⟨h1, h2, h3, h4⟩ | ⟨h1, h2, h3, h4⟩ <;>
    (unfold rowA rowB formed; simp only [h1, h2, h3, h4]; rcases len4 ns with rfl | ⟨a, rfl⟩ | ⟨a, b, rfl⟩ | ⟨a, b, c, rfl⟩ | ⟨a, b, c, d, t, rfl⟩ <;> simp [ap, an, am, as, lastN, List.zipWith, decide_eq_false_iff_not] <;> first | omega | (simp only [decide_eq_true_eq]; omega) | (rw [decide_eq_true_iff]; omega) | (by_cases h0 : 0 ≤ a <;> simp [h0] <;> omega))
theorem isC_no {c : List Rw} {i : Nat} {r : Rw} (h : c[i]? = some r) (k : rowA r i ((c.length : Int) - 1) = false) : isC c = false := by
  have hi := (List.getElem?_eq_some_iff.mp h).1
  cases e : isC c with
  | false => rfl
  | true =>
    unfold isC at e
    rw [Bool.and_eq_true, List.all_eq_true] at e
    have := e.2 i (List.mem_range.mpr hi)
    rw [show c.getD i ("", []) = r by rw [List.getD_eq_getElem?_getD, h]; rfl, k] at this
    cases this
theorem isC_yes {c : List Rw} (h0 : 1 ≤ c.length ∧ c.length ≤ 20000) (h : ∀ (i : Nat) (r : Rw), c[i]? = some r → rowA r i ((c.length : Int) - 1) = true) : isC c = true := by
  unfold isC
  rw [Bool.and_eq_true, List.all_eq_true]
  refine ⟨decide_eq_true h0, fun i hi => ?_⟩
  have hi := List.mem_range.mp hi
  have e : c[i]? = some c[i] := List.getElem?_eq_getElem hi
  rw [show c.getD i ("", []) = c[i] by rw [List.getD_eq_getElem?_getD, e]; rfl]
  exact h i _ e
theorem isC_len {c : List Rw} (h : ¬ (1 ≤ c.length ∧ c.length ≤ 20000)) : isC c = false := by
  unfold isC
  rw [decide_eq_false h]
  rfl
/-! the dicts of the module -/
structure WdK (K : PySem.W.Frag) (P : Program) (w : World) (mg : Str → Option Value) : Prop where
  gF : mg "FORMS" = some (.ref (adr mg "FORMS"))
  kF : ∃ es n, KDict K w (adr mg "FORMS") es n
  fF : ∀ x, x ∈ allW → ∃ r, PySem.W.nsIn K (adr mg "FORMS") x = some r ∧ ∀ ks, tabF.lookup x = ks → match ks with
    | none => r = none
    | some ks => ∃ t, r = some (.ref t) ∧ ∀ H : Hp, SqT K H t (ks.map V.str)
  gW : mg "WORDS" = some (.ref (adr mg "WORDS"))
  kW : ∃ es n, KDict K w (adr mg "WORDS") es n
  fW : ∀ x, x ∈ allW → ∃ r, PySem.W.nsIn K (adr mg "WORDS") x = some r ∧ ∀ ks, tabW.lookup x = ks → match ks with
    | none => r = none
    | some ks => ∃ t, r = some (.ref t) ∧ ∀ H : Hp, SqT K H t (ks.map V.int)
  gB : mg "FORMS_BY_VALUES" = some (.ref (adr mg "FORMS_BY_VALUES"))
  kB : ∃ xs, KTup K P w (adr mg "FORMS_BY_VALUES") xs ∧ ∀ k : List Int, match tabB.lookup k with
    | none => (atKey xs k).map (·.2) = none
    | some ks => ∃ t, (atKey xs k).map (·.2) = some (.ref t) ∧ ∀ H : Hp, SqT K H t (ks.map V.str)
end Fl

set_option Elab.async false
set_option linter.all false
set_option maxRecDepth 100000
set_option maxHeartbeats 4000000
/-! straight code that is drawn and spoilt -/
namespace Fl
open PySem PySem.Spec PyProof.Rows L2
def strD (ws : List Str) : PyData := .list (ws.map .str)
def w8D : PyData := .list (W8.map strD)
theorem strs_dq {S : List Addr} {H : Hp} : ∀ {ws : List Str}, DqA S H (ws.map V.str) (ws.map PyData.str)
  | [] => .nil
  | x :: ws => .cons (.str x) (strs_dq (ws := ws))
theorem strs_of {S : List Addr} {H : Hp} : ∀ {xs : List V} {ws : List Str}, DqA S H xs (ws.map PyData.str) → xs = ws.map V.str
  | xs, [], h => h.nilE
  | xs, w :: ws, h => by
    obtain ⟨v, vs, rfl, hv, h2⟩ := h.consE
    cases hv
    rw [strs_of h2]
    rfl
theorem w8E {S : List Addr} {H : Hp} {v : V} (h : Dq S H v w8D) : ∃ a xs, v = .ref a ∧ a ∉ S ∧ H a = some (.lst xs) ∧ ∀ (i : Nat) (ws : List Str), W8[i]? = some ws → ∃ l, atI xs (i : Int) = some (.ref l) ∧ l ∉ S ∧ H l = some (.lst (ws.map V.str)) := by
  obtain ⟨a, xs, rfl, na, ha, hX⟩ := h.lstE
  refine ⟨a, xs, rfl, na, ha, fun i ws hi => ?_⟩
  obtain ⟨x, hx, dx⟩ := hX.getD (i := i) (d := strD ws) (by rw [List.getElem?_map, hi]; rfl)
  obtain ⟨l, ys, rfl, nl, hl, hY⟩ := dx.lstE
  rw [strs_of hY] at hl
  exact ⟨l, atI_nat hx, nl, hl⟩
theorem str_at {ws : List Str} {v : Int} (h0 : 0 ≤ v) (h1 : v < ws.length) : ∃ x, x ∈ ws ∧ atI (ws.map V.str) v = some (.str x) := by
  obtain ⟨k, rfl⟩ : ∃ k : Nat, v = (k : Int) := ⟨v.toNat, by omega⟩
  have hk : k < ws.length := by omega
  exact ⟨ws[k], List.getElem_mem hk, atI_nat (by rw [List.getElem?_map, List.getElem?_eq_getElem hk]; rfl)⟩
theorem fo_r5 : ∀ x, x ∈ r5 → x ∈ allW ∧ fo x = some (stL ["place", "place"]) ∧ x ≠ "end" ∧ x ∉ skW := by decide +kernel
theorem fo_r6 : ∀ x, x ∈ r6 → x ∈ allW ∧ fo x = some (stL ["place", "place", "place"]) ∧ x ≠ "end" ∧ x ∉ skW := by decide +kernel
theorem fo_r7 : ∀ x, x ∈ r7 → x ∈ allW ∧ fo x = some (stL ["place", "place"]) ∧ x ≠ "end" ∧ x ∉ skW := by decide +kernel
theorem fo_r4 : ∀ x, x ∈ r4.take 4 → x ∈ allW ∧ fo x = some (stL ["number"]) ∧ x ≠ "end" ∧ x ∉ skW := by decide +kernel
/-- a row that may stand in code, with so many behind it -/
structure RowOk (r : Rw) (left : Int) : Prop where
  w : r.1 ∈ allW
  n : r.2.length ≤ 3
  fm : formed r = true
  ne : r.1 ≠ "end"
  sk : r.1 ∈ skW → lastN r ≤ left - 1
theorem rowA_ok {r : Rw} {left i last : Int} (h : RowOk r left) (hl : left = last - i) (hp : 0 < left) : rowA r i last = true := by
  unfold rowA
  rw [h.fm, decide_eq_false h.ne, decide_eq_false (show ¬ i = last by omega)]
  by_cases k : r.1 ∈ skW
  · have := h.sk k
    rw [decide_eq_true k, decide_eq_false (show ¬ lastN r > last - i - 1 by omega)]
    rfl
  · rw [decide_eq_false k]
    rfl
theorem rowA_end {n : Int} {i last : Int} (h0 : 0 ≤ n) (h1 : n ≤ 64) (hl : i = last) : rowA ("end", [n]) i last = true := by
  have hf : fo "end" = some (stL ["many"]) := by decide +kernel
  have hs : ¬ (("end" : Str) ∈ skW) := by decide +kernel
  unfold rowA formed
  simp only [hf]
  rw [decide_eq_true hl, decide_eq_false hs]
  have : argOk "many" n = true := by rw [am]; exact decide_eq_true ⟨h0, h1⟩
  simp [stL, this]
theorem pl {n : Int} (h0 : 0 ≤ n) (h1 : n < 6) : argOk "place" n = true := by rw [ap]; exact decide_eq_true ⟨h0, by omega⟩
theorem ok_2 {x : Str} {a b left : Int} (h : x ∈ allW ∧ fo x = some (stL ["place", "place"]) ∧ x ≠ "end" ∧ x ∉ skW) (ha : 0 ≤ a) (ha' : a < 6) (hb : 0 ≤ b) (hb' : b < 6) : RowOk (x, [a, b]) left := by
  obtain ⟨h1, h2, h3, h4⟩ := h
  refine ⟨h1, by simp, ?_, h3, fun k => absurd k h4⟩
  unfold formed
  simp only [h2]
  simp [stL, pl ha ha', pl hb hb']
theorem ok_3 {x : Str} {a b c left : Int} (h : x ∈ allW ∧ fo x = some (stL ["place", "place", "place"]) ∧ x ≠ "end" ∧ x ∉ skW) (ha : 0 ≤ a) (ha' : a < 6) (hb : 0 ≤ b) (hb' : b < 6) (hc : 0 ≤ c) (hc' : c < 6) : RowOk (x, [a, b, c]) left := by
  obtain ⟨h1, h2, h3, h4⟩ := h
  refine ⟨h1, by simp, ?_, h3, fun k => absurd k h4⟩
  unfold formed
  simp only [h2]
  simp [stL, pl ha ha', pl hb hb', pl hc hc']
theorem ok_1 {x : Str} {n left : Int} (h : x ∈ allW ∧ fo x = some (stL ["number"]) ∧ x ≠ "end" ∧ x ∉ skW) : RowOk (x, [n]) left := by
  obtain ⟨h1, h2, h3, h4⟩ := h
  refine ⟨h1, by simp, ?_, h3, fun k => absurd k h4⟩
  unfold formed
  simp only [h2]
  simp [stL, an]
theorem w_push : ("push" : Str) ∈ allW ∧ fo "push" = some (stL ["place", "number"]) ∧ ("push" : Str) ≠ "end" ∧ ("push" : Str) ∉ skW := by decide +kernel
theorem w_size : ("size" : Str) ∈ allW ∧ fo "size" = some (stL ["place"]) ∧ ("size" : Str) ≠ "end" ∧ ("size" : Str) ∉ skW := by decide +kernel
theorem w_take : ("take" : Str) ∈ allW ∧ fo "take" = some (stL ["place", "place"]) ∧ ("take" : Str) ≠ "end" ∧ ("take" : Str) ∉ skW := by decide +kernel
theorem w_jump : ("jump" : Str) ∈ allW ∧ fo "jump" = some (stL ["skip"]) ∧ ("jump" : Str) ≠ "end" := by decide +kernel
theorem w_jumpzero : ("jumpzero" : Str) ∈ allW ∧ fo "jumpzero" = some (stL ["place", "skip"]) ∧ ("jumpzero" : Str) ≠ "end" := by decide +kernel
theorem w_jumpsmall : ("jumpsmall" : Str) ∈ allW ∧ fo "jumpsmall" = some (stL ["place", "number", "skip"]) ∧ ("jumpsmall" : Str) ≠ "end" := by decide +kernel
theorem ok_push {a n left : Int} (ha : 0 ≤ a) (ha' : a < 6) : RowOk ("push", [a, n]) left := by
  obtain ⟨h1, h2, h3, h4⟩ := w_push
  refine ⟨h1, by simp, ?_, h3, fun k => absurd k h4⟩
  unfold formed
  simp only [h2]
  simp [stL, pl ha ha', an]
theorem ok_size {a left : Int} (ha : 0 ≤ a) (ha' : a < 6) : RowOk ("size", [a]) left := by
  obtain ⟨h1, h2, h3, h4⟩ := w_size
  refine ⟨h1, by simp, ?_, h3, fun k => absurd k h4⟩
  unfold formed
  simp only [h2]
  simp [stL, pl ha ha']
theorem ok_take {a b left : Int} (ha : 0 ≤ a) (ha' : a < 6) (hb : 0 ≤ b) (hb' : b < 6) : RowOk ("take", [a, b]) left :=
  ok_2 w_take ha ha' hb hb'
theorem sk {n : Int} (h0 : 0 ≤ n) : argOk "skip" n = true := by rw [as]; exact decide_eq_true h0
theorem ok_jump {k left : Int} (hk : 0 ≤ k) (hk' : k ≤ left - 1) : RowOk ("jump", [k]) left := by
  obtain ⟨h1, h2, h3⟩ := w_jump
  refine ⟨h1, by simp, ?_, h3, fun _ => hk'⟩
  unfold formed
  simp only [h2]
  simp [stL, sk hk]
theorem ok_jumpzero {a k left : Int} (ha : 0 ≤ a) (ha' : a < 6) (hk : 0 ≤ k) (hk' : k ≤ left - 1) : RowOk ("jumpzero", [a, k]) left := by
  obtain ⟨h1, h2, h3⟩ := w_jumpzero
  refine ⟨h1, by simp, ?_, h3, fun _ => hk'⟩
  unfold formed
  simp only [h2]
  simp [stL, pl ha ha', sk hk]
theorem ok_jumpsmall {a n k left : Int} (ha : 0 ≤ a) (ha' : a < 6) (hk : 0 ≤ k) (hk' : k ≤ left - 1) : RowOk ("jumpsmall", [a, n, k]) left := by
  obtain ⟨h1, h2, h3⟩ := w_jumpsmall
  refine ⟨h1, by simp, ?_, h3, fun _ => hk'⟩
  unfold formed
  simp only [h2]
  simp [stL, pl ha ha', an, sk hk]
def fWds (ds : List PyData) (d : PyData) : Prop := ds = [] ∧ d = w8D
def spRow : Sp := fun vs H Q _ => ∃ (d s : Addr) (ns : List Int) (left : Int), vs = [.ref d, .int left] ∧ Dk d s ns H ∧ 0 < left ∧
  ∀ t H' r, Fr [d] H H' → Dk d s ns H' → (∀ S, Al S H → d ∈ S → Dq S H' (.ref t) (rwD r)) → RowOk r left → Q (.ref t) H'
end Fl

set_option Elab.async false
set_option linter.all false
set_option maxRecDepth 100000
set_option maxHeartbeats 4000000
/-! the machine's words -/
namespace Fl
open PySem PySem.Spec PyProof.Rows L2
structure WoK (K : PySem.W.Frag) (w : World) (mg : Str → Option Value) : Prop where
  gW : mg "WORDS" = some (.ref (adr mg "WORDS"))
  kW : ∃ es n, KDict K w (adr mg "WORDS") es n
  fW : ∀ x, x ∈ allW → ∃ r, PySem.W.nsIn K (adr mg "WORDS") x = some r ∧ ∀ ks, tabW.lookup x = ks → match ks with
    | none => r = none
    | some ks => ∃ t, r = some (.ref t) ∧ ∀ H : Hp, SqT K H t (ks.map V.int)
def effL : List Pr := [(0, 1), (1, 0), (1, 2), (2, 2), (0, 0), (1, 1), (2, 1), (2, 0)]
/-- what a word takes and puts -/
def eff (x : Str) : Option Pr := ((W8.zip effL).find? fun r => decide (x ∈ r.1)).map (·.2)
theorem eff_tab : ∀ x, x ∈ allW → tabW.lookup x = (eff x).map fun p => [p.1, p.2] := by decide +kernel
/-- max of three -/
def rMax3 : List V → Hp → VK → Prop := fun xs H Q => ∃ i j k, xs = [.int i, .int j, .int k] ∧ Q (.int (if k > (if j > i then j else i) then k else (if j > i then j else i))) H
theorem nu3 (i j k : Int) : nuMax3 (.int i) (.int j) (.int k) = some (.int (if k > (if j > i then j else i) then k else (if j > i then j else i))) := by
  by_cases h : i < j
  · by_cases h2 : j < k <;> simp [nuMax3, nuMax2, h, h2, nuLt, nuCB]
  · by_cases h2 : i < k <;> simp [nuMax3, nuMax2, h, h2, nuLt, nuCB]
theorem clMax3 {X : Cx} (hc : X.calm = true) : CallR X (.builtin "max") rMax3 := by
  intro pins s σ H xs us Q I r h
  obtain ⟨i, j, k, rfl, q⟩ := h
  exact call_max3Nu hc pins s σ H _ us Q I r ⟨_, _, _, _, rfl, nu3 i j k, q⟩
theorem g_cb3 {r : List V → Hp → VK → Prop} {ta tb tc : TE} {σ : L2.St} {H : Hp} {Q : VK} (h : ta σ H fun x H1 => tb σ H1 fun y H2 => tc σ H2 fun z H3 => r [x, y, z] H3 Q) : tCB r (tCons ta (tCons tb (tCons tc tNil))) σ H Q := h
theorem g_max3 {i j k : Int} {H : Hp} {Q : VK} (q : Q (.int (if k > (if j > i then j else i) then k else (if j > i then j else i))) H) : rMax3 [.int i, .int j, .int k] H Q := ⟨i, j, k, rfl, q⟩
end Fl

set_option Elab.async false
set_option linter.all false
set_option maxRecDepth 100000
set_option maxHeartbeats 4000000
/-! fonts in numbers, with all their parts; when they may be -/
namespace Fl
open PySem PySem.Spec PyProof.Rows L2
def i2 (p : Int × Int) : List PyData := [.int p.1, .int p.2]
def i3 (p : Int × Int × Int) : List PyData := [.int p.1, .int p.2.1, .int p.2.2]
def i4 (p : Int × Int × Int × Int) : List PyData := [.int p.1, .int p.2.1, .int p.2.2.1, .int p.2.2.2]
def s1i (p : Str × Int) : List PyData := [.str p.1, .int p.2]
def s3i (p : Str × Int × Int × Int) : List PyData := [.str p.1, .int p.2.1, .int p.2.2.1, .int p.2.2.2]
def ptL (p : Pt) : List PyData := [.int p.1, .int p.2.1, .bool p.2.2]
structure GlG where
  adv : Int
  outl : List (List Pt)
  parts : List (Int × Int × Int)
  anch : List (Str × Int × Int × Int)
  mark : Bool
  deltas : List (Int × Int × Int × Int)
  hint : List (Str × Int)
def GlG.R (g : GlG) : GlR := ⟨.int g.adv, g.outl.map fun c => c.map ptL, g.parts.map i3, g.anch.map s3i, .bool g.mark, g.deltas.map i4, g.hint.map s1i⟩
structure FoG where
  unit : Int
  glyphs : List GlG
  chars : List (Int × Int)
  lks : List LkR
  feats : List (Str × List Int)
  axes : List (Int × Int × Int)
  regs : List (List (Int × Int × Int))
  fns : List (List (Str × Int))
  pres : List Int
def FoG.R (f : FoG) : FoR := ⟨.int f.unit, f.glyphs.map GlG.R, f.chars.map i2, f.lks, f.feats.map fun p => (.str p.1, iD p.2), f.axes.map i3, f.regs.map fun r => r.map i3, f.fns.map fun c => c.map s1i, iD f.pres⟩
/-- a coordinate -/
def Crd (n : Int) : Prop := -16384 ≤ n ∧ n ≤ 16384
/-- an instruction that may be -/
def InsV (h : Str × Int) : Prop := h.1 ∈ allW ∧ tabW.lookup h.1 ≠ none ∧ -2147483648 ≤ h.2 ∧ h.2 ≤ 2147483647
structure GlG.Ok (n m : Nat) (g : GlG) : Prop where
  av : 0 ≤ g.adv ∧ g.adv ≤ 16384
  ou : prp g.outl = true
  oz : g.outl.length ≤ 40 ∧ ∀ c, c ∈ g.outl → c.length ≤ 200
  pt : g.parts.length < 900 ∧ ∀ p, p ∈ g.parts → 0 ≤ p.1 ∧ p.1 < n ∧ Crd p.2.1 ∧ Crd p.2.2
  an : g.anch.length < 900 ∧ ∀ a, a ∈ g.anch → a.1 ∈ (["base", "mark", "entry", "exit"] : List Str) ∧ 0 ≤ a.2.1 ∧ a.2.1 ≤ 9 ∧ Crd a.2.2.1 ∧ Crd a.2.2.2
  de : g.deltas.length < 900 ∧ ∀ d, d ∈ g.deltas → 0 ≤ d.1 ∧ d.1 < m ∧ -1 ≤ d.2.1 ∧ d.2.1 < cnt g.outl ∧ Crd d.2.2.1 ∧ Crd d.2.2.2
  hi : g.hint.length < 900 ∧ ∀ h, h ∈ g.hint → InsV h
def tentOk (t : Int × Int × Int) : Prop := -64 ≤ t.1 ∧ t.1 ≤ t.2.1 ∧ t.2.1 ≤ t.2.2 ∧ t.2.2 ≤ 64 ∧ (t.2.1 = 0 ∨ 0 ≤ t.1 ∨ t.2.2 ≤ 0)
/-- a font that may be; VL: its lookups may be -/
structure FoG.Ok (VL : FoR → LkR → Prop) (f : FoG) : Prop where
  un : 16 ≤ f.unit ∧ f.unit ≤ 16384
  gl : 1 ≤ f.glyphs.length ∧ f.glyphs.length ≤ 60
  go : ∀ g, g ∈ f.glyphs → g.Ok f.glyphs.length f.regs.length
  dp : ∃ dep : Nat → Nat, ∀ k g, f.glyphs[k]? = some g → dep k ≤ 4 ∧ ∀ p, p ∈ g.parts → dep p.1.toNat < dep k
  ch : f.chars.length < 900 ∧ ∀ (i : Nat) c, f.chars[i]? = some c → prv (f.chars.map Prod.fst) i < c.1 ∧ c.1 ≤ 1114111 ∧ 0 ≤ c.2 ∧ c.2 < f.glyphs.length
  lz : f.lks.length ≤ 20
  lr : ∀ k, k ∈ f.lks → k.ok
  lo : ∀ k, k ∈ f.lks → VL f.R k
  fe : f.feats.length ≤ 12 ∧ (f.feats.map Prod.fst).Nodup ∧ ∀ p, p ∈ f.feats → p.2.length < 900
  ax : f.axes.length ≤ 3 ∧ ∀ t, t ∈ f.axes → -16384 ≤ t.1 ∧ t.1 ≤ t.2.1 ∧ t.2.1 ≤ t.2.2 ∧ t.2.2 ≤ 16384
  re : f.regs.length ≤ 8 ∧ ∀ r, r ∈ f.regs → r.length = f.axes.length ∧ ∀ t, t ∈ r → tentOk t
  fn : f.fns.length ≤ 12 ∧ ∀ c, c ∈ f.fns → c.length < 900 ∧ ∀ h, h ∈ c → InsV h
  ps : f.pres.length ≤ 32 ∧ ∀ n, n ∈ f.pres → -32768 ≤ n ∧ n ≤ 32767
theorem GlG.rok {n m : Nat} {g : GlG} (h : g.Ok n m) : g.R.ok := by
  have h1 := h.oz.1
  have h2 := h.pt.1
  have h3 := h.an.1
  have h4 := h.de.1
  have h5 := h.hi.1
  refine ⟨(by intro e; cases e), (by intro e; cases e), ?_, fun c m => ?_, ?_, ?_, ?_, ?_⟩
  · show (g.outl.map _).length < 1000; rw [List.length_map]; omega
  · obtain ⟨c', m', rfl⟩ := List.mem_map.mp (show c ∈ g.outl.map fun c => c.map ptL from m)
    rw [List.length_map]
    have := h.oz.2 c' m'
    omega
  · show (g.parts.map _).length < 1000; rw [List.length_map]; omega
  · show (g.anch.map _).length < 1000; rw [List.length_map]; omega
  · show (g.deltas.map _).length < 1000; rw [List.length_map]; omega
  · show (g.hint.map _).length < 1000; rw [List.length_map]; omega
theorem FoG.rok {VL : FoR → LkR → Prop} {f : FoG} (h : f.Ok VL) : f.R.ok := by
  have h1 := h.gl.2
  have h2 := h.ch.1
  have h3 := h.lz
  have h4 := h.fe.1
  have h5 := h.ax.1
  have h6 := h.re.1
  have h7 := h.fn.1
  have h8 := h.ps.1
  refine ⟨(by intro e; cases e), ?_, fun g m => ?_, ?_, ?_, h.lr, ?_, ?_, ?_, ?_, ?_⟩
  · show (f.glyphs.map _).length < 1000; rw [List.length_map]; omega
  · obtain ⟨g', m', rfl⟩ := List.mem_map.mp (show g ∈ f.glyphs.map GlG.R from m)
    exact GlG.rok (h.go g' m')
  · show (f.chars.map _).length < 1000; rw [List.length_map]; omega
  · show f.lks.length < 1000; omega
  · show (f.feats.map _).length < 1000; rw [List.length_map]; omega
  · show (f.axes.map _).length < 1000; rw [List.length_map]; omega
  · show (f.regs.map _).length < 1000; rw [List.length_map]; omega
  · show (f.fns.map _).length < 1000; rw [List.length_map]; omega
  · show (f.pres.map _).length < 1000; rw [List.length_map]; omega
theorem ouD3_pt (o : List (List Pt)) : ouD3 (o.map fun c => c.map ptL) = ouD o := by
  unfold ouD3 ouD
  rw [List.map_map]
  congr 1
  apply List.map_congr_left
  intro c _
  show PyData.list ((c.map ptL).map PyData.tuple) = PyData.list (c.map ptD)
  rw [List.map_map]
  rfl
theorem ltD_map {α : Type} (f : α → List PyData) (l : List α) : ltD (l.map f) = .list (l.map fun x => .tuple (f x)) := by
  unfold ltD
  rw [List.map_map]
  rfl
/-- a comprehension of truths that are all so -/
theorem allYes {K : PySem.W.Frag} {S : List Addr} {H : Hp} {Q : VK} {D : Addr} {α : Type} {L : List α} (hq : Dq S H (.ref D) (.list (L.map fun _ => .bool true))) (q : Q (.bl true) H) : rAll K [.ref D] H Q := by
  obtain ⟨_, xs, e, _, hb, hD⟩ := hq.lstE
  cases e
  have : ∀ (L : List α) (xs : List V), DqA S H xs (L.map fun _ => .bool true) → xs = (L.map fun _ => true).map V.bl := by
    intro L
    induction L with
    | nil => intro xs h; cases h; rfl
    | cons a L ih =>
      intro xs h
      rw [List.map_cons] at h
      obtain ⟨v, ws, rfl, hv, h2⟩ := h.consE
      cases hv.blE
      rw [ih ws h2]
      rfl
  rw [this L xs hD] at hb
  refine g_allL (SqL.of hb) ?_
  rw [show (L.map fun _ => true).all id = true by simp]
  exact q
end Fl

set_option Elab.async false
set_option linter.all false
set_option maxRecDepth 100000
set_option maxHeartbeats 4000000
set_option exponentiation.threshold 20000
/-! own errors with one field, a number -/
namespace Fl
open PySem PySem.Spec PyProof.Rows L2
structure ClsN1 (K : PySem.W.Frag) (mg : Str → Option Value) (x qual : Str) (st : Stmt) (f : Str) : Prop where
  g : mg x = some (.ref (adr mg x))
  o : OexC K (adr mg x)
  n : PySem.W.findIn K (.ref (adr mg x)) f = some none
  r : XfC K (adr mg x)
  i : ∃ (fI : Addr) (fd : FuncData), PySem.W.findIn K (.ref (adr mg x)) "__init__" = some (some (.ref fI)) ∧ PySem.W.typeIn K (.ref fI) = some (.type "function") ∧ Fun K "__init__" qual st fI fd
def spIniN1 (C : Addr) (f : Str) : Sp := fun vs H Q _ => ∃ (a : Addr) (i : Int), vs = [.ref a, .int i] ∧ i.natAbs < 10000 ∧ H a = some (exo a C none) ∧ ∀ dx, H dx = none → dx ≠ a → Q .non (upd (upd H dx (exd dx [(f, .int i)])) a (exo a C (some dx)))
structure MkN1 (P : Program) (w : World) (K : PySem.W.Frag) (mg : Str → Option Value) (base : Heap) (k : Nat) (x f : Str) (ps : List Str) : Prop where
  g : mg x = some (.ref (adr mg x))
  o : OexC K (adr mg x)
  i : ∃ (fI : Addr) (fd : FuncData), PySem.W.findIn K (.ref (adr mg x)) "__init__" = some (some (.ref fI)) ∧ PySem.W.typeIn K (.ref fI) = some (.type "function") ∧ FnOk P w K mg base L2.CX0 k fI fd ps (spIniN1 (adr mg x) f) ∧ L2.Binds K fd ps []
def tRaiseN1 (W : WX) (C : Addr) (f : Str) (ta : TA) : TS := fun _ σ H => tMkO C (spIniN1 C f) [] ta σ H fun cls d H' => W cls d σ H'
theorem ps_raiseN1 {X : Cx} {W : WX} {k : Nat} {x f : Str} {ps : List Str} {e : Expr} {ta : TA} {p pos pos2 : Pos} (M : MkN1 X.prog X.w X.K X.mg X.base k x f ps) (hc : X.calm = true) (hr : Room (k + 1) X.A) (tk : Takes X W) (ha : PA X [e] ta) (hg : Gl X x := by rfl) (hdb : (x == ("__debug__" : Str)) = false := by decide)
    (he : starEach [e] X.env = (false, eval e X.env) :: starEach [] X.env := by rfl) (hpl : (backTo pos (starEach [] X.env)).any (·.1) = false := by rfl) :
    PS X (.Raise (some (.Call (.Name x p) [e] [] pos)) none pos2) (tRaiseN1 W (adr X.mg x) f ta) := by
  obtain ⟨fI, fd, iC, tI, F, b⟩ := M.i
  exact ⟨fun pins s σ H D I h => (ps_raise hc tk (pmk_oex (CX := L2.CX0) M.o iC tI F hr b .nil (fun _ _ _ _ _ _ _ z => z.elim) hg M.g ha hdb he hpl)).run pins s σ H D I h⟩
theorem g_raiseN1 {W : WX} {C : Addr} {f : Str} {i : Int} {ta : TA} {D : Ends} {σ : L2.St} {H : Hp} (hta : ∀ R : List V → Hp → Prop, R [.int i] H → ta σ H R) (hi : i.natAbs < 10000) (h : ∀ dx, H dx = none → W (.ref C) (some dx) σ (upd H dx (.xd [(f, .int i)]))) : tRaiseN1 W C f ta D σ H := by
  refine hta _ ⟨by simp, fun a ha => ⟨a, i, rfl, hi, upd_same, fun dx hd hne => ⟨rfl, dx, [(f, .int i)], upd_same, by rw [upd_ne hne, upd_same], by rw [upd_ne hne] at hd; exact hd, ?_⟩⟩⟩
  rw [upd_ne hne] at hd
  have e : upd (del (upd (upd (upd H a (exo a C none)) dx (exd dx [(f, .int i)])) a (exo a C (some dx))) a) dx (.xd [(f, .int i)]) = upd H dx (.xd [(f, .int i)]) := by
    funext b
    by_cases h1 : b = dx
    · rw [h1, upd_same, upd_same]
    · rw [upd_ne h1, upd_ne h1]
      by_cases h2 : b = a
      · rw [h2, del_same, ha]
      · rw [del_ne h2, upd_ne h2, upd_ne h1, upd_ne h2]
  rw [e]
  exact h dx hd
section
variable {P : Program} {w : World} {K : PySem.W.Frag} {mg : Str → Option Value} {base : Heap}
theorem mkN1_of {x qual f : Str} {st : Stmt} {k : Nat} {N ps : List Str} (C : ClsN1 K mg x qual st f) (hps : ps.length = 2) (S : FnScope N ps (defScope st))
    (hb : ∀ (kV doc pm : Value) (an : Option Addr) (cdv ct : Value) (us : List Value), us.length = ps.length → bindArgs (PySem.W.fnOf "__init__" qual (defArgs st) (defBody st) (defScope st) .none kV doc pm an cdv ct) ⟨us, []⟩ = pure (ps.zip us))
    (hbody : ∀ (fa : Addr) (cdv : Value) (A : Around) (outer : List Env) (s : Shared) (H : Hp) (a : Addr) (i : Int) (Q : VK) (E : XK), Room k (A.deeper (envOfC qual (defScope st) s.heap.objs.size fa cdv)) → i.natAbs < 10000 → H a = some (exo a (adr mg x) none) →
      (∀ dx, H dx = none → dx ≠ a → Q .non (upd (upd H dx (exd dx [(f, .int i)])) a (exo a (adr mg x) (some dx)))) →
      ∃ t, PSs (cxOf L2.CX0 P w K mg base N qual (defScope st) fa cdv A outer s H E).nox (defBody st) t ∧ t { nx := fun _ H' => Q .non H', rt := Q } (start N [.ref a, .int i]) H) : MkN1 P w K mg base (k + 1) x f ps := by
  obtain ⟨fI, fd, iC, tI, F⟩ := C.i
  refine ⟨C.g, C.o, fI, fd, iC, tI, F.ok S (fun vs H Q E ⟨a, i, e, _⟩ => by rw [e, hps]; rfl) fun cdv A outer s H vs Q E hr ⟨a, i, e, hi, h, q⟩ => ?_, F.binds hb⟩
  subst e
  exact hbody fI cdv A outer s H a i Q E hr hi h q
end
end Fl

set_option Elab.async false
set_option linter.all false
set_option maxRecDepth 100000
set_option maxHeartbeats 4000000
/-! [f(y) for x in xs for y in x] -/
namespace Fl
open PySem PySem.Spec PyProof.Rows L2
section
variable {S : List Addr} {H1 : Hp} {Q : VK} {K : PySem.W.Frag}
theorem lcLM {a : Addr} {es : List (List PyData)} {f : PyData → PyData} {g1 : TG} {te : TE} {vs vs1 : List Nat} {σ : L2.St} {i0 : Nat} (hS : Al S H1) (ha : Dq S H1 (.ref a) (.list (es.map PyData.list))) (hz : es.flatten.length < 1000)
    (hw : ∀ x, wipe ((wipe σ vs).set i0 (some x)) vs = wipe σ vs) (hi0 : ∀ x, ((wipe σ vs).set i0 (some x))[i0]? = some (some x))
    (step : ∀ (D : Addr) (e : PyData) (x x2 : V) (H : Hp), H1 D = none → e ∈ es.flatten → Same H1 H → Al (D :: S) H → Dq (D :: S) H x2 e → ∀ (R : V → Hp → Prop), (∀ y H4, Same H H4 → Dq (D :: S) H4 y (f e) → R y H4) →
      g1 x2 (wipe ((wipe σ vs).set i0 (some x)) vs1) H fun σ2 H2 => wipe σ2 vs1 = wipe ((wipe σ vs).set i0 (some x)) vs1 ∧ te σ2 H2 R)
    (q : ∀ (D : Addr) (H : Hp), Same H1 H → H1 D = none → Dq S H (.ref D) (.list (es.flatten.map f)) → Q (.ref D) H) :
    lc2K (Itl K a) (gName i0) tYes (iList K (tVar i0)) g1 tYes te vs vs1 σ H1 Q := by
  intro D hD
  obtain ⟨a', xs, ea, na, hxs, hall⟩ := ha.lstE
  cases ea
  have hlx := hall.len
  rw [List.length_map] at hlx
  have hDa : a ≠ D := fun e => by rw [e, hD] at hxs; cases hxs
  have hDS : D ∉ S := hS.ni hD
  refine ⟨fun i m H => m = xs.length - i ∧ i ≤ xs.length ∧ FlatAt S H1 D ((es.take i).flatten.map f) H, ⟨_, rfl, Nat.zero_le _, ⟨⟨[], upd_same, .nil⟩, Fr.same (Fl.Same.new hD)⟩⟩, ?_⟩
  rintro i m H ⟨rfl, hle, F⟩
  have hsm : Same H1 H := sm_of hD F.fr
  have qa : SqL K H a xs := SqL.of (F.fr a _ (by simpa using hDa) hxs)
  by_cases hlt : i < xs.length
  · refine .inr ⟨⟨xs, xs[i], qa, by simp [hlt]⟩, FlatAt S H1 D ((es.take (i + 1)).flatten.map f), fun H' p => ⟨xs.length - (i + 1), by omega, rfl, hlt, p⟩, fun x H' y => ?_⟩
    obtain ⟨e, y⟩ := y
    subst e
    have hx := y xs qa
    refine g_name ⟨hw x, g_yesI ?_⟩
    obtain ⟨e, he, dx⟩ := ((hall.new hD).same hsm).getM hx
    obtain ⟨b, zs, rfl, nb, hb, hB⟩ := dx.lstE
    have hDb : b ≠ D := fun e => nb (by rw [e]; simp)
    have hlz := hB.len
    have hflat : (es.take (i + 1)).flatten = (es.take i).flatten ++ e := by
      rw [List.take_succ, he, List.flatten_append]
      simp
    have hsub : (es.take (i + 1)).flatten.length ≤ es.flatten.length := by
      conv => rhs; rw [← List.take_append_drop (i + 1) es, List.flatten_append, List.length_append]
      omega
    have hmem : ∀ z, z ∈ e → z ∈ es.flatten := fun z m => List.mem_flatten.mpr ⟨e, List.mem_of_getElem? he, m⟩
    refine g_il (g_var (hi0 _) (g_el (SqL.of hb) ?_))
    refine ⟨fun j k H => k = zs.length - j ∧ j ≤ zs.length ∧ FlatAt S H1 D (((es.take i).flatten ++ e.take j).map f) H ∧ Fr [D] H' H, ⟨_, rfl, Nat.zero_le _, by simpa using F, Fr.refl⟩, ?_⟩
    rintro j k H2 ⟨rfl, hj, F2, f2⟩
    have qb : SqL K H2 b zs := SqL.of (f2 b _ (by simpa using hDb) hb)
    by_cases hjl : j < zs.length
    · refine .inr ⟨⟨zs, zs[j], qb, by simp [hjl]⟩, fun H => FlatAt S H1 D (((es.take i).flatten ++ e.take (j + 1)).map f) H ∧ Fr [D] H' H, fun H3 p => ⟨zs.length - (j + 1), by omega, rfl, hjl, p⟩, fun x2 H3 y2 => ?_⟩
      obtain ⟨e2, y2⟩ := y2
      subst e2
      have hx2 := y2 zs qb
      obtain ⟨⟨acc, hacc, hA⟩, hf⟩ := F2
      have hfS : Fr (D :: S) H' H3 := f2.mono fun b m => by simpa using Or.inl (show b = D by simpa using m)
      obtain ⟨e', he', dx2⟩ := (hB.fr hfS).get hx2
      have hal := hA.len
      rw [List.length_map] at hal
      have hlen : ((es.take i).flatten ++ e.take j).length < 1000 := by
        rw [hflat] at hsub
        rw [List.length_append] at hsub ⊢
        rw [List.length_take]
        omega
      have al3 : Al (D :: S) H3 := .cons (by rw [hacc]; simp) (hS.same (sm_of hD hf))
      have st := step D e' (.ref b) x2 H3 hD (hmem e' (List.mem_of_getElem? he')) (sm_of hD hf) al3 dx2 (fun y H7 => ∃ acc, H7 D = some (.lst acc) ∧ acc.length < sizeLine ∧ (FlatAt S H1 D (((es.take i).flatten ++ e.take (j + 1)).map f) (upd H7 D (.lst (acc ++ [y]))) ∧ Fr [D] H' (upd H7 D (.lst (acc ++ [y]))))) (fun y H7 sm7 dy => ?_)
      · exact st
      · refine ⟨acc, sm7 _ _ hacc, ?_, ⟨⟨acc ++ [y], upd_same, ?_⟩, (hf.trans (Fr.same sm7)).trans (Fr.upd (by simp))⟩, (f2.trans (Fr.same sm7)).trans (Fr.upd (by simp))⟩
        · have : (1000 : Nat) ≤ sizeLine := by decide
          omega
        · rw [List.take_succ, he', ← List.append_assoc, List.map_append]
          exact ((hA.same sm7).app (.one dy)).fr (Fr.upd (by simp))
    · have ej : j = zs.length := by omega
      subst ej
      refine .inl ⟨⟨zs, qb, Nat.le_refl _⟩, ?_⟩
      rw [hflat]
      rw [List.take_of_length_le (l := e) (i := zs.length) (by omega)] at F2
      exact F2
  · have e : i = xs.length := by omega
    subst e
    refine .inl ⟨⟨xs, qa, Nat.le_refl _⟩, ?_⟩
    rw [List.take_of_length_le (by omega)] at F
    obtain ⟨⟨acc, hacc, hA⟩, hf⟩ := F
    exact q D _ hsm hD (.lst hDS hacc hA.tail)
end
end Fl

set_option Elab.async false
set_option linter.all false
set_option maxRecDepth 100000
set_option maxHeartbeats 4000000
/-! own classes made with values alone -/
namespace Fl
open PySem PySem.Spec PyProof.Rows L2
structure MkP (P : Program) (w : World) (K : PySem.W.Frag) (mg : Str → Option Value) (base : Heap) (k : Nat) (x : Str) (sp : Sp) : Prop where
  ex : ∃ (f : Addr) (fd : FuncData) (ps : List Str), mg x = some (.ref (adr mg x)) ∧ Mk K (adr mg x) f ∧ FnOk P w K mg base L2.CX0 k f fd ps sp ∧ L2.Binds K fd ps []
theorem InI.makeP {P : Program} {w : World} {K : PySem.W.Frag} {mg : Str → Option Value} {base : Heap} {x qual : Str} {st : Stmt} {fs : List Str} {kws : List (Str × V)} {ps : List Str} {k : Nat} {sp : Sp} (D : InI P w K mg base k x qual st fs kws ps sp)
    (hb : ∀ (kV doc pm : Value) (an : Option Addr) (cdv ct : Value) (us : List Value), us.length = ps.length → bindArgs (PySem.W.fnOf "__init__" qual (defArgs st) (defBody st) (defScope st) .none kV doc pm an cdv ct) ⟨us, []⟩ = pure (ps.zip us)) :
    MkP P w K mg base k x sp := by
  obtain ⟨f, fd, a, M, F, G⟩ := D.ex
  exact ⟨f, fd, ps, a, M, G, F.bindsN hb⟩
theorem pe_mkP {X : Cx} {mg : Str → Option Value} {k : Nat} {x : Str} {sp : Sp} {e : Expr} {es : List Expr} {t : TA} {p pos : Pos} (em : X.mg = mg) (h : MkP X.prog X.w X.K X.mg X.base k x sp) (hr : Room (k + 1) X.A) (ha : PA X (e :: es) t) (hg : Gl X x := by rfl)
    (hdb : (x == ("__debug__" : Str)) = false := by decide) (he : starEach (e :: es) X.env = (false, eval e X.env) :: starEach es X.env := by rfl) (hpl : (backTo pos (starEach es X.env)).any (·.1) = false := by rfl) :
    PE X (.Call (.Name x p) (e :: es) [] pos) (tMake (adr mg x) sp [] E0 t) := by
  subst em
  obtain ⟨f, fd, ps, a, b, c, d⟩ := h.ex
  exact pe_make b c hr hg a d .nil pass0 ha hdb he hpl
theorem g_mkP {C : Addr} {sp : Sp} {E : XK} {t : TA} {σ : L2.St} {H : Hp} {Q : VK} (h : t σ H fun vs H1 => ∀ x dx, H1 x = none → H1 dx = none → dx ≠ x → sp (.ref x :: (vs ++ [])) (upd (upd H1 dx (.own x)) x (.ins C dx [])) (fun v H2 => v = .non ∧ Q (.ref x) H2) E) : tMake C sp [] E t σ H Q := h
end Fl

set_option Elab.async false
set_option linter.all false
set_option maxRecDepth 100000
set_option maxHeartbeats 4000000
/-! calls of own defs within an except suite -/
namespace Fl
open PySem PySem.Spec PyProof.Rows L2 L2H HotX
structure HasH (P : Program) (w : World) (K : PySem.W.Frag) (mg : Str → Option Value) (base : Heap) (k : Nat) (x : Str) (ps : List Str) (sp : Sp) : Prop where
  ex : ∃ (f : Addr) (fd : FuncData), FnH P w K mg base L2.CX0 k f fd ps sp ∧ mg x = some (.ref f) ∧ PySem.W.keepIn K (.ref f) = true ∧ L2.Binds K fd ps []
abbrev bxH (P : Program) (w : World) (K : PySem.W.Frag) (mg : Str → Option Value) (base : Heap) (N : List Str) (x : Str) (st : Stmt) (f : Addr) (cdv : Value) (A : Around) (outer : List Env) (s : Shared) (H : Hp) (E : XK) (p : Addr × Obj) : Cx :=
  cxH L2.CX0 P w K mg base N x (defScope st) f cdv A outer s H E p
theorem hasH_of {P : Program} {w : World} {K : PySem.W.Frag} {mg : Str → Option Value} {base : Heap} {x : Str} {st : Stmt} {N ps : List Str} {k : Nat} {sp : Sp} (D : DefIn K mg x st) (S : FnScope N ps (defScope st))
    (hb : ∀ (kV doc pm : Value) (an : Option Addr) (cdv ct : Value) (us : List Value), us.length = ps.length → bindArgs (PySem.W.fnOf x x (defArgs st) (defBody st) (defScope st) .none kV doc pm an cdv ct) ⟨us, []⟩ = pure (ps.zip us))
    (len : ∀ vs H Q E, sp vs H Q E → vs.length = ps.length)
    (hbody : ∀ (f : Addr) (cdv : Value) (A : Around) (outer : List Env) (s : Shared) (H : Hp) (vs : List V) (Q : VK) (E : XK) (p : Addr × Obj), Hot1 A p → RoomH k (A.deeper (envOfC x (defScope st) s.heap.objs.size f cdv)) → sp vs H Q E →
      ∃ t, PSs (bxH P w K mg base N x st f cdv A outer s H E p) (defBody st) t ∧ t { nx := fun _ H' => Q .non H', rt := Q } (start N vs) H) : HasH P w K mg base (k + 1) x ps sp := by
  obtain ⟨f, fd, F, m⟩ := D.ex
  refine ⟨f, fd, ?_, m, F.kp, F.binds hb⟩
  obtain ⟨oc, od, kV, doc, pm, an, cdv, ct, osl, rfl, lk, hcd⟩ := F.ex
  exact fn_ofH lk hcd S len fun A outer s H vs Q E p hot hr hsp => hbody f cdv A outer s H vs Q E p hot hr hsp
theorem roomH_mk {k : Nat} {A : Around} {h : Option Value} (r : Room k A) : RoomH k (A.mark h) := ⟨r.dp, r.un⟩
theorem hotC_of {X : Cx} {a : Addr} {oe : Obj} {cls : Value} {d : Option Addr} (hz : L2N.Zn cls d oe) (hf : ∃ vs, oe.data = .fields vs) (hA : X.A.handled = some (.ref a)) (hp : (a, oe) ∈ X.pn) : HotC X := by
  obtain ⟨vs, hd⟩ := hf
  exact ⟨(a, oe), ⟨hA, vs, hd, hz.2.2 vs hd⟩, hp⟩
theorem pe_hH {X : Cx} {k : Nat} {x : Str} {ps : List Str} {sp : Sp} {e : Expr} {es : List Expr} {t : TA} {p pos : Pos} (h : HasH X.prog X.w X.K X.mg X.base k x ps sp) (hr : RoomH k X.A) (hc : HotC X) (ha : PA X (e :: es) t) (hg : Gl X x := by rfl)
    (hdb : (x == ("__debug__" : Str)) = false := by decide) (he : starEach (e :: es) X.env = (false, eval e X.env) :: starEach es X.env := by rfl) (hpl : (backTo pos (starEach es X.env)).any (·.1) = false := by rfl) :
    PE X (.Call (.Name x p) (e :: es) [] pos) (tCallS sp (fun _ => L2.E0) t) := by
  obtain ⟨f, fd, a, b, c, d⟩ := h.ex
  exact pe_callH a hr hc hg b c d (fun _ _ _ _ _ _ _ z => z.elim) ha hdb he hpl

/-! own errors raised where nothing is handled, known to have no context -/
theorem takes0N {X : Cx} : L2N.Takes X (fun _ _ _ _ => False) := by
  intro u s' x
  obtain ⟨a, B, sI, pins, σ, H, cls, d, e, I, nb, up, sky, na, os, ag, z⟩ := x
  exact z.elim
structure HasXN (P : Program) (w : World) (K : PySem.W.Frag) (mg : Str → Option Value) (base : Heap) (k : Nat) (x : Str) (ps : List Str) (sp : Sp) : Prop where
  ex : ∃ (f : Addr) (fd : FuncData), FnOk P w K mg base (L2N.CX P w) k f fd ps sp ∧ mg x = some (.ref f) ∧ PySem.W.keepIn K (.ref f) = true ∧ L2.Binds K fd ps []
abbrev bxXN (P : Program) (w : World) (K : PySem.W.Frag) (mg : Str → Option Value) (base : Heap) (N : List Str) (x : Str) (st : Stmt) (f : Addr) (cdv : Value) (A : Around) (outer : List Env) (s : Shared) (H : Hp) (E : XK) : Cx :=
  cxOf (L2N.CX P w) P w K mg base N x (defScope st) f cdv A outer s H E
theorem hasXN_of {P : Program} {w : World} {K : PySem.W.Frag} {mg : Str → Option Value} {base : Heap} {x : Str} {st : Stmt} {N ps : List Str} {k : Nat} {sp : Sp} (D : DefIn K mg x st) (S : FnScope N ps (defScope st))
    (hb : ∀ (kV doc pm : Value) (an : Option Addr) (cdv ct : Value) (us : List Value), us.length = ps.length → bindArgs (PySem.W.fnOf x x (defArgs st) (defBody st) (defScope st) .none kV doc pm an cdv ct) ⟨us, []⟩ = pure (ps.zip us))
    (len : ∀ vs H Q E, sp vs H Q E → vs.length = ps.length)
    (hbody : ∀ (f : Addr) (cdv : Value) (A : Around) (outer : List Env) (s : Shared) (H : Hp) (vs : List V) (Q : VK) (E : XK), Room k (A.deeper (envOfC x (defScope st) s.heap.objs.size f cdv)) → sp vs H Q E →
      ∃ t, PSs (bxXN P w K mg base N x st f cdv A outer s H E) (defBody st) t ∧ t { nx := fun _ H' => Q .non H', rt := Q } (start N vs) H) : HasXN P w K mg base (k + 1) x ps sp := by
  obtain ⟨f, fd, F, m⟩ := D.ex
  refine ⟨f, fd, ?_, m, F.kp, F.binds hb⟩
  obtain ⟨oc, od, kV, doc, pm, an, cdv, ct, osl, rfl, lk, hcd⟩ := F.ex
  exact fn_of lk hcd S len fun A outer s H vs Q E hr hsp => hbody f cdv A outer s H vs Q E hr hsp
theorem pe_hXN {X : Cx} {k : Nat} {x : Str} {ps : List Str} {sp : Sp} {W : WX} {e : Expr} {es : List Expr} {t : TA} {p pos : Pos} (h : HasXN X.prog X.w X.K X.mg X.base k x ps sp) (hr : Room k X.A) (tk : L2N.Takes X W) (ha : PA X (e :: es) t) (hg : Gl X x := by rfl)
    (hdb : (x == ("__debug__" : Str)) = false := by decide) (he : starEach (e :: es) X.env = (false, eval e X.env) :: starEach es X.env := by rfl) (hpl : (backTo pos (starEach es X.env)).any (·.1) = false := by rfl) :
    PE X (.Call (.Name x p) (e :: es) [] pos) (tCallS sp (WE W) t) := by
  obtain ⟨f, fd, a, b, c, d⟩ := h.ex
  exact pe_callS a hr hg b c d (fun σ => L2N.passAt tk σ) ha hdb he hpl
/-- an own error made of one value, its __init__ keeping sp -/
theorem pmk1N {X : Cx} {x : Str} {e : Expr} {ta : TA} {p pos : Pos} {C fI : Addr} {k : Nat} {fd : FuncData} {ps : List Str} {sp : Sp} (T : OexC X.K C) (iC : PySem.W.findIn X.K (.ref C) "__init__" = some (some (.ref fI))) (tI : PySem.W.typeIn X.K (.ref fI) = some (.type "function"))
    (F1 : FnOk X.prog X.w X.K X.mg X.base L2.CX0 k fI fd ps sp) (hr : Room (k + 1) X.A) (hb : L2.Binds X.K fd ps []) (hg : Gl X x) (hm : X.mg x = some (.ref C)) (ha : PA X [e] ta)
    (hdb : (x == ("__debug__" : Str)) = false) (he : starEach [e] X.env = (false, eval e X.env) :: starEach [] X.env) (hpl : (backTo pos (starEach [] X.env)).any (·.1) = false) :
    L2N.PMk X (.Call (.Name x p) [e] [] pos) (tMkO C sp [] ta) := fun pins s σ H Q I h => by
  obtain ⟨_, _, _, _, bm, _, _, _, _, _, _, _, _, _, _, hC, hbm⟩ := T.cls
  refine wpAny_Call_Name_kw (ld_glob I hg hm (PySem.W.callWith_K (h₀ := X.base) I.ok.mod.kin T.kC (thn (ha.run pos pins s σ H _ I h) fun us s1 hs => ?_) he hpl) hdb)
  obtain ⟨vs, H1, I1, r1, _, q1⟩ := hs
  refine ⟨I1.kIn, ?_⟩
  obtain ⟨hp, g, dr, tk, os⟩ := s1
  let n := hp.objs.size
  let G := (hp.push (PySem.W.kdv_tup us)).push (PySem.HandSPX.excO C n)
  have up : n ≤ n + 1 := Nat.le_succ _
  have hq := q1 (n + 1) (I1.hok.fresh up)
  rw [List.append_nil] at hq
  have kk : ∀ b o, hp.get? b = some o → G.get? b = some o := fun b o z => Heap.get?_push_of_some _ (Heap.get?_push_of_some _ z)
  have at1 : G.get? (n + 1) = some (PySem.HandSPX.excO C n) := by
    show ((hp.push (PySem.W.kdv_tup us)).push (PySem.HandSPX.excO C hp.objs.size)).get? (hp.objs.size + 1) = some (PySem.HandSPX.excO C hp.objs.size)
    heap_get
  have I2 : Inv X pins σ (upd H1 (n + 1) (exo (n + 1) C none)) ⟨G, g, dr, tk, os⟩ := I1.laid (t' := tk) (a := n + 1) (o := exo (n + 1) C none) (h' := G) kk up (exo_ok at1)
  have r2 : Vals (V.ref (n + 1) :: vs) (Value.ref (n + 1) :: us) := .cons rfl r1
  have hl : (Value.ref (n + 1) :: us ++ []).length = ps.length := by rw [List.append_nil]; exact r2.length.symm.trans (F1.len _ _ _ _ hq)
  have b2 := hb _ (Value.ref (n + 1) :: us) I2.kIn hl
  rw [List.append_nil] at b2
  have hus : us.length ≤ sizeLine := by rw [← Paired.length r1, sizeLine_eq]; omega
  have run := F1.run _ X.stack _ _ ⟨Value.ref (n + 1) :: us, []⟩ (Value.ref (n + 1) :: us) _ _ (fun _ _ _ => False) (hr.make C us []) (I2.env0.make C us []) b2 r2 hq
  show wpAny _ _ (call (.ref C) us) _ _ _
  refine wpAny_call (PySem.HandSPX.call_own F.excBase_ValueError (fun Y => PySem.HandSPX.refsVE_contains Y bm hbm) (I1.kIn _ _ hC) (PySem.W.looks_findIn I1.kIn iC) (fun self => PySem.W.bind_fn I1.kIn self tI) hus (codeAny_mono run fun r s' z => ?_))
  cases r with
  | error er => exact False.elim z
  | ok fl =>
    cases fl with
    | next => exact False.elim z
    | brk => exact False.elim z
    | cont => exact False.elim z
    | ret u =>
      obtain ⟨v, H2, os2, bare2, un2, hok2, rv, ev, d, fs, ea, ed, hd1, q2⟩ := z
      subst ev
      obtain ⟨h2, g2, d2, t2, os'⟩ := s'
      obtain ⟨t0, G2, J, kG, ge, hoe, na⟩ := mk_end0 (d2 := d2) (t2 := t2) I1 up kk un2 hok2 os2 bare2 ea ed hd1
      refine ⟨rv, n + 1, _, _, ⟨G2, g2, d2, t2, os'⟩, _, .ref C, some d, rfl, J, kG, ge, hoe, ⟨rfl, rfl, fun vs hv => ?_⟩, rfl, rfl, na, rfl, bare2, raises_own T.exC T.tyC, q2⟩
      cases hv
      rfl
theorem ps_raiseN1N {X : Cx} {W : WX} {k : Nat} {x f : Str} {ps : List Str} {e : Expr} {ta : TA} {p pos pos2 : Pos} (M : MkN1 X.prog X.w X.K X.mg X.base k x f ps) (hc : X.calm = true) (hr : Room (k + 1) X.A) (tk : L2N.Takes X W) (ha : PA X [e] ta) (hg : Gl X x := by rfl) (hdb : (x == ("__debug__" : Str)) = false := by decide)
    (he : starEach [e] X.env = (false, eval e X.env) :: starEach [] X.env := by rfl) (hpl : (backTo pos (starEach [] X.env)).any (·.1) = false := by rfl) :
    PS X (.Raise (some (.Call (.Name x p) [e] [] pos)) none pos2) (tRaiseN1 W (adr X.mg x) f ta) := by
  obtain ⟨fI, fd, iC, tI, F, b⟩ := M.i
  exact ⟨fun pins s σ H D I h => (L2N.ps_raise hc tk (pmk1N M.o iC tI F hr b hg M.g ha hdb he hpl)).run pins s σ H D I h⟩
end Fl

set_option Elab.async false
set_option linter.all false
set_option maxRecDepth 100000
set_option maxHeartbeats 4000000
set_option exponentiation.threshold 20000
namespace K55
open PySem PySem.Spec PyProof.Rows L2 Fl
-- facts of a place in the heap
local macro_rules | `(tactic| walk_at "fl.ne") => `(tactic| ((with_reducible apply DeckAt.ne'); (focus assumption); walk_at "fl.deck"))
local macro_rules | `(tactic| walk_at "fl.ne") => `(tactic| exact Ne.symm (by assumption))
local macro_rules | `(tactic| walk_at "fl.ne") => `(tactic| assumption)
local macro_rules | `(tactic| walk_at "fl.look") => `(tactic| ((with_reducible apply Fl.Same.t); (focus assumption); walk_at "fl.look"))
local macro_rules | `(tactic| walk_at "fl.look") => `(tactic| ((with_reducible apply Same.seq); (focus assumption); walk_at "fl.look"))
local macro_rules | `(tactic| walk_at "fl.look") => `(tactic| ((with_reducible apply Ex1.t); (focus assumption); (focus walk_at "fl.ne"); walk_at "fl.look"))
local macro_rules | `(tactic| walk_at "fl.look") => `(tactic| ((with_reducible apply Ex1.l); (focus assumption); (focus walk_at "fl.ne"); walk_at "fl.look"))
local macro_rules | `(tactic| walk_at "fl.look") => `(tactic| ((with_reducible apply Fl.Same.t); (focus exact Fl.Same.new (by assumption)); walk_at "fl.look"))
local macro_rules | `(tactic| walk_at "fl.look") => `(tactic| ((with_reducible apply Same.seq); (focus exact Fl.Same.new (by assumption)); walk_at "fl.look"))
local macro_rules | `(tactic| walk_at "fl.look") => `(tactic| ((with_reducible apply Ex1.t); (focus with_reducible exact Ex1.upd); (focus walk_at "fl.ne"); walk_at "fl.look"))
local macro_rules | `(tactic| walk_at "fl.look") => `(tactic| ((with_reducible apply Ex1.l); (focus with_reducible exact Ex1.upd); (focus walk_at "fl.ne"); walk_at "fl.look"))
local macro_rules | `(tactic| walk_at "fl.look") => `(tactic| ((with_reducible apply SqT.of); assumption))
local macro_rules | `(tactic| walk_at "fl.look") => `(tactic| ((with_reducible apply SqL.of); assumption))
local macro_rules | `(tactic| walk_at "fl.look") => `(tactic| (with_reducible exact SqT.of upd_same))
local macro_rules | `(tactic| walk_at "fl.look") => `(tactic| (with_reducible exact SqL.of upd_same))
local macro_rules | `(tactic| walk_at "fl.look") => `(tactic| ((with_reducible show RV _ _ _ _); (with_reducible apply RV.same); (focus exact Fl.Same.new (by assumption)); walk_at "fl.look"))
local macro_rules | `(tactic| walk_at "fl.look") => `(tactic| ((with_reducible show RV _ _ _ _); (with_reducible apply RV.same); (focus assumption); walk_at "fl.look"))
local macro_rules | `(tactic| walk_at "fl.look") => `(tactic| ((with_reducible show RV _ _ _ _); (with_reducible apply RV.ex1); (focus assumption); (focus walk_at "fl.ne"); walk_at "fl.look"))
local macro_rules | `(tactic| walk_at "fl.look") => `(tactic| assumption)
-- arithmetic that an operation asks
local macro_rules | `(tactic| walk_at "fl.side") => `(tactic| exact div62 (by first | assumption | decide | omega) (by first | assumption | decide | omega))
local macro_rules | `(tactic| walk_at "fl.side") => `(tactic| exact divS (by first | assumption | omega) (by first | assumption | omega))
local macro_rules | `(tactic| walk_at "fl.side") => `(tactic| exact divW (by first | assumption | omega) (by first | assumption | omega))
local macro_rules | `(tactic| walk_at "fl.side") => `(tactic| exact mulW (by first | assumption | omega) (by first | assumption | omega))
local macro_rules | `(tactic| walk_at "fl.side") => `(tactic| exact Or.inl (by decide))
local macro_rules | `(tactic| walk_at "fl.side") => `(tactic| (refine ⟨?_, ?_, ?_⟩ <;> decide))
local macro_rules | `(tactic| walk_at "fl.side") => `(tactic| exact Or.inr (by decide))
local macro_rules | `(tactic| walk_at "fl.side") => `(tactic| (simp only [List.length_cons, List.length_nil]; omega))
local macro_rules | `(tactic| walk_at "fl.side") => `(tactic| omega)
local macro_rules | `(tactic| walk_at "fl.side") => `(tactic| assumption)
local macro_rules | `(tactic| walk_at "fl.side") => `(tactic| decide)
local macro_rules | `(tactic| walk_at "fl.kit") => `(tactic| first | exact kit_int_int | exact kit_int_bool | exact kit_int_tuple | exact kit_int_str | exact kit_int_list | exact kit_int_dict | exact kit_bool_int | exact kit_bool_bool | exact kit_bool_tuple | exact kit_bool_str | exact kit_bool_list | exact kit_bool_dict | exact kit_tuple_int | exact kit_tuple_bool | exact kit_tuple_tuple | exact kit_tuple_str | exact kit_tuple_list | exact kit_tuple_dict | exact kit_str_int | exact kit_str_bool | exact kit_str_tuple | exact kit_str_str | exact kit_str_list | exact kit_str_dict | exact kit_list_int | exact kit_list_bool | exact kit_list_tuple | exact kit_list_str | exact kit_list_list | exact kit_list_dict | exact kit_NoneType_int | exact kit_NoneType_bool | exact kit_NoneType_tuple | exact kit_NoneType_str | exact kit_NoneType_list | exact kit_NoneType_dict | exact kit_dict_int | exact kit_dict_bool | exact kit_dict_tuple | exact kit_dict_str | exact kit_dict_list | exact kit_dict_dict)
local macro_rules | `(tactic| walk_at "fl.ty") => `(tactic| (apply TyX.base; apply TyOf.lst; assumption))
local macro_rules | `(tactic| walk_at "fl.ty") => `(tactic| (apply TyX.base; apply TyOf.tup; assumption))
local macro_rules | `(tactic| walk_at "fl.ty") => `(tactic| exact .base (.lst upd_same))
local macro_rules | `(tactic| walk_at "fl.ty") => `(tactic| exact .base (.tup upd_same))
local macro_rules | `(tactic| walk_at "fl.ty") => `(tactic| exact .base (.str _))
local macro_rules | `(tactic| walk_at "fl.ty") => `(tactic| exact .base .non)
local macro_rules | `(tactic| walk_at "fl.ty") => `(tactic| exact .base (.bl _))
local macro_rules | `(tactic| walk_at "fl.ty") => `(tactic| exact .base (.int _))
local macro_rules | `(tactic| walk_at "fl.deck") => `(tactic| (refine DeckAt.same ?_ (by assumption); walk_at "fl.deck"))
local macro_rules | `(tactic| walk_at "fl.deck") => `(tactic| (refine DeckAt.same ?_ (Fl.Same.new (by assumption)); walk_at "fl.deck"))
local macro_rules | `(tactic| walk_at "fl.deck") => `(tactic| assumption)
local macro_rules | `(tactic| walk_at "fl.ex1") => `(tactic| (refine Ex1.trans ?_ (Ex1.of (by assumption)); walk_at "fl.ex1"))
local macro_rules | `(tactic| walk_at "fl.ex1") => `(tactic| (refine Ex1.trans ?_ (by assumption); walk_at "fl.ex1"))
local macro_rules | `(tactic| walk_at "fl.ex1") => `(tactic| (refine Ex1.trans ?_ (Ex1.of (Fl.Same.new (by assumption))); walk_at "fl.ex1"))
local macro_rules | `(tactic| walk_at "fl.ex1") => `(tactic| (refine Ex1.trans ?_ Ex1.upd; walk_at "fl.ex1"))
local macro_rules | `(tactic| walk_at "fl.ex1") => `(tactic| exact Ex1.upd)
local macro_rules | `(tactic| walk_at "fl.ex1") => `(tactic| exact Ex1.refl)
local macro_rules | `(tactic| walk_at "fl.ex1") => `(tactic| assumption)
local macro_rules | `(tactic| walk_at "fl.pre") => `(tactic| first | assumption | trivial | exact ne_of_num (by assumption))
local macro_rules | `(tactic| walk_at "fl.szq") => `(tactic| exact szq_div (k := 41) (by decide) (by omega) (by decide))
local macro_rules | `(tactic| walk_at "fl.szq") => `(tactic| ((with_reducible apply Szq.div); (focus walk_at "fl.szq"); (focus walk_at "fl.szq"); (focus walk_at "fl.pre")))
local macro_rules | `(tactic| walk_at "fl.szq") => `(tactic| ((with_reducible apply Szq.mul); (focus walk_at "fl.szq"); (focus walk_at "fl.szq")))
local macro_rules | `(tactic| walk_at "fl.szq") => `(tactic| ((with_reducible apply Szq.sub); (focus walk_at "fl.szq"); (focus walk_at "fl.szq")))
local macro_rules | `(tactic| walk_at "fl.szq") => `(tactic| ((with_reducible apply Szq.add); (focus walk_at "fl.szq"); (focus walk_at "fl.szq")))
local macro_rules | `(tactic| walk_at "fl.szq") => `(tactic| assumption)
local macro_rules | `(tactic| walk_at "fl.md") => `(tactic| first | assumption | ((with_reducible apply Szq.md); (focus walk_at "fl.szq"); decide))
local macro_rules | `(tactic| walk_at "fl.rat") => `(tactic| exact Rat.div_mul_cancel (ne_of_num (by assumption)))
local macro_rules | `(tactic| walk_at "fl.rat") => `(tactic| exact Rat.mul_div_cancel (ne_of_num (by assumption)))
local macro_rules | `(tactic| walk_at "fl.rat") => `(tactic| exact Rat.add_sub_cancel)
local macro_rules | `(tactic| walk_at "fl.rat") => `(tactic| exact Rat.mul_add _ _ _)
local macro_rules | `(tactic| walk_at "fl.rat") => `(tactic| exact Rat.mul_assoc _ _ _)
local macro_rules | `(tactic| walk_at "fl.rat") => `(tactic| exact Rat.add_assoc _ _ _)
local macro_rules | `(tactic| walk_at "fl.rat") => `(tactic| exact Rat.mul_comm _ _)
local macro_rules | `(tactic| walk_at "fl.rat") => `(tactic| exact Rat.add_comm _ _)
local macro_rules | `(tactic| walk_at "fl.rat") => `(tactic| rfl)
-- one step of a reading
local macro_rules | `(tactic| walk_at "fl.s") => `(tactic| ((with_reducible show ∀ (p : Addr), (_ : Option HO) = none → _); intro _ _))
local macro_rules | `(tactic| walk_at "fl.s") => `(tactic| (with_reducible refine g_iteNF ?_))
local macro_rules | `(tactic| walk_at "fl.s") => `(tactic| (with_reducible refine g_iteNT ?_))
local macro_rules | `(tactic| walk_at "fl.s") => `(tactic| (with_reducible refine g_iteF ?_))
local macro_rules | `(tactic| walk_at "fl.s") => `(tactic| (with_reducible refine g_iteT ?_))
local macro_rules | `(tactic| walk_at "fl.s") => `(tactic| (with_reducible refine g_lstN ?_))
local macro_rules | `(tactic| walk_at "fl.s") => `(tactic| (with_reducible refine g_tupN ?_))
local macro_rules | `(tactic| walk_at "fl.s") => `(tactic| (with_reducible refine g_tup2 ?_))
local macro_rules | `(tactic| walk_at "fl.s") => `(tactic| (with_reducible refine g_nil ?_))
local macro_rules | `(tactic| walk_at "fl.s") => `(tactic| (with_reducible refine g_cons ?_))
local macro_rules | `(tactic| walk_at "fl.s") => `(tactic| ((with_reducible apply ne_app); (focus walk_at "fl.look"); (focus walk_at "fl.look"); (focus walk_at "fl.rat")))
local macro_rules | `(tactic| walk_at "fl.s") => `(tactic| ((with_reducible apply nr_app); (focus walk_at "fl.look"); (focus walk_at "fl.md")))
local macro_rules | `(tactic| walk_at "fl.s") => `(tactic| ((with_reducible apply cq_app); (focus walk_at "fl.look"); (focus walk_at "fl.look"); (focus walk_at "fl.md"); (focus walk_at "fl.md")))
local macro_rules | `(tactic| walk_at "fl.s") => `(tactic| ((with_reducible apply bin_app); (focus walk_at "fl.look"); (focus walk_at "fl.look"); (focus walk_at "fl.md"); (focus walk_at "fl.md"); (focus walk_at "fl.pre"); intro _ _ _ _ _))
local macro_rules | `(tactic| walk_at "fl.s") => `(tactic| ((with_reducible show spRatq _ _ _ _ _); (apply ratq_app); (focus walk_at "fl.side"); (focus walk_at "fl.side"); (focus walk_at "fl.side"); intro _ _ _ _ _))
local macro_rules | `(tactic| walk_at "fl.s") => `(tactic| (with_reducible refine g_callD ?_))
local macro_rules | `(tactic| walk_at "fl.s") => `(tactic| (with_reducible refine sameI_app ?_))
local macro_rules | `(tactic| walk_at "fl.s") => `(tactic| (with_reducible refine isint_app ?_))
local macro_rules | `(tactic| walk_at "fl.s") => `(tactic| ((with_reducible apply near2_app); (focus walk_at "fl.look"); (focus assumption); intro _ _ _ _ _))
local macro_rules | `(tactic| walk_at "fl.s") => `(tactic| ((with_reducible apply down2_app); (focus walk_at "fl.look"); (focus assumption); intro _ _ _ _ _ _))
local macro_rules | `(tactic| walk_at "fl.s") => `(tactic| ((with_reducible apply cmp_app); (focus walk_at "fl.look"); (focus walk_at "fl.look"); (focus assumption); (focus assumption)))
local macro_rules | `(tactic| walk_at "fl.s") => `(tactic| ((with_reducible refine fra_app ?_ ?_ ?_ ?_); (focus walk_at "fl.side"); (focus walk_at "fl.side"); (focus walk_at "fl.side"); intro _ _ _ _ _))
local macro_rules | `(tactic| walk_at "fl.s") => `(tactic| ((with_reducible apply deck_app); (focus walk_at "fl.look"); intro _ _ _ _ _))
local macro_rules | `(tactic| walk_at "fl.s") => `(tactic| ((with_reducible refine big_app ?_ ?_); (focus walk_at "fl.deck"); intro _ _ _ _ _ _ _ _ _))
local macro_rules | `(tactic| walk_at "fl.s") => `(tactic| ((with_reducible refine draw_app ?_ ?_ ?_ ?_); (focus walk_at "fl.deck"); (focus walk_at "fl.side"); (focus walk_at "fl.side"); intro _ _ _ _ _ _))
local macro_rules | `(tactic| walk_at "fl.s") => `(tactic| (with_reducible refine g_call ?_))
local macro_rules | `(tactic| walk_at "fl.s") => `(tactic| (with_reducible refine g_drop ?_))
local macro_rules | `(tactic| walk_at "fl.s") => `(tactic| (with_reducible refine g_ipI ?_))
local macro_rules | `(tactic| walk_at "fl.s") => `(tactic| ((with_reducible apply g_aug); (focus rfl)))
local macro_rules | `(tactic| walk_at "fl.s") => `(tactic| (with_reducible refine g_set ?_))
local macro_rules | `(tactic| walk_at "fl.s") => `(tactic| ((with_reducible apply g_setL); (focus first | assumption | exact upd_same); (focus rfl)))
local macro_rules | `(tactic| walk_at "fl.s") => `(tactic| (with_reducible refine g_setS ?_))
local macro_rules | `(tactic| walk_at "fl.s") => `(tactic| (with_reducible refine g_if ?_))
local macro_rules | `(tactic| walk_at "fl.s") => `(tactic| (with_reducible refine g_ret ?_))
local macro_rules | `(tactic| walk_at "fl.s") => `(tactic| (with_reducible refine g_next ?_))
local macro_rules | `(tactic| walk_at "fl.s") => `(tactic| (with_reducible refine g_notV ?_))
local macro_rules | `(tactic| walk_at "fl.s") => `(tactic| (with_reducible refine g_orV ?_))
local macro_rules | `(tactic| walk_at "fl.s") => `(tactic| (with_reducible refine g_andV ?_))
local macro_rules | `(tactic| walk_at "fl.s") => `(tactic| (with_reducible refine g_or ?_))
local macro_rules | `(tactic| walk_at "fl.s") => `(tactic| (with_reducible refine g_and ?_))
local macro_rules | `(tactic| walk_at "fl.s") => `(tactic| (with_reducible refine g_not ?_))
local macro_rules | `(tactic| walk_at "fl.s") => `(tactic| (with_reducible refine g_ex ?_))
local macro_rules | `(tactic| walk_at "fl.s") => `(tactic| (with_reducible refine g_bl ?_))
local macro_rules | `(tactic| walk_at "fl.s") => `(tactic| (with_reducible refine g_B ?_))
local macro_rules | `(tactic| walk_at "fl.s") => `(tactic| (with_reducible refine g_test ?_))
local macro_rules | `(tactic| walk_at "fl.s") => `(tactic| (with_reducible refine g_eqB ?_))
local macro_rules | `(tactic| walk_at "fl.s") => `(tactic| (with_reducible refine g_neI ?_))
local macro_rules | `(tactic| walk_at "fl.s") => `(tactic| (with_reducible refine g_eqI ?_))
local macro_rules | `(tactic| walk_at "fl.s") => `(tactic| ((with_reducible refine g_tup2 ?_)))
local macro_rules | `(tactic| walk_at "fl.s") => `(tactic| ((with_reducible refine g_new ?_ ?_); (focus walk_at "fl.side"); intro _ _))
local macro_rules | `(tactic| walk_at "fl.s") => `(tactic| ((with_reducible apply g_listL); (focus walk_at "fl.look"); intro _ _))
local macro_rules | `(tactic| walk_at "fl.s") => `(tactic| ((with_reducible apply g_isiT); (focus walk_at "fl.ty"); (focus walk_at "fl.kit")))
local macro_rules | `(tactic| walk_at "fl.s") => `(tactic| (with_reducible refine g_gcd ?_))
local macro_rules | `(tactic| walk_at "fl.s") => `(tactic| ((with_reducible apply g_lenT); (focus walk_at "fl.look")))
local macro_rules | `(tactic| walk_at "fl.s") => `(tactic| ((with_reducible apply g_lenL); (focus walk_at "fl.look")))
local macro_rules | `(tactic| walk_at "fl.s") => `(tactic| (with_reducible refine g_min ?_))
local macro_rules | `(tactic| walk_at "fl.s") => `(tactic| (with_reducible refine g_max ?_))
local macro_rules | `(tactic| walk_at "fl.s") => `(tactic| (with_reducible refine g_abs ?_))
local macro_rules | `(tactic| walk_at "fl.s") => `(tactic| (with_reducible refine g_intB ?_))
local macro_rules | `(tactic| walk_at "fl.s") => `(tactic| (with_reducible refine g_int ?_))
local macro_rules | `(tactic| walk_at "fl.s") => `(tactic| (with_reducible refine g_cb2 ?_))
local macro_rules | `(tactic| walk_at "fl.s") => `(tactic| (with_reducible refine g_cb1 ?_))
local macro_rules | `(tactic| walk_at "fl.s") => `(tactic| ((with_reducible apply g_ixT); (focus walk_at "fl.look"); (focus first | assumption | rfl)))
local macro_rules | `(tactic| walk_at "fl.s") => `(tactic| ((with_reducible apply g_ixL); (focus walk_at "fl.look"); (focus first | assumption | rfl)))
local macro_rules | `(tactic| walk_at "fl.s") => `(tactic| (with_reducible refine g_un ?_))
local macro_rules | `(tactic| walk_at "fl.s") => `(tactic| (with_reducible refine g_U ?_))
local macro_rules | `(tactic| walk_at "fl.s") => `(tactic| ((with_reducible apply g_I); (focus walk_at "fl.side")))
local macro_rules | `(tactic| walk_at "fl.s") => `(tactic| (with_reducible refine g_I0 ?_))
local macro_rules | `(tactic| walk_at "fl.s") => `(tactic| (with_reducible refine g_c ?_))
local macro_rules | `(tactic| walk_at "fl.s") => `(tactic| ((with_reducible apply g_var); (focus rfl)))
local macro_rules | `(tactic| walk_at "fl.s") => `(tactic| (with_reducible refine g_op ?_))
local macro_rules | `(tactic| walk_at "fl.s") => `(tactic| (with_reducible refine g_seq ?_))
local macro_rules | `(tactic| walk_at "fl.go") => `(tactic| repeat walk_at "fl.s")
local macro_rules | `(tactic| walk_at "fl.run") => `(tactic| ((repeat walk_at "fl.s"); try (first
  | (refine g_ite (fun _ => ?_) (fun _ => ?_); all_goals walk_at "fl.run")
  | (refine g_iteN (fun _ => ?_) (fun _ => ?_); all_goals walk_at "fl.run"))))

local macro_rules | `(tactic| walk_at "fl.raw") => `(tactic| ((with_reducible apply raw_frd); (focus assumption); (focus walk_at "fl.nd"); walk_at "fl.raw"))
local macro_rules | `(tactic| walk_at "fl.raw") => `(tactic| ((with_reducible apply raw_on); (focus assumption); (focus walk_at "fl.nd"); walk_at "fl.raw"))
local macro_rules | `(tactic| walk_at "fl.raw") => `(tactic| ((with_reducible apply raw_same); (focus assumption); walk_at "fl.raw"))
local macro_rules | `(tactic| walk_at "fl.raw") => `(tactic| ((with_reducible apply raw_new); (focus assumption); walk_at "fl.raw"))
local macro_rules | `(tactic| walk_at "fl.raw") => `(tactic| exact upd_same)
local macro_rules | `(tactic| walk_at "fl.raw") => `(tactic| assumption)
local macro_rules | `(tactic| walk_at "fl.nd") => `(tactic| exact Dk.ned2 (by assumption) (by assumption))
local macro_rules | `(tactic| walk_at "fl.nd") => `(tactic| assumption)
local macro_rules | `(tactic| walk_at "fl.frd") => `(tactic| ((with_reducible apply Fl.Fr.frT); (focus assumption); walk_at "fl.frd"))
local macro_rules | `(tactic| walk_at "fl.frd") => `(tactic| ((with_reducible apply Fl.Fr.smT); (focus assumption); walk_at "fl.frd"))
local macro_rules | `(tactic| walk_at "fl.frd") => `(tactic| ((with_reducible apply Fl.Fr.ond); (focus assumption); walk_at "fl.frd"))
local macro_rules | `(tactic| walk_at "fl.frd") => `(tactic| ((with_reducible apply Fl.Fr.newT); (focus assumption); walk_at "fl.frd"))
local macro_rules | `(tactic| walk_at "fl.frd") => `(tactic| exact Fl.Fr.refl)
local macro_rules | `(tactic| walk_at "fl.frd") => `(tactic| assumption)
local macro_rules | `(tactic| walk_at "fl.lk") => `(tactic| ((with_reducible apply SqT.of); walk_at "fl.raw"))
local macro_rules | `(tactic| walk_at "fl.lk") => `(tactic| ((with_reducible apply SqL.of); walk_at "fl.raw"))
local macro_rules | `(tactic| walk_at "fl.dq") => `(tactic| ((with_reducible apply Dq.frd); (focus assumption); (focus first | assumption | simp); walk_at "fl.dq"))
local macro_rules | `(tactic| walk_at "fl.dq") => `(tactic| ((with_reducible apply Dq.ond); (focus assumption); (focus first | assumption | simp); walk_at "fl.dq"))
local macro_rules | `(tactic| walk_at "fl.dq") => `(tactic| ((with_reducible apply Dq.sm); (focus assumption); walk_at "fl.dq"))
local macro_rules | `(tactic| walk_at "fl.dq") => `(tactic| ((with_reducible apply Dq.newH); (focus assumption); walk_at "fl.dq"))
local macro_rules | `(tactic| walk_at "fl.dq") => `(tactic| exact Dq.non)
local macro_rules | `(tactic| walk_at "fl.dq") => `(tactic| exact Dq.bl _)
local macro_rules | `(tactic| walk_at "fl.dq") => `(tactic| exact Dq.int _)
local macro_rules | `(tactic| walk_at "fl.dq") => `(tactic| assumption)
local macro_rules | `(tactic| walk_at "fl.dqa") => `(tactic| ((with_reducible apply DqA.sm); (focus assumption); walk_at "fl.dqa"))
local macro_rules | `(tactic| walk_at "fl.dqa") => `(tactic| ((with_reducible apply DqA.newH); (focus assumption); walk_at "fl.dqa"))
local macro_rules | `(tactic| walk_at "fl.dqa") => `(tactic| ((with_reducible apply DqA.cons); (focus walk_at "fl.dq"); walk_at "fl.dqa"))
local macro_rules | `(tactic| walk_at "fl.dqa") => `(tactic| exact DqA.nil)
local macro_rules | `(tactic| walk_at "fl.dqa") => `(tactic| assumption)
local macro_rules | `(tactic| walk_at "fl.al") => `(tactic| ((with_reducible apply Al.frd); (focus assumption); (focus assumption); walk_at "fl.al"))
local macro_rules | `(tactic| walk_at "fl.al") => `(tactic| ((with_reducible apply Al.ond); (focus assumption); (focus assumption); walk_at "fl.al"))
local macro_rules | `(tactic| walk_at "fl.al") => `(tactic| ((with_reducible apply Al.sm); (focus assumption); walk_at "fl.al"))
local macro_rules | `(tactic| walk_at "fl.al") => `(tactic| ((with_reducible apply Al.newH); (focus assumption); walk_at "fl.al"))
local macro_rules | `(tactic| walk_at "fl.al") => `(tactic| exact Al.nil)
local macro_rules | `(tactic| walk_at "fl.al") => `(tactic| assumption)
local macro_rules | `(tactic| walk_at "fl.sm") => `(tactic| ((with_reducible apply Fl.Same.sm); (focus assumption); walk_at "fl.sm"))
local macro_rules | `(tactic| walk_at "fl.sm") => `(tactic| ((with_reducible apply Fl.Same.newT); (focus assumption); walk_at "fl.sm"))
local macro_rules | `(tactic| walk_at "fl.sm") => `(tactic| exact L2.Same.refl _)
local macro_rules | `(tactic| walk_at "fl.sm") => `(tactic| assumption)
local macro_rules | `(tactic| walk_at "fl.dk") => `(tactic| ((with_reducible apply Dk.sm); (focus assumption); walk_at "fl.dk"))
local macro_rules | `(tactic| walk_at "fl.dk") => `(tactic| ((with_reducible apply Dk.newH); (focus assumption); walk_at "fl.dk"))
local macro_rules | `(tactic| walk_at "fl.dk") => `(tactic| assumption)
local macro_rules | `(tactic| walk_at "fl.cz") => `(tactic| ((try simp only [List.length_drop, List.length_take, List.length_append, List.length_cons, List.length_nil, List.length_map, List.length_reverse, List.length_dropLast]); omega))
-- readings with plain lookups first, then the older steps
local macro_rules | `(tactic| walk_at "fl.t") => `(tactic| walk_at "fl.s")
local macro_rules | `(tactic| walk_at "fl.t") => `(tactic| ((with_reducible apply g_ez); (focus walk_at "fl.lk"); (focus walk_at "fl.lk")))
local macro_rules | `(tactic| walk_at "fl.t") => `(tactic| ((with_reducible apply g_el); (focus walk_at "fl.lk")))
local macro_rules | `(tactic| walk_at "fl.t") => `(tactic| ((with_reducible apply g_e2); (focus (refine ⟨?_, ?_, ?_, ?_⟩ <;> walk_at "fl.cz"))))
local macro_rules | `(tactic| walk_at "fl.t") => `(tactic| ((with_reducible apply g_e1); (focus walk_at "fl.cz"); (focus walk_at "fl.cz")))
local macro_rules | `(tactic| walk_at "fl.t") => `(tactic| (with_reducible refine g_zip ?_))
local macro_rules | `(tactic| walk_at "fl.t") => `(tactic| (with_reducible refine g_il ?_))
local macro_rules | `(tactic| walk_at "fl.t") => `(tactic| (with_reducible refine g_rng2 ?_))
local macro_rules | `(tactic| walk_at "fl.t") => `(tactic| (with_reducible refine g_rng1 ?_))
local macro_rules | `(tactic| walk_at "fl.t") => `(tactic| (with_reducible refine g_for ?_))
local macro_rules | `(tactic| walk_at "fl.t") => `(tactic| (with_reducible refine g_lc ?_))
local macro_rules | `(tactic| walk_at "fl.t") => `(tactic| ((with_reducible apply g_ext); (focus walk_at "fl.raw"); (focus walk_at "fl.raw"); (focus walk_at "fl.cz")))
local macro_rules | `(tactic| walk_at "fl.t") => `(tactic| ((with_reducible apply g_app); (focus walk_at "fl.raw"); (focus walk_at "fl.cz")))
local macro_rules | `(tactic| walk_at "fl.t") => `(tactic| ((with_reducible apply g_tyL); (focus walk_at "fl.lk")))
local macro_rules | `(tactic| walk_at "fl.t") => `(tactic| (with_reducible refine g_bm ?_))
local macro_rules | `(tactic| walk_at "fl.t") => `(tactic| (with_reducible refine g_gnil ?_))
local macro_rules | `(tactic| walk_at "fl.t") => `(tactic| (with_reducible refine g_gcons ?_))
local macro_rules | `(tactic| walk_at "fl.t") => `(tactic| ((with_reducible apply g_gtup); (focus walk_at "fl.lk"); (focus rfl)))
local macro_rules | `(tactic| walk_at "fl.t") => `(tactic| (with_reducible refine g_yes ?_))
local macro_rules | `(tactic| walk_at "fl.t") => `(tactic| ((with_reducible apply g_tru1); (focus walk_at "fl.lk")))
local macro_rules | `(tactic| walk_at "fl.t") => `(tactic| ((with_reducible apply g_tru0); (focus walk_at "fl.lk")))
local macro_rules | `(tactic| walk_at "fl.t") => `(tactic| (with_reducible refine g_tru ?_))
local macro_rules | `(tactic| walk_at "fl.t") => `(tactic| (with_reducible refine g_nn ?_))
local macro_rules | `(tactic| walk_at "fl.t") => `(tactic| ((with_reducible apply g_sum); (focus walk_at "fl.lk")))
local macro_rules | `(tactic| walk_at "fl.t") => `(tactic| ((with_reducible apply g_maxL); (focus walk_at "fl.lk"); (focus assumption)))
local macro_rules | `(tactic| walk_at "fl.t") => `(tactic| ((with_reducible apply g_minL); (focus walk_at "fl.lk"); (focus assumption)))
local macro_rules | `(tactic| walk_at "fl.t") => `(tactic| (with_reducible refine g_name ?_))
local macro_rules | `(tactic| walk_at "fl.t") => `(tactic| ((with_reducible refine g_sz ?_ ?_); (focus walk_at "fl.cz")))
local macro_rules | `(tactic| walk_at "fl.t") => `(tactic| ((with_reducible apply dk_app); (focus assumption); intro _ _ _ _ _))
local macro_rules | `(tactic| walk_at "fl.t") => `(tactic| ((with_reducible apply dr_app); (focus walk_at "fl.dk"); (focus first | (with_reducible assumption) | omega | walk_at "fl.side"); (focus first | (with_reducible assumption) | omega | walk_at "fl.side"); intro _ _ _ _ _ _))
local macro_rules | `(tactic| walk_at "fl.t") => `(tactic| ((with_reducible apply g_cat); (focus walk_at "fl.raw"); (focus walk_at "fl.raw"); (focus walk_at "fl.cz"); intro _ _))
local macro_rules | `(tactic| walk_at "fl.t") => `(tactic| ((with_reducible apply g_sl2); (focus walk_at "fl.lk"); intro _ _))
local macro_rules | `(tactic| walk_at "fl.t") => `(tactic| ((with_reducible apply g_slTo); (focus walk_at "fl.lk"); intro _ _))
local macro_rules | `(tactic| walk_at "fl.t") => `(tactic| ((with_reducible apply g_slF); (focus walk_at "fl.lk"); intro _ _))
local macro_rules | `(tactic| walk_at "fl.t") => `(tactic| ((with_reducible apply g_slE); (focus walk_at "fl.lk"); intro _ _))
local macro_rules | `(tactic| walk_at "fl.t") => `(tactic| ((with_reducible apply g_slB); (focus walk_at "fl.lk"); intro _ _))
local macro_rules | `(tactic| walk_at "fl.t") => `(tactic| ((with_reducible apply g_slT1); (focus walk_at "fl.lk"); intro _ _))
local macro_rules | `(tactic| walk_at "fl.t") => `(tactic| ((with_reducible apply g_slF1); (focus walk_at "fl.lk"); intro _ _))
local macro_rules | `(tactic| walk_at "fl.t") => `(tactic| (with_reducible refine g_ei ?_))
local macro_rules | `(tactic| walk_at "fl.t") => `(tactic| (with_reducible refine g_nop ?_))
local macro_rules | `(tactic| walk_at "fl.t") => `(tactic| (with_reducible refine g_part ?_))
local macro_rules | `(tactic| walk_at "fl.t") => `(tactic| (with_reducible refine g_sl ?_))
local macro_rules | `(tactic| walk_at "fl.t") => `(tactic| ((with_reducible apply g_listL); (focus walk_at "fl.lk"); intro _ _))
local macro_rules | `(tactic| walk_at "fl.t") => `(tactic| ((with_reducible apply g_lenT); (focus walk_at "fl.lk")))
local macro_rules | `(tactic| walk_at "fl.t") => `(tactic| ((with_reducible apply g_lenL); (focus walk_at "fl.lk")))
local macro_rules | `(tactic| walk_at "fl.t") => `(tactic| ((with_reducible apply g_ixT); (focus walk_at "fl.lk"); (focus first | assumption | rfl)))
local macro_rules | `(tactic| walk_at "fl.t") => `(tactic| ((with_reducible apply g_ixL); (focus walk_at "fl.lk"); (focus first | assumption | exact at0 | rfl)))
local macro_rules | `(tactic| walk_at "fl.w") => `(tactic| repeat walk_at "fl.t")
local macro_rules | `(tactic| walk_at "fl.wr") => `(tactic| ((repeat walk_at "fl.t"); try (first
  | (refine g_ite (fun _ => ?_) (fun _ => ?_); all_goals walk_at "fl.wr")
  | (refine g_iteN (fun _ => ?_) (fun _ => ?_); all_goals walk_at "fl.wr"))))

local macro_rules | `(tactic| walk_at "fl.t") => `(tactic| (with_reducible refine g_eqS ?_))
local macro_rules | `(tactic| walk_at "fl.t") => `(tactic| ((with_reducible apply g_lrev2); (focus walk_at "fl.lk"); intro _ _))
local macro_rules | `(tactic| walk_at "fl.t") => `(tactic| (with_reducible refine g_lrev ?_))
local macro_rules | `(tactic| walk_at "fl.t") => `(tactic| ((with_reducible apply g_slR0); (focus walk_at "fl.lk"); intro _ _))
local macro_rules | `(tactic| walk_at "fl.w") => `(tactic| repeat walk_at "fl.t")

local macro_rules | `(tactic| walk_at "fl.t") => `(tactic| (with_reducible refine g_asg2 ?_))
local macro_rules | `(tactic| walk_at "fl.t") => `(tactic| ((with_reducible apply g_allL); (focus walk_at "fl.lk")))
local macro_rules | `(tactic| walk_at "fl.t") => `(tactic| ((with_reducible apply g_enE); (focus walk_at "fl.lk")))
local macro_rules | `(tactic| walk_at "fl.t") => `(tactic| (with_reducible refine g_enum ?_))
local macro_rules | `(tactic| walk_at "fl.t") => `(tactic| (with_reducible refine g_truN ?_))
local macro_rules | `(tactic| walk_at "fl.t") => `(tactic| (with_reducible refine g_orT ?_))
local macro_rules | `(tactic| walk_at "fl.t") => `(tactic| (with_reducible refine g_chain ?_))
local macro_rules | `(tactic| walk_at "fl.t") => `(tactic| ((with_reducible apply g_sfE); (focus first | exact InitAt.hx (by assumption) | walk_at "fl.raw"); (focus assumption); (focus ((apply na_of); (focus assumption); rfl)); (focus (simp only [List.length_append, List.length_cons, List.length_nil]; omega))))
local macro_rules | `(tactic| walk_at "fl.t") => `(tactic| ((with_reducible apply g_fldE); (focus walk_at "fl.raw"); (focus assumption); (focus ((apply na_of); (focus assumption); rfl)); (focus rfl)))
local macro_rules | `(tactic| walk_at "fl.t") => `(tactic| (with_reducible refine g_make ?_))
local macro_rules | `(tactic| walk_at "fl.t") => `(tactic| (with_reducible refine g_sf ?_))
local macro_rules | `(tactic| walk_at "fl.t") => `(tactic| (with_reducible refine g_fld ?_))
local macro_rules | `(tactic| walk_at "fl.w") => `(tactic| repeat walk_at "fl.t")

def topS (i : Nat) : Stmt := PySem.Challenge.pw_fleuron_k55_scaled_zones.main.body.getD i (.Pass ⟨0, 0, 0, 0⟩)
abbrev s_tuples_of : Stmt := topS 18
abbrev N_tuples_of : List Str := ["rows", "row"]
abbrev ps_tuples_of : List Str := ["rows"]
theorem sc_tuples_of : FnScope N_tuples_of ps_tuples_of (defScope s_tuples_of) := ⟨rfl, rfl, rfl, by decide +kernel, rfl, by decide +kernel, by decide +kernel⟩
theorem bd_tuples_of (kV doc pm : Value) (an : Option Addr) (cdv ct : Value) (us : List Value) (h : us.length = ps_tuples_of.length) : bindArgs (PySem.W.fnOf "tuples_of" "tuples_of" (defArgs s_tuples_of) (defBody s_tuples_of) (defScope s_tuples_of) .none kV doc pm an cdv ct) ⟨us, []⟩ = pure (ps_tuples_of.zip us) := match us, h with | [_], _ => rfl
abbrev s_depths_of : Stmt := topS 2
abbrev N_depths_of : List Str := ["glyphs", "depths", "level", "k", "found"]
abbrev ps_depths_of : List Str := ["glyphs"]
theorem sc_depths_of : FnScope N_depths_of ps_depths_of (defScope s_depths_of) := ⟨rfl, rfl, rfl, by decide +kernel, rfl, by decide +kernel, by decide +kernel⟩
theorem bd_depths_of (kV doc pm : Value) (an : Option Addr) (cdv ct : Value) (us : List Value) (h : us.length = ps_depths_of.length) : bindArgs (PySem.W.fnOf "depths_of" "depths_of" (defArgs s_depths_of) (defBody s_depths_of) (defScope s_depths_of) .none kV doc pm an cdv ct) ⟨us, []⟩ = pure (ps_depths_of.zip us) := match us, h with | [_], _ => rfl
abbrev s_has_parts_in : Stmt := topS 3
abbrev N_has_parts_in : List Str := ["glyph", "depths", "part"]
abbrev ps_has_parts_in : List Str := ["glyph", "depths"]
theorem sc_has_parts_in : FnScope N_has_parts_in ps_has_parts_in (defScope s_has_parts_in) := ⟨rfl, rfl, rfl, by decide +kernel, rfl, by decide +kernel, by decide +kernel⟩
theorem bd_has_parts_in (kV doc pm : Value) (an : Option Addr) (cdv ct : Value) (us : List Value) (h : us.length = ps_has_parts_in.length) : bindArgs (PySem.W.fnOf "has_parts_in" "has_parts_in" (defArgs s_has_parts_in) (defBody s_has_parts_in) (defScope s_has_parts_in) .none kV doc pm an cdv ct) ⟨us, []⟩ = pure (ps_has_parts_in.zip us) := match us, h with | [_, _], _ => rfl
abbrev s_is_proper : Stmt := topS 13
abbrev N_is_proper : List Str := ["outline", "contour", "x", "y", "_"]
abbrev ps_is_proper : List Str := ["outline"]
theorem sc_is_proper : FnScope N_is_proper ps_is_proper (defScope s_is_proper) := ⟨rfl, rfl, rfl, by decide +kernel, rfl, by decide +kernel, by decide +kernel⟩
theorem bd_is_proper (kV doc pm : Value) (an : Option Addr) (cdv ct : Value) (us : List Value) (h : us.length = ps_is_proper.length) : bindArgs (PySem.W.fnOf "is_proper" "is_proper" (defArgs s_is_proper) (defBody s_is_proper) (defScope s_is_proper) .none kV doc pm an cdv ct) ⟨us, []⟩ = pure (ps_is_proper.zip us) := match us, h with | [_], _ => rfl
abbrev s_count_points : Stmt := topS 14
abbrev N_count_points : List Str := ["outline", "contour"]
abbrev ps_count_points : List Str := ["outline"]
theorem sc_count_points : FnScope N_count_points ps_count_points (defScope s_count_points) := ⟨rfl, rfl, rfl, by decide +kernel, rfl, by decide +kernel, by decide +kernel⟩
theorem bd_count_points (kV doc pm : Value) (an : Option Addr) (cdv ct : Value) (us : List Value) (h : us.length = ps_count_points.length) : bindArgs (PySem.W.fnOf "count_points" "count_points" (defArgs s_count_points) (defBody s_count_points) (defScope s_count_points) .none kV doc pm an cdv ct) ⟨us, []⟩ = pure (ps_count_points.zip us) := match us, h with | [_], _ => rfl
abbrev s_check_known : Stmt := topS 16
abbrev N_check_known : List Str := ["font", "glyph"]
abbrev ps_check_known : List Str := ["font", "glyph"]
theorem sc_check_known : FnScope N_check_known ps_check_known (defScope s_check_known) := ⟨rfl, rfl, rfl, by decide +kernel, rfl, by decide +kernel, by decide +kernel⟩
theorem bd_check_known (kV doc pm : Value) (an : Option Addr) (cdv ct : Value) (us : List Value) (h : us.length = ps_check_known.length) : bindArgs (PySem.W.fnOf "check_known" "check_known" (defArgs s_check_known) (defBody s_check_known) (defScope s_check_known) .none kV doc pm an cdv ct) ⟨us, []⟩ = pure (ps_check_known.zip us) := match us, h with | [_, _], _ => rfl
abbrev s_is_rising : Stmt := topS 19
abbrev N_is_rising : List Str := ["numbers", "many", "last", "number"]
abbrev ps_is_rising : List Str := ["numbers", "many"]
theorem sc_is_rising : FnScope N_is_rising ps_is_rising (defScope s_is_rising) := ⟨rfl, rfl, rfl, by decide +kernel, rfl, by decide +kernel, by decide +kernel⟩
theorem bd_is_rising (kV doc pm : Value) (an : Option Addr) (cdv ct : Value) (us : List Value) (h : us.length = ps_is_rising.length) : bindArgs (PySem.W.fnOf "is_rising" "is_rising" (defArgs s_is_rising) (defBody s_is_rising) (defScope s_is_rising) .none kV doc pm an cdv ct) ⟨us, []⟩ = pure (ps_is_rising.zip us) := match us, h with | [_, _], _ => rfl
abbrev s_is_instruction : Stmt := topS 24
abbrev N_is_instruction : List Str := ["step"]
abbrev ps_is_instruction : List Str := ["step"]
theorem sc_is_instruction : FnScope N_is_instruction ps_is_instruction (defScope s_is_instruction) := ⟨rfl, rfl, rfl, by decide +kernel, rfl, by decide +kernel, by decide +kernel⟩
theorem bd_is_instruction (kV doc pm : Value) (an : Option Addr) (cdv ct : Value) (us : List Value) (h : us.length = ps_is_instruction.length) : bindArgs (PySem.W.fnOf "is_instruction" "is_instruction" (defArgs s_is_instruction) (defBody s_is_instruction) (defScope s_is_instruction) .none kV doc pm an cdv ct) ⟨us, []⟩ = pure (ps_is_instruction.zip us) := match us, h with | [_], _ => rfl
abbrev s_Zone : Stmt := inClass (topS 26) 0
abbrev N_Zone : List Str := ["self", "original", "current", "touched", "ends"]
abbrev ps_Zone : List Str := ["self", "original", "current", "touched", "ends"]
theorem sc_Zone : FnScope N_Zone ps_Zone (defScope s_Zone) := ⟨rfl, rfl, rfl, by decide +kernel, rfl, by decide +kernel, by decide +kernel⟩
abbrev s_Program : Stmt := inClass (topS 27) 0
abbrev N_Program : List Str := ["self", "main", "functions", "presets", "size", "function"]
abbrev ps_Program : List Str := ["self", "main", "functions", "presets", "size"]
theorem sc_Program : FnScope N_Program ps_Program (defScope s_Program) := ⟨rfl, rfl, rfl, by decide +kernel, rfl, by decide +kernel, by decide +kernel⟩
abbrev s_scaled : Stmt := topS 30
abbrev N_scaled : List Str := ["unit", "size", "n"]
abbrev ps_scaled : List Str := ["unit", "size", "n"]
theorem sc_scaled : FnScope N_scaled ps_scaled (defScope s_scaled) := ⟨rfl, rfl, rfl, by decide +kernel, rfl, by decide +kernel, by decide +kernel⟩
theorem bd_scaled (kV doc pm : Value) (an : Option Addr) (cdv ct : Value) (us : List Value) (h : us.length = ps_scaled.length) : bindArgs (PySem.W.fnOf "scaled" "scaled" (defArgs s_scaled) (defBody s_scaled) (defScope s_scaled) .none kV doc pm an cdv ct) ⟨us, []⟩ = pure (ps_scaled.zip us) := match us, h with | [_, _, _], _ => rfl
abbrev s_zone_of : Stmt := topS 31
abbrev N_zone_of : List Str := ["font", "outline", "size", "contour", "points", "ends", "last", "x", "y", "_"]
abbrev ps_zone_of : List Str := ["font", "outline", "size"]
theorem sc_zone_of : FnScope N_zone_of ps_zone_of (defScope s_zone_of) := ⟨rfl, rfl, rfl, by decide +kernel, rfl, by decide +kernel, by decide +kernel⟩
theorem bd_zone_of (kV doc pm : Value) (an : Option Addr) (cdv ct : Value) (us : List Value) (h : us.length = ps_zone_of.length) : bindArgs (PySem.W.fnOf "zone_of" "zone_of" (defArgs s_zone_of) (defBody s_zone_of) (defScope s_zone_of) .none kV doc pm an cdv ct) ⟨us, []⟩ = pure (ps_zone_of.zip us) := match us, h with | [_, _, _], _ => rfl
abbrev s_program_of : Stmt := topS 32
abbrev N_program_of : List Str := ["font", "number", "size", "presets", "n"]
abbrev ps_program_of : List Str := ["font", "number", "size"]
theorem sc_program_of : FnScope N_program_of ps_program_of (defScope s_program_of) := ⟨rfl, rfl, rfl, by decide +kernel, rfl, by decide +kernel, by decide +kernel⟩
theorem bd_program_of (kV doc pm : Value) (an : Option Addr) (cdv ct : Value) (us : List Value) (h : us.length = ps_program_of.length) : bindArgs (PySem.W.fnOf "program_of" "program_of" (defArgs s_program_of) (defBody s_program_of) (defScope s_program_of) .none kV doc pm an cdv ct) ⟨us, []⟩ = pure (ps_program_of.zip us) := match us, h with | [_, _, _], _ => rfl
abbrev s_is_row_of_letters : Stmt := topS 35
abbrev N_is_row_of_letters : List Str := ["word", "most", "letter"]
abbrev ps_is_row_of_letters : List Str := ["word", "most"]
theorem sc_is_row_of_letters : FnScope N_is_row_of_letters ps_is_row_of_letters (defScope s_is_row_of_letters) := ⟨rfl, rfl, rfl, by decide +kernel, rfl, by decide +kernel, by decide +kernel⟩
theorem bd_is_row_of_letters (kV doc pm : Value) (an : Option Addr) (cdv ct : Value) (us : List Value) (h : us.length = ps_is_row_of_letters.length) : bindArgs (PySem.W.fnOf "is_row_of_letters" "is_row_of_letters" (defArgs s_is_row_of_letters) (defBody s_is_row_of_letters) (defScope s_is_row_of_letters) .none kV doc pm an cdv ct) ⟨us, []⟩ = pure (ps_is_row_of_letters.zip us) := match us, h with | [_, _], _ => rfl
abbrev s_lookup_reason : Stmt := topS 43
abbrev N_lookup_reason : List Str := ["font", "lookup", "rule", "reason"]
abbrev ps_lookup_reason : List Str := ["font", "lookup"]
theorem sc_lookup_reason : FnScope N_lookup_reason ps_lookup_reason (defScope s_lookup_reason) := ⟨rfl, rfl, rfl, by decide +kernel, rfl, by decide +kernel, by decide +kernel⟩
theorem bd_lookup_reason (kV doc pm : Value) (an : Option Addr) (cdv ct : Value) (us : List Value) (h : us.length = ps_lookup_reason.length) : bindArgs (PySem.W.fnOf "lookup_reason" "lookup_reason" (defArgs s_lookup_reason) (defBody s_lookup_reason) (defScope s_lookup_reason) .none kV doc pm an cdv ct) ⟨us, []⟩ = pure (ps_lookup_reason.zip us) := match us, h with | [_, _], _ => rfl
abbrev s_first_fault : Stmt := topS 52
abbrev N_first_fault : List Str := ["font"]
abbrev ps_first_fault : List Str := ["font"]
theorem sc_first_fault : FnScope N_first_fault ps_first_fault (defScope s_first_fault) := ⟨rfl, rfl, rfl, by decide +kernel, rfl, by decide +kernel, by decide +kernel⟩
theorem bd_first_fault (kV doc pm : Value) (an : Option Addr) (cdv ct : Value) (us : List Value) (h : us.length = ps_first_fault.length) : bindArgs (PySem.W.fnOf "first_fault" "first_fault" (defArgs s_first_fault) (defBody s_first_fault) (defScope s_first_fault) .none kV doc pm an cdv ct) ⟨us, []⟩ = pure (ps_first_fault.zip us) := match us, h with | [_], _ => rfl
abbrev s_placed : Stmt := topS 53
abbrev N_placed : List Str := ["place", "reason"]
abbrev ps_placed : List Str := ["place", "reason"]
theorem sc_placed : FnScope N_placed ps_placed (defScope s_placed) := ⟨rfl, rfl, rfl, by decide +kernel, rfl, by decide +kernel, by decide +kernel⟩
theorem bd_placed (kV doc pm : Value) (an : Option Addr) (cdv ct : Value) (us : List Value) (h : us.length = ps_placed.length) : bindArgs (PySem.W.fnOf "placed" "placed" (defArgs s_placed) (defBody s_placed) (defScope s_placed) .none kV doc pm an cdv ct) ⟨us, []⟩ = pure (ps_placed.zip us) := match us, h with | [_, _], _ => rfl
abbrev s_first_glyph_fault : Stmt := topS 54
abbrev N_first_glyph_fault : List Str := ["font", "number", "glyph", "reason"]
abbrev ps_first_glyph_fault : List Str := ["font"]
theorem sc_first_glyph_fault : FnScope N_first_glyph_fault ps_first_glyph_fault (defScope s_first_glyph_fault) := ⟨rfl, rfl, rfl, by decide +kernel, rfl, by decide +kernel, by decide +kernel⟩
theorem bd_first_glyph_fault (kV doc pm : Value) (an : Option Addr) (cdv ct : Value) (us : List Value) (h : us.length = ps_first_glyph_fault.length) : bindArgs (PySem.W.fnOf "first_glyph_fault" "first_glyph_fault" (defArgs s_first_glyph_fault) (defBody s_first_glyph_fault) (defScope s_first_glyph_fault) .none kV doc pm an cdv ct) ⟨us, []⟩ = pure (ps_first_glyph_fault.zip us) := match us, h with | [_], _ => rfl
abbrev s_first_lookup_fault : Stmt := topS 55
abbrev N_first_lookup_fault : List Str := ["font", "number", "lookup", "reason"]
abbrev ps_first_lookup_fault : List Str := ["font"]
theorem sc_first_lookup_fault : FnScope N_first_lookup_fault ps_first_lookup_fault (defScope s_first_lookup_fault) := ⟨rfl, rfl, rfl, by decide +kernel, rfl, by decide +kernel, by decide +kernel⟩
theorem bd_first_lookup_fault (kV doc pm : Value) (an : Option Addr) (cdv ct : Value) (us : List Value) (h : us.length = ps_first_lookup_fault.length) : bindArgs (PySem.W.fnOf "first_lookup_fault" "first_lookup_fault" (defArgs s_first_lookup_fault) (defBody s_first_lookup_fault) (defScope s_first_lookup_fault) .none kV doc pm an cdv ct) ⟨us, []⟩ = pure (ps_first_lookup_fault.zip us) := match us, h with | [_], _ => rfl
abbrev s_is_coordinate : Stmt := topS 56
abbrev N_is_coordinate : List Str := ["n"]
abbrev ps_is_coordinate : List Str := ["n"]
theorem sc_is_coordinate : FnScope N_is_coordinate ps_is_coordinate (defScope s_is_coordinate) := ⟨rfl, rfl, rfl, by decide +kernel, rfl, by decide +kernel, by decide +kernel⟩
theorem bd_is_coordinate (kV doc pm : Value) (an : Option Addr) (cdv ct : Value) (us : List Value) (h : us.length = ps_is_coordinate.length) : bindArgs (PySem.W.fnOf "is_coordinate" "is_coordinate" (defArgs s_is_coordinate) (defBody s_is_coordinate) (defScope s_is_coordinate) .none kV doc pm an cdv ct) ⟨us, []⟩ = pure (ps_is_coordinate.zip us) := match us, h with | [_], _ => rfl
abbrev s_many_reason : Stmt := topS 57
abbrev N_many_reason : List Str := ["rows", "least", "most"]
abbrev ps_many_reason : List Str := ["rows", "least", "most"]
theorem sc_many_reason : FnScope N_many_reason ps_many_reason (defScope s_many_reason) := ⟨rfl, rfl, rfl, by decide +kernel, rfl, by decide +kernel, by decide +kernel⟩
theorem bd_many_reason (kV doc pm : Value) (an : Option Addr) (cdv ct : Value) (us : List Value) (h : us.length = ps_many_reason.length) : bindArgs (PySem.W.fnOf "many_reason" "many_reason" (defArgs s_many_reason) (defBody s_many_reason) (defScope s_many_reason) .none kV doc pm an cdv ct) ⟨us, []⟩ = pure (ps_many_reason.zip us) := match us, h with | [_, _, _], _ => rfl
abbrev s_unit_reason : Stmt := topS 58
abbrev N_unit_reason : List Str := ["font"]
abbrev ps_unit_reason : List Str := ["font"]
theorem sc_unit_reason : FnScope N_unit_reason ps_unit_reason (defScope s_unit_reason) := ⟨rfl, rfl, rfl, by decide +kernel, rfl, by decide +kernel, by decide +kernel⟩
theorem bd_unit_reason (kV doc pm : Value) (an : Option Addr) (cdv ct : Value) (us : List Value) (h : us.length = ps_unit_reason.length) : bindArgs (PySem.W.fnOf "unit_reason" "unit_reason" (defArgs s_unit_reason) (defBody s_unit_reason) (defScope s_unit_reason) .none kV doc pm an cdv ct) ⟨us, []⟩ = pure (ps_unit_reason.zip us) := match us, h with | [_], _ => rfl
abbrev s_glyph_reason : Stmt := topS 59
abbrev N_glyph_reason : List Str := ["font", "glyph", "part", "anchor", "delta", "step"]
abbrev ps_glyph_reason : List Str := ["font", "glyph"]
theorem sc_glyph_reason : FnScope N_glyph_reason ps_glyph_reason (defScope s_glyph_reason) := ⟨rfl, rfl, rfl, by decide +kernel, rfl, by decide +kernel, by decide +kernel⟩
theorem bd_glyph_reason (kV doc pm : Value) (an : Option Addr) (cdv ct : Value) (us : List Value) (h : us.length = ps_glyph_reason.length) : bindArgs (PySem.W.fnOf "glyph_reason" "glyph_reason" (defArgs s_glyph_reason) (defBody s_glyph_reason) (defScope s_glyph_reason) .none kV doc pm an cdv ct) ⟨us, []⟩ = pure (ps_glyph_reason.zip us) := match us, h with | [_, _], _ => rfl
abbrev s_is_part : Stmt := topS 60
abbrev N_is_part : List Str := ["font", "part", "number", "x", "y"]
abbrev ps_is_part : List Str := ["font", "part"]
theorem sc_is_part : FnScope N_is_part ps_is_part (defScope s_is_part) := ⟨rfl, rfl, rfl, by decide +kernel, rfl, by decide +kernel, by decide +kernel⟩
theorem bd_is_part (kV doc pm : Value) (an : Option Addr) (cdv ct : Value) (us : List Value) (h : us.length = ps_is_part.length) : bindArgs (PySem.W.fnOf "is_part" "is_part" (defArgs s_is_part) (defBody s_is_part) (defScope s_is_part) .none kV doc pm an cdv ct) ⟨us, []⟩ = pure (ps_is_part.zip us) := match us, h with | [_, _], _ => rfl
abbrev s_is_anchor : Stmt := topS 61
abbrev N_is_anchor : List Str := ["anchor", "kind", "group", "x", "y"]
abbrev ps_is_anchor : List Str := ["anchor"]
theorem sc_is_anchor : FnScope N_is_anchor ps_is_anchor (defScope s_is_anchor) := ⟨rfl, rfl, rfl, by decide +kernel, rfl, by decide +kernel, by decide +kernel⟩
theorem bd_is_anchor (kV doc pm : Value) (an : Option Addr) (cdv ct : Value) (us : List Value) (h : us.length = ps_is_anchor.length) : bindArgs (PySem.W.fnOf "is_anchor" "is_anchor" (defArgs s_is_anchor) (defBody s_is_anchor) (defScope s_is_anchor) .none kV doc pm an cdv ct) ⟨us, []⟩ = pure (ps_is_anchor.zip us) := match us, h with | [_], _ => rfl
abbrev s_is_delta : Stmt := topS 62
abbrev N_is_delta : List Str := ["font", "glyph", "delta", "region", "point", "x", "y"]
abbrev ps_is_delta : List Str := ["font", "glyph", "delta"]
theorem sc_is_delta : FnScope N_is_delta ps_is_delta (defScope s_is_delta) := ⟨rfl, rfl, rfl, by decide +kernel, rfl, by decide +kernel, by decide +kernel⟩
theorem bd_is_delta (kV doc pm : Value) (an : Option Addr) (cdv ct : Value) (us : List Value) (h : us.length = ps_is_delta.length) : bindArgs (PySem.W.fnOf "is_delta" "is_delta" (defArgs s_is_delta) (defBody s_is_delta) (defScope s_is_delta) .none kV doc pm an cdv ct) ⟨us, []⟩ = pure (ps_is_delta.zip us) := match us, h with | [_, _, _], _ => rfl
abbrev s_parts_reason : Stmt := topS 63
abbrev N_parts_reason : List Str := ["font"]
abbrev ps_parts_reason : List Str := ["font"]
theorem sc_parts_reason : FnScope N_parts_reason ps_parts_reason (defScope s_parts_reason) := ⟨rfl, rfl, rfl, by decide +kernel, rfl, by decide +kernel, by decide +kernel⟩
theorem bd_parts_reason (kV doc pm : Value) (an : Option Addr) (cdv ct : Value) (us : List Value) (h : us.length = ps_parts_reason.length) : bindArgs (PySem.W.fnOf "parts_reason" "parts_reason" (defArgs s_parts_reason) (defBody s_parts_reason) (defScope s_parts_reason) .none kV doc pm an cdv ct) ⟨us, []⟩ = pure (ps_parts_reason.zip us) := match us, h with | [_], _ => rfl
abbrev s_chars_reason : Stmt := topS 64
abbrev N_chars_reason : List Str := ["font", "last", "code", "glyph"]
abbrev ps_chars_reason : List Str := ["font"]
theorem sc_chars_reason : FnScope N_chars_reason ps_chars_reason (defScope s_chars_reason) := ⟨rfl, rfl, rfl, by decide +kernel, rfl, by decide +kernel, by decide +kernel⟩
theorem bd_chars_reason (kV doc pm : Value) (an : Option Addr) (cdv ct : Value) (us : List Value) (h : us.length = ps_chars_reason.length) : bindArgs (PySem.W.fnOf "chars_reason" "chars_reason" (defArgs s_chars_reason) (defBody s_chars_reason) (defScope s_chars_reason) .none kV doc pm an cdv ct) ⟨us, []⟩ = pure (ps_chars_reason.zip us) := match us, h with | [_], _ => rfl
abbrev s_features_reason : Stmt := topS 65
abbrev N_features_reason : List Str := ["font", "name", "names", "numbers", "_"]
abbrev ps_features_reason : List Str := ["font"]
theorem sc_features_reason : FnScope N_features_reason ps_features_reason (defScope s_features_reason) := ⟨rfl, rfl, rfl, by decide +kernel, rfl, by decide +kernel, by decide +kernel⟩
theorem bd_features_reason (kV doc pm : Value) (an : Option Addr) (cdv ct : Value) (us : List Value) (h : us.length = ps_features_reason.length) : bindArgs (PySem.W.fnOf "features_reason" "features_reason" (defArgs s_features_reason) (defBody s_features_reason) (defScope s_features_reason) .none kV doc pm an cdv ct) ⟨us, []⟩ = pure (ps_features_reason.zip us) := match us, h with | [_], _ => rfl
abbrev s_axes_reason : Stmt := topS 66
abbrev N_axes_reason : List Str := ["font", "least", "normal", "greatest"]
abbrev ps_axes_reason : List Str := ["font"]
theorem sc_axes_reason : FnScope N_axes_reason ps_axes_reason (defScope s_axes_reason) := ⟨rfl, rfl, rfl, by decide +kernel, rfl, by decide +kernel, by decide +kernel⟩
theorem bd_axes_reason (kV doc pm : Value) (an : Option Addr) (cdv ct : Value) (us : List Value) (h : us.length = ps_axes_reason.length) : bindArgs (PySem.W.fnOf "axes_reason" "axes_reason" (defArgs s_axes_reason) (defBody s_axes_reason) (defScope s_axes_reason) .none kV doc pm an cdv ct) ⟨us, []⟩ = pure (ps_axes_reason.zip us) := match us, h with | [_], _ => rfl
abbrev s_regions_reason : Stmt := topS 67
abbrev N_regions_reason : List Str := ["font", "region", "tent"]
abbrev ps_regions_reason : List Str := ["font"]
theorem sc_regions_reason : FnScope N_regions_reason ps_regions_reason (defScope s_regions_reason) := ⟨rfl, rfl, rfl, by decide +kernel, rfl, by decide +kernel, by decide +kernel⟩
theorem bd_regions_reason (kV doc pm : Value) (an : Option Addr) (cdv ct : Value) (us : List Value) (h : us.length = ps_regions_reason.length) : bindArgs (PySem.W.fnOf "regions_reason" "regions_reason" (defArgs s_regions_reason) (defBody s_regions_reason) (defScope s_regions_reason) .none kV doc pm an cdv ct) ⟨us, []⟩ = pure (ps_regions_reason.zip us) := match us, h with | [_], _ => rfl
abbrev s_is_tent : Stmt := topS 68
abbrev N_is_tent : List Str := ["tent", "start", "peak", "end"]
abbrev ps_is_tent : List Str := ["tent"]
theorem sc_is_tent : FnScope N_is_tent ps_is_tent (defScope s_is_tent) := ⟨rfl, rfl, rfl, by decide +kernel, rfl, by decide +kernel, by decide +kernel⟩
theorem bd_is_tent (kV doc pm : Value) (an : Option Addr) (cdv ct : Value) (us : List Value) (h : us.length = ps_is_tent.length) : bindArgs (PySem.W.fnOf "is_tent" "is_tent" (defArgs s_is_tent) (defBody s_is_tent) (defScope s_is_tent) .none kV doc pm an cdv ct) ⟨us, []⟩ = pure (ps_is_tent.zip us) := match us, h with | [_], _ => rfl
abbrev s_functions_reason : Stmt := topS 69
abbrev N_functions_reason : List Str := ["font", "function", "step"]
abbrev ps_functions_reason : List Str := ["font"]
theorem sc_functions_reason : FnScope N_functions_reason ps_functions_reason (defScope s_functions_reason) := ⟨rfl, rfl, rfl, by decide +kernel, rfl, by decide +kernel, by decide +kernel⟩
theorem bd_functions_reason (kV doc pm : Value) (an : Option Addr) (cdv ct : Value) (us : List Value) (h : us.length = ps_functions_reason.length) : bindArgs (PySem.W.fnOf "functions_reason" "functions_reason" (defArgs s_functions_reason) (defBody s_functions_reason) (defScope s_functions_reason) .none kV doc pm an cdv ct) ⟨us, []⟩ = pure (ps_functions_reason.zip us) := match us, h with | [_], _ => rfl
abbrev s_presets_reason : Stmt := topS 70
abbrev N_presets_reason : List Str := ["font", "preset"]
abbrev ps_presets_reason : List Str := ["font"]
theorem sc_presets_reason : FnScope N_presets_reason ps_presets_reason (defScope s_presets_reason) := ⟨rfl, rfl, rfl, by decide +kernel, rfl, by decide +kernel, by decide +kernel⟩
theorem bd_presets_reason (kV doc pm : Value) (an : Option Addr) (cdv ct : Value) (us : List Value) (h : us.length = ps_presets_reason.length) : bindArgs (PySem.W.fnOf "presets_reason" "presets_reason" (defArgs s_presets_reason) (defBody s_presets_reason) (defScope s_presets_reason) .none kV doc pm an cdv ct) ⟨us, []⟩ = pure (ps_presets_reason.zip us) := match us, h with | [_], _ => rfl
abbrev s_Glyph : Stmt := inClass (topS 72) 0
abbrev N_Glyph : List Str := ["self", "advance", "outline", "parts", "anchors", "mark", "deltas", "hint", "contour"]
abbrev ps_Glyph : List Str := ["self", "advance", "outline", "parts", "anchors", "mark", "deltas", "hint"]
theorem sc_Glyph : FnScope N_Glyph ps_Glyph (defScope s_Glyph) := ⟨rfl, rfl, rfl, by decide +kernel, rfl, by decide +kernel, by decide +kernel⟩
abbrev s_Rule : Stmt := inClass (topS 73) 0
abbrev N_Rule : List Str := ["self", "inside", "back", "ahead", "out", "calls", "extra", "chosen"]
abbrev ps_Rule : List Str := ["self", "inside", "back", "ahead", "out", "calls", "extra"]
theorem sc_Rule : FnScope N_Rule ps_Rule (defScope s_Rule) := ⟨rfl, rfl, rfl, by decide +kernel, rfl, by decide +kernel, by decide +kernel⟩
abbrev s_Lookup : Stmt := inClass (topS 74) 0
abbrev N_Lookup : List Str := ["self", "kind", "rules", "ignore", "rule"]
abbrev ps_Lookup : List Str := ["self", "kind", "rules", "ignore"]
theorem sc_Lookup : FnScope N_Lookup ps_Lookup (defScope s_Lookup) := ⟨rfl, rfl, rfl, by decide +kernel, rfl, by decide +kernel, by decide +kernel⟩
abbrev s_Font : Stmt := inClass (topS 75) 0
abbrev N_Font : List Str := ["self", "unit", "glyphs", "chars", "lookups", "features", "axes", "regions", "functions", "presets", "fault", "glyph", "lookup", "name", "numbers", "region", "function"]
abbrev ps_Font : List Str := ["self", "unit", "glyphs", "chars", "lookups", "features", "axes", "regions", "functions", "presets"]
theorem sc_Font : FnScope N_Font ps_Font (defScope s_Font) := ⟨rfl, rfl, rfl, by decide +kernel, rfl, by decide +kernel, by decide +kernel⟩
abbrev s_copied_glyph : Stmt := topS 76
abbrev N_copied_glyph : List Str := ["glyph"]
abbrev ps_copied_glyph : List Str := ["glyph"]
theorem sc_copied_glyph : FnScope N_copied_glyph ps_copied_glyph (defScope s_copied_glyph) := ⟨rfl, rfl, rfl, by decide +kernel, rfl, by decide +kernel, by decide +kernel⟩
theorem bd_copied_glyph (kV doc pm : Value) (an : Option Addr) (cdv ct : Value) (us : List Value) (h : us.length = ps_copied_glyph.length) : bindArgs (PySem.W.fnOf "copied_glyph" "copied_glyph" (defArgs s_copied_glyph) (defBody s_copied_glyph) (defScope s_copied_glyph) .none kV doc pm an cdv ct) ⟨us, []⟩ = pure (ps_copied_glyph.zip us) := match us, h with | [_], _ => rfl
abbrev s_copied_rule : Stmt := topS 77
abbrev N_copied_rule : List Str := ["rule"]
abbrev ps_copied_rule : List Str := ["rule"]
theorem sc_copied_rule : FnScope N_copied_rule ps_copied_rule (defScope s_copied_rule) := ⟨rfl, rfl, rfl, by decide +kernel, rfl, by decide +kernel, by decide +kernel⟩
theorem bd_copied_rule (kV doc pm : Value) (an : Option Addr) (cdv ct : Value) (us : List Value) (h : us.length = ps_copied_rule.length) : bindArgs (PySem.W.fnOf "copied_rule" "copied_rule" (defArgs s_copied_rule) (defBody s_copied_rule) (defScope s_copied_rule) .none kV doc pm an cdv ct) ⟨us, []⟩ = pure (ps_copied_rule.zip us) := match us, h with | [_], _ => rfl
abbrev s_copied_lookup : Stmt := topS 78
abbrev N_copied_lookup : List Str := ["lookup"]
abbrev ps_copied_lookup : List Str := ["lookup"]
theorem sc_copied_lookup : FnScope N_copied_lookup ps_copied_lookup (defScope s_copied_lookup) := ⟨rfl, rfl, rfl, by decide +kernel, rfl, by decide +kernel, by decide +kernel⟩
theorem bd_copied_lookup (kV doc pm : Value) (an : Option Addr) (cdv ct : Value) (us : List Value) (h : us.length = ps_copied_lookup.length) : bindArgs (PySem.W.fnOf "copied_lookup" "copied_lookup" (defArgs s_copied_lookup) (defBody s_copied_lookup) (defScope s_copied_lookup) .none kV doc pm an cdv ct) ⟨us, []⟩ = pure (ps_copied_lookup.zip us) := match us, h with | [_], _ => rfl
abbrev s_law_deck : Stmt := topS 80
abbrev N_law_deck : List Str := ["script"]
abbrev ps_law_deck : List Str := ["script"]
theorem sc_law_deck : FnScope N_law_deck ps_law_deck (defScope s_law_deck) := ⟨rfl, rfl, rfl, by decide +kernel, rfl, by decide +kernel, by decide +kernel⟩
theorem bd_law_deck (kV doc pm : Value) (an : Option Addr) (cdv ct : Value) (us : List Value) (h : us.length = ps_law_deck.length) : bindArgs (PySem.W.fnOf "_law_deck" "_law_deck" (defArgs s_law_deck) (defBody s_law_deck) (defScope s_law_deck) .none kV doc pm an cdv ct) ⟨us, []⟩ = pure (ps_law_deck.zip us) := match us, h with | [_], _ => rfl
abbrev s_law_draw : Stmt := topS 81
abbrev N_law_draw : List Str := ["deck", "most", "value", "cell"]
abbrev ps_law_draw : List Str := ["deck", "most"]
theorem sc_law_draw : FnScope N_law_draw ps_law_draw (defScope s_law_draw) := ⟨rfl, rfl, rfl, by decide +kernel, rfl, by decide +kernel, by decide +kernel⟩
theorem bd_law_draw (kV doc pm : Value) (an : Option Addr) (cdv ct : Value) (us : List Value) (h : us.length = ps_law_draw.length) : bindArgs (PySem.W.fnOf "_law_draw" "_law_draw" (defArgs s_law_draw) (defBody s_law_draw) (defScope s_law_draw) .none kV doc pm an cdv ct) ⟨us, []⟩ = pure (ps_law_draw.zip us) := match us, h with | [_, _], _ => rfl
abbrev s_law_same : Stmt := topS 82
abbrev N_law_same : List Str := ["actual", "due", "k"]
abbrev ps_law_same : List Str := ["actual", "due"]
theorem sc_law_same : FnScope N_law_same ps_law_same (defScope s_law_same) := ⟨rfl, rfl, rfl, by decide +kernel, rfl, by decide +kernel, by decide +kernel⟩
theorem bd_law_same (kV doc pm : Value) (an : Option Addr) (cdv ct : Value) (us : List Value) (h : us.length = ps_law_same.length) : bindArgs (PySem.W.fnOf "_law_same" "_law_same" (defArgs s_law_same) (defBody s_law_same) (defScope s_law_same) .none kV doc pm an cdv ct) ⟨us, []⟩ = pure (ps_law_same.zip us) := match us, h with | [_, _], _ => rfl
abbrev s_law_same_list : Stmt := topS 83
abbrev N_law_same_list : List Str := ["actual", "due", "k"]
abbrev ps_law_same_list : List Str := ["actual", "due"]
theorem sc_law_same_list : FnScope N_law_same_list ps_law_same_list (defScope s_law_same_list) := ⟨rfl, rfl, rfl, by decide +kernel, rfl, by decide +kernel, by decide +kernel⟩
theorem bd_law_same_list (kV doc pm : Value) (an : Option Addr) (cdv ct : Value) (us : List Value) (h : us.length = ps_law_same_list.length) : bindArgs (PySem.W.fnOf "_law_same_list" "_law_same_list" (defArgs s_law_same_list) (defBody s_law_same_list) (defScope s_law_same_list) .none kV doc pm an cdv ct) ⟨us, []⟩ = pure (ps_law_same_list.zip us) := match us, h with | [_, _], _ => rfl
abbrev s_law_point : Stmt := topS 84
abbrev N_law_point : List Str := ["deck", "far", "spread", "x"]
abbrev ps_law_point : List Str := ["deck", "far"]
theorem sc_law_point : FnScope N_law_point ps_law_point (defScope s_law_point) := ⟨rfl, rfl, rfl, by decide +kernel, rfl, by decide +kernel, by decide +kernel⟩
theorem bd_law_point (kV doc pm : Value) (an : Option Addr) (cdv ct : Value) (us : List Value) (h : us.length = ps_law_point.length) : bindArgs (PySem.W.fnOf "_law_point" "_law_point" (defArgs s_law_point) (defBody s_law_point) (defScope s_law_point) .none kV doc pm an cdv ct) ⟨us, []⟩ = pure (ps_law_point.zip us) := match us, h with | [_, _], _ => rfl
abbrev s_law_outline : Stmt := topS 85
abbrev N_law_outline : List Str := ["deck", "least", "far", "outline", "k", "j"]
abbrev ps_law_outline : List Str := ["deck", "least", "far"]
theorem sc_law_outline : FnScope N_law_outline ps_law_outline (defScope s_law_outline) := ⟨rfl, rfl, rfl, by decide +kernel, rfl, by decide +kernel, by decide +kernel⟩
theorem bd_law_outline (kV doc pm : Value) (an : Option Addr) (cdv ct : Value) (us : List Value) (h : us.length = ps_law_outline.length) : bindArgs (PySem.W.fnOf "_law_outline" "_law_outline" (defArgs s_law_outline) (defBody s_law_outline) (defScope s_law_outline) .none kV doc pm an cdv ct) ⟨us, []⟩ = pure (ps_law_outline.zip us) := match us, h with | [_, _, _], _ => rfl
abbrev s_law_words : Stmt := topS 86
abbrev N_law_words : List Str := ["rows"]
abbrev ps_law_words : List Str := []
theorem sc_law_words : FnScope N_law_words ps_law_words (defScope s_law_words) := ⟨rfl, rfl, rfl, by decide +kernel, rfl, by decide +kernel, by decide +kernel⟩
theorem bd_law_words (kV doc pm : Value) (an : Option Addr) (cdv ct : Value) (us : List Value) (h : us.length = ps_law_words.length) : bindArgs (PySem.W.fnOf "_law_words" "_law_words" (defArgs s_law_words) (defBody s_law_words) (defScope s_law_words) .none kV doc pm an cdv ct) ⟨us, []⟩ = pure (ps_law_words.zip us) := match us, h with | [], _ => rfl
abbrev s_law_effect : Stmt := topS 87
abbrev N_law_effect : List Str := ["word", "rows", "counts", "k"]
abbrev ps_law_effect : List Str := ["word"]
theorem sc_law_effect : FnScope N_law_effect ps_law_effect (defScope s_law_effect) := ⟨rfl, rfl, rfl, by decide +kernel, rfl, by decide +kernel, by decide +kernel⟩
theorem bd_law_effect (kV doc pm : Value) (an : Option Addr) (cdv ct : Value) (us : List Value) (h : us.length = ps_law_effect.length) : bindArgs (PySem.W.fnOf "_law_effect" "_law_effect" (defArgs s_law_effect) (defBody s_law_effect) (defScope s_law_effect) .none kV doc pm an cdv ct) ⟨us, []⟩ = pure (ps_law_effect.zip us) := match us, h with | [_], _ => rfl
abbrev s_law_instruction : Stmt := topS 88
abbrev N_law_instruction : List Str := ["deck", "height", "functions", "left", "rows", "kind", "word", "number"]
abbrev ps_law_instruction : List Str := ["deck", "height", "functions", "left"]
theorem sc_law_instruction : FnScope N_law_instruction ps_law_instruction (defScope s_law_instruction) := ⟨rfl, rfl, rfl, by decide +kernel, rfl, by decide +kernel, by decide +kernel⟩
theorem bd_law_instruction (kV doc pm : Value) (an : Option Addr) (cdv ct : Value) (us : List Value) (h : us.length = ps_law_instruction.length) : bindArgs (PySem.W.fnOf "_law_instruction" "_law_instruction" (defArgs s_law_instruction) (defBody s_law_instruction) (defScope s_law_instruction) .none kV doc pm an cdv ct) ⟨us, []⟩ = pure (ps_law_instruction.zip us) := match us, h with | [_, _, _, _], _ => rfl
abbrev s_law_tame : Stmt := topS 89
abbrev N_law_tame : List Str := ["deck", "most", "functions", "level", "code", "height", "k", "row", "part", "inner"]
abbrev ps_law_tame : List Str := ["deck", "most", "functions", "level"]
theorem sc_law_tame : FnScope N_law_tame ps_law_tame (defScope s_law_tame) := ⟨rfl, rfl, rfl, by decide +kernel, rfl, by decide +kernel, by decide +kernel⟩
theorem bd_law_tame (kV doc pm : Value) (an : Option Addr) (cdv ct : Value) (us : List Value) (h : us.length = ps_law_tame.length) : bindArgs (PySem.W.fnOf "_law_tame" "_law_tame" (defArgs s_law_tame) (defBody s_law_tame) (defScope s_law_tame) .none kV doc pm an cdv ct) ⟨us, []⟩ = pure (ps_law_tame.zip us) := match us, h with | [_, _, _, _], _ => rfl
abbrev s_law_scaled : Stmt := topS 90
abbrev N_law_scaled : List Str := ["unit", "size", "n"]
abbrev ps_law_scaled : List Str := ["unit", "size", "n"]
theorem sc_law_scaled : FnScope N_law_scaled ps_law_scaled (defScope s_law_scaled) := ⟨rfl, rfl, rfl, by decide +kernel, rfl, by decide +kernel, by decide +kernel⟩
theorem bd_law_scaled (kV doc pm : Value) (an : Option Addr) (cdv ct : Value) (us : List Value) (h : us.length = ps_law_scaled.length) : bindArgs (PySem.W.fnOf "_law_scaled" "_law_scaled" (defArgs s_law_scaled) (defBody s_law_scaled) (defScope s_law_scaled) .none kV doc pm an cdv ct) ⟨us, []⟩ = pure (ps_law_scaled.zip us) := match us, h with | [_, _, _], _ => rfl
abbrev s_law_unknown : Stmt := topS 91
abbrev N_law_unknown : List Str := ["font", "number", "size", "e"]
abbrev ps_law_unknown : List Str := ["font", "number", "size"]
theorem sc_law_unknown : FnScope N_law_unknown ps_law_unknown (defScope s_law_unknown) := ⟨rfl, rfl, rfl, by decide +kernel, rfl, by decide +kernel, by decide +kernel⟩
theorem bd_law_unknown (kV doc pm : Value) (an : Option Addr) (cdv ct : Value) (us : List Value) (h : us.length = ps_law_unknown.length) : bindArgs (PySem.W.fnOf "_law_unknown" "_law_unknown" (defArgs s_law_unknown) (defBody s_law_unknown) (defScope s_law_unknown) .none kV doc pm an cdv ct) ⟨us, []⟩ = pure (ps_law_unknown.zip us) := match us, h with | [_, _, _], _ => rfl
abbrev s_law : Stmt := topS 92
abbrev N_law : List Str := ["script", "deck", "unit", "size", "outline", "hint", "functions", "presets", "font", "n", "pairs", "ends", "contour", "point", "zone", "program", "row", "k", "pair"]
abbrev ps_law : List Str := ["script"]
theorem sc_law : FnScope N_law ps_law (defScope s_law) := ⟨rfl, rfl, rfl, by decide +kernel, rfl, by decide +kernel, by decide +kernel⟩
theorem bd_law (kV doc pm : Value) (an : Option Addr) (cdv ct : Value) (us : List Value) (h : us.length = ps_law.length) : bindArgs (PySem.W.fnOf "law" "law" (defArgs s_law) (defBody s_law) (defScope s_law) .none kV doc pm an cdv ct) ⟨us, []⟩ = pure (ps_law.zip us) := match us, h with | [_], _ => rfl
abbrev s_UnknownGlyph : Stmt := inClass (topS 7) 0
abbrev ps_UnknownGlyph : List Str := ["self", "number"]
theorem sc_UnknownGlyph : FnScope ["self", "number"] ps_UnknownGlyph (defScope s_UnknownGlyph) := ⟨rfl, rfl, rfl, by decide +kernel, rfl, by decide +kernel, by decide +kernel⟩
abbrev kw_Glyph (e_parts e_anchors e_deltas e_hint : Addr) : List (Str × V) := [("parts", .ref e_parts), ("anchors", .ref e_anchors), ("mark", .bl false), ("deltas", .ref e_deltas), ("hint", .ref e_hint)]
abbrev fl_Glyph : List Str := ["advance", "outline", "parts", "anchors", "mark", "deltas", "hint"]
abbrev kw_Rule (e_back e_ahead e_out e_calls : Addr) : List (Str × V) := [("back", .ref e_back), ("ahead", .ref e_ahead), ("out", .ref e_out), ("calls", .ref e_calls), ("extra", .int 0)]
abbrev fl_Rule : List Str := ["inside", "back", "ahead", "out", "calls", "extra"]
abbrev kw_Lookup  : List (Str × V) := [("ignore", .bl false)]
abbrev fl_Lookup : List Str := ["kind", "rules", "ignore"]
abbrev kw_Font (e_chars e_lookups e_features e_axes e_regions e_functions e_presets : Addr) : List (Str × V) := [("chars", .ref e_chars), ("lookups", .ref e_lookups), ("features", .ref e_features), ("axes", .ref e_axes), ("regions", .ref e_regions), ("functions", .ref e_functions), ("presets", .ref e_presets)]
abbrev fl_Font : List Str := ["unit", "glyphs", "chars", "lookups", "features", "axes", "regions", "functions", "presets"]
abbrev kw_Zone  : List (Str × V) := []
abbrev fl_Zone : List Str := ["original", "current", "touched", "ends"]
abbrev kw_Program (e_functions e_presets : Addr) : List (Str × V) := [("functions", .ref e_functions), ("presets", .ref e_presets), ("size", .int 0)]
abbrev fl_Program : List Str := ["main", "functions", "presets", "size"]
structure Txt (K : PySem.W.Frag) (mg : Str → Option Value) : Prop where
  z_abs : mg "abs" = none
  z_all : mg "all" = none
  z_bool : mg "bool" = none
  z_enumerate : mg "enumerate" = none
  z_int : mg "int" = none
  z_isinstance : mg "isinstance" = none
  z_len : mg "len" = none
  z_list : mg "list" = none
  z_max : mg "max" = none
  z_min : mg "min" = none
  z_range : mg "range" = none
  z_set : mg "set" = none
  z_str : mg "str" = none
  z_sum : mg "sum" = none
  z_tuple : mg "tuple" = none
  g_DEEPEST : ∃ u, mg "DEEPEST" = some u ∧ RelV (.int (4)) u
  g_FARTHEST : ∃ u, mg "FARTHEST" = some u ∧ RelV (.int (16384)) u
  g_GREATEST_NUMBER : ∃ u, mg "GREATEST_NUMBER" = some u ∧ RelV (.int (2147483647)) u
  g_LEAST_NUMBER : ∃ u, mg "LEAST_NUMBER" = some u ∧ RelV (.int (-2147483648)) u
  g_LEAST_OF_CONTOUR : ∃ u, mg "LEAST_OF_CONTOUR" = some u ∧ RelV (.int (2)) u
  g_MOST_CONTOURS : ∃ u, mg "MOST_CONTOURS" = some u ∧ RelV (.int (40)) u
  g_MOST_POINTS : ∃ u, mg "MOST_POINTS" = some u ∧ RelV (.int (200)) u
  g_ONE_PIXEL : ∃ u, mg "ONE_PIXEL" = some u ∧ RelV (.int (64)) u
  d_tuples_of : DefIn K mg "tuples_of" s_tuples_of
  d_depths_of : DefIn K mg "depths_of" s_depths_of
  d_has_parts_in : DefIn K mg "has_parts_in" s_has_parts_in
  d_is_proper : DefIn K mg "is_proper" s_is_proper
  d_count_points : DefIn K mg "count_points" s_count_points
  d_check_known : DefIn K mg "check_known" s_check_known
  d_is_rising : DefIn K mg "is_rising" s_is_rising
  d_is_instruction : DefIn K mg "is_instruction" s_is_instruction
  d_scaled : DefIn K mg "scaled" s_scaled
  d_zone_of : DefIn K mg "zone_of" s_zone_of
  d_program_of : DefIn K mg "program_of" s_program_of
  d_is_row_of_letters : DefIn K mg "is_row_of_letters" s_is_row_of_letters
  d_lookup_reason : DefIn K mg "lookup_reason" s_lookup_reason
  d_first_fault : DefIn K mg "first_fault" s_first_fault
  d_placed : DefIn K mg "placed" s_placed
  d_first_glyph_fault : DefIn K mg "first_glyph_fault" s_first_glyph_fault
  d_first_lookup_fault : DefIn K mg "first_lookup_fault" s_first_lookup_fault
  d_is_coordinate : DefIn K mg "is_coordinate" s_is_coordinate
  d_many_reason : DefIn K mg "many_reason" s_many_reason
  d_unit_reason : DefIn K mg "unit_reason" s_unit_reason
  d_glyph_reason : DefIn K mg "glyph_reason" s_glyph_reason
  d_is_part : DefIn K mg "is_part" s_is_part
  d_is_anchor : DefIn K mg "is_anchor" s_is_anchor
  d_is_delta : DefIn K mg "is_delta" s_is_delta
  d_parts_reason : DefIn K mg "parts_reason" s_parts_reason
  d_chars_reason : DefIn K mg "chars_reason" s_chars_reason
  d_features_reason : DefIn K mg "features_reason" s_features_reason
  d_axes_reason : DefIn K mg "axes_reason" s_axes_reason
  d_regions_reason : DefIn K mg "regions_reason" s_regions_reason
  d_is_tent : DefIn K mg "is_tent" s_is_tent
  d_functions_reason : DefIn K mg "functions_reason" s_functions_reason
  d_presets_reason : DefIn K mg "presets_reason" s_presets_reason
  d_copied_glyph : DefIn K mg "copied_glyph" s_copied_glyph
  d_copied_rule : DefIn K mg "copied_rule" s_copied_rule
  d_copied_lookup : DefIn K mg "copied_lookup" s_copied_lookup
  d_law_deck : DefIn K mg "_law_deck" s_law_deck
  d_law_draw : DefIn K mg "_law_draw" s_law_draw
  d_law_same : DefIn K mg "_law_same" s_law_same
  d_law_same_list : DefIn K mg "_law_same_list" s_law_same_list
  d_law_point : DefIn K mg "_law_point" s_law_point
  d_law_outline : DefIn K mg "_law_outline" s_law_outline
  d_law_words : DefIn K mg "_law_words" s_law_words
  d_law_effect : DefIn K mg "_law_effect" s_law_effect
  d_law_instruction : DefIn K mg "_law_instruction" s_law_instruction
  d_law_tame : DefIn K mg "_law_tame" s_law_tame
  d_law_scaled : DefIn K mg "_law_scaled" s_law_scaled
  d_law_unknown : DefIn K mg "_law_unknown" s_law_unknown
  d_law : DefIn K mg "law" s_law
  x_FleuronError : mg "FleuronError" = some (.ref (adr mg "FleuronError"))
  b_FleuronError : BaseC K (adr mg "FleuronError")
  mk_UnknownGlyph : ClsN1 K mg "UnknownGlyph" "UnknownGlyph.__init__" s_UnknownGlyph "number"
  ms_UnknownGlyph : PySem.W.exmOne K (.ref (adr mg "UnknownGlyph")) (.ref (adr mg "UnknownGlyph")) = some true
  c_Glyph : ∃ e_parts e_anchors e_deltas e_hint : Addr, EmT K e_parts ∧ EmT K e_anchors ∧ EmT K e_deltas ∧ EmT K e_hint ∧ ClsI K mg "Glyph" "Glyph.__init__" s_Glyph fl_Glyph (kw_Glyph e_parts e_anchors e_deltas e_hint)
  c_Rule : ∃ e_back e_ahead e_out e_calls : Addr, EmT K e_back ∧ EmT K e_ahead ∧ EmT K e_out ∧ EmT K e_calls ∧ ClsI K mg "Rule" "Rule.__init__" s_Rule fl_Rule (kw_Rule e_back e_ahead e_out e_calls)
  c_Lookup : ClsI K mg "Lookup" "Lookup.__init__" s_Lookup fl_Lookup kw_Lookup
  c_Font : ∃ e_chars e_lookups e_features e_axes e_regions e_functions e_presets : Addr, EmT K e_chars ∧ EmT K e_lookups ∧ EmT K e_features ∧ EmT K e_axes ∧ EmT K e_regions ∧ EmT K e_functions ∧ EmT K e_presets ∧ ClsI K mg "Font" "Font.__init__" s_Font fl_Font (kw_Font e_chars e_lookups e_features e_axes e_regions e_functions e_presets)
  c_Zone : ClsI K mg "Zone" "Zone.__init__" s_Zone fl_Zone kw_Zone
  c_Program : ∃ e_functions e_presets : Addr, EmT K e_functions ∧ EmT K e_presets ∧ ClsI K mg "Program" "Program.__init__" s_Program fl_Program (kw_Program e_functions e_presets)
  gt_WITH_CONTEXT : mg "WITH_CONTEXT" = some (.ref (adr mg "WITH_CONTEXT"))
  gs_WITH_CONTEXT : ∀ H : Hp, SqT K H (adr mg "WITH_CONTEXT") [.str "chain", .str "reverse"]
  gt_WITH_OUT : mg "WITH_OUT" = some (.ref (adr mg "WITH_OUT"))
  gs_WITH_OUT : ∀ H : Hp, SqT K H (adr mg "WITH_OUT") [.str "single", .str "multiple", .str "ligature", .str "reverse"]
  gt_ANCHOR_KINDS : mg "ANCHOR_KINDS" = some (.ref (adr mg "ANCHOR_KINDS"))
  gs_ANCHOR_KINDS : ∀ H : Hp, SqT K H (adr mg "ANCHOR_KINDS") [.str "base", .str "mark", .str "entry", .str "exit"]

abbrev cs (mg : Str → Option Value) : Cs := ⟨adr mg "Glyph", adr mg "Rule", adr mg "Lookup", adr mg "Font"⟩
section
variable {P : Program} {w : World} {K : PySem.W.Frag} {mg : Str → Option Value} {base : Heap}
theorem ok_tuples_of (T : Txt K mg) : Has P w K mg base 1 "tuples_of" ps_tuples_of (spE K fTof) := by
  refine has_of T.d_tuples_of sc_tuples_of bd_tuples_of (fun vs H Q E h => ?_) (fun f cdv A outer s H vs Q E hr h => ?_)
  · obtain ⟨S, ds, d, hS, hd, ⟨r, L, rfl, _⟩, q⟩ := h
    obtain ⟨v, _, rfl, _, hd⟩ := hd.consE
    cases hd.nilE
    rfl
  · obtain ⟨S, ds, d, hS, hd, ⟨r, L, rfl, ⟨xs, hx, hm, hz⟩, rfl⟩, q⟩ := h
    obtain ⟨v, _, rfl, hv, hd⟩ := hd.consE
    cases hd.nilE
    have hl := sq2_len hm
    refine ⟨_, (pss_one (ps_ret (pe_lc (own := [("row", 1)]) rfl sc_tuples_of.nd (piS (K := K) rfl (pv 0)) (blkOk_by (by kernel_rfl)) (fun _ _ _ _ _ => (pg_name (i := 1) sc_tuples_of.nd rfl (.inl rfl))) (fun _ _ _ _ _ => pts_nil) (fun _ _ _ _ _ => (pe_callTy (clTupOf (K := K) rfl) (by rfl) T.z_tuple (by decide +kernel) (pa_cons (pv 1) pa_nil)))))), ?_⟩
    walk_at "fl.w"
    refine lcS (S := S) (fun i => (L[i]?).map .tuple) hS hv hx (by omega) (fun R h => ⟨_, rfl, h⟩) ?_ ?_
    · intro D i x e H2 hD he sm al hxe R N hR hN
      obtain ⟨l, hl1, hl2⟩ := sq2_at hm he
      refine g_name ⟨rfl, ?_⟩
      walk_at "fl.w"
      cases hxe with
      | lst n q r =>
        cases hl2
        refine ⟨_, _, rfl, .inl ⟨SqL.of q, fun p hp => ?_⟩⟩
        exact hR _ _ _ (by rw [hl1]; rfl) (Fl.Same.new hp) (Dq.newT al hp r)
      | tup n q r =>
        cases hl2
        refine ⟨_, _, rfl, .inr ⟨SqT.of q, ?_⟩⟩
        exact hR _ _ _ (by rw [hl1]; rfl) (L2.Same.refl _) (.tup n q r)
      | _ => cases hl2
    · intro D H2 sm hD hq
      rw [fm_ltA hl] at hq
      exact q _ _ sm hq
theorem ok_Glyph (T : Txt K mg) {e1 e2 e3 e4 : Addr} (c : ClsI K mg "Glyph" "Glyph.__init__" s_Glyph fl_Glyph (kw_Glyph e1 e2 e3 e4)) : InI P w K mg base 2 "Glyph" "Glyph.__init__" s_Glyph fl_Glyph (kw_Glyph e1 e2 e3 e4) ps_Glyph (spI K (adr mg "Glyph") fGl) := by
  have cl := c.cl
  have na := c.na
  have h_tuples_of := ok_tuples_of (P := P) (w := w) (base := base) T
  refine inI_of c sc_Glyph (fun vs H Q E h => ?_) (fun f cdv A outer s H vs Q E hr h => ?_)
  · obtain ⟨S, x, dx, ws, ds, fs, rfl, _, _, _, hd, ⟨o, p, n, d, hi, g, rfl, _⟩, q⟩ := h
    obtain ⟨v1, _, rfl, _, hd⟩ := hd.consE
    obtain ⟨v2, _, rfl, _, hd⟩ := hd.consE
    obtain ⟨v3, _, rfl, _, hd⟩ := hd.consE
    obtain ⟨v4, _, rfl, _, hd⟩ := hd.consE
    obtain ⟨v5, _, rfl, _, hd⟩ := hd.consE
    obtain ⟨v6, _, rfl, _, hd⟩ := hd.consE
    obtain ⟨v7, _, rfl, _, hd⟩ := hd.consE
    cases hd.nilE
    rfl
  · obtain ⟨S, x, dx, ws, ds, fs, rfl, hxS, hS, hx, hd, ⟨o, p, n, d, hi, g, rfl, gok, so, sp, sn, sd, sh, rfl⟩, q⟩ := h
    obtain ⟨v1, _, rfl, h1, hd⟩ := hd.consE
    obtain ⟨v2, _, rfl, h2, hd⟩ := hd.consE
    obtain ⟨v3, _, rfl, h3, hd⟩ := hd.consE
    obtain ⟨v4, _, rfl, h4, hd⟩ := hd.consE
    obtain ⟨v5, _, rfl, h5, hd⟩ := hd.consE
    obtain ⟨v6, _, rfl, h6, hd⟩ := hd.consE
    obtain ⟨v7, _, rfl, h7, hd⟩ := hd.consE
    cases hd.nilE
    have I0 := InitAt.start hx hS hxS
    refine ⟨_, (pss_cons (psFld (K := K) rfl (pv 0) (pv 1) rfl)
      (pss_cons (psFld (K := K) rfl (pv 0) (pe_lc (own := [("contour", 8)]) rfl sc_Glyph.nd (piS (K := K) rfl (pv 2)) (blkOk_by (by kernel_rfl)) (fun _ _ _ _ _ => (pg_name (i := 8) sc_Glyph.nd rfl (.inl rfl))) (fun _ _ _ _ _ => pts_nil) (fun _ _ _ _ _ => (pe_h h_tuples_of (hr.mono (by decide)) (pa_cons (pv 8) pa_nil)))) rfl)
      (pss_cons (psFld (K := K) rfl (pv 0) (pe_h h_tuples_of (hr.mono (by decide)) (pa_cons (pv 3) pa_nil)) rfl)
      (pss_cons (psFld (K := K) rfl (pv 0) (pe_h h_tuples_of (hr.mono (by decide)) (pa_cons (pv 4) pa_nil)) rfl)
      (pss_cons (psFld (K := K) rfl (pv 0) (pv 5) rfl)
      (pss_cons (psFld (K := K) rfl (pv 0) (pe_h h_tuples_of (hr.mono (by decide)) (pa_cons (pv 6) pa_nil)) rfl)
      (pss_one (psFld (K := K) rfl (pv 0) (pe_h h_tuples_of (hr.mono (by decide)) (pa_cons (pv 7) pa_nil)) rfl)))))))), ?_⟩
    walk_at "fl.w"
    have I1 := I0.put (I0.dqO (h1.dq gok.a)) "advance" rfl
    walk_at "fl.w"
    obtain ⟨xs, e1, e2, e3, e4⟩ := so
    refine lcS (S := S) (fun i => (g.outl[i]?).map ltD) I1.al (I1.deO h2) e1 (by omega) (fun R h => ⟨_, rfl, h⟩) ?_ ?_
    · intro D i x2 e H2 hD he sm al hxe R N hR hN
      obtain ⟨l, hl⟩ : ∃ l, g.outl[i]? = some l := by
        have := (List.getElem?_eq_some_iff.mp he).1
        exact ⟨g.outl[i]'(by omega), List.getElem?_eq_getElem _⟩
      refine g_name ⟨rfl, ?_⟩
      walk_at "fl.w"
      refine spE_app (D :: S) [e] (ltD l) al (.cons (.inl hxe) .nil) ⟨e, l, rfl, e3 i e l he hl, rfl⟩ (fun v H3 sm3 hv => ?_)
      exact hR _ _ _ (by rw [hl]; rfl) sm3 hv
    · intro D H2 sm2 hD hq2
      rw [fm_ltA e2] at hq2
      have I1s := I1.same sm2
      walk_at "fl.w"
      have I2 := I1s.put hq2 "outline" rfl
      walk_at "fl.w"
      refine spE_app S [p] (ltD g.parts) I2.al (.cons (I2.deO h3) .nil) ⟨p, _, rfl, sp, rfl⟩ (fun v H3 sm3 hv3 => ?_)
      have I2s := I2.same sm3
      walk_at "fl.w"
      have I3 := I2s.put hv3 "parts" rfl
      walk_at "fl.w"
      refine spE_app S [n] (ltD g.anch) I3.al (.cons (I3.deO h4) .nil) ⟨n, _, rfl, sn, rfl⟩ (fun v H4 sm4 hv4 => ?_)
      have I3s := I3.same sm4
      walk_at "fl.w"
      have I4 := I3s.put hv4 "anchors" rfl
      walk_at "fl.w"
      have I5 := I4.put (I4.dqO (h5.dq gok.m)) "mark" rfl
      walk_at "fl.w"
      refine spE_app S [d] (ltD g.deltas) I5.al (.cons (I5.deO h6) .nil) ⟨d, _, rfl, sd, rfl⟩ (fun v H6 sm6 hv6 => ?_)
      have I5s := I5.same sm6
      walk_at "fl.w"
      have I6 := I5s.put hv6 "deltas" rfl
      walk_at "fl.w"
      refine spE_app S [hi] (ltD g.hint) I6.al (.cons (I6.deO h7) .nil) ⟨hi, _, rfl, sh, rfl⟩ (fun v H7 sm7 hv7 => ?_)
      have I6s := I6.same sm7
      walk_at "fl.w"
      have I7 := I6s.put hv7 "hint" rfl
      walk_at "fl.w"
      exact q _ _ I7.fr I7.hx I7.dq
theorem ok_Rule (T : Txt K mg) {e1 e2 e3 e4 : Addr} (c : ClsI K mg "Rule" "Rule.__init__" s_Rule fl_Rule (kw_Rule e1 e2 e3 e4)) : InI P w K mg base 2 "Rule" "Rule.__init__" s_Rule fl_Rule (kw_Rule e1 e2 e3 e4) ps_Rule (spI K (adr mg "Rule") fRu) := by
  have cl := c.cl
  have na := c.na
  have h_tuples_of := ok_tuples_of (P := P) (w := w) (base := base) T
  refine inI_of c sc_Rule (fun vs H Q E h => ?_) (fun f cdv A outer s H vs Q E hr h => ?_)
  · obtain ⟨S, x, dx, ws, ds, fs, rfl, _, _, _, hd, ⟨i, b, a, o, ca, r, rfl, _⟩, q⟩ := h
    obtain ⟨v1, _, rfl, _, hd⟩ := hd.consE
    obtain ⟨v2, _, rfl, _, hd⟩ := hd.consE
    obtain ⟨v3, _, rfl, _, hd⟩ := hd.consE
    obtain ⟨v4, _, rfl, _, hd⟩ := hd.consE
    obtain ⟨v5, _, rfl, _, hd⟩ := hd.consE
    obtain ⟨v6, _, rfl, _, hd⟩ := hd.consE
    cases hd.nilE
    rfl
  · obtain ⟨S, x, dx, ws, ds, fs, rfl, hxS, hS, hx, hd, ⟨i, b, a, o, ca, r, rfl, rok, si, sb, sa, so, sc, rfl⟩, q⟩ := h
    obtain ⟨v1, _, rfl, h1, hd⟩ := hd.consE
    obtain ⟨v2, _, rfl, h2, hd⟩ := hd.consE
    obtain ⟨v3, _, rfl, h3, hd⟩ := hd.consE
    obtain ⟨v4, _, rfl, h4, hd⟩ := hd.consE
    obtain ⟨v5, _, rfl, h5, hd⟩ := hd.consE
    obtain ⟨v6, _, rfl, h6, hd⟩ := hd.consE
    cases hd.nilE
    have I0 := InitAt.start hx hS hxS
    refine ⟨_, (pss_cons (psFld (K := K) rfl (pv 0) (pe_lc (own := [("chosen", 7)]) rfl sc_Rule.nd (piS (K := K) rfl (pv 1)) (blkOk_by (by kernel_rfl)) (fun _ _ _ _ _ => (pg_name (i := 7) sc_Rule.nd rfl (.inl rfl))) (fun _ _ _ _ _ => pts_nil) (fun _ _ _ _ _ => (pe_callTy (clLstOf (K := K) rfl) (by rfl) T.z_list (by decide +kernel) (pa_cons (pv 7) pa_nil)))) rfl)
      (pss_cons (psFld (K := K) rfl (pv 0) (pe_lc (own := [("chosen", 7)]) rfl sc_Rule.nd (piS (K := K) rfl (pv 2)) (blkOk_by (by kernel_rfl)) (fun _ _ _ _ _ => (pg_name (i := 7) sc_Rule.nd rfl (.inl rfl))) (fun _ _ _ _ _ => pts_nil) (fun _ _ _ _ _ => (pe_callTy (clLstOf (K := K) rfl) (by rfl) T.z_list (by decide +kernel) (pa_cons (pv 7) pa_nil)))) rfl)
      (pss_cons (psFld (K := K) rfl (pv 0) (pe_lc (own := [("chosen", 7)]) rfl sc_Rule.nd (piS (K := K) rfl (pv 3)) (blkOk_by (by kernel_rfl)) (fun _ _ _ _ _ => (pg_name (i := 7) sc_Rule.nd rfl (.inl rfl))) (fun _ _ _ _ _ => pts_nil) (fun _ _ _ _ _ => (pe_callTy (clLstOf (K := K) rfl) (by rfl) T.z_list (by decide +kernel) (pa_cons (pv 7) pa_nil)))) rfl)
      (pss_cons (psFld (K := K) rfl (pv 0) (pe_callTy (clLstOf (K := K) rfl) (by rfl) T.z_list (by decide +kernel) (pa_cons (pv 4) pa_nil)) rfl)
      (pss_cons (psFld (K := K) rfl (pv 0) (pe_h h_tuples_of (hr.mono (by decide)) (pa_cons (pv 5) pa_nil)) rfl)
      (pss_one (psFld (K := K) rfl (pv 0) (pv 6) rfl))))))), ?_⟩
    walk_at "fl.w"
    obtain ⟨xs, e1, em, ez⟩ := si
    have el := sq2_len em
    refine lcS (S := S) (fun i => (r.inside[i]?).map .list) I0.al (I0.deO h1) e1 (by omega) (fun R h => ⟨_, rfl, h⟩) ?_ ?_
    · intro D i x2 e H2 hD he sm al hxe R N hR hN
      obtain ⟨l, hl1, hl2⟩ := sq2_at em he
      refine g_name ⟨rfl, ?_⟩
      walk_at "fl.w"
      exact lstOf_app al hxe hl2 fun l2 H3 sm3 hv => hR _ _ _ (by rw [hl1]; rfl) sm3 hv
    · intro D H2 sm2 hD hq2
      rw [fm_ltA el] at hq2
      have I1s := I0.same sm2
      walk_at "fl.w"
      have I1 := I1s.put hq2 "inside" rfl
      walk_at "fl.w"
      obtain ⟨xs, e1, em, ez⟩ := sb
      have el := sq2_len em
      refine lcS (S := S) (fun i => (r.back[i]?).map .list) I1.al (I1.deO h2) e1 (by omega) (fun R h => ⟨_, rfl, h⟩) ?_ ?_
      · intro D i x2 e H2 hD he sm al hxe R N hR hN
        obtain ⟨l, hl1, hl2⟩ := sq2_at em he
        refine g_name ⟨rfl, ?_⟩
        walk_at "fl.w"
        exact lstOf_app al hxe hl2 fun l2 H3 sm3 hv => hR _ _ _ (by rw [hl1]; rfl) sm3 hv
      · intro D H2 sm2 hD hq2
        rw [fm_ltA el] at hq2
        have I2s := I1.same sm2
        walk_at "fl.w"
        have I2 := I2s.put hq2 "back" rfl
        walk_at "fl.w"
        obtain ⟨xs, e1, em, ez⟩ := sa
        have el := sq2_len em
        refine lcS (S := S) (fun i => (r.ahead[i]?).map .list) I2.al (I2.deO h3) e1 (by omega) (fun R h => ⟨_, rfl, h⟩) ?_ ?_
        · intro D i x2 e H2 hD he sm al hxe R N hR hN
          obtain ⟨l, hl1, hl2⟩ := sq2_at em he
          refine g_name ⟨rfl, ?_⟩
          walk_at "fl.w"
          exact lstOf_app al hxe hl2 fun l2 H3 sm3 hv => hR _ _ _ (by rw [hl1]; rfl) sm3 hv
        · intro D H2 sm2 hD hq2
          rw [fm_ltA el] at hq2
          have I3s := I2.same sm2
          walk_at "fl.w"
          have I3 := I3s.put hq2 "ahead" rfl
          walk_at "fl.w"
          refine lstOf_de I3.al (I3.deO h4) so.1 fun v4 H4 sm4 hv4 => ?_
          have I4s := I3.same sm4
          walk_at "fl.w"
          have I4 := I4s.put hv4 "out" rfl
          walk_at "fl.w"
          refine spE_app S [ca] (ltD r.calls) I4.al (.cons (I4.deO h5) .nil) ⟨ca, _, rfl, sc, rfl⟩ (fun v H5 sm5 hv5 => ?_)
          have I5s := I4.same sm5
          walk_at "fl.w"
          have I5 := I5s.put hv5 "calls" rfl
          walk_at "fl.w"
          have I6 := I5.put (I5.dqO (h6.dq rok.e)) "extra" rfl
          walk_at "fl.w"
          exact q _ _ I6.fr I6.hx I6.dq
/-- Rule(inside, back=, ahead=, out=, calls=, extra=) -/
theorem mk_Rule_all {e1 e2 e3 e4 : Addr} {sp : Sp} (h : InI P w K mg base 2 "Rule" "Rule.__init__" s_Rule fl_Rule (kw_Rule e1 e2 e3 e4) ps_Rule sp) :
    MkI P w K mg base 2 "Rule" 1 ["back", "ahead", "out", "calls", "extra"] (fun vs zs => pick [0, 1, 2, 3, 4, 5, 6] (vs ++ ([] ++ zs))) sp :=
  h.make 1 ["back", "ahead", "out", "calls", "extra"] [] [0, 1, 2, 3, 4, 5, 6] (by simp) (fun q m => nomatch m) fun D doc pm an cdv ct us mv ws h1 h2 h3 => match us, h1, mv, h2, ws, h3 with | [_, _], _, [], _, [_, _, _, _, _], _ => rfl
/-- Glyph(advance, outline, parts=, anchors=, mark=, deltas=, hint=) -/
theorem mk_Glyph_all {e1 e2 e3 e4 : Addr} {sp : Sp} (h : InI P w K mg base 2 "Glyph" "Glyph.__init__" s_Glyph fl_Glyph (kw_Glyph e1 e2 e3 e4) ps_Glyph sp) :
    MkI P w K mg base 2 "Glyph" 2 ["parts", "anchors", "mark", "deltas", "hint"] (fun vs zs => pick [0, 1, 2, 3, 4, 5, 6, 7] (vs ++ ([] ++ zs))) sp :=
  h.make 2 ["parts", "anchors", "mark", "deltas", "hint"] [] [0, 1, 2, 3, 4, 5, 6, 7] (by simp) (fun q m => nomatch m) fun D doc pm an cdv ct us mv ws h1 h2 h3 => match us, h1, mv, h2, ws, h3 with | [_, _, _], _, [], _, [_, _, _, _, _], _ => rfl
theorem ok_copied_rule (T : Txt K mg) : Has P w K mg base 4 "copied_rule" ps_copied_rule (spD (fCr (adr mg "Rule"))) := by
  obtain ⟨e1, e2, e3, e4, m1, m2, m3, m4, c⟩ := T.c_Rule
  have cl := c.cl
  have na := c.na
  have mk_Rule_1_back_ahead_out_calls_extra := mk_Rule_all (ok_Rule (P := P) (w := w) (base := base) T c)
  refine has_of T.d_copied_rule sc_copied_rule bd_copied_rule (fun vs H Q E h => ?_) (fun f cdv A outer s H vs Q E hr h => ?_)
  · obtain ⟨S, ds, d, hS, hd, ⟨r, rok, rfl, rfl⟩, q⟩ := h
    obtain ⟨v, _, rfl, hv, hd⟩ := hd.consE
    cases hd.nilE
    rfl
  · obtain ⟨S, ds, d, hS, hd, ⟨r, rok, rfl, rfl⟩, q⟩ := h
    obtain ⟨v, _, rfl, hv, hd⟩ := hd.consE
    cases hd.nilE
    obtain ⟨a, dx, fs, rfl, ha, hA, hN⟩ := hv.insE
    obtain ⟨v1, fs, rfl, h1, hN⟩ := hN.consE
    obtain ⟨v2, fs, rfl, h2, hN⟩ := hN.consE
    obtain ⟨v3, fs, rfl, h3, hN⟩ := hN.consE
    obtain ⟨v4, fs, rfl, h4, hN⟩ := hN.consE
    obtain ⟨v5, fs, rfl, h5, hN⟩ := hN.consE
    obtain ⟨v6, fs, rfl, h6, hN⟩ := hN.consE
    cases hN.nilE
    refine ⟨_, (pss_one (ps_ret (pe_mk (mg := mg) rfl mk_Rule_1_back_ahead_out_calls_extra (hr.mono (by decide)) (pa_cons (peFld (K := K) rfl (pv 0) rfl) pa_nil) (pk_cons (peFld (K := K) rfl (pv 0) rfl) (pk_cons (peFld (K := K) rfl (pv 0) rfl) (pk_cons (peFld (K := K) rfl (pv 0) rfl) (pk_cons (peFld (K := K) rfl (pv 0) rfl) (pk_cons (peFld (K := K) rfl (pv 0) rfl) pk_nil)))))))), ?_⟩
    walk_at "fl.w"
    refine g_mk rfl rfl (mk_app (f := fRu) (ws := [v1, v2, v3, v4, v5, v6]) S [llD r.inside, llD r.back, llD r.ahead, .list r.out, ltD r.calls, r.extra] r.F (fun x => rfl) hS (.cons (.inl h1) (.cons (.inl h2) (.cons (.inl h3) (.cons (.inl h4) (.cons (.inl h5) (.cons (.inl h6) .nil))))))
      ⟨_, _, _, _, _, r, rfl, rok, .ll rok.i, .ll rok.b, .ll rok.a, .ls rok.o, .lt rok.c, rfl⟩ fun x H2 sm hv2 => q _ _ sm hv2)
theorem ok_copied_glyph (T : Txt K mg) : Has P w K mg base 4 "copied_glyph" ps_copied_glyph (spD (fCg (adr mg "Glyph"))) := by
  obtain ⟨e1, e2, e3, e4, m1, m2, m3, m4, c⟩ := T.c_Glyph
  have cl := c.cl
  have na := c.na
  have mk_Glyph_2_parts_anchors_mark_deltas_hint := mk_Glyph_all (ok_Glyph (P := P) (w := w) (base := base) T c)
  refine has_of T.d_copied_glyph sc_copied_glyph bd_copied_glyph (fun vs H Q E h => ?_) (fun f cdv A outer s H vs Q E hr h => ?_)
  · obtain ⟨S, ds, d, hS, hd, ⟨r, rok, rfl, rfl⟩, q⟩ := h
    obtain ⟨v, _, rfl, hv, hd⟩ := hd.consE
    cases hd.nilE
    rfl
  · obtain ⟨S, ds, d, hS, hd, ⟨r, rok, rfl, rfl⟩, q⟩ := h
    obtain ⟨v, _, rfl, hv, hd⟩ := hd.consE
    cases hd.nilE
    obtain ⟨a, dx, fs, rfl, ha, hA, hN⟩ := hv.insE
    obtain ⟨v1, fs, rfl, h1, hN⟩ := hN.consE
    obtain ⟨v2, fs, rfl, h2, hN⟩ := hN.consE
    obtain ⟨v3, fs, rfl, h3, hN⟩ := hN.consE
    obtain ⟨v4, fs, rfl, h4, hN⟩ := hN.consE
    obtain ⟨v5, fs, rfl, h5, hN⟩ := hN.consE
    obtain ⟨v6, fs, rfl, h6, hN⟩ := hN.consE
    obtain ⟨v7, fs, rfl, h7, hN⟩ := hN.consE
    cases hN.nilE
    refine ⟨_, (pss_one (ps_ret (pe_mk (mg := mg) rfl mk_Glyph_2_parts_anchors_mark_deltas_hint (hr.mono (by decide)) (pa_cons (peFld (K := K) rfl (pv 0) rfl) (pa_cons (peFld (K := K) rfl (pv 0) rfl) pa_nil)) (pk_cons (peFld (K := K) rfl (pv 0) rfl) (pk_cons (peFld (K := K) rfl (pv 0) rfl) (pk_cons (peFld (K := K) rfl (pv 0) rfl) (pk_cons (peFld (K := K) rfl (pv 0) rfl) (pk_cons (peFld (K := K) rfl (pv 0) rfl) pk_nil)))))))), ?_⟩
    walk_at "fl.w"
    refine g_mk rfl rfl (mk_app (f := fGl) (ws := [v1, v2, v3, v4, v5, v6, v7]) S [r.adv, ouD3 r.outl, ltD r.parts, ltD r.anch, r.mark, ltD r.deltas, ltD r.hint] r.F (fun x => rfl) hS (.cons (.inl h1) (.cons (.inl h2) (.cons (.inl h3) (.cons (.inl h4) (.cons (.inl h5) (.cons (.inl h6) (.cons (.inl h7) .nil)))))))
      ⟨_, _, _, _, _, r, rfl, rok, .ou rok.o rok.c, .lt rok.p, .lt rok.n, .lt rok.d, .lt rok.h, rfl⟩ fun x H2 sm hv2 => q _ _ sm hv2)
theorem ok_Lookup (T : Txt K mg) (c : ClsI K mg "Lookup" "Lookup.__init__" s_Lookup fl_Lookup kw_Lookup) : InI P w K mg base 5 "Lookup" "Lookup.__init__" s_Lookup fl_Lookup kw_Lookup ps_Lookup (spI K (adr mg "Lookup") (fLk (adr mg "Rule"))) := by
  have cl := c.cl
  have na := c.na
  have h_copied_rule := ok_copied_rule (P := P) (w := w) (base := base) T
  refine inI_of c sc_Lookup (fun vs H Q E h => ?_) (fun f cdv A outer s H vs Q E hr h => ?_)
  · obtain ⟨S, x, dx, ws, ds, fs, rfl, _, _, _, hd, ⟨k, rs, rfl, _⟩, q⟩ := h
    obtain ⟨v1, _, rfl, _, hd⟩ := hd.consE
    obtain ⟨v2, _, rfl, _, hd⟩ := hd.consE
    obtain ⟨v3, _, rfl, _, hd⟩ := hd.consE
    cases hd.nilE
    rfl
  · obtain ⟨S, x, dx, ws, ds, fs, rfl, hxS, hS, hx, hd, ⟨k, rs, rfl, kok, e1, rfl⟩, q⟩ := h
    obtain ⟨v1, _, rfl, h1, hd⟩ := hd.consE
    obtain ⟨v2, _, rfl, h2, hd⟩ := hd.consE
    obtain ⟨v3, _, rfl, h3, hd⟩ := hd.consE
    cases hd.nilE
    have I0 := InitAt.start hx hS hxS
    refine ⟨_, (pss_cons (psFld (K := K) rfl (pv 0) (pv 1) rfl)
      (pss_cons (psFld (K := K) rfl (pv 0) (pe_lc (own := [("rule", 4)]) rfl sc_Lookup.nd (piS (K := K) rfl (pv 2)) (blkOk_by (by kernel_rfl)) (fun _ _ _ _ _ => (pg_name (i := 4) sc_Lookup.nd rfl (.inl rfl))) (fun _ _ _ _ _ => pts_nil) (fun _ _ _ _ _ => (pe_h h_copied_rule (hr.mono (by decide)) (pa_cons (pv 4) pa_nil)))) rfl)
      (pss_one (psFld (K := K) rfl (pv 0) (pv 3) rfl)))), ?_⟩
    walk_at "fl.w"
    have I1 := I0.put (I0.dqO (h1.dq kok.k)) "kind" rfl
    walk_at "fl.w"
    refine lcS (S := S) (fun i => (k.rules[i]?).map fun r => insD (adr mg "Rule") r.F) I1.al (I1.deO h2) e1 (by rw [List.length_map]; exact kok.r) (fun R h => ⟨_, rfl, h⟩) ?_ ?_
    · intro D i x2 e H2 hD he sm al hxe R N hR hN
      obtain ⟨r, hr1, rfl⟩ := at_map he
      refine g_name ⟨rfl, ?_⟩
      walk_at "fl.w"
      refine spD_app (D :: S) [_] _ al (.cons hxe .nil) ⟨r, kok.ro r (List.mem_of_getElem? hr1), rfl, rfl⟩ (fun v H3 sm3 hv => ?_)
      exact hR _ _ _ (by rw [hr1]; rfl) sm3 hv
    · intro D H2 sm2 hD hq2
      rw [fm_ltA (by rw [List.length_map])] at hq2
      have I1s := I1.same sm2
      walk_at "fl.w"
      have I2 := I1s.put hq2 "rules" rfl
      walk_at "fl.w"
      have I3 := I2.put (I2.dqO (h3.dq kok.g)) "ignore" rfl
      walk_at "fl.w"
      exact q _ _ I3.fr I3.hx I3.dq
/-- Lookup(kind, rules, ignore=) -/
theorem mk_Lookup_all {sp : Sp} (h : InI P w K mg base 5 "Lookup" "Lookup.__init__" s_Lookup fl_Lookup kw_Lookup ps_Lookup sp) :
    MkI P w K mg base 5 "Lookup" 2 ["ignore"] (fun vs zs => pick [0, 1, 2, 3] (vs ++ ([] ++ zs))) sp :=
  h.make 2 ["ignore"] [] [0, 1, 2, 3] (by simp) (fun q m => nomatch m) fun D doc pm an cdv ct us mv ws h1 h2 h3 => match us, h1, mv, h2, ws, h3 with | [_, _, _], _, [], _, [_], _ => rfl
theorem ok_copied_lookup (T : Txt K mg) : Has P w K mg base 7 "copied_lookup" ps_copied_lookup (spD (fCl (adr mg "Rule") (adr mg "Lookup"))) := by
  have c := T.c_Lookup
  have cl := c.cl
  have na := c.na
  have mk_Lookup_2_ignore := mk_Lookup_all (ok_Lookup (P := P) (w := w) (base := base) T c)
  refine has_of T.d_copied_lookup sc_copied_lookup bd_copied_lookup (fun vs H Q E h => ?_) (fun f cdv A outer s H vs Q E hr h => ?_)
  · obtain ⟨S, ds, d, hS, hd, ⟨r, rok, rfl, rfl⟩, q⟩ := h
    obtain ⟨v, _, rfl, hv, hd⟩ := hd.consE
    cases hd.nilE
    rfl
  · obtain ⟨S, ds, d, hS, hd, ⟨k, kok, rfl, rfl⟩, q⟩ := h
    obtain ⟨v, _, rfl, hv, hd⟩ := hd.consE
    cases hd.nilE
    obtain ⟨a, dx, fs, rfl, ha, hA, hN⟩ := hv.insE
    obtain ⟨v1, fs, rfl, h1, hN⟩ := hN.consE
    obtain ⟨v2, fs, rfl, h2, hN⟩ := hN.consE
    obtain ⟨v3, fs, rfl, h3, hN⟩ := hN.consE
    cases hN.nilE
    refine ⟨_, (pss_one (ps_ret (pe_mk (mg := mg) rfl mk_Lookup_2_ignore (hr.mono (by decide)) (pa_cons (peFld (K := K) rfl (pv 0) rfl) (pa_cons (peFld (K := K) rfl (pv 0) rfl) pa_nil)) (pk_cons (peFld (K := K) rfl (pv 0) rfl) pk_nil)))), ?_⟩
    walk_at "fl.w"
    refine g_mk rfl rfl (mk_app (f := fLk (adr mg "Rule")) (ws := [v1, v2, v3]) S [k.kind, .list (k.rules.map fun r => insD (adr mg "Rule") r.F), k.ign] (k.F (adr mg "Rule")) (fun x => rfl) hS (.cons (.inl h1) (.cons (.inl h2) (.cons (.inl h3) .nil)))
      ⟨k, _, rfl, kok, rfl, rfl⟩ fun x H2 sm hv2 => q _ _ sm hv2)
end

section
variable {P : Program} {w : World} {K : PySem.W.Frag} {mg : Str → Option Value} {base : Heap}
theorem ok_Font (T : Txt K mg) (V : FoR → Prop) (h_first_fault : Has P w K mg base 7 "first_fault" ["font"] (spD (fFf (cs mg) V))) {e1 e2 e3 e4 e5 e6 e7 : Addr} (c : ClsI K mg "Font" "Font.__init__" s_Font fl_Font (kw_Font e1 e2 e3 e4 e5 e6 e7)) : InI P w K mg base 8 "Font" "Font.__init__" s_Font fl_Font (kw_Font e1 e2 e3 e4 e5 e6 e7) ps_Font (spI K (adr mg "Font") (fFo (cs mg) V)) := by
  have cl := c.cl
  have na := c.na
  have h_tuples_of := ok_tuples_of (P := P) (w := w) (base := base) T
  have h_copied_glyph := ok_copied_glyph (P := P) (w := w) (base := base) T
  have h_copied_lookup := ok_copied_lookup (P := P) (w := w) (base := base) T
  refine inI_of c sc_Font (fun vs H Q E h => ?_) (fun f cdv A outer s H vs Q E hr h => ?_)
  · obtain ⟨S, x, dx, ws, ds, fs, rfl, _, _, _, hd, ⟨gs, ch, ls, fe, ax, re, fn, pr, fo, rfl, _⟩, q⟩ := h
    obtain ⟨v1, _, rfl, _, hd⟩ := hd.consE
    obtain ⟨v2, _, rfl, _, hd⟩ := hd.consE
    obtain ⟨v3, _, rfl, _, hd⟩ := hd.consE
    obtain ⟨v4, _, rfl, _, hd⟩ := hd.consE
    obtain ⟨v5, _, rfl, _, hd⟩ := hd.consE
    obtain ⟨v6, _, rfl, _, hd⟩ := hd.consE
    obtain ⟨v7, _, rfl, _, hd⟩ := hd.consE
    obtain ⟨v8, _, rfl, _, hd⟩ := hd.consE
    obtain ⟨v9, _, rfl, _, hd⟩ := hd.consE
    cases hd.nilE
    rfl
  · obtain ⟨S, x, dx, ws, ds, fs, rfl, hxS, hS, hx, hd, ⟨gs, ch, ls, fe, ax, re, fn, pr, fo, rfl, fok, fV, sg, sc, sl, sf, sa, sr, sn, sp, rfl⟩, q⟩ := h
    obtain ⟨v1, _, rfl, h1, hd⟩ := hd.consE
    obtain ⟨v2, _, rfl, h2, hd⟩ := hd.consE
    obtain ⟨v3, _, rfl, h3, hd⟩ := hd.consE
    obtain ⟨v4, _, rfl, h4, hd⟩ := hd.consE
    obtain ⟨v5, _, rfl, h5, hd⟩ := hd.consE
    obtain ⟨v6, _, rfl, h6, hd⟩ := hd.consE
    obtain ⟨v7, _, rfl, h7, hd⟩ := hd.consE
    obtain ⟨v8, _, rfl, h8, hd⟩ := hd.consE
    obtain ⟨v9, _, rfl, h9, hd⟩ := hd.consE
    cases hd.nilE
    have I0 := InitAt.start hx hS hxS
    refine ⟨_, (pss_cons (psFld (K := K) rfl (pv 0) (pv 1) rfl)
      (pss_cons (psFld (K := K) rfl (pv 0) (pe_lc (own := [("glyph", 11)]) rfl sc_Font.nd (piS (K := K) rfl (pv 2)) (blkOk_by (by kernel_rfl)) (fun _ _ _ _ _ => (pg_name (i := 11) sc_Font.nd rfl (.inl rfl))) (fun _ _ _ _ _ => pts_nil) (fun _ _ _ _ _ => (pe_h h_copied_glyph (hr.mono (by decide)) (pa_cons (pv 11) pa_nil)))) rfl)
      (pss_cons (psFld (K := K) rfl (pv 0) (pe_h h_tuples_of (hr.mono (by decide)) (pa_cons (pv 3) pa_nil)) rfl)
      (pss_cons (psFld (K := K) rfl (pv 0) (pe_lc (own := [("lookup", 12)]) rfl sc_Font.nd (piS (K := K) rfl (pv 4)) (blkOk_by (by kernel_rfl)) (fun _ _ _ _ _ => (pg_name (i := 12) sc_Font.nd rfl (.inl rfl))) (fun _ _ _ _ _ => pts_nil) (fun _ _ _ _ _ => (pe_h h_copied_lookup (hr.mono (by decide)) (pa_cons (pv 12) pa_nil)))) rfl)
      (pss_cons (psFld (K := K) rfl (pv 0) (pe_lc (own := [("name", 13), ("numbers", 14)]) rfl sc_Font.nd (piS (K := K) rfl (pv 5)) (blkOk_by (by kernel_rfl)) (fun _ _ _ _ _ => (pgT (n := 2) (K := K) rfl (by rfl) (pgs_cons (pg_name (i := 13) sc_Font.nd rfl (.inl rfl)) (pgs_cons (pg_name (i := 14) sc_Font.nd rfl (.inl rfl)) pgs_nil)))) (fun _ _ _ _ _ => pts_nil) (fun _ _ _ _ _ => (pe_tup (pa_cons (pv 13) (pa_cons (pe_callTy (clLstOf (K := K) rfl) (by rfl) T.z_list (by decide +kernel) (pa_cons (pv 14) pa_nil)) pa_nil))))) rfl)
      (pss_cons (psFld (K := K) rfl (pv 0) (pe_h h_tuples_of (hr.mono (by decide)) (pa_cons (pv 6) pa_nil)) rfl)
      (pss_cons (psFld (K := K) rfl (pv 0) (pe_lc (own := [("region", 15)]) rfl sc_Font.nd (piS (K := K) rfl (pv 7)) (blkOk_by (by kernel_rfl)) (fun _ _ _ _ _ => (pg_name (i := 15) sc_Font.nd rfl (.inl rfl))) (fun _ _ _ _ _ => pts_nil) (fun _ _ _ _ _ => (pe_h h_tuples_of (hr.mono (by decide)) (pa_cons (pv 15) pa_nil)))) rfl)
      (pss_cons (psFld (K := K) rfl (pv 0) (pe_lc (own := [("function", 16)]) rfl sc_Font.nd (piS (K := K) rfl (pv 8)) (blkOk_by (by kernel_rfl)) (fun _ _ _ _ _ => (pg_name (i := 16) sc_Font.nd rfl (.inl rfl))) (fun _ _ _ _ _ => pts_nil) (fun _ _ _ _ _ => (pe_h h_tuples_of (hr.mono (by decide)) (pa_cons (pv 16) pa_nil)))) rfl)
      (pss_cons (psFld (K := K) rfl (pv 0) (pe_callTy (clLstOf (K := K) rfl) (by rfl) T.z_list (by decide +kernel) (pa_cons (pv 9) pa_nil)) rfl)
      (pss_cons (ps_set (i := 10) sc_Font.nd rfl (.inl rfl) (pe_h h_first_fault (hr.mono (by decide)) (pa_cons (pv 0) pa_nil)))
      (pss_one (ps_if (pt_cmpR op_notN (pv 10) pe_non (nomark _))
        pss_never
        pss_nil)))))))))))), ?_⟩
    walk_at "fl.w"
    have I1 := I0.put (I0.dqO (h1.dq fok.u)) "unit" rfl
    walk_at "fl.w"
    refine lcS (S := S) (fun i => (fo.glyphs[i]?).map (glD (cs mg))) I1.al (I1.deO h2) sg (by rw [List.length_map]; exact fok.g) (fun R h => ⟨_, rfl, h⟩) ?_ ?_
    · intro D i x2 e H2 hD he sm al hxe R N hR hN
      obtain ⟨r, hr1, rfl⟩ := at_map he
      refine g_name ⟨rfl, ?_⟩
      walk_at "fl.w"
      refine spD_app (D :: S) [_] _ al (.cons hxe .nil) ⟨r, fok.go r (List.mem_of_getElem? hr1), rfl, rfl⟩ (fun v H3 sm3 hv => ?_)
      exact hR _ _ _ (by rw [hr1]; rfl) sm3 hv
    intro D H2 sm2 hD hq2
    rw [fm_ltA (by rw [List.length_map])] at hq2
    have I1s := I1.same sm2
    walk_at "fl.w"
    have I2 := I1s.put hq2 "glyphs" rfl
    walk_at "fl.w"
    refine spE_app S [ch] (ltD fo.chars) I2.al (.cons (I2.deO h3) .nil) ⟨ch, _, rfl, sc, rfl⟩ (fun v H3 sm3 hv3 => ?_)
    have I2s := I2.same sm3
    walk_at "fl.w"
    have I3 := I2s.put hv3 "chars" rfl
    walk_at "fl.w"
    refine lcS (S := S) (fun i => (fo.lookups[i]?).map (lkD (cs mg))) I3.al (I3.deO h4) sl (by rw [List.length_map]; exact fok.l) (fun R h => ⟨_, rfl, h⟩) ?_ ?_
    · intro D i x2 e H2 hD he sm al hxe R N hR hN
      obtain ⟨r, hr1, rfl⟩ := at_map he
      refine g_name ⟨rfl, ?_⟩
      walk_at "fl.w"
      refine spD_app (D :: S) [_] _ al (.cons hxe .nil) ⟨r, fok.lo r (List.mem_of_getElem? hr1), rfl, rfl⟩ (fun v H3 sm3 hv => ?_)
      exact hR _ _ _ (by rw [hr1]; rfl) sm3 hv
    intro D4 H4 sm4 hD4 hq4
    rw [fm_ltA (by rw [List.length_map])] at hq4
    have I3s := I3.same sm4
    walk_at "fl.w"
    have I4 := I3s.put hq4 "lookups" rfl
    walk_at "fl.w"
    obtain ⟨xs, e1, e2, e3, e4⟩ := sf
    refine lcS (S := S) (fun i => (fo.features[i]?).map feD) I4.al (I4.deO h5) e1 (by omega) (fun R h => ⟨_, rfl, h⟩) ?_ ?_
    · intro D i x2 e H2 hD he sm al hxe R N hR hN
      obtain ⟨l, hl⟩ : ∃ l, fo.features[i]? = some l := by
        have := (List.getElem?_eq_some_iff.mp he).1
        exact ⟨fo.features[i]'(by omega), List.getElem?_eq_getElem _⟩
      obtain ⟨m, rfl, hm1, hm2⟩ := e3 i e l he hl
      obtain ⟨a, zs, rfl, na', ha, hA⟩ := hxe.tupE
      obtain ⟨n1, zs, rfl, hn1, hA⟩ := hA.consE
      obtain ⟨n2, zs, rfl, hn2, hA⟩ := hA.consE
      cases hA.nilE
      walk_at "fl.w"
      refine ⟨rfl, ?_⟩
      walk_at "fl.w"
      refine lstOf_app al hn2 hm1 fun p H3 sm3 hv => ?_
      have hn1' := hn1.same sm3
      walk_at "fl.w"
      rename_i t ht
      exact hR _ _ _ (by rw [hl]; rfl) (sm3.trans (Fl.Same.new ht)) (Dq.newT (al.same sm3) ht (.cons hn1' (.cons hv .nil)))
    intro D5 H5 sm5 hD5 hq5
    rw [fm_ltA e2] at hq5
    have I4s := I4.same sm5
    walk_at "fl.w"
    have I5 := I4s.put hq5 "features" rfl
    walk_at "fl.w"
    refine spE_app S [ax] (ltD fo.axes) I5.al (.cons (I5.deO h6) .nil) ⟨ax, _, rfl, sa, rfl⟩ (fun v H6 sm6 hv6 => ?_)
    have I5s := I5.same sm6
    walk_at "fl.w"
    have I6 := I5s.put hv6 "axes" rfl
    walk_at "fl.w"
    obtain ⟨xs, e1, e2, e3, e4⟩ := sr
    refine lcS (S := S) (fun i => (fo.regions[i]?).map ltD) I6.al (I6.deO h7) e1 (by omega) (fun R h => ⟨_, rfl, h⟩) ?_ ?_
    · intro D i x2 e H2 hD he sm al hxe R N hR hN
      obtain ⟨l, hl⟩ : ∃ l, fo.regions[i]? = some l := by
        have := (List.getElem?_eq_some_iff.mp he).1
        exact ⟨fo.regions[i]'(by omega), List.getElem?_eq_getElem _⟩
      refine g_name ⟨rfl, ?_⟩
      walk_at "fl.w"
      refine spE_app (D :: S) [e] (ltD l) al (.cons (.inl hxe) .nil) ⟨e, l, rfl, e3 i e l he hl, rfl⟩ (fun v H3 sm3 hv => ?_)
      exact hR _ _ _ (by rw [hl]; rfl) sm3 hv
    intro D7 H7 sm7 hD7 hq7
    rw [fm_ltA e2] at hq7
    have I6s := I6.same sm7
    walk_at "fl.w"
    have I7 := I6s.put hq7 "regions" rfl
    walk_at "fl.w"
    obtain ⟨xs, e1, e2, e3, e4⟩ := sn
    refine lcS (S := S) (fun i => (fo.functions[i]?).map ltD) I7.al (I7.deO h8) e1 (by omega) (fun R h => ⟨_, rfl, h⟩) ?_ ?_
    · intro D i x2 e H2 hD he sm al hxe R N hR hN
      obtain ⟨l, hl⟩ : ∃ l, fo.functions[i]? = some l := by
        have := (List.getElem?_eq_some_iff.mp he).1
        exact ⟨fo.functions[i]'(by omega), List.getElem?_eq_getElem _⟩
      refine g_name ⟨rfl, ?_⟩
      walk_at "fl.w"
      refine spE_app (D :: S) [e] (ltD l) al (.cons (.inl hxe) .nil) ⟨e, l, rfl, e3 i e l he hl, rfl⟩ (fun v H3 sm3 hv => ?_)
      exact hR _ _ _ (by rw [hl]; rfl) sm3 hv
    intro D8 H8 sm8 hD8 hq8
    rw [fm_ltA e2] at hq8
    have I7s := I7.same sm8
    walk_at "fl.w"
    have I8 := I7s.put hq8 "functions" rfl
    walk_at "fl.w"
    refine lstOf_de I8.al (I8.deO h9) sp.1 fun v9 H9 sm9 hv9 => ?_
    have I8s := I8.same sm9
    walk_at "fl.w"
    have I9 := I8s.put hv9 "presets" rfl
    walk_at "fl.w"
    have hF := I9.fin
    refine spD_app _ [foD (cs mg) fo] .none hF.1 (.cons hF.2 .nil) ⟨fo, fV, rfl, rfl⟩ (fun v H10 sm10 hv10 => ?_)
    cases hv10.nonE
    have I10 := I9.same sm10
    walk_at "fl.w"
    exact q _ _ I10.fr I10.hx I10.dq
end

section
variable {P : Program} {w : World} {K : PySem.W.Frag} {mg : Str → Option Value} {base : Heap}
theorem ok_count_points (T : Txt K mg) : Has P w K mg base 1 "count_points" ps_count_points (spD fCt) := by
  refine has_of T.d_count_points sc_count_points bd_count_points (fun vs H Q E h => ?_) (fun f cdv A outer s H vs Q E hr h => ?_)
  · obtain ⟨S, ds, d, _, hd, ⟨o, rfl, _⟩, _⟩ := h
    rw [hd.len]
    rfl
  · obtain ⟨S, ds, d, hS, hd, ⟨o, rfl, hz, rfl⟩, q⟩ := h
    obtain ⟨_, _, rfl, h1, hd⟩ := hd.consE
    cases hd.nilE
    obtain ⟨a, xs, rfl, na, hx, hA⟩ := h1.lstE
    refine ⟨_, (pss_one (ps_ret (pe_callB (clSum (K := K) rfl rfl) (by rfl) T.z_sum (by decide +kernel) (pa_cons (pe_lc (own := [("contour", 1)]) rfl sc_count_points.nd (piL (K := K) rfl (pv 0)) (blkOk_by (by kernel_rfl)) (fun _ _ _ _ _ => (pg_name (i := 1) sc_count_points.nd rfl (.inl rfl))) (fun _ _ _ _ _ => pts_nil) (fun _ _ _ _ _ => (pe_callB (clLen (K := K) rfl) (by rfl) T.z_len (by decide +kernel) (pa_cons (pv 1) pa_nil)))) pa_nil)))), ?_⟩
    walk_at "fl.w"
    refine lcL (S := S) (es := o.map ctD) (fun i => ((o.map fun c => (c.length : Int)).map PyData.int)[i]?) hS h1 (by rw [List.length_map]; omega) ?_ ?_
    · intro D i x e H2 hD he sm al hxe R N hR hN
      rw [List.getElem?_map] at he
      cases hc1 : o[i]? with
      | none => rw [hc1] at he; cases he
      | some c =>
        rw [hc1] at he
        cases he
        obtain ⟨b, ys, rfl, nb, hy, hB⟩ := hxe.lstE
        have hlb := hB.len
        rw [List.length_map] at hlb
        refine g_name ⟨rfl, ?_⟩
        walk_at "fl.w"
        exact hR (.int (c.length : Int)) _ _ (by rw [List.getElem?_map, List.getElem?_map, hc1]; rfl) (L2.Same.refl _) (by rw [hlb]; exact .int _)
    · intro D H2 sm hD hq
      rw [fm_all (by simp)] at hq
      obtain ⟨_, zs, e, nD, hzs, hZ⟩ := hq.lstE
      cases e
      obtain rfl := ints_of hZ
      walk_at "fl.w"
      exact q _ _ sm (.int _)
theorem ok_is_proper (T : Txt K mg) : Has P w K mg base 2 "is_proper" ps_is_proper (spD fPr) := by
  have h_count_points := ok_count_points (P := P) (w := w) (base := base) T
  refine has_of T.d_is_proper sc_is_proper bd_is_proper (fun vs H Q E h => ?_) (fun f cdv A outer s H vs Q E hr h => ?_)
  · obtain ⟨S, ds, d, _, hd, ⟨o, rfl, _⟩, _⟩ := h
    rw [hd.len]
    rfl
  · obtain ⟨S, ds, d, hS, hd, ⟨o, rfl, hz, hin, rfl⟩, q⟩ := h
    obtain ⟨_, _, rfl, h1, hd⟩ := hd.consE
    cases hd.nilE
    obtain ⟨a, xs, rfl, na, hx, hA⟩ := h1.lstE
    have hlx := hA.len
    rw [List.length_map] at hlx
    refine ⟨_, (pss_cons (ps_if (PW.pt (pw_or (pt_cmpR op_gt (pe_callB (clLen (K := K) rfl) (by rfl) T.z_len (by decide +kernel) (pa_cons (pv 0) pa_nil)) (pe_gv (by rfl) T.g_MOST_CONTOURS) (nomark _)) (pw_or1 (pt_cmpR op_gt (pe_h h_count_points (hr.mono (by decide)) (pa_cons (pv 0) pa_nil)) (pe_gv (by rfl) T.g_MOST_POINTS) (nomark _)))))
        (pss_one (ps_ret pe_bl))
        pss_nil)
      (pss_cons (ps_for PassesOwn.never rfl (piL (K := K) rfl (pv 0)) (pg_name (i := 1) sc_is_proper.nd rfl (.inl rfl))
        (pss_cons (ps_if (pt_cmpR op_lt (pe_callB (clLen (K := K) rfl) (by rfl) T.z_len (by decide +kernel) (pa_cons (pv 1) pa_nil)) (pe_gv (by rfl) T.g_LEAST_OF_CONTOUR) (nomark _))
        (pss_one (ps_ret pe_bl))
        pss_nil)
      (pss_one (ps_for PassesOwn.never rfl (piL (K := K) rfl (pv 1)) (pgT (n := 3) (K := K) rfl (by rfl) (pgs_cons (pg_name (i := 2) sc_is_proper.nd rfl (.inl rfl)) (pgs_cons (pg_name (i := 3) sc_is_proper.nd rfl (.inl rfl)) (pgs_cons (pg_name (i := 4) sc_is_proper.nd rfl (.inl rfl)) pgs_nil))))
        (pss_one (ps_if (PW.pt (pw_or (pt_cmpR op_gt (pe_callB call_abs' (by rfl) T.z_abs (by decide +kernel) (pa_cons (pv 2) pa_nil)) (pe_gv (by rfl) T.g_FARTHEST) (nomark _)) (pw_or1 (pt_cmpR op_gt (pe_callB call_abs' (by rfl) T.z_abs (by decide +kernel) (pa_cons (pv 3) pa_nil)) (pe_gv (by rfl) T.g_FARTHEST) (nomark _)))))
        (pss_one (ps_ret pe_bl))
        pss_nil))))))
      (pss_one (ps_ret pe_bl)))), ?_⟩
    walk_at "fl.w"
    refine g_ite (fun hm => ?_) (fun hm => ?_)
    · walk_at "fl.w"
      rw [prp_many (by omega)] at q
      exact q _ _ (L2.Same.refl _) (.bl _)
    · walk_at "fl.w"
      refine spD_app S [ouD o] (.int (cnt o)) hS (.cons h1 .nil) ⟨o, rfl, hz, rfl⟩ (fun v H1 sm hv => ?_)
      cases hv.intE
      have hx1 := sm _ _ hx
      have hA1 := hA.same sm
      walk_at "fl.w"
      refine g_ite (fun hm2 => ?_) (fun hm2 => ?_)
      · walk_at "fl.w"
        rw [prp_cnt (by omega)] at q
        exact q _ _ sm (.bl _)
      · walk_at "fl.w"
        refine forK_l (xs := xs) (fun i σ' H' => (∃ u1 u2 u3 u4, σ' = [some (.ref a), u1, u2, u3, u4]) ∧ H' = H1 ∧ ∀ c, c ∈ o.take i → okC c = true) ⟨⟨_, _, _, _, rfl⟩, rfl, fun _ m => nomatch m⟩ ?_ ?_ ?_
        · intro i σ' H' _ ⟨_, e, _⟩
          subst e
          exact SqL.of hx1
        · intro i x σ' H' hxi ⟨⟨u1, u2, u3, u4, e⟩, e2, hall⟩
          subst e e2
          obtain ⟨c, hc, dc⟩ := hA1.getM hxi
          obtain ⟨b, ys, rfl, nb, hb, hB⟩ := dc.lstE
          have hlb := hB.len
          rw [List.length_map] at hlb
          have mc := List.mem_of_getElem? hc
          walk_at "fl.w"
          refine g_ite (fun hm3 => ?_) (fun hm3 => ?_)
          · walk_at "fl.w"
            rw [prp_c mc (okC_few (by omega))] at q
            exact q _ _ sm (.bl _)
          · walk_at "fl.w"
            refine forK_l (xs := ys) (fun j σ' Hq => (∃ v2 v3 v4, σ' = [some (.ref a), some (.ref b), v2, v3, v4]) ∧ Hq = H' ∧ ∀ p, p ∈ c.take j → okP p = true) ⟨⟨_, _, _, rfl⟩, rfl, fun _ m => nomatch m⟩ ?_ ?_ ?_
            · intro j σ' Hq _ ⟨_, e, _⟩
              subst e
              exact SqL.of hb
            · intro j y σ' Hq hyj ⟨⟨v2, v3, v4, e⟩, e2, hallp⟩
              subst e e2
              obtain ⟨p, hp, dp⟩ := hB.getM hyj
              obtain ⟨a1, rfl, na1, hx1⟩ := ptE dp
              have mp := List.mem_of_getElem? hp
              walk_at "fl.w"
              refine g_ite (fun hm4 => ?_) (fun hm4 => ?_)
              · walk_at "fl.w"
                rw [prp_c mc (okC_p mp (okP_f (by split at hm4 <;> omega)))] at q
                exact q _ _ sm (.bl _)
              · walk_at "fl.w"
                refine g_ite (fun hm5 => ?_) (fun hm5 => ?_)
                · walk_at "fl.w"
                  rw [prp_c mc (okC_p mp (okP_f (by split at hm5 <;> omega)))] at q
                  exact q _ _ sm (.bl _)
                · walk_at "fl.w"
                  exact ⟨⟨_, _, _, rfl⟩, rfl, take_mem hp hallp (okP_t (by split at hm4 <;> split at hm5 <;> omega))⟩
            · intro σ' Hq ⟨⟨v2, v3, v4, e⟩, e2, hallp⟩
              subst e e2
              walk_at "fl.w"
              rw [List.take_of_length_le (by omega)] at hallp
              exact ⟨⟨_, _, _, _, rfl⟩, rfl, take_mem hc hall (okC_true (by omega) hallp)⟩
        · intro σ' H' ⟨⟨u1, u2, u3, u4, e⟩, e2, hall⟩
          subst e e2
          walk_at "fl.w"
          rw [List.take_of_length_le (by omega)] at hall
          rw [prp_true (by omega) (by omega) hall] at q
          exact q _ _ sm (.bl _)
end
section
variable {P : Program} {w : World} {K : PySem.W.Frag} {mg : Str → Option Value} {base : Heap}
local macro_rules | `(tactic| walk_at "fl.t") => `(tactic| (with_reducible refine g_chainW ?_))
local macro_rules | `(tactic| walk_at "fl.t") => `(tactic| (with_reducible refine g_ifE ?_))
local macro_rules | `(tactic| walk_at "fl.w") => `(tactic| repeat walk_at "fl.t")
def fCrd (ds : List PyData) (d : PyData) : Prop := ∃ n, ds = [.int n] ∧ Crd n ∧ d = .bool true
theorem ok_is_coordinate (T : Txt K mg) : Has P w K mg base 1 "is_coordinate" ps_is_coordinate (spD fCrd) := by
  refine has_of T.d_is_coordinate sc_is_coordinate bd_is_coordinate (fun vs H Q E h => ?_) (fun f cdv A outer s H vs Q E hr h => ?_)
  · obtain ⟨S, ds, d, _, hd, ⟨n, rfl, _⟩, _⟩ := h
    rw [hd.len]; rfl
  · obtain ⟨S, ds, d, hS, hd, ⟨n, rfl, ⟨n0, n1⟩, rfl⟩, q⟩ := h
    obtain ⟨v1, _, rfl, h1, hd⟩ := hd.consE
    cases hd.nilE
    cases h1.intE
    refine ⟨_, (pss_one (ps_ret (pe_chain op_le op_le (pe_un un_neg (pe_gv (by rfl) T.g_FARTHEST)) (pv 0) (pe_gv (by rfl) T.g_FARTHEST)))), ?_⟩
    walk_at "fl.w"
    refine g_yesB n0 ?_
    walk_at "fl.w"
    rw [decide_eq_true n1]
    exact q _ _ (L2.Same.refl _) (.bl _)
def fIp (c : Cs) (ds : List PyData) (d : PyData) : Prop := ∃ (f : FoR) (p : Int × Int × Int), ds = [foD c f, .tuple (i3 p)] ∧ 0 ≤ p.1 ∧ p.1 < f.glyphs.length ∧ Crd p.2.1 ∧ Crd p.2.2 ∧ d = .bool true
theorem ok_is_part (T : Txt K mg) : Has P w K mg base 2 "is_part" ps_is_part (spD (fIp (cs mg))) := by
  obtain ⟨_, _, _, _, _, _, _, _, _, _, _, _, _, _, cF⟩ := T.c_Font
  have clF := cF.cl
  have naF := cF.na
  have h_is_coordinate := ok_is_coordinate (P := P) (w := w) (base := base) T
  refine has_of T.d_is_part sc_is_part bd_is_part (fun vs H Q E h => ?_) (fun f cdv A outer s H vs Q E hr h => ?_)
  · obtain ⟨S, ds, d, _, hd, ⟨fo, p, rfl, _⟩, _⟩ := h
    rw [hd.len]; rfl
  · obtain ⟨S, ds, d, hS, hd, ⟨fo, p, rfl, p0, p1, px, py, rfl⟩, q⟩ := h
    obtain ⟨v1, _, rfl, h1, hd⟩ := hd.consE
    obtain ⟨v2, _, rfl, h2, hd⟩ := hd.consE
    cases hd.nilE
    obtain ⟨a, dx, w1, w2, w3, w4, w5, w6, w7, w8, w9, rfl, na, hA, k1, k2, k3, k4, k5, k6, k7, k8, k9⟩ := foE h1
    obtain ⟨b, gs, rfl, hb, hbl, _⟩ := lstN k2
    obtain ⟨t, ts, rfl, nt, ht, hT⟩ := h2.tupE
    obtain ⟨_, _, rfl, x1, hT⟩ := hT.consE
    obtain ⟨_, _, rfl, x2, hT⟩ := hT.consE
    obtain ⟨_, _, rfl, x3, hT⟩ := hT.consE
    cases hT.nilE
    cases x1.intE
    cases x2.intE
    cases x3.intE
    refine ⟨_, (pss_cons (ps_asg (pv 1) (pgT (n := 3) (K := K) rfl (by rfl) (pgs_cons (pg_name (i := 2) sc_is_part.nd rfl (.inl rfl)) (pgs_cons (pg_name (i := 3) sc_is_part.nd rfl (.inl rfl)) (pgs_cons (pg_name (i := 4) sc_is_part.nd rfl (.inl rfl)) pgs_nil)))))
      (pss_one (ps_ret (pe_and (pe_chain op_le op_lt pe_int (pv 2) (pe_callB (clLen (K := K) rfl) (by rfl) T.z_len (by decide +kernel) (pa_cons (peFld (K := K) rfl (pv 0) rfl) pa_nil))) (pe_and (pe_h h_is_coordinate (hr.mono (by decide)) (pa_cons (pv 3) pa_nil)) (pe_one (pe_h h_is_coordinate (hr.mono (by decide)) (pa_cons (pv 4) pa_nil)))))))), ?_⟩
    walk_at "fl.w"
    refine g_yesB p0 ?_
    walk_at "fl.w"
    refine g_yesB (show p.1 < (gs.length : Int) by omega) ?_
    walk_at "fl.w"
    refine spD_app S [.int p.2.1] (.bool true) hS (.cons (.int _) .nil) ⟨_, rfl, px, rfl⟩ (fun v H2 sm2 hv => ?_)
    cases hv.blE
    walk_at "fl.w"
    exact spD_app S [.int p.2.2] (.bool true) (hS.same sm2) (.cons (.int _) .nil) ⟨_, rfl, py, rfl⟩ (fun v H3 sm3 hv => q _ _ (sm2.trans sm3) hv)
def fIa (ds : List PyData) (d : PyData) : Prop := ∃ a : Str × Int × Int × Int, ds = [.tuple (s3i a)] ∧ a.1 ∈ (["base", "mark", "entry", "exit"] : List Str) ∧ 0 ≤ a.2.1 ∧ a.2.1 ≤ 9 ∧ Crd a.2.2.1 ∧ Crd a.2.2.2 ∧ d = .bool true
theorem ok_is_anchor (T : Txt K mg) : Has P w K mg base 2 "is_anchor" ps_is_anchor (spD fIa) := by
  have h_is_coordinate := ok_is_coordinate (P := P) (w := w) (base := base) T
  refine has_of T.d_is_anchor sc_is_anchor bd_is_anchor (fun vs H Q E h => ?_) (fun f cdv A outer s H vs Q E hr h => ?_)
  · obtain ⟨S, ds, d, _, hd, ⟨p, rfl, _⟩, _⟩ := h
    rw [hd.len]; rfl
  · obtain ⟨S, ds, d, hS, hd, ⟨p, rfl, hk, p0, p1, px, py, rfl⟩, q⟩ := h
    obtain ⟨v2, _, rfl, h2, hd⟩ := hd.consE
    cases hd.nilE
    obtain ⟨t, ts, rfl, nt, ht, hT⟩ := h2.tupE
    obtain ⟨_, _, rfl, x1, hT⟩ := hT.consE
    obtain ⟨_, _, rfl, x2, hT⟩ := hT.consE
    obtain ⟨_, _, rfl, x3, hT⟩ := hT.consE
    obtain ⟨_, _, rfl, x4, hT⟩ := hT.consE
    cases hT.nilE
    cases x1
    cases x2.intE
    cases x3.intE
    cases x4.intE
    have hgs := T.gs_ANCHOR_KINDS H
    refine ⟨_, (pss_cons (ps_asg (pv 0) (pgT (n := 4) (K := K) rfl (by rfl) (pgs_cons (pg_name (i := 1) sc_is_anchor.nd rfl (.inl rfl)) (pgs_cons (pg_name (i := 2) sc_is_anchor.nd rfl (.inl rfl)) (pgs_cons (pg_name (i := 3) sc_is_anchor.nd rfl (.inl rfl)) (pgs_cons (pg_name (i := 4) sc_is_anchor.nd rfl (.inl rfl)) pgs_nil))))))
      (pss_one (ps_ret (pe_and (pe_cmpR (opIn (K := K) rfl) (pv 1) (pe_glob (by rfl) T.gt_ANCHOR_KINDS (v := .ref (adr mg "ANCHOR_KINDS")) rfl) (by rfl)) (pe_and (pe_chain op_le op_le pe_int (pv 2) pe_int) (pe_and (pe_h h_is_coordinate (hr.mono (by decide)) (pa_cons (pv 3) pa_nil)) (pe_one (pe_h h_is_coordinate (hr.mono (by decide)) (pa_cons (pv 4) pa_nil))))))))), ?_⟩
    walk_at "fl.w"
    refine g_inT (b := true) hgs rfl rfl ?_ ?_
    · simp only [List.mem_cons, List.not_mem_nil, or_false] at hk
      rcases hk with e | e | e | e <;> (rw [e]; rfl)
    walk_at "fl.w"
    refine g_yesB p0 ?_
    walk_at "fl.w"
    refine g_yesB p1 ?_
    walk_at "fl.w"
    refine spD_app S [.int p.2.2.1] (.bool true) hS (.cons (.int _) .nil) ⟨_, rfl, px, rfl⟩ (fun v H2 sm2 hv => ?_)
    cases hv.blE
    walk_at "fl.w"
    exact spD_app S [.int p.2.2.2] (.bool true) (hS.same sm2) (.cons (.int _) .nil) ⟨_, rfl, py, rfl⟩ (fun v H3 sm3 hv => q _ _ (sm2.trans sm3) hv)
def fId (c : Cs) (ds : List PyData) (d : PyData) : Prop := ∃ (f : FoR) (g : GlG) (p : Int × Int × Int × Int), ds = [foD c f, glD c g.R, .tuple (i4 p)] ∧ g.outl.length ≤ 40 ∧ 0 ≤ p.1 ∧ p.1 < f.regions.length ∧ -1 ≤ p.2.1 ∧ p.2.1 < cnt g.outl ∧ Crd p.2.2.1 ∧ Crd p.2.2.2 ∧ d = .bool true
theorem ok_is_delta (T : Txt K mg) : Has P w K mg base 2 "is_delta" ps_is_delta (spD (fId (cs mg))) := by
  obtain ⟨_, _, _, _, _, _, _, _, _, _, _, _, _, _, cF⟩ := T.c_Font
  have clF := cF.cl
  have naF := cF.na
  obtain ⟨_, _, _, _, _, _, _, _, cG⟩ := T.c_Glyph
  have clG := cG.cl
  have naG := cG.na
  have h_is_coordinate := ok_is_coordinate (P := P) (w := w) (base := base) T
  have h_count_points := ok_count_points (P := P) (w := w) (base := base) T
  refine has_of T.d_is_delta sc_is_delta bd_is_delta (fun vs H Q E h => ?_) (fun f cdv A outer s H vs Q E hr h => ?_)
  · obtain ⟨S, ds, d, _, hd, ⟨fo, g, p, rfl, _⟩, _⟩ := h
    rw [hd.len]; rfl
  · obtain ⟨S, ds, d, hS, hd, ⟨fo, g, p, rfl, hoz, p0, p1, c0, c1, px, py, rfl⟩, q⟩ := h
    obtain ⟨v1, _, rfl, h1, hd⟩ := hd.consE
    obtain ⟨v3, _, rfl, h3, hd⟩ := hd.consE
    obtain ⟨v2, _, rfl, h2, hd⟩ := hd.consE
    cases hd.nilE
    obtain ⟨a, dx, w1, w2, w3, w4, w5, w6, w7, w8, w9, rfl, na, hA, k1, k2, k3, k4, k5, k6, k7, k8, k9⟩ := foE h1
    obtain ⟨b, gs, rfl, hb, hbl, _⟩ := lstN (f := ltD) (L := fo.regions) k7
    obtain ⟨ga, gdx, u1, u2, u3, u4, u5, u6, u7, rfl, gna, gA, m1, m2, m3, m4, m5, m6, m7⟩ := glE h3
    have m2' : Dq S H u2 (ouD g.outl) := ouD3_pt g.outl ▸ m2
    obtain ⟨t, ts, rfl, nt, ht, hT⟩ := h2.tupE
    obtain ⟨_, _, rfl, x1, hT⟩ := hT.consE
    obtain ⟨_, _, rfl, x2, hT⟩ := hT.consE
    obtain ⟨_, _, rfl, x3, hT⟩ := hT.consE
    obtain ⟨_, _, rfl, x4, hT⟩ := hT.consE
    cases hT.nilE
    cases x1.intE
    cases x2.intE
    cases x3.intE
    cases x4.intE
    refine ⟨_, (pss_cons (ps_asg (pv 2) (pgT (n := 4) (K := K) rfl (by rfl) (pgs_cons (pg_name (i := 3) sc_is_delta.nd rfl (.inl rfl)) (pgs_cons (pg_name (i := 4) sc_is_delta.nd rfl (.inl rfl)) (pgs_cons (pg_name (i := 5) sc_is_delta.nd rfl (.inl rfl)) (pgs_cons (pg_name (i := 6) sc_is_delta.nd rfl (.inl rfl)) pgs_nil))))))
      (pss_cons (ps_if (PW.pt (pw_or (pt_not (pt_chain op_le op_lt pe_int (pv 3) (pe_callB (clLen (K := K) rfl) (by rfl) T.z_len (by decide +kernel) (pa_cons (peFld (K := K) rfl (pv 0) rfl) pa_nil)))) (pw_or1 (pt_not (pt_chain op_le op_lt (pe_un un_neg pe_int) (pv 4) (pe_h h_count_points (hr.mono (by decide)) (pa_cons (peFld (K := K) rfl (pv 1) rfl) pa_nil)))))))
        (pss_one (ps_ret pe_bl))
        pss_nil)
      (pss_one (ps_ret (pe_and (pe_h h_is_coordinate (hr.mono (by decide)) (pa_cons (pv 5) pa_nil)) (pe_one (pe_h h_is_coordinate (hr.mono (by decide)) (pa_cons (pv 6) pa_nil)))))))), ?_⟩
    walk_at "fl.w"
    refine g_yesB p0 ?_
    walk_at "fl.w"
    refine g_nB (show p.1 < (gs.length : Int) by omega) ?_
    walk_at "fl.w"
    refine g_yesB c0 ?_
    walk_at "fl.w"
    refine spD_app S [ouD g.outl] (.int (cnt g.outl)) hS (.cons m2' .nil) ⟨_, rfl, by omega, rfl⟩ (fun v H1 sm1 hv => ?_)
    cases hv.intE
    walk_at "fl.w"
    refine g_nB c1 ?_
    walk_at "fl.w"
    refine spD_app S [.int p.2.2.1] (.bool true) (hS.same sm1) (.cons (.int _) .nil) ⟨_, rfl, px, rfl⟩ (fun v H2 sm2 hv => ?_)
    cases hv.blE
    walk_at "fl.w"
    exact spD_app S [.int p.2.2.2] (.bool true) ((hS.same sm1).same sm2) (.cons (.int _) .nil) ⟨_, rfl, py, rfl⟩ (fun v H3 sm3 hv => q _ _ ((sm1.trans sm2).trans sm3) hv)
def fIi (ds : List PyData) (d : PyData) : Prop := ∃ h : Str × Int, ds = [.tuple (s1i h)] ∧ InsV h ∧ d = .bool true
theorem g_kin' {K : PySem.W.Frag} {d : Addr} {H : Hp} {Q : VK} {z : Str} {r : Option Value} (h : PySem.W.nsIn K d z = some r) (q : Q (.bl r.isSome) H) : (fun x y H Q => ∃ (z : Str) (r : Option Value), x = .str z ∧ y = .ref d ∧ PySem.W.nsIn K d z = some r ∧ Q (.bl r.isSome) H : R2) (.str z) (.ref d) H Q := ⟨z, r, rfl, rfl, h, q⟩
theorem ok_is_instruction (T : Txt K mg) (I : WoK K w mg) : Has P w K mg base 1 "is_instruction" ps_is_instruction (spD fIi) := by
  have gd_WORDS := I.gW
  obtain ⟨esW, nW, kd_WORDS⟩ := I.kW
  refine has_of T.d_is_instruction sc_is_instruction bd_is_instruction (fun vs H Q E h => ?_) (fun f cdv A outer s H vs Q E hr h => ?_)
  · obtain ⟨S, ds, d, _, hd, ⟨p, rfl, _⟩, _⟩ := h
    rw [hd.len]; rfl
  · obtain ⟨S, ds, d, hS, hd, ⟨p, rfl, ⟨hw, hl, p0, p1⟩, rfl⟩, q⟩ := h
    obtain ⟨v2, _, rfl, h2, hd⟩ := hd.consE
    cases hd.nilE
    obtain ⟨t, ts, rfl, nt, ht, hT⟩ := h2.tupE
    obtain ⟨_, _, rfl, x1, hT⟩ := hT.consE
    obtain ⟨_, _, rfl, x2, hT⟩ := hT.consE
    cases hT.nilE
    cases x1
    cases x2.intE
    obtain ⟨rW, nW1, cW⟩ := I.fW p.1 hw
    have cW := cW _ rfl
    refine ⟨_, (pss_one (ps_ret (pe_and (pe_cmpR (op_in_kd kd_WORDS) (pe_ix (ixT (K := K) rfl) (pv 0) pe_int (fun _ _ => rfl)) (pe_glob (by rfl) gd_WORDS (v := .ref (adr mg "WORDS")) rfl) (by rfl)) (pe_one (pe_chain op_le op_le (pe_gv (by rfl) T.g_LEAST_NUMBER) (pe_ix (ixT (K := K) rfl) (pv 0) pe_int (fun _ _ => rfl)) (pe_gv (by rfl) T.g_GREATEST_NUMBER)))))), ?_⟩
    walk_at "fl.w"
    cases hk : tabW.lookup p.1 with
    | none => exact absurd hk hl
    | some ks =>
      rw [hk] at cW
      obtain ⟨tt, rfl, _⟩ := cW
      refine ⟨p.1, _, rfl, rfl, nW1, ?_⟩
      walk_at "fl.w"
      rw [if_pos (show (some (Value.ref tt)).isSome = true from rfl)]
      walk_at "fl.w"
      refine g_yesB p0 ?_
      walk_at "fl.w"
      rw [decide_eq_true p1]
      exact q _ _ (L2.Same.refl _) (.bl _)
end

section
variable {P : Program} {w : World} {K : PySem.W.Frag} {mg : Str → Option Value} {base : Heap}
local macro_rules | `(tactic| walk_at "fl.t") => `(tactic| (with_reducible refine g_chainW ?_))
local macro_rules | `(tactic| walk_at "fl.t") => `(tactic| (with_reducible refine g_ifE ?_))
local macro_rules | `(tactic| walk_at "fl.w") => `(tactic| repeat walk_at "fl.t")
def fGrG (c : Cs) (ds : List PyData) (d : PyData) : Prop := ∃ (f : FoR) (g : GlG), ds = [foD c f, glD c g.R] ∧ g.Ok f.glyphs.length f.regions.length ∧ d = .none
theorem ok_glyph_reason (T : Txt K mg) (I : WoK K w mg) : Has P w K mg base 3 "glyph_reason" ps_glyph_reason (spD (fGrG (cs mg))) := by
  obtain ⟨_, _, _, _, _, _, _, _, cG⟩ := T.c_Glyph
  have clG := cG.cl
  have naG := cG.na
  have h_is_proper := ok_is_proper (P := P) (w := w) (base := base) T
  have h_is_part := ok_is_part (P := P) (w := w) (base := base) T
  have h_is_anchor := ok_is_anchor (P := P) (w := w) (base := base) T
  have h_is_delta := ok_is_delta (P := P) (w := w) (base := base) T
  have h_is_instruction := ok_is_instruction (P := P) (w := w) (base := base) T I
  refine has_of T.d_glyph_reason sc_glyph_reason bd_glyph_reason (fun vs H Q E h => ?_) (fun f cdv A outer s H vs Q E hr h => ?_)
  · obtain ⟨S, ds, d, _, hd, ⟨fo, g, rfl, _⟩, _⟩ := h
    rw [hd.len]
    rfl
  · obtain ⟨S, ds, d, hS, hd, ⟨fo, g, rfl, ok, rfl⟩, q⟩ := h
    obtain ⟨v1, _, rfl, h1, hd⟩ := hd.consE
    obtain ⟨v2, _, rfl, h2, hd⟩ := hd.consE
    cases hd.nilE
    have h2' := h2
    obtain ⟨a, dx, u1, u2, u3, u4, u5, u6, u7, rfl, na, hA, k1, k2, k3, k4, k5, k6, k7⟩ := glE h2'
    have k1 : Dq S H u1 (.int g.adv) := k1
    cases k1
    have k2 : Dq S H u2 (ouD g.outl) := ouD3_pt g.outl ▸ k2
    have k3 : Dq S H u3 (.list (g.parts.map fun p => .tuple (i3 p))) := ltD_map i3 g.parts ▸ k3
    have k4 : Dq S H u4 (.list (g.anch.map fun p => .tuple (s3i p))) := ltD_map s3i g.anch ▸ k4
    have k6 : Dq S H u6 (.list (g.deltas.map fun p => .tuple (i4 p))) := ltD_map i4 g.deltas ▸ k6
    have k7 : Dq S H u7 (.list (g.hint.map fun p => .tuple (s1i p))) := ltD_map s1i g.hint ▸ k7
    obtain ⟨b3, _, rfl, _, hb3, _⟩ := k3.lstE
    obtain ⟨b4, _, rfl, _, hb4, _⟩ := k4.lstE
    obtain ⟨b6, _, rfl, _, hb6, _⟩ := k6.lstE
    obtain ⟨b7, _, rfl, _, hb7, _⟩ := k7.lstE
    refine ⟨_, (pss_cons (ps_if (pt_not (pt_chain op_le op_le pe_int (peFld (K := K) rfl (pv 1) rfl) (pe_gv (by rfl) T.g_FARTHEST)))
        pss_never
        pss_nil)
      (pss_cons (ps_if (pt_not (pt_val (pe_h h_is_proper (hr.mono (by decide)) (pa_cons (peFld (K := K) rfl (pv 1) rfl) pa_nil))))
        pss_never
        pss_nil)
      (pss_cons (ps_if (pt_not (pt_val (pe_callB (clAll (K := K) rfl rfl) (by rfl) T.z_all (by decide +kernel) (pa_cons (pe_lc (own := [("part", 2)]) rfl sc_glyph_reason.nd (piL (K := K) rfl (peFld (K := K) rfl (pv 1) rfl)) (blkOk_by (by kernel_rfl)) (fun _ _ _ _ _ => (pg_name (i := 2) sc_glyph_reason.nd rfl (.inl rfl))) (fun _ _ _ _ _ => pts_nil) (fun _ _ _ _ _ => (pe_h h_is_part (hr.mono (by decide)) (pa_cons (pv 0) (pa_cons (pv 2) pa_nil))))) pa_nil))))
        pss_never
        pss_nil)
      (pss_cons (ps_if (pt_not (pt_val (pe_callB (clAll (K := K) rfl rfl) (by rfl) T.z_all (by decide +kernel) (pa_cons (pe_lc (own := [("anchor", 3)]) rfl sc_glyph_reason.nd (piL (K := K) rfl (peFld (K := K) rfl (pv 1) rfl)) (blkOk_by (by kernel_rfl)) (fun _ _ _ _ _ => (pg_name (i := 3) sc_glyph_reason.nd rfl (.inl rfl))) (fun _ _ _ _ _ => pts_nil) (fun _ _ _ _ _ => (pe_h h_is_anchor (hr.mono (by decide)) (pa_cons (pv 3) pa_nil)))) pa_nil))))
        pss_never
        pss_nil)
      (pss_cons (ps_if (pt_not (pt_val (pe_callB (clAll (K := K) rfl rfl) (by rfl) T.z_all (by decide +kernel) (pa_cons (pe_lc (own := [("delta", 4)]) rfl sc_glyph_reason.nd (piL (K := K) rfl (peFld (K := K) rfl (pv 1) rfl)) (blkOk_by (by kernel_rfl)) (fun _ _ _ _ _ => (pg_name (i := 4) sc_glyph_reason.nd rfl (.inl rfl))) (fun _ _ _ _ _ => pts_nil) (fun _ _ _ _ _ => (pe_h h_is_delta (hr.mono (by decide)) (pa_cons (pv 0) (pa_cons (pv 1) (pa_cons (pv 4) pa_nil)))))) pa_nil))))
        pss_never
        pss_nil)
      (pss_cons (ps_if (pt_not (pt_val (pe_callB (clAll (K := K) rfl rfl) (by rfl) T.z_all (by decide +kernel) (pa_cons (pe_lc (own := [("step", 5)]) rfl sc_glyph_reason.nd (piL (K := K) rfl (peFld (K := K) rfl (pv 1) rfl)) (blkOk_by (by kernel_rfl)) (fun _ _ _ _ _ => (pg_name (i := 5) sc_glyph_reason.nd rfl (.inl rfl))) (fun _ _ _ _ _ => pts_nil) (fun _ _ _ _ _ => (pe_h h_is_instruction (hr.mono (by decide)) (pa_cons (pv 5) pa_nil)))) pa_nil))))
        pss_never
        pss_nil)
      (pss_one (ps_ret pe_non)))))))), ?_⟩
    walk_at "fl.w"
    refine g_yesB ok.av.1 ?_
    walk_at "fl.w"
    refine g_nB ok.av.2 ?_
    walk_at "fl.w"
    refine spD_app S [ouD g.outl] (.bool true) hS (.cons k2 .nil) ⟨g.outl, rfl, by have := ok.oz.1; omega, fun c m => by have := ok.oz.2 c m; omega, by rw [ok.ou]⟩ (fun v H2 sm2 hv => ?_)
    cases hv.blE
    have hA2 := sm2 _ _ hA
    have hb3' := sm2 _ _ hb3
    walk_at "fl.w"
    refine lcL (S := S) (fun i => (g.parts[i]?).map fun _ => .bool true) (hS.same sm2) (k3.same sm2) (by rw [List.length_map]; have := ok.pt.1; omega) ?_ ?_
    · intro D i x e G hD he sm al hxe R N hR hN
      obtain ⟨p, hp, rfl⟩ := at_map he
      obtain ⟨p0, p1, px, py⟩ := ok.pt.2 p (List.mem_of_getElem? hp)
      refine g_name ⟨rfl, ?_⟩
      walk_at "fl.w"
      exact spD_app (D :: S) [foD (cs mg) fo, .tuple (i3 p)] (.bool true) al (.cons (((h1.same sm2).new hD).same sm) (.cons hxe .nil)) ⟨fo, p, rfl, p0, p1, px, py, rfl⟩ (fun v H3 sm3 hv => hR _ _ _ (by rw [hp]; rfl) sm3 hv)
    intro D3 H3 sm3 hD3 hq3
    rw [fm_ltA (by rw [List.length_map])] at hq3
    refine allYes hq3 ?_
    have sm3 := sm2.trans sm3
    have hA3 := sm3 _ _ hA
    have hb4' := sm3 _ _ hb4
    walk_at "fl.w"
    refine lcL (S := S) (fun i => (g.anch[i]?).map fun _ => .bool true) (hS.same sm3) (k4.same sm3) (by rw [List.length_map]; have := ok.an.1; omega) ?_ ?_
    · intro D i x e G hD he sm al hxe R N hR hN
      obtain ⟨p, hp, rfl⟩ := at_map he
      obtain ⟨p0, p1, p2, px, py⟩ := ok.an.2 p (List.mem_of_getElem? hp)
      refine g_name ⟨rfl, ?_⟩
      walk_at "fl.w"
      exact spD_app (D :: S) [.tuple (s3i p)] (.bool true) al (.cons hxe .nil) ⟨p, rfl, p0, p1, p2, px, py, rfl⟩ (fun v H3 sm3 hv => hR _ _ _ (by rw [hp]; rfl) sm3 hv)
    intro D4 H4 sm4 hD4 hq4
    rw [fm_ltA (by rw [List.length_map])] at hq4
    refine allYes hq4 ?_
    have sm4 := sm3.trans sm4
    have hA4 := sm4 _ _ hA
    have hb6' := sm4 _ _ hb6
    walk_at "fl.w"
    refine lcL (S := S) (fun i => (g.deltas[i]?).map fun _ => .bool true) (hS.same sm4) (k6.same sm4) (by rw [List.length_map]; have := ok.de.1; omega) ?_ ?_
    · intro D i x e G hD he sm al hxe R N hR hN
      obtain ⟨p, hp, rfl⟩ := at_map he
      obtain ⟨p0, p1, p2, p3, px, py⟩ := ok.de.2 p (List.mem_of_getElem? hp)
      refine g_name ⟨rfl, ?_⟩
      walk_at "fl.w"
      exact spD_app (D :: S) [foD (cs mg) fo, glD (cs mg) g.R, .tuple (i4 p)] (.bool true) al (.cons (((h1.same sm4).new hD).same sm) (.cons (((h2.same sm4).new hD).same sm) (.cons hxe .nil))) ⟨fo, g, p, rfl, ok.oz.1, p0, p1, p2, p3, px, py, rfl⟩ (fun v H3 sm3 hv => hR _ _ _ (by rw [hp]; rfl) sm3 hv)
    intro D5 H5 sm5 hD5 hq5
    rw [fm_ltA (by rw [List.length_map])] at hq5
    refine allYes hq5 ?_
    have sm5 := sm4.trans sm5
    have hA5 := sm5 _ _ hA
    have hb7' := sm5 _ _ hb7
    walk_at "fl.w"
    refine lcL (S := S) (fun i => (g.hint[i]?).map fun _ => .bool true) (hS.same sm5) (k7.same sm5) (by rw [List.length_map]; have := ok.hi.1; omega) ?_ ?_
    · intro D i x e G hD he sm al hxe R N hR hN
      obtain ⟨p, hp, rfl⟩ := at_map he
      refine g_name ⟨rfl, ?_⟩
      walk_at "fl.w"
      exact spD_app (D :: S) [.tuple (s1i p)] (.bool true) al (.cons hxe .nil) ⟨p, rfl, ok.hi.2 p (List.mem_of_getElem? hp), rfl⟩ (fun v H3 sm3 hv => hR _ _ _ (by rw [hp]; rfl) sm3 hv)
    intro D6 H6 sm6 hD6 hq6
    rw [fm_ltA (by rw [List.length_map])] at hq6
    refine allYes hq6 ?_
    have sm6 := sm5.trans sm6
    walk_at "fl.w"
    exact q _ _ sm6 .non
/-- a check that a font passes -/
def fFvG (c : Cs) (VL : FoR → LkR → Prop) (ds : List PyData) (d : PyData) : Prop := ∃ f : FoG, f.Ok VL ∧ ds = [foD c f.R] ∧ d = .none
theorem ok_first_glyph_fault (T : Txt K mg) (I : WoK K w mg) (VL : FoR → LkR → Prop) : Has P w K mg base 4 "first_glyph_fault" ps_first_glyph_fault (spD (fFvG (cs mg) VL)) := by
  obtain ⟨_, _, _, _, _, _, _, _, _, _, _, _, _, _, cF⟩ := T.c_Font
  have clF := cF.cl
  have naF := cF.na
  have h_glyph_reason := ok_glyph_reason (P := P) (w := w) (base := base) T I
  refine has_of T.d_first_glyph_fault sc_first_glyph_fault bd_first_glyph_fault (fun vs H Q E h => ?_) (fun f cdv A outer s H vs Q E hr h => ?_)
  · obtain ⟨S, ds, d, _, hd, ⟨fo, fok, rfl, rfl⟩, _⟩ := h
    rw [hd.len]
    rfl
  · obtain ⟨S, ds, d, hS, hd, ⟨fo, fok, rfl, rfl⟩, q⟩ := h
    obtain ⟨v1, _, rfl, h1, hd⟩ := hd.consE
    cases hd.nilE
    have h1' := h1
    obtain ⟨fa, fdx, w1, w2, w3, w4, w5, w6, w7, w8, w9, rfl, fna, fA, j1, j2, j3, j4, j5, j6, j7, j8, j9⟩ := foE h1'
    obtain ⟨lb, ls, rfl, hlb, hll, hlD⟩ := lstN j2
    have hlD' : DqA S H ls (fo.glyphs.map fun k => glD (cs mg) k.R) := by
      simp only [FoG.R, List.map_map] at hlD
      exact hlD
    refine ⟨_, (pss_cons (ps_for PassesOwn.never rfl (piEnum (K := K) rfl (by rfl) T.z_enumerate (pa_cons (peFld (K := K) rfl (pv 0) rfl) pa_nil)) (pgT (n := 2) (K := K) rfl (by rfl) (pgs_cons (pg_name (i := 1) sc_first_glyph_fault.nd rfl (.inl rfl)) (pgs_cons (pg_name (i := 2) sc_first_glyph_fault.nd rfl (.inl rfl)) pgs_nil)))
        (pss_cons (ps_set (i := 3) sc_first_glyph_fault.nd rfl (.inl rfl) (pe_h h_glyph_reason (hr.mono (by decide)) (pa_cons (pv 0) (pa_cons (pv 2) pa_nil))))
      (pss_one (ps_if (pt_cmpR op_notN (pv 3) pe_non (nomark _))
        pss_never
        pss_nil))))
      (pss_one (ps_ret pe_non))), ?_⟩
    walk_at "fl.w"
    refine forK_e (xs := ls) (fun i σ' H' => (∃ u1 u2 u3, σ' = [some (.ref fa), u1, u2, u3]) ∧ Same H H') ⟨⟨_, _, _, rfl⟩, L2.Same.refl _⟩ ?_ ?_ ?_
    · intro i σ' H' _ ⟨_, e⟩
      exact SqL.of (e _ _ hlb)
    · intro i x t σ' H' hxi ⟨⟨u1, u2, u3, e1⟩, sm⟩ ht
      subst e1
      obtain ⟨k, hk1, hx⟩ := (hlD'.same sm).getM hxi
      have sm2 : Same H (upd H' t (.tup [.int (i : Int), x])) := L2.Same.trans sm (Fl.Same.new ht)
      have h1s := h1.same sm2
      have hxs := hx.same (Fl.Same.new ht (o := .tup [.int (i : Int), x]))
      have hS2 := hS.same sm2
      have hgk := fok.go k (List.mem_of_getElem? hk1)
      have hgk' : k.Ok fo.R.glyphs.length fo.R.regions.length := by
        show k.Ok (fo.glyphs.map GlG.R).length (fo.regs.map fun r => r.map i3).length
        rw [List.length_map, List.length_map]
        exact hgk
      refine g_gtup (SqT.of upd_same) rfl ?_
      walk_at "fl.w"
      refine spD_app S [foD (cs mg) fo.R, glD (cs mg) k.R] .none hS2 (.cons h1s (.cons hxs .nil)) ⟨_, k, rfl, hgk', rfl⟩ (fun v H3 sm3 hv => ?_)
      cases hv.nonE
      walk_at "fl.w"
      exact ⟨⟨_, _, _, rfl⟩, sm2.trans sm3⟩
    · intro σ' H' ⟨⟨u1, u2, u3, e1⟩, sm⟩
      subst e1
      walk_at "fl.w"
      exact q _ _ sm .non
end

section
variable {P : Program} {w : World} {K : PySem.W.Frag} {mg : Str → Option Value} {base : Heap}
local macro_rules | `(tactic| walk_at "fl.t") => `(tactic| (with_reducible refine g_chainW ?_))
local macro_rules | `(tactic| walk_at "fl.t") => `(tactic| (with_reducible refine g_ifE ?_))
local macro_rules | `(tactic| walk_at "fl.w") => `(tactic| repeat walk_at "fl.t")
/-- a dict of numbers: keys and values -/
def kvL (L : List (Nat × Int)) : List (Key × V) := L.map fun p => (.inl (p.1 : Int), .int p.2)
theorem kvL_len (L : List (Nat × Int)) : (kvL L).length = L.length := List.length_map _
theorem kvL_snoc (L : List (Nat × Int)) (k : Nat) (v : Int) : kvL L ++ [(.inl (k : Int), .int v)] = kvL (L ++ [(k, v)]) := by
  unfold kvL
  rw [List.map_append]
  rfl
theorem kvL_get (L : List (Nat × Int)) (k : Nat) : (valV (kvL L) (.inl (k : Int))).isSome = decide (k ∈ L.map Prod.fst) := by
  unfold valV kvL
  rw [Option.isSome_map, Bool.eq_iff_iff, List.find?_isSome, decide_eq_true_eq, List.mem_map]
  constructor
  · rintro ⟨x, hx, e⟩
    obtain ⟨p, hp, rfl⟩ := List.mem_map.mp hx
    refine ⟨p, hp, ?_⟩
    have : (p.1 : Int) = (k : Int) := by simpa using e
    omega
  · rintro ⟨p, hp, e⟩
    exact ⟨_, List.mem_map.mpr ⟨p, hp, rfl⟩, by rw [e]; simp⟩
theorem kvL_new {L : List (Nat × Int)} {k : Nat} (h : k ∉ L.map Prod.fst) : valV (kvL L) (.inl (k : Int)) = none := by
  have e := kvL_get L k
  rw [decide_eq_false h] at e
  cases hv : valV (kvL L) (.inl (k : Int)) with
  | none => rfl
  | some v => rw [hv] at e; cases e
theorem g_dyes {ty td : TE} {σ : L2.St} {H : Hp} {Q : VK} (h : ty σ H fun y H1 => td σ H1 fun x H2 => ∃ a o, x = .ref a ∧ DGet H2 a y o ∧ Q (.bl o.isSome) H2) : tDIn ty td σ H Q := h
def inKeys (L : List (Nat × Int)) (ps : List (Int × Int × Int)) : Bool := ps.all fun p => decide (p.1.toNat ∈ L.map Prod.fst)
def spHpG (c : Cs) : Sp := fun vs H Q _ => ∃ (S : List Addr) (v : V) (p : Addr) (g : GlG) (L : List (Nat × Int)), vs = [v, .ref p] ∧ Al S H ∧ p ∈ S ∧ Dq S H v (glD c g.R) ∧ H p = some (.dK (kvL L)) ∧ g.parts.length < 900 ∧ (∀ p, p ∈ g.parts → 0 ≤ p.1) ∧ ∀ H', Same H H' → Q (.bl (inKeys L g.parts)) H'
theorem ok_has_parts_in (T : Txt K mg) : Has P w K mg base 1 "has_parts_in" ps_has_parts_in (spHpG (cs mg)) := by
  obtain ⟨_, _, _, _, _, _, _, _, cG⟩ := T.c_Glyph
  have clG := cG.cl
  have naG := cG.na
  refine has_of T.d_has_parts_in sc_has_parts_in bd_has_parts_in (fun vs H Q E h => ?_) (fun f cdv A outer s H vs Q E hr h => ?_)
  · obtain ⟨S, v, y, g, L, rfl, _⟩ := h
    rfl
  · obtain ⟨S, v, pd, g, L, rfl, hS, hpS, h2, hpd, hz, h0, q⟩ := h
    obtain ⟨a, dx, u1, u2, u3, u4, u5, u6, u7, rfl, na, hA, k1, k2, k3, k4, k5, k6, k7⟩ := glE h2
    have k3 : Dq S H u3 (.list (g.parts.map fun p => .tuple (i3 p))) := ltD_map i3 g.parts ▸ k3
    obtain ⟨b3, xs, rfl, n3, hb3, hX⟩ := k3.lstE
    refine ⟨_, (pss_one (ps_ret (pe_callB (clAll (K := K) rfl rfl) (by rfl) T.z_all (by decide +kernel) (pa_cons (pe_lc (own := [("part", 2)]) rfl sc_has_parts_in.nd (piL (K := K) rfl (peFld (K := K) rfl (pv 0) rfl)) (blkOk_by (by kernel_rfl)) (fun _ _ _ _ _ => (pg_name (i := 2) sc_has_parts_in.nd rfl (.inl rfl))) (fun _ _ _ _ _ => pts_nil) (fun _ _ _ _ _ => (pe_cmp (pc_din (hu_of hr) (pe_ix (ixT (K := K) rfl) (pv 2) pe_int (fun _ _ => rfl)) (pv 1))))) pa_nil)))), ?_⟩
    walk_at "fl.w"
    refine lcL (S := S) (fun i => (g.parts[i]?).map fun p => .bool (decide (p.1.toNat ∈ L.map Prod.fst))) hS (.lst n3 hb3 hX) (by rw [List.length_map]; omega) ?_ ?_
    · intro D i x e G hD he sm al hxe R N hR hN
      obtain ⟨p, hp, rfl⟩ := at_map he
      have hp0 := h0 p (List.mem_of_getElem? hp)
      obtain ⟨t, ts, rfl, nt, ht, hT⟩ := hxe.tupE
      obtain ⟨_, _, rfl, x1, hT⟩ := hT.consE
      obtain ⟨_, _, rfl, x2, hT⟩ := hT.consE
      obtain ⟨_, _, rfl, x3, hT⟩ := hT.consE
      cases hT.nilE
      cases x1.intE
      have hpd' := sm _ _ hpd
      refine g_name ⟨rfl, ?_⟩
      walk_at "fl.w"
      refine g_dyes ?_
      walk_at "fl.w"
      have dg := DGet.k (k := .inl ((p.1.toNat : Nat) : Int)) hpd'
      rw [show ((p.1.toNat : Nat) : Int) = p.1 by omega] at dg
      refine ⟨pd, _, rfl, dg, ?_⟩
      have e1 := kvL_get L p.1.toNat
      rw [show ((p.1.toNat : Nat) : Int) = p.1 by omega] at e1
      rw [e1]
      exact hR _ _ _ (by rw [hp]; rfl) (L2.Same.refl _) (.bl _)
    · intro D G sm hD hq
      have em : (List.range (g.parts.map fun p => PyData.tuple (i3 p)).length).filterMap (fun i => (g.parts[i]?).map fun p => PyData.bool (decide (p.1.toNat ∈ L.map Prod.fst))) = (g.parts.map fun p => decide (p.1.toNat ∈ L.map Prod.fst)).map PyData.bool := by
        rw [List.length_map, fm_ltA rfl, List.map_map]
        rfl
      rw [em] at hq
      obtain ⟨_, ys, e, _, hb, hY⟩ := hq.lstE
      cases e
      have bools_of : ∀ (bs : List Bool) (ys : List V), DqA S G ys (bs.map PyData.bool) → ys = bs.map V.bl := by
        intro bs
        induction bs with
        | nil => intro ys h; cases h; rfl
        | cons b bs ih =>
          intro ys h
          rw [List.map_cons] at h
          obtain ⟨v, ws, rfl, hv, h2⟩ := h.consE
          cases hv.blE
          rw [ih ws h2]
          rfl
      rw [bools_of _ _ hY] at hb
      walk_at "fl.w"
      have e2 : ((g.parts.map fun p => decide (p.1.toNat ∈ L.map Prod.fst)).all id) = inKeys L g.parts := by
        unfold inKeys
        rw [List.all_map]
        rfl
      first
        | (rw [e2]; exact q _ sm)
        | (refine g_allL (SqL.of hb) ?_; rw [e2]; exact q _ sm)
/-- the keys that a level finds -/
def lev (gs : List GlG) (L : List (Nat × Int)) : List Nat := (List.range gs.length).filter fun k => !decide (k ∈ L.map Prod.fst) && match gs[k]? with
  | none => false
  | some g => inKeys L g.parts
/-- the keys before level i -/
def keysAt (gs : List GlG) : Nat → List (Nat × Int)
  | 0 => []
  | i + 1 => keysAt gs i ++ (lev gs (keysAt gs i)).map fun k => (k, (i : Int))
theorem keys_ok (gs : List GlG) : ∀ i, ((keysAt gs i).map Prod.fst).Nodup ∧ ∀ k, k ∈ (keysAt gs i).map Prod.fst → k < gs.length
  | 0 => ⟨List.nodup_nil, fun k m => nomatch m⟩
  | i + 1 => by
    obtain ⟨a, b⟩ := keys_ok gs i
    have e : (keysAt gs (i + 1)).map Prod.fst = (keysAt gs i).map Prod.fst ++ lev gs (keysAt gs i) := by
      show (keysAt gs i ++ (lev gs (keysAt gs i)).map fun k => (k, (i : Int))).map Prod.fst = _
      rw [List.map_append, List.map_map]
      congr 1
      exact List.map_id' _
    rw [e]
    refine ⟨List.nodup_append.mpr ⟨a, List.Nodup.sublist List.filter_sublist List.nodup_range, fun x hx y hy q => ?_⟩, fun k m => ?_⟩
    · subst q
      have := (List.mem_filter.mp hy).2
      rw [decide_eq_true hx] at this
      simp at this
    · rcases List.mem_append.mp m with m | m
      · exact b k m
      · exact List.mem_range.mp (List.mem_filter.mp m).1
theorem filt_add (p : Nat → Bool) : ∀ l : List Nat, l.length = (l.filter p).length + (l.filter fun k => !p k).length
  | [] => rfl
  | x :: l => by
    have ih := filt_add p l
    rw [List.filter_cons, List.filter_cons, List.length_cons]
    cases h : p x
    · simp
      omega
    · simp
      omega
theorem all_bound : ∀ (n : Nat) (l : List Nat), (∀ k, k < n → k ∈ l) → n ≤ l.length
  | 0, _, _ => Nat.zero_le _
  | n + 1, l, h => by
    have h2 := all_bound n (l.filter fun k => decide (k ≠ n)) (fun k hk => List.mem_filter.mpr ⟨h k (by omega), by simp; omega⟩)
    have h3 := filt_add (fun k => decide (k ≠ n)) l
    have h4 : 0 < (l.filter fun k => !decide (k ≠ n)).length := List.length_pos_of_mem (List.mem_filter.mpr ⟨h n (by omega), by simp⟩)
    omega
theorem nodup_bound : ∀ (n : Nat) (l : List Nat), l.Nodup → (∀ k, k ∈ l → k < n) → l.length ≤ n
  | 0, l, _, h => by
    cases l with
    | nil => exact Nat.le_refl _
    | cons k l => exact absurd (h k List.mem_cons_self) (Nat.not_lt_zero _)
  | n + 1, l, hd, h => by
    have h2 := nodup_bound n (l.filter fun k => decide (k ≠ n)) (List.Nodup.sublist List.filter_sublist hd) (fun k m => by
      obtain ⟨m1, m2⟩ := List.mem_filter.mp m
      have := h k m1
      simp at m2
      omega)
    have h3 := filt_add (fun k => decide (k ≠ n)) l
    have h4 : (l.filter fun k => !decide (k ≠ n)).length ≤ 1 := by
      have hn : (l.filter fun k => !decide (k ≠ n)).Nodup := List.Nodup.sublist List.filter_sublist hd
      have he : ∀ k, k ∈ (l.filter fun k => !decide (k ≠ n)) → k = n := fun k m => by
        have := (List.mem_filter.mp m).2
        simpa using this
      generalize (l.filter fun k => !decide (k ≠ n)) = m at hn he
      match m, hn, he with
      | [], _, _ => exact Nat.zero_le _
      | [_], _, _ => exact Nat.le_refl _
      | x :: y :: m, hn, he =>
        have e1 := he x List.mem_cons_self
        have e2 := he y (by simp)
        rw [e1, e2] at hn
        exact absurd hn (by simp)
    omega
theorem all_len {n : Nat} {l : List Nat} (hd : l.Nodup) (h : ∀ k, k ∈ l → k < n) (hall : ∀ k, k < n → k ∈ l) : l.length = n := by
  have h1 := nodup_bound n l hd h
  have h2 := all_bound n l hall
  omega
/-- every glyph is found: at level i all that are no deeper -/
theorem keys_all {gs : List GlG} {dep : Nat → Nat} (h : ∀ k g, gs[k]? = some g → dep k ≤ 4 ∧ ∀ p, p ∈ g.parts → dep p.1.toNat < dep k) (hp : ∀ (k : Nat) (g : GlG), gs[k]? = some g → ∀ p, p ∈ g.parts → p.1.toNat < gs.length) : ∀ i k, k < gs.length → dep k < i → k ∈ (keysAt gs i).map Prod.fst
  | 0, k, _, hd => absurd hd (Nat.not_lt_zero _)
  | i + 1, k, hk, hd => by
    have e : (keysAt gs (i + 1)).map Prod.fst = (keysAt gs i).map Prod.fst ++ lev gs (keysAt gs i) := by
      show (keysAt gs i ++ (lev gs (keysAt gs i)).map fun k => (k, (i : Int))).map Prod.fst = _
      rw [List.map_append, List.map_map]
      congr 1
      exact List.map_id' _
    rw [e]
    by_cases m : k ∈ (keysAt gs i).map Prod.fst
    · exact List.mem_append_left _ m
    · refine List.mem_append_right _ (List.mem_filter.mpr ⟨List.mem_range.mpr hk, ?_⟩)
      have hg : gs[k]? = some gs[k] := List.getElem?_eq_getElem hk
      rw [hg, decide_eq_false m]
      simp only [Bool.not_false, Bool.true_and]
      unfold inKeys
      refine List.all_eq_true.mpr fun p hpm => decide_eq_true ?_
      have h1 := (h k _ hg).2 p hpm
      exact keys_all h hp i _ (hp k _ hg p hpm) (by omega)
theorem keys_len {gs : List GlG} {dep : Nat → Nat} (h : ∀ k g, gs[k]? = some g → dep k ≤ 4 ∧ ∀ p, p ∈ g.parts → dep p.1.toNat < dep k) (hp : ∀ (k : Nat) (g : GlG), gs[k]? = some g → ∀ p, p ∈ g.parts → p.1.toNat < gs.length) : (keysAt gs 5).length = gs.length := by
  obtain ⟨a, b⟩ := keys_ok gs 5
  have := all_len a b fun k hk => keys_all h hp 5 k hk (by
    have := (h k _ (List.getElem?_eq_getElem hk)).1
    omega)
  rwa [List.length_map] at this
theorem fm_filter (f : Nat → PyData) (p : Nat → Bool) : ∀ n : Nat, (List.range n).filterMap (fun j => if p j = true then some (f j) else none) = ((List.range n).filter p).map f
  | 0 => rfl
  | n + 1 => by
    rw [List.range_succ, List.filterMap_append, List.filter_append, List.map_append, fm_filter f p n]
    congr 1
    cases h : p n
    · simp [h]
    · simp [h]
def spDepG (c : Cs) : Sp := fun vs H Q _ => ∃ (S : List Addr) (v : V) (gs : List GlG), vs = [v] ∧ Al S H ∧ Dq S H v (.list (gs.map fun g => glD c g.R)) ∧ gs.length ≤ 60 ∧ (∀ g, g ∈ gs → g.parts.length < 900 ∧ ∀ p, p ∈ g.parts → 0 ≤ p.1) ∧ ∀ p H', Same H H' → H' p = some (.dK (kvL (keysAt gs 5))) → Q (.ref p) H'
theorem ok_depths_of (T : Txt K mg) : Has P w K mg base 2 "depths_of" ps_depths_of (spDepG (cs mg)) := by
  have h_has_parts_in := ok_has_parts_in (P := P) (w := w) (base := base) T
  refine has_of T.d_depths_of sc_depths_of bd_depths_of (fun vs H Q E h => ?_) (fun f cdv A outer s H vs Q E hr h => ?_)
  · obtain ⟨S, v, gs, rfl, _⟩ := h
    rfl
  · obtain ⟨S, v, gs, rfl, hS, h1, hz, hpp, q⟩ := h
    obtain ⟨a, xs, rfl, ha, hl, hD⟩ := lstN h1
    refine ⟨_, (pss_cons (ps_set (i := 1) sc_depths_of.nd rfl (.inr rfl) pe_dnewK)
      (pss_cons (ps_for PassesOwn.never rfl (pi_range1 (by rfl) T.z_range (pa_cons (pe_op op_add (pe_gv (by rfl) T.g_DEEPEST) pe_int) pa_nil)) (pg_name (i := 2) sc_depths_of.nd rfl (.inl rfl))
        (pss_cons (ps_setLc (i := 4) (own := [("k", 3)]) rfl sc_depths_of.nd rfl rfl (sw_true rfl rfl rfl (by decide +kernel)) (pi_range1 (by rfl) T.z_range (pa_cons (pe_callB (clLen (K := K) rfl) (by rfl) T.z_len (by decide +kernel) (pa_cons (pv 0) pa_nil)) pa_nil)) (blkOk_by (by kernel_rfl)) (fun _ _ _ _ _ => (pg_name (i := 3) sc_depths_of.nd rfl (.inl rfl))) (fun _ _ _ _ _ => (pts_one (PW.pt (pw_and (pt_cmp (pc_dnotin (hu_of hr) (pv 3) (pv 1))) (pw_and1 (pt_val (pe_h h_has_parts_in (hr.mono (by decide)) (pa_cons (pe_ix (ixL (K := K) rfl) (pv 0) (pv 3) (fun _ _ => rfl)) (pa_cons (pv 1) pa_nil))))))))) (fun _ _ _ _ _ => (pv 3)))
      (pss_one (ps_for PassesOwn.never rfl (piL (K := K) rfl (pv 4)) (pg_name (i := 3) sc_depths_of.nd rfl (.inl rfl))
        (pss_one (ps_dput (hu_of hr) (pv 1) (pv 3) (pv 2) rfl))))))
      (pss_one (ps_ret (pv 1))))), ?_⟩
    walk_at "fl.w"
    unfold tDNewK
    intro p hp
    have hap : a ≠ p := fun e => by rw [e, hp] at ha; cases ha
    have alp : Al (p :: S) (upd H p (.dK [])) := .cons (by rw [upd_same]; simp) (hS.same (Fl.Same.new hp))
    have hDp : DqA (p :: S) (upd H p (.dK [])) xs (gs.map fun g => glD (cs mg) g.R) := (hD.new hp).same (Fl.Same.new hp)
    have hap0 : upd H p (.dK []) a = some (.lst xs) := by rw [upd_ne hap]; exact ha
    walk_at "fl.w"
    refine forK_r (fun i σ' H' => (∃ u2 u3 u4, σ' = [some (.ref a), some (.ref p), u2, u3, u4]) ∧ Fr [p] (upd H p (.dK [])) H' ∧ H' p = some (.dK (kvL (keysAt gs i)))) ⟨⟨_, _, _, rfl⟩, Fr.refl, upd_same⟩ ?_ ?_
    · intro i σ' H' hi ⟨⟨u2, u3, u4, e⟩, hf, hpk⟩
      subst e
      have al1 : Al (p :: S) H' := alp.fr hf (.cons (by rw [hpk]; simp) .nil)
      have hD1 : DqA (p :: S) H' xs (gs.map fun g => glD (cs mg) g.R) := hDp.fr (hf.mono fun b m => by rw [show b = p by simpa using m]; exact List.mem_cons_self)
      have ha1 : H' a = some (.lst xs) := hf a _ (by simpa using hap) hap0
      obtain ⟨kn, kb⟩ := keys_ok gs i
      have kl : (keysAt gs i).length ≤ gs.length := by
        have := nodup_bound gs.length _ kn kb
        rwa [List.length_map] at this
      walk_at "fl.w"
      refine lcR (S := p :: S) (fun j => if (!decide (j ∈ (keysAt gs i).map Prod.fst) && match gs[j]? with | none => false | some g => inKeys (keysAt gs i) g.parts) = true then some (.int (j : Int)) else none) al1 (by omega) ?_ ?_
      · intro D j H2 hDn hj sm al R N hR hN
        have hj' : j < xs.length := by omega
        obtain ⟨g, hg⟩ : ∃ g, gs[j]? = some g := ⟨_, List.getElem?_eq_getElem (by omega)⟩
        obtain ⟨x, hx, hxD⟩ := (hD1.same sm).getD (i := j) (by rw [List.getElem?_map, hg]; rfl)
        have hat : atI xs (j : Int) = some x := atI_nat (j := j) hx
        have ha2 := sm _ _ ha1
        have hp2 := sm _ _ hpk
        obtain ⟨gz, g0⟩ := hpp g (List.mem_of_getElem? hg)
        rw [Int.zero_add]
        refine g_name ⟨rfl, ?_⟩
        walk_at "fl.w"
        refine g_tB (g_dn ?_)
        walk_at "fl.w"
        refine ⟨p, _, rfl, DGet.k (k := .inl (j : Int)) hp2, ?_⟩
        rw [kvL_get]
        by_cases hk : j ∈ (keysAt gs i).map Prod.fst
        · rw [decide_eq_true hk]
          simp only [Bool.not_true]
          walk_at "fl.w"
          exact hN (by rw [decide_eq_true hk]; simp) _ (L2.Same.refl _)
        · rw [decide_eq_false hk]
          simp only [Bool.not_false]
          walk_at "fl.w"
          refine ⟨p :: S, _, _, g, keysAt gs i, rfl, al1.same sm, by simp, hxD, hp2, gz, g0, fun H3 sm3 => ?_⟩
          by_cases hin : inKeys (keysAt gs i) g.parts = true
          · rw [hin]
            walk_at "fl.w"
            exact hR _ _ _ (by rw [decide_eq_false hk, hg]; simp [hin]) sm3 (.int _)
          · rw [show inKeys (keysAt gs i) g.parts = false by simpa using hin]
            walk_at "fl.w"
            exact hN (by rw [decide_eq_false hk, hg]; simp [hin]) _ sm3
      · intro D H2 sm hDn hq
        rw [fm_filter (fun j => .int (j : Int))] at hq
        have hp2 := sm _ _ hpk
        obtain ⟨_, ys, e, _, hy, hY⟩ := hq.lstE
        cases e
        have hDp' : D ≠ p := fun e => by rw [e, hpk] at hDn; cases hDn
        walk_at "fl.w"
        have hlx : (xs.length : Int).toNat = gs.length := by omega
        rw [hlx] at hY
        have hY : DqA (p :: S) H2 ys ((lev gs (keysAt gs i)).map fun j : Nat => PyData.int (j : Int)) := hY
        obtain ⟨Fl', hFl⟩ : ∃ L, L = lev gs (keysAt gs i) := ⟨_, rfl⟩
        rw [← hFl] at hY
        have hnd : ((keysAt gs i).map Prod.fst ++ Fl').Nodup := by
          have := (keys_ok gs (i + 1)).1
          rw [show (keysAt gs (i + 1)).map Prod.fst = (keysAt gs i).map Prod.fst ++ Fl' by
            show (keysAt gs i ++ (lev gs (keysAt gs i)).map fun k => (k, (i : Int))).map Prod.fst = _
            rw [List.map_append, List.map_map, ← hFl]
            congr 1
            exact List.map_id' _] at this
          exact this
        have hkb : Fl'.length ≤ gs.length := nodup_bound gs.length _ (List.nodup_append.mp hnd).2.1 (fun k m => by
          rw [hFl] at m
          exact List.mem_range.mp (List.mem_filter.mp m).1)
        have hly : ys.length = Fl'.length := by rw [hY.len, List.length_map]
        refine forK_l (xs := ys) (fun j σ' Hq => (∃ u3, σ' = [some (.ref a), some (.ref p), some (.int (0 + (i : Int))), u3, some (.ref D)]) ∧ Fr [p] H2 Hq ∧ Hq p = some (.dK (kvL (keysAt gs i ++ (Fl'.take j).map fun k => (k, (i : Int)))))) ⟨⟨_, rfl⟩, Fr.refl, by rw [List.take_zero, List.map_nil, List.append_nil]; exact hp2⟩ ?_ ?_ ?_
        · intro j σ' Hq _ ⟨_, f2, _⟩
          exact SqL.of (f2 _ _ (by simpa using hDp') hy)
        · intro j x σ' Hq hx ⟨⟨u3, e⟩, f2, hk⟩
          subst e
          have hjl : j < Fl'.length := by
            have := (List.getElem?_eq_some_iff.mp hx).1
            omega
          have hFj : Fl'[j]? = some Fl'[j] := List.getElem?_eq_getElem hjl
          obtain ⟨d, hd1, hd2⟩ := hY.get hx
          rw [List.getElem?_map, hFj] at hd1
          cases hd1
          cases hd2.intE
          have hnew : Fl'[j] ∉ (keysAt gs i ++ (Fl'.take j).map fun k => (k, (i : Int))).map Prod.fst := by
            intro m
            rw [List.map_append, List.map_map] at m
            rcases List.mem_append.mp m with m | m
            · exact (List.nodup_append.mp hnd).2.2 _ m _ (List.getElem_mem hjl) rfl
            · have m : Fl'[j] ∈ Fl'.take j := by
                obtain ⟨y, hy, e⟩ := List.mem_map.mp m
                rw [← e]; exact hy
              have hn2 := (List.nodup_append.mp hnd).2.1
              obtain ⟨i2, hi2, e⟩ := List.getElem_of_mem m
              rw [List.length_take] at hi2
              rw [List.getElem_take] at e
              exact List.pairwise_iff_getElem.mp hn2 i2 j (by omega) hjl (by omega) e
          walk_at "fl.w"
          refine g_dp ?_
          walk_at "fl.w"
          refine ⟨p, _, rfl, DPut.k (k := .inl (Fl'[j] : Int)) hk (by
            rw [kvL_len, List.length_append, List.length_map, List.length_take]
            have : (1000 : Nat) ≤ sizeLine := by decide
            omega), ?_⟩
          refine ⟨⟨_, rfl⟩, f2.trans (Fr.upd (by simp)), ?_⟩
          rw [upd_same, putK_new _ (kvL_new hnew), show (0 : Int) + (i : Int) = (i : Int) by omega, kvL_snoc, List.append_assoc]
          have : (Fl'.take j).map (fun k => (k, (i : Int))) ++ [(Fl'[j], (i : Int))] = (Fl'.take (j + 1)).map fun k => (k, (i : Int)) := by
            rw [List.take_succ, hFj, List.map_append]
            rfl
          rw [this]
        · intro σ' Hq ⟨⟨u3, e⟩, f2, hk⟩
          subst e
          refine ⟨⟨_, _, _, rfl⟩, (hf.trans (Fr.same sm)).trans f2, ?_⟩
          rw [hk, List.take_of_length_le (by omega), hFl]
          rfl
    · intro σ' H' ⟨⟨u2, u3, u4, e⟩, hf, hpk⟩
      subst e
      walk_at "fl.w"
      exact q p H' (sm_of hp (by exact fun b o n e => hf b o n (by rw [upd_ne (by simpa using n)]; exact e))) hpk
theorem ok_parts_reason (T : Txt K mg) (VL : FoR → LkR → Prop) : Has P w K mg base 3 "parts_reason" ps_parts_reason (spD (fFvG (cs mg) VL)) := by
  obtain ⟨_, _, _, _, _, _, _, _, _, _, _, _, _, _, cF⟩ := T.c_Font
  have clF := cF.cl
  have naF := cF.na
  have h_depths_of := ok_depths_of (P := P) (w := w) (base := base) T
  refine has_of T.d_parts_reason sc_parts_reason bd_parts_reason (fun vs H Q E h => ?_) (fun f cdv A outer s H vs Q E hr h => ?_)
  · obtain ⟨S, ds, d, _, hd, ⟨fo, fok, rfl, rfl⟩, _⟩ := h
    rw [hd.len]
    rfl
  · obtain ⟨S, ds, d, hS, hd, ⟨fo, fok, rfl, rfl⟩, q⟩ := h
    obtain ⟨v1, _, rfl, h1, hd⟩ := hd.consE
    cases hd.nilE
    obtain ⟨fa, fdx, w1, w2, w3, w4, w5, w6, w7, w8, w9, rfl, fna, fA, j1, j2, j3, j4, j5, j6, j7, j8, j9⟩ := foE h1
    have j2' : Dq S H w2 (.list (fo.glyphs.map fun g => glD (cs mg) g.R)) := by
      simp only [FoG.R, List.map_map] at j2
      exact j2
    obtain ⟨b, xs, rfl, hb, hl, _⟩ := lstN j2'
    obtain ⟨dep, hdep⟩ := fok.dp
    refine ⟨_, (pss_cons (ps_if (pt_cmpR op_lt (pe_callB call_lenD (by rfl) T.z_len (by decide +kernel) (pa_cons (pe_h h_depths_of (hr.mono (by decide)) (pa_cons (peFld (K := K) rfl (pv 0) rfl) pa_nil)) pa_nil)) (pe_callB (clLen (K := K) rfl) (by rfl) T.z_len (by decide +kernel) (pa_cons (peFld (K := K) rfl (pv 0) rfl) pa_nil)) (nomark _))
        pss_never
        pss_nil)
      (pss_one (ps_ret pe_non))), ?_⟩
    walk_at "fl.w"
    refine ⟨S, _, fo.glyphs, rfl, hS, j2', fok.gl.2, fun g m => ⟨(fok.go g m).pt.1, fun p mp => ((fok.go g m).pt.2 p mp).1⟩, fun p H2 sm hp => ?_⟩
    have hk := keys_len hdep (fun k g hg p mp => by
      have := (fok.go g (List.mem_of_getElem? hg)).pt.2 p mp
      omega)
    have fA2 := sm _ _ fA
    have hb2 := sm _ _ hb
    walk_at "fl.w"
    refine ⟨p, _, rfl, hp, ?_⟩
    walk_at "fl.w"
    refine g_noB (by rw [kvL_len]; omega) ?_
    walk_at "fl.w"
    exact q _ _ sm .non
end

section
variable {P : Program} {w : World} {K : PySem.W.Frag} {mg : Str → Option Value} {base : Heap}
local macro_rules | `(tactic| walk_at "fl.t") => `(tactic| (with_reducible refine g_chainW ?_))
local macro_rules | `(tactic| walk_at "fl.t") => `(tactic| (with_reducible refine g_ifE ?_))
local macro_rules | `(tactic| walk_at "fl.w") => `(tactic| repeat walk_at "fl.t")
def fMr (ds : List PyData) (d : PyData) : Prop := ∃ (L : List PyData) (lo hi : Int), ds = [.list L, .int lo, .int hi] ∧ lo ≤ L.length ∧ (L.length : Int) ≤ hi ∧ d = .none
def fPl (ds : List PyData) (d : PyData) : Prop := ∃ x : Str, ds = [.str x, .none] ∧ d = .none
theorem ok_many_reason (T : Txt K mg) : Has P w K mg base 1 "many_reason" ps_many_reason (spD fMr) := by
  refine has_of T.d_many_reason sc_many_reason bd_many_reason (fun vs H Q E h => ?_) (fun f cdv A outer s H vs Q E hr h => ?_)
  · obtain ⟨S, ds, d, _, hd, ⟨L, lo, hi, rfl, _⟩, _⟩ := h
    rw [hd.len]
    rfl
  · obtain ⟨S, ds, d, hS, hd, ⟨L, lo, hi, rfl, z1, z2, rfl⟩, q⟩ := h
    obtain ⟨v1, _, rfl, h1, hd⟩ := hd.consE
    obtain ⟨v2, _, rfl, h2, hd⟩ := hd.consE
    obtain ⟨v3, _, rfl, h3, hd⟩ := hd.consE
    cases hd.nilE
    cases h2.intE
    cases h3.intE
    obtain ⟨b, xs, rfl, _, hb, hD⟩ := h1.lstE
    have hl := hD.len
    refine ⟨_, (pss_cons (ps_if (pt_not (pt_chain op_le op_le (pv 1) (pe_callB (clLen (K := K) rfl) (by rfl) T.z_len (by decide +kernel) (pa_cons (pv 0) pa_nil)) (pv 2)))
        pss_never
        pss_nil)
      (pss_one (ps_ret pe_non))), ?_⟩
    walk_at "fl.w"
    refine g_yesB (by rw [hl]; exact z1) ?_
    walk_at "fl.w"
    refine g_nB (by rw [hl]; exact z2) ?_
    walk_at "fl.w"
    exact q _ _ (L2.Same.refl _) .non
theorem ok_placed (T : Txt K mg) : Has P w K mg base 1 "placed" ps_placed (spD fPl) := by
  refine has_of T.d_placed sc_placed bd_placed (fun vs H Q E h => ?_) (fun f cdv A outer s H vs Q E hr h => ?_)
  · obtain ⟨S, ds, d, _, hd, ⟨x, rfl, rfl⟩, _⟩ := h
    rw [hd.len]
    rfl
  · obtain ⟨S, ds, d, hS, hd, ⟨x, rfl, rfl⟩, q⟩ := h
    obtain ⟨v1, _, rfl, h1, hd⟩ := hd.consE
    obtain ⟨v2, _, rfl, h2, hd⟩ := hd.consE
    cases hd.nilE
    cases h2.nonE
    refine ⟨_, (pss_cons (ps_if (pt_cmpR op_isN (pv 1) pe_non (nomark _))
        (pss_one (ps_ret pe_non))
        pss_nil)
      (pss_one (ps_ret (pe_tup (pa_cons (pv 0) (pa_cons (pv 1) pa_nil)))))), ?_⟩
    walk_at "fl.w"
    exact q _ _ (L2.Same.refl _) .non
theorem ok_unit_reason (T : Txt K mg) (VL : FoR → LkR → Prop) : Has P w K mg base 1 "unit_reason" ps_unit_reason (spD (fFvG (cs mg) VL)) := by
  obtain ⟨_, _, _, _, _, _, _, _, _, _, _, _, _, _, cF⟩ := T.c_Font
  have clF := cF.cl
  have naF := cF.na
  refine has_of T.d_unit_reason sc_unit_reason bd_unit_reason (fun vs H Q E h => ?_) (fun f cdv A outer s H vs Q E hr h => ?_)
  · obtain ⟨S, ds, d, _, hd, ⟨fo, fok, rfl, rfl⟩, _⟩ := h
    rw [hd.len]
    rfl
  · obtain ⟨S, ds, d, hS, hd, ⟨fo, fok, rfl, rfl⟩, q⟩ := h
    obtain ⟨v1, _, rfl, h1, hd⟩ := hd.consE
    cases hd.nilE
    obtain ⟨fa, fdx, w1, w2, w3, w4, w5, w6, w7, w8, w9, rfl, fna, fA, j1, j2, j3, j4, j5, j6, j7, j8, j9⟩ := foE h1
    have j1 : Dq S H w1 (.int fo.unit) := j1
    cases j1.intE
    have hu := fok.un
    refine ⟨_, (pss_cons (ps_if (pt_not (pt_chain op_le op_le pe_int (peFld (K := K) rfl (pv 0) rfl) (pe_gv (by rfl) T.g_FARTHEST)))
        pss_never
        pss_nil)
      (pss_one (ps_ret pe_non))), ?_⟩
    walk_at "fl.w"
    refine g_yesB hu.1 ?_
    walk_at "fl.w"
    refine g_nB hu.2 ?_
    walk_at "fl.w"
    exact q _ _ (L2.Same.refl _) .non
theorem ok_chars_reason (T : Txt K mg) (VL : FoR → LkR → Prop) : Has P w K mg base 1 "chars_reason" ps_chars_reason (spD (fFvG (cs mg) VL)) := by
  obtain ⟨_, _, _, _, _, _, _, _, _, _, _, _, _, _, cF⟩ := T.c_Font
  have clF := cF.cl
  have naF := cF.na
  refine has_of T.d_chars_reason sc_chars_reason bd_chars_reason (fun vs H Q E h => ?_) (fun f cdv A outer s H vs Q E hr h => ?_)
  · obtain ⟨S, ds, d, _, hd, ⟨fo, fok, rfl, rfl⟩, _⟩ := h
    rw [hd.len]
    rfl
  · obtain ⟨S, ds, d, hS, hd, ⟨fo, fok, rfl, rfl⟩, q⟩ := h
    obtain ⟨v1, _, rfl, h1, hd⟩ := hd.consE
    cases hd.nilE
    obtain ⟨fa, fdx, w1, w2, w3, w4, w5, w6, w7, w8, w9, rfl, fna, fA, j1, j2, j3, j4, j5, j6, j7, j8, j9⟩ := foE h1
    have j3 : Dq S H w3 (.list (fo.chars.map fun p => .tuple (i2 p))) := ltD_map i2 fo.chars ▸ j3
    obtain ⟨b, xs, rfl, _, hb, hD⟩ := j3.lstE
    obtain ⟨gb, gs, rfl, hgb, hgl, _⟩ := lstN j2
    have hgl : gs.length = fo.glyphs.length := by rw [hgl]; exact List.length_map _
    refine ⟨_, (pss_cons (ps_set (i := 1) sc_chars_reason.nd rfl (.inl rfl) (pe_un un_neg pe_int))
      (pss_cons (ps_for PassesOwn.never rfl (piL (K := K) rfl (peFld (K := K) rfl (pv 0) rfl)) (pgT (n := 2) (K := K) rfl (by rfl) (pgs_cons (pg_name (i := 2) sc_chars_reason.nd rfl (.inl rfl)) (pgs_cons (pg_name (i := 3) sc_chars_reason.nd rfl (.inl rfl)) pgs_nil)))
        (pss_cons (ps_if (pt_not (pt_chain op_lt op_le (pv 1) (pv 2) pe_int))
        pss_never
        pss_nil)
      (pss_cons (ps_if (pt_not (pt_chain op_le op_lt pe_int (pv 3) (pe_callB (clLen (K := K) rfl) (by rfl) T.z_len (by decide +kernel) (pa_cons (peFld (K := K) rfl (pv 0) rfl) pa_nil))))
        pss_never
        pss_nil)
      (pss_one (ps_set (i := 1) sc_chars_reason.nd rfl (.inl rfl) (pv 2))))))
      (pss_one (ps_ret pe_non)))), ?_⟩
    walk_at "fl.w"
    refine forK_l (xs := xs) (fun i σ' H' => (∃ u2 u3, σ' = [some (.ref fa), some (.int (prv (fo.chars.map Prod.fst) i)), u2, u3]) ∧ H' = H) ⟨⟨_, _, rfl⟩, rfl⟩ (fun i σ' H' _ ⟨_, e⟩ => by subst e; exact SqL.of hb) ?_ ?_
    · intro i x σ' H' hx ⟨⟨u2, u3, e⟩, e2⟩
      subst e e2
      obtain ⟨c, hc, dx⟩ := hD.getM hx
      obtain ⟨t, ts, rfl, nt, ht, hT⟩ := dx.tupE
      obtain ⟨_, _, rfl, x1, hT⟩ := hT.consE
      obtain ⟨_, _, rfl, x2, hT⟩ := hT.consE
      cases hT.nilE
      cases x1.intE
      cases x2.intE
      obtain ⟨c1, c2, c3, c4⟩ := fok.ch.2 i c hc
      refine g_gtup (SqT.of ht) rfl ?_
      walk_at "fl.w"
      refine g_yesB c1 ?_
      walk_at "fl.w"
      refine g_nB c2 ?_
      walk_at "fl.w"
      refine g_yesB c3 ?_
      walk_at "fl.w"
      refine g_nB (show c.2 < (gs.length : Int) by omega) ?_
      walk_at "fl.w"
      refine ⟨⟨_, _, by simp only [prv, List.getElem?_map, hc, Option.map_some, Option.getD_some]; rfl⟩, rfl⟩
    · intro σ' H' ⟨⟨u2, u3, e⟩, e2⟩
      subst e e2
      walk_at "fl.w"
      exact q _ _ (L2.Same.refl _) .non
theorem ok_functions_reason (T : Txt K mg) (I : WoK K w mg) (VL : FoR → LkR → Prop) : Has P w K mg base 2 "functions_reason" ps_functions_reason (spD (fFvG (cs mg) VL)) := by
  obtain ⟨_, _, _, _, _, _, _, _, _, _, _, _, _, _, cF⟩ := T.c_Font
  have clF := cF.cl
  have naF := cF.na
  have h_many_reason := ok_many_reason (P := P) (w := w) (base := base) T
  have h_is_instruction := ok_is_instruction (P := P) (w := w) (base := base) T I
  refine has_of T.d_functions_reason sc_functions_reason bd_functions_reason (fun vs H Q E h => ?_) (fun f cdv A outer s H vs Q E hr h => ?_)
  · obtain ⟨S, ds, d, _, hd, ⟨fo, fok, rfl, rfl⟩, _⟩ := h
    rw [hd.len]
    rfl
  · obtain ⟨S, ds, d, hS, hd, ⟨fo, fok, rfl, rfl⟩, q⟩ := h
    obtain ⟨v1, _, rfl, h1, hd⟩ := hd.consE
    cases hd.nilE
    obtain ⟨fa, fdx, w1, w2, w3, w4, w5, w6, w7, w8, w9, rfl, fna, fA, j1, j2, j3, j4, j5, j6, j7, j8, j9⟩ := foE h1
    have j8' := j8
    have e8 : ouD3 fo.R.functions = .list (fo.fns.map fun c => .list (c.map fun h => .tuple (s1i h))) := by
      show ouD3 (fo.fns.map fun c => c.map s1i) = _
      unfold ouD3
      rw [List.map_map]
      congr 1
      exact List.map_congr_left fun c _ => ltD_map s1i c
    rw [e8] at j8'
    have j8'' := j8'
    obtain ⟨b, xs, rfl, _, hb, hD⟩ := j8'.lstE
    refine ⟨_, (pss_cons (ps_for PassesOwn.never rfl (piL (K := K) rfl (peFld (K := K) rfl (pv 0) rfl)) (pg_name (i := 1) sc_functions_reason.nd rfl (.inl rfl))
        (pss_one (ps_if (pt_not (pt_val (pe_callB (clAll (K := K) rfl rfl) (by rfl) T.z_all (by decide +kernel) (pa_cons (pe_lc (own := [("step", 2)]) rfl sc_functions_reason.nd (piL (K := K) rfl (pv 1)) (blkOk_by (by kernel_rfl)) (fun _ _ _ _ _ => (pg_name (i := 2) sc_functions_reason.nd rfl (.inl rfl))) (fun _ _ _ _ _ => pts_nil) (fun _ _ _ _ _ => (pe_h h_is_instruction (hr.mono (by decide)) (pa_cons (pv 2) pa_nil)))) pa_nil))))
        pss_never
        pss_nil)))
      (pss_one (ps_ret (pe_h h_many_reason (hr.mono (by decide)) (pa_cons (peFld (K := K) rfl (pv 0) rfl) (pa_cons pe_int (pa_cons pe_int pa_nil))))))), ?_⟩
    walk_at "fl.w"
    refine forK_l (xs := xs) (fun i σ' H' => (∃ u1 u2, σ' = [some (.ref fa), u1, u2]) ∧ Same H H') ⟨⟨_, _, rfl⟩, L2.Same.refl _⟩ (fun i σ' H' _ ⟨_, e⟩ => SqL.of (e _ _ hb)) ?_ ?_
    · intro i x σ' H' hx ⟨⟨u1, u2, e⟩, sm⟩
      subst e
      obtain ⟨c, hc, dx⟩ := (hD.same sm).getM hx
      obtain ⟨cz, ck⟩ := fok.fn.2 c (List.mem_of_getElem? hc)
      have dx0 := dx
      obtain ⟨t, ts, rfl, nt, ht, hT⟩ := dx.lstE
      walk_at "fl.w"
      refine lcL (S := S) (fun i => (c[i]?).map fun _ => .bool true) (hS.same sm) dx0 (by rw [List.length_map]; omega) ?_ ?_
      · intro D j y e G hD he smG al hye R N hR hN
        obtain ⟨p, hp, rfl⟩ := at_map he
        refine g_name ⟨rfl, ?_⟩
        walk_at "fl.w"
        exact spD_app (D :: S) [.tuple (s1i p)] (.bool true) al (.cons hye .nil) ⟨p, rfl, ck p (List.mem_of_getElem? hp), rfl⟩ (fun v H3 sm3 hv => hR _ _ _ (by rw [hp]; rfl) sm3 hv)
      intro D3 H3 sm3 hD3 hq3
      rw [fm_ltA (by rw [List.length_map])] at hq3
      refine allYes hq3 ?_
      walk_at "fl.w"
      exact ⟨⟨_, _, rfl⟩, sm.trans sm3⟩
    · intro σ' H' ⟨⟨u1, u2, e⟩, sm⟩
      subst e
      have fA2 := sm _ _ fA
      walk_at "fl.w"
      exact spD_app S [_, .int 0, .int 12] .none (hS.same sm) (.cons (j8''.same sm) (.cons (.int _) (.cons (.int _) .nil))) ⟨_, _, _, rfl, by omega, by rw [List.length_map]; have := fok.fn.1; omega, rfl⟩ (fun v H3 sm3 hv => by cases hv.nonE; exact q _ _ (sm.trans sm3) .non)
theorem ok_presets_reason (T : Txt K mg) (VL : FoR → LkR → Prop) : Has P w K mg base 2 "presets_reason" ps_presets_reason (spD (fFvG (cs mg) VL)) := by
  obtain ⟨_, _, _, _, _, _, _, _, _, _, _, _, _, _, cF⟩ := T.c_Font
  have clF := cF.cl
  have naF := cF.na
  have h_many_reason := ok_many_reason (P := P) (w := w) (base := base) T
  refine has_of T.d_presets_reason sc_presets_reason bd_presets_reason (fun vs H Q E h => ?_) (fun f cdv A outer s H vs Q E hr h => ?_)
  · obtain ⟨S, ds, d, _, hd, ⟨fo, fok, rfl, rfl⟩, _⟩ := h
    rw [hd.len]
    rfl
  · obtain ⟨S, ds, d, hS, hd, ⟨fo, fok, rfl, rfl⟩, q⟩ := h
    obtain ⟨v1, _, rfl, h1, hd⟩ := hd.consE
    cases hd.nilE
    obtain ⟨fa, fdx, w1, w2, w3, w4, w5, w6, w7, w8, w9, rfl, fna, fA, j1, j2, j3, j4, j5, j6, j7, j8, j9⟩ := foE h1
    have j9 : Dq S H w9 (.list (fo.pres.map PyData.int)) := j9
    have j9' := j9
    obtain ⟨b, xs, rfl, _, hb, hD⟩ := j9'.lstE
    refine ⟨_, (pss_cons (ps_if (pt_not (pt_val (pe_callB (clAll (K := K) rfl rfl) (by rfl) T.z_all (by decide +kernel) (pa_cons (pe_lc (own := [("preset", 1)]) rfl sc_presets_reason.nd (piL (K := K) rfl (peFld (K := K) rfl (pv 0) rfl)) (blkOk_by (by kernel_rfl)) (fun _ _ _ _ _ => (pg_name (i := 1) sc_presets_reason.nd rfl (.inl rfl))) (fun _ _ _ _ _ => pts_nil) (fun _ _ _ _ _ => (pe_chain op_le op_le (pe_un un_neg pe_int) (pv 1) pe_int))) pa_nil))))
        pss_never
        pss_nil)
      (pss_one (ps_ret (pe_h h_many_reason (hr.mono (by decide)) (pa_cons (peFld (K := K) rfl (pv 0) rfl) (pa_cons pe_int (pa_cons pe_int pa_nil))))))), ?_⟩
    walk_at "fl.w"
    refine lcL (S := S) (fun i => (fo.pres[i]?).map fun _ => .bool true) hS j9 (by rw [List.length_map]; have := fok.ps.1; omega) ?_ ?_
    · intro D j y e G hD he smG al hye R N hR hN
      obtain ⟨p, hp, rfl⟩ := at_map he
      cases hye.intE
      obtain ⟨p0, p1⟩ := fok.ps.2 p (List.mem_of_getElem? hp)
      refine g_name ⟨rfl, ?_⟩
      walk_at "fl.w"
      refine g_yesB p0 ?_
      walk_at "fl.w"
      rw [decide_eq_true p1]
      exact hR _ _ _ (by rw [hp]; rfl) (L2.Same.refl _) (.bl _)
    intro D3 H3 sm3 hD3 hq3
    rw [fm_ltA (by rw [List.length_map])] at hq3
    refine allYes hq3 ?_
    have fA2 := sm3 _ _ fA
    walk_at "fl.w"
    exact spD_app S [_, .int 0, .int 32] .none (hS.same sm3) (.cons (j9.same sm3) (.cons (.int _) (.cons (.int _) .nil))) ⟨_, _, _, rfl, by omega, by rw [List.length_map]; have := fok.ps.1; omega, rfl⟩ (fun v H4 sm4 hv => by cases hv.nonE; exact q _ _ (sm3.trans sm4) .non)
end

section
variable {P : Program} {w : World} {K : PySem.W.Frag} {mg : Str → Option Value} {base : Heap}
local macro_rules | `(tactic| walk_at "fl.t") => `(tactic| (with_reducible refine g_chainW ?_))
local macro_rules | `(tactic| walk_at "fl.t") => `(tactic| (with_reducible refine g_ifE ?_))
local macro_rules | `(tactic| walk_at "fl.w") => `(tactic| repeat walk_at "fl.t")
/-- a font without features, axes, regions -/
def FoG.Bare (f : FoG) : Prop := f.feats = [] ∧ f.axes = [] ∧ f.regs = []
def fFvB (c : Cs) (VL : FoR → LkR → Prop) (ds : List PyData) (d : PyData) : Prop := ∃ f : FoG, f.Ok VL ∧ FoG.Bare f ∧ ds = [foD c f.R] ∧ d = .none
def fLkr (c : Cs) (VL : FoR → LkR → Prop) (ds : List PyData) (d : PyData) : Prop := ∃ (f : FoR) (k : LkR), ds = [foD c f, lkD c k] ∧ VL f k ∧ d = .none
theorem ok_first_lookup_fault (T : Txt K mg) (VL : FoR → LkR → Prop) (h_lookup_reason : Has P w K mg base 4 "lookup_reason" ps_lookup_reason (spD (fLkr (cs mg) VL))) : Has P w K mg base 5 "first_lookup_fault" ps_first_lookup_fault (spD (fFvG (cs mg) VL)) := by
  obtain ⟨_, _, _, _, _, _, _, _, _, _, _, _, _, _, cF⟩ := T.c_Font
  have clF := cF.cl
  have naF := cF.na
  refine has_of T.d_first_lookup_fault sc_first_lookup_fault bd_first_lookup_fault (fun vs H Q E h => ?_) (fun f cdv A outer s H vs Q E hr h => ?_)
  · obtain ⟨S, ds, d, _, hd, ⟨fo, fok, rfl, rfl⟩, _⟩ := h
    rw [hd.len]
    rfl
  · obtain ⟨S, ds, d, hS, hd, ⟨fo, fok, rfl, rfl⟩, q⟩ := h
    obtain ⟨v1, _, rfl, h1, hd⟩ := hd.consE
    cases hd.nilE
    have h1' := h1
    obtain ⟨fa, fdx, w1, w2, w3, w4, w5, w6, w7, w8, w9, rfl, fna, fA, j1, j2, j3, j4, j5, j6, j7, j8, j9⟩ := foE h1'
    have j4 : Dq S H w4 (.list (fo.lks.map (lkD (cs mg)))) := j4
    obtain ⟨lb, ls, rfl, hlb, hll, hlD⟩ := lstN j4
    refine ⟨_, (pss_cons (ps_for PassesOwn.never rfl (piEnum (K := K) rfl (by rfl) T.z_enumerate (pa_cons (peFld (K := K) rfl (pv 0) rfl) pa_nil)) (pgT (n := 2) (K := K) rfl (by rfl) (pgs_cons (pg_name (i := 1) sc_first_lookup_fault.nd rfl (.inl rfl)) (pgs_cons (pg_name (i := 2) sc_first_lookup_fault.nd rfl (.inl rfl)) pgs_nil)))
        (pss_cons (ps_set (i := 3) sc_first_lookup_fault.nd rfl (.inl rfl) (pe_h h_lookup_reason (hr.mono (by decide)) (pa_cons (pv 0) (pa_cons (pv 2) pa_nil))))
      (pss_one (ps_if (pt_cmpR op_notN (pv 3) pe_non (nomark _))
        pss_never
        pss_nil))))
      (pss_one (ps_ret pe_non))), ?_⟩
    walk_at "fl.w"
    refine forK_e (xs := ls) (fun i σ' H' => (∃ u1 u2 u3, σ' = [some (.ref fa), u1, u2, u3]) ∧ Same H H') ⟨⟨_, _, _, rfl⟩, L2.Same.refl _⟩ ?_ ?_ ?_
    · intro i σ' H' _ ⟨_, e⟩
      exact SqL.of (e _ _ hlb)
    · intro i x t σ' H' hxi ⟨⟨u1, u2, u3, e1⟩, sm⟩ ht
      subst e1
      obtain ⟨k, hk1, hx⟩ := (hlD.same sm).getM hxi
      have sm2 : Same H (upd H' t (.tup [.int (i : Int), x])) := L2.Same.trans sm (Fl.Same.new ht)
      have h1s := h1.same sm2
      have hxs := hx.same (Fl.Same.new ht (o := .tup [.int (i : Int), x]))
      have hS2 := hS.same sm2
      refine g_gtup (SqT.of upd_same) rfl ?_
      walk_at "fl.w"
      refine spD_app S [foD (cs mg) fo.R, lkD (cs mg) k] .none hS2 (.cons h1s (.cons hxs .nil)) ⟨_, k, rfl, fok.lo k (List.mem_of_getElem? hk1), rfl⟩ (fun v H3 sm3 hv => ?_)
      cases hv.nonE
      walk_at "fl.w"
      exact ⟨⟨_, _, _, rfl⟩, sm2.trans sm3⟩
    · intro σ' H' ⟨⟨u1, u2, u3, e1⟩, sm⟩
      subst e1
      walk_at "fl.w"
      exact q _ _ sm .non
theorem ok_features_reason (T : Txt K mg) (VL : FoR → LkR → Prop) : Has P w K mg base 2 "features_reason" ps_features_reason (spD (fFvB (cs mg) VL)) := by
  obtain ⟨_, _, _, _, _, _, _, _, _, _, _, _, _, _, cF⟩ := T.c_Font
  have clF := cF.cl
  have naF := cF.na
  have h_many_reason := ok_many_reason (P := P) (w := w) (base := base) T
  have h_is_row_of_letters := no_has (P := P) (w := w) (base := base) T.d_is_row_of_letters sc_is_row_of_letters bd_is_row_of_letters
  have h_is_rising := no_has (P := P) (w := w) (base := base) T.d_is_rising sc_is_rising bd_is_rising
  refine has_of T.d_features_reason sc_features_reason bd_features_reason (fun vs H Q E h => ?_) (fun f cdv A outer s H vs Q E hr h => ?_)
  · obtain ⟨S, ds, d, _, hd, ⟨fo, fok, fb, rfl, rfl⟩, _⟩ := h
    rw [hd.len]
    rfl
  · obtain ⟨S, ds, d, hS, hd, ⟨fo, fok, ⟨fb1, fb2, fb3⟩, rfl, rfl⟩, q⟩ := h
    obtain ⟨v1, _, rfl, h1, hd⟩ := hd.consE
    cases hd.nilE
    obtain ⟨fa, fdx, w1, w2, w3, w4, w5, w6, w7, w8, w9, rfl, fna, fA, j1, j2, j3, j4, j5, j6, j7, j8, j9⟩ := foE h1
    have j5 : Dq S H w5 (.list []) := by
      have e : (FoG.R fo).features = [] := by show fo.feats.map _ = []; rw [fb1]; rfl
      rw [e] at j5
      exact j5
    have j6 : Dq S H w6 (.list []) := by
      have e : (FoG.R fo).axes = [] := by show fo.axes.map _ = []; rw [fb2]; rfl
      rw [e] at j6
      exact j6
    have j7 : Dq S H w7 (.list []) := by
      have e : (FoG.R fo).regions = [] := by show fo.regs.map _ = []; rw [fb3]; rfl
      rw [e] at j7
      exact j7
    have j5' := j5
    obtain ⟨b, xs, rfl, _, hb, hD⟩ := j5'.lstE
    cases hD.nilE
    refine ⟨_, (pss_cons (ps_setLc (i := 2) (own := [("name", 1), ("_", 4)]) rfl sc_features_reason.nd rfl rfl (sw_true rfl rfl rfl (by decide +kernel)) (piL (K := K) rfl (peFld (K := K) rfl (pv 0) rfl)) (blkOk_by (by kernel_rfl)) (fun _ _ _ _ _ => (pgT (n := 2) (K := K) rfl (by rfl) (pgs_cons (pg_name (i := 1) sc_features_reason.nd rfl (.inl rfl)) (pgs_cons (pg_name (i := 4) sc_features_reason.nd rfl (.inl rfl)) pgs_nil)))) (fun _ _ _ _ _ => pts_nil) (fun _ _ _ _ _ => (pv 1)))
      (pss_cons (ps_if (pt_cmpR op_lt (RZ.pe_lenSetI (by rfl) T.z_len (by rfl) T.z_set (pv 2)) (pe_callB (clLen (K := K) rfl) (by rfl) T.z_len (by decide +kernel) (pa_cons (pv 2) pa_nil)) (nomark _))
        pss_never
        pss_nil)
      (pss_cons (ps_for PassesOwn.never rfl (piL (K := K) rfl (peFld (K := K) rfl (pv 0) rfl)) (pgT (n := 2) (K := K) rfl (by rfl) (pgs_cons (pg_name (i := 1) sc_features_reason.nd rfl (.inl rfl)) (pgs_cons (pg_name (i := 3) sc_features_reason.nd rfl (.inl rfl)) pgs_nil)))
        pss_never)
      (pss_one (ps_ret (pe_h h_many_reason (hr.mono (by decide)) (pa_cons (peFld (K := K) rfl (pv 0) rfl) (pa_cons pe_int (pa_cons pe_int pa_nil))))))))), ?_⟩
    walk_at "fl.w"
    refine lcNil hS j5 (fun D H2 sm hq => ?_)
    have fA2 := sm _ _ fA
    have hb2 := sm _ _ hb
    have j52 := j5.same sm
    have hS2 := hS.same sm
    obtain ⟨b2, ys, e, _, hb3, hD2⟩ := hq.lstE
    cases e
    cases hD2.nilE
    walk_at "fl.w"
    unfold RZ.tLenSetI
    walk_at "fl.w"
    refine ⟨D, [], rfl, SqL.of hb3, .nil, by decide, ?_⟩
    walk_at "fl.w"
    refine g_noB (by decide) ?_
    walk_at "fl.w"
    refine forK_l (xs := []) (fun i σ' H' => σ' = (L2.start N_features_reason [.ref fa]).set 2 (some (.ref D)) ∧ H' = H2) ⟨rfl, rfl⟩ (fun i σ' H' _ e => by rw [e.2]; exact SqL.of hb2) (fun i x σ' H' hx => by simp at hx) (fun σ' H' e => ?_)
    obtain ⟨e, e2⟩ := e
    subst e e2
    walk_at "fl.w"
    exact spD_app S [.list [], .int 0, .int 12] .none hS2 (.cons j52 (.cons (.int _) (.cons (.int _) .nil))) ⟨_, _, _, rfl, by decide, by decide, rfl⟩ (fun v H3 sm3 hv => by cases hv.nonE; exact q _ _ (sm.trans sm3) .non)
theorem ok_axes_reason (T : Txt K mg) (VL : FoR → LkR → Prop) : Has P w K mg base 2 "axes_reason" ps_axes_reason (spD (fFvB (cs mg) VL)) := by
  obtain ⟨_, _, _, _, _, _, _, _, _, _, _, _, _, _, cF⟩ := T.c_Font
  have clF := cF.cl
  have naF := cF.na
  have h_many_reason := ok_many_reason (P := P) (w := w) (base := base) T
  refine has_of T.d_axes_reason sc_axes_reason bd_axes_reason (fun vs H Q E h => ?_) (fun f cdv A outer s H vs Q E hr h => ?_)
  · obtain ⟨S, ds, d, _, hd, ⟨fo, fok, fb, rfl, rfl⟩, _⟩ := h
    rw [hd.len]
    rfl
  · obtain ⟨S, ds, d, hS, hd, ⟨fo, fok, ⟨fb1, fb2, fb3⟩, rfl, rfl⟩, q⟩ := h
    obtain ⟨v1, _, rfl, h1, hd⟩ := hd.consE
    cases hd.nilE
    obtain ⟨fa, fdx, w1, w2, w3, w4, w5, w6, w7, w8, w9, rfl, fna, fA, j1, j2, j3, j4, j5, j6, j7, j8, j9⟩ := foE h1
    have j5 : Dq S H w5 (.list []) := by
      have e : (FoG.R fo).features = [] := by show fo.feats.map _ = []; rw [fb1]; rfl
      rw [e] at j5
      exact j5
    have j6 : Dq S H w6 (.list []) := by
      have e : (FoG.R fo).axes = [] := by show fo.axes.map _ = []; rw [fb2]; rfl
      rw [e] at j6
      exact j6
    have j7 : Dq S H w7 (.list []) := by
      have e : (FoG.R fo).regions = [] := by show fo.regs.map _ = []; rw [fb3]; rfl
      rw [e] at j7
      exact j7
    have jj := j6
    obtain ⟨b, xs, rfl, _, hb, hD⟩ := j6.lstE
    cases hD.nilE
    refine ⟨_, (pss_cons (ps_for PassesOwn.never rfl (piL (K := K) rfl (peFld (K := K) rfl (pv 0) rfl)) (pgT (n := 3) (K := K) rfl (by rfl) (pgs_cons (pg_name (i := 1) sc_axes_reason.nd rfl (.inl rfl)) (pgs_cons (pg_name (i := 2) sc_axes_reason.nd rfl (.inl rfl)) (pgs_cons (pg_name (i := 3) sc_axes_reason.nd rfl (.inl rfl)) pgs_nil))))
        pss_never)
      (pss_one (ps_ret (pe_h h_many_reason (hr.mono (by decide)) (pa_cons (peFld (K := K) rfl (pv 0) rfl) (pa_cons pe_int (pa_cons pe_int pa_nil))))))), ?_⟩
    walk_at "fl.w"
    refine forK_l (xs := []) (fun i σ' H' => σ' = L2.start N_axes_reason [.ref fa] ∧ H' = H) ⟨rfl, rfl⟩ (fun i σ' H' _ e => by rw [e.2]; exact SqL.of hb) (fun i x σ' H' hx => by simp at hx) (fun σ' H' e => ?_)
    obtain ⟨e, e2⟩ := e
    subst e e2
    walk_at "fl.w"
    exact spD_app S [.list [], .int 0, .int 3] .none hS (.cons jj (.cons (.int _) (.cons (.int _) .nil))) ⟨_, _, _, rfl, by decide, by decide, rfl⟩ (fun v H3 sm3 hv => by cases hv.nonE; exact q _ _ sm3 .non)
theorem ok_regions_reason (T : Txt K mg) (VL : FoR → LkR → Prop) : Has P w K mg base 2 "regions_reason" ps_regions_reason (spD (fFvB (cs mg) VL)) := by
  obtain ⟨_, _, _, _, _, _, _, _, _, _, _, _, _, _, cF⟩ := T.c_Font
  have clF := cF.cl
  have naF := cF.na
  have h_many_reason := ok_many_reason (P := P) (w := w) (base := base) T
  have h_is_tent := no_has (P := P) (w := w) (base := base) T.d_is_tent sc_is_tent bd_is_tent
  refine has_of T.d_regions_reason sc_regions_reason bd_regions_reason (fun vs H Q E h => ?_) (fun f cdv A outer s H vs Q E hr h => ?_)
  · obtain ⟨S, ds, d, _, hd, ⟨fo, fok, fb, rfl, rfl⟩, _⟩ := h
    rw [hd.len]
    rfl
  · obtain ⟨S, ds, d, hS, hd, ⟨fo, fok, ⟨fb1, fb2, fb3⟩, rfl, rfl⟩, q⟩ := h
    obtain ⟨v1, _, rfl, h1, hd⟩ := hd.consE
    cases hd.nilE
    obtain ⟨fa, fdx, w1, w2, w3, w4, w5, w6, w7, w8, w9, rfl, fna, fA, j1, j2, j3, j4, j5, j6, j7, j8, j9⟩ := foE h1
    have j5 : Dq S H w5 (.list []) := by
      have e : (FoG.R fo).features = [] := by show fo.feats.map _ = []; rw [fb1]; rfl
      rw [e] at j5
      exact j5
    have j6 : Dq S H w6 (.list []) := by
      have e : (FoG.R fo).axes = [] := by show fo.axes.map _ = []; rw [fb2]; rfl
      rw [e] at j6
      exact j6
    have j7 : Dq S H w7 (.list []) := by
      have e : (FoG.R fo).regions = [] := by show fo.regs.map _ = []; rw [fb3]; rfl
      rw [e] at j7
      exact j7
    have jj := j7
    obtain ⟨b, xs, rfl, _, hb, hD⟩ := j7.lstE
    cases hD.nilE
    refine ⟨_, (pss_cons (ps_for PassesOwn.never rfl (piL (K := K) rfl (peFld (K := K) rfl (pv 0) rfl)) (pg_name (i := 1) sc_regions_reason.nd rfl (.inl rfl))
        pss_never)
      (pss_one (ps_ret (pe_h h_many_reason (hr.mono (by decide)) (pa_cons (peFld (K := K) rfl (pv 0) rfl) (pa_cons pe_int (pa_cons pe_int pa_nil))))))), ?_⟩
    walk_at "fl.w"
    refine forK_l (xs := []) (fun i σ' H' => σ' = L2.start N_regions_reason [.ref fa] ∧ H' = H) ⟨rfl, rfl⟩ (fun i σ' H' _ e => by rw [e.2]; exact SqL.of hb) (fun i x σ' H' hx => by simp at hx) (fun σ' H' e => ?_)
    obtain ⟨e, e2⟩ := e
    subst e e2
    walk_at "fl.w"
    exact spD_app S [.list [], .int 0, .int 8] .none hS (.cons jj (.cons (.int _) (.cons (.int _) .nil))) ⟨_, _, _, rfl, by decide, by decide, rfl⟩ (fun v H3 sm3 hv => by cases hv.nonE; exact q _ _ sm3 .non)
end

section
variable {P : Program} {w : World} {K : PySem.W.Frag} {mg : Str → Option Value} {base : Heap}
theorem ok_first_fault (T : Txt K mg) (I : WoK K w mg) (VL : FoR → LkR → Prop) (h_lookup_reason : Has P w K mg base 4 "lookup_reason" ps_lookup_reason (spD (fLkr (cs mg) VL))) : Has P w K mg base 6 "first_fault" ps_first_fault (spD (fFvB (cs mg) VL)) := by
  obtain ⟨_, _, _, _, _, _, _, _, _, _, _, _, _, _, cF⟩ := T.c_Font
  have clF := cF.cl
  have naF := cF.na
  have h_unit_reason := ok_unit_reason (P := P) (w := w) (base := base) T VL
  have h_placed := ok_placed (P := P) (w := w) (base := base) T
  have h_many_reason := ok_many_reason (P := P) (w := w) (base := base) T
  have h_first_glyph_fault := ok_first_glyph_fault (P := P) (w := w) (base := base) T I VL
  have h_parts_reason := ok_parts_reason (P := P) (w := w) (base := base) T VL
  have h_chars_reason := ok_chars_reason (P := P) (w := w) (base := base) T VL
  have h_first_lookup_fault := ok_first_lookup_fault (P := P) (base := base) T VL h_lookup_reason
  have h_features_reason := ok_features_reason (P := P) (w := w) (base := base) T VL
  have h_axes_reason := ok_axes_reason (P := P) (w := w) (base := base) T VL
  have h_regions_reason := ok_regions_reason (P := P) (w := w) (base := base) T VL
  have h_functions_reason := ok_functions_reason (P := P) (w := w) (base := base) T I VL
  have h_presets_reason := ok_presets_reason (P := P) (w := w) (base := base) T VL
  refine has_of T.d_first_fault sc_first_fault bd_first_fault (fun vs H Q E h => ?_) (fun f cdv A outer s H vs Q E hr h => ?_)
  · obtain ⟨S, ds, d, _, hd, ⟨fo, fok, fb, rfl, rfl⟩, _⟩ := h
    rw [hd.len]
    rfl
  · obtain ⟨S, ds, d, hS_0, hd, ⟨fo, fok, fb, rfl, rfl⟩, q⟩ := h
    obtain ⟨v1, _, rfl, h1_0, hd⟩ := hd.consE
    cases hd.nilE
    obtain ⟨fa, fdx, w1, w2, w3, w4, w5, w6, w7, w8, w9, rfl, fna, fA_0, j1, j2, j3, j4, j5, j6, j7, j8, j9⟩ := foE h1_0
    refine ⟨_, (pss_one (ps_ret (peOrT (K := K) rfl (pe_h h_placed (hr.mono (by decide)) (pa_cons pe_str (pa_cons (pe_h h_unit_reason (hr.mono (by decide)) (pa_cons (pv 0) pa_nil)) pa_nil))) (peOrT (K := K) rfl (pe_h h_placed (hr.mono (by decide)) (pa_cons pe_str (pa_cons (pe_h h_many_reason (hr.mono (by decide)) (pa_cons (peFld (K := K) rfl (pv 0) rfl) (pa_cons pe_int (pa_cons pe_int pa_nil)))) pa_nil))) (peOrT (K := K) rfl (pe_h h_first_glyph_fault (hr.mono (by decide)) (pa_cons (pv 0) pa_nil)) (peOrT (K := K) rfl (pe_h h_placed (hr.mono (by decide)) (pa_cons pe_str (pa_cons (pe_h h_parts_reason (hr.mono (by decide)) (pa_cons (pv 0) pa_nil)) pa_nil))) (peOrT (K := K) rfl (pe_h h_placed (hr.mono (by decide)) (pa_cons pe_str (pa_cons (pe_h h_chars_reason (hr.mono (by decide)) (pa_cons (pv 0) pa_nil)) pa_nil))) (peOrT (K := K) rfl (pe_h h_placed (hr.mono (by decide)) (pa_cons pe_str (pa_cons (pe_h h_many_reason (hr.mono (by decide)) (pa_cons (peFld (K := K) rfl (pv 0) rfl) (pa_cons pe_int (pa_cons pe_int pa_nil)))) pa_nil))) (peOrT (K := K) rfl (pe_h h_first_lookup_fault (hr.mono (by decide)) (pa_cons (pv 0) pa_nil)) (peOrT (K := K) rfl (pe_h h_placed (hr.mono (by decide)) (pa_cons pe_str (pa_cons (pe_h h_features_reason (hr.mono (by decide)) (pa_cons (pv 0) pa_nil)) pa_nil))) (peOrT (K := K) rfl (pe_h h_placed (hr.mono (by decide)) (pa_cons pe_str (pa_cons (pe_h h_axes_reason (hr.mono (by decide)) (pa_cons (pv 0) pa_nil)) pa_nil))) (peOrT (K := K) rfl (pe_h h_placed (hr.mono (by decide)) (pa_cons pe_str (pa_cons (pe_h h_regions_reason (hr.mono (by decide)) (pa_cons (pv 0) pa_nil)) pa_nil))) (peOrT (K := K) rfl (pe_h h_placed (hr.mono (by decide)) (pa_cons pe_str (pa_cons (pe_h h_functions_reason (hr.mono (by decide)) (pa_cons (pv 0) pa_nil)) pa_nil))) (pe_one (pe_h h_placed (hr.mono (by decide)) (pa_cons pe_str (pa_cons (pe_h h_presets_reason (hr.mono (by decide)) (pa_cons (pv 0) pa_nil)) pa_nil))))))))))))))))), ?_⟩
    walk_at "fl.w"
    refine spD_app S [foD (cs mg) fo.R] .none hS_0 (.cons h1_0 .nil) ⟨fo, fok, rfl, rfl⟩ (fun v G1 sm1 hv => ?_)
    cases hv.nonE
    have smA_1 : Same H G1 := sm1
    have h1_1 := h1_0.same sm1
    have hS_1 := hS_0.same sm1
    have fA_1 := sm1 _ _ fA_0
    walk_at "fl.w"
    refine spD_app S [.str _, .none] .none hS_1 (.cons (.str _) (.cons .non .nil)) ⟨_, rfl, rfl⟩ (fun v G2 sm2 hv => ?_)
    cases hv.nonE
    have smA_2 : Same H G2 := smA_1.trans sm2
    have h1_2 := h1_1.same sm2
    have hS_2 := hS_1.same sm2
    have fA_2 := sm2 _ _ fA_1
    walk_at "fl.w"
    have j2_2 := j2.same smA_2
    refine spD_app S [.list ((fo.glyphs.map GlG.R).map (glD (cs mg))), .int 1, .int 60] .none hS_2 (.cons j2_2 (.cons (.int _) (.cons (.int _) .nil))) ⟨_, _, _, rfl, by rw [List.length_map, List.length_map]; have := fok.gl; omega, by rw [List.length_map, List.length_map]; have := fok.gl; omega, rfl⟩ (fun v G3 sm3 hv => ?_)
    cases hv.nonE
    have smA_3 : Same H G3 := smA_2.trans sm3
    have h1_3 := h1_2.same sm3
    have hS_3 := hS_2.same sm3
    have fA_3 := sm3 _ _ fA_2
    walk_at "fl.w"
    refine spD_app S [.str _, .none] .none hS_3 (.cons (.str _) (.cons .non .nil)) ⟨_, rfl, rfl⟩ (fun v G4 sm4 hv => ?_)
    cases hv.nonE
    have smA_4 : Same H G4 := smA_3.trans sm4
    have h1_4 := h1_3.same sm4
    have hS_4 := hS_3.same sm4
    have fA_4 := sm4 _ _ fA_3
    walk_at "fl.w"
    refine spD_app S [foD (cs mg) fo.R] .none hS_4 (.cons h1_4 .nil) ⟨fo, fok, rfl, rfl⟩ (fun v G5 sm5 hv => ?_)
    cases hv.nonE
    have smA_5 : Same H G5 := smA_4.trans sm5
    have h1_5 := h1_4.same sm5
    have hS_5 := hS_4.same sm5
    have fA_5 := sm5 _ _ fA_4
    walk_at "fl.w"
    refine spD_app S [foD (cs mg) fo.R] .none hS_5 (.cons h1_5 .nil) ⟨fo, fok, rfl, rfl⟩ (fun v G6 sm6 hv => ?_)
    cases hv.nonE
    have smA_6 : Same H G6 := smA_5.trans sm6
    have h1_6 := h1_5.same sm6
    have hS_6 := hS_5.same sm6
    have fA_6 := sm6 _ _ fA_5
    walk_at "fl.w"
    refine spD_app S [.str _, .none] .none hS_6 (.cons (.str _) (.cons .non .nil)) ⟨_, rfl, rfl⟩ (fun v G7 sm7 hv => ?_)
    cases hv.nonE
    have smA_7 : Same H G7 := smA_6.trans sm7
    have h1_7 := h1_6.same sm7
    have hS_7 := hS_6.same sm7
    have fA_7 := sm7 _ _ fA_6
    walk_at "fl.w"
    refine spD_app S [foD (cs mg) fo.R] .none hS_7 (.cons h1_7 .nil) ⟨fo, fok, rfl, rfl⟩ (fun v G8 sm8 hv => ?_)
    cases hv.nonE
    have smA_8 : Same H G8 := smA_7.trans sm8
    have h1_8 := h1_7.same sm8
    have hS_8 := hS_7.same sm8
    have fA_8 := sm8 _ _ fA_7
    walk_at "fl.w"
    refine spD_app S [.str _, .none] .none hS_8 (.cons (.str _) (.cons .non .nil)) ⟨_, rfl, rfl⟩ (fun v G9 sm9 hv => ?_)
    cases hv.nonE
    have smA_9 : Same H G9 := smA_8.trans sm9
    have h1_9 := h1_8.same sm9
    have hS_9 := hS_8.same sm9
    have fA_9 := sm9 _ _ fA_8
    walk_at "fl.w"
    have j4_9 := j4.same smA_9
    refine spD_app S [.list (fo.lks.map (lkD (cs mg))), .int 0, .int 20] .none hS_9 (.cons j4_9 (.cons (.int _) (.cons (.int _) .nil))) ⟨_, _, _, rfl, by omega, by rw [List.length_map]; have := fok.lz; omega, rfl⟩ (fun v G10 sm10 hv => ?_)
    cases hv.nonE
    have smA_10 : Same H G10 := smA_9.trans sm10
    have h1_10 := h1_9.same sm10
    have hS_10 := hS_9.same sm10
    have fA_10 := sm10 _ _ fA_9
    walk_at "fl.w"
    refine spD_app S [.str _, .none] .none hS_10 (.cons (.str _) (.cons .non .nil)) ⟨_, rfl, rfl⟩ (fun v G11 sm11 hv => ?_)
    cases hv.nonE
    have smA_11 : Same H G11 := smA_10.trans sm11
    have h1_11 := h1_10.same sm11
    have hS_11 := hS_10.same sm11
    have fA_11 := sm11 _ _ fA_10
    walk_at "fl.w"
    refine spD_app S [foD (cs mg) fo.R] .none hS_11 (.cons h1_11 .nil) ⟨fo, fok, rfl, rfl⟩ (fun v G12 sm12 hv => ?_)
    cases hv.nonE
    have smA_12 : Same H G12 := smA_11.trans sm12
    have h1_12 := h1_11.same sm12
    have hS_12 := hS_11.same sm12
    have fA_12 := sm12 _ _ fA_11
    walk_at "fl.w"
    refine spD_app S [foD (cs mg) fo.R] .none hS_12 (.cons h1_12 .nil) ⟨fo, fok, fb, rfl, rfl⟩ (fun v G13 sm13 hv => ?_)
    cases hv.nonE
    have smA_13 : Same H G13 := smA_12.trans sm13
    have h1_13 := h1_12.same sm13
    have hS_13 := hS_12.same sm13
    have fA_13 := sm13 _ _ fA_12
    walk_at "fl.w"
    refine spD_app S [.str _, .none] .none hS_13 (.cons (.str _) (.cons .non .nil)) ⟨_, rfl, rfl⟩ (fun v G14 sm14 hv => ?_)
    cases hv.nonE
    have smA_14 : Same H G14 := smA_13.trans sm14
    have h1_14 := h1_13.same sm14
    have hS_14 := hS_13.same sm14
    have fA_14 := sm14 _ _ fA_13
    walk_at "fl.w"
    refine spD_app S [foD (cs mg) fo.R] .none hS_14 (.cons h1_14 .nil) ⟨fo, fok, fb, rfl, rfl⟩ (fun v G15 sm15 hv => ?_)
    cases hv.nonE
    have smA_15 : Same H G15 := smA_14.trans sm15
    have h1_15 := h1_14.same sm15
    have hS_15 := hS_14.same sm15
    have fA_15 := sm15 _ _ fA_14
    walk_at "fl.w"
    refine spD_app S [.str _, .none] .none hS_15 (.cons (.str _) (.cons .non .nil)) ⟨_, rfl, rfl⟩ (fun v G16 sm16 hv => ?_)
    cases hv.nonE
    have smA_16 : Same H G16 := smA_15.trans sm16
    have h1_16 := h1_15.same sm16
    have hS_16 := hS_15.same sm16
    have fA_16 := sm16 _ _ fA_15
    walk_at "fl.w"
    refine spD_app S [foD (cs mg) fo.R] .none hS_16 (.cons h1_16 .nil) ⟨fo, fok, fb, rfl, rfl⟩ (fun v G17 sm17 hv => ?_)
    cases hv.nonE
    have smA_17 : Same H G17 := smA_16.trans sm17
    have h1_17 := h1_16.same sm17
    have hS_17 := hS_16.same sm17
    have fA_17 := sm17 _ _ fA_16
    walk_at "fl.w"
    refine spD_app S [.str _, .none] .none hS_17 (.cons (.str _) (.cons .non .nil)) ⟨_, rfl, rfl⟩ (fun v G18 sm18 hv => ?_)
    cases hv.nonE
    have smA_18 : Same H G18 := smA_17.trans sm18
    have h1_18 := h1_17.same sm18
    have hS_18 := hS_17.same sm18
    have fA_18 := sm18 _ _ fA_17
    walk_at "fl.w"
    refine spD_app S [foD (cs mg) fo.R] .none hS_18 (.cons h1_18 .nil) ⟨fo, fok, rfl, rfl⟩ (fun v G19 sm19 hv => ?_)
    cases hv.nonE
    have smA_19 : Same H G19 := smA_18.trans sm19
    have h1_19 := h1_18.same sm19
    have hS_19 := hS_18.same sm19
    have fA_19 := sm19 _ _ fA_18
    walk_at "fl.w"
    refine spD_app S [.str _, .none] .none hS_19 (.cons (.str _) (.cons .non .nil)) ⟨_, rfl, rfl⟩ (fun v G20 sm20 hv => ?_)
    cases hv.nonE
    have smA_20 : Same H G20 := smA_19.trans sm20
    have h1_20 := h1_19.same sm20
    have hS_20 := hS_19.same sm20
    have fA_20 := sm20 _ _ fA_19
    walk_at "fl.w"
    refine spD_app S [foD (cs mg) fo.R] .none hS_20 (.cons h1_20 .nil) ⟨fo, fok, rfl, rfl⟩ (fun v G21 sm21 hv => ?_)
    cases hv.nonE
    have smA_21 : Same H G21 := smA_20.trans sm21
    have h1_21 := h1_20.same sm21
    have hS_21 := hS_20.same sm21
    have fA_21 := sm21 _ _ fA_20
    walk_at "fl.w"
    refine spD_app S [.str _, .none] .none hS_21 (.cons (.str _) (.cons .non .nil)) ⟨_, rfl, rfl⟩ (fun v G22 sm22 hv => ?_)
    cases hv.nonE
    have smA_22 : Same H G22 := smA_21.trans sm22
    have h1_22 := h1_21.same sm22
    have hS_22 := hS_21.same sm22
    have fA_22 := sm22 _ _ fA_21
    walk_at "fl.w"
    exact q _ _ smA_22 .non
end

section
variable {P : Program} {w : World} {K : PySem.W.Frag} {mg : Str → Option Value} {base : Heap}
theorem g_gsubQ {ta tb : TE} {v : V} {σ : L2.St} {H : Hp} {Q : L2.St → Hp → Prop} (h : ta σ H fun o H2 => tb σ H2 fun i H3 => rSetL o i v H3 fun H4 => Q σ H4) : gSub ta tb rSetL v σ H Q := h
local macro_rules | `(tactic| walk_at "fl.t") => `(tactic| (with_reducible refine g_gsubQ ?_))
local macro_rules | `(tactic| walk_at "fl.w") => `(tactic| repeat walk_at "fl.t")
theorem ok_law_deck (T : Txt K mg) : Has P w K mg base 1 "_law_deck" ps_law_deck (spDk K) := by
  refine has_of T.d_law_deck sc_law_deck bd_law_deck (fun vs H Q E h => ?_) (fun f cdv A outer s H vs Q E hr h => ?_)
  · obtain ⟨a, ns, rfl, _⟩ := h
    rfl
  · obtain ⟨a, ns, rfl, hS, q⟩ := h
    refine ⟨_, (pss_one (ps_ret (pe_lst (pa_cons (pe_callTy (clList (K := K) rfl) (by rfl) T.z_list (by decide +kernel) (pa_cons (pv 0) pa_nil)) (pa_cons pe_int (pa_cons pe_int (pa_cons pe_int pa_nil))))))), ?_⟩
    walk_at "fl.go"
    rename_i l hl d hd
    have hd' : H d = none := Same.free (Fl.Same.new hl) hd
    have hne : l ≠ d := fun e => by
      rw [← e, upd_same] at hd
      cases hd
    exact q d l _ ((Fl.Same.new hl).trans (Fl.Same.new hd)) ⟨hne, raw_new hd upd_same, 0, 0, 7, upd_same, Int.le_refl 0⟩
theorem ok_law_draw (T : Txt K mg) : Has P w K mg base 1 "_law_draw" ps_law_draw spDr := by
  refine has_of T.d_law_draw sc_law_draw bd_law_draw (fun vs H Q E h => ?_) (fun f cdv A outer s H vs Q E hr h => ?_)
  · obtain ⟨d, s, ns, m, rfl, _⟩ := h
    rfl
  · obtain ⟨d, sa, ns, m, rfl, ⟨hne, hs, pos, rest, seed, hd, hpos⟩, hm, hm2, q⟩ := h
    refine ⟨_, (pss_cons (ps_if (pt_cmpR op_ge (pe_ix (ixL (K := K) rfl) (pv 0) pe_int (fun _ _ => rfl)) (pv 1) (nomark _))
        (pss_cons (ps_set (i := 2) sc_law_draw.nd rfl (.inl rfl) (pe_op op_mod (pe_callTy call_int' (by rfl) T.z_int (by decide +kernel) (pa_cons (pe_ix (ixL (K := K) rfl) (pv 0) pe_int (fun _ _ => rfl)) pa_nil)) (pv 1)))
      (pss_cons (ps_asg (pe_op op_fdivW (pe_ix (ixL (K := K) rfl) (pv 0) pe_int (fun _ _ => rfl)) (pv 1)) (pg_sub (pv 0) pe_int set_list))
      (pss_one (ps_ret (pv 2)))))
        pss_nil)
      (pss_cons (ps_set (i := 3) sc_law_draw.nd rfl (.inl rfl) pe_int)
      (pss_cons (ps_if (pt_cmpR op_lt (pe_ix (ixL (K := K) rfl) (pv 0) pe_int (fun _ _ => rfl)) (pe_callB (clLen (K := K) rfl) (by rfl) T.z_len (by decide +kernel) (pa_cons (pe_ix (ixL (K := K) rfl) (pv 0) pe_int (fun _ _ => rfl)) pa_nil)) (nomark _))
        (pss_one (ps_set (i := 3) sc_law_draw.nd rfl (.inl rfl) (pe_ix (ixL (K := K) rfl) (pe_ix (ixL (K := K) rfl) (pv 0) pe_int (fun _ _ => rfl)) (pe_ix (ixL (K := K) rfl) (pv 0) pe_int (fun _ _ => rfl)) (fun _ _ => rfl))))
        pss_nil)
      (pss_cons (ps_asg (pe_op op_add (pe_ix (ixL (K := K) rfl) (pv 0) pe_int (fun _ _ => rfl)) pe_int) (pg_sub (pv 0) pe_int set_list))
      (pss_cons (ps_asg pe_int (pg_sub (pv 0) pe_int set_list))
      (pss_cons (ps_if (pt_cmpR op_ge (pv 3) (pe_powc (r := 1000000000000000000) (by decide) (by decide +kernel)) (nomark _))
        (pss_cons (ps_asg (pe_op op_fdivW (pv 3) (pv 1)) (pg_sub (pv 0) pe_int set_list))
      (pss_one (ps_ret (pe_op op_mod (pe_callTy call_int' (by rfl) T.z_int (by decide +kernel) (pa_cons (pv 3) pa_nil)) (pv 1)))))
        pss_nil)
      (pss_cons (ps_asg (pe_op op_mod (pe_callTy call_int' (by rfl) T.z_int (by decide +kernel) (pa_cons (pe_op op_add (pe_op op_add (pe_op op_mul (pe_ix (ixL (K := K) rfl) (pv 0) pe_int (fun _ _ => rfl)) pe_int) (pe_op op_mul (pv 3) pe_int)) (pe_op op_mul (pe_ix (ixL (K := K) rfl) (pv 0) pe_int (fun _ _ => rfl)) pe_int)) pa_nil)) pe_int) (pg_sub (pv 0) pe_int set_list))
      (pss_cons (ps_asg (pe_op op_mod (pe_callTy call_int' (by rfl) T.z_int (by decide +kernel) (pa_cons (pe_op op_add (pe_op op_mul (pe_ix (ixL (K := K) rfl) (pv 0) pe_int (fun _ _ => rfl)) pe_int) pe_int) pa_nil)) pe_int) (pg_sub (pv 0) pe_int set_list))
      (pss_one (ps_ret (pe_op op_mod (pe_callTy call_int' (by rfl) T.z_int (by decide +kernel) (pa_cons (pe_op op_fdivW (pe_ix (ixL (K := K) rfl) (pv 0) pe_int (fun _ _ => rfl)) pe_int) pa_nil)) (pv 1)))))))))))), ?_⟩
    have hlen : (ns.map V.int).length = ns.length := List.length_map _
    have fin : ∀ (x p r z : Int) (H' : Hp), H' d = some (.lst [.ref sa, .int p, .int r, .int z]) → 0 ≤ p → On d H H' → Q (.int (x % m)) H' := fun x p r z H' e hp ho =>
      q _ _ (Int.emod_nonneg _ (by omega)) (Int.emod_lt_of_pos _ hm) ⟨hne, raw_on ho hne hs, p, r, z, e, hp⟩ ho
    rcases (by omega : pos < ns.length ∨ ¬ pos < ns.length) with hp | hp
    · obtain ⟨n, hn⟩ := at_int hpos hp
      walk_at "fl.wr"
      all_goals first
        | (exfalso; omega)
        | exact fin _ _ _ _ _ upd_same (by omega) (by intro b hb; simp only [upd_ne hb])
    · walk_at "fl.wr"
      all_goals first
        | (exfalso; omega)
        | exact fin _ _ _ _ _ upd_same (by omega) (by intro b hb; simp only [upd_ne hb])
theorem ok_law_point (T : Txt K mg) : Has P w K mg base 2 "_law_point" ps_law_point spPt := by
  have h_law_draw := ok_law_draw (P := P) (w := w) (base := base) T
  refine has_of T.d_law_point sc_law_point bd_law_point (fun vs H Q E h => ?_) (fun f cdv A outer s H vs Q E hr h => ?_)
  · obtain ⟨S, d, s, ns, far, rfl, _⟩ := h
    rfl
  · obtain ⟨S, d, sa, ns, far, rfl, hdS, hS, hk, hf1, hf2, q⟩ := h
    refine ⟨_, (pss_cons (ps_set (i := 2) sc_law_point.nd rfl (.inl rfl) (pe_ix (ixL (K := K) rfl) (pe_lst (pa_cons pe_int (pa_cons pe_int (pa_cons (pv 1) pa_nil)))) (pe_h h_law_draw (hr.mono (by decide)) (pa_cons (pv 0) (pa_cons pe_int pa_nil))) (fun _ _ => rfl)))
      (pss_cons (ps_set (i := 3) sc_law_point.nd rfl (.inl rfl) (pe_op op_sub (pe_h h_law_draw (hr.mono (by decide)) (pa_cons (pv 0) (pa_cons (pe_op op_add (pe_op op_mul pe_int (pv 2)) pe_int) pa_nil))) (pv 2)))
      (pss_one (ps_ret (pe_tup (pa_cons (pv 3) (pa_cons (pe_op op_sub (pe_h h_law_draw (hr.mono (by decide)) (pa_cons (pv 0) (pa_cons (pe_op op_add (pe_op op_mul pe_int (pv 2)) pe_int) pa_nil))) (pv 2)) (pa_cons (pe_cmpR op_eq (pe_h h_law_draw (hr.mono (by decide)) (pa_cons (pv 0) (pa_cons pe_int pa_nil))) pe_int (nomark _)) pa_nil)))))))), ?_⟩
    walk_at "fl.w"
    rename_i l hl v H1 hv0 hv1 hk1 ho1
    obtain ⟨sp, hsp, hs0, hs1⟩ := spread_at hv0 hv1 hf1
    walk_at "fl.w"
    rename_i x H2 hx0 hx1 hk2 ho2 y H3 hy0 hy1 hk3 ho3 z H4 hz0 hz1 hk4 ho4 t ht
    have al : Al S H4 := by walk_at "fl.al"
    exact q t _ (x - sp, y - sp, decide (z = 0)) (by walk_at "fl.frd") (by walk_at "fl.dk") (ptI (al.ni ht) upd_same) ⟨by show _ ≤ x - sp; omega, by show x - sp ≤ _; omega, by show _ ≤ y - sp; omega, by show y - sp ≤ _; omega⟩
theorem ok_law_outline (T : Txt K mg) : Has P w K mg base 3 "_law_outline" ps_law_outline spOu := by
  have h_law_draw := ok_law_draw (P := P) (w := w) (base := base) T
  have h_law_point := ok_law_point (P := P) (w := w) (base := base) T
  refine has_of T.d_law_outline sc_law_outline bd_law_outline (fun vs H Q E h => ?_) (fun f cdv A outer s H vs Q E hr h => ?_)
  · obtain ⟨d, s, ns, least, far, rfl, _⟩ := h
    rfl
  · obtain ⟨d, sa, ns, least, far, rfl, hk, hle, hf1, hf2, q⟩ := h
    refine ⟨_, (pss_cons (ps_set (i := 3) sc_law_outline.nd rfl (.inl rfl) (pe_lst pa_nil))
      (pss_cons (ps_for PassesOwn.never rfl (pi_range1 (by rfl) T.z_range (pa_cons (pe_h h_law_draw (hr.mono (by decide)) (pa_cons (pv 0) (pa_cons pe_int pa_nil))) pa_nil)) (pg_name (i := 4) sc_law_outline.nd rfl (.inl rfl))
        (pss_one (ps_expr (pe_bm PySem.F.plainAttrs_list PySem.F.slot_list_append PySem.F.type_list_append mt_append (pv 3) (pa_cons (pe_lc (own := [("j", 5)]) rfl sc_law_outline.nd (pi_range1 (by rfl) T.z_range (pa_cons (pe_op op_add (pv 1) (pe_h h_law_draw (hr.mono (by decide)) (pa_cons (pv 0) (pa_cons pe_int pa_nil)))) pa_nil)) (blkOk_by (by kernel_rfl)) (fun _ _ _ _ _ => (pg_name (i := 5) sc_law_outline.nd rfl (.inl rfl))) (fun _ _ _ _ _ => pts_nil) (fun _ _ _ _ _ => (pe_h h_law_point (hr.mono (by decide)) (pa_cons (pv 0) (pa_cons (pv 2) pa_nil))))) pa_nil)))))
      (pss_one (ps_ret (pv 3))))), ?_⟩
    walk_at "fl.w"
    rename_i L hL v H1 hv0 hv1 hk1 ho1
    have hLd : L ≠ d := hk.ned hL
    have hLs : L ≠ sa := hk.nes hL
    refine forK_r (fun i σ' H' => ∃ (acc : List V) (o : List (List Pt)) (u1 u2 : Option V), σ' = [some (.ref d), some (.int (least : Int)), some (.int far), some (.ref L), u1, u2] ∧ H' L = some (.lst acc) ∧
      DqA [L, d] H' acc (o.map ctD) ∧ o.length = i ∧ (∀ c, c ∈ o → least ≤ c.length ∧ c.length ≤ least + 5 ∧ ∀ p, p ∈ c → PtIn far p) ∧ Fl.Fr [L, d] H H' ∧ Dk d sa ns H') ?_ ?_ ?_
    · exact ⟨[], [], none, none, rfl, by rw [ho1 L hLd]; exact upd_same, .nil, rfl, fun _ m => (nomatch m), (Fl.Fr.new hL).trans (ho1.frS (by simp)), hk1⟩
    · intro i σ' H' hi ⟨acc, o, u1, u2, e, hacc, hA, hl, hc, hf, hk'⟩
      subst e
      have hol : acc.length = i := by rw [hA.len, List.length_map]; exact hl
      have hAl : Al [L, d] H' := .cons (by rw [hacc]; simp) (.cons hk'.hd .nil)
      walk_at "fl.w"
      rename_i n H2 hn0 hn1 hk2 ho2
      have hL2 : H2 L = some (.lst acc) := by rw [ho2 L hLd]; exact hacc
      refine lcDk (n := ((least : Int) + n).toNat) (S := [L, d]) (far := far) (hAl.ond ho2 hk2) (by simp) hk2 (by omega) ?_ ?_ (fun x σ' H' Q1 Q2 h q => h _ _ q)
      · intro B j H3 hA3 hk3 R hR
        refine g_name ⟨rfl, ?_⟩
        walk_at "fl.w"
        exact pt_app (B :: [L, d]) (by simp) hA3 hk3 hf1 hf2 hR
      · intro B H3 c hf3 hk3 hB hcl hcp
        have hL3 : H3 L = some (.lst acc) := hf3 L _ (by simpa using hLd) hL2
        walk_at "fl.w"
        refine ⟨acc ++ [.ref B], o ++ [c], _, _, rfl, upd_same, ?_, by rw [List.length_append, hl]; rfl, ?_, ?_, hk3.put hLd hLs⟩
        · rw [List.map_append]
          exact (((hA.fr (ho2.frS (by simp))).fr (hf3.mono fun b m => by simpa using Or.inr (show b = d by simpa using m))).app (.one hB)).fr (Fl.Fr.upd (by simp))
        · intro c' m
          rcases List.mem_append.mp m with m | m
          · exact hc c' m
          · rw [show c' = c by simpa using m]
            exact ⟨by omega, by omega, hcp⟩
        · exact ((hf.trans (ho2.frS (by simp))).trans (hf3.mono fun b m => by simpa using Or.inr (show b = d by simpa using m))).trans (Fl.Fr.upd (by simp))
    · intro σ' H' ⟨acc, o, u1, u2, e, hacc, hA, hl, hc, hf, hk'⟩
      subst e
      walk_at "fl.w"
      refine q L H' o (fun b u n z => hf b u (fun m => ?_) z) hk' (.lst (by simpa using hLd) hacc hA.tail) ⟨by omega, hc⟩
      rcases List.mem_cons.mp m with rfl | m
      · rw [hL] at z; cases z
      · exact n m
end

section
variable {P : Program} {w : World} {K : PySem.W.Frag} {mg : Str → Option Value} {base : Heap}
theorem g_chainW {σ : L2.St} {H : Hp} {Q : VK} {r r' : R2} {ta tb tc : TE} (h : ta σ H fun x H1 => tb σ H1 fun y H2 => r x y H2 fun z H3 => ∃ k, z = .bl k ∧ (if k = true then tc σ H3 fun w' H4 => r' y w' H4 Q else Q (.bl false) H3)) : tChain r r' ta tb tc σ H Q := h
theorem g_kin {d : Addr} {H : Hp} {Q : VK} {K : PySem.W.Frag} {z : Str} {r : Option Value} (h : PySem.W.nsIn K d z = some r) (q : Q (.bl r.isSome) H) : (fun x y H Q => ∃ (z : Str) (r : Option Value), x = .str z ∧ y = .ref d ∧ PySem.W.nsIn K d z = some r ∧ Q (.bl r.isSome) H : R2) (.str z) (.ref d) H Q := ⟨z, r, rfl, rfl, h, q⟩
theorem g_knin {d : Addr} {H : Hp} {Q : VK} {K : PySem.W.Frag} {z : Str} {r : Option Value} (h : PySem.W.nsIn K d z = some r) (q : Q (.bl (!r.isSome)) H) : (fun x y H Q => ∃ (z : Str) (r : Option Value), x = .str z ∧ y = .ref d ∧ PySem.W.nsIn K d z = some r ∧ Q (.bl (!r.isSome)) H : R2) (.str z) (.ref d) H Q := ⟨z, r, rfl, rfl, h, q⟩
theorem g_inT {K : PySem.W.Frag} {x : V} {p : Addr} {xs : List V} {H : Hp} {Q : VK} (h : SqT K H p xs) (f1 : flatV x = true) (f2 : xs.all flatV = true) (q : Q (.bl (inV x xs)) H) : rIn K false x (.ref p) H Q := ⟨p, xs, rfl, .inr h, f1, f2, q⟩
theorem g_inL {K : PySem.W.Frag} {x : V} {p : Addr} {xs : List V} {H : Hp} {Q : VK} (h : SqL K H p xs) (f1 : flatV x = true) (f2 : xs.all flatV = true) (q : Q (.bl (inV x xs)) H) : rIn K false x (.ref p) H Q := ⟨p, xs, rfl, .inl h, f1, f2, q⟩
theorem strs_flat : ∀ ws : List Str, (ws.map V.str).all flatV = true
  | [] => rfl
  | _ :: ws => by
    show (true && (ws.map V.str).all flatV) = true
    rw [strs_flat ws]
    rfl
theorem strs_in (x : Str) : ∀ ws : List Str, inV (.str x) (ws.map V.str) = decide (x ∈ ws)
  | [] => rfl
  | y :: ws => by
    have := strs_in x ws
    simp only [inV, List.map_cons, List.any_cons] at this ⊢
    rw [this]
    by_cases e : x = y
    · subst e; simp [eqV]
    · have : eqV (.str y) (.str x) = false := by simp [eqV]; exact fun h => e h.symm
      simp [this, e]
theorem g_kd {K : PySem.W.Frag} {w : World} {p : Addr} {z : Str} {v : V} {H : Hp} {Q : VK} (h : KDct K w p z v) (q : Q v H) : rIxD K w (.ref p) (.str z) H Q := ⟨p, z, v, rfl, rfl, h, q⟩
local macro_rules | `(tactic| walk_at "fl.t") => `(tactic| (with_reducible refine g_dgKT ?_))
local macro_rules | `(tactic| walk_at "fl.t") => `(tactic| (with_reducible refine g_eqS ?_))
local macro_rules | `(tactic| walk_at "fl.t") => `(tactic| (with_reducible refine g_chainW ?_))
local macro_rules | `(tactic| walk_at "fl.w") => `(tactic| repeat walk_at "fl.t")
theorem Fr.updT {S : List Addr} {p : Addr} {H H2 : Hp} {o : HO} (m : p ∈ S) (k : Fl.Fr S H H2) : Fl.Fr S H (upd H2 p o) := k.trans (Fr.upd m)
theorem raw_put {a D : Addr} {H : Hp} {o u : HO} (n : a ≠ D) (e : H a = some o) : upd H D u a = some o := by rw [upd_ne n]; exact e
theorem free2 {H : Hp} {a b : Addr} {o : HO} (h1 : H a = none) (h2 : upd H a o b = none) : H b = none := Same.free (Fl.Same.new h1) h2
theorem free3 {H : Hp} {a b : Addr} {o : HO} (h : upd H a o b = none) : H b = none := by
  by_cases e : b = a
  · rw [e, upd_same] at h; cases h
  · rw [upd_ne e] at h; exact h
theorem ne2 {H : Hp} {a b : Addr} {o : HO} (h2 : upd H a o b = none) : a ≠ b := fun e => by rw [e, upd_same] at h2; cases h2
local macro_rules | `(tactic| walk_at "fl.raw") => `(tactic| ((with_reducible apply raw_put); (focus assumption); walk_at "fl.raw"))
theorem ok_law_words (T : Txt K mg) : Has P w K mg base 1 "_law_words" [] (spD fWds) := by
  refine has_of T.d_law_words sc_law_words bd_law_words (fun vs H Q E h => ?_) (fun f cdv A outer s H vs Q E hr h => ?_)
  · obtain ⟨S, ds, d, _, hd, ⟨rfl, _⟩, _⟩ := h
    rw [hd.len]; rfl
  · obtain ⟨S, ds, d, hS, hd, ⟨rfl, rfl⟩, q⟩ := h
    cases hd
    refine ⟨_, (pss_cons (ps_set (i := 0) sc_law_words.nd rfl (.inl rfl) (pe_lst (pa_cons (pe_lst (pa_cons pe_str (pa_cons pe_str pa_nil))) (pa_cons (pe_lst (pa_cons pe_str (pa_cons pe_str (pa_cons pe_str pa_nil)))) (pa_cons (pe_lst (pa_cons pe_str pa_nil)) (pa_cons (pe_lst (pa_cons pe_str pa_nil)) (pa_cons (pe_lst (pa_cons pe_str (pa_cons pe_str (pa_cons pe_str (pa_cons pe_str (pa_cons pe_str (pa_cons pe_str pa_nil))))))) pa_nil)))))))
      (pss_cons (ps_expr (pe_bm PySem.F.plainAttrs_list PySem.F.slot_list_append PySem.F.type_list_append mt_append (pv 0) (pa_cons (pe_lst (pa_cons pe_str (pa_cons pe_str (pa_cons pe_str (pa_cons pe_str (pa_cons pe_str (pa_cons pe_str (pa_cons pe_str (pa_cons pe_str (pa_cons pe_str (pa_cons pe_str pa_nil))))))))))) pa_nil)))
      (pss_cons (ps_expr (pe_bm PySem.F.plainAttrs_list PySem.F.slot_list_append PySem.F.type_list_append mt_append (pv 0) (pa_cons (pe_lst (pa_cons pe_str (pa_cons pe_str (pa_cons pe_str (pa_cons pe_str (pa_cons pe_str (pa_cons pe_str (pa_cons pe_str (pa_cons pe_str (pa_cons pe_str (pa_cons pe_str (pa_cons pe_str pa_nil)))))))))))) pa_nil)))
      (pss_one (ps_ret (pe_op op_cat (pv 0) (pe_lst (pa_cons (pe_lst (pa_cons pe_str (pa_cons pe_str (pa_cons pe_str (pa_cons pe_str (pa_cons pe_str pa_nil)))))) pa_nil)))))))), ?_⟩
    walk_at "fl.w"
    rename_i p0 h0 p1 h1 p2 h2 p3 h3 p4 h4 R hR p6 h6 p7 h7 p8 h8 p9 h9 p10 h10
    have fp0 : H p0 = none := h0
    have fp1 : H p1 = none := (free3 h1)
    have fp2 : H p2 = none := (free3 (free3 h2))
    have fp3 : H p3 = none := (free3 (free3 (free3 h3)))
    have fp4 : H p4 = none := (free3 (free3 (free3 (free3 h4))))
    have fR : H R = none := (free3 (free3 (free3 (free3 (free3 hR)))))
    have fp6 : H p6 = none := (free3 (free3 (free3 (free3 (free3 (free3 h6))))))
    have fp7 : H p7 = none := (free3 (free3 (free3 (free3 (free3 (free3 (free3 (free3 h7))))))))
    have fp8 : H p8 = none := (free3 (free3 (free3 (free3 (free3 (free3 (free3 (free3 (free3 (free3 h8))))))))))
    have fp9 : H p9 = none := (free3 (free3 (free3 (free3 (free3 (free3 (free3 (free3 (free3 (free3 (free3 h9)))))))))))
    have fp10 : H p10 = none := (free3 (free3 (free3 (free3 (free3 (free3 (free3 (free3 (free3 (free3 (free3 (free3 h10))))))))))))
    have n4 : p4 ≠ R := ne_of_none upd_same hR
    have n3 : p3 ≠ R := ne_of_none (raw_new h4 upd_same) hR
    have n2 : p2 ≠ R := ne_of_none (raw_new h4 (raw_new h3 upd_same)) hR
    have n1 : p1 ≠ R := ne_of_none (raw_new h4 (raw_new h3 (raw_new h2 upd_same))) hR
    have n0 : p0 ≠ R := ne_of_none (raw_new h4 (raw_new h3 (raw_new h2 (raw_new h1 upd_same)))) hR
    have n6 : p6 ≠ R := (ne_of_none upd_same h6).symm
    have n7 : p7 ≠ R := (ne_of_none upd_same h7).symm
    have n8 : p8 ≠ R := (ne_of_none upd_same h8).symm
    refine q _ _ (sm_of fR ?_) (.lst (hS.ni fp10) upd_same ?_)
    · repeat (first | exact Fl.Fr.refl | ((with_reducible apply Fl.Fr.newT); assumption) | ((with_reducible apply Fr.updT); simp))
    · exact (show DqA S _ [.ref p0, .ref p1, .ref p2, .ref p3, .ref p4, .ref p6, .ref p7, .ref p8] (W8.map strD) from (.cons (.lst (hS.ni fp0) (by walk_at "fl.raw") (strs_dq (ws := ["push", "size"]))) (.cons (.lst (hS.ni fp1) (by walk_at "fl.raw") (strs_dq (ws := ["drop", "jumpzero", "repeat"]))) (.cons (.lst (hS.ni fp2) (by walk_at "fl.raw") (strs_dq (ws := ["copy"]))) (.cons (.lst (hS.ni fp3) (by walk_at "fl.raw") (strs_dq (ws := ["swap"]))) (.cons (.lst (hS.ni fp4) (by walk_at "fl.raw") (strs_dq (ws := ["look", "go", "mode", "between", "jump", "call"]))) (.cons (.lst (hS.ni fp6) (by walk_at "fl.raw") (strs_dq (ws := ["negate", "amount", "down", "up", "round", "not", "value", "load", "get", "origin"]))) (.cons (.lst (hS.ni fp7) (by walk_at "fl.raw") (strs_dq (ws := ["add", "subtract", "multiply", "divide", "lesser", "greater", "less", "atmost", "equal", "and", "or"]))) (.cons (.lst (hS.ni fp8) (by walk_at "fl.raw") (strs_dq (ws := ["setvalue", "save", "move", "set", "align"]))) .nil)))))))))
def opD : Option Pr → PyData
  | none => .none
  | some p => Fl.prD p
def fEff (ds : List PyData) (d : PyData) : Prop := ∃ x : Str, ds = [.str x] ∧ d = opD (eff x)
theorem find_zip (x : Str) {p : Pr} {w : List Str} : ∀ (ws : List (List Str)) (es : List Pr) (i : Nat), (∀ j v, j < i → ws[j]? = some v → x ∉ v) → ws[i]? = some w → es[i]? = some p → x ∈ w → ((ws.zip es).find? fun r => decide (x ∈ r.1)).map (·.2) = some p
  | [], _, _, _, h, _, _ => by cases h
  | _ :: _, [], _, _, _, h, _ => by cases h
  | v :: ws, q :: es, 0, _, h1, h2, m => by
    cases h1
    cases h2
    rw [List.zip_cons_cons, List.find?_cons, decide_eq_true m]
    rfl
  | v :: ws, q :: es, i + 1, h, h1, h2, m => by
    have hv : x ∉ v := h 0 v (Nat.succ_pos i) rfl
    rw [List.zip_cons_cons, List.find?_cons, decide_eq_false hv]
    exact find_zip x ws es i (fun j v hj hv => h (j + 1) v (Nat.succ_lt_succ hj) hv) h1 h2 m
theorem find_zip0 (x : Str) : ∀ (ws : List (List Str)) (es : List Pr), (∀ (j : Nat) v, ws[j]? = some v → x ∉ v) → ((ws.zip es).find? fun r => decide (x ∈ r.1)).map (·.2) = none
  | [], _, _ => rfl
  | _ :: _, [], _ => rfl
  | v :: ws, q :: es, h => by
    have hv : x ∉ v := h 0 v rfl
    rw [List.zip_cons_cons, List.find?_cons, decide_eq_false hv]
    exact find_zip0 x ws es fun j v hv => h (j + 1) v hv
theorem ok_law_effect (T : Txt K mg) : Has P w K mg base 2 "_law_effect" ps_law_effect (spD fEff) := by
  have h_law_words := ok_law_words (P := P) (w := w) (base := base) T
  refine has_of T.d_law_effect sc_law_effect bd_law_effect (fun vs H Q E h => ?_) (fun f cdv A outer s H vs Q E hr h => ?_)
  · obtain ⟨S, ds, d, _, hd, ⟨x, rfl, _⟩, _⟩ := h
    rw [hd.len]; rfl
  · obtain ⟨S, ds, d, hS, hd, ⟨wd, rfl, rfl⟩, q⟩ := h
    obtain ⟨v, _, rfl, hv, hd⟩ := hd.consE
    cases hd.nilE
    cases hv
    refine ⟨_, (pss_cons (ps_set (i := 1) sc_law_effect.nd rfl (.inl rfl) (pe_h0 h_law_words (hr.mono (by decide))))
      (pss_cons (ps_set (i := 2) sc_law_effect.nd rfl (.inl rfl) (pe_lst (pa_cons (pe_tup (pa_cons pe_int (pa_cons pe_int pa_nil))) (pa_cons (pe_tup (pa_cons pe_int (pa_cons pe_int pa_nil))) (pa_cons (pe_tup (pa_cons pe_int (pa_cons pe_int pa_nil))) (pa_cons (pe_tup (pa_cons pe_int (pa_cons pe_int pa_nil))) (pa_cons (pe_tup (pa_cons pe_int (pa_cons pe_int pa_nil))) (pa_cons (pe_tup (pa_cons pe_int (pa_cons pe_int pa_nil))) (pa_cons (pe_tup (pa_cons pe_int (pa_cons pe_int pa_nil))) (pa_cons (pe_tup (pa_cons pe_int (pa_cons pe_int pa_nil))) pa_nil))))))))))
      (pss_cons (ps_for PassesOwn.never rfl (pi_range1 (by rfl) T.z_range (pa_cons pe_int pa_nil)) (pg_name (i := 3) sc_law_effect.nd rfl (.inl rfl))
        (pss_one (ps_if (pt_cmpR (opIn (K := K) rfl) (pv 0) (pe_ix (ixL (K := K) rfl) (pv 1) (pv 3) (fun _ _ => rfl)) (by rfl))
        (pss_one (ps_ret (pe_ix (ixL (K := K) rfl) (pv 2) (pv 3) (fun _ _ => rfl))))
        pss_nil)))
      (pss_one (ps_ret pe_non))))), ?_⟩
    walk_at "fl.w"
    refine spD_app S [] w8D hS .nil ⟨rfl, rfl⟩ (fun vR H1 sm1 dR => ?_)
    obtain ⟨R, xs, rfl, nR, rR, hw8⟩ := w8E dR
    walk_at "fl.w"
    rename_i p0 h0 p1 h1 p2 h2 p3 h3 p4 h4 p5 h5 p6 h6 p7 h7 cl hcl
    obtain ⟨G, hG⟩ : ∃ G : Hp, G = upd (upd (upd (upd (upd (upd (upd (upd (upd H1 p0 (.tup [.int 0, .int 1])) p1 (.tup [.int 1, .int 0])) p2 (.tup [.int 1, .int 2])) p3 (.tup [.int 2, .int 2])) p4 (.tup [.int 0, .int 0])) p5 (.tup [.int 1, .int 1])) p6 (.tup [.int 2, .int 1])) p7 (.tup [.int 2, .int 0])) cl (.lst [.ref p0, .ref p1, .ref p2, .ref p3, .ref p4, .ref p5, .ref p6, .ref p7]) := ⟨_, rfl⟩
    rw [← hG]
    have f0 : H p0 = none := Same.free sm1 h0
    have f1 : H p1 = none := Same.free sm1 (free3 h1)
    have f2 : H p2 = none := Same.free sm1 (free3 (free3 h2))
    have f3 : H p3 = none := Same.free sm1 (free3 (free3 (free3 h3)))
    have f4 : H p4 = none := Same.free sm1 (free3 (free3 (free3 (free3 h4))))
    have f5 : H p5 = none := Same.free sm1 (free3 (free3 (free3 (free3 (free3 h5)))))
    have f6 : H p6 = none := Same.free sm1 (free3 (free3 (free3 (free3 (free3 (free3 h6))))))
    have f7 : H p7 = none := Same.free sm1 (free3 (free3 (free3 (free3 (free3 (free3 (free3 h7)))))))
    have fcl : H cl = none := Same.free sm1 (free3 (free3 (free3 (free3 (free3 (free3 (free3 (free3 hcl))))))))
    have smG : Same H G := by rw [hG]; exact ((((((((sm1.trans (Fl.Same.new h0)).trans (Fl.Same.new h1)).trans (Fl.Same.new h2)).trans (Fl.Same.new h3)).trans (Fl.Same.new h4)).trans (Fl.Same.new h5)).trans (Fl.Same.new h6)).trans (Fl.Same.new h7)).trans (Fl.Same.new hcl)
    have smG1 : Same H1 G := by rw [hG]; exact ((((((((Fl.Same.new h0).trans (Fl.Same.new h1)).trans (Fl.Same.new h2)).trans (Fl.Same.new h3)).trans (Fl.Same.new h4)).trans (Fl.Same.new h5)).trans (Fl.Same.new h6)).trans (Fl.Same.new h7)).trans (Fl.Same.new hcl)
    have r0 : G p0 = some (.tup [.int 0, .int 1]) := by rw [hG]; exact raw_new hcl (raw_new h7 (raw_new h6 (raw_new h5 (raw_new h4 (raw_new h3 (raw_new h2 (raw_new h1 upd_same)))))))
    have r1 : G p1 = some (.tup [.int 1, .int 0]) := by rw [hG]; exact raw_new hcl (raw_new h7 (raw_new h6 (raw_new h5 (raw_new h4 (raw_new h3 (raw_new h2 upd_same))))))
    have r2 : G p2 = some (.tup [.int 1, .int 2]) := by rw [hG]; exact raw_new hcl (raw_new h7 (raw_new h6 (raw_new h5 (raw_new h4 (raw_new h3 upd_same)))))
    have r3 : G p3 = some (.tup [.int 2, .int 2]) := by rw [hG]; exact raw_new hcl (raw_new h7 (raw_new h6 (raw_new h5 (raw_new h4 upd_same))))
    have r4 : G p4 = some (.tup [.int 0, .int 0]) := by rw [hG]; exact raw_new hcl (raw_new h7 (raw_new h6 (raw_new h5 upd_same)))
    have r5 : G p5 = some (.tup [.int 1, .int 1]) := by rw [hG]; exact raw_new hcl (raw_new h7 (raw_new h6 upd_same))
    have r6 : G p6 = some (.tup [.int 2, .int 1]) := by rw [hG]; exact raw_new hcl (raw_new h7 upd_same)
    have r7 : G p7 = some (.tup [.int 2, .int 0]) := by rw [hG]; exact raw_new hcl upd_same
    have rcl : G cl = some (.lst [.ref p0, .ref p1, .ref p2, .ref p3, .ref p4, .ref p5, .ref p6, .ref p7]) := by rw [hG]; exact upd_same
    have hcnt : ∀ (i : Nat) (p : Pr), effL[i]? = some p → ∃ t, atI [V.ref p0, V.ref p1, V.ref p2, V.ref p3, V.ref p4, V.ref p5, V.ref p6, V.ref p7] (i : Int) = some (V.ref t) ∧ Dq S G (.ref t) (Fl.prD p) := fun i p hp => by
      match i, hp with
      | 0, hp => cases hp; exact ⟨p0, rfl, .tup (hS.ni f0) r0 (.cons (.int _) (.cons (.int _) .nil))⟩
      | 1, hp => cases hp; exact ⟨p1, rfl, .tup (hS.ni f1) r1 (.cons (.int _) (.cons (.int _) .nil))⟩
      | 2, hp => cases hp; exact ⟨p2, rfl, .tup (hS.ni f2) r2 (.cons (.int _) (.cons (.int _) .nil))⟩
      | 3, hp => cases hp; exact ⟨p3, rfl, .tup (hS.ni f3) r3 (.cons (.int _) (.cons (.int _) .nil))⟩
      | 4, hp => cases hp; exact ⟨p4, rfl, .tup (hS.ni f4) r4 (.cons (.int _) (.cons (.int _) .nil))⟩
      | 5, hp => cases hp; exact ⟨p5, rfl, .tup (hS.ni f5) r5 (.cons (.int _) (.cons (.int _) .nil))⟩
      | 6, hp => cases hp; exact ⟨p6, rfl, .tup (hS.ni f6) r6 (.cons (.int _) (.cons (.int _) .nil))⟩
      | 7, hp => cases hp; exact ⟨p7, rfl, .tup (hS.ni f7) r7 (.cons (.int _) (.cons (.int _) .nil))⟩
      | n + 8, hp => cases hp
    clear hG hcl fcl h0 f0 h1 f1 h2 f2 h3 f3 h4 f4 h5 f5 h6 f6 h7 f7 r0 r1 r2 r3 r4 r5 r6 r7
    refine forK_r (fun i σ' H' => (∃ u, σ' = [some (.str wd), some (.ref R), some (.ref cl), u]) ∧ H' = G ∧ ∀ j ws, j < i → W8[j]? = some ws → wd ∉ ws) ⟨⟨_, rfl⟩, rfl, fun j ws hj => absurd hj (Nat.not_lt_zero _)⟩ ?_ ?_
    · intro i σ' H' hi ⟨⟨u, e⟩, e2, hno⟩
      subst e e2
      have hi8 : i < 8 := hi
      obtain ⟨ws, hws⟩ : ∃ ws, W8[i]? = some ws := ⟨_, List.getElem?_eq_getElem (show i < W8.length from hi8)⟩
      obtain ⟨p, hp⟩ : ∃ p, effL[i]? = some p := ⟨_, List.getElem?_eq_getElem (show i < effL.length from hi8)⟩
      obtain ⟨l, al, ml, rl⟩ := hw8 i ws hws
      obtain ⟨t, at', dt⟩ := hcnt i p hp
      have rl' := smG1 _ _ rl
      have rR' := smG1 _ _ rR
      rw [show (0 : Int) + (i : Int) = (i : Int) by omega]
      walk_at "fl.w"
      refine g_inL (SqL.of rl') rfl (strs_flat ws) ?_
      rw [strs_in]
      walk_at "fl.w"
      refine g_ite (fun hm => ?_) (fun hm => ?_)
      · walk_at "fl.w"
        refine q _ _ smG ?_
        rw [show eff wd = some p from find_zip wd W8 effL i hno hws hp hm]
        exact dt
      · walk_at "fl.w"
        refine ⟨⟨_, rfl⟩, rfl, fun j v hj hv => ?_⟩
        rcases (by omega : j < i ∨ j = i) with h | rfl
        · exact hno j v h hv
        · cases hv.symm.trans hws
          exact hm
    · intro σ' H' ⟨⟨u, e⟩, e2, hno⟩
      subst e e2
      walk_at "fl.w"
      refine q _ _ smG ?_
      rw [show eff wd = none from find_zip0 wd W8 effL fun j v hv => hno j v (show j < 8 from (List.getElem?_eq_some_iff.mp hv).1) hv]
      exact .non
end
section
variable {P : Program} {w : World} {K : PySem.W.Frag} {mg : Str → Option Value} {base : Heap}
abbrev In := Str × Int
def inD (r : In) : PyData := .tuple [.str r.1, .int r.2]
def codeD (c : List In) : PyData := .list (c.map inD)
/-- a number of 32 bits -/
def B32 (n : Int) : Prop := -2147483648 ≤ n ∧ n < 2147483648
theorem prE {S : List Addr} {H : Hp} {v : V} {c : Pr} (h : Dq S H v (Fl.prD c)) : ∃ a, v = .ref a ∧ a ∉ S ∧ H a = some (.tup [.int c.1, .int c.2]) := by
  obtain ⟨t, ts, rfl, nt, ht, hT⟩ := h.tupE
  obtain ⟨_, _, rfl, h1, hT⟩ := hT.consE
  obtain ⟨_, _, rfl, h2, hT⟩ := hT.consE
  cases hT.nilE
  cases h1.intE
  cases h2.intE
  exact ⟨t, rfl, nt, ht⟩
theorem inE {S : List Addr} {H : Hp} {v : V} {c : In} (h : Dq S H v (inD c)) : ∃ a, v = .ref a ∧ a ∉ S ∧ H a = some (.tup [.str c.1, .int c.2]) := by
  obtain ⟨t, ts, rfl, nt, ht, hT⟩ := h.tupE
  obtain ⟨_, _, rfl, h1, hT⟩ := hT.consE
  obtain ⟨_, _, rfl, h2, hT⟩ := hT.consE
  cases hT.nilE
  cases h1
  cases h2.intE
  exact ⟨t, rfl, nt, ht⟩
theorem mx_if (a b : Int) : max a b = if b > a then b else a := by
  rw [Int.max_def]
  split <;> split <;> omega
def jzL : List Str := ["jump", "jumpzero"]
def caL : List Str := ["call", "repeat"]
end

section
variable {P : Program} {w : World} {K : PySem.W.Frag} {mg : Str → Option Value} {base : Heap}
/-- a join: what holds behind a statement, whichever way it went -/
theorem g_J {t : TS} {D : Ends} {σ : L2.St} {H : Hp} (J : L2.St → Hp → Prop) (h : ∀ N : L2.St → Hp → Prop, (∀ σ H, J σ H → N σ H) → t { D with nx := N } σ H) (k : ∀ σ H, J σ H → D.nx σ H) : t D σ H := h D.nx k
local macro_rules | `(tactic| walk_at "fl.t") => `(tactic| (with_reducible refine g_chainW ?_))
local macro_rules | `(tactic| walk_at "fl.t") => `(tactic| (with_reducible refine g_ifE ?_))
local macro_rules | `(tactic| walk_at "fl.w") => `(tactic| repeat walk_at "fl.t")
local macro_rules | `(tactic| walk_at "fl.q") => `(tactic| repeat ((fail_if_success (with_reducible refine g_if ?_)); walk_at "fl.t"))
def allV : List Str := stL ["push", "size", "jump", "jumpzero", "drop", "copy", "swap", "add", "subtract", "multiply", "divide", "negate", "amount", "lesser", "greater", "down", "up", "round", "less", "atmost", "equal", "not", "and", "or", "look", "go", "mode", "value", "load", "setvalue", "save", "get", "origin", "move", "set", "align", "between", "call", "repeat"]
theorem vW : ∀ x, x ∈ allV → x ∈ allW := by decide +kernel
theorem vT : ∀ x, x ∈ allV → tabW.lookup x ≠ none := by decide +kernel
theorem w8_all : ∀ ws, ws ∈ W8 → ∀ x, x ∈ ws → x ∈ allV := by decide +kernel
theorem w8_len : ∀ ws, ws ∈ W8 → 0 < ws.length ∧ ws.length < 20 := by decide +kernel
theorem w8_five : ∀ i, 5 ≤ i → i < 8 → ∃ ws, W8[i]? = some ws ∧ 5 ≤ ws.length := fun i h1 h2 => by
  match i, h1, h2 with
  | 5, _, _ => exact ⟨_, rfl, by decide⟩
  | 6, _, _ => exact ⟨_, rfl, by decide⟩
  | 7, _, _ => exact ⟨_, rfl, by decide⟩
theorem jjL_flat : ([V.str "jump", V.str "jumpzero"] : List V).all flatV = true := rfl
/-- the ways a number to push is chosen -/
theorem nine_at {v : Int} (h0 : 0 ≤ v) (h1 : v < 9) : ∃ k : Int, atI [V.int 0, V.int 0, V.int 0, V.int 0, V.int 1, V.int 1, V.int 1, V.int 2, V.int 3] v = some (.int k) ∧ 0 ≤ k ∧ k < 4 := by
  have : v = 0 ∨ v = 1 ∨ v = 2 ∨ v = 3 ∨ v = 4 ∨ v = 5 ∨ v = 6 ∨ v = 7 ∨ v = 8 := by omega
  rcases this with rfl | rfl | rfl | rfl | rfl | rfl | rfl | rfl | rfl
  · exact ⟨0, rfl, by decide, by decide⟩
  · exact ⟨0, rfl, by decide, by decide⟩
  · exact ⟨0, rfl, by decide, by decide⟩
  · exact ⟨0, rfl, by decide, by decide⟩
  · exact ⟨1, rfl, by decide, by decide⟩
  · exact ⟨1, rfl, by decide, by decide⟩
  · exact ⟨1, rfl, by decide, by decide⟩
  · exact ⟨2, rfl, by decide, by decide⟩
  · exact ⟨3, rfl, by decide, by decide⟩
theorem four_at {k a b c e : Int} (h0 : 0 ≤ k) (h1 : k < 4) (ha : B32 a) (hb : B32 b) (hc : B32 c) (he : B32 e) : ∃ n : Int, atI [V.int a, V.int b, V.int c, V.int e] k = some (.int n) ∧ B32 n := by
  have : k = 0 ∨ k = 1 ∨ k = 2 ∨ k = 3 := by omega
  rcases this with rfl | rfl | rfl | rfl
  · exact ⟨a, rfl, ha⟩
  · exact ⟨b, rfl, hb⟩
  · exact ⟨c, rfl, hc⟩
  · exact ⟨e, rfl, he⟩
theorem three_at {k : Int} (h0 : 0 ≤ k) (h1 : k < 3) : ∃ n : Int, atI [V.int (-1), V.int 99, V.int 20] k = some (.int n) ∧ B32 n := by
  have : k = 0 ∨ k = 1 ∨ k = 2 := by omega
  rcases this with rfl | rfl | rfl
  · exact ⟨-1, rfl, by decide, by decide⟩
  · exact ⟨99, rfl, by decide, by decide⟩
  · exact ⟨20, rfl, by decide, by decide⟩
theorem atI_of {xs : List V} {k : Int} {v : V} (h0 : 0 ≤ k) (h : xs[k.toNat]? = some v) : atI xs k = some v := by
  have := atI_nat h
  rwa [show ((k.toNat : Nat) : Int) = k by omega] at this
def spIn : Sp := fun vs H Q _ => ∃ (S : List Addr) (d s : Addr) (ns : List Int) (h f l : Int), vs = [.ref d, .int h, .int f, .int l] ∧ d ∈ S ∧ Al S H ∧ Dk d s ns H ∧ 0 ≤ f ∧ f ≤ 100 ∧
  ∀ t H' (r : In), Fr [d] H H' → Dk d s ns H' → Dq S H' (.ref t) (inD r) → r.1 ∈ allV → B32 r.2 → Q (.ref t) H'
theorem ok_law_instruction (T : Txt K mg) : Has P w K mg base 2 "_law_instruction" ps_law_instruction spIn := by
  have h_law_words := ok_law_words (P := P) (w := w) (base := base) T
  have h_law_draw := ok_law_draw (P := P) (w := w) (base := base) T
  refine has_of T.d_law_instruction sc_law_instruction bd_law_instruction (fun vs H Q E h => ?_) (fun f cdv A outer s H vs Q E hr h => ?_)
  · obtain ⟨S, d, s, ns, h, f, l, rfl, _⟩ := h
    rfl
  obtain ⟨S, d, s, ns, hh, ff, ll, rfl, hdS, hS, hk, hf0, hf1, q⟩ := h
  refine ⟨_, (pss_cons (ps_set (i := 4) sc_law_instruction.nd rfl (.inl rfl) (pe_h0 h_law_words (hr.mono (by decide))))
      (pss_cons (ps_set (i := 5) sc_law_instruction.nd rfl (.inl rfl) (pe_h h_law_draw (hr.mono (by decide)) (pa_cons (pv 0) (pa_cons pe_int pa_nil))))
      (pss_cons (ps_if (PW.pt (pw_or (PW.pt (pw_and (pt_cmpR op_lt (pv 1) pe_int (nomark _)) (pw_and1 (pt_cmpR op_gt (pe_h h_law_draw (hr.mono (by decide)) (pa_cons (pv 0) (pa_cons pe_int pa_nil))) pe_int (nomark _))))) (pw_or1 (pt_cmpR op_gt (pv 5) pe_int (nomark _)))))
        (pss_one (ps_set (i := 5) sc_law_instruction.nd rfl (.inl rfl) pe_int))
        pss_nil)
      (pss_cons (ps_set (i := 6) sc_law_instruction.nd rfl (.inl rfl) pe_str)
      (pss_cons (ps_if (pt_cmpR op_lt (pv 5) pe_int (nomark _))
        (pss_one (ps_set (i := 6) sc_law_instruction.nd rfl (.inl rfl) (pe_ix (ixL (K := K) rfl) (pe_ix (ixL (K := K) rfl) (pv 4) (pv 5) (fun _ _ => rfl)) (pe_h h_law_draw (hr.mono (by decide)) (pa_cons (pv 0) (pa_cons (pe_callB (clLen (K := K) rfl) (by rfl) T.z_len (by decide +kernel) (pa_cons (pe_ix (ixL (K := K) rfl) (pv 4) (pv 5) (fun _ _ => rfl)) pa_nil)) pa_nil))) (fun _ _ => rfl))))
        (pss_one (ps_set (i := 6) sc_law_instruction.nd rfl (.inl rfl) (pe_ix (ixL (K := K) rfl) (pe_ix (ixL (K := K) rfl) (pv 4) (pe_op op_add pe_int (pe_op op_mod (pe_callTy call_int' (by rfl) T.z_int (by decide +kernel) (pa_cons (pv 5) pa_nil)) pe_int)) (fun _ _ => rfl)) (pe_h h_law_draw (hr.mono (by decide)) (pa_cons (pv 0) (pa_cons pe_int pa_nil))) (fun _ _ => rfl)))))
      (pss_cons (ps_set (i := 7) sc_law_instruction.nd rfl (.inl rfl) (pe_op op_sub (pe_h h_law_draw (hr.mono (by decide)) (pa_cons (pv 0) (pa_cons pe_int pa_nil))) pe_int))
      (pss_cons (ps_if (pt_cmpR op_eq (pv 6) pe_str (nomark _))
        (pss_one (ps_set (i := 7) sc_law_instruction.nd rfl (.inl rfl) (pe_ix (ixL (K := K) rfl) (pe_lst (pa_cons (pe_h h_law_draw (hr.mono (by decide)) (pa_cons (pv 0) (pa_cons pe_int pa_nil))) (pa_cons (pe_op op_sub (pe_h h_law_draw (hr.mono (by decide)) (pa_cons (pv 0) (pa_cons pe_int pa_nil))) pe_int) (pa_cons (pe_op op_sub (pe_op op_sub (pe_powc (r := 2147483648) (by decide) (by decide +kernel)) pe_int) (pe_h h_law_draw (hr.mono (by decide)) (pa_cons (pv 0) (pa_cons pe_int pa_nil)))) (pa_cons (pe_un un_neg (pe_powc (r := 2147483648) (by decide) (by decide +kernel))) pa_nil))))) (pe_ix (ixL (K := K) rfl) (pe_lst (pa_cons pe_int (pa_cons pe_int (pa_cons pe_int (pa_cons pe_int (pa_cons pe_int (pa_cons pe_int (pa_cons pe_int (pa_cons pe_int (pa_cons pe_int pa_nil)))))))))) (pe_h h_law_draw (hr.mono (by decide)) (pa_cons (pv 0) (pa_cons pe_int pa_nil))) (fun _ _ => rfl)) (fun _ _ => rfl))))
        pss_nil)
      (pss_cons (ps_if (pt_cmpR (opIn (K := K) rfl) (pv 6) (pe_lst (pa_cons pe_str (pa_cons pe_str pa_nil))) (by rfl))
        (pss_one (ps_set (i := 7) sc_law_instruction.nd rfl (.inl rfl) (pe_callB (call_min' rfl) (by rfl) T.z_min (by decide +kernel) (pa_cons (pe_h h_law_draw (hr.mono (by decide)) (pa_cons (pv 0) (pa_cons pe_int pa_nil))) (pa_cons (pe_callB (call_max' rfl) (by rfl) T.z_max (by decide +kernel) (pa_cons pe_int (pa_cons (pe_op op_sub (pv 3) pe_int) pa_nil))) pa_nil)))))
        pss_nil)
      (pss_cons (ps_if (pt_cmpR (opIn (K := K) rfl) (pv 6) (pe_lst (pa_cons pe_str (pa_cons pe_str pa_nil))) (by rfl))
        (pss_cons (ps_set (i := 7) sc_law_instruction.nd rfl (.inl rfl) (pe_h h_law_draw (hr.mono (by decide)) (pa_cons (pv 0) (pa_cons (pe_callB (call_max' rfl) (by rfl) T.z_max (by decide +kernel) (pa_cons pe_int (pa_cons (pv 2) pa_nil))) pa_nil))))
      (pss_one (ps_if (pt_cmpR op_eq (pv 2) pe_int (nomark _))
        (pss_one (ps_set (i := 6) sc_law_instruction.nd rfl (.inl rfl) pe_str))
        pss_nil)))
        pss_nil)
      (pss_cons (ps_if (pt_cmpR op_eq (pe_h h_law_draw (hr.mono (by decide)) (pa_cons (pv 0) (pa_cons pe_int pa_nil))) pe_int (nomark _))
        (pss_one (ps_set (i := 7) sc_law_instruction.nd rfl (.inl rfl) (pe_ix (ixL (K := K) rfl) (pe_lst (pa_cons (pe_un un_neg pe_int) (pa_cons pe_int (pa_cons pe_int pa_nil)))) (pe_h h_law_draw (hr.mono (by decide)) (pa_cons (pv 0) (pa_cons pe_int pa_nil))) (fun _ _ => rfl))))
        pss_nil)
      (pss_one (ps_ret (pe_tup (pa_cons (pv 6) (pa_cons (pv 7) pa_nil))))))))))))))), ?_⟩
  walk_at "fl.w"
  refine spD_app S [] w8D hS .nil ⟨rfl, rfl⟩ (fun vR H1 sm1 dR => ?_)
  obtain ⟨R, xs, rfl, nR, rR, hw8⟩ := w8E dR
  have hk1 := hk.same sm1
  walk_at "fl.q"
  rename_i kind H2 hk0 hk14 hk2 on2
  have St : ∀ (G : Hp), Fr [d] H1 G → Dk d s ns G → G R = some (.lst xs) ∧ (∀ (i : Nat) (ws : List Str), W8[i]? = some ws → ∃ l, atI xs (i : Int) = some (.ref l) ∧ G l = some (.lst (ws.map V.str))) := fun G f _ => by
    have ns : ∀ {x : Addr}, x ∉ S → x ∉ [d] := fun h m => h (by rw [List.mem_singleton.mp m]; exact hdS)
    refine ⟨f _ _ (ns nR) rR, fun i ws h => ?_⟩
    obtain ⟨l, al, nl, rl⟩ := hw8 i ws h
    exact ⟨l, al, f _ _ (ns nl) rl⟩
  refine g_J (fun σ' G => ∃ k u6 u7, σ' = [some (.ref d), some (.int hh), some (.int ff), some (.int ll), some (.ref R), some (.int k), u6, u7] ∧ 0 ≤ k ∧ k ≤ 10 ∧ Dk d s ns G ∧ Fr [d] H1 G) (fun N hN => ?_) (fun σ' G hJ => ?_)
  · have z : ∀ (k : Int) (G : Hp), 0 ≤ k → k ≤ 10 → Dk d s ns G → Fr [d] H1 G → N [some (.ref d), some (.int hh), some (.int ff), some (.int ll), some (.ref R), some (.int k), none, none] G := fun k G a b c e => hN _ _ ⟨k, _, _, rfl, a, b, c, e⟩
    walk_at "fl.w"
    refine g_ite (fun c1 => ?_) (fun c1 => ?_)
    · walk_at "fl.w"
      rename_i v3 H3 _ _ hk3 on3
      refine g_ite (fun c2 => ?_) (fun c2 => ?_)
      · walk_at "fl.w"
        exact z 0 _ (by decide) (by decide) hk3 (on2.trans on3).fr
      · walk_at "fl.w"
        refine g_ite (fun c3 => ?_) (fun c3 => ?_)
        · walk_at "fl.w"
          exact z 0 _ (by decide) (by decide) hk3 (on2.trans on3).fr
        · walk_at "fl.w"
          exact z kind _ hk0 (by omega) hk3 (on2.trans on3).fr
    · walk_at "fl.w"
      refine g_ite (fun c3 => ?_) (fun c3 => ?_)
      · walk_at "fl.w"
        exact z 0 _ (by decide) (by decide) hk2 on2.fr
      · walk_at "fl.w"
        exact z kind _ hk0 (by omega) hk2 on2.fr
  clear hk2 on2 hk0 hk14
  obtain ⟨k, u6, u7, rfl, k0, k10, hk2, fr2⟩ := hJ
  walk_at "fl.q"
  refine g_J (fun σ' G => ∃ wd u7, σ' = [some (.ref d), some (.int hh), some (.int ff), some (.int ll), some (.ref R), some (.int k), some (.str wd), u7] ∧ wd ∈ allV ∧ Dk d s ns G ∧ Fr [d] H1 G) (fun N hN => ?_) (fun σ' G hJ => ?_)
  · have z : ∀ (wd : Str) (G : Hp), wd ∈ allV → Dk d s ns G → Fr [d] H1 G → N [some (.ref d), some (.int hh), some (.int ff), some (.int ll), some (.ref R), some (.int k), some (.str wd), u7] G := fun wd G a c e => hN _ _ ⟨wd, _, rfl, a, c, e⟩
    obtain ⟨rR2, hw2⟩ := St _ fr2 hk2
    walk_at "fl.w"
    refine g_ite (fun c1 => ?_) (fun c1 => ?_)
    · obtain ⟨ws, hws⟩ : ∃ ws, W8[k.toNat]? = some ws := ⟨_, List.getElem?_eq_getElem (show k.toNat < W8.length from (by show k.toNat < 8; omega))⟩
      obtain ⟨l, al, rl⟩ := hw2 _ _ hws
      rw [show ((k.toNat : Nat) : Int) = k by omega] at al
      have mws := List.mem_of_getElem? hws
      obtain ⟨wl0, wl1⟩ := w8_len ws mws
      have lws : (ws.map V.str).length = ws.length := List.length_map _
      walk_at "fl.w"
      rename_i v3 H3 v30 v31 hk3 on3
      have rl3 := on3.fr.mono (fun x m => m) _ _ (by
        have := (hw8 _ _ hws)
        obtain ⟨l', al', nl', _⟩ := this
        rw [show ((k.toNat : Nat) : Int) = k by omega] at al'
        cases al.symm.trans al'
        exact fun m => nl' (by rw [List.mem_singleton.mp m]; exact hdS)) rl
      have hv : v3.toNat < ws.length := by omega
      have hat : atI (ws.map V.str) v3 = some (.str ws[v3.toNat]) := atI_of v30 (by rw [List.getElem?_map, List.getElem?_eq_getElem hv]; rfl)
      walk_at "fl.w"
      exact z _ _ (w8_all ws mws _ (List.getElem_mem hv)) hk3 (fr2.trans on3.fr)
    · have hm : 0 ≤ k % 3 ∧ k % 3 < 3 := ⟨Int.emod_nonneg _ (by decide), Int.emod_lt_of_pos _ (by decide)⟩
      obtain ⟨ws, hws, wl⟩ := w8_five (5 + k % 3).toNat (by omega) (by omega)
      obtain ⟨l, al, nl, rl0⟩ := hw8 _ _ hws
      have nld : l ∉ [d] := fun m => nl (by rw [List.mem_singleton.mp m]; exact hdS)
      have rl := fr2 _ _ nld rl0
      rw [show (((5 + k % 3).toNat : Nat) : Int) = 5 + k % 3 by omega] at al
      have mws := List.mem_of_getElem? hws
      walk_at "fl.w"
      rename_i v3 H3 v30 v31 hk3 on3
      have rl3 := on3.fr _ _ nld rl
      have hv : v3.toNat < ws.length := by omega
      have hat : atI (ws.map V.str) v3 = some (.str ws[v3.toNat]) := atI_of v30 (by rw [List.getElem?_map, List.getElem?_eq_getElem hv]; rfl)
      walk_at "fl.w"
      exact z _ _ (w8_all ws mws _ (List.getElem_mem hv)) hk3 (fr2.trans on3.fr)
  clear hk2 fr2
  obtain ⟨wd, u7, rfl, hwd, hk2, fr2⟩ := hJ
  walk_at "fl.q"
  rename_i n0 H4 n00 n06 hk4 on4
  have fr4 := fr2.trans on4.fr
  clear hk2 fr2 on4
  refine g_J (fun σ' G => ∃ n, σ' = [some (.ref d), some (.int hh), some (.int ff), some (.int ll), some (.ref R), some (.int k), some (.str wd), some (.int n)] ∧ B32 n ∧ Dk d s ns G ∧ Fr [d] H1 G) (fun N hN => ?_) (fun σ' G hJ => ?_)
  · have z : ∀ (n : Int) (G : Hp), B32 n → Dk d s ns G → Fr [d] H1 G → N [some (.ref d), some (.int hh), some (.int ff), some (.int ll), some (.ref R), some (.int k), some (.str wd), some (.int n)] G := fun n G a c e => hN _ _ ⟨n, rfl, a, c, e⟩
    walk_at "fl.w"
    refine g_ite (fun c1 => ?_) (fun c1 => ?_)
    · walk_at "fl.w"
      rename_i a1 H5 a10 a15 hk5 on5 a2 H6 a20 a29 hk6 on6 a3 H7 a30 a39 hk7 on7 L1 hL1 L2 hL2 a4 H8 a40 a49 hk8 on8
      obtain ⟨k4, e4, k40, k41⟩ := nine_at a40 a49
      have nL1d : L1 ≠ d := hk7.ned hL1
      have nL2d : L2 ≠ d := (hk7.same (Fl.Same.new hL1)).ned hL2
      refine g_ixL (SqL.of (on8.fr _ _ (by simpa using nL2d) upd_same)) e4 ?_
      obtain ⟨n, en, bn⟩ := four_at (a := a1) (b := a2 - 200) (c := 2147483648 - 1 - a3) (e := -2147483648) k40 k41 (by constructor <;> omega) (by constructor <;> omega) (by constructor <;> omega) (by constructor <;> omega)
      refine g_ixL (SqL.of (on8.fr _ _ (by simpa using nL1d) (raw_new hL2 upd_same))) en ?_
      walk_at "fl.w"
      exact z n _ bn hk8 (((((fr4.trans on5.fr).trans on6.fr).trans on7.fr).trans ((Fr.same (Fl.Same.new hL1)).trans (Fr.same (Fl.Same.new hL2)))).trans on8.fr)
    · walk_at "fl.w"
      exact z _ _ (by constructor <;> omega) hk4 fr4
  clear hk4 fr4
  obtain ⟨n, rfl, hn, hk5, fr5⟩ := hJ
  walk_at "fl.q"
  refine g_J (fun σ' G => ∃ n, σ' = [some (.ref d), some (.int hh), some (.int ff), some (.int ll), some (.ref R), some (.int k), some (.str wd), some (.int n)] ∧ B32 n ∧ Dk d s ns G ∧ Fr [d] H1 G) (fun N hN => ?_) (fun σ' G hJ => ?_)
  · have z : ∀ (n : Int) (G : Hp), B32 n → Dk d s ns G → Fr [d] H1 G → N [some (.ref d), some (.int hh), some (.int ff), some (.int ll), some (.ref R), some (.int k), some (.str wd), some (.int n)] G := fun n G a c e => hN _ _ ⟨n, rfl, a, c, e⟩
    walk_at "fl.w"
    rename_i L1 hL1
    refine g_inL (xs := jzL.map V.str) (SqL.of upd_same) rfl (strs_flat _) ?_
    rw [strs_in]
    have hk6 := hk5.newH (u := .lst [.str "jump", .str "jumpzero"]) hL1
    have fr6 := fr5.trans (Fr.same (Fl.Same.new (o := .lst [.str "jump", .str "jumpzero"]) hL1))
    walk_at "fl.w"
    refine g_ite (fun c1 => ?_) (fun c1 => ?_)
    · walk_at "fl.w"
      rename_i a1 H7 a10 a14 hk7 on7
      exact z _ _ (by constructor <;> (repeat (first | split | omega))) hk7 (fr6.trans on7.fr)
    · walk_at "fl.w"
      exact z n _ hn hk6 fr6
  clear hk5 fr5
  obtain ⟨n, rfl, hn, hk5, fr5⟩ := hJ
  walk_at "fl.q"
  refine g_J (fun σ' G => ∃ wd n, σ' = [some (.ref d), some (.int hh), some (.int ff), some (.int ll), some (.ref R), some (.int k), some (.str wd), some (.int n)] ∧ wd ∈ allV ∧ B32 n ∧ Dk d s ns G ∧ Fr [d] H1 G) (fun N hN => ?_) (fun σ' G hJ => ?_)
  · have z : ∀ (wd : Str) (n : Int) (G : Hp), wd ∈ allV → B32 n → Dk d s ns G → Fr [d] H1 G → N [some (.ref d), some (.int hh), some (.int ff), some (.int ll), some (.ref R), some (.int k), some (.str wd), some (.int n)] G := fun wd n G b a c e => hN _ _ ⟨wd, n, rfl, b, a, c, e⟩
    walk_at "fl.w"
    rename_i L1 hL1
    refine g_inL (xs := caL.map V.str) (SqL.of upd_same) rfl (strs_flat _) ?_
    rw [strs_in]
    have hk6 := hk5.newH (u := .lst [.str "call", .str "repeat"]) hL1
    have fr6 := fr5.trans (Fr.same (Fl.Same.new (o := .lst [.str "call", .str "repeat"]) hL1))
    walk_at "fl.w"
    refine g_ite (fun c1 => ?_) (fun c1 => ?_)
    · walk_at "fl.w"
      rename_i a1 H7 a10 a14 hk7 on7
      have bn : B32 a1 := by
        split at a14 <;> constructor <;> omega
      walk_at "fl.w"
      refine g_ite (fun c2 => ?_) (fun c2 => ?_)
      · walk_at "fl.w"
        exact z "push" a1 _ (by decide) bn hk7 (fr6.trans on7.fr)
      · walk_at "fl.w"
        exact z wd a1 _ hwd bn hk7 (fr6.trans on7.fr)
    · walk_at "fl.w"
      exact z wd n _ hwd hn hk6 fr6
  clear hk5 fr5 hwd hn
  obtain ⟨wd, n, rfl, hwd, hn, hk5, fr5⟩ := hJ
  walk_at "fl.q"
  refine g_J (fun σ' G => ∃ n, σ' = [some (.ref d), some (.int hh), some (.int ff), some (.int ll), some (.ref R), some (.int k), some (.str wd), some (.int n)] ∧ B32 n ∧ Dk d s ns G ∧ Fr [d] H1 G) (fun N hN => ?_) (fun σ' G hJ => ?_)
  · have z : ∀ (n : Int) (G : Hp), B32 n → Dk d s ns G → Fr [d] H1 G → N [some (.ref d), some (.int hh), some (.int ff), some (.int ll), some (.ref R), some (.int k), some (.str wd), some (.int n)] G := fun n G a c e => hN _ _ ⟨n, rfl, a, c, e⟩
    walk_at "fl.w"
    rename_i a1 H6 a10 a16 hk6 on6
    refine g_ite (fun c1 => ?_) (fun c1 => ?_)
    · walk_at "fl.w"
      rename_i L1 hL1 a2 H7 a20 a23 hk7 on7
      obtain ⟨m, em, bm⟩ := three_at a20 a23
      have nL1d : L1 ≠ d := hk6.ned hL1
      refine g_ixL (SqL.of (on7.fr _ _ (by simpa using nL1d) upd_same)) em ?_
      walk_at "fl.w"
      exact z m _ bm hk7 (((fr5.trans on6.fr).trans (Fr.same (Fl.Same.new hL1))).trans on7.fr)
    · walk_at "fl.w"
      exact z n _ hn hk6 (fr5.trans on6.fr)
  clear hk5 fr5 hn
  obtain ⟨n, rfl, hn, hk5, fr5⟩ := hJ
  walk_at "fl.w"
  rename_i t ht
  have al : Al S G := (hS.same sm1).fr fr5 (.cons hk5.hd .nil)
  exact q t _ (wd, n) (((Fr.same sm1).trans fr5).trans (Fr.same (Fl.Same.new ht))) (hk5.newH ht) (.tup (al.ni ht) upd_same (.cons (.str _) (.cons (.int _) .nil))) hwd hn
end

section
variable {P : Program} {w : World} {K : PySem.W.Frag} {mg : Str → Option Value} {base : Heap}
local macro_rules | `(tactic| walk_at "fl.t") => `(tactic| (with_reducible refine g_chainW ?_))
local macro_rules | `(tactic| walk_at "fl.t") => `(tactic| (with_reducible refine g_ifE ?_))
local macro_rules | `(tactic| walk_at "fl.w") => `(tactic| repeat walk_at "fl.t")
local macro_rules | `(tactic| walk_at "fl.q") => `(tactic| repeat ((fail_if_success (with_reducible refine g_if ?_)); walk_at "fl.t"))
theorem frFresh {T : List Addr} {H H' : Hp} {D : Addr} {o : HO} (f : Fl.Fr T H H') (h : H D = none) : Fl.Fr T H (upd H' D o) := fun x u n e => by
  by_cases q : x = D
  · rw [q, h] at e; cases e
  · rw [upd_ne q]; exact f x u n e
theorem al_of {S : List Addr} {d s : Addr} {ns : List Int} {H H' : Hp} (hS : Al S H) (f : Fl.Fr [d] H H') (k : Dk d s ns H') : Al S H' := hS.fr f (.cons k.hd .nil)
theorem dq_of {S : List Addr} {d : Addr} {H H' : Hp} {v : V} {x : PyData} (m : d ∈ S) (h : Dq S H v x) (f : Fl.Fr [d] H H') : Dq S H' v x := h.fr (f.mono fun a q => by rw [List.mem_singleton.mp q]; exact m)
theorem dqa_of {S : List Addr} {d : Addr} {H H' : Hp} {v : List V} {x : List PyData} (m : d ∈ S) (h : DqA S H v x) (f : Fl.Fr [d] H H') : DqA S H' v x := h.fr (f.mono fun a q => by rw [List.mem_singleton.mp q]; exact m)
/-- the code that stands at D while a deck is drawn from -/
structure CdAt (S : List Addr) (d s : Addr) (ns : List Int) (H0 : Hp) (D : Addr) (c : List In) (H : Hp) : Prop where
  ex : ∃ xs, H D = some (.lst xs) ∧ DqA (D :: S) H xs (c.map inD)
  f0 : H0 D = none
  k0 : Dk d s ns H0
  fr : Fl.Fr [d] H0 H
  dk : Dk d s ns H
  ok : ∀ r, r ∈ c → r.1 ∈ allV ∧ B32 r.2
theorem CdAt.al {S : List Addr} {d s : Addr} {ns : List Int} {H0 H : Hp} {D : Addr} {c : List In} (h : CdAt S d s ns H0 D c H) (hS : Al S H0) : Al (D :: S) H := by
  obtain ⟨xs, hx, _⟩ := h.ex
  exact .cons (by rw [hx]; simp) (al_of hS h.fr h.dk)
theorem CdAt.on {S : List Addr} {d s : Addr} {ns : List Int} {H0 H H' : Hp} {D : Addr} {c : List In} (h : CdAt S d s ns H0 D c H) (m : d ∈ S) (hS : Al S H0) (f : Fl.Fr [d] H H') (k : Dk d s ns H') : CdAt S d s ns H0 D c H' := by
  obtain ⟨xs, hx, hd⟩ := h.ex
  have hne : D ∉ [d] := fun q => hS D (by rw [List.mem_singleton.mp q]; exact m) h.f0
  exact ⟨⟨xs, f _ _ hne hx, dqa_of (List.mem_cons_of_mem _ m) hd f⟩, h.f0, h.k0, h.fr.trans f, k, h.ok⟩
theorem CdAt.put {S : List Addr} {d s : Addr} {ns : List Int} {H0 H : Hp} {D : Addr} {c : List In} {xs : List V} {v : V} {r : In} (h : CdAt S d s ns H0 D c H) (m : d ∈ S) (hS : Al S H0) (hx : H D = some (.lst xs)) (hv : Dq (D :: S) H v (inD r)) (hr : r.1 ∈ allV ∧ B32 r.2) : CdAt S d s ns H0 D (c ++ [r]) (upd H D (.lst (xs ++ [v]))) := by
  obtain ⟨ys, hy, hd⟩ := h.ex
  cases hx.symm.trans hy
  refine ⟨⟨xs ++ [v], upd_same, ?_⟩, h.f0, h.k0, frFresh h.fr h.f0, h.dk.put (h.k0.ned h.f0) (h.k0.nes h.f0), fun x q => ?_⟩
  · rw [List.map_append]
    exact (hd.app (.one hv)).fr (Fr.upd (by simp))
  · rcases List.mem_append.mp q with q | q
    · exact h.ok x q
    · rw [List.mem_singleton.mp q]; exact hr
end
section
variable {P : Program} {w : World} {K : PySem.W.Frag} {mg : Str → Option Value} {base : Heap}
local macro_rules | `(tactic| walk_at "fl.t") => `(tactic| (with_reducible refine g_chainW ?_))
local macro_rules | `(tactic| walk_at "fl.t") => `(tactic| (with_reducible refine g_ifE ?_))
local macro_rules | `(tactic| walk_at "fl.w") => `(tactic| repeat walk_at "fl.t")
local macro_rules | `(tactic| walk_at "fl.q") => `(tactic| repeat ((fail_if_success (with_reducible refine g_if ?_)); walk_at "fl.t"))
/-- a list of data at D while a deck is drawn from -/
structure LsAt (S : List Addr) (d s : Addr) (ns : List Int) (H0 : Hp) (D : Addr) (ds : List PyData) (H : Hp) : Prop where
  ex : ∃ xs, H D = some (.lst xs) ∧ DqA (D :: S) H xs ds
  f0 : H0 D = none
  k0 : Dk d s ns H0
  fr : Fl.Fr [d] H0 H
  dk : Dk d s ns H
section
variable {S : List Addr} {d s : Addr} {ns : List Int} {H0 H H' : Hp} {D : Addr} {ds : List PyData}
theorem LsAt.al (h : LsAt S d s ns H0 D ds H) (hS : Al S H0) : Al (D :: S) H := by
  obtain ⟨xs, hx, _⟩ := h.ex
  exact .cons (by rw [hx]; simp) (al_of hS h.fr h.dk)
theorem LsAt.on (h : LsAt S d s ns H0 D ds H) (m : d ∈ S) (hS : Al S H0) (f : Fl.Fr [d] H H') (k : Dk d s ns H') : LsAt S d s ns H0 D ds H' := by
  obtain ⟨xs, hx, hd⟩ := h.ex
  have hne : D ∉ [d] := fun q => hS D (by rw [List.mem_singleton.mp q]; exact m) h.f0
  exact ⟨⟨xs, f _ _ hne hx, dqa_of (List.mem_cons_of_mem _ m) hd f⟩, h.f0, h.k0, h.fr.trans f, k⟩
theorem LsAt.put {xs : List V} {v : V} {r : PyData} (h : LsAt S d s ns H0 D ds H) (hx : H D = some (.lst xs)) (hv : Dq (D :: S) H v r) : LsAt S d s ns H0 D (ds ++ [r]) (upd H D (.lst (xs ++ [v]))) := by
  obtain ⟨ys, hy, hd⟩ := h.ex
  cases hx.symm.trans hy
  exact ⟨⟨xs ++ [v], upd_same, (hd.app (.one hv)).fr (Fr.upd (by simp))⟩, h.f0, h.k0, frFresh h.fr h.f0, h.dk.put (h.k0.ned h.f0) (h.k0.nes h.f0)⟩
end
theorem ints_ex : ∀ (rs : List PyData), (∀ r, r ∈ rs → ∃ n : Int, r = .int n) → ∃ ns : List Int, rs = ns.map PyData.int
  | [], _ => ⟨[], rfl⟩
  | r :: rs, h => by
    obtain ⟨n, rfl⟩ := h r List.mem_cons_self
    obtain ⟨ns, rfl⟩ := ints_ex rs fun r m => h r (List.mem_cons_of_mem _ m)
    exact ⟨n :: ns, rfl⟩
end

section
variable {P : Program} {w : World} {K : PySem.W.Frag} {mg : Str → Option Value} {base : Heap}
local macro_rules | `(tactic| walk_at "fl.t") => `(tactic| (with_reducible refine g_chainW ?_))
local macro_rules | `(tactic| walk_at "fl.t") => `(tactic| (with_reducible refine g_ifE ?_))
local macro_rules | `(tactic| walk_at "fl.w") => `(tactic| repeat walk_at "fl.t")
local macro_rules | `(tactic| walk_at "fl.q") => `(tactic| repeat ((fail_if_success (with_reducible refine g_if ?_)); walk_at "fl.t"))
theorem eff_small : ∀ x, x ∈ allV → ∀ e, eff x = some e → 0 ≤ e.1 ∧ e.1 ≤ 2 ∧ 0 ≤ e.2 ∧ e.2 ≤ 2 := by
  have : allV.all (fun x => match eff x with | none => true | some e => decide (0 ≤ e.1 ∧ e.1 ≤ 2 ∧ 0 ≤ e.2 ∧ e.2 ≤ 2)) = true := by decide +kernel
  intro x m e he
  have h := List.all_eq_true.mp this x m
  rw [he] at h
  exact of_decide_eq_true h
section
variable {S : List Addr} {d s : Addr} {ns : List Int} {H0 H H' G : Hp} {D p : Addr} {c c2 : List In} {xs zs : List V}
theorem free_of (f : Fl.Fr [d] H0 G) (k : Dk d s ns G) (h : G p = none) : H0 p = none := by
  cases e : H0 p with
  | none => rfl
  | some o =>
    have hp : p ≠ d := fun q => by rw [q] at h; exact k.hd h
    rw [f p o (by simpa using hp) e] at h
    cases h
theorem CdAt.cat (h : CdAt S d s ns H0 D c G) (hS : Al S H0) (hx : G D = some (.lst xs)) (sm : Same G H') (hp : H' p = none) (hz : DqA S H' zs (c2.map inD)) (ok : ∀ r, r ∈ c2 → r.1 ∈ allV ∧ B32 r.2) : CdAt S d s ns H0 p (c ++ c2) (upd H' p (.lst (xs ++ zs))) := by
  obtain ⟨ys, hy, hd⟩ := h.ex
  cases hx.symm.trans hy
  have hk := h.dk.same sm
  have f0 : H0 p = none := free_of (h.fr.trans (Fr.same sm)) hk hp
  refine ⟨⟨xs ++ zs, upd_same, ?_⟩, f0, h.k0, frFresh (h.fr.trans (Fr.same sm)) f0, hk.newH hp, fun x m => ?_⟩
  · rw [List.map_append]
    exact ((((hd.same sm).mono fun x m => List.mem_cons_of_mem _ m).new hp).app (hz.new hp)).fr (Fr.upd (by simp))
  · rcases List.mem_append.mp m with m | m
    · exact h.ok x m
    · exact ok x m
end
theorem mem2 {x D : Addr} {S : List Addr} (m : x ∈ S) : x ∈ D :: S := List.mem_cons_of_mem _ m
theorem g_ifJ {c : TT} {ta tb : TS} {D : Ends} {σ : L2.St} {H : Hp} (J : Bool → Hp → Prop) (hc : ∀ R : Bool → Hp → Prop, (∀ b H1, J b H1 → R b H1) → c σ H R) (h : ∀ b H1, J b H1 → if b = true then ta D σ H1 else tb D σ H1) : tIfS c ta tb D σ H := hc _ h
def badL : List Str := ["jump", "jumpzero", "call", "repeat"]
def in2 (x : Str) (n : Int) : In := (x, n)
/-- a tame code: so that no height falls below 0 -/
def spTm (M : Nat) : Sp := fun vs H Q _ => ∃ (S : List Addr) (d s : Addr) (ns : List Int) (most : Nat) (f : Int) (L : Nat), vs = [.ref d, .int most, .int f, .int L] ∧ d ∈ S ∧ Al S H ∧ Dk d s ns H ∧ most ≤ 5 ∧ 0 ≤ f ∧ f ≤ 100 ∧ L < M ∧ L ≤ 1 ∧
  ∀ t H' (c : List In), Fl.Fr [d] H H' → Dk d s ns H' → Dq S H' (.ref t) (codeD c) → c.length ≤ (6 + 42 * L) * most + 22 → (∀ r, r ∈ c → r.1 ∈ allV ∧ B32 r.2) → Q (.ref t) H'
theorem tame_step (T : Txt K mg) {k M : Nat} (hk2 : 2 ≤ k) (h_law_tame : Has P w K mg base k "_law_tame" ps_law_tame (spTm M)) : Has P w K mg base (k + 1) "_law_tame" ps_law_tame (spTm (M + 1)) := by
  have h_law_instruction := ok_law_instruction (P := P) (w := w) (base := base) T
  have h_law_effect := ok_law_effect (P := P) (w := w) (base := base) T
  have h_law_draw := ok_law_draw (P := P) (w := w) (base := base) T
  refine has_of T.d_law_tame sc_law_tame bd_law_tame (fun vs H Q E h => ?_) (fun f cdv A outer s H vs Q E hr h => ?_)
  · obtain ⟨S, d, s, ns, most, f, L, rfl, _⟩ := h
    rfl
  obtain ⟨S, d, s, ns, most, ff, L, rfl, hdS, hS, hk, hm, hf0, hf1, hL0, hL1, q⟩ := h
  refine ⟨_, (pss_cons (ps_set (i := 4) sc_law_tame.nd rfl (.inl rfl) (pe_lst pa_nil))
      (pss_cons (ps_set (i := 5) sc_law_tame.nd rfl (.inl rfl) pe_int)
      (pss_cons (ps_for PassesOwn.never rfl (pi_range1 (by rfl) T.z_range (pa_cons (pe_h h_law_draw (hr.mono (by omega)) (pa_cons (pv 0) (pa_cons (pe_op op_add (pv 1) pe_int) pa_nil))) pa_nil)) (pg_name (i := 6) sc_law_tame.nd rfl (.inl rfl))
        (pss_cons (ps_set (i := 7) sc_law_tame.nd rfl (.inl rfl) (pe_h h_law_instruction (hr.mono (by omega)) (pa_cons (pv 0) (pa_cons (pv 5) (pa_cons (pv 2) (pa_cons pe_int pa_nil))))))
      (pss_cons (ps_set (i := 8) sc_law_tame.nd rfl (.inl rfl) (pe_h h_law_effect (hr.mono (by omega)) (pa_cons (pe_ix (ixT (K := K) rfl) (pv 7) pe_int (fun _ _ => rfl)) pa_nil)))
      (pss_cons (ps_if (PW.pt (pw_or (pt_cmpR (opIn (K := K) rfl) (pe_ix (ixT (K := K) rfl) (pv 7) pe_int (fun _ _ => rfl)) (pe_lst (pa_cons pe_str (pa_cons pe_str (pa_cons pe_str (pa_cons pe_str pa_nil))))) (by rfl)) (pw_or (pt_cmpR op_isN (pv 8) pe_non (nomark _)) (pw_or (pt_cmpR op_lt (pv 5) (pe_ix (ixT (K := K) rfl) (pv 8) pe_int (fun _ _ => rfl)) (nomark _)) (pw_or1 (pt_cmpR op_gt (pv 5) pe_int (nomark _)))))))
        (pss_cons (ps_set (i := 7) sc_law_tame.nd rfl (.inl rfl) (pe_tup (pa_cons pe_str (pa_cons (pe_h h_law_draw (hr.mono (by omega)) (pa_cons (pv 0) (pa_cons pe_int pa_nil))) pa_nil))))
      (pss_cons (ps_set (i := 8) sc_law_tame.nd rfl (.inl rfl) (pe_tup (pa_cons pe_int (pa_cons pe_int pa_nil))))
      (pss_one (ps_if (pt_cmpR op_gt (pv 5) pe_int (nomark _))
        (pss_cons (ps_set (i := 7) sc_law_tame.nd rfl (.inl rfl) (pe_tup (pa_cons pe_str (pa_cons pe_int pa_nil))))
      (pss_one (ps_set (i := 8) sc_law_tame.nd rfl (.inl rfl) (pe_tup (pa_cons pe_int (pa_cons pe_int pa_nil))))))
        pss_nil))))
        pss_nil)
      (pss_cons (ps_expr (pe_bm PySem.F.plainAttrs_list PySem.F.slot_list_append PySem.F.type_list_append mt_append (pv 4) (pa_cons (pv 7) pa_nil)))
      (pss_cons (ps_set (i := 5) sc_law_tame.nd rfl (.inl rfl) (pe_op op_add (pe_op op_sub (pv 5) (pe_ix (ixT (K := K) rfl) (pv 8) pe_int (fun _ _ => rfl))) (pe_ix (ixT (K := K) rfl) (pv 8) pe_int (fun _ _ => rfl))))
      (pss_cons (ps_if (PW.pt (pw_and (pt_cmpR op_gt (pv 2) pe_int (nomark _)) (pw_and1 (pt_cmpR op_eq (pe_h h_law_draw (hr.mono (by omega)) (pa_cons (pv 0) (pa_cons pe_int pa_nil))) pe_int (nomark _)))))
        (pss_one (ps_set (i := 4) sc_law_tame.nd rfl (.inl rfl) (pe_op op_cat (pv 4) (pe_lst (pa_cons (pe_tup (pa_cons pe_str (pa_cons (pe_op op_sub (pe_h h_law_draw (hr.mono (by omega)) (pa_cons (pv 0) (pa_cons pe_int pa_nil))) pe_int) pa_nil))) (pa_cons (pe_tup (pa_cons pe_str (pa_cons (pe_h h_law_draw (hr.mono (by omega)) (pa_cons (pv 0) (pa_cons (pv 2) pa_nil))) pa_nil))) pa_nil))))))
        pss_nil)
      (pss_cons (ps_if (PW.pt (pw_and (pt_cmpR op_gt (pv 2) pe_int (nomark _)) (pw_and1 (pt_cmpR op_eq (pe_h h_law_draw (hr.mono (by omega)) (pa_cons (pv 0) (pa_cons pe_int pa_nil))) pe_int (nomark _)))))
        (pss_one (ps_expr (pe_bm PySem.F.plainAttrs_list PySem.F.slot_list_append PySem.F.type_list_append mt_append (pv 4) (pa_cons (pe_tup (pa_cons pe_str (pa_cons (pe_h h_law_draw (hr.mono (by omega)) (pa_cons (pv 0) (pa_cons (pv 2) pa_nil))) pa_nil))) pa_nil))))
        pss_nil)
      (pss_cons (ps_if (PW.pt (pw_and (pt_cmpR op_gt (pv 3) pe_int (nomark _)) (pw_and1 (pt_cmpR op_eq (pe_h h_law_draw (hr.mono (by omega)) (pa_cons (pv 0) (pa_cons pe_int pa_nil))) pe_int (nomark _)))))
        (pss_cons (ps_set (i := 9) sc_law_tame.nd rfl (.inl rfl) (pe_h h_law_tame (hr.mono (by omega)) (pa_cons (pv 0) (pa_cons pe_int (pa_cons (pv 2) (pa_cons pe_int pa_nil))))))
      (pss_one (ps_set (i := 4) sc_law_tame.nd rfl (.inl rfl) (pe_op op_cat (pe_op op_cat (pv 4) (pe_lst (pa_cons (pe_tup (pa_cons pe_str (pa_cons (pe_op op_sub (pe_h h_law_draw (hr.mono (by omega)) (pa_cons (pv 0) (pa_cons pe_int pa_nil))) pe_int) pa_nil))) (pa_cons (pe_tup (pa_cons pe_str (pa_cons (pe_callB (clLen (K := K) rfl) (by rfl) T.z_len (by decide +kernel) (pa_cons (pv 9) pa_nil)) pa_nil))) pa_nil)))) (pv 9)))))
        pss_nil)
      (pss_one (ps_if (pt_cmpR op_eq (pe_h h_law_draw (hr.mono (by omega)) (pa_cons (pv 0) (pa_cons pe_int pa_nil))) pe_int (nomark _))
        (pss_one (ps_set (i := 4) sc_law_tame.nd rfl (.inl rfl) (pe_op op_cat (pv 4) (pe_lst (pa_cons (pe_tup (pa_cons pe_str (pa_cons pe_int pa_nil))) (pa_cons (pe_tup (pa_cons pe_str (pa_cons pe_int pa_nil))) pa_nil))))))
        pss_nil)))))))))))
      (pss_one (ps_ret (pe_op op_cat (pv 4) (pe_lc (own := [("k", 6)]) rfl sc_law_tame.nd (pi_range1 (by rfl) T.z_range (pa_cons (pv 5) pa_nil)) (blkOk_by (by kernel_rfl)) (fun _ _ _ _ _ => (pg_name (i := 6) sc_law_tame.nd rfl (.inl rfl))) (fun _ _ _ _ _ => pts_nil) (fun _ _ _ _ _ => (pe_tup (pa_cons pe_str (pa_cons pe_int pa_nil))))))))))), ?_⟩
  walk_at "fl.w"
  rename_i D hD cnt H2 c0 c1 hkk on2
  have hne : D ≠ d := hk.ned hD
  have C0 : CdAt S d s ns H D [] H2 := ⟨⟨[], on2.fr _ _ (by simpa using hne) upd_same, .nil⟩, hD, hk, (Fr.same (Fl.Same.new hD)).trans on2.fr, hkk, fun r m => nomatch m⟩
  clear hkk on2 hne
  obtain ⟨B, hB⟩ : ∃ B, B = 6 + 42 * L := ⟨_, rfl⟩
  refine forK_r (fun i σ' G => ∃ D h u6 u7 u8 u9 c, σ' = [some (.ref d), some (.int most), some (.int ff), some (.int L), some (.ref D), some (.int h), u6, u7, u8, u9] ∧ c.length ≤ B * i ∧ 0 ≤ h ∧ h ≤ 22 ∧ CdAt S d s ns H D c G) ⟨D, 0, _, _, _, _, [], rfl, by simp, by decide, by decide, C0⟩ ?_ ?_
  · clear C0 hD D
    intro i σ' G hi ⟨D, h, u6, u7, u8, u9, c, e, hl, h0, h22, C⟩
    subst e
    have hBi : B * i ≤ 48 * 5 := Nat.mul_le_mul (by omega) (by omega)
    have hD := C.f0
    have hnd : D ∉ [d] := by have := hk.ned hD; simpa using this
    obtain ⟨xs, hx, hX⟩ := C.ex
    have lx := hX.len
    rw [List.length_map] at lx
    rw [show (0 : Int) + (i : Int) = (i : Int) by omega]
    walk_at "fl.w"
    refine ⟨D :: S, d, s, ns, h, ff, 1, rfl, mem2 hdS, C.al hS, C.dk, hf0, hf1, fun t G2 r fg kg dr rw rb => ?_⟩
    have C2 := C.on hdS hS fg kg
    have hx2 : G2 D = some (.lst xs) := fg _ _ hnd hx
    have dr0 := dr
    obtain ⟨_, e, nt, rt⟩ := inE dr
    cases e
    walk_at "fl.w"
    refine spD_app (D :: S) [.str r.1] (opD (eff r.1)) (C2.al hS) (.cons (.str _) .nil) ⟨r.1, rfl, rfl⟩ (fun ve G3 sm3 de => ?_)
    have C3 := C2.on hdS hS (Fr.same sm3) (C2.dk.same sm3)
    have dr3 := dr0.same sm3
    have rt3 := sm3 _ _ rt
    clear C2 C fg kg dr0 dr hx hx2 hX
    walk_at "fl.q"
    refine g_J (fun σ' G => ∃ t r p e, σ' = [some (.ref d), some (.int most), some (.int ff), some (.int L), some (.ref D), some (.int h), some (.int (i : Int)), some (.ref t), some (.ref p), u9] ∧ Dq (D :: S) G (.ref t) (inD r) ∧ Dq (D :: S) G (.ref p) (Fl.prD e) ∧ r.1 ∈ allV ∧ B32 r.2 ∧ 0 ≤ h - e.1 + e.2 ∧ h - e.1 + e.2 ≤ 22 ∧ CdAt S d s ns H D c G) (fun N hN => ?_) (fun σ' G hJ => ?_)
    · have z : ∀ (G : Hp) (t : Addr) (r : In) (p : Addr) (e : Pr), CdAt S d s ns H D c G → Dq (D :: S) G (.ref t) (inD r) → Dq (D :: S) G (.ref p) (Fl.prD e) → r.1 ∈ allV → B32 r.2 → 0 ≤ h - e.1 + e.2 → h - e.1 + e.2 ≤ 22 → N [some (.ref d), some (.int most), some (.int ff), some (.int L), some (.ref D), some (.int h), some (.int (i : Int)), some (.ref t), some (.ref p), u9] G := fun G t r p e a b b2 c1 c2 c3 c4 => hN _ _ ⟨t, r, p, e, rfl, b, b2, c1, c2, c3, c4, a⟩
      refine g_ifJ (fun b G => Same G3 G ∧ (b = false → ∃ e p, ve = .ref p ∧ eff r.1 = some e ∧ Dq (D :: S) G (.ref p) (Fl.prD e) ∧ e.1 ≤ h ∧ h ≤ 20)) (fun R hR => ?_) (fun b G hb => ?_)
      · walk_at "fl.w"
        rename_i L1 hL1
        refine g_inL (xs := badL.map V.str) (SqL.of upd_same) rfl (strs_flat _) ?_
        rw [strs_in]
        have s1 : Same G3 _ := Fl.Same.new (o := .lst [.str "jump", .str "jumpzero", .str "call", .str "repeat"]) hL1
        walk_at "fl.w"
        refine g_ite (fun c1 => ?_) (fun c1 => ?_)
        · exact hR _ _ ⟨s1, fun z => nomatch z⟩
        walk_at "fl.w"
        cases he : eff r.1 with
        | none =>
          rw [he] at de
          cases de.nonE
          refine g_ite (fun _ => ?_) (fun z => absurd rfl z)
          exact hR _ _ ⟨s1, fun z => nomatch z⟩
        | some e =>
          rw [he] at de
          have de1 := Dq.same de s1
          obtain ⟨p, rfl, np, rp⟩ := prE de1
          refine g_ite (fun z => by cases z) (fun _ => ?_)
          walk_at "fl.w"
          refine g_ite (fun c2 => ?_) (fun c2 => ?_)
          · exact hR _ _ ⟨s1, fun z => nomatch z⟩
          walk_at "fl.w"
          exact hR _ _ ⟨s1, fun z => ⟨e, p, rfl, he, de1, by omega, by simpa using z⟩⟩
      · obtain ⟨sG, hb⟩ := hb
        cases b with
        | false =>
          obtain ⟨e, p, rfl, he, de1, e1, e2⟩ := hb rfl
          obtain ⟨b1, b2, b3, b4⟩ := eff_small _ rw e he
          walk_at "fl.w"
          exact z G t r p e (C3.on hdS hS (Fr.same sG) (C3.dk.same sG)) (dr3.same sG) de1 rw rb (by omega) (by omega)
        | true =>
          have CG := C3.on hdS hS (Fr.same sG) (C3.dk.same sG)
          have hkG := CG.dk
          walk_at "fl.q"
          rename_i v1 G4 v10 v15 hk4 on4 t1 ht1 p1 hp1
          have s1 := (Fl.Same.new (o := .tup [.str "push", .int v1]) ht1)
          have s2 := s1.trans (Fl.Same.new (o := .tup [.int 0, .int 1]) hp1)
          have C4 := CG.on hdS hS on4.fr hk4
          have al4 := C4.al hS
          have C5 := C4.on hdS hS (Fr.same s2) (hk4.same s2)
          have dt1 : Dq (D :: S) (upd (upd G4 t1 (.tup [.str "push", .int v1])) p1 (.tup [.int 0, .int 1])) (.ref t1) (inD (in2 "push" v1)) := .tup (al4.ni ht1) (raw_new hp1 upd_same) (.cons (.str _) (.cons (.int _) .nil))
          have dp1 : Dq (D :: S) (upd (upd G4 t1 (.tup [.str "push", .int v1])) p1 (.tup [.int 0, .int 1])) (.ref p1) (Fl.prD (0, 1)) := .tup ((al4.same s1).ni hp1) upd_same (.cons (.int _) (.cons (.int _) .nil))
          walk_at "fl.w"
          refine g_ite (fun c1 => ?_) (fun c1 => ?_)
          · walk_at "fl.w"
            rename_i t2 ht2 p2 hp2
            have s3 := (Fl.Same.new (o := .tup [.str "drop", .int 0]) ht2)
            have s4 := s3.trans (Fl.Same.new (o := .tup [.int 1, .int 0]) hp2)
            have al5 := C5.al hS
            refine z _ t2 (in2 "drop" 0) p2 (1, 0) (C5.on hdS hS (Fr.same s4) (C5.dk.same s4)) (.tup (al5.ni ht2) (raw_new hp2 upd_same) (.cons (.str _) (.cons (.int _) .nil))) (.tup ((al5.same s3).ni hp2) upd_same (.cons (.int _) (.cons (.int _) .nil))) ?_ ?_ ?_ ?_
            · show ("drop" : Str) ∈ allV; decide
            · show B32 0; exact ⟨by decide, by decide⟩
            · show 0 ≤ h - 1 + 0; omega
            · show h - 1 + 0 ≤ 22; omega
          · walk_at "fl.w"
            refine z _ t1 (in2 "push" v1) p1 (0, 1) C5 dt1 dp1 ?_ ?_ ?_ ?_
            · show ("push" : Str) ∈ allV; decide
            · show B32 v1; constructor <;> omega
            · show 0 ≤ h - 0 + 1; omega
            · show h - 0 + 1 ≤ 22; omega
    clear C3 dr3 rt3 de sm3 rw rb nt rt
    obtain ⟨t, r, p, e, rfl, dt, dp, rw, rb, e0, e22, C⟩ := hJ
    obtain ⟨xs, hx, hX⟩ := C.ex
    have lx := hX.len
    rw [List.length_map] at lx
    have C2 := C.put hdS hS hx dt ⟨rw, rb⟩
    obtain ⟨pp, e', np, rp⟩ := prE dp
    cases e'
    have rp2 : (upd G D (.lst (xs ++ [.ref t]))) p = some (.tup [.int e.1, .int e.2]) := by rw [upd_ne (fun q => np (by rw [q]; exact List.mem_cons_self))]; exact rp
    walk_at "fl.q"
    generalize upd G D (.lst (xs ++ [.ref t])) = G2 at C2 rp2
    have l2 : (c ++ [r]).length ≤ B * i + 1 := by rw [List.length_append]; simp; omega
    generalize c ++ [r] = c at C2 l2
    clear C hx hX dt dp rw rb rp rp2 np hl
    generalize h - e.1 + e.2 = h at e0 e22
    have hDd : D ≠ d := hk.ned hD
    obtain ⟨xs, hx, hX⟩ := C2.ex
    have lx := hX.len
    rw [List.length_map] at lx
    have hk2 := C2.dk
    refine g_J (fun σ' G => ∃ D h c u7 u8 u9, σ' = [some (.ref d), some (.int most), some (.int ff), some (.int L), some (.ref D), some (.int h), some (.int (i : Int)), u7, u8, u9] ∧ c.length ≤ B * i + 3 ∧ 0 ≤ h ∧ h ≤ 22 ∧ CdAt S d s ns H D c G) (fun N hN => ?_) (fun σ' G hJ => ?_)
    · have z : ∀ (D : Addr) (c : List In) (G : Hp), CdAt S d s ns H D c G → c.length ≤ B * i + 3 → N [some (.ref d), some (.int most), some (.int ff), some (.int L), some (.ref D), some (.int h), some (.int (i : Int)), some (.ref t), some (.ref p), u9] G := fun D c G a b => hN _ _ ⟨D, h, c, _, _, _, rfl, b, e0, e22, a⟩
      walk_at "fl.w"
      refine g_ite (fun q0 => ?_) (fun q0 => ?_)
      · walk_at "fl.w"
        rename_i v1 G3 v10 v11 hk3 on3
        have C3 := C2.on hdS hS on3.fr hk3
        refine g_ite (fun q1 => ?_) (fun q1 => ?_)
        · walk_at "fl.w"
          rename_i v2 G4 v20 v25 hk4 on4 t1 ht1 v3 G5 v30 v36 hk5 on5 t2 ht2 l1 hl1 p1 hp1
          have s1 := Fl.Same.new (o := .tup [.str "push", .int (v2 - 1)]) ht1
          have al4 := al_of (al_of hS C3.fr hk3) on4.fr hk4
          have al5 := al_of (al4.same s1) on5.fr hk5
          have d1 : Dq S G5 (.ref t1) (inD (in2 "push" (v2 - 1))) := dq_of hdS (.tup (al4.ni ht1) upd_same (.cons (.str _) (.cons (.int _) .nil))) on5.fr
          have C5 := (C3.on hdS hS ((on4.fr.trans (Fr.same s1)).trans on5.fr) hk5)
          have s2 := Fl.Same.new (o := .tup [.str "repeat", .int v3]) ht2
          have s3 := s2.trans (Fl.Same.new (o := .lst [.ref t1, .ref t2]) hl1)
          have d2 : Dq S (upd (upd G5 t2 (.tup [.str "repeat", .int v3])) l1 (.lst [.ref t1, .ref t2])) (.ref t2) (inD (in2 "repeat" v3)) := .tup (al5.ni ht2) (raw_new hl1 upd_same) (.cons (.str _) (.cons (.int _) .nil))
          refine z p1 (c ++ [in2 "push" (v2 - 1), in2 "repeat" v3]) _ (C5.cat hS (raw_on on5 hDd (raw_new ht1 (raw_on on4 hDd (raw_on on3 hDd hx)))) s3 hp1 (.cons (d1.same s3) (.cons d2 .nil)) (fun x m => ?_)) (by rw [List.length_append]; simp; omega)
          rcases List.mem_cons.mp m with rfl | m
          · exact ⟨by show ("push" : Str) ∈ allV; decide, by show B32 (v2 - 1); constructor <;> omega⟩
          · rw [List.mem_singleton.mp m]
            exact ⟨by show ("repeat" : Str) ∈ allV; decide, by show B32 v3; constructor <;> omega⟩
        · walk_at "fl.w"
          exact z D c _ C3 (by omega)
      · walk_at "fl.w"
        exact z D c _ C2 (by omega)
    clear C2 hx hX lx hk2 hDd l2 e0 e22
    obtain ⟨D, h, c, u7, u8, u9, rfl, l2, e0, e22, C2⟩ := hJ
    have hD := C2.f0
    have hDd : D ≠ d := hk.ned hD
    obtain ⟨xs, hx, hX⟩ := C2.ex
    have lx := hX.len
    rw [List.length_map] at lx
    have hk2 := C2.dk
    walk_at "fl.q"
    refine g_J (fun σ' G => ∃ D h c u7 u8 u9, σ' = [some (.ref d), some (.int most), some (.int ff), some (.int L), some (.ref D), some (.int h), some (.int (i : Int)), u7, u8, u9] ∧ c.length ≤ B * i + 4 ∧ 0 ≤ h ∧ h ≤ 22 ∧ CdAt S d s ns H D c G) (fun N hN => ?_) (fun σ' G hJ => ?_)
    · have z : ∀ (D : Addr) (c : List In) (G : Hp), CdAt S d s ns H D c G → c.length ≤ B * i + 4 → N [some (.ref d), some (.int most), some (.int ff), some (.int L), some (.ref D), some (.int h), some (.int (i : Int)), u7, u8, u9] G := fun D c G a b => hN _ _ ⟨D, h, c, _, _, _, rfl, b, e0, e22, a⟩
      walk_at "fl.w"
      refine g_ite (fun q0 => ?_) (fun q0 => ?_)
      · walk_at "fl.w"
        rename_i v1 G3 v10 v11 hk3 on3
        have C3 := C2.on hdS hS on3.fr hk3
        have hx3 := raw_on on3 hDd hx
        refine g_ite (fun q1 => ?_) (fun q1 => ?_)
        · walk_at "fl.w"
          rename_i v2 G4 v20 v25 hk4 on4 t1 ht1
          have s1 := Fl.Same.new (o := .tup [.str "call", .int v2]) ht1
          have C4 := C3.on hdS hS (on4.fr.trans (Fr.same s1)) (hk4.same s1)
          have al4 := (C3.on hdS hS on4.fr hk4).al hS
          exact z D (c ++ [in2 "call" v2]) _ (C4.put hdS hS (raw_new ht1 (raw_on on4 hDd hx3)) (.tup (al4.ni ht1) upd_same (.cons (.str _) (.cons (.int _) .nil))) ⟨by show ("call" : Str) ∈ allV; decide, by show B32 v2; constructor <;> omega⟩) (by rw [List.length_append]; simp; omega)
        · walk_at "fl.w"
          exact z D c _ C3 (by omega)
      · walk_at "fl.w"
        exact z D c _ C2 (by omega)
    clear C2 hx hX lx hk2 hDd l2 e0 e22
    obtain ⟨D, h, c, u7, u8, u9, rfl, l2, e0, e22, C2⟩ := hJ
    have hD := C2.f0
    have hDd : D ≠ d := hk.ned hD
    obtain ⟨xs, hx, hX⟩ := C2.ex
    have lx := hX.len
    rw [List.length_map] at lx
    have hk2 := C2.dk
    walk_at "fl.q"
    refine g_J (fun σ' G => ∃ D h c u7 u8 u9, σ' = [some (.ref d), some (.int most), some (.int ff), some (.int L), some (.ref D), some (.int h), some (.int (i : Int)), u7, u8, u9] ∧ c.length ≤ B * i + 4 + 42 * L ∧ 0 ≤ h ∧ h ≤ 22 ∧ CdAt S d s ns H D c G) (fun N hN => ?_) (fun σ' G hJ => ?_)
    · have z : ∀ (D : Addr) (c : List In) (u9 : Option V) (G : Hp), CdAt S d s ns H D c G → c.length ≤ B * i + 4 + 42 * L → N [some (.ref d), some (.int most), some (.int ff), some (.int L), some (.ref D), some (.int h), some (.int (i : Int)), u7, u8, u9] G := fun D c u9 G a b => hN _ _ ⟨D, h, c, _, _, _, rfl, b, e0, e22, a⟩
      walk_at "fl.w"
      refine g_ite (fun q0 => ?_) (fun q0 => ?_)
      · walk_at "fl.w"
        rename_i v1 G3 v10 v11 hk3 on3
        have C3 := C2.on hdS hS on3.fr hk3
        have hx3 := raw_on on3 hDd hx
        refine g_ite (fun q1 => ?_) (fun q1 => ?_)
        · walk_at "fl.w"
          refine ⟨D :: S, d, s, ns, 3, ff, 0, rfl, mem2 hdS, C3.al hS, hk3, by decide, hf0, hf1, by omega, by decide, fun ti G4 ci f4 hk4 dci lci oci => ?_⟩
          have C4 := C3.on hdS hS f4 hk4
          have hx4 := f4 _ _ (by simpa using hDd) hx3
          obtain ⟨_, ys, e, nti, rti, hY⟩ := dci.lstE
          cases e
          have ly := hY.len
          rw [List.length_map] at ly
          have htd : ti ≠ d := fun e => nti (by rw [e]; exact mem2 hdS)
          walk_at "fl.w"
          rename_i v2 G5 v20 v23 hk5 on5 t1 ht1 t2 ht2 l1 hl1 p1 hp1 p2 hp2
          have s1 := Fl.Same.new (o := .tup [.str "push", .int (v2 - 1)]) ht1
          have s2 := s1.trans (Fl.Same.new (o := .tup [.str "jumpzero", .int ys.length]) ht2)
          have s3 := s2.trans (Fl.Same.new (o := .lst [.ref t1, .ref t2]) hl1)
          have s4 := s3.trans (Fl.Same.new (o := .lst (xs ++ [.ref t1, .ref t2])) hp1)
          have C5 := C4.on hdS hS on5.fr hk5
          have al5 := al_of hS C5.fr hk5
          have mn : ∀ x, x ∈ S → x ∈ D :: S := fun x m => mem2 m
          have d1 : Dq S (upd (upd (upd (upd G5 t1 (.tup [.str "push", .int (v2 - 1)])) t2 (.tup [.str "jumpzero", .int ys.length])) l1 (.lst [.ref t1, .ref t2])) p1 (.lst (xs ++ [.ref t1, .ref t2]))) (.ref t1) (inD (in2 "push" (v2 - 1))) := .tup (al5.ni ht1) (raw_new hp1 (raw_new hl1 (raw_new ht2 upd_same))) (.cons (.str _) (.cons (.int _) .nil))
          have d2 : Dq S (upd (upd (upd (upd G5 t1 (.tup [.str "push", .int (v2 - 1)])) t2 (.tup [.str "jumpzero", .int ys.length])) l1 (.lst [.ref t1, .ref t2])) p1 (.lst (xs ++ [.ref t1, .ref t2]))) (.ref t2) (inD (in2 "jumpzero" ys.length)) := .tup ((al5.same s1).ni ht2) (raw_new hp1 (raw_new hl1 upd_same)) (.cons (.str _) (.cons (.int _) .nil))
          have hYS : DqA S (upd (upd (upd (upd G5 t1 (.tup [.str "push", .int (v2 - 1)])) t2 (.tup [.str "jumpzero", .int ys.length])) l1 (.lst [.ref t1, .ref t2])) p1 (.lst (xs ++ [.ref t1, .ref t2]))) ys (ci.map inD) := (dqa_of hdS (hY.mono mn) on5.fr).same s4
          rw [List.append_assoc]
          refine z p2 (c ++ ([in2 "push" (v2 - 1), in2 "jumpzero" ys.length] ++ ci)) _ _ (C5.cat hS (raw_on on5 hDd hx4) s4 hp2 (by rw [List.map_append]; exact (DqA.cons d1 (.cons d2 .nil)).app hYS) (fun x m => ?_)) (by simp only [List.length_append, List.length_cons, List.length_nil]; omega)
          rcases List.mem_append.mp m with m | m
          · rcases List.mem_cons.mp m with rfl | m
            · exact ⟨by show ("push" : Str) ∈ allV; decide, by show B32 (v2 - 1); constructor <;> omega⟩
            · rw [List.mem_singleton.mp m]
              exact ⟨by show ("jumpzero" : Str) ∈ allV; decide, by show B32 (ys.length : Int); constructor <;> omega⟩
          · exact oci x m
        · walk_at "fl.w"
          exact z D c _ _ C3 (by omega)
      · walk_at "fl.w"
        exact z D c _ _ C2 (by omega)
    clear C2 hx hX lx hk2 hDd l2 e0 e22
    obtain ⟨D, h, c, u7, u8, u9, rfl, l2, e0, e22, C2⟩ := hJ
    have hD := C2.f0
    have hDd : D ≠ d := hk.ned hD
    obtain ⟨xs, hx, hX⟩ := C2.ex
    have lx := hX.len
    rw [List.length_map] at lx
    have hk2 := C2.dk
    walk_at "fl.w"
    rename_i v1 G3 v10 v11 hk3 on3
    have C3 := C2.on hdS hS on3.fr hk3
    have hx3 := raw_on on3 hDd hx
    have hBi1 : B * (i + 1) = B * i + B := Nat.mul_succ _ _
    refine g_ite (fun q1 => ?_) (fun q1 => ?_)
    · walk_at "fl.w"
      rename_i t1 ht1 t2 ht2 l1 hl1 p1 hp1
      have s1 := Fl.Same.new (o := .tup [.str "jump", .int 1]) ht1
      have s2 := s1.trans (Fl.Same.new (o := .tup [.str "drop", .int 0]) ht2)
      have s3 := s2.trans (Fl.Same.new (o := .lst [.ref t1, .ref t2]) hl1)
      have al5 := al_of hS C3.fr hk3
      have d1 : Dq S (upd (upd (upd G3 t1 (.tup [.str "jump", .int 1])) t2 (.tup [.str "drop", .int 0])) l1 (.lst [.ref t1, .ref t2])) (.ref t1) (inD (in2 "jump" 1)) := .tup (al5.ni ht1) (raw_new hl1 (raw_new ht2 upd_same)) (.cons (.str _) (.cons (.int _) .nil))
      have d2 : Dq S (upd (upd (upd G3 t1 (.tup [.str "jump", .int 1])) t2 (.tup [.str "drop", .int 0])) l1 (.lst [.ref t1, .ref t2])) (.ref t2) (inD (in2 "drop" 0)) := .tup ((al5.same s1).ni ht2) (raw_new hl1 upd_same) (.cons (.str _) (.cons (.int _) .nil))
      refine ⟨p1, h, _, _, _, _, c ++ [in2 "jump" 1, in2 "drop" 0], rfl, by rw [List.length_append]; simp; omega, e0, e22, C3.cat hS hx3 s3 hp1 (.cons d1 (.cons d2 .nil)) (fun x m => ?_)⟩
      rcases List.mem_cons.mp m with rfl | m
      · exact ⟨by show ("jump" : Str) ∈ allV; decide, by show B32 1; exact ⟨by decide, by decide⟩⟩
      · rw [List.mem_singleton.mp m]
        exact ⟨by show ("drop" : Str) ∈ allV; decide, by show B32 0; exact ⟨by decide, by decide⟩⟩
    · walk_at "fl.w"
      exact ⟨D, h, _, _, _, _, c, rfl, by omega, e0, e22, C3⟩
  · intro σ' G ⟨D, h, u6, u7, u8, u9, c, e, hl, h0, h22, C⟩
    subst e
    obtain ⟨xs, hx, hX⟩ := C.ex
    have lx := hX.len
    rw [List.length_map] at lx
    have hcm : B * cnt.toNat ≤ B * most := Nat.mul_le_mul_left B (by omega)
    have hB5 : B * most ≤ 48 * 5 := Nat.mul_le_mul (by omega) hm
    rw [hB] at hcm hB5 hl
    have hk2 := C.dk
    walk_at "fl.w"
    refine lcR (S := D :: S) (fun _ => some (inD (in2 "drop" 0))) (C.al hS) (by omega) ?_ ?_
    · intro D2 j G2 hD2 hj sm al R N hR hN
      refine g_name ⟨rfl, ?_⟩
      walk_at "fl.w"
      rename_i tt htt
      exact hR _ _ _ rfl (Fl.Same.new htt) (.tup (al.ni htt) upd_same (.cons (.str _) (.cons (.int _) .nil)))
    · intro D2 G2 sm2 fD2 hD2
      have er : (List.range h.toNat).filterMap (fun _ => some (inD (in2 "drop" 0))) = (List.replicate h.toNat (in2 "drop" 0)).map inD := by
        generalize h.toNat = n
        induction n with
        | zero => rfl
        | succ n ih => rw [List.range_succ, List.filterMap_append, ih, List.replicate_succ', List.map_append]; rfl
      rw [er] at hD2
      obtain ⟨_, zs, e, nz, rz, hZ⟩ := hD2.lstE
      cases e
      have lz := hZ.len
      rw [List.length_map, List.length_replicate] at lz
      have hx2 := sm2 _ _ hx
      have C2 := C.on hdS hS (Fr.same sm2) (hk2.same sm2)
      walk_at "fl.w"
      rename_i p hp
      have mn : ∀ x, x ∈ S → x ∈ D :: S := fun x m => mem2 m
      have C3 := C2.cat hS hx2 (Same.refl _) hp (hZ.mono mn) (fun x m => by
        rw [List.eq_of_mem_replicate m]
        exact ⟨by show ("drop" : Str) ∈ allV; decide, by show B32 0; exact ⟨by decide, by decide⟩⟩)
      obtain ⟨zz, hzz, hZZ⟩ := C3.ex
      exact q p _ (c ++ List.replicate h.toNat (in2 "drop" 0)) C3.fr C3.dk (.lst (hS.ni C3.f0) hzz hZZ.tail) (by rw [List.length_append, List.length_replicate]; omega) C3.ok
def spNo : Sp := fun _ _ _ _ => False
theorem tame_0 (T : Txt K mg) : Has P w K mg base 3 "_law_tame" ps_law_tame (spTm 0) := by
  refine has_of T.d_law_tame sc_law_tame bd_law_tame (fun vs H Q E h => ?_) (fun f cdv A outer s H vs Q E hr h => ?_)
  · obtain ⟨_, _, _, _, _, _, L, _, _, _, _, _, _, _, h, _⟩ := h
    omega
  · obtain ⟨_, _, _, _, _, _, L, _, _, _, _, _, _, _, h, _⟩ := h
    omega
theorem ok_law_tame (T : Txt K mg) : Has P w K mg base 5 "_law_tame" ps_law_tame (spTm 2) := tame_step T (by decide) (tame_step T (by decide) (tame_0 T))
end

section
variable {P : Program} {w : World} {K : PySem.W.Frag} {mg : Str → Option Value} {base : Heap}
theorem g_gsubR {ta tb : TE} {v : V} {σ : L2.St} {H : Hp} {Q : L2.St → Hp → Prop} (h : ta σ H fun o H2 => tb σ H2 fun i H3 => rSetL o i v H3 fun H4 => Q σ H4) : gSub ta tb rSetL v σ H Q := h
local macro_rules | `(tactic| walk_at "fl.t") => `(tactic| (with_reducible refine g_chainW ?_))
local macro_rules | `(tactic| walk_at "fl.t") => `(tactic| (with_reducible refine g_mkP ?_))
local macro_rules | `(tactic| walk_at "fl.t") => `(tactic| (with_reducible refine g_callS ?_))
local macro_rules | `(tactic| walk_at "fl.t") => `(tactic| (with_reducible refine g_ifE ?_))
local macro_rules | `(tactic| walk_at "fl.w") => `(tactic| repeat walk_at "fl.t")
def scl (u s n : Int) : Int := (2 * n * 64 * s + u) / (2 * u)
/-- numbers that are scaled -/
def ScIn (u s n : Int) : Prop := 16 ≤ u ∧ u ≤ 16384 ∧ 1 ≤ s ∧ s ≤ 1000 ∧ -100000 ≤ n ∧ n ≤ 100000
def spSc : Sp := fun vs H Q _ => ∃ u s n : Int, vs = [.int u, .int s, .int n] ∧ ScIn u s n ∧ Q (.int (scl u s n)) H
theorem sc_app {u s n : Int} {H : Hp} {Q : VK} {E : XK} (h : ScIn u s n) (q : Q (.int (scl u s n)) H) : spSc [.int u, .int s, .int n] H Q E := ⟨u, s, n, rfl, h, q⟩
theorem ok_scaled (T : Txt K mg) : Has P w K mg base 1 "scaled" ps_scaled spSc := by
  refine has_of T.d_scaled sc_scaled bd_scaled (fun vs H Q E h => ?_) (fun f cdv A outer s H vs Q E hr h => ?_)
  · obtain ⟨u, s, n, rfl, _⟩ := h
    rfl
  · obtain ⟨u, s, n, rfl, ⟨u0, u1, s0, s1, n0, n1⟩, q⟩ := h
    refine ⟨_, (pss_one (ps_ret (pe_op op_fdivW (pe_op op_add (pe_op op_mulW (pe_op op_mulW (pe_op op_mul pe_int (pv 2)) (pe_gv (by rfl) T.g_ONE_PIXEL)) (pv 1)) (pv 0)) (pe_op op_mul pe_int (pv 0))))), ?_⟩
    walk_at "fl.w"
    exact q
theorem ok_law_scaled (T : Txt K mg) : Has P w K mg base 1 "_law_scaled" ps_law_scaled spSc := by
  refine has_of T.d_law_scaled sc_law_scaled bd_law_scaled (fun vs H Q E h => ?_) (fun f cdv A outer s H vs Q E hr h => ?_)
  · obtain ⟨u, s, n, rfl, _⟩ := h
    rfl
  · obtain ⟨u, s, n, rfl, ⟨u0, u1, s0, s1, n0, n1⟩, q⟩ := h
    refine ⟨_, (pss_one (ps_ret (pe_op op_fdivW (pe_op op_add (pe_op op_mulW (pe_op op_mul (pe_op op_mul pe_int (pv 2)) pe_int) (pv 1)) (pv 0)) (pe_op op_mul pe_int (pv 0))))), ?_⟩
    walk_at "fl.w"
    exact q
/-- a zone: its points, as they were and as they are, what is touched, the ends -/
structure ZoR where
  o : List (List PyData)
  c : List (List PyData)
  t : List PyData
  e : List PyData
def ZoR.F (z : ZoR) : List (Str × PyData) := [("original", ltD z.o), ("current", ltD z.c), ("touched", .list z.t), ("ends", .list z.e)]
def fZo : List PyData → List (Str × PyData) → Prop := fun ds fs => ∃ (o c t e : PyData) (z : ZoR), ds = [o, c, t, e] ∧ Sq2 o z.o ∧ Sq2 c z.c ∧ Sq1 t z.t ∧ Sq1 e z.e ∧ fs = z.F
theorem ok_Zone (T : Txt K mg) : InI P w K mg base 2 "Zone" "Zone.__init__" s_Zone fl_Zone kw_Zone ps_Zone (spI K (adr mg "Zone") fZo) := by
  have c := T.c_Zone
  have cl := c.cl
  have na := c.na
  have h_tuples_of := ok_tuples_of (P := P) (w := w) (base := base) T
  refine inI_of c sc_Zone (fun vs H Q E h => ?_) (fun f cdv A outer s H vs Q E hr h => ?_)
  · obtain ⟨S, x, dx, ws, ds, fs, rfl, _, _, _, hd, ⟨_, _, _, _, z, rfl, _⟩, q⟩ := h
    obtain ⟨v1, _, rfl, _, hd⟩ := hd.consE
    obtain ⟨v2, _, rfl, _, hd⟩ := hd.consE
    obtain ⟨v3, _, rfl, _, hd⟩ := hd.consE
    obtain ⟨v4, _, rfl, _, hd⟩ := hd.consE
    cases hd.nilE
    rfl
  · obtain ⟨S, x, dx, ws, ds, fs, rfl, hxS, hS, hx, hd, ⟨o, c, t, e, z, rfl, so, sc, st, se, rfl⟩, q⟩ := h
    obtain ⟨v1, _, rfl, h1, hd⟩ := hd.consE
    obtain ⟨v2, _, rfl, h2, hd⟩ := hd.consE
    obtain ⟨v3, _, rfl, h3, hd⟩ := hd.consE
    obtain ⟨v4, _, rfl, h4, hd⟩ := hd.consE
    cases hd.nilE
    have I0 := InitAt.start hx hS hxS
    refine ⟨_, (pss_cons (psFld (K := K) rfl (pv 0) (pe_h h_tuples_of (hr.mono (by decide)) (pa_cons (pv 1) pa_nil)) rfl)
      (pss_cons (psFld (K := K) rfl (pv 0) (pe_h h_tuples_of (hr.mono (by decide)) (pa_cons (pv 2) pa_nil)) rfl)
      (pss_cons (psFld (K := K) rfl (pv 0) (pe_callTy (clLstOf (K := K) rfl) (by rfl) T.z_list (by decide +kernel) (pa_cons (pv 3) pa_nil)) rfl)
      (pss_one (psFld (K := K) rfl (pv 0) (pe_callTy (clLstOf (K := K) rfl) (by rfl) T.z_list (by decide +kernel) (pa_cons (pv 4) pa_nil)) rfl))))), ?_⟩
    walk_at "fl.w"
    refine spE_app S [o] (ltD z.o) I0.al (.cons (I0.deO h1) .nil) ⟨o, _, rfl, so, rfl⟩ (fun v H1 sm1 hv1 => ?_)
    have I0s := I0.same sm1
    walk_at "fl.w"
    have I1 := I0s.put hv1 "original" rfl
    walk_at "fl.w"
    refine spE_app S [c] (ltD z.c) I1.al (.cons (I1.deO h2) .nil) ⟨c, _, rfl, sc, rfl⟩ (fun v H2 sm2 hv2 => ?_)
    have I1s := I1.same sm2
    walk_at "fl.w"
    have I2 := I1s.put hv2 "current" rfl
    walk_at "fl.w"
    refine lstOf_de I2.al (I2.deO h3) st.1 fun l H3 sm3 hv3 => ?_
    have I2s := I2.same sm3
    walk_at "fl.w"
    have I3 := I2s.put hv3 "touched" rfl
    walk_at "fl.w"
    refine lstOf_de I3.al (I3.deO h4) se.1 fun l H4 sm4 hv4 => ?_
    have I3s := I3.same sm4
    walk_at "fl.w"
    have I4 := I3s.put hv4 "ends" rfl
    walk_at "fl.w"
    exact q _ _ I4.fr I4.hx I4.dq
theorem mk_Zo (T : Txt K mg) : MkP P w K mg base 2 "Zone" (spI K (adr mg "Zone") fZo) := (ok_Zone (P := P) (w := w) (base := base) T).makeP fun kV doc pm an cdv ct us h => match us, h with | [_, _, _, _, _], _ => rfl
/-- a program of any parts -/
structure PgR where
  m : List (List PyData)
  f : List (List (List PyData))
  p : List PyData
  z : PyData
def PgR.F (g : PgR) : List (Str × PyData) := [("main", ltD g.m), ("functions", ouD3 g.f), ("presets", .list g.p), ("size", g.z)]
def fPgR : List PyData → List (Str × PyData) → Prop := fun ds fs => ∃ (m f p : PyData) (g : PgR), ds = [m, f, p, g.z] ∧ Sq2 m g.m ∧ Sq3 f g.f ∧ Sq1 p g.p ∧ g.z ≠ .tuple [] ∧ fs = g.F
theorem ok_Program (T : Txt K mg) {e1 e2 : Addr} (c : ClsI K mg "Program" "Program.__init__" s_Program fl_Program (kw_Program e1 e2)) : InI P w K mg base 2 "Program" "Program.__init__" s_Program fl_Program (kw_Program e1 e2) ps_Program (spI K (adr mg "Program") fPgR) := by
  have cl := c.cl
  have na := c.na
  have h_tuples_of := ok_tuples_of (P := P) (w := w) (base := base) T
  refine inI_of c sc_Program (fun vs H Q E h => ?_) (fun f cdv A outer s H vs Q E hr h => ?_)
  · obtain ⟨S, x, dx, ws, ds, fs, rfl, _, _, _, hd, ⟨_, _, _, g, rfl, _⟩, q⟩ := h
    obtain ⟨v1, _, rfl, _, hd⟩ := hd.consE
    obtain ⟨v2, _, rfl, _, hd⟩ := hd.consE
    obtain ⟨v3, _, rfl, _, hd⟩ := hd.consE
    obtain ⟨v4, _, rfl, _, hd⟩ := hd.consE
    cases hd.nilE
    rfl
  · obtain ⟨S, x, dx, ws, ds, fs, rfl, hxS, hS, hx, hd, ⟨m, f, p, g, rfl, sm, sf, sp, sz, rfl⟩, q⟩ := h
    obtain ⟨v1, _, rfl, h1, hd⟩ := hd.consE
    obtain ⟨v2, _, rfl, h2, hd⟩ := hd.consE
    obtain ⟨v3, _, rfl, h3, hd⟩ := hd.consE
    obtain ⟨v4, _, rfl, h4, hd⟩ := hd.consE
    cases hd.nilE
    have I0 := InitAt.start hx hS hxS
    refine ⟨_, (pss_cons (psFld (K := K) rfl (pv 0) (pe_h h_tuples_of (hr.mono (by decide)) (pa_cons (pv 1) pa_nil)) rfl)
      (pss_cons (psFld (K := K) rfl (pv 0) (pe_lc (own := [("function", 5)]) rfl sc_Program.nd (piS (K := K) rfl (pv 2)) (blkOk_by (by kernel_rfl)) (fun _ _ _ _ _ => (pg_name (i := 5) sc_Program.nd rfl (.inl rfl))) (fun _ _ _ _ _ => pts_nil) (fun _ _ _ _ _ => (pe_h h_tuples_of (hr.mono (by decide)) (pa_cons (pv 5) pa_nil)))) rfl)
      (pss_cons (psFld (K := K) rfl (pv 0) (pe_callTy (clLstOf (K := K) rfl) (by rfl) T.z_list (by decide +kernel) (pa_cons (pv 3) pa_nil)) rfl)
      (pss_one (psFld (K := K) rfl (pv 0) (pv 4) rfl))))), ?_⟩
    walk_at "fl.w"
    refine spE_app S [m] (ltD g.m) I0.al (.cons (I0.deO h1) .nil) ⟨m, _, rfl, sm, rfl⟩ (fun v H1 sm1 hv1 => ?_)
    have I0s := I0.same sm1
    walk_at "fl.w"
    have I1 := I0s.put hv1 "main" rfl
    walk_at "fl.w"
    obtain ⟨xs, e1, e2, e3, e4⟩ := sf
    refine lcS (S := S) (fun i => (g.f[i]?).map ltD) I1.al (I1.deO h2) e1 (by omega) (fun R h => ⟨_, rfl, h⟩) ?_ ?_
    · intro D i x2 e H2 hD he sm al hxe R N hR hN
      obtain ⟨l, hl⟩ : ∃ l, g.f[i]? = some l := by
        have := (List.getElem?_eq_some_iff.mp he).1
        exact ⟨g.f[i]'(by omega), List.getElem?_eq_getElem _⟩
      refine g_name ⟨rfl, ?_⟩
      walk_at "fl.w"
      refine spE_app (D :: S) [e] (ltD l) al (.cons (.inl hxe) .nil) ⟨e, l, rfl, e3 i e l he hl, rfl⟩ (fun v H3 sm3 hv => ?_)
      exact hR _ _ _ (by rw [hl]; rfl) sm3 hv
    intro D7 H7 sm7 hD7 hq7
    rw [fm_ltA e2] at hq7
    have I1s := I1.same sm7
    walk_at "fl.w"
    have I2 := I1s.put hq7 "functions" rfl
    walk_at "fl.w"
    refine lstOf_de I2.al (I2.deO h3) sp.1 fun l H3 sm3 hv3 => ?_
    have I2s := I2.same sm3
    walk_at "fl.w"
    have I3 := I2s.put hv3 "presets" rfl
    walk_at "fl.w"
    have I4 := I3.put (I3.dqO (h4.dq sz)) "size" rfl
    walk_at "fl.w"
    exact q _ _ I4.fr I4.hx I4.dq
theorem mk_Prog {e1 e2 : Addr} {sp : Sp} (h : InI P w K mg base 2 "Program" "Program.__init__" s_Program fl_Program (kw_Program e1 e2) ps_Program sp) :
    MkI P w K mg base 2 "Program" 1 ["functions", "presets", "size"] (fun vs zs => pick [0, 1, 2, 3, 4] (vs ++ ([] ++ zs))) sp :=
  h.make 1 ["functions", "presets", "size"] [] [0, 1, 2, 3, 4] (by simp) (fun q m => nomatch m) fun D doc pm an cdv ct us mv ws h1 h2 h3 => match us, h1, mv, h2, ws, h3 with | [_, _], _, [], _, [_, _, _], _ => rfl
end

section
variable {P : Program} {w : World} {K : PySem.W.Frag} {mg : Str → Option Value} {base : Heap}
local macro_rules | `(tactic| walk_at "fl.t") => `(tactic| (with_reducible refine g_chainW ?_))
local macro_rules | `(tactic| walk_at "fl.t") => `(tactic| ((with_reducible refine sc_app ?_ ?_); (focus assumption)))
local macro_rules | `(tactic| walk_at "fl.t") => `(tactic| (with_reducible refine g_mkP ?_))
local macro_rules | `(tactic| walk_at "fl.t") => `(tactic| (with_reducible refine g_callS ?_))
local macro_rules | `(tactic| walk_at "fl.t") => `(tactic| (with_reducible refine g_ifE ?_))
local macro_rules | `(tactic| walk_at "fl.w") => `(tactic| repeat walk_at "fl.t")
theorem g_repI {l : Addr} {k : Int} {x : V} {H : Hp} {Q : VK} (h : H l = some (.lst [x])) (h0 : 0 ≤ k) (hk : k < 1000) (q : ∀ p, H p = none → Q (.ref p) (upd H p (.lst (List.replicate k.toNat x)))) : rRep (.ref l) (.int k) H Q := by
  have hz : (1000 : Nat) ≤ sizeLine := by decide
  refine ⟨l, k, [x], rfl, rfl, h, by omega, by omega, by simp; omega, fun p hp => ?_⟩
  have e : (List.replicate k.toNat [x]).flatten = List.replicate k.toNat x := by
    generalize k.toNat = n
    induction n with
    | zero => rfl
    | succ n ih => rw [List.replicate_succ, List.flatten_cons, ih]; rfl
  rw [e]
  exact q p hp
theorem zeros_dq {S : List Addr} {H : Hp} : ∀ n : Nat, DqA S H (List.replicate n (.int 0)) (List.replicate n (.int 0))
  | 0 => .nil
  | n + 1 => by rw [List.replicate_succ, List.replicate_succ]; exact .cons (.int _) (zeros_dq n)
theorem ints_dq {S : List Addr} {H : Hp} : ∀ l : List Int, DqA S H (l.map V.int) (l.map PyData.int)
  | [] => .nil
  | _ :: l => .cons (.int _) (ints_dq l)
def sPt (u s : Int) (p : Pt) : List PyData := [.int (scl u s p.1), .int (scl u s p.2.1)]
def eI (o : List (List Pt)) (k : Nat) : Int := ((o.take (k + 1)).flatten.length : Int) - 1
def zoOf (u s : Int) (o : List (List Pt)) : ZoR := ⟨o.flatten.map (sPt u s), o.flatten.map (sPt u s), List.replicate o.flatten.length (.int 0), ((List.range o.length).map (eI o)).map PyData.int⟩
structure OuOk (o : List (List Pt)) : Prop where
  z : o.length ≤ 100
  f : o.flatten.length < 900
  n : ∀ c, c ∈ o → c ≠ []
  p : ∀ c, c ∈ o → ∀ p, p ∈ c → Crd p.1 ∧ Crd p.2.1
def scPt (u s : Int) (d : PyData) : PyData := match d with
  | .tuple [.int x, .int y, _] => .tuple [.int (scl u s x), .int (scl u s y)]
  | _ => .none
def fZf (mg : Str → Option Value) (ds : List PyData) (d : PyData) : Prop := ∃ (f : FoR) (u s : Int) (o : List (List Pt)), ds = [foD (cs mg) f, ouD o, .int s] ∧ f.unit = .int u ∧ OuOk o ∧ 16 ≤ u ∧ u ≤ 16384 ∧ 1 ≤ s ∧ s ≤ 1000 ∧ d = insD (adr mg "Zone") (zoOf u s o).F
theorem ok_zone_of (T : Txt K mg) : Has P w K mg base 4 "zone_of" ps_zone_of (spD (fZf mg)) := by
  obtain ⟨_, _, _, _, _, _, _, _, _, _, _, _, _, _, cF⟩ := T.c_Font
  have clF := cF.cl
  have naF := cF.na
  have h_scaled := ok_scaled (P := P) (w := w) (base := base) T
  have mk_Zone := mk_Zo (P := P) (w := w) (base := base) T
  refine has_of T.d_zone_of sc_zone_of bd_zone_of (fun vs H Q E h => ?_) (fun f cdv A outer s H vs Q E hr h => ?_)
  · obtain ⟨S, ds, d, _, hd, ⟨f, u, s, o, rfl, _⟩, _⟩ := h
    rw [hd.len]; rfl
  · obtain ⟨S, ds, d, hS, hd, ⟨fo, u, sz, o, rfl, hu, ok, u0, u1, s0, s1, rfl⟩, q⟩ := h
    obtain ⟨v1, _, rfl, h1, hd⟩ := hd.consE
    obtain ⟨v2, _, rfl, h2, hd⟩ := hd.consE
    obtain ⟨v3, _, rfl, h3, hd⟩ := hd.consE
    cases hd.nilE
    cases h3.intE
    obtain ⟨fa, fdx, w1, w2, w3, w4, w5, w6, w7, w8, w9, rfl, fna, fA, j1, j2, j3, j4, j5, j6, j7, j8, j9⟩ := foE h1
    rw [hu] at j1
    cases j1.intE
    have h2' := h2
    obtain ⟨a, xs, rfl, na2, hx, hA⟩ := h2.lstE
    have lx := hA.len
    rw [List.length_map] at lx
    refine ⟨_, (pss_cons (ps_setLc2 (i := 4) (own := [("contour", 3), ("x", 7), ("y", 8), ("_", 9)]) (vs1 := [7, 8, 9]) rfl sc_zone_of.nd rfl rfl (sw_true rfl rfl rfl (by decide +kernel)) (piL (K := K) rfl (pv 1)) (blkOk_by (by kernel_rfl)) (by decide) (fun _ _ _ _ _ => (pg_name (i := 3) sc_zone_of.nd rfl (.inl rfl))) (fun _ _ _ _ _ => pts_nil) (fun _ _ _ _ _ => (piL (K := K) rfl (pv 3))) (fun _ _ _ _ _ => (pgT (n := 3) (K := K) rfl (by rfl) (pgs_cons (pg_name (i := 7) sc_zone_of.nd rfl (.inl rfl)) (pgs_cons (pg_name (i := 8) sc_zone_of.nd rfl (.inl rfl)) (pgs_cons (pg_name (i := 9) sc_zone_of.nd rfl (.inl rfl)) pgs_nil))))) (fun _ _ _ _ _ => pts_nil) (fun _ _ _ _ _ => (pe_tup (pa_cons (pe_h h_scaled (hr.mono (by decide)) (pa_cons (peFld (K := K) rfl (pv 0) rfl) (pa_cons (pv 2) (pa_cons (pv 7) pa_nil)))) (pa_cons (pe_h h_scaled (hr.mono (by decide)) (pa_cons (peFld (K := K) rfl (pv 0) rfl) (pa_cons (pv 2) (pa_cons (pv 8) pa_nil)))) pa_nil)))))
      (pss_cons (ps_set (i := 5) sc_zone_of.nd rfl (.inl rfl) (pe_lst pa_nil))
      (pss_cons (ps_set (i := 6) sc_zone_of.nd rfl (.inl rfl) (pe_un un_neg pe_int))
      (pss_cons (ps_for PassesOwn.never rfl (piL (K := K) rfl (pv 1)) (pg_name (i := 3) sc_zone_of.nd rfl (.inl rfl))
        (pss_cons (ps_aug (i := 6) sc_zone_of.nd rfl (.inl rfl) (pe_callB (clLen (K := K) rfl) (by rfl) T.z_len (by decide +kernel) (pa_cons (pv 3) pa_nil)) ip_add)
      (pss_one (ps_if (ptTru (K := K) rfl (pv 3) (by intro _; rfl))
        (pss_one (ps_expr (pe_bm PySem.F.plainAttrs_list PySem.F.slot_list_append PySem.F.type_list_append mt_append (pv 5) (pa_cons (pv 6) pa_nil))))
        pss_nil))))
      (pss_one (ps_ret (pe_mkP (mg := mg) rfl mk_Zone (hr.mono (by decide)) (pa_cons (pv 4) (pa_cons (pv 4) (pa_cons (pe_op op_rep (pe_lst (pa_cons pe_int pa_nil)) (pe_callB (clLen (K := K) rfl) (by rfl) T.z_len (by decide +kernel) (pa_cons (pv 4) pa_nil))) (pa_cons (pv 5) pa_nil))))))))))), ?_⟩
    refine g_seq ?_
    refine g_set ?_
    refine g_lc2 ?_
    walk_at "fl.w"
    have hfl : ((o.map fun c => c.map ptD).flatten) = o.flatten.map ptD := List.map_flatten.symm
    have hou : ouD o = .list ((o.map fun c => c.map ptD).map PyData.list) := by unfold ouD; rw [List.map_map]; rfl
    have h2f := h2'
    rw [hou] at h2f
    refine lcLM (S := S) (es := o.map fun c => c.map ptD) (f := scPt u sz) hS h2f (by rw [hfl, List.length_map]; have := ok.f; omega) (fun _ => rfl) (fun _ => rfl) ?_ ?_
    · intro D e x x2 G hD he sm al dx R hR
      rw [hfl] at he
      obtain ⟨p, hp, rfl⟩ := List.mem_map.mp he
      obtain ⟨c, hc, hpc⟩ := List.mem_flatten.mp hp
      obtain ⟨px, py⟩ := ok.p c hc p hpc
      unfold Crd at px py
      have sx : ScIn u sz p.1 := ⟨u0, u1, s0, s1, by omega, by omega⟩
      have sy : ScIn u sz p.2.1 := ⟨u0, u1, s0, s1, by omega, by omega⟩
      obtain ⟨t, rfl, nt, ht⟩ := ptE dx
      have fA2 := sm _ _ fA
      refine g_gtup (SqT.of ht) rfl ?_
      walk_at "fl.w"
      refine ⟨rfl, ?_⟩
      walk_at "fl.w"
      rename_i tt htt
      exact hR _ _ (Fl.Same.new htt) (.tup (al.ni htt) upd_same (.cons (.int _) (.cons (.int _) .nil)))
    · intro D H2 sm hD hq
      have hq : Dq S H2 (.ref D) (ltD (o.flatten.map (sPt u sz))) := by
        rw [hfl, List.map_map] at hq
        rw [ltD_map]
        exact hq
      have alH2 := hS.same sm
      have hx2 := sm _ _ hx
      have hq0 := hq
      obtain ⟨_, ps, e, nD, hps, hP⟩ := hq.lstE
      cases e
      have lp := hP.len
      rw [List.length_map, List.length_map] at lp
      have of := ok.f
      walk_at "fl.w"
      rename_i E hE
      have sE := Fl.Same.new (o := .lst []) hE
      have nE : E ∉ S := alH2.ni hE
      have naE : a ∉ [E] := by simp; exact fun e => (by rw [e, hE] at hx2; cases hx2)
      have nDE : D ∉ [E] := by simp; exact fun e => (by rw [e, hE] at hps; cases hps)
      have nfE : fa ∉ [E] := by simp; exact fun e => (by have := sm _ _ fA; rw [e, hE] at this; cases this)
      have alE : Al (E :: S) (upd H2 E (.lst [])) := .cons (by rw [upd_same]; simp) (alH2.same sE)
      have hsub : ∀ x, x ∈ [E] → x ∈ E :: S := fun x m => by simp at m ⊢; exact .inl m
      have hAE : DqA (E :: S) (upd H2 E (.lst [])) xs (o.map ctD) := (((hA.same sm).new hE).same sE)
      refine forK_l (xs := xs) (fun i σ' G => ∃ u3 u7 u8 u9 es, σ' = [some (.ref fa), some (.ref a), some (.int sz), u3, some (.ref D), some (.ref E), some (.int (((o.take i).flatten.length : Int) - 1)), u7, u8, u9] ∧ G E = some (.lst es) ∧ es = ((List.range i).map (eI o)).map V.int ∧ Fr [E] (upd H2 E (.lst [])) G) ⟨_, _, _, _, [], rfl, upd_same, rfl, Fr.refl⟩ ?_ ?_ ?_
      · intro i σ' G _ ⟨_, _, _, _, _, _, _, _, f⟩
        exact SqL.of (f _ _ naE (sE _ _ hx2))
      · intro i x σ' G hxi ⟨u3, u7, u8, u9, es, e, rE, hes, f⟩
        subst e
        obtain ⟨c, hc, dx⟩ := (hAE.fr (f.mono hsub)).getM hxi
        obtain ⟨t, ts, rfl, nt, ht, hT⟩ := dx.lstE
        have lt := hT.len
        rw [List.length_map] at lt
        have hcn := ok.n c (List.mem_of_getElem? hc)
        have hil : i < xs.length := (List.getElem?_eq_some_iff.mp hxi).1
        have hl2 : es.length = i := by rw [hes]; simp
        have hoz := ok.z
        have hfl2 : (o.take (i + 1)).flatten.length = (o.take i).flatten.length + c.length := by
          rw [List.take_succ, hc, List.flatten_append, List.length_append]
          simp
        cases ts with
        | nil =>
          have : c = [] := List.eq_nil_of_length_eq_zero (by simpa using lt.symm)
          exact absurd this hcn
        | cons t0 ts =>
        walk_at "fl.w"
        refine ⟨some (.ref t), u7, u8, u9, es ++ [.int (eI o i)], ?_, ?_, ?_, f.trans (Fr.upd (by simp))⟩
        · have : ((o.take i).flatten.length : Int) - 1 + ((t0 :: ts).length : Int) = ((o.take (i + 1)).flatten.length : Int) - 1 := by omega
          rw [← this]
          rfl
        · have : ((o.take i).flatten.length : Int) - 1 + ((t0 :: ts).length : Int) = eI o i := by unfold eI; omega
          rw [← this]
          exact upd_same
        · rw [hes, List.range_succ, List.map_append, List.map_append]
          rfl
      · intro σ' G ⟨u3, u7, u8, u9, es, e, rE, hes, f⟩
        subst e
        have fps := f _ _ nDE (sE _ _ hps)
        have hqG : Dq S G (.ref D) (ltD (o.flatten.map (sPt u sz))) := by
          refine .lst nD fps ?_
          have := (((hP.new hE).same sE).fr (f.mono hsub)).tail
          exact this
        have alG : Al (E :: S) G := alE.fr f (.cons (by rw [rE]; simp) .nil)
        have alS : Al S G := fun b m => alG b (List.mem_cons_of_mem _ m)
        walk_at "fl.w"
        rename_i l1 hl1
        refine g_repI upd_same (by omega) (by omega) (fun l2 hl2 => ?_)
        walk_at "fl.w"
        have s1 := Fl.Same.new (o := .lst [.int 0]) hl1
        have s2 := s1.trans (Fl.Same.new (o := .lst (List.replicate (ps.length : Int).toNat (.int 0))) hl2)
        have al2 := alS.same s2
        have dz : Dq S (upd (upd G l1 (.lst [.int 0])) l2 (.lst (List.replicate (ps.length : Int).toNat (.int 0)))) (.ref l2) (.list (zoOf u sz o).t) := by
          refine .lst ((alS.same s1).ni hl2) upd_same ?_
          show DqA S _ _ (List.replicate o.flatten.length (.int 0))
          rw [show (ps.length : Int).toNat = o.flatten.length by omega]
          exact zeros_dq _
        have de : Dq S (upd (upd G l1 (.lst [.int 0])) l2 (.lst (List.replicate (ps.length : Int).toNat (.int 0)))) (.ref E) (.list (zoOf u sz o).e) := by
          refine Dq.same (.lst nE rE ?_) s2
          rw [hes, lx]
          show DqA S G _ (((List.range o.length).map (eI o)).map PyData.int)
          exact ints_dq _
        have dp := hqG.same s2
        have hln : o.length ≤ 100 := ok.z
        refine mk_app (f := fZo) (ws := [.ref D, .ref D, .ref l2, .ref E]) (gl := fun x => [.ref x, .ref D, .ref D, .ref l2, .ref E]) S [ltD (zoOf u sz o).o, ltD (zoOf u sz o).c, .list (zoOf u sz o).t, .list (zoOf u sz o).e] (zoOf u sz o).F (fun x => rfl) al2 (.cons (.inl dp) (.cons (.inl dp) (.cons (.inl dz) (.cons (.inl de) .nil)))) ⟨_, _, _, _, zoOf u sz o, rfl, .lt ?_, .lt ?_, .ls ?_, .ls ?_, rfl⟩ (fun x H4 sm4 hv4 => q _ _ ?_ hv4)
        · show (o.flatten.map _).length < 1000; rw [List.length_map]; omega
        · show (o.flatten.map _).length < 1000; rw [List.length_map]; omega
        · show (List.replicate o.flatten.length _).length < 1000; rw [List.length_replicate]; omega
        · show (((List.range o.length).map (eI o)).map PyData.int).length < 1000; rw [List.length_map, List.length_map, List.length_range]; omega
        · have smG : Same H2 G := sm_of hE (fun x v m e => f x v m (by rw [upd_ne (by simpa using m)]; exact e))
          exact ((sm.trans smG).trans s2).trans sm4
end

section
variable {P : Program} {w : World} {K : PySem.W.Frag} {mg : Str → Option Value} {base : Heap}
local macro_rules | `(tactic| walk_at "fl.t") => `(tactic| (with_reducible refine g_chainW ?_))
local macro_rules | `(tactic| walk_at "fl.t") => `(tactic| ((with_reducible refine sc_app ?_ ?_); (focus assumption)))
local macro_rules | `(tactic| walk_at "fl.t") => `(tactic| (with_reducible refine g_mkP ?_))
local macro_rules | `(tactic| walk_at "fl.t") => `(tactic| (with_reducible refine g_callS ?_))
local macro_rules | `(tactic| walk_at "fl.t") => `(tactic| (with_reducible refine g_ifE ?_))
local macro_rules | `(tactic| walk_at "fl.w") => `(tactic| repeat walk_at "fl.t")
theorem log_small {i : Int} (h : i.natAbs < 10000) : i.natAbs.log2 < 1920 := by
  by_cases z : i.natAbs = 0
  · rw [z]; decide
  · have := (Nat.log2_lt (k := 14) z).mpr (by omega)
    omega
theorem int_len {i : Int} (h : i.natAbs < 10000) : (Str.ofString (toString i)).cps.size ≤ 1921 := PyProof.Rows.int_text_len_1921 (log_small h)
theorem mk_UG (T : Txt K mg) : MkN1 P w K mg base 1 "UnknownGlyph" "number" ps_UnknownGlyph :=
  mkN1_of T.mk_UnknownGlyph rfl sc_UnknownGlyph (fun kV doc pm an cdv ct us h => match us, h with | [_, _], _ => rfl) (fun fa cdv A outer s H a i Q E hr hi h q => by
    refine ⟨_, pss_cons (ps_expr (pe_binit (by rfl) T.x_FleuronError T.b_FleuronError (pa_cons (pv 0) (pa_cons (pe_joined (.cons pe_str (.cons (pe_fmt (pv 1)) .nil))) pa_nil)))) (pss_one (ps_ost (pv 0) (pv 1))), ?_⟩
    have hz : (6000 : Nat) ≤ sizeLine := by decide
    have li := int_len hi
    have h0 : (Str.empty.cps).size = 0 := rfl
    have h1 : (Str.ofString "there is no glyph ").cps.size ≤ 40 := by decide
    refine ⟨.ref a, rfl, ⟨_, rfl, ?_, .int i, rfl, .inr ⟨i, rfl, log_small hi, ⟨_, rfl, ?_, ?_⟩⟩⟩⟩
    · show (Str.empty.cps ++ (Str.ofString "there is no glyph ").cps).size ≤ sizeLine
      rw [Array.size_append]
      omega
    · show (Str.empty.cps ++ (Str.ofString "there is no glyph ").cps ++ (Str.ofString (toString i)).cps).size ≤ sizeLine
      rw [Array.size_append, Array.size_append]
      omega
    · exact ⟨a, adr mg "UnknownGlyph", [_], rfl, by simp, T.mk_UnknownGlyph.o, h, .int i, rfl, .ref a, rfl, a, adr mg "UnknownGlyph", rfl, T.mk_UnknownGlyph.o, T.mk_UnknownGlyph.n, .inl ⟨h, fun dx hd hne => q dx hd hne⟩⟩)
def spCk (mg : Str → Option Value) : Sp := fun vs H Q _ => ∃ (S : List Addr) (v : V) (f : FoR) (n : Int), vs = [v, .int n] ∧ Dq S H v (foD (cs mg) f) ∧ 0 ≤ n ∧ n < f.glyphs.length ∧ Q .non H
theorem ok_check_known (T : Txt K mg) : Has P w K mg base 1 "check_known" ps_check_known (spCk mg) := by
  obtain ⟨_, _, _, _, _, _, _, _, _, _, _, _, _, _, cF⟩ := T.c_Font
  have clF := cF.cl
  have naF := cF.na
  refine has_of T.d_check_known sc_check_known bd_check_known (fun vs H Q E h => ?_) (fun f cdv A outer s H vs Q E hr h => ?_)
  · obtain ⟨S, v, f, n, rfl, _⟩ := h
    rfl
  · obtain ⟨S, v, fo, n, rfl, h1, n0, n1, q⟩ := h
    obtain ⟨fa, fdx, w1, w2, w3, w4, w5, w6, w7, w8, w9, rfl, fna, fA, j1, j2, j3, j4, j5, j6, j7, j8, j9⟩ := foE h1
    obtain ⟨b, gs, rfl, hb, hbl, _⟩ := lstN j2
    refine ⟨_, (pss_one (ps_if (pt_not (pt_chain op_le op_lt pe_int (pv 1) (pe_callB (clLen (K := K) rfl) (by rfl) T.z_len (by decide +kernel) (pa_cons (peFld (K := K) rfl (pv 0) rfl) pa_nil))))
        pss_never
        pss_nil)), ?_⟩
    walk_at "fl.w"
    refine g_yesB n0 ?_
    walk_at "fl.w"
    refine g_nB (show n < (gs.length : Int) by omega) ?_
    walk_at "fl.w"
    exact q
def spCkX (mg : Str → Option Value) : Sp := fun vs H _ E => ∃ (S : List Addr) (v : V) (f : FoR) (n : Int), vs = [v, .int n] ∧ Dq S H v (foD (cs mg) f) ∧ (n < 0 ∨ f.glyphs.length ≤ n) ∧ n.natAbs < 10000 ∧ ∀ dx, H dx = none → E (.ref (adr mg "UnknownGlyph")) (some dx) (upd H dx (.xd [("number", .int n)]))
theorem ok_check_knownX (T : Txt K mg) : HasXN P w K mg base 3 "check_known" ps_check_known (spCkX mg) := by
  have hM_UnknownGlyph := mk_UG (P := P) (w := w) (base := base) T
  obtain ⟨_, _, _, _, _, _, _, _, _, _, _, _, _, _, cF⟩ := T.c_Font
  have clF := cF.cl
  have naF := cF.na
  refine hasXN_of T.d_check_known sc_check_known bd_check_known (fun vs H Q E h => ?_) (fun f cdv A outer s H vs Q E hr h => ?_)
  · obtain ⟨S, v, f, n, rfl, _⟩ := h
    rfl
  · obtain ⟨S, v, fo, n, rfl, h1, n0, nz, q⟩ := h
    obtain ⟨fa, fdx, w1, w2, w3, w4, w5, w6, w7, w8, w9, rfl, fna, fA, j1, j2, j3, j4, j5, j6, j7, j8, j9⟩ := foE h1
    obtain ⟨b, gs, rfl, hb, hbl, _⟩ := lstN j2
    refine ⟨_, (pss_one (ps_if (pt_not (pt_chain op_le op_lt pe_int (pv 1) (pe_callB (clLen (K := K) rfl) (by rfl) T.z_len (by decide +kernel) (pa_cons (peFld (K := K) rfl (pv 0) rfl) pa_nil))))
        (pss_one (ps_raiseN1N hM_UnknownGlyph rfl (hr.mono (by decide)) (L2N.takes_of rfl rfl rfl rfl) (pa_cons (pv 1) pa_nil)))
        pss_nil)), ?_⟩
    walk_at "fl.w"
    by_cases h0 : 0 ≤ n
    · refine g_yesB h0 ?_
      walk_at "fl.w"
      refine g_noNB (show ¬ n < (gs.length : Int) by omega) ?_
      walk_at "fl.w"
      exact g_raiseN1 (i := n) (fun R r => ⟨_, rfl, r⟩) nz q
    · refine g_noB h0 ?_
      walk_at "fl.w"
      exact g_raiseN1 (i := n) (fun R r => ⟨_, rfl, r⟩) nz q
def prgOf (u s : Int) (g : GlG) (f : FoG) : PgR := ⟨g.hint.map s1i, f.fns.map fun c => c.map s1i, (f.pres.map (scl u s)).map PyData.int, .int s⟩
def fPo (mg : Str → Option Value) (VL : FoR → LkR → Prop) (ds : List PyData) (d : PyData) : Prop := ∃ (f : FoG) (g : GlG) (n : Nat) (s : Int), ds = [foD (cs mg) f.R, .int n, .int s] ∧ f.Ok VL ∧ f.glyphs[n]? = some g ∧ 1 ≤ s ∧ s ≤ 1000 ∧ d = insD (adr mg "Program") (prgOf f.unit s g f).F
theorem ok_program_of (T : Txt K mg) (VL : FoR → LkR → Prop) : Has P w K mg base 4 "program_of" ps_program_of (spD (fPo mg VL)) := by
  obtain ⟨_, _, _, _, _, _, _, _, _, _, _, _, _, _, cF⟩ := T.c_Font
  have clF := cF.cl
  have naF := cF.na
  obtain ⟨_, _, _, _, _, _, _, _, cG⟩ := T.c_Glyph
  have clG := cG.cl
  have naG := cG.na
  obtain ⟨e1, e2, m1, m2, c⟩ := T.c_Program
  have mk_Program_1_functions_presets_size := mk_Prog (ok_Program (P := P) (w := w) (base := base) T c)
  have h_check_known := ok_check_known (P := P) (w := w) (base := base) T
  have h_scaled := ok_scaled (P := P) (w := w) (base := base) T
  refine has_of T.d_program_of sc_program_of bd_program_of (fun vs H Q E h => ?_) (fun f cdv A outer s H vs Q E hr h => ?_)
  · obtain ⟨S, ds, d, _, hd, ⟨f, g, n, s, rfl, _⟩, _⟩ := h
    rw [hd.len]; rfl
  · obtain ⟨S, ds, d, hS, hd, ⟨fo, g, n, sz, rfl, fok, hg, s0, s1, rfl⟩, q⟩ := h
    obtain ⟨v1, _, rfl, h1, hd⟩ := hd.consE
    obtain ⟨v2, _, rfl, h2, hd⟩ := hd.consE
    obtain ⟨v3, _, rfl, h3, hd⟩ := hd.consE
    cases hd.nilE
    cases h2.intE
    cases h3.intE
    have h1' := h1
    obtain ⟨fa, fdx, w1, w2, w3, w4, w5, w6, w7, w8, w9, rfl, fna, fA, j1, j2, j3, j4, j5, j6, j7, j8, j9⟩ := foE h1'
    have j1 : Dq S H w1 (.int fo.unit) := j1
    cases j1.intE
    obtain ⟨u0, u1⟩ := fok.un
    have j9 : Dq S H w9 (.list (fo.pres.map PyData.int)) := j9
    have j2' : Dq S H w2 (.list (fo.glyphs.map fun g => glD (cs mg) g.R)) := by
      simp only [FoG.R, List.map_map] at j2
      exact j2
    obtain ⟨b, gs, rfl, hb, hbl, hG⟩ := lstN j2'
    obtain ⟨x, hx, dx⟩ := hG.getD (i := n) (d := glD (cs mg) g.R) (by rw [List.getElem?_map, hg]; rfl)
    have ax : atI gs (n : Int) = some x := atI_nat hx
    obtain ⟨ga, gdx, u1', u2, u3, u4, u5, u6, u7, rfl, gna, gA, m1, m2, m3, m4, m5, m6, m7⟩ := glE dx
    have hn : n < fo.glyphs.length := (List.getElem?_eq_some_iff.mp hg).1
    have gok := fok.go g (List.mem_of_getElem? hg)
    refine ⟨_, (pss_cons (ps_expr (pe_h h_check_known (hr.mono (by decide)) (pa_cons (pv 0) (pa_cons (pv 1) pa_nil))))
      (pss_cons (ps_setLc (i := 3) (own := [("n", 4)]) rfl sc_program_of.nd rfl rfl (sw_true rfl rfl rfl (by decide +kernel)) (piL (K := K) rfl (peFld (K := K) rfl (pv 0) rfl)) (blkOk_by (by kernel_rfl)) (fun _ _ _ _ _ => (pg_name (i := 4) sc_program_of.nd rfl (.inl rfl))) (fun _ _ _ _ _ => pts_nil) (fun _ _ _ _ _ => (pe_h h_scaled (hr.mono (by decide)) (pa_cons (peFld (K := K) rfl (pv 0) rfl) (pa_cons (pv 2) (pa_cons (pv 4) pa_nil))))))
      (pss_one (ps_ret (pe_mk (mg := mg) rfl mk_Program_1_functions_presets_size (hr.mono (by decide)) (pa_cons (peFld (K := K) rfl (pe_ix (ixL (K := K) rfl) (peFld (K := K) rfl (pv 0) rfl) (pv 1) (fun _ _ => rfl)) rfl) pa_nil) (pk_cons (peFld (K := K) rfl (pv 0) rfl) (pk_cons (pv 3) (pk_cons (pv 2) pk_nil)))))))), ?_⟩
    walk_at "fl.w"
    refine ⟨S, _, fo.R, (n : Int), rfl, h1, by omega, by show (n : Int) < ((fo.glyphs.map GlG.R).length : Nat); rw [List.length_map]; omega, ?_⟩
    obtain ⟨b9, ps, rfl, n9, hb9, hP⟩ := j9.lstE
    walk_at "fl.w"
    refine lcL (S := S) (fun i => (fo.pres[i]?).map fun p => .int (scl fo.unit sz p)) hS (.lst n9 hb9 hP) (by rw [List.length_map]; have := fok.ps.1; omega) ?_ ?_
    · intro D j y e G hD he smG al hye R N hR hN
      obtain ⟨p, hp, rfl⟩ := at_map he
      cases hye.intE
      obtain ⟨p0, p1⟩ := fok.ps.2 p (List.mem_of_getElem? hp)
      have sx : ScIn fo.unit sz p := ⟨u0, u1, s0, s1, by omega, by omega⟩
      have fA2 := smG _ _ fA
      refine g_name ⟨rfl, ?_⟩
      walk_at "fl.w"
      exact hR _ _ _ (by rw [hp]; rfl) (L2.Same.refl _) (.int _)
    · intro D H2 sm hD hq
      rw [fm_ltA (by rw [List.length_map])] at hq
      have fA2 := sm _ _ fA
      have hb2 := sm _ _ hb
      have gA2 := sm _ _ gA
      have m7' := m7.same sm
      have j8' : Dq S H2 w8 (ouD3 (fo.fns.map fun (c : List (Str × Int)) => c.map s1i)) := j8.same sm
      have hq : Dq S H2 (.ref D) (.list ((fo.pres.map (scl fo.unit sz)).map PyData.int)) := by rw [List.map_map]; exact hq
      walk_at "fl.w"
      refine g_mk rfl rfl (mk_app (f := fPgR) (ws := [u7, w8, .ref D, .int sz]) S [ltD (g.hint.map s1i), ouD3 (fo.fns.map fun (c : List (Str × Int)) => c.map s1i), .list ((fo.pres.map (scl fo.unit sz)).map PyData.int), .int sz] (prgOf fo.unit sz g fo).F (fun x => rfl) (hS.same sm) (.cons (.inl m7') (.cons (.inl j8') (.cons (.inl hq) (.cons (.inl (.int _)) .nil))))
        ⟨_, _, _, prgOf fo.unit sz g fo, rfl, .lt ?_, .ou ?_ ?_, .ls ?_, (by intro e; cases e), rfl⟩ fun x H4 sm4 hv4 => q _ _ (sm.trans sm4) hv4)
      · show (g.hint.map s1i).length < 1000; rw [List.length_map]; have := gok.hi.1; omega
      · show (fo.fns.map _).length < 1000; rw [List.length_map]; have := fok.fn.1; omega
      · intro c m
        obtain ⟨c', m', rfl⟩ := List.mem_map.mp (show c ∈ fo.fns.map fun c => c.map s1i from m)
        rw [List.length_map]
        have := (fok.fn.2 c' m').1
        omega
      · show ((fo.pres.map (scl fo.unit sz)).map PyData.int).length < 1000; rw [List.length_map, List.length_map]; have := fok.ps.1; omega
def spPoX (mg : Str → Option Value) : Sp := fun vs H _ E => ∃ (S : List Addr) (v : V) (f : FoR) (n s : Int), vs = [v, .int n, .int s] ∧ Dq S H v (foD (cs mg) f) ∧ (n < 0 ∨ f.glyphs.length ≤ n) ∧ n.natAbs < 10000 ∧ ∀ dx, H dx = none → E (.ref (adr mg "UnknownGlyph")) (some dx) (upd H dx (.xd [("number", .int n)]))
theorem ok_program_ofX (T : Txt K mg) : HasXN P w K mg base 4 "program_of" ps_program_of (spPoX mg) := by
  have hX_check_known := ok_check_knownX (P := P) (w := w) (base := base) T
  have h_scaled := ok_scaled (P := P) (w := w) (base := base) T
  obtain ⟨_, _, _, _, _, _, _, _, _, _, _, _, _, _, cF⟩ := T.c_Font
  have clF := cF.cl
  have naF := cF.na
  obtain ⟨_, _, _, _, _, _, _, _, cG⟩ := T.c_Glyph
  have clG := cG.cl
  have naG := cG.na
  obtain ⟨e1, e2, m1, m2, c⟩ := T.c_Program
  have mk_Program_1_functions_presets_size := mk_Prog (ok_Program (P := P) (w := w) (base := base) T c)
  refine hasXN_of T.d_program_of sc_program_of bd_program_of (fun vs H Q E h => ?_) (fun f cdv A outer s H vs Q E hr h => ?_)
  · obtain ⟨S, v, f, n, s, rfl, _⟩ := h
    rfl
  · obtain ⟨S, v, fo, n, sz, rfl, h1, n0, nz, q⟩ := h
    refine ⟨_, (pss_cons (ps_expr (pe_hXN hX_check_known (hr.mono (by decide)) (L2N.takes_of rfl rfl rfl rfl) (pa_cons (pv 0) (pa_cons (pv 1) pa_nil))))
      (pss_cons (ps_setLc (i := 3) (own := [("n", 4)]) rfl sc_program_of.nd rfl rfl (sw_true rfl rfl rfl (by decide +kernel)) (piL (K := K) rfl (peFld (K := K) rfl (pv 0) rfl)) (blkOk_by (by kernel_rfl)) (fun _ _ _ _ _ => (pg_name (i := 4) sc_program_of.nd rfl (.inl rfl))) (fun _ _ _ _ _ => pts_nil) (fun _ _ _ _ _ => (pe_h h_scaled (hr.mono (by decide)) (pa_cons (peFld (K := K) rfl (pv 0) rfl) (pa_cons (pv 2) (pa_cons (pv 4) pa_nil))))))
      (pss_one (ps_ret (pe_mk (mg := mg) rfl mk_Program_1_functions_presets_size (hr.mono (by decide)) (pa_cons (peFld (K := K) rfl (pe_ix (ixL (K := K) rfl) (peFld (K := K) rfl (pv 0) rfl) (pv 1) (fun _ _ => rfl)) rfl) pa_nil) (pk_cons (peFld (K := K) rfl (pv 0) rfl) (pk_cons (pv 3) (pk_cons (pv 2) pk_nil)))))))), ?_⟩
    walk_at "fl.w"
    exact ⟨S, v, fo, n, rfl, h1, n0, nz, q⟩
def spUn (mg : Str → Option Value) : Sp := fun vs H Q _ => ∃ (S : List Addr) (v : V) (f : FoR) (n s : Int), vs = [v, .int n, .int s] ∧ Dq S H v (foD (cs mg) f) ∧ (n < 0 ∨ f.glyphs.length ≤ n) ∧ n.natAbs < 10000 ∧ ∀ H', Same H H' → Q (.bl true) H'
theorem ok_law_same (T : Txt K mg) : Has P w K mg base 1 "_law_same" ps_law_same spSm1 := by
  refine has_of T.d_law_same sc_law_same bd_law_same (fun vs H Q E h => ?_) (fun f cdv A outer s H vs Q E hr h => ?_)
  · obtain ⟨S, S', d, x, y, rfl, _⟩ := h
    rfl
  · obtain ⟨S, S', d, x, y, rfl, hf, hx, hy, q⟩ := h
    refine ⟨_, (pss_cons (ps_if (pt_val (pe_callB (clIsi (K := K) rfl) (by rfl) T.z_isinstance (by decide +kernel) (pa_cons (pv 1) (pa_cons (pe_bltn (v := .ty "tuple") (by rfl) T.z_tuple (by decide +kernel) rfl) pa_nil))))
        pss_never
        pss_nil)
      (pss_cons (ps_if (PW.pt (pw_or (pt_val (pe_callB (clIsi (K := K) rfl) (by rfl) T.z_isinstance (by decide +kernel) (pa_cons (pv 1) (pa_cons (pe_bltn (v := .ty "bool") (by rfl) T.z_bool (by decide +kernel) rfl) pa_nil)))) (pw_or1 (pt_val (pe_callB (clIsi (K := K) rfl) (by rfl) T.z_isinstance (by decide +kernel) (pa_cons (pv 0) (pa_cons (pe_bltn (v := .ty "bool") (by rfl) T.z_bool (by decide +kernel) rfl) pa_nil)))))))
        (pss_one (ps_ret (pe_and (pe_callB (clIsi (K := K) rfl) (by rfl) T.z_isinstance (by decide +kernel) (pa_cons (pv 1) (pa_cons (pe_bltn (v := .ty "bool") (by rfl) T.z_bool (by decide +kernel) rfl) pa_nil))) (pe_and (pe_callB (clIsi (K := K) rfl) (by rfl) T.z_isinstance (by decide +kernel) (pa_cons (pv 0) (pa_cons (pe_bltn (v := .ty "bool") (by rfl) T.z_bool (by decide +kernel) rfl) pa_nil))) (pe_one (pe_cmpR op_eq (pv 1) (pv 0) (nomark _)))))))
        pss_nil)
      (pss_cons (ps_if (pt_val (pe_callB (clIsi (K := K) rfl) (by rfl) T.z_isinstance (by decide +kernel) (pa_cons (pv 1) (pa_cons (pe_bltn (v := .ty "int") (by rfl) T.z_int (by decide +kernel) rfl) pa_nil))))
        (pss_one (ps_ret (pe_and (pe_callB (clIsi (K := K) rfl) (by rfl) T.z_isinstance (by decide +kernel) (pa_cons (pv 0) (pa_cons (pe_bltn (v := .ty "int") (by rfl) T.z_int (by decide +kernel) rfl) pa_nil))) (pe_one (pe_cmpR op_eq (pv 0) (pv 1) (nomark _))))))
        pss_nil)
      (pss_cons (ps_if (pt_val (pe_callB (clIsi (K := K) rfl) (by rfl) T.z_isinstance (by decide +kernel) (pa_cons (pv 1) (pa_cons (pe_bltn (v := .ty "str") (by rfl) T.z_str (by decide +kernel) rfl) pa_nil))))
        (pss_one (ps_ret (pe_and (pe_callB (clIsi (K := K) rfl) (by rfl) T.z_isinstance (by decide +kernel) (pa_cons (pv 0) (pa_cons (pe_bltn (v := .ty "str") (by rfl) T.z_str (by decide +kernel) rfl) pa_nil))) (pe_one (pe_cmpR op_eq (pv 0) (pv 1) (nomark _))))))
        pss_nil)
      (pss_one (ps_ret (pe_and (pe_cmpR op_isN (pv 1) pe_non (nomark _)) (pe_one (pe_cmpR op_isN (pv 0) pe_non (nomark _)))))))))), ?_⟩
    cases d with
    | int i =>
      cases hx.intE
      cases hy.intE
      walk_at "fl.wr"
      rw [decide_eq_true rfl]
      exact q
    | bool b =>
      cases hx.blE
      cases hy.blE
      walk_at "fl.wr"
      rw [decide_eq_true rfl]
      exact q
    | none =>
      cases hx.nonE
      cases hy.nonE
      walk_at "fl.w"
      refine g_ite (fun _ => ?_) (fun h => absurd rfl h)
      walk_at "fl.w"
      rw [decide_eq_true rfl]
      exact q
    | str _ => cases hf
    | list _ => cases hf
    | tuple _ => cases hf
    | dict _ => cases hf
theorem ok_law_sameH (T : Txt K mg) : HasH P w K mg base 1 "_law_same" ps_law_same spSm1 := by
  refine hasH_of T.d_law_same sc_law_same bd_law_same (fun vs H Q E h => ?_) (fun f cdv A outer s H vs Q E p hot hr h => ?_)
  · obtain ⟨S, S', d, x, y, rfl, _⟩ := h
    rfl
  · obtain ⟨S, S', d, x, y, rfl, hf, hx, hy, q⟩ := h
    refine ⟨_, (pss_cons (ps_if (pt_val (pe_callB (clIsi (K := K) rfl) (by rfl) T.z_isinstance (by decide +kernel) (pa_cons (pv 1) (pa_cons (pe_bltn (v := .ty "tuple") (by rfl) T.z_tuple (by decide +kernel) rfl) pa_nil))))
        pss_never
        pss_nil)
      (pss_cons (ps_if (PW.pt (pw_or (pt_val (pe_callB (clIsi (K := K) rfl) (by rfl) T.z_isinstance (by decide +kernel) (pa_cons (pv 1) (pa_cons (pe_bltn (v := .ty "bool") (by rfl) T.z_bool (by decide +kernel) rfl) pa_nil)))) (pw_or1 (pt_val (pe_callB (clIsi (K := K) rfl) (by rfl) T.z_isinstance (by decide +kernel) (pa_cons (pv 0) (pa_cons (pe_bltn (v := .ty "bool") (by rfl) T.z_bool (by decide +kernel) rfl) pa_nil)))))))
        (pss_one (ps_ret (pe_and (pe_callB (clIsi (K := K) rfl) (by rfl) T.z_isinstance (by decide +kernel) (pa_cons (pv 1) (pa_cons (pe_bltn (v := .ty "bool") (by rfl) T.z_bool (by decide +kernel) rfl) pa_nil))) (pe_and (pe_callB (clIsi (K := K) rfl) (by rfl) T.z_isinstance (by decide +kernel) (pa_cons (pv 0) (pa_cons (pe_bltn (v := .ty "bool") (by rfl) T.z_bool (by decide +kernel) rfl) pa_nil))) (pe_one (pe_cmpR op_eq (pv 1) (pv 0) (nomark _)))))))
        pss_nil)
      (pss_cons (ps_if (pt_val (pe_callB (clIsi (K := K) rfl) (by rfl) T.z_isinstance (by decide +kernel) (pa_cons (pv 1) (pa_cons (pe_bltn (v := .ty "int") (by rfl) T.z_int (by decide +kernel) rfl) pa_nil))))
        (pss_one (ps_ret (pe_and (pe_callB (clIsi (K := K) rfl) (by rfl) T.z_isinstance (by decide +kernel) (pa_cons (pv 0) (pa_cons (pe_bltn (v := .ty "int") (by rfl) T.z_int (by decide +kernel) rfl) pa_nil))) (pe_one (pe_cmpR op_eq (pv 0) (pv 1) (nomark _))))))
        pss_nil)
      (pss_cons (ps_if (pt_val (pe_callB (clIsi (K := K) rfl) (by rfl) T.z_isinstance (by decide +kernel) (pa_cons (pv 1) (pa_cons (pe_bltn (v := .ty "str") (by rfl) T.z_str (by decide +kernel) rfl) pa_nil))))
        (pss_one (ps_ret (pe_and (pe_callB (clIsi (K := K) rfl) (by rfl) T.z_isinstance (by decide +kernel) (pa_cons (pv 0) (pa_cons (pe_bltn (v := .ty "str") (by rfl) T.z_str (by decide +kernel) rfl) pa_nil))) (pe_one (pe_cmpR op_eq (pv 0) (pv 1) (nomark _))))))
        pss_nil)
      (pss_one (ps_ret (pe_and (pe_cmpR op_isN (pv 1) pe_non (nomark _)) (pe_one (pe_cmpR op_isN (pv 0) pe_non (nomark _)))))))))), ?_⟩
    cases d with
    | int i =>
      cases hx.intE
      cases hy.intE
      walk_at "fl.wr"
      rw [decide_eq_true rfl]
      exact q
    | bool b =>
      cases hx.blE
      cases hy.blE
      walk_at "fl.wr"
      rw [decide_eq_true rfl]
      exact q
    | none =>
      cases hx.nonE
      cases hy.nonE
      walk_at "fl.w"
      refine g_ite (fun _ => ?_) (fun h => absurd rfl h)
      walk_at "fl.w"
      rw [decide_eq_true rfl]
      exact q
    | str _ => cases hf
    | list _ => cases hf
    | tuple _ => cases hf
    | dict _ => cases hf
theorem ok_law_unknown (T : Txt K mg) : Has P w K mg base 5 "_law_unknown" ps_law_unknown (spUn mg) := by
  have hX_program_of := ok_program_ofX (P := P) (w := w) (base := base) T
  have hH_law_same := ok_law_sameH (P := P) (w := w) (base := base) T
  refine has_of T.d_law_unknown sc_law_unknown bd_law_unknown (fun vs H Q E h => ?_) (fun f cdv A outer s H vs Q E hr h => ?_)
  · obtain ⟨S, v, f, n, s, rfl, _⟩ := h
    rfl
  · obtain ⟨S, v, fo, n, sz, rfl, h1, n0, nz, q⟩ := h
    refine ⟨_, (pss_cons (L2N.ps_try_as (i := 3) rfl rfl sc_law_unknown.nd rfl rfl ⟨rfl, by decide, .inl T.mk_UnknownGlyph.g⟩ takes0N
        (fun W pn xe tk _ => (pss_one (ps_expr (pe_hXN hX_program_of (hr.mono (by decide)) tk (pa_cons (pv 0) (pa_cons (pv 1) (pa_cons (pv 2) pa_nil)))))))
        (fun a oe cls d pn hz hf => (pss_one (ps_ret (pe_hH hH_law_same (roomH_mk (hr.mono (by decide))) (hotC_of hz hf rfl List.mem_cons_self) (pa_cons (pe_xf T.mk_UnknownGlyph.r T.mk_UnknownGlyph.n hz.zc hf (pv 3)) (pa_cons (pv 1) pa_nil)))))))
      (pss_one (ps_ret pe_bl))), ?_⟩
    walk_at "fl.w"
    refine ⟨S, v, fo, n, sz, rfl, h1, n0, nz, fun dx hdx => ?_⟩
    refine wAs_yes T.ms_UnknownGlyph (fun b hb => ?_)
    walk_at "fl.w"
    refine g_xf rfl upd_same rfl ?_
    walk_at "fl.w"
    refine ⟨[], [], .int n, _, _, rfl, trivial, .int _, .int _, ?_⟩
    walk_at "fl.w"
    exact q _ (Fl.Same.new hdx)
end

section
variable {P : Program} {w : World} {K : PySem.W.Frag} {mg : Str → Option Value} {base : Heap}
local macro_rules | `(tactic| walk_at "fl.t") => `(tactic| (with_reducible refine g_chainW ?_))
local macro_rules | `(tactic| walk_at "fl.t") => `(tactic| (with_reducible refine g_ifE ?_))
local macro_rules | `(tactic| walk_at "fl.w") => `(tactic| repeat walk_at "fl.t")
def spSmB : Sp := fun vs H Q E => spSm1 vs H Q E ∨ spSm2 vs H Q E
theorem ok_law_sameB (T : Txt K mg) : Has P w K mg base 2 "_law_same" ps_law_same spSmB := by
  have h_law_same := ok_law_same (P := P) (w := w) (base := base) T
  refine has_of T.d_law_same sc_law_same bd_law_same (fun vs H Q E h => ?_) (fun f cdv A outer s H vs Q E hr h => ?_)
  · rcases h with ⟨S, S', d, x, y, rfl, _⟩ | ⟨S, S', d, x, y, rfl, _⟩
    · rfl
    · rfl
  · rcases h with h | h
    · obtain ⟨S, S', d, x, y, rfl, hf, hx, hy, q⟩ := h
      refine ⟨_, (pss_cons (ps_if (pt_val (pe_callB (clIsi (K := K) rfl) (by rfl) T.z_isinstance (by decide +kernel) (pa_cons (pv 1) (pa_cons (pe_bltn (v := .ty "tuple") (by rfl) T.z_tuple (by decide +kernel) rfl) pa_nil))))
        pss_never
        pss_nil)
      (pss_cons (ps_if (PW.pt (pw_or (pt_val (pe_callB (clIsi (K := K) rfl) (by rfl) T.z_isinstance (by decide +kernel) (pa_cons (pv 1) (pa_cons (pe_bltn (v := .ty "bool") (by rfl) T.z_bool (by decide +kernel) rfl) pa_nil)))) (pw_or1 (pt_val (pe_callB (clIsi (K := K) rfl) (by rfl) T.z_isinstance (by decide +kernel) (pa_cons (pv 0) (pa_cons (pe_bltn (v := .ty "bool") (by rfl) T.z_bool (by decide +kernel) rfl) pa_nil)))))))
        (pss_one (ps_ret (pe_and (pe_callB (clIsi (K := K) rfl) (by rfl) T.z_isinstance (by decide +kernel) (pa_cons (pv 1) (pa_cons (pe_bltn (v := .ty "bool") (by rfl) T.z_bool (by decide +kernel) rfl) pa_nil))) (pe_and (pe_callB (clIsi (K := K) rfl) (by rfl) T.z_isinstance (by decide +kernel) (pa_cons (pv 0) (pa_cons (pe_bltn (v := .ty "bool") (by rfl) T.z_bool (by decide +kernel) rfl) pa_nil))) (pe_one (pe_cmpR op_eq (pv 1) (pv 0) (nomark _)))))))
        pss_nil)
      (pss_cons (ps_if (pt_val (pe_callB (clIsi (K := K) rfl) (by rfl) T.z_isinstance (by decide +kernel) (pa_cons (pv 1) (pa_cons (pe_bltn (v := .ty "int") (by rfl) T.z_int (by decide +kernel) rfl) pa_nil))))
        (pss_one (ps_ret (pe_and (pe_callB (clIsi (K := K) rfl) (by rfl) T.z_isinstance (by decide +kernel) (pa_cons (pv 0) (pa_cons (pe_bltn (v := .ty "int") (by rfl) T.z_int (by decide +kernel) rfl) pa_nil))) (pe_one (pe_cmpR op_eq (pv 0) (pv 1) (nomark _))))))
        pss_nil)
      (pss_cons (ps_if (pt_val (pe_callB (clIsi (K := K) rfl) (by rfl) T.z_isinstance (by decide +kernel) (pa_cons (pv 1) (pa_cons (pe_bltn (v := .ty "str") (by rfl) T.z_str (by decide +kernel) rfl) pa_nil))))
        (pss_one (ps_ret (pe_and (pe_callB (clIsi (K := K) rfl) (by rfl) T.z_isinstance (by decide +kernel) (pa_cons (pv 0) (pa_cons (pe_bltn (v := .ty "str") (by rfl) T.z_str (by decide +kernel) rfl) pa_nil))) (pe_one (pe_cmpR op_eq (pv 0) (pv 1) (nomark _))))))
        pss_nil)
      (pss_one (ps_ret (pe_and (pe_cmpR op_isN (pv 1) pe_non (nomark _)) (pe_one (pe_cmpR op_isN (pv 0) pe_non (nomark _)))))))))), ?_⟩
      cases d with
      | int i =>
        cases hx.intE
        cases hy.intE
        walk_at "fl.wr"
        rw [decide_eq_true rfl]
        exact q
      | bool b =>
        cases hx.blE
        cases hy.blE
        walk_at "fl.wr"
        rw [decide_eq_true rfl]
        exact q
      | none =>
        cases hx.nonE
        cases hy.nonE
        walk_at "fl.w"
        refine g_ite (fun _ => ?_) (fun h => absurd rfl h)
        walk_at "fl.w"
        rw [decide_eq_true rfl]
        exact q
      | str _ => cases hf
      | list _ => cases hf
      | tuple _ => cases hf
      | dict _ => cases hf
    · obtain ⟨S, S', d, x, y, rfl, ⟨es, rfl, hz, hf⟩, hx, hy, q⟩ := h
      obtain ⟨a, xs, rfl, na, rx, hA⟩ := hx.tupE
      obtain ⟨b, ys, rfl, nb, ry, hB⟩ := hy.tupE
      have hlx := hA.len
      have hly := hB.len
      have hle : ((xs.length : Nat) : Int) = (ys.length : Nat) := by omega
      refine ⟨_, (pss_cons (ps_if (pt_val (pe_callB (clIsi (K := K) rfl) (by rfl) T.z_isinstance (by decide +kernel) (pa_cons (pv 1) (pa_cons (pe_bltn (v := .ty "tuple") (by rfl) T.z_tuple (by decide +kernel) rfl) pa_nil))))
        (pss_cons (ps_if (PW.pt (pw_or (pt_not (pt_val (pe_callB (clIsi (K := K) rfl) (by rfl) T.z_isinstance (by decide +kernel) (pa_cons (pv 0) (pa_cons (pe_bltn (v := .ty "tuple") (by rfl) T.z_tuple (by decide +kernel) rfl) pa_nil))))) (pw_or1 (pt_cmpR op_ne (pe_callB (clLen (K := K) rfl) (by rfl) T.z_len (by decide +kernel) (pa_cons (pv 0) pa_nil)) (pe_callB (clLen (K := K) rfl) (by rfl) T.z_len (by decide +kernel) (pa_cons (pv 1) pa_nil)) (nomark _)))))
        (pss_one (ps_ret pe_bl))
        pss_nil)
      (pss_cons (ps_for PassesOwn.never rfl (pi_range1 (by rfl) T.z_range (pa_cons (pe_callB (clLen (K := K) rfl) (by rfl) T.z_len (by decide +kernel) (pa_cons (pv 1) pa_nil)) pa_nil)) (pg_name (i := 2) sc_law_same.nd rfl (.inl rfl))
        (pss_one (ps_if (pt_not (pt_val (pe_h h_law_same (hr.mono (by decide)) (pa_cons (pe_ix (ixT (K := K) rfl) (pv 0) (pv 2) (fun _ _ => rfl)) (pa_cons (pe_ix (ixT (K := K) rfl) (pv 1) (pv 2) (fun _ _ => rfl)) pa_nil)))))
        (pss_one (ps_ret pe_bl))
        pss_nil)))
      (pss_one (ps_ret pe_bl))))
        pss_nil)
      (pss_cons ps_never
      (pss_cons ps_never
      (pss_cons ps_never
      (pss_one ps_never))))), ?_⟩
      walk_at "fl.w"
      refine g_iteN (fun h => absurd hle h) (fun _ => ?_)
      walk_at "fl.w"
      refine forK_r (fun i σ' H' => (∃ u, σ' = [some (.ref a), some (.ref b), u]) ∧ H' = H) ⟨⟨_, rfl⟩, rfl⟩ ?_ ?_
      · intro i σ' H' hi ⟨⟨u, e⟩, e2⟩
        subst e e2
        have hi2 : i < es.length := by omega
        have hxi : xs[i]? = some xs[i] := List.getElem?_eq_getElem (by omega)
        have hyi : ys[i]? = some ys[i] := List.getElem?_eq_getElem (by omega)
        obtain ⟨d1, hd1, dx⟩ := hA.get hxi
        obtain ⟨d2, hd2, dy⟩ := hB.get hyi
        cases hd1.symm.trans hd2
        have ax : atI xs (i : Int) = some xs[i] := atI_nat hxi
        have ay : atI ys (i : Int) = some ys[i] := atI_nat hyi
        have e0 : (0 : Int) + (i : Int) = (i : Int) := Int.zero_add _
        rw [e0]
        walk_at "fl.w"
        refine ⟨S, S', d1, _, _, rfl, hf _ (List.mem_of_getElem? hd1), dx, dy, ?_⟩
        walk_at "fl.w"
        exact ⟨⟨_, rfl⟩, rfl⟩
      · intro σ' H' ⟨⟨u, e⟩, e2⟩
        subst e e2
        walk_at "fl.w"
        exact q
def spSmlB : Sp := fun vs H Q _ => ∃ (S T : List Addr) (ds : List PyData) (x y : V), vs = [x, y] ∧ ds.length ≤ 900 ∧ (∀ d, d ∈ ds → FlD d ∨ TfD d) ∧ Dq S H x (.list ds) ∧ Dq T H y (.list ds) ∧ Q (.bl true) H
theorem ok_law_same_listB (T : Txt K mg) : Has P w K mg base 3 "_law_same_list" ps_law_same_list spSmlB := by
  have h_law_same := ok_law_sameB (P := P) (w := w) (base := base) T
  refine has_of T.d_law_same_list sc_law_same_list bd_law_same_list (fun vs H Q E h => ?_) (fun f cdv A outer s H vs Q E hr h => ?_)
  · obtain ⟨S, S', d, x, y, rfl, _⟩ := h
    rfl
  · obtain ⟨S, S', es, x, y, rfl, hz, hf, hx, hy, q⟩ := h
    obtain ⟨a, xs, rfl, na, rx, hA⟩ := hx.lstE
    obtain ⟨b, ys, rfl, nb, ry, hB⟩ := hy.lstE
    have hlx := hA.len
    have hly := hB.len
    have hle : ((xs.length : Nat) : Int) = (ys.length : Nat) := by omega
    refine ⟨_, (pss_cons (ps_if (PW.pt (pw_or (pt_not (pt_val (pe_callB (clIsi (K := K) rfl) (by rfl) T.z_isinstance (by decide +kernel) (pa_cons (pv 0) (pa_cons (pe_bltn (v := .ty "list") (by rfl) T.z_list (by decide +kernel) rfl) pa_nil))))) (pw_or1 (pt_cmpR op_ne (pe_callB (clLen (K := K) rfl) (by rfl) T.z_len (by decide +kernel) (pa_cons (pv 0) pa_nil)) (pe_callB (clLen (K := K) rfl) (by rfl) T.z_len (by decide +kernel) (pa_cons (pv 1) pa_nil)) (nomark _)))))
        (pss_one (ps_ret pe_bl))
        pss_nil)
      (pss_cons (ps_for PassesOwn.never rfl (pi_range1 (by rfl) T.z_range (pa_cons (pe_callB (clLen (K := K) rfl) (by rfl) T.z_len (by decide +kernel) (pa_cons (pv 1) pa_nil)) pa_nil)) (pg_name (i := 2) sc_law_same_list.nd rfl (.inl rfl))
        (pss_one (ps_if (pt_not (pt_val (pe_h h_law_same (hr.mono (by decide)) (pa_cons (pe_ix (ixL (K := K) rfl) (pv 0) (pv 2) (fun _ _ => rfl)) (pa_cons (pe_ix (ixL (K := K) rfl) (pv 1) (pv 2) (fun _ _ => rfl)) pa_nil)))))
        (pss_one (ps_ret pe_bl))
        pss_nil)))
      (pss_one (ps_ret pe_bl)))), ?_⟩
    walk_at "fl.w"
    refine g_iteN (fun h => absurd hle h) (fun _ => ?_)
    walk_at "fl.w"
    refine forK_r (fun i σ' H' => (∃ u, σ' = [some (.ref a), some (.ref b), u]) ∧ H' = H) ⟨⟨_, rfl⟩, rfl⟩ ?_ ?_
    · intro i σ' H' hi ⟨⟨u, e⟩, e2⟩
      subst e e2
      have hi2 : i < es.length := by omega
      have hxi : xs[i]? = some xs[i] := List.getElem?_eq_getElem (by omega)
      have hyi : ys[i]? = some ys[i] := List.getElem?_eq_getElem (by omega)
      obtain ⟨d1, hd1, dx⟩ := hA.get hxi
      obtain ⟨d2, hd2, dy⟩ := hB.get hyi
      cases hd1.symm.trans hd2
      have ax : atI xs (i : Int) = some xs[i] := atI_nat hxi
      have ay : atI ys (i : Int) = some ys[i] := atI_nat hyi
      have e0 : (0 : Int) + (i : Int) = (i : Int) := Int.zero_add _
      rw [e0]
      walk_at "fl.w"
      rcases hf _ (List.mem_of_getElem? hd1) with ht | ht
      · refine .inl ⟨S, S', d1, _, _, rfl, ht, dx, dy, ?_⟩
        walk_at "fl.w"
        exact ⟨⟨_, rfl⟩, rfl⟩
      · refine .inr ⟨S, S', d1, _, _, rfl, ht, dx, dy, ?_⟩
        walk_at "fl.w"
        exact ⟨⟨_, rfl⟩, rfl⟩
    · intro σ' H' ⟨⟨u, e⟩, e2⟩
      subst e e2
      walk_at "fl.w"
      exact q

/-- Glyph(advance, outline) -/
theorem mk_Gl2 {e1 e2 e3 e4 : Addr} {sp : Sp} (h : InI P w K mg base 2 "Glyph" "Glyph.__init__" s_Glyph fl_Glyph (kw_Glyph e1 e2 e3 e4) ps_Glyph sp) :
    MkI P w K mg base 2 "Glyph" 2 [] (fun vs zs => pick [0, 1, 2, 3, 4, 5, 6, 7] (vs ++ ([.ref e1, .ref e2, .bl false, .ref e3, .ref e4] ++ zs))) sp :=
  h.make 2 [] [("parts", .ref e1), ("anchors", .ref e2), ("mark", .bl false), ("deltas", .ref e3), ("hint", .ref e4)] [0, 1, 2, 3, 4, 5, 6, 7] (by simp) (by simp [kw_Glyph]) fun D doc pm an cdv ct us mv ws h1 h2 h3 => match us, h1, mv, h2, ws, h3 with | [_, _, _], _, [_, _, _, _, _], _, [], _ => ⟨_, _, _, _, _, _, rfl, rfl, ⟨_, _, _, _, _, _, rfl, rfl, ⟨_, _, _, _, _, _, rfl, rfl, ⟨_, _, _, _, _, _, rfl, rfl, ⟨_, _, _, _, _, _, rfl, rfl, rfl⟩⟩⟩⟩⟩
/-- Glyph(advance, outline, hint=) -/
theorem mk_GlH {e1 e2 e3 e4 : Addr} {sp : Sp} (h : InI P w K mg base 2 "Glyph" "Glyph.__init__" s_Glyph fl_Glyph (kw_Glyph e1 e2 e3 e4) ps_Glyph sp) :
    MkI P w K mg base 2 "Glyph" 2 ["hint"] (fun vs zs => pick [0, 1, 2, 3, 4, 5, 6, 7] (vs ++ ([.ref e1, .ref e2, .bl false, .ref e3] ++ zs))) sp :=
  h.make 2 ["hint"] [("parts", .ref e1), ("anchors", .ref e2), ("mark", .bl false), ("deltas", .ref e3)] [0, 1, 2, 3, 4, 5, 6, 7] (by simp) (by simp [kw_Glyph]) fun D doc pm an cdv ct us mv ws h1 h2 h3 => match us, h1, mv, h2, ws, h3 with | [_, _, _], _, [_, _, _, _], _, [_], _ => ⟨_, _, _, _, _, _, rfl, rfl, ⟨_, _, _, _, _, _, rfl, rfl, ⟨_, _, _, _, _, _, rfl, rfl, ⟨_, _, _, _, _, _, rfl, rfl, rfl⟩⟩⟩⟩
/-- Font(unit, glyphs, functions=, presets=) -/
theorem mk_FoP {e1 e2 e3 e4 e5 e6 e7 : Addr} {sp : Sp} (h : InI P w K mg base 8 "Font" "Font.__init__" s_Font fl_Font (kw_Font e1 e2 e3 e4 e5 e6 e7) ps_Font sp) :
    MkI P w K mg base 8 "Font" 2 ["functions", "presets"] (fun vs zs => pick [0, 1, 2, 3, 4, 5, 6, 7, 8, 9] (vs ++ ([.ref e1, .ref e2, .ref e3, .ref e4, .ref e5] ++ zs))) sp :=
  h.make 2 ["functions", "presets"] [("chars", .ref e1), ("lookups", .ref e2), ("features", .ref e3), ("axes", .ref e4), ("regions", .ref e5)] [0, 1, 2, 3, 4, 5, 6, 7, 8, 9] (by simp) (by simp [kw_Font]) fun D doc pm an cdv ct us mv ws h1 h2 h3 => match us, h1, mv, h2, ws, h3 with | [_, _, _], _, [_, _, _, _, _], _, [_, _], _ => ⟨_, _, _, _, _, _, rfl, rfl, ⟨_, _, _, _, _, _, rfl, rfl, ⟨_, _, _, _, _, _, rfl, rfl, ⟨_, _, _, _, _, _, rfl, rfl, ⟨_, _, _, _, _, _, rfl, rfl, rfl⟩⟩⟩⟩⟩
end
section
variable {P : Program} {w : World} {K : PySem.W.Frag} {mg : Str → Option Value} {base : Heap}
def VL0 : FoR → LkR → Prop := fun _ _ => False
/-- the law's font -/
def g0 : GlG := ⟨5, [], [], [], false, [], []⟩
def g1 (o : List (List Pt)) (h : List In) : GlG := ⟨5, o, [], [], false, [], h⟩
def fnC : List In := [in2 "push" 3, in2 "drop" 0]
def fnt (u : Int) (o : List (List Pt)) (h : List In) (n : Nat) (ps : List Int) : FoG := ⟨u, [g0, g1 o h], [], [], [], [], [], List.replicate n fnC, ps⟩
theorem flat_len : ∀ (o : List (List Pt)), (∀ c, c ∈ o → c.length ≤ 7) → o.flatten.length ≤ 7 * o.length
  | [], _ => by simp
  | c :: o, h => by
    have h1 := h c List.mem_cons_self
    have h2 := flat_len o fun c m => h c (List.mem_cons_of_mem _ m)
    rw [List.flatten_cons, List.length_append, List.length_cons]
    omega
theorem prp_in {o : List (List Pt)} (h : OuIn 2 16384 o) : prp o = true := by
  have hf := flat_len o fun c m => by have := (h.2 c m).2.1; omega
  have hz := h.1
  unfold prp
  rw [Bool.and_eq_true, Bool.and_eq_true]
  refine ⟨⟨decide_eq_true (by omega), decide_eq_true (by rw [cnt_flat]; omega)⟩, List.all_eq_true.mpr fun c m => ?_⟩
  obtain ⟨h1, _, h3⟩ := h.2 c m
  unfold okC
  rw [Bool.and_eq_true]
  refine ⟨decide_eq_true h1, List.all_eq_true.mpr fun p m => ?_⟩
  have := h3 p m
  exact decide_eq_true ⟨this.1, this.2.1, this.2.2.1, this.2.2.2⟩
theorem ins_v {r : In} (h : r.1 ∈ allV ∧ B32 r.2) : InsV r := ⟨vW _ h.1, vT _ h.1, h.2.1, by have := h.2.2; omega⟩
theorem fnt_ok {u : Int} {o : List (List Pt)} {h : List In} {n : Nat} {ps : List Int} (u0 : 16 ≤ u) (u1 : u ≤ 16384) (ho : OuIn 2 16384 o) (hl : h.length < 900) (hh : ∀ r, r ∈ h → r.1 ∈ allV ∧ B32 r.2) (hn : n ≤ 12) (hp : ps.length ≤ 32) (hq : ∀ p, p ∈ ps → -1000 ≤ p ∧ p ≤ 1000) : (fnt u o h n ps).Ok VL0 ∧ FoG.Bare (fnt u o h n ps) := by
  have hz := ho.1
  refine ⟨⟨⟨u0, u1⟩, ⟨by show 1 ≤ 2; omega, by show 2 ≤ 60; omega⟩, fun g m => ?_, ⟨fun _ => 0, fun k g hg => ⟨Nat.zero_le _, fun p m => ?_⟩⟩, ⟨by show 0 < 900; omega, fun i c e => by cases e⟩, by show 0 ≤ 20; omega, fun k m => (nomatch m), fun k m => (nomatch m), ⟨by show 0 ≤ 12; omega, by show ([] : List Str).Nodup; exact List.nodup_nil, fun p m => (nomatch m)⟩, ⟨by show 0 ≤ 3; omega, fun t m => (nomatch m)⟩, ⟨by show 0 ≤ 8; omega, fun r m => (nomatch m)⟩, ⟨by show (List.replicate n fnC).length ≤ 12; rw [List.length_replicate]; exact hn, fun c m => ?_⟩, ⟨hp, fun p m => by have := hq p m; omega⟩⟩, rfl, rfl, rfl⟩
  · rcases List.mem_cons.mp m with rfl | m
    · exact ⟨⟨by decide, by decide⟩, by decide, ⟨by decide, fun c m => (nomatch m)⟩, ⟨by decide, fun p m => (nomatch m)⟩, ⟨by decide, fun p m => (nomatch m)⟩, ⟨by decide, fun p m => (nomatch m)⟩, ⟨by decide, fun p m => (nomatch m)⟩⟩
    · rw [List.mem_singleton.mp m]
      refine ⟨⟨by show (0 : Int) ≤ 5; decide, by show (5 : Int) ≤ 16384; decide⟩, prp_in ho, ⟨by show o.length ≤ 40; omega, fun c m => by have := (ho.2 c m).2.1; omega⟩, ⟨by show 0 < 900; decide, fun p m => (nomatch m)⟩, ⟨by show 0 < 900; decide, fun p m => (nomatch m)⟩, ⟨by show 0 < 900; decide, fun p m => (nomatch m)⟩, ⟨hl, fun r m => ins_v (hh r m)⟩⟩
  · have : g ∈ (fnt u o h n ps).glyphs := List.mem_of_getElem? hg
    rcases List.mem_cons.mp this with rfl | m'
    · exact (nomatch m)
    · rw [List.mem_singleton.mp m'] at m
      exact (nomatch m)
  · rw [(List.mem_replicate.mp m).2]
    refine ⟨by show 2 < 900; decide, fun r m => ?_⟩
    rcases List.mem_cons.mp m with rfl | m
    · exact ins_v ⟨by show ("push" : Str) ∈ allV; decide, by show B32 3; exact ⟨by decide, by decide⟩⟩
    · rw [List.mem_singleton.mp m]
      exact ins_v ⟨by show ("drop" : Str) ∈ allV; decide, by show B32 0; exact ⟨by decide, by decide⟩⟩
end

section
variable {P : Program} {w : World} {K : PySem.W.Frag} {mg : Str → Option Value} {base : Heap}
local macro_rules | `(tactic| walk_at "fl.t") => `(tactic| (with_reducible refine g_chainW ?_))
local macro_rules | `(tactic| walk_at "fl.t") => `(tactic| ((with_reducible refine sc_app ?_ ?_); (focus assumption)))
local macro_rules | `(tactic| walk_at "fl.t") => `(tactic| (with_reducible refine g_mkP ?_))
local macro_rules | `(tactic| walk_at "fl.t") => `(tactic| (with_reducible refine g_callS ?_))
local macro_rules | `(tactic| walk_at "fl.t") => `(tactic| (with_reducible refine g_ifE ?_))
local macro_rules | `(tactic| walk_at "fl.w") => `(tactic| repeat walk_at "fl.t")
theorem at3 {v : Int} (h0 : 0 ≤ v) (h1 : v < 3) : ∃ m : Int, atI [V.int 3, .int 200, .int 16369] v = some (.int m) ∧ 3 ≤ m ∧ m ≤ 16369 := by
  rcases (by omega : v = 0 ∨ v = 1 ∨ v = 2) with rfl | rfl | rfl
  · exact ⟨3, rfl, by decide, by decide⟩
  · exact ⟨200, rfl, by decide, by decide⟩
  · exact ⟨16369, rfl, by decide, by decide⟩
def kp (r : In) : Bool := decide ((if r.2 < 0 then -r.2 else r.2) < 30000)
theorem fm_bind {α : Type} (g : α → Option PyData) : ∀ L : List α, (List.range L.length).filterMap (fun i => (L[i]?).bind g) = L.filterMap g
  | [] => rfl
  | x :: L => by
    rw [List.length_cons, List.range_succ_eq_map, List.filterMap_cons, List.filterMap_map, List.filterMap_cons]
    have e : ((fun i => ((x :: L)[i]?).bind g) ∘ Nat.succ) = fun i => (L[i]?).bind g := funext fun i => by simp
    rw [e, fm_bind g L]
    rfl
theorem fm_flt {α : Type} (p : α → Bool) (f : α → PyData) : ∀ L : List α, L.filterMap (fun r => if p r = true then some (f r) else none) = (L.filter p).map f
  | [] => rfl
  | x :: L => by
    rw [List.filterMap_cons, List.filter_cons, fm_flt p f L]
    by_cases h : p x = true
    · rw [if_pos h, if_pos h, List.map_cons]
    · rw [if_neg h, if_neg h]
theorem fm_const {x : PyData} : ∀ n : Nat, (List.range n).filterMap (fun _ => some x) = List.replicate n x
  | 0 => rfl
  | n + 1 => by rw [fm_succ, fm_const n, List.replicate_succ']; rfl
theorem ints_in : ∀ (rs : List PyData), (∀ r, r ∈ rs → ∃ n : Int, -1000 ≤ n ∧ n ≤ 1000 ∧ r = .int n) → ∃ ns : List Int, rs = ns.map PyData.int ∧ ∀ n, n ∈ ns → -1000 ≤ n ∧ n ≤ 1000
  | [], _ => ⟨[], rfl, fun _ m => (nomatch m)⟩
  | r :: rs, h => by
    obtain ⟨n, h1, h2, rfl⟩ := h r List.mem_cons_self
    obtain ⟨ns, rfl, hn⟩ := ints_in rs fun r m => h r (List.mem_cons_of_mem _ m)
    refine ⟨n :: ns, rfl, fun p m => ?_⟩
    rcases List.mem_cons.mp m with rfl | m
    · exact ⟨h1, h2⟩
    · exact hn p m
theorem ouok_in {o : List (List Pt)} (h : OuIn 2 16384 o) : OuOk o := by
  have h1 := h.len
  have h2 := flat_len o fun c m => by have := (h.cs c m).2.1; omega
  refine ⟨by omega, by omega, fun c m e => ?_, fun c m p mp => ?_⟩
  · have := (h.cs c m).1
    rw [e] at this
    exact absurd this (by decide)
  · have := (h.cs c m).2.2 p mp
    exact ⟨⟨this.1, this.2.1⟩, this.2.2.1, this.2.2.2⟩
theorem st_okV : ∀ x, x ∈ allV → PyData.strOk x = true := by decide +kernel
theorem sh_code (c : List In) (hc : ∀ r, r ∈ c → r.1 ∈ allV ∧ B32 r.2) : SeqAt.shaped (.list (c.map inD)) = true := sh_list (n := 1) (fun d m => by
  obtain ⟨r, hr, rfl⟩ := List.mem_map.mp m
  unfold inD
  constructor
  · simp [PyData.canLay0, PyData.canLayAll0, st_okV r.1 (hc r hr).1]
  · simp [PyData.depth, PyData.depthAll]) (by decide)
theorem sh_fns (n : Nat) : SeqAt.shaped (.list (List.replicate n (codeD fnC))) = true := sh_list (n := 3) (fun d m => by
  rw [(List.mem_replicate.mp m).2]
  exact ⟨by decide +kernel, by decide +kernel⟩) (by decide)
theorem f4E {S : List Addr} {H : Hp} {v : V} {C : Addr} {x1 x2 x3 x4 : Str} {d1 d2 d3 d4 : PyData} (h : Dq S H v (insD C [(x1, d1), (x2, d2), (x3, d3), (x4, d4)])) : ∃ a dx v1 v2 v3 v4, v = .ref a ∧ a ∉ S ∧ H a = some (.ins C dx [(x1, v1), (x2, v2), (x3, v3), (x4, v4)]) ∧ Dq S H v1 d1 ∧ Dq S H v2 d2 ∧ Dq S H v3 d3 ∧ Dq S H v4 d4 := by
  obtain ⟨a, dx, fs, rfl, ha, hA, hN⟩ := h.insE
  obtain ⟨v1, fs, rfl, h1, hN⟩ := hN.consE
  obtain ⟨v2, fs, rfl, h2, hN⟩ := hN.consE
  obtain ⟨v3, fs, rfl, h3, hN⟩ := hN.consE
  obtain ⟨v4, fs, rfl, h4, hN⟩ := hN.consE
  cases hN.nilE
  exact ⟨a, dx, v1, v2, v3, v4, rfl, ha, hA, h1, h2, h3, h4⟩
theorem tf_sPt {u s : Int} {o : List Pt} : ∀ d, d ∈ (o.map fun p => PyData.tuple (sPt u s p)) → FlD d ∨ TfD d := fun d m => by
  obtain ⟨p, _, rfl⟩ := List.mem_map.mp m
  refine .inr ⟨_, rfl, by show 2 ≤ 10; decide, fun e m => ?_⟩
  rcases List.mem_cons.mp m with rfl | m
  · trivial
  · rw [List.mem_singleton.mp m]
    trivial
theorem tf_ints {l : List Int} : ∀ d, d ∈ l.map PyData.int → FlD d ∨ TfD d := fun d m => by
  obtain ⟨p, _, rfl⟩ := List.mem_map.mp m
  exact .inl trivial
theorem tf_zeros {n : Nat} : ∀ d, d ∈ List.replicate n (PyData.int 0) → FlD d ∨ TfD d := fun d m => by
  rw [(List.mem_replicate.mp m).2]
  exact .inl trivial
/-- the points scaled and the ends, while the law lists them -/
structure PrAt (M : List Addr) (G0 : Hp) (U Z : Int) (pp pe : Addr) (ps : List Pt) (es : List V) (G : Hp) : Prop where
  ex : ∃ acc, G pp = some (.lst acc) ∧ DqA M G acc (ps.map fun p => .tuple (sPt U Z p))
  en : G pe = some (.lst es)
  fr : Fl.Fr [pp, pe] G0 G
theorem ok_law (T : Txt K mg) (I : WoK K w mg) {f : Addr} {fd : FuncData} (F : Fun K "law" "law" s_law f fd) : FnOk P w K mg base CX0 12 f fd ps_law (spLaw K) := by
  obtain ⟨e1, e2, e3, e4, e5, e6, e7, n1, n2, n3, n4, n5, n6, n7, cF⟩ := T.c_Font
  obtain ⟨g1', g2', g3', g4', o1, o2, o3, o4, cG⟩ := T.c_Glyph
  have mk_Glyph_2 := mk_Gl2 (ok_Glyph (P := P) (w := w) (base := base) T cG)
  have mk_Glyph_2_hint := mk_GlH (ok_Glyph (P := P) (w := w) (base := base) T cG)
  have h_ff := ok_first_fault (P := P) (base := base) T I VL0 ((no_has (P := P) (w := w) (base := base) T.d_lookup_reason sc_lookup_reason bd_lookup_reason).mono (k := 4) (by decide) |>.imp fun vs H Q E h => by
    obtain ⟨S, ds, d, _, _, ⟨_, _, _, h, _⟩, _⟩ := h
    exact h)
  have mk_Font_2_functions_presets := mk_FoP (ok_Font (P := P) (w := w) (base := base) T (fun fo => ∃ f : FoG, f.Ok VL0 ∧ FoG.Bare f ∧ fo = f.R) (by
    obtain ⟨f, fd, a, b, c, d⟩ := (h_ff.mono (k := 7) (by decide)).ex
    refine ⟨f, fd, ?_, b, c, d⟩
    exact fnok_weak a fun vs H Q E h => by
      obtain ⟨S, ds, d, hS, hd, ⟨fo, ⟨f, fok, fb, rfl⟩, rfl, rfl⟩, q⟩ := h
      exact ⟨S, _, _, hS, hd, ⟨f, fok, fb, rfl, rfl⟩, q⟩) cF)
  have clZ := T.c_Zone.cl
  have naZ := T.c_Zone.na
  obtain ⟨z1, z2, z3, z4, cP⟩ := T.c_Program
  have clP := cP.cl
  have naP := cP.na
  clear cP z3 z4
  have h_law_deck := ok_law_deck (P := P) (w := w) (base := base) T
  have h_law_draw := ok_law_draw (P := P) (w := w) (base := base) T
  have h_law_outline := ok_law_outline (P := P) (w := w) (base := base) T
  have h_law_tame := ok_law_tame (P := P) (w := w) (base := base) T
  have h_scaled := ok_scaled (P := P) (w := w) (base := base) T
  have h_law_scaled := ok_law_scaled (P := P) (w := w) (base := base) T
  have h_law_same := ok_law_sameB (P := P) (w := w) (base := base) T
  have h_law_same_list := ok_law_same_listB (P := P) (w := w) (base := base) T
  have h_zone_of := ok_zone_of (P := P) (w := w) (base := base) T
  have h_program_of := ok_program_of (P := P) (w := w) (base := base) T VL0
  have h_law_unknown := ok_law_unknown (P := P) (w := w) (base := base) T
  refine fnok_of F sc_law (fun vs H Q E h => ?_) (fun f cdv A outer s H vs Q E hr h => ?_)
  · obtain ⟨a, ns, rfl, _⟩ := h
    rfl
  obtain ⟨a, ns, rfl, hS, hlen, q⟩ := h
  refine ⟨_, (pss_cons (ps_set (i := 1) sc_law.nd rfl (.inr rfl) (pe_h h_law_deck (hr.mono (by decide)) (pa_cons (pv 0) pa_nil)))
      (pss_cons (ps_set (i := 2) sc_law.nd rfl (.inr rfl) (pe_op op_add pe_int (pe_h h_law_draw (hr.mono (by decide)) (pa_cons (pv 1) (pa_cons (pe_ix (ixL (K := K) rfl) (pe_lst (pa_cons pe_int (pa_cons pe_int (pa_cons pe_int pa_nil)))) (pe_h h_law_draw (hr.mono (by decide)) (pa_cons (pv 1) (pa_cons pe_int pa_nil))) (fun _ _ => rfl)) pa_nil)))))
      (pss_cons (ps_set (i := 3) sc_law.nd rfl (.inr rfl) (pe_op op_add pe_int (pe_h h_law_draw (hr.mono (by decide)) (pa_cons (pv 1) (pa_cons pe_int pa_nil)))))
      (pss_cons (ps_set (i := 4) sc_law.nd rfl (.inl rfl) (pe_h h_law_outline (hr.mono (by decide)) (pa_cons (pv 1) (pa_cons pe_int (pa_cons pe_int pa_nil)))))
      (pss_cons (ps_setLc (i := 5) (own := [("row", 16)]) rfl sc_law.nd rfl rfl (sw_true rfl rfl rfl (by decide +kernel)) (piL (K := K) rfl (pe_h h_law_tame (hr.mono (by decide)) (pa_cons (pv 1) (pa_cons pe_int (pa_cons pe_int (pa_cons pe_int pa_nil)))))) (blkOk_by (by kernel_rfl)) (fun _ _ _ _ _ => (pg_name (i := 16) sc_law.nd rfl (.inl rfl))) (fun _ _ _ _ _ => (pts_one (pt_cmpR op_lt (pe_callB call_abs' (by rfl) T.z_abs (by decide +kernel) (pa_cons (pe_ix (ixT (K := K) rfl) (pv 16) pe_int (fun _ _ => rfl)) pa_nil)) pe_int (nomark _)))) (fun _ _ _ _ _ => (pv 16)))
      (pss_cons (ps_setLc (i := 6) (own := [("k", 17)]) rfl sc_law.nd rfl rfl (sw_true rfl rfl rfl (by decide +kernel)) (pi_range1 (by rfl) T.z_range (pa_cons (pe_h h_law_draw (hr.mono (by decide)) (pa_cons (pv 1) (pa_cons pe_int pa_nil))) pa_nil)) (blkOk_by (by kernel_rfl)) (fun _ _ _ _ _ => (pg_name (i := 17) sc_law.nd rfl (.inl rfl))) (fun _ _ _ _ _ => pts_nil) (fun _ _ _ _ _ => (pe_lst (pa_cons (pe_tup (pa_cons pe_str (pa_cons pe_int pa_nil))) (pa_cons (pe_tup (pa_cons pe_str (pa_cons pe_int pa_nil))) pa_nil)))))
      (pss_cons (ps_setLc (i := 7) (own := [("k", 17)]) rfl sc_law.nd rfl rfl (sw_true rfl rfl rfl (by decide +kernel)) (pi_range1 (by rfl) T.z_range (pa_cons (pe_h h_law_draw (hr.mono (by decide)) (pa_cons (pv 1) (pa_cons pe_int pa_nil))) pa_nil)) (blkOk_by (by kernel_rfl)) (fun _ _ _ _ _ => (pg_name (i := 17) sc_law.nd rfl (.inl rfl))) (fun _ _ _ _ _ => pts_nil) (fun _ _ _ _ _ => (pe_op op_sub (pe_h h_law_draw (hr.mono (by decide)) (pa_cons (pv 1) (pa_cons pe_int pa_nil))) pe_int)))
      (pss_cons (ps_set (i := 8) sc_law.nd rfl (.inl rfl) (pe_mk (mg := mg) rfl mk_Font_2_functions_presets (hr.mono (by decide)) (pa_cons (pv 2) (pa_cons (pe_lst (pa_cons (pe_mk (mg := mg) rfl mk_Glyph_2 (hr.mono (by decide)) (pa_cons pe_int (pa_cons (pe_lst pa_nil) pa_nil)) pk_nil) (pa_cons (pe_mk (mg := mg) rfl mk_Glyph_2_hint (hr.mono (by decide)) (pa_cons pe_int (pa_cons (pv 4) pa_nil)) (pk_cons (pe_callTy (clList (K := K) rfl) (by rfl) T.z_list (by decide +kernel) (pa_cons (pv 5) pa_nil)) pk_nil)) pa_nil))) pa_nil)) (pk_cons (pv 6) (pk_cons (pe_callTy (clList (K := K) rfl) (by rfl) T.z_list (by decide +kernel) (pa_cons (pv 7) pa_nil)) pk_nil))))
      (pss_cons (ps_for PassesOwn.never rfl (piL (K := K) rfl (pe_lst (pa_cons (pe_op op_sub (pe_h h_law_draw (hr.mono (by decide)) (pa_cons (pv 1) (pa_cons pe_int pa_nil))) pe_int) (pa_cons (pe_op op_sub (pe_h h_law_draw (hr.mono (by decide)) (pa_cons (pv 1) (pa_cons pe_int pa_nil))) pe_int) pa_nil)))) (pg_name (i := 9) sc_law.nd rfl (.inl rfl))
        (pss_one (ps_if (pt_not (pt_val (pe_h h_law_same (hr.mono (by decide)) (pa_cons (pe_h h_scaled (hr.mono (by decide)) (pa_cons (pv 2) (pa_cons (pv 3) (pa_cons (pv 9) pa_nil)))) (pa_cons (pe_h h_law_scaled (hr.mono (by decide)) (pa_cons (pv 2) (pa_cons (pv 3) (pa_cons (pv 9) pa_nil)))) pa_nil)))))
        (pss_one (ps_ret pe_bl))
        pss_nil)))
      (pss_cons (ps_set (i := 10) sc_law.nd rfl (.inl rfl) (pe_lst pa_nil))
      (pss_cons (ps_set (i := 11) sc_law.nd rfl (.inl rfl) (pe_lst pa_nil))
      (pss_cons (ps_for PassesOwn.never rfl (piL (K := K) rfl (pv 4)) (pg_name (i := 12) sc_law.nd rfl (.inl rfl))
        (pss_cons (ps_for PassesOwn.never rfl (piL (K := K) rfl (pv 12)) (pg_name (i := 13) sc_law.nd rfl (.inl rfl))
        (pss_one (ps_expr (pe_bm PySem.F.plainAttrs_list PySem.F.slot_list_append PySem.F.type_list_append mt_append (pv 10) (pa_cons (pe_tup (pa_cons (pe_h h_law_scaled (hr.mono (by decide)) (pa_cons (pv 2) (pa_cons (pv 3) (pa_cons (pe_ix (ixT (K := K) rfl) (pv 13) pe_int (fun _ _ => rfl)) pa_nil)))) (pa_cons (pe_h h_law_scaled (hr.mono (by decide)) (pa_cons (pv 2) (pa_cons (pv 3) (pa_cons (pe_ix (ixT (K := K) rfl) (pv 13) pe_int (fun _ _ => rfl)) pa_nil)))) pa_nil))) pa_nil)))))
      (pss_one (ps_expr (pe_bm PySem.F.plainAttrs_list PySem.F.slot_list_append PySem.F.type_list_append mt_append (pv 11) (pa_cons (pe_op op_sub (pe_callB (clLen (K := K) rfl) (by rfl) T.z_len (by decide +kernel) (pa_cons (pv 10) pa_nil)) pe_int) pa_nil))))))
      (pss_cons (ps_set (i := 14) sc_law.nd rfl (.inl rfl) (pe_h h_zone_of (hr.mono (by decide)) (pa_cons (pv 8) (pa_cons (pv 4) (pa_cons (pv 3) pa_nil)))))
      (pss_cons (ps_if (PW.pt (pw_or (pt_not (pt_val (pe_h h_law_same_list (hr.mono (by decide)) (pa_cons (peFld (K := K) rfl (pv 14) rfl) (pa_cons (pv 10) pa_nil))))) (pw_or1 (pt_not (pt_val (pe_h h_law_same_list (hr.mono (by decide)) (pa_cons (peFld (K := K) rfl (pv 14) rfl) (pa_cons (pv 10) pa_nil))))))))
        (pss_one (ps_ret pe_bl))
        pss_nil)
      (pss_cons (ps_if (PW.pt (pw_or (pt_not (pt_val (pe_h h_law_same_list (hr.mono (by decide)) (pa_cons (peFld (K := K) rfl (pv 14) rfl) (pa_cons (pe_lc (own := [("pair", 18)]) rfl sc_law.nd (piL (K := K) rfl (pv 10)) (blkOk_by (by kernel_rfl)) (fun _ _ _ _ _ => (pg_name (i := 18) sc_law.nd rfl (.inl rfl))) (fun _ _ _ _ _ => pts_nil) (fun _ _ _ _ _ => pe_int)) pa_nil))))) (pw_or1 (pt_not (pt_val (pe_h h_law_same_list (hr.mono (by decide)) (pa_cons (peFld (K := K) rfl (pv 14) rfl) (pa_cons (pv 11) pa_nil))))))))
        (pss_one (ps_ret pe_bl))
        pss_nil)
      (pss_cons (ps_set (i := 15) sc_law.nd rfl (.inl rfl) (pe_h h_program_of (hr.mono (by decide)) (pa_cons (pv 8) (pa_cons pe_int (pa_cons (pv 3) pa_nil)))))
      (pss_cons (ps_if (PW.pt (pw_or (pt_cmpR (opNeD (K := K) rfl hr.units) (peFld (K := K) rfl (pv 15) rfl) (pv 5) (nomark _)) (pw_or (pt_cmpR (opNeD (K := K) rfl hr.units) (peFld (K := K) rfl (pv 15) rfl) (pv 6) (nomark _)) (pw_or1 (pt_not (pt_val (pe_h h_law_same (hr.mono (by decide)) (pa_cons (peFld (K := K) rfl (pv 15) rfl) (pa_cons (pv 3) pa_nil)))))))))
        (pss_one (ps_ret pe_bl))
        pss_nil)
      (pss_cons (ps_if (pt_not (pt_val (pe_h h_law_same_list (hr.mono (by decide)) (pa_cons (peFld (K := K) rfl (pv 15) rfl) (pa_cons (pe_lc (own := [("n", 9)]) rfl sc_law.nd (piL (K := K) rfl (pv 7)) (blkOk_by (by kernel_rfl)) (fun _ _ _ _ _ => (pg_name (i := 9) sc_law.nd rfl (.inl rfl))) (fun _ _ _ _ _ => pts_nil) (fun _ _ _ _ _ => (pe_h h_law_scaled (hr.mono (by decide)) (pa_cons (pv 2) (pa_cons (pv 3) (pa_cons (pv 9) pa_nil)))))) pa_nil)))))
        (pss_one (ps_ret pe_bl))
        pss_nil)
      (pss_one (ps_ret (pe_and (pe_cmpR (opEqD (K := K) rfl hr.units) (peFld (K := K) rfl (pe_h h_program_of (hr.mono (by decide)) (pa_cons (pv 8) (pa_cons pe_int (pa_cons (pv 3) pa_nil)))) rfl) (pe_lst pa_nil) (nomark _)) (pe_and (pe_h h_law_unknown (hr.mono (by decide)) (pa_cons (pv 8) (pa_cons pe_int (pa_cons (pv 3) pa_nil)))) (pe_one (pe_h h_law_unknown (hr.mono (by decide)) (pa_cons (pv 8) (pa_cons (pe_un un_neg pe_int) (pa_cons (pv 3) pa_nil))))))))))))))))))))))))))), ?_⟩
  clear h_ff cF cG h_scaled h_law_scaled
  walk_at "fl.w"
  rename_i d sa H1 sm1 hk1 l hl v H2 hv0 hv1 hk2 on2
  have dd : d ∈ [d] := by simp
  obtain ⟨m, hm, m0, m1⟩ := at3 hv0 hv1
  walk_at "fl.w"
  rename_i u0 H3 u00 u01 hk3 on3 z0 H4 z00 z01 hk4 on4
  generalize hU : 16 + u0 = U
  generalize hZ : 1 + z0 = Z
  have U0 : 16 ≤ U := by omega
  have U1 : U ≤ 16384 := by omega
  have Z0 : 1 ≤ Z := by omega
  have Z1 : Z ≤ 200 := by omega
  clear hU hZ hv0 hv1 hm m0 m1 u00 u01 z00 z01 on2 on3 on4 hk2 hk3 sm1 hk1 hl
  refine ⟨d, sa, ns, 2, 16384, rfl, hk4, by decide, by decide, by decide, fun ol H5 o fr5 hk5 do5 oin => ?_⟩
  clear fr5 hk4
  walk_at "fl.w"
  refine ⟨[d], d, sa, ns, 4, 0, 1, rfl, dd, .cons hk5.hd .nil, hk5, by decide, by decide, by decide, by decide, by decide, fun t2 H6 c fr6 hk6 dc6 cl cok => ?_⟩
  have do6 := dq_of dd do5 fr6
  clear do5 fr6 hk5
  have al6 := Al.cons (H := H6) hk6.hd .nil
  have dc6' := dc6
  obtain ⟨_, cx, e, nt2, hc6, hC6⟩ := dc6'.lstE
  cases e
  walk_at "fl.w"
  refine lcL (S := [d]) (fun i => (c[i]?).bind fun r => if kp r = true then some (inD r) else none) al6 dc6 (by rw [List.length_map]; omega) ?_ ?_
  · intro D i x e G hD he smg al hxe R N hR hN
    obtain ⟨r, hr, rfl⟩ := at_map he
    have hxe' := hxe
    obtain ⟨b, rfl, nb, hb⟩ := inE hxe
    refine g_name ⟨rfl, ?_⟩
    walk_at "fl.w"
    by_cases hb2 : kp r = true
    · rw [if_pos (show decide ((if r.2 < 0 then -r.2 else r.2) < 30000) = true from hb2)]
      walk_at "fl.w"
      exact hR _ _ _ (by rw [hr]; exact if_pos hb2) (L2.Same.refl _) hxe'
    · rw [if_neg (show ¬ decide ((if r.2 < 0 then -r.2 else r.2) < 30000) = true from hb2)]
      exact hN (by rw [hr]; exact if_neg hb2) _ (L2.Same.refl _)
  intro D H7 sm7 hD dh7
  rw [List.length_map, fm_bind, fm_flt] at dh7
  have hl : (c.filter kp).length < 900 := by
    have := List.length_filter_le kp c
    omega
  have hok : ∀ r, r ∈ c.filter kp → r.1 ∈ allV ∧ B32 r.2 := fun r m => cok r (List.mem_filter.mp m).1
  generalize c.filter kp = h at dh7 hl hok
  have hk7 := hk6.same sm7
  have do7 := do6.same sm7
  clear cok cl hC6 hc6 nt2 dc6 dc6' sm7 hD hk6 do6 al6
  walk_at "fl.w"
  rename_i fn H8 fn0 fn1 hk8 on8
  have do8 := dq_of dd do7 on8.fr
  have dh8 := dq_of dd dh7 on8.fr
  clear do7 dh7 hk7 on8
  have al8 := Al.cons (H := H8) hk8.hd .nil
  refine lcR (S := [d]) (fun _ => some (codeD fnC)) al8 (by omega) ?_ ?_
  · intro D2 i G hD2 hi smg al R N hR hN
    refine g_name ⟨rfl, ?_⟩
    walk_at "fl.w"
    rename_i t1 ht1 t3 ht3 p hp
    exact hR _ _ _ rfl ((Fl.Same.new ht1).trans ((Fl.Same.new ht3).trans (Fl.Same.new hp))) (.lst (((al.newH ht1).newH ht3).ni hp) upd_same (.cons (Dq.same (Dq.same (.tup (al.ni ht1) upd_same (.cons (.str _) (.cons (.int _) .nil))) (Fl.Same.new ht3)) (Fl.Same.new hp)) (.cons (Dq.same (.tup ((al.newH ht1).ni ht3) upd_same (.cons (.str _) (.cons (.int _) .nil))) (Fl.Same.new hp)) .nil)))
  intro D2 H9 sm9 hD2 df9
  rw [fm_const] at df9
  have hk9 := hk8.same sm9
  have do9 := do8.same sm9
  have dh9 := dh8.same sm9
  clear do8 dh8 hk8 sm9 hD2 al8
  walk_at "fl.w"
  rename_i pn HA pn0 pn1 hkA onA
  have doA := dq_of dd do9 onA.fr
  have dhA := dq_of dd dh9 onA.fr
  have dfA := dq_of dd df9 onA.fr
  clear do9 dh9 df9 hk9 onA
  have alA := Al.cons (H := HA) hkA.hd .nil
  refine lcG (S := [d]) [d] (fun G => Dk d sa ns G) (fun r => ∃ n : Int, -1000 ≤ n ∧ n ≤ 1000 ∧ r = .int n) alA (fun b m => m) hkA (by omega) (fun G k => .cons k.hd .nil) (fun D' G o hD' k => k.put (hkA.ned hD') (hkA.nes hD')) ?_ ?_
  · intro D' i G hD' hi al k R hR
    refine ⟨rfl, ?_⟩
    walk_at "fl.w"
    rename_i a2 G4 a20 a29 hk4 on4
    exact hR _ _ _ on4.fr hk4 (.int _) ⟨_, by omega, by omega, rfl⟩
  intro D3 HB rs frB hkB hD3 dpB lpB hpr
  obtain ⟨ps, rfl, hps⟩ := ints_in rs hpr
  rw [List.length_map] at lpB
  have doB := dq_of dd doA frB
  have dhB := dq_of dd dhA frB
  have dfB := dq_of dd dfA frB
  clear doA dhA dfA hkA frB hD3 hpr
  have alB := Al.cons (H := HB) hkB.hd .nil
  have nf := fnt_ok (n := fn.toNat) U0 U1 oin hl hok (by omega) (ps := ps) (by omega) hps
  have so : Sq3 (ouD o) (o.map fun c => c.map ptL) := by
    rw [← ouD3_pt]
    refine .ou ?_ ?_
    · rw [List.length_map]; have := oin.len; omega
    · intro c m
      obtain ⟨c', m', rfl⟩ := List.mem_map.mp m
      rw [List.length_map]
      have := (oin.cs c' m').2.1
      omega
  have sh : Sq2 (.list (h.map inD)) (h.map s1i) := by
    rw [show PyData.list (h.map inD) = ltD (h.map s1i) from (ltD_map s1i h).symm]
    exact .lt (by rw [List.length_map]; omega)
  have sf : Sq3 (.list (List.replicate fn.toNat (codeD fnC))) ((List.replicate fn.toNat fnC).map fun c => c.map s1i) := by
    rw [show PyData.list (List.replicate fn.toNat (codeD fnC)) = ouD3 ((List.replicate fn.toNat fnC).map fun c => c.map s1i) from by
      unfold ouD3
      rw [List.map_map, List.map_replicate]
      rfl]
    refine .ou ?_ ?_
    · rw [List.length_map, List.length_replicate]; omega
    · intro c m
      obtain ⟨c', m', rfl⟩ := List.mem_map.mp m
      rw [(List.mem_replicate.mp m').2]
      decide
  obtain ⟨_, xh, e, nxh, rxh, hXH⟩ := dhB.lstE
  cases e
  obtain ⟨_, xp, e, nxp, rxp, hXP⟩ := dpB.lstE
  cases e
  walk_at "fl.w"
  rename_i p0 hp0
  have alC := alB.newH (u := .lst []) hp0
  refine g_mk rfl rfl (mk_app (f := fGl) (ws := [.int 5, .ref p0, .ref g1', .ref g2', .bl false, .ref g3', .ref g4']) [d] [.int 5, .list [], .tuple [], .tuple [], .bool false, .tuple [], .tuple []] g0.R.F (fun x => rfl) alC (.cons (.inl (.int _)) (.cons (.inl (Dq.newL alB hp0 .nil)) (.cons (.inr ⟨rfl, _, rfl, o1⟩) (.cons (.inr ⟨rfl, _, rfl, o2⟩) (.cons (.inl (.bl _)) (.cons (.inr ⟨rfl, _, rfl, o3⟩) (.cons (.inr ⟨rfl, _, rfl, o4⟩) .nil)))))))
    ⟨_, _, _, _, _, g0.R, rfl, GlG.rok (nf.1.go g0 List.mem_cons_self), .le, .e, .e, .e, .e, rfl⟩ fun xa HD smD da => ?_)
  have rxhD := smD _ _ (Fl.Same.new (o := .lst []) hp0 _ _ rxh)
  have sB : Same HB HD := (Fl.Same.new hp0).trans smD
  have alD := alB.same sB
  have dhD := dhB.same sB
  have doD := doB.same sB
  walk_at "fl.w"
  rename_i p1 hp1
  have alE := alD.newH (u := .lst xh) hp1
  refine g_mk rfl rfl (mk_app (f := fGl) (ws := [.int 5, .ref ol, .ref g1', .ref g2', .bl false, .ref g3', .ref p1]) [d] [.int 5, ouD o, .tuple [], .tuple [], .bool false, .tuple [], .list (h.map inD)] (g1 o h).R.F (fun x => rfl) alE (.cons (.inl (.int _)) (.cons (.inl (doD.same (Fl.Same.new hp1))) (.cons (.inr ⟨rfl, _, rfl, o1⟩) (.cons (.inr ⟨rfl, _, rfl, o2⟩) (.cons (.inl (.bl _)) (.cons (.inr ⟨rfl, _, rfl, o3⟩) (.cons (.inl (Dq.newL alD hp1 (hXH.same sB))) .nil)))))))
    ⟨_, _, _, _, _, (g1 o h).R, rfl, GlG.rok (nf.1.go (g1 o h) (by simp [fnt])), so, .e, .e, .e, sh, rfl⟩ fun xb HE smE db => ?_)
  have sD : Same HD HE := (Fl.Same.new hp1).trans smE
  have daE := da.same sD
  have sBE := sB.trans sD
  have rxpE := sBE _ _ rxp
  have alF := alB.same sBE
  walk_at "fl.w"
  rename_i p2 hp2 p3 hp3
  have sF : Same HE (upd (upd HE p2 (.lst [.ref xa, .ref xb])) p3 (.lst xp)) := (Fl.Same.new hp2).trans (Fl.Same.new hp3)
  have alG0 : Al [d] (upd (upd HE p2 (.lst [.ref xa, .ref xb])) p3 (.lst xp)) := (alF.newH hp2).newH hp3
  have dgl : Dq [d] (upd (upd HE p2 (.lst [.ref xa, .ref xb])) p3 (.lst xp)) (.ref p2) (.list [glD (cs mg) g0.R, glD (cs mg) (g1 o h).R]) := (Dq.newL alF hp2 (.cons daE (.cons db .nil))).same (Fl.Same.new hp3)
  have dpr : Dq [d] (upd (upd HE p2 (.lst [.ref xa, .ref xb])) p3 (.lst xp)) (.ref p3) (.list (ps.map PyData.int)) := Dq.newL (alF.newH hp2) hp3 ((hXP.same sBE).same (Fl.Same.new hp2))
  refine g_mk rfl rfl (mk_app (f := fFo (cs mg) (fun fo => ∃ f : FoG, f.Ok VL0 ∧ FoG.Bare f ∧ fo = f.R)) (ws := [.int U, .ref p2, .ref e1, .ref e2, .ref e3, .ref e4, .ref e5, .ref D2, .ref p3]) [d] [.int U, .list [glD (cs mg) g0.R, glD (cs mg) (g1 o h).R], .tuple [], .tuple [], .tuple [], .tuple [], .tuple [], .list (List.replicate fn.toNat (codeD fnC)), .list (ps.map PyData.int)] ((fnt U o h fn.toNat ps).R.F (cs mg)) (fun x => rfl) alG0 (.cons (.inl (.int _)) (.cons (.inl dgl) (.cons (.inr ⟨rfl, _, rfl, n1⟩) (.cons (.inr ⟨rfl, _, rfl, n2⟩) (.cons (.inr ⟨rfl, _, rfl, n3⟩) (.cons (.inr ⟨rfl, _, rfl, n4⟩) (.cons (.inr ⟨rfl, _, rfl, n5⟩) (.cons (.inl ((dfB.same sBE).same sF)) (.cons (.inl dpr) .nil)))))))))
    ⟨_, _, _, _, _, _, _, _, (fnt U o h fn.toNat ps).R, rfl, FoG.rok nf.1, ⟨_, nf.1, nf.2, rfl⟩, rfl, .e, rfl, .e, .e, .e, sf, .ls (by rw [List.length_map]; omega), rfl⟩ fun xf HF smF df => ?_)
  have sBF : Same HB HF := sBE.trans (sF.trans smF)
  have hkF := hkB.same sBF
  have doF := doB.same sBF
  have dhF := dhB.same sBF
  have dfF := dfB.same sBF
  have dpF := dpB.same sBF
  have df : Dq [d] HF (.ref xf) (foD (cs mg) (fnt U o h fn.toNat ps).R) := df
  have oko := ouok_in oin
  clear dpr dgl alG0 sF smF hp2 hp3 alF rxpE sBE daE sD db smE alE hp1 doD dhD alD sB rxhD da smD alC hp0 rxp hXP nxp rxh hXH nxh so sh sf mk_Font_2_functions_presets mk_Glyph_2 mk_Glyph_2_hint alB dpB dfB dhB doB hkB
  clear n1 n2 n3 n4 n5 n6 n7 o1 o2 o3 o4
  walk_at "fl.w"
  rename_i w1 HG w10 w11 hkG onG w2 HI w20 w21 hkI onI p4 hp4
  have sI := (onG.fr.trans onI.fr).trans (Fr.same (Fl.Same.new (o := .lst [.int (w1 - 20000), .int (w2 - 4)]) hp4))
  have doI := dq_of dd doF sI
  have dhI := dq_of dd dhF sI
  have dfI := dq_of dd dfF sI
  have dpI := dq_of dd dpF sI
  have dI := dq_of dd df sI
  have alI := (Al.cons (H := HI) hkI.hd .nil).newH (u := .lst [.int (w1 - 20000), .int (w2 - 4)]) hp4
  clear doF dhF dfF dpF df sI
  refine forK_l (xs := [.int (w1 - 20000), .int (w2 - 4)]) (fun i σ' H' => H' = upd HI p4 (.lst [.int (w1 - 20000), .int (w2 - 4)]) ∧ ∃ u, σ' = [some (.ref a), some (.ref d), some (.int U), some (.int Z), some (.ref ol), some (.ref D), some (.ref D2), some (.ref D3), some (.ref xf), u, none, none, none, none, none, none, none, none, none]) ⟨rfl, _, rfl⟩ ?_ ?_ ?_
  · intro i σ' H' _ ⟨e, _⟩
    subst e
    exact SqL.of upd_same
  · intro i x σ' H' hxi ⟨e, u, e2⟩
    subst e e2
    obtain ⟨k, rfl, k0, k1⟩ : ∃ k : Int, x = .int k ∧ -100000 ≤ k ∧ k ≤ 100000 := by
      rcases List.mem_cons.mp (List.mem_of_getElem? hxi) with rfl | m
      · exact ⟨_, rfl, by omega, by omega⟩
      · rw [List.mem_singleton.mp m]
        exact ⟨_, rfl, by omega, by omega⟩
    have sx : ScIn U Z k := ⟨U0, U1, Z0, by omega, k0, k1⟩
    walk_at "fl.w"
    refine .inl ⟨[], [], .int (scl U Z k), _, _, rfl, trivial, .int _, .int _, ?_⟩
    walk_at "fl.w"
    exact ⟨rfl, _, rfl⟩
  intro σ' HJ ⟨e, u9, e2⟩
  subst e2
  rw [← e] at doI dhI dfI dpI dI alI
  clear e hp4 onI onG hkI hkG
  obtain ⟨_, xs, e, nol, rol, hA⟩ := doI.lstE
  cases e
  have lx := hA.len
  rw [List.length_map] at lx
  walk_at "fl.w"
  rename_i pp hpp pe hpe
  have npe : pe ≠ pp := fun e => by rw [e, upd_same] at hpe; cases hpe
  have hAG : DqA [pe, pp, d] (upd (upd HJ pp (.lst [])) pe (.lst [])) xs (o.map ctD) := (((hA.new hpp).same (Fl.Same.new hpp)).new hpe).same (Fl.Same.new hpe)
  have rol0 : upd (upd HJ pp (.lst [])) pe (.lst []) ol = some (.lst xs) := Fl.Same.new hpe _ _ (Fl.Same.new hpp _ _ rol)
  have alG : Al [pe, pp, d] (upd (upd HJ pp (.lst [])) pe (.lst [])) := .cons (by rw [upd_same]; simp) (.cons (by rw [upd_ne (Ne.symm npe), upd_same]; simp) ((alI.newH hpp).newH hpe))
  have sJ : Same HJ (upd (upd HJ pp (.lst [])) pe (.lst [])) := (Fl.Same.new hpp).trans (Fl.Same.new hpe)
  have P0 : PrAt [pe, pp, d] (upd (upd HJ pp (.lst [])) pe (.lst [])) U Z pp pe [] [] (upd (upd HJ pp (.lst [])) pe (.lst [])) := ⟨⟨[], by rw [upd_ne (Ne.symm npe), upd_same], .nil⟩, upd_same, Fr.refl⟩
  have npd := alI.ni hpp
  have npd2 := (alI.newH (u := .lst []) hpp).ni hpe
  have hpe0 : HJ pe = none := by
    rw [upd_ne npe] at hpe
    exact hpe
  have nold : ol ∉ [pp, pe] := fun m => by
    rcases List.mem_cons.mp m with e | m
    · rw [e, hpp] at rol; cases rol
    · have r := Fl.Same.new (o := .lst []) hpp _ _ rol
      rw [List.mem_singleton.mp m, hpe] at r; cases r
  generalize upd (upd HJ pp (.lst [])) pe (.lst []) = G0 at hAG rol0 alG sJ P0 ⊢
  have hsub : ∀ x, x ∈ [pp, pe] → x ∈ [pe, pp, d] := fun x m => by
    rcases List.mem_cons.mp m with rfl | m
    · simp
    · rw [List.mem_singleton.mp m]; simp
  have alP : ∀ {qs : List Pt} {es : List V} {G : Hp}, PrAt [pe, pp, d] G0 U Z pp pe qs es G → Al [pe, pp, d] G := fun {qs es G} P => by
    obtain ⟨acc, h1, _⟩ := P.ex
    exact alG.fr P.fr (.cons (by rw [h1]; simp) (.cons (by rw [P.en]; simp) .nil))
  have hofl := oko.f
  refine forK_l (xs := xs) (fun i σ' G => ∃ u12 u13, σ' = [some (.ref a), some (.ref d), some (.int U), some (.int Z), some (.ref ol), some (.ref D), some (.ref D2), some (.ref D3), some (.ref xf), u9, some (.ref pp), some (.ref pe), u12, u13, none, none, none, none, none] ∧ PrAt [pe, pp, d] G0 U Z pp pe (o.take i).flatten (((List.range i).map (eI o)).map V.int) G) ⟨_, _, rfl, P0⟩ ?_ ?_ ?_
  · intro i σ' G _ ⟨_, _, _, P⟩
    exact SqL.of (P.fr _ _ nold rol0)
  · intro i x σ' G hxi ⟨u12, u13, e, P⟩
    subst e
    obtain ⟨c, hc, dx⟩ := hAG.getM hxi
    obtain ⟨t, ts, rfl, nt, ht0, hT⟩ := dx.lstE
    have lt := hT.len
    rw [List.length_map] at lt
    have nt2 : t ∉ [pp, pe] := fun m => nt (hsub t m)
    have ht := P.fr _ _ nt2 ht0
    have hfl2 : (o.take (i + 1)).flatten = (o.take i).flatten ++ c := by
      rw [List.take_succ, hc, List.flatten_append]
      simp
    have hfl3 : (o.take (i + 1)).flatten.length ≤ o.flatten.length := by
      conv => rhs; rw [← List.take_append_drop (i + 1) o]
      rw [List.flatten_append, List.length_append]
      omega
    walk_at "fl.w"
    refine forK_l (xs := ts) (fun j σ' G => ∃ u13, σ' = [some (.ref a), some (.ref d), some (.int U), some (.int Z), some (.ref ol), some (.ref D), some (.ref D2), some (.ref D3), some (.ref xf), u9, some (.ref pp), some (.ref pe), some (.ref t), u13, none, none, none, none, none] ∧ PrAt [pe, pp, d] G0 U Z pp pe ((o.take i).flatten ++ c.take j) (((List.range i).map (eI o)).map V.int) G) ⟨_, rfl, by rw [List.take_zero, List.append_nil]; exact P⟩ ?_ ?_ ?_
    · intro j σ' G _ ⟨_, _, P⟩
      exact SqL.of (P.fr _ _ nt2 ht0)
    · intro j y σ' G2 hyj ⟨u, e, P2⟩
      subst e
      obtain ⟨p, hp, dy⟩ := (hT.fr (P2.fr.mono hsub)).getM hyj
      obtain ⟨tb, rfl, ntb, htb⟩ := ptE dy
      obtain ⟨px, py⟩ := oko.p c (List.mem_of_getElem? hc) p (List.mem_of_getElem? hp)
      unfold Crd at px py
      have sx : ScIn U Z p.1 := ⟨U0, U1, Z0, by omega, by omega, by omega⟩
      have sy : ScIn U Z p.2.1 := ⟨U0, U1, Z0, by omega, by omega, by omega⟩
      obtain ⟨acc, hacc, hdd⟩ := P2.ex
      have la := hdd.len
      rw [List.length_map] at la
      have hj : j < c.length := (List.getElem?_eq_some_iff.mp hp).1
      have lz : acc.length < 900 := by
        rw [la, List.length_append, List.length_take]
        rw [hfl2, List.length_append] at hfl3
        omega
      have alp := alP P2
      walk_at "fl.w"
      rename_i tt htt
      refine ⟨_, rfl, ⟨_, upd_same, ?_⟩, ?_, P2.fr.trans ((Fr.same (Fl.Same.new htt)).trans (Fr.upd (by simp)))⟩
      · rw [List.take_succ, hp, ← List.append_assoc, List.map_append]
        exact ((hdd.same (Fl.Same.new htt)).app (.one (.tup (alp.ni htt) upd_same (.cons (.int _) (.cons (.int _) .nil))))).fr (Fr.upd (by simp))
      · rw [upd_ne npe]
        exact Fl.Same.new htt _ _ P2.en
    · intro σ' G2 ⟨u, e, P2⟩
      subst e
      rw [List.take_of_length_le (show c.length ≤ ts.length by omega), ← hfl2] at P2
      obtain ⟨acc, hacc, hdd⟩ := P2.ex
      have la := hdd.len
      rw [List.length_map] at la
      have hpe2 := P2.en
      obtain ⟨es, hes⟩ : ∃ es, es = ((List.range i).map (eI o)).map V.int := ⟨_, rfl⟩
      rw [← hes] at hpe2
      have hl2 : es.length = i := by rw [hes]; simp
      have hil : i < xs.length := (List.getElem?_eq_some_iff.mp hxi).1
      have hoz := oko.z
      walk_at "fl.w"
      refine ⟨_, _, rfl, ⟨acc, ?_, hdd.fr (Fr.upd (by simp))⟩, ?_, P2.fr.trans (Fr.upd (by simp))⟩
      · rw [upd_ne (Ne.symm npe)]
        exact hacc
      · rw [upd_same, List.range_succ, List.map_append, List.map_append, hes]
        have e : eI o i = (acc.length : Int) - 1 := by unfold eI; rw [la]
        show some (HO.lst _) = some (HO.lst (_ ++ [V.int (eI o i)]))
        rw [e]
  intro σ' HK ⟨u12, u13, e, P⟩
  subst e
  rw [List.take_of_length_le (show o.length ≤ xs.length by omega), lx] at P
  have smK : Same HJ HK := fun b u e => P.fr b u (fun m => by
    rcases List.mem_cons.mp m with rfl | m
    · rw [hpp] at e; cases e
    · rw [List.mem_singleton.mp m, hpe0] at e; cases e) (sJ _ _ e)
  obtain ⟨acc, hacc, hdd⟩ := P.ex
  have hen := P.en
  have dpp : Dq [d] HK (.ref pp) (.list (o.flatten.map fun p => PyData.tuple (sPt U Z p))) := .lst npd hacc (hdd.mono fun x m => List.mem_cons_of_mem _ (List.mem_cons_of_mem _ m))
  have den : Dq [d] HK (.ref pe) (.list (((List.range o.length).map (eI o)).map PyData.int)) := .lst npd2 hen (ints_dq _)
  have doK := doI.same smK
  have dhK := dhI.same smK
  have dfK := dfI.same smK
  have dpK := dpI.same smK
  have dK := dI.same smK
  have alK := alI.same smK
  clear doI dhI dfI dpI dI alI smK P sJ alP hAG alG P0 hen hdd rol0 nold hpe hpe0 hpp
  walk_at "fl.w"
  refine spD_app [d] [foD (cs mg) (fnt U o h fn.toNat ps).R, ouD o, .int Z] (insD (adr mg "Zone") (zoOf U Z o).F) alK (.cons dK (.cons doK (.cons (.int _) .nil))) ⟨(fnt U o h fn.toNat ps).R, U, Z, o, rfl, rfl, oko, U0, U1, Z0, by omega, rfl⟩ (fun vz HL smL dz => ?_)
  obtain ⟨za, zdx, y1, y2, y3, y4, rfl, nz, zA, k1, k2, k3, k4⟩ := f4E dz
  have dppL := dpp.same smL
  have denL := den.same smL
  have dhL := dhK.same smL
  have dfL := dfK.same smL
  have dpL := dpK.same smL
  have dL := dK.same smL
  have alL := alK.same smL
  have haccL := smL _ _ hacc
  have k1' : Dq [d] HL y1 (.list (o.flatten.map fun p => PyData.tuple (sPt U Z p))) := by
    rw [← ltD_map]; exact k1
  have k2' : Dq [d] HL y2 (.list (o.flatten.map fun p => PyData.tuple (sPt U Z p))) := by
    rw [← ltD_map]; exact k2
  have k3' : Dq [d] HL y3 (.list (List.replicate o.flatten.length (.int 0))) := k3
  have k4' : Dq [d] HL y4 (.list (((List.range o.length).map (eI o)).map PyData.int)) := k4
  clear dK doK dhK dfK dpK alK dpp den smL hacc k1 k2 k3 k4 dz
  have hz9 : (o.flatten.map fun p => PyData.tuple (sPt U Z p)).length ≤ 900 := by rw [List.length_map]; omega
  walk_at "fl.w"
  refine ⟨[d], [d], _, _, _, rfl, hz9, tf_sPt, k1', dppL, ?_⟩
  walk_at "fl.w"
  refine ⟨[d], [d], _, _, _, rfl, hz9, tf_sPt, k2', dppL, ?_⟩
  walk_at "fl.w"
  refine lcL (S := [d]) (fun _ => some (.int 0)) alL dppL (by omega) ?_ ?_
  · intro D' i x e G hD' he smg al hxe R N hR hN
    refine g_name ⟨rfl, ?_⟩
    walk_at "fl.w"
    exact hR _ _ _ rfl (L2.Same.refl _) (.int _)
  intro D4 HM smM hD4 dt
  rw [fm_const, List.length_map] at dt
  have zA2 := smM _ _ zA
  walk_at "fl.w"
  refine ⟨[d], [d], _, _, _, rfl, by rw [List.length_replicate]; omega, tf_zeros, k3'.same smM, dt, ?_⟩
  walk_at "fl.w"
  refine ⟨[d], [d], _, _, _, rfl, by rw [List.length_map, List.length_map, List.length_range]; have := oko.z; omega, tf_ints, k4'.same smM, denL.same smM, ?_⟩
  have dhM := dhL.same smM
  have dfM := dfL.same smM
  have dpM := dpL.same smM
  have dM := dL.same smM
  have alM := alL.same smM
  clear k1' k2' k3' k4' denL dppL dhL dfL dpL dL alL zA zA2 dt haccL smM hD4
  walk_at "fl.w"
  refine spD_app [d] [foD (cs mg) (fnt U o h fn.toNat ps).R, .int 1, .int Z] (insD (adr mg "Program") (prgOf U Z (g1 o h) (fnt U o h fn.toNat ps)).F) alM (.cons dM (.cons (.int _) (.cons (.int _) .nil))) ⟨fnt U o h fn.toNat ps, g1 o h, 1, Z, rfl, nf.1, rfl, Z0, by omega, rfl⟩ (fun vp HN smN dg => ?_)
  obtain ⟨ga, gdx, q1, q2, q3, q4, rfl, ng, gA, j1, j2, j3, j4⟩ := f4E dg
  have j4 : Dq [d] HN q4 (.int Z) := j4
  cases j4.intE
  have j1 : Dq [d] HN q1 (.list (h.map inD)) := by
    rw [show PyData.list (h.map inD) = ltD (h.map s1i) from (ltD_map s1i h).symm]; exact j1
  have j2 : Dq [d] HN q2 (.list (List.replicate fn.toNat (codeD fnC))) := by
    rw [show PyData.list (List.replicate fn.toNat (codeD fnC)) = ouD3 ((List.replicate fn.toNat fnC).map fun c => c.map s1i) from by
      unfold ouD3
      rw [List.map_map, List.map_replicate]
      rfl]
    exact j2
  have j3 : Dq [d] HN q3 (.list ((ps.map (scl U Z)).map PyData.int)) := j3
  have dhN := dhM.same smN
  have dfN := dfM.same smN
  have dpN := dpM.same smN
  have dN := dM.same smN
  have alN := alM.same smN
  clear dhM dfM dpM dM alM smN dg
  walk_at "fl.w"
  refine g_neD' j1 dhN (sh_code h hok) (sh_code h hok) ?_
  rw [eqv_self (sh_code h hok)]
  walk_at "fl.w"
  refine g_neD' j2 dfN (sh_fns _) (sh_fns _) ?_
  rw [eqv_self (sh_fns _)]
  walk_at "fl.w"
  refine .inl ⟨[], [], .int Z, _, _, rfl, trivial, .int _, .int _, ?_⟩
  obtain ⟨_, xq, e, nxq, rxq, hXQ⟩ := dpN.lstE
  cases e
  walk_at "fl.w"
  refine lcL (S := [d]) (fun i => (ps[i]?).map fun p => .int (scl U Z p)) alN dpN (by rw [List.length_map]; omega) ?_ ?_
  · intro D' i x e G hD' he smg al hxe R N hR hN
    obtain ⟨p, hp, rfl⟩ := at_map he
    cases hxe.intE
    have hpb := hps p (List.mem_of_getElem? hp)
    have sx : ScIn U Z p := ⟨U0, U1, Z0, by omega, by omega, by omega⟩
    refine g_name ⟨rfl, ?_⟩
    walk_at "fl.w"
    exact hR _ _ _ (by rw [hp]; rfl) (L2.Same.refl _) (.int _)
  intro D5 HO smO hD5 dq5
  rw [List.length_map, fm_ltA rfl] at dq5
  have gA2 := smO _ _ gA
  have dq5 : Dq [d] HO (.ref D5) (.list ((ps.map (scl U Z)).map PyData.int)) := by rw [List.map_map]; exact dq5
  walk_at "fl.w"
  refine ⟨[d], [d], _, _, _, rfl, by rw [List.length_map, List.length_map]; omega, tf_ints, j3.same smO, dq5, ?_⟩
  have dO := dN.same smO
  have alO := alN.same smO
  walk_at "fl.w"
  refine spD_app [d] [foD (cs mg) (fnt U o h fn.toNat ps).R, .int 0, .int Z] (insD (adr mg "Program") (prgOf U Z g0 (fnt U o h fn.toNat ps)).F) alO (.cons dO (.cons (.int _) (.cons (.int _) .nil))) ⟨fnt U o h fn.toNat ps, g0, 0, Z, rfl, nf.1, rfl, Z0, by omega, rfl⟩ (fun vp2 HR smR dg2 => ?_)
  obtain ⟨ga2, gdx2, r1, r2, r3, r4, rfl, ng2, gR, i1, i2, i3, i4⟩ := f4E dg2
  have i1 : Dq [d] HR r1 (.list []) := i1
  have dR := dO.same smR
  walk_at "fl.w"
  rename_i p9 hp9
  refine g_eqD (i1.same (Fl.Same.new hp9)) (.lst (S := []) (ds := []) (by simp) upd_same .nil) sh_nilL sh_nilL ?_
  rw [eqv_self sh_nilL]
  have dS := dR.same (Fl.Same.new (o := .lst []) hp9)
  walk_at "fl.w"
  refine ⟨[d], _, (fnt U o h fn.toNat ps).R, 2, Z, rfl, dS, .inr (by show 2 ≤ 2; decide), by decide, fun HT smT => ?_⟩
  have dT := dS.same smT
  walk_at "fl.w"
  refine ⟨[d], _, (fnt U o h fn.toNat ps).R, -1, Z, rfl, dT, .inl (by decide), by decide, fun HV smV => ?_⟩
  walk_at "fl.w"
  exact q _
end

section
variable {P : Program} {w : World} {K : PySem.W.Frag} {mg : Str → Option Value} {base : Heap}
end
abbrev spLaw (K : PySem.W.Frag) : Sp := Fl.spLaw K
theorem all_mk {l : PySem.W.OpenLaw} {w : World} {K : PySem.W.Frag} {h : Heap} {mg : Str → Option Value} {fa : Addr} (X : K.In h) (G : h.Ns mainGlobals mg) (hfa : mg "law" = some (.ref fa))
    {od0 an0 : Option Addr} {sl0 : Array (Option Value)} {oc0 kV0 dc0 pm0 cd0 ct0 : Value} {f0 : Addr}
    (a0 : PySem.W.nsIn K mainGlobals "tuples_of" = some (some (.ref f0))) (l0 : K.lookup f0 = some ⟨oc0, od0, .func (PySem.W.fnOf "tuples_of" "tuples_of" (defArgs s_tuples_of) (defBody s_tuples_of) (defScope s_tuples_of) .none kV0 dc0 pm0 an0 cd0 ct0), sl0⟩) (c0 : PySem.W.codeIn K cd0 "tuples_of" = true) (k0 : PySem.W.keepIn K (.ref f0) = true)
    {od1 an1 : Option Addr} {sl1 : Array (Option Value)} {oc1 kV1 dc1 pm1 cd1 ct1 : Value} {f1 : Addr}
    (a1 : PySem.W.nsIn K mainGlobals "depths_of" = some (some (.ref f1))) (l1 : K.lookup f1 = some ⟨oc1, od1, .func (PySem.W.fnOf "depths_of" "depths_of" (defArgs s_depths_of) (defBody s_depths_of) (defScope s_depths_of) .none kV1 dc1 pm1 an1 cd1 ct1), sl1⟩) (c1 : PySem.W.codeIn K cd1 "depths_of" = true) (k1 : PySem.W.keepIn K (.ref f1) = true)
    {od2 an2 : Option Addr} {sl2 : Array (Option Value)} {oc2 kV2 dc2 pm2 cd2 ct2 : Value} {f2 : Addr}
    (a2 : PySem.W.nsIn K mainGlobals "has_parts_in" = some (some (.ref f2))) (l2 : K.lookup f2 = some ⟨oc2, od2, .func (PySem.W.fnOf "has_parts_in" "has_parts_in" (defArgs s_has_parts_in) (defBody s_has_parts_in) (defScope s_has_parts_in) .none kV2 dc2 pm2 an2 cd2 ct2), sl2⟩) (c2 : PySem.W.codeIn K cd2 "has_parts_in" = true) (k2 : PySem.W.keepIn K (.ref f2) = true)
    {od3 an3 : Option Addr} {sl3 : Array (Option Value)} {oc3 kV3 dc3 pm3 cd3 ct3 : Value} {f3 : Addr}
    (a3 : PySem.W.nsIn K mainGlobals "is_proper" = some (some (.ref f3))) (l3 : K.lookup f3 = some ⟨oc3, od3, .func (PySem.W.fnOf "is_proper" "is_proper" (defArgs s_is_proper) (defBody s_is_proper) (defScope s_is_proper) .none kV3 dc3 pm3 an3 cd3 ct3), sl3⟩) (c3 : PySem.W.codeIn K cd3 "is_proper" = true) (k3 : PySem.W.keepIn K (.ref f3) = true)
    {od4 an4 : Option Addr} {sl4 : Array (Option Value)} {oc4 kV4 dc4 pm4 cd4 ct4 : Value} {f4 : Addr}
    (a4 : PySem.W.nsIn K mainGlobals "count_points" = some (some (.ref f4))) (l4 : K.lookup f4 = some ⟨oc4, od4, .func (PySem.W.fnOf "count_points" "count_points" (defArgs s_count_points) (defBody s_count_points) (defScope s_count_points) .none kV4 dc4 pm4 an4 cd4 ct4), sl4⟩) (c4 : PySem.W.codeIn K cd4 "count_points" = true) (k4 : PySem.W.keepIn K (.ref f4) = true)
    {od5 an5 : Option Addr} {sl5 : Array (Option Value)} {oc5 kV5 dc5 pm5 cd5 ct5 : Value} {f5 : Addr}
    (a5 : PySem.W.nsIn K mainGlobals "check_known" = some (some (.ref f5))) (l5 : K.lookup f5 = some ⟨oc5, od5, .func (PySem.W.fnOf "check_known" "check_known" (defArgs s_check_known) (defBody s_check_known) (defScope s_check_known) .none kV5 dc5 pm5 an5 cd5 ct5), sl5⟩) (c5 : PySem.W.codeIn K cd5 "check_known" = true) (k5 : PySem.W.keepIn K (.ref f5) = true)
    {od6 an6 : Option Addr} {sl6 : Array (Option Value)} {oc6 kV6 dc6 pm6 cd6 ct6 : Value} {f6 : Addr}
    (a6 : PySem.W.nsIn K mainGlobals "is_rising" = some (some (.ref f6))) (l6 : K.lookup f6 = some ⟨oc6, od6, .func (PySem.W.fnOf "is_rising" "is_rising" (defArgs s_is_rising) (defBody s_is_rising) (defScope s_is_rising) .none kV6 dc6 pm6 an6 cd6 ct6), sl6⟩) (c6 : PySem.W.codeIn K cd6 "is_rising" = true) (k6 : PySem.W.keepIn K (.ref f6) = true)
    {od7 an7 : Option Addr} {sl7 : Array (Option Value)} {oc7 kV7 dc7 pm7 cd7 ct7 : Value} {f7 : Addr}
    (a7 : PySem.W.nsIn K mainGlobals "is_instruction" = some (some (.ref f7))) (l7 : K.lookup f7 = some ⟨oc7, od7, .func (PySem.W.fnOf "is_instruction" "is_instruction" (defArgs s_is_instruction) (defBody s_is_instruction) (defScope s_is_instruction) .none kV7 dc7 pm7 an7 cd7 ct7), sl7⟩) (c7 : PySem.W.codeIn K cd7 "is_instruction" = true) (k7 : PySem.W.keepIn K (.ref f7) = true)
    {od8 an8 : Option Addr} {sl8 : Array (Option Value)} {oc8 kV8 dc8 pm8 cd8 ct8 : Value} {f8 : Addr}
    (a8 : PySem.W.nsIn K mainGlobals "scaled" = some (some (.ref f8))) (l8 : K.lookup f8 = some ⟨oc8, od8, .func (PySem.W.fnOf "scaled" "scaled" (defArgs s_scaled) (defBody s_scaled) (defScope s_scaled) .none kV8 dc8 pm8 an8 cd8 ct8), sl8⟩) (c8 : PySem.W.codeIn K cd8 "scaled" = true) (k8 : PySem.W.keepIn K (.ref f8) = true)
    {od9 an9 : Option Addr} {sl9 : Array (Option Value)} {oc9 kV9 dc9 pm9 cd9 ct9 : Value} {f9 : Addr}
    (a9 : PySem.W.nsIn K mainGlobals "zone_of" = some (some (.ref f9))) (l9 : K.lookup f9 = some ⟨oc9, od9, .func (PySem.W.fnOf "zone_of" "zone_of" (defArgs s_zone_of) (defBody s_zone_of) (defScope s_zone_of) .none kV9 dc9 pm9 an9 cd9 ct9), sl9⟩) (c9 : PySem.W.codeIn K cd9 "zone_of" = true) (k9 : PySem.W.keepIn K (.ref f9) = true)
    {od10 an10 : Option Addr} {sl10 : Array (Option Value)} {oc10 kV10 dc10 pm10 cd10 ct10 : Value} {f10 : Addr}
    (a10 : PySem.W.nsIn K mainGlobals "program_of" = some (some (.ref f10))) (l10 : K.lookup f10 = some ⟨oc10, od10, .func (PySem.W.fnOf "program_of" "program_of" (defArgs s_program_of) (defBody s_program_of) (defScope s_program_of) .none kV10 dc10 pm10 an10 cd10 ct10), sl10⟩) (c10 : PySem.W.codeIn K cd10 "program_of" = true) (k10 : PySem.W.keepIn K (.ref f10) = true)
    {od11 an11 : Option Addr} {sl11 : Array (Option Value)} {oc11 kV11 dc11 pm11 cd11 ct11 : Value} {f11 : Addr}
    (a11 : PySem.W.nsIn K mainGlobals "is_row_of_letters" = some (some (.ref f11))) (l11 : K.lookup f11 = some ⟨oc11, od11, .func (PySem.W.fnOf "is_row_of_letters" "is_row_of_letters" (defArgs s_is_row_of_letters) (defBody s_is_row_of_letters) (defScope s_is_row_of_letters) .none kV11 dc11 pm11 an11 cd11 ct11), sl11⟩) (c11 : PySem.W.codeIn K cd11 "is_row_of_letters" = true) (k11 : PySem.W.keepIn K (.ref f11) = true)
    {od12 an12 : Option Addr} {sl12 : Array (Option Value)} {oc12 kV12 dc12 pm12 cd12 ct12 : Value} {f12 : Addr}
    (a12 : PySem.W.nsIn K mainGlobals "lookup_reason" = some (some (.ref f12))) (l12 : K.lookup f12 = some ⟨oc12, od12, .func (PySem.W.fnOf "lookup_reason" "lookup_reason" (defArgs s_lookup_reason) (defBody s_lookup_reason) (defScope s_lookup_reason) .none kV12 dc12 pm12 an12 cd12 ct12), sl12⟩) (c12 : PySem.W.codeIn K cd12 "lookup_reason" = true) (k12 : PySem.W.keepIn K (.ref f12) = true)
    {od13 an13 : Option Addr} {sl13 : Array (Option Value)} {oc13 kV13 dc13 pm13 cd13 ct13 : Value} {f13 : Addr}
    (a13 : PySem.W.nsIn K mainGlobals "first_fault" = some (some (.ref f13))) (l13 : K.lookup f13 = some ⟨oc13, od13, .func (PySem.W.fnOf "first_fault" "first_fault" (defArgs s_first_fault) (defBody s_first_fault) (defScope s_first_fault) .none kV13 dc13 pm13 an13 cd13 ct13), sl13⟩) (c13 : PySem.W.codeIn K cd13 "first_fault" = true) (k13 : PySem.W.keepIn K (.ref f13) = true)
    {od14 an14 : Option Addr} {sl14 : Array (Option Value)} {oc14 kV14 dc14 pm14 cd14 ct14 : Value} {f14 : Addr}
    (a14 : PySem.W.nsIn K mainGlobals "placed" = some (some (.ref f14))) (l14 : K.lookup f14 = some ⟨oc14, od14, .func (PySem.W.fnOf "placed" "placed" (defArgs s_placed) (defBody s_placed) (defScope s_placed) .none kV14 dc14 pm14 an14 cd14 ct14), sl14⟩) (c14 : PySem.W.codeIn K cd14 "placed" = true) (k14 : PySem.W.keepIn K (.ref f14) = true)
    {od15 an15 : Option Addr} {sl15 : Array (Option Value)} {oc15 kV15 dc15 pm15 cd15 ct15 : Value} {f15 : Addr}
    (a15 : PySem.W.nsIn K mainGlobals "first_glyph_fault" = some (some (.ref f15))) (l15 : K.lookup f15 = some ⟨oc15, od15, .func (PySem.W.fnOf "first_glyph_fault" "first_glyph_fault" (defArgs s_first_glyph_fault) (defBody s_first_glyph_fault) (defScope s_first_glyph_fault) .none kV15 dc15 pm15 an15 cd15 ct15), sl15⟩) (c15 : PySem.W.codeIn K cd15 "first_glyph_fault" = true) (k15 : PySem.W.keepIn K (.ref f15) = true)
    {od16 an16 : Option Addr} {sl16 : Array (Option Value)} {oc16 kV16 dc16 pm16 cd16 ct16 : Value} {f16 : Addr}
    (a16 : PySem.W.nsIn K mainGlobals "first_lookup_fault" = some (some (.ref f16))) (l16 : K.lookup f16 = some ⟨oc16, od16, .func (PySem.W.fnOf "first_lookup_fault" "first_lookup_fault" (defArgs s_first_lookup_fault) (defBody s_first_lookup_fault) (defScope s_first_lookup_fault) .none kV16 dc16 pm16 an16 cd16 ct16), sl16⟩) (c16 : PySem.W.codeIn K cd16 "first_lookup_fault" = true) (k16 : PySem.W.keepIn K (.ref f16) = true)
    {od17 an17 : Option Addr} {sl17 : Array (Option Value)} {oc17 kV17 dc17 pm17 cd17 ct17 : Value} {f17 : Addr}
    (a17 : PySem.W.nsIn K mainGlobals "is_coordinate" = some (some (.ref f17))) (l17 : K.lookup f17 = some ⟨oc17, od17, .func (PySem.W.fnOf "is_coordinate" "is_coordinate" (defArgs s_is_coordinate) (defBody s_is_coordinate) (defScope s_is_coordinate) .none kV17 dc17 pm17 an17 cd17 ct17), sl17⟩) (c17 : PySem.W.codeIn K cd17 "is_coordinate" = true) (k17 : PySem.W.keepIn K (.ref f17) = true)
    {od18 an18 : Option Addr} {sl18 : Array (Option Value)} {oc18 kV18 dc18 pm18 cd18 ct18 : Value} {f18 : Addr}
    (a18 : PySem.W.nsIn K mainGlobals "many_reason" = some (some (.ref f18))) (l18 : K.lookup f18 = some ⟨oc18, od18, .func (PySem.W.fnOf "many_reason" "many_reason" (defArgs s_many_reason) (defBody s_many_reason) (defScope s_many_reason) .none kV18 dc18 pm18 an18 cd18 ct18), sl18⟩) (c18 : PySem.W.codeIn K cd18 "many_reason" = true) (k18 : PySem.W.keepIn K (.ref f18) = true)
    {od19 an19 : Option Addr} {sl19 : Array (Option Value)} {oc19 kV19 dc19 pm19 cd19 ct19 : Value} {f19 : Addr}
    (a19 : PySem.W.nsIn K mainGlobals "unit_reason" = some (some (.ref f19))) (l19 : K.lookup f19 = some ⟨oc19, od19, .func (PySem.W.fnOf "unit_reason" "unit_reason" (defArgs s_unit_reason) (defBody s_unit_reason) (defScope s_unit_reason) .none kV19 dc19 pm19 an19 cd19 ct19), sl19⟩) (c19 : PySem.W.codeIn K cd19 "unit_reason" = true) (k19 : PySem.W.keepIn K (.ref f19) = true)
    {od20 an20 : Option Addr} {sl20 : Array (Option Value)} {oc20 kV20 dc20 pm20 cd20 ct20 : Value} {f20 : Addr}
    (a20 : PySem.W.nsIn K mainGlobals "glyph_reason" = some (some (.ref f20))) (l20 : K.lookup f20 = some ⟨oc20, od20, .func (PySem.W.fnOf "glyph_reason" "glyph_reason" (defArgs s_glyph_reason) (defBody s_glyph_reason) (defScope s_glyph_reason) .none kV20 dc20 pm20 an20 cd20 ct20), sl20⟩) (c20 : PySem.W.codeIn K cd20 "glyph_reason" = true) (k20 : PySem.W.keepIn K (.ref f20) = true)
    {od21 an21 : Option Addr} {sl21 : Array (Option Value)} {oc21 kV21 dc21 pm21 cd21 ct21 : Value} {f21 : Addr}
    (a21 : PySem.W.nsIn K mainGlobals "is_part" = some (some (.ref f21))) (l21 : K.lookup f21 = some ⟨oc21, od21, .func (PySem.W.fnOf "is_part" "is_part" (defArgs s_is_part) (defBody s_is_part) (defScope s_is_part) .none kV21 dc21 pm21 an21 cd21 ct21), sl21⟩) (c21 : PySem.W.codeIn K cd21 "is_part" = true) (k21 : PySem.W.keepIn K (.ref f21) = true)
    {od22 an22 : Option Addr} {sl22 : Array (Option Value)} {oc22 kV22 dc22 pm22 cd22 ct22 : Value} {f22 : Addr}
    (a22 : PySem.W.nsIn K mainGlobals "is_anchor" = some (some (.ref f22))) (l22 : K.lookup f22 = some ⟨oc22, od22, .func (PySem.W.fnOf "is_anchor" "is_anchor" (defArgs s_is_anchor) (defBody s_is_anchor) (defScope s_is_anchor) .none kV22 dc22 pm22 an22 cd22 ct22), sl22⟩) (c22 : PySem.W.codeIn K cd22 "is_anchor" = true) (k22 : PySem.W.keepIn K (.ref f22) = true)
    {od23 an23 : Option Addr} {sl23 : Array (Option Value)} {oc23 kV23 dc23 pm23 cd23 ct23 : Value} {f23 : Addr}
    (a23 : PySem.W.nsIn K mainGlobals "is_delta" = some (some (.ref f23))) (l23 : K.lookup f23 = some ⟨oc23, od23, .func (PySem.W.fnOf "is_delta" "is_delta" (defArgs s_is_delta) (defBody s_is_delta) (defScope s_is_delta) .none kV23 dc23 pm23 an23 cd23 ct23), sl23⟩) (c23 : PySem.W.codeIn K cd23 "is_delta" = true) (k23 : PySem.W.keepIn K (.ref f23) = true)
    {od24 an24 : Option Addr} {sl24 : Array (Option Value)} {oc24 kV24 dc24 pm24 cd24 ct24 : Value} {f24 : Addr}
    (a24 : PySem.W.nsIn K mainGlobals "parts_reason" = some (some (.ref f24))) (l24 : K.lookup f24 = some ⟨oc24, od24, .func (PySem.W.fnOf "parts_reason" "parts_reason" (defArgs s_parts_reason) (defBody s_parts_reason) (defScope s_parts_reason) .none kV24 dc24 pm24 an24 cd24 ct24), sl24⟩) (c24 : PySem.W.codeIn K cd24 "parts_reason" = true) (k24 : PySem.W.keepIn K (.ref f24) = true)
    {od25 an25 : Option Addr} {sl25 : Array (Option Value)} {oc25 kV25 dc25 pm25 cd25 ct25 : Value} {f25 : Addr}
    (a25 : PySem.W.nsIn K mainGlobals "chars_reason" = some (some (.ref f25))) (l25 : K.lookup f25 = some ⟨oc25, od25, .func (PySem.W.fnOf "chars_reason" "chars_reason" (defArgs s_chars_reason) (defBody s_chars_reason) (defScope s_chars_reason) .none kV25 dc25 pm25 an25 cd25 ct25), sl25⟩) (c25 : PySem.W.codeIn K cd25 "chars_reason" = true) (k25 : PySem.W.keepIn K (.ref f25) = true)
    {od26 an26 : Option Addr} {sl26 : Array (Option Value)} {oc26 kV26 dc26 pm26 cd26 ct26 : Value} {f26 : Addr}
    (a26 : PySem.W.nsIn K mainGlobals "features_reason" = some (some (.ref f26))) (l26 : K.lookup f26 = some ⟨oc26, od26, .func (PySem.W.fnOf "features_reason" "features_reason" (defArgs s_features_reason) (defBody s_features_reason) (defScope s_features_reason) .none kV26 dc26 pm26 an26 cd26 ct26), sl26⟩) (c26 : PySem.W.codeIn K cd26 "features_reason" = true) (k26 : PySem.W.keepIn K (.ref f26) = true)
    {od27 an27 : Option Addr} {sl27 : Array (Option Value)} {oc27 kV27 dc27 pm27 cd27 ct27 : Value} {f27 : Addr}
    (a27 : PySem.W.nsIn K mainGlobals "axes_reason" = some (some (.ref f27))) (l27 : K.lookup f27 = some ⟨oc27, od27, .func (PySem.W.fnOf "axes_reason" "axes_reason" (defArgs s_axes_reason) (defBody s_axes_reason) (defScope s_axes_reason) .none kV27 dc27 pm27 an27 cd27 ct27), sl27⟩) (c27 : PySem.W.codeIn K cd27 "axes_reason" = true) (k27 : PySem.W.keepIn K (.ref f27) = true)
    {od28 an28 : Option Addr} {sl28 : Array (Option Value)} {oc28 kV28 dc28 pm28 cd28 ct28 : Value} {f28 : Addr}
    (a28 : PySem.W.nsIn K mainGlobals "regions_reason" = some (some (.ref f28))) (l28 : K.lookup f28 = some ⟨oc28, od28, .func (PySem.W.fnOf "regions_reason" "regions_reason" (defArgs s_regions_reason) (defBody s_regions_reason) (defScope s_regions_reason) .none kV28 dc28 pm28 an28 cd28 ct28), sl28⟩) (c28 : PySem.W.codeIn K cd28 "regions_reason" = true) (k28 : PySem.W.keepIn K (.ref f28) = true)
    {od29 an29 : Option Addr} {sl29 : Array (Option Value)} {oc29 kV29 dc29 pm29 cd29 ct29 : Value} {f29 : Addr}
    (a29 : PySem.W.nsIn K mainGlobals "is_tent" = some (some (.ref f29))) (l29 : K.lookup f29 = some ⟨oc29, od29, .func (PySem.W.fnOf "is_tent" "is_tent" (defArgs s_is_tent) (defBody s_is_tent) (defScope s_is_tent) .none kV29 dc29 pm29 an29 cd29 ct29), sl29⟩) (c29 : PySem.W.codeIn K cd29 "is_tent" = true) (k29 : PySem.W.keepIn K (.ref f29) = true)
    {od30 an30 : Option Addr} {sl30 : Array (Option Value)} {oc30 kV30 dc30 pm30 cd30 ct30 : Value} {f30 : Addr}
    (a30 : PySem.W.nsIn K mainGlobals "functions_reason" = some (some (.ref f30))) (l30 : K.lookup f30 = some ⟨oc30, od30, .func (PySem.W.fnOf "functions_reason" "functions_reason" (defArgs s_functions_reason) (defBody s_functions_reason) (defScope s_functions_reason) .none kV30 dc30 pm30 an30 cd30 ct30), sl30⟩) (c30 : PySem.W.codeIn K cd30 "functions_reason" = true) (k30 : PySem.W.keepIn K (.ref f30) = true)
    {od31 an31 : Option Addr} {sl31 : Array (Option Value)} {oc31 kV31 dc31 pm31 cd31 ct31 : Value} {f31 : Addr}
    (a31 : PySem.W.nsIn K mainGlobals "presets_reason" = some (some (.ref f31))) (l31 : K.lookup f31 = some ⟨oc31, od31, .func (PySem.W.fnOf "presets_reason" "presets_reason" (defArgs s_presets_reason) (defBody s_presets_reason) (defScope s_presets_reason) .none kV31 dc31 pm31 an31 cd31 ct31), sl31⟩) (c31 : PySem.W.codeIn K cd31 "presets_reason" = true) (k31 : PySem.W.keepIn K (.ref f31) = true)
    {od32 an32 : Option Addr} {sl32 : Array (Option Value)} {oc32 kV32 dc32 pm32 cd32 ct32 : Value} {f32 : Addr}
    (a32 : PySem.W.nsIn K mainGlobals "copied_glyph" = some (some (.ref f32))) (l32 : K.lookup f32 = some ⟨oc32, od32, .func (PySem.W.fnOf "copied_glyph" "copied_glyph" (defArgs s_copied_glyph) (defBody s_copied_glyph) (defScope s_copied_glyph) .none kV32 dc32 pm32 an32 cd32 ct32), sl32⟩) (c32 : PySem.W.codeIn K cd32 "copied_glyph" = true) (k32 : PySem.W.keepIn K (.ref f32) = true)
    {od33 an33 : Option Addr} {sl33 : Array (Option Value)} {oc33 kV33 dc33 pm33 cd33 ct33 : Value} {f33 : Addr}
    (a33 : PySem.W.nsIn K mainGlobals "copied_rule" = some (some (.ref f33))) (l33 : K.lookup f33 = some ⟨oc33, od33, .func (PySem.W.fnOf "copied_rule" "copied_rule" (defArgs s_copied_rule) (defBody s_copied_rule) (defScope s_copied_rule) .none kV33 dc33 pm33 an33 cd33 ct33), sl33⟩) (c33 : PySem.W.codeIn K cd33 "copied_rule" = true) (k33 : PySem.W.keepIn K (.ref f33) = true)
    {od34 an34 : Option Addr} {sl34 : Array (Option Value)} {oc34 kV34 dc34 pm34 cd34 ct34 : Value} {f34 : Addr}
    (a34 : PySem.W.nsIn K mainGlobals "copied_lookup" = some (some (.ref f34))) (l34 : K.lookup f34 = some ⟨oc34, od34, .func (PySem.W.fnOf "copied_lookup" "copied_lookup" (defArgs s_copied_lookup) (defBody s_copied_lookup) (defScope s_copied_lookup) .none kV34 dc34 pm34 an34 cd34 ct34), sl34⟩) (c34 : PySem.W.codeIn K cd34 "copied_lookup" = true) (k34 : PySem.W.keepIn K (.ref f34) = true)
    {od35 an35 : Option Addr} {sl35 : Array (Option Value)} {oc35 kV35 dc35 pm35 cd35 ct35 : Value} {f35 : Addr}
    (a35 : PySem.W.nsIn K mainGlobals "_law_deck" = some (some (.ref f35))) (l35 : K.lookup f35 = some ⟨oc35, od35, .func (PySem.W.fnOf "_law_deck" "_law_deck" (defArgs s_law_deck) (defBody s_law_deck) (defScope s_law_deck) .none kV35 dc35 pm35 an35 cd35 ct35), sl35⟩) (c35 : PySem.W.codeIn K cd35 "_law_deck" = true) (k35 : PySem.W.keepIn K (.ref f35) = true)
    {od36 an36 : Option Addr} {sl36 : Array (Option Value)} {oc36 kV36 dc36 pm36 cd36 ct36 : Value} {f36 : Addr}
    (a36 : PySem.W.nsIn K mainGlobals "_law_draw" = some (some (.ref f36))) (l36 : K.lookup f36 = some ⟨oc36, od36, .func (PySem.W.fnOf "_law_draw" "_law_draw" (defArgs s_law_draw) (defBody s_law_draw) (defScope s_law_draw) .none kV36 dc36 pm36 an36 cd36 ct36), sl36⟩) (c36 : PySem.W.codeIn K cd36 "_law_draw" = true) (k36 : PySem.W.keepIn K (.ref f36) = true)
    {od37 an37 : Option Addr} {sl37 : Array (Option Value)} {oc37 kV37 dc37 pm37 cd37 ct37 : Value} {f37 : Addr}
    (a37 : PySem.W.nsIn K mainGlobals "_law_same" = some (some (.ref f37))) (l37 : K.lookup f37 = some ⟨oc37, od37, .func (PySem.W.fnOf "_law_same" "_law_same" (defArgs s_law_same) (defBody s_law_same) (defScope s_law_same) .none kV37 dc37 pm37 an37 cd37 ct37), sl37⟩) (c37 : PySem.W.codeIn K cd37 "_law_same" = true) (k37 : PySem.W.keepIn K (.ref f37) = true)
    {od38 an38 : Option Addr} {sl38 : Array (Option Value)} {oc38 kV38 dc38 pm38 cd38 ct38 : Value} {f38 : Addr}
    (a38 : PySem.W.nsIn K mainGlobals "_law_same_list" = some (some (.ref f38))) (l38 : K.lookup f38 = some ⟨oc38, od38, .func (PySem.W.fnOf "_law_same_list" "_law_same_list" (defArgs s_law_same_list) (defBody s_law_same_list) (defScope s_law_same_list) .none kV38 dc38 pm38 an38 cd38 ct38), sl38⟩) (c38 : PySem.W.codeIn K cd38 "_law_same_list" = true) (k38 : PySem.W.keepIn K (.ref f38) = true)
    {od39 an39 : Option Addr} {sl39 : Array (Option Value)} {oc39 kV39 dc39 pm39 cd39 ct39 : Value} {f39 : Addr}
    (a39 : PySem.W.nsIn K mainGlobals "_law_point" = some (some (.ref f39))) (l39 : K.lookup f39 = some ⟨oc39, od39, .func (PySem.W.fnOf "_law_point" "_law_point" (defArgs s_law_point) (defBody s_law_point) (defScope s_law_point) .none kV39 dc39 pm39 an39 cd39 ct39), sl39⟩) (c39 : PySem.W.codeIn K cd39 "_law_point" = true) (k39 : PySem.W.keepIn K (.ref f39) = true)
    {od40 an40 : Option Addr} {sl40 : Array (Option Value)} {oc40 kV40 dc40 pm40 cd40 ct40 : Value} {f40 : Addr}
    (a40 : PySem.W.nsIn K mainGlobals "_law_outline" = some (some (.ref f40))) (l40 : K.lookup f40 = some ⟨oc40, od40, .func (PySem.W.fnOf "_law_outline" "_law_outline" (defArgs s_law_outline) (defBody s_law_outline) (defScope s_law_outline) .none kV40 dc40 pm40 an40 cd40 ct40), sl40⟩) (c40 : PySem.W.codeIn K cd40 "_law_outline" = true) (k40 : PySem.W.keepIn K (.ref f40) = true)
    {od41 an41 : Option Addr} {sl41 : Array (Option Value)} {oc41 kV41 dc41 pm41 cd41 ct41 : Value} {f41 : Addr}
    (a41 : PySem.W.nsIn K mainGlobals "_law_words" = some (some (.ref f41))) (l41 : K.lookup f41 = some ⟨oc41, od41, .func (PySem.W.fnOf "_law_words" "_law_words" (defArgs s_law_words) (defBody s_law_words) (defScope s_law_words) .none kV41 dc41 pm41 an41 cd41 ct41), sl41⟩) (c41 : PySem.W.codeIn K cd41 "_law_words" = true) (k41 : PySem.W.keepIn K (.ref f41) = true)
    {od42 an42 : Option Addr} {sl42 : Array (Option Value)} {oc42 kV42 dc42 pm42 cd42 ct42 : Value} {f42 : Addr}
    (a42 : PySem.W.nsIn K mainGlobals "_law_effect" = some (some (.ref f42))) (l42 : K.lookup f42 = some ⟨oc42, od42, .func (PySem.W.fnOf "_law_effect" "_law_effect" (defArgs s_law_effect) (defBody s_law_effect) (defScope s_law_effect) .none kV42 dc42 pm42 an42 cd42 ct42), sl42⟩) (c42 : PySem.W.codeIn K cd42 "_law_effect" = true) (k42 : PySem.W.keepIn K (.ref f42) = true)
    {od43 an43 : Option Addr} {sl43 : Array (Option Value)} {oc43 kV43 dc43 pm43 cd43 ct43 : Value} {f43 : Addr}
    (a43 : PySem.W.nsIn K mainGlobals "_law_instruction" = some (some (.ref f43))) (l43 : K.lookup f43 = some ⟨oc43, od43, .func (PySem.W.fnOf "_law_instruction" "_law_instruction" (defArgs s_law_instruction) (defBody s_law_instruction) (defScope s_law_instruction) .none kV43 dc43 pm43 an43 cd43 ct43), sl43⟩) (c43 : PySem.W.codeIn K cd43 "_law_instruction" = true) (k43 : PySem.W.keepIn K (.ref f43) = true)
    {od44 an44 : Option Addr} {sl44 : Array (Option Value)} {oc44 kV44 dc44 pm44 cd44 ct44 : Value} {f44 : Addr}
    (a44 : PySem.W.nsIn K mainGlobals "_law_tame" = some (some (.ref f44))) (l44 : K.lookup f44 = some ⟨oc44, od44, .func (PySem.W.fnOf "_law_tame" "_law_tame" (defArgs s_law_tame) (defBody s_law_tame) (defScope s_law_tame) .none kV44 dc44 pm44 an44 cd44 ct44), sl44⟩) (c44 : PySem.W.codeIn K cd44 "_law_tame" = true) (k44 : PySem.W.keepIn K (.ref f44) = true)
    {od45 an45 : Option Addr} {sl45 : Array (Option Value)} {oc45 kV45 dc45 pm45 cd45 ct45 : Value} {f45 : Addr}
    (a45 : PySem.W.nsIn K mainGlobals "_law_scaled" = some (some (.ref f45))) (l45 : K.lookup f45 = some ⟨oc45, od45, .func (PySem.W.fnOf "_law_scaled" "_law_scaled" (defArgs s_law_scaled) (defBody s_law_scaled) (defScope s_law_scaled) .none kV45 dc45 pm45 an45 cd45 ct45), sl45⟩) (c45 : PySem.W.codeIn K cd45 "_law_scaled" = true) (k45 : PySem.W.keepIn K (.ref f45) = true)
    {od46 an46 : Option Addr} {sl46 : Array (Option Value)} {oc46 kV46 dc46 pm46 cd46 ct46 : Value} {f46 : Addr}
    (a46 : PySem.W.nsIn K mainGlobals "_law_unknown" = some (some (.ref f46))) (l46 : K.lookup f46 = some ⟨oc46, od46, .func (PySem.W.fnOf "_law_unknown" "_law_unknown" (defArgs s_law_unknown) (defBody s_law_unknown) (defScope s_law_unknown) .none kV46 dc46 pm46 an46 cd46 ct46), sl46⟩) (c46 : PySem.W.codeIn K cd46 "_law_unknown" = true) (k46 : PySem.W.keepIn K (.ref f46) = true)
    {od47 an47 : Option Addr} {sl47 : Array (Option Value)} {oc47 kV47 dc47 pm47 cd47 ct47 : Value} {f47 : Addr}
    (a47 : PySem.W.nsIn K mainGlobals "law" = some (some (.ref f47))) (l47 : K.lookup f47 = some ⟨oc47, od47, .func (PySem.W.fnOf "law" "law" (defArgs s_law) (defBody s_law) (defScope s_law) .none kV47 dc47 pm47 an47 cd47 ct47), sl47⟩) (c47 : PySem.W.codeIn K cd47 "law" = true) (k47 : PySem.W.keepIn K (.ref f47) = true)
    (z_abs : PySem.W.nsIn K mainGlobals "abs" = some none)
    (z_all : PySem.W.nsIn K mainGlobals "all" = some none)
    (z_bool : PySem.W.nsIn K mainGlobals "bool" = some none)
    (z_enumerate : PySem.W.nsIn K mainGlobals "enumerate" = some none)
    (z_int : PySem.W.nsIn K mainGlobals "int" = some none)
    (z_isinstance : PySem.W.nsIn K mainGlobals "isinstance" = some none)
    (z_len : PySem.W.nsIn K mainGlobals "len" = some none)
    (z_list : PySem.W.nsIn K mainGlobals "list" = some none)
    (z_max : PySem.W.nsIn K mainGlobals "max" = some none)
    (z_min : PySem.W.nsIn K mainGlobals "min" = some none)
    (z_range : PySem.W.nsIn K mainGlobals "range" = some none)
    (z_set : PySem.W.nsIn K mainGlobals "set" = some none)
    (z_str : PySem.W.nsIn K mainGlobals "str" = some none)
    (z_sum : PySem.W.nsIn K mainGlobals "sum" = some none)
    (z_tuple : PySem.W.nsIn K mainGlobals "tuple" = some none)
    {gt_DEEPEST : Tok} (g_DEEPEST : PySem.W.nsIn K mainGlobals "DEEPEST" = some (some (.int (4) gt_DEEPEST)))
    {gt_FARTHEST : Tok} (g_FARTHEST : PySem.W.nsIn K mainGlobals "FARTHEST" = some (some (.int (16384) gt_FARTHEST)))
    {gt_GREATEST_NUMBER : Tok} (g_GREATEST_NUMBER : PySem.W.nsIn K mainGlobals "GREATEST_NUMBER" = some (some (.int (2147483647) gt_GREATEST_NUMBER)))
    {gt_LEAST_NUMBER : Tok} (g_LEAST_NUMBER : PySem.W.nsIn K mainGlobals "LEAST_NUMBER" = some (some (.int (-2147483648) gt_LEAST_NUMBER)))
    {gt_LEAST_OF_CONTOUR : Tok} (g_LEAST_OF_CONTOUR : PySem.W.nsIn K mainGlobals "LEAST_OF_CONTOUR" = some (some (.int (2) gt_LEAST_OF_CONTOUR)))
    {gt_MOST_CONTOURS : Tok} (g_MOST_CONTOURS : PySem.W.nsIn K mainGlobals "MOST_CONTOURS" = some (some (.int (40) gt_MOST_CONTOURS)))
    {gt_MOST_POINTS : Tok} (g_MOST_POINTS : PySem.W.nsIn K mainGlobals "MOST_POINTS" = some (some (.int (200) gt_MOST_POINTS)))
    {gt_ONE_PIXEL : Tok} (g_ONE_PIXEL : PySem.W.nsIn K mainGlobals "ONE_PIXEL" = some (some (.int (64) gt_ONE_PIXEL)))
    {C_FleuronError : Addr} (g_FleuronError : PySem.W.nsIn K mainGlobals "FleuronError" = some (some (.ref C_FleuronError))) (sg_FleuronError : PySem.W.specialIn K (.ref C_FleuronError) "__getattribute__" = some (some (.builtin "type.__getattribute__"))) (ty_FleuronError : PySem.W.typeIn K (.ref C_FleuronError) = some (.type "type")) (rd_FleuronError : PySem.W.readsIn K C_FleuronError (.type "type") = true) (fc_FleuronError : PySem.W.findCls K (.ref C_FleuronError) (.type "type") "__init__" = some (.val (.builtin "ValueError.__init__"))) (be_FleuronError : PySem.W.subIn K (.ref C_FleuronError) (.type "BaseException") = some true) (hd_FleuronError : PySem.W.hasDictIn K C_FleuronError = true) {C_UnknownGlyph N_UnknownGlyph fI_UnknownGlyph : Addr} {nm_UnknownGlyph qn_UnknownGlyph : Str} {bs_UnknownGlyph : List Value} {sn_UnknownGlyph : List Str} {su_UnknownGlyph : List Value} {ab_UnknownGlyph : Bool} {co_UnknownGlyph : Option Bool} {dd_UnknownGlyph : Option Addr} {m0_UnknownGlyph m1_UnknownGlyph m2_UnknownGlyph m3_UnknownGlyph m5_UnknownGlyph : Option Value} {oI_UnknownGlyph kI_UnknownGlyph dI_UnknownGlyph pI_UnknownGlyph cI_UnknownGlyph tI_UnknownGlyph : Value} {odI_UnknownGlyph anI_UnknownGlyph : Option Addr} {slI_UnknownGlyph : Array (Option Value)} (g_UnknownGlyph : PySem.W.nsIn K mainGlobals "UnknownGlyph" = some (some (.ref C_UnknownGlyph))) (xL_UnknownGlyph : K.lookup C_UnknownGlyph = some (excClassObj nm_UnknownGlyph qn_UnknownGlyph C_UnknownGlyph N_UnknownGlyph bs_UnknownGlyph [.ref C_FleuronError, .type "ValueError", .type "Exception", .type "BaseException", .type "object"] true sn_UnknownGlyph su_UnknownGlyph ab_UnknownGlyph co_UnknownGlyph dd_UnknownGlyph m0_UnknownGlyph m1_UnknownGlyph m2_UnknownGlyph m3_UnknownGlyph m5_UnknownGlyph "ValueError.__new__")) (sa_UnknownGlyph : PySem.W.findIn K (.ref C_UnknownGlyph) "__setattr__" = some (some (.builtin "object.__setattr__"))) (be_UnknownGlyph : PySem.W.subIn K (.ref C_UnknownGlyph) (.type "BaseException") = some true) (ty_UnknownGlyph : PySem.W.typeIn K (.ref C_UnknownGlyph) = some (.type "type")) (kC_UnknownGlyph : PySem.W.keepIn K (.ref C_UnknownGlyph) = true) (hd_UnknownGlyph : PySem.W.hasDictIn K C_UnknownGlyph = true) (fn_UnknownGlyph : PySem.W.findIn K (.ref C_UnknownGlyph) "number" = some none) (ga_UnknownGlyph : PySem.W.findIn K (.ref C_UnknownGlyph) "__getattribute__" = some (some (.builtin "BaseException.__getattribute__"))) (gg_UnknownGlyph : PySem.W.findIn K (.ref C_UnknownGlyph) "__getattr__" = some none) (in_UnknownGlyph : PySem.W.findIn K (.ref C_UnknownGlyph) "__init__" = some (some (.ref fI_UnknownGlyph))) (tf_UnknownGlyph : PySem.W.typeIn K (.ref fI_UnknownGlyph) = some (.type "function")) (li_UnknownGlyph : K.lookup fI_UnknownGlyph = some ⟨oI_UnknownGlyph, odI_UnknownGlyph, .func (PySem.W.fnOf "__init__" "UnknownGlyph.__init__" (defArgs s_UnknownGlyph) (defBody s_UnknownGlyph) (defScope s_UnknownGlyph) .none kI_UnknownGlyph dI_UnknownGlyph pI_UnknownGlyph anI_UnknownGlyph cI_UnknownGlyph tI_UnknownGlyph), slI_UnknownGlyph⟩) (ci_UnknownGlyph : PySem.W.codeIn K cI_UnknownGlyph "UnknownGlyph.__init__" = true) (ki_UnknownGlyph : PySem.W.keepIn K (.ref fI_UnknownGlyph) = true) (ss_UnknownGlyph : PySem.W.subIn K (.ref C_UnknownGlyph) (.ref C_UnknownGlyph) = some true) {C_Glyph fI_Glyph D_Glyph : Addr} {oI_Glyph dI_Glyph pI_Glyph cI_Glyph tI_Glyph : Value} {odI_Glyph anI_Glyph : Option Addr} {slI_Glyph : Array (Option Value)} (g_Glyph : PySem.W.nsIn K mainGlobals "Glyph" = some (some (.ref C_Glyph))) (pg_Glyph : PySem.W.plainGet K C_Glyph Str.empty = true) (hd_Glyph : PySem.W.hasDictIn K C_Glyph = true) (po_Glyph : PySem.W.plainOver K C_Glyph = true) (sa_Glyph : PySem.W.findIn K (.ref C_Glyph) "__setattr__" = some (some (.builtin "object.__setattr__"))) (mk_Glyph : PySem.W.makesIn K C_Glyph = true) (in_Glyph : PySem.W.findIn K (.ref C_Glyph) "__init__" = some (some (.ref fI_Glyph))) (fn_Glyph : PySem.W.isFn K (.ref fI_Glyph) = true) (kc_Glyph : PySem.W.keepIn K (.ref C_Glyph) = true) (li_Glyph : K.lookup fI_Glyph = some ⟨oI_Glyph, odI_Glyph, .func (PySem.W.fnOf "__init__" "Glyph.__init__" (defArgs s_Glyph) (defBody s_Glyph) (defScope s_Glyph) .none (.ref D_Glyph) dI_Glyph pI_Glyph anI_Glyph cI_Glyph tI_Glyph), slI_Glyph⟩) (ci_Glyph : PySem.W.codeIn K cI_Glyph "Glyph.__init__" = true) (ki_Glyph : PySem.W.keepIn K (.ref fI_Glyph) = true) {e_Glyph_parts : Addr} {oe_Glyph_parts : Option Addr} {ne_Glyph_parts : Nat} {se_Glyph_parts : Array (Option Value)} (kd_Glyph_parts : PySem.W.nsIn K D_Glyph "parts" = some (some (.ref e_Glyph_parts))) (em_Glyph_parts : K.lookup e_Glyph_parts = some ⟨.type "tuple", oe_Glyph_parts, .seq #[] ne_Glyph_parts, se_Glyph_parts⟩) {e_Glyph_anchors : Addr} {oe_Glyph_anchors : Option Addr} {ne_Glyph_anchors : Nat} {se_Glyph_anchors : Array (Option Value)} (kd_Glyph_anchors : PySem.W.nsIn K D_Glyph "anchors" = some (some (.ref e_Glyph_anchors))) (em_Glyph_anchors : K.lookup e_Glyph_anchors = some ⟨.type "tuple", oe_Glyph_anchors, .seq #[] ne_Glyph_anchors, se_Glyph_anchors⟩) (kd_Glyph_mark : PySem.W.nsIn K D_Glyph "mark" = some (some (.bool false))) {e_Glyph_deltas : Addr} {oe_Glyph_deltas : Option Addr} {ne_Glyph_deltas : Nat} {se_Glyph_deltas : Array (Option Value)} (kd_Glyph_deltas : PySem.W.nsIn K D_Glyph "deltas" = some (some (.ref e_Glyph_deltas))) (em_Glyph_deltas : K.lookup e_Glyph_deltas = some ⟨.type "tuple", oe_Glyph_deltas, .seq #[] ne_Glyph_deltas, se_Glyph_deltas⟩) {e_Glyph_hint : Addr} {oe_Glyph_hint : Option Addr} {ne_Glyph_hint : Nat} {se_Glyph_hint : Array (Option Value)} (kd_Glyph_hint : PySem.W.nsIn K D_Glyph "hint" = some (some (.ref e_Glyph_hint))) (em_Glyph_hint : K.lookup e_Glyph_hint = some ⟨.type "tuple", oe_Glyph_hint, .seq #[] ne_Glyph_hint, se_Glyph_hint⟩) (na_Glyph_advance : PySem.W.findIn K (.ref C_Glyph) "advance" = some none) (na_Glyph_outline : PySem.W.findIn K (.ref C_Glyph) "outline" = some none) (na_Glyph_parts : PySem.W.findIn K (.ref C_Glyph) "parts" = some none) (na_Glyph_anchors : PySem.W.findIn K (.ref C_Glyph) "anchors" = some none) (na_Glyph_mark : PySem.W.findIn K (.ref C_Glyph) "mark" = some none) (na_Glyph_deltas : PySem.W.findIn K (.ref C_Glyph) "deltas" = some none) (na_Glyph_hint : PySem.W.findIn K (.ref C_Glyph) "hint" = some none) {C_Rule fI_Rule D_Rule : Addr} {oI_Rule dI_Rule pI_Rule cI_Rule tI_Rule : Value} {odI_Rule anI_Rule : Option Addr} {slI_Rule : Array (Option Value)} (g_Rule : PySem.W.nsIn K mainGlobals "Rule" = some (some (.ref C_Rule))) (pg_Rule : PySem.W.plainGet K C_Rule Str.empty = true) (hd_Rule : PySem.W.hasDictIn K C_Rule = true) (po_Rule : PySem.W.plainOver K C_Rule = true) (sa_Rule : PySem.W.findIn K (.ref C_Rule) "__setattr__" = some (some (.builtin "object.__setattr__"))) (mk_Rule : PySem.W.makesIn K C_Rule = true) (in_Rule : PySem.W.findIn K (.ref C_Rule) "__init__" = some (some (.ref fI_Rule))) (fn_Rule : PySem.W.isFn K (.ref fI_Rule) = true) (kc_Rule : PySem.W.keepIn K (.ref C_Rule) = true) (li_Rule : K.lookup fI_Rule = some ⟨oI_Rule, odI_Rule, .func (PySem.W.fnOf "__init__" "Rule.__init__" (defArgs s_Rule) (defBody s_Rule) (defScope s_Rule) .none (.ref D_Rule) dI_Rule pI_Rule anI_Rule cI_Rule tI_Rule), slI_Rule⟩) (ci_Rule : PySem.W.codeIn K cI_Rule "Rule.__init__" = true) (ki_Rule : PySem.W.keepIn K (.ref fI_Rule) = true) {e_Rule_back : Addr} {oe_Rule_back : Option Addr} {ne_Rule_back : Nat} {se_Rule_back : Array (Option Value)} (kd_Rule_back : PySem.W.nsIn K D_Rule "back" = some (some (.ref e_Rule_back))) (em_Rule_back : K.lookup e_Rule_back = some ⟨.type "tuple", oe_Rule_back, .seq #[] ne_Rule_back, se_Rule_back⟩) {e_Rule_ahead : Addr} {oe_Rule_ahead : Option Addr} {ne_Rule_ahead : Nat} {se_Rule_ahead : Array (Option Value)} (kd_Rule_ahead : PySem.W.nsIn K D_Rule "ahead" = some (some (.ref e_Rule_ahead))) (em_Rule_ahead : K.lookup e_Rule_ahead = some ⟨.type "tuple", oe_Rule_ahead, .seq #[] ne_Rule_ahead, se_Rule_ahead⟩) {e_Rule_out : Addr} {oe_Rule_out : Option Addr} {ne_Rule_out : Nat} {se_Rule_out : Array (Option Value)} (kd_Rule_out : PySem.W.nsIn K D_Rule "out" = some (some (.ref e_Rule_out))) (em_Rule_out : K.lookup e_Rule_out = some ⟨.type "tuple", oe_Rule_out, .seq #[] ne_Rule_out, se_Rule_out⟩) {e_Rule_calls : Addr} {oe_Rule_calls : Option Addr} {ne_Rule_calls : Nat} {se_Rule_calls : Array (Option Value)} (kd_Rule_calls : PySem.W.nsIn K D_Rule "calls" = some (some (.ref e_Rule_calls))) (em_Rule_calls : K.lookup e_Rule_calls = some ⟨.type "tuple", oe_Rule_calls, .seq #[] ne_Rule_calls, se_Rule_calls⟩) {tk_Rule_extra : Tok} (kd_Rule_extra : PySem.W.nsIn K D_Rule "extra" = some (some (.int 0 tk_Rule_extra))) (na_Rule_inside : PySem.W.findIn K (.ref C_Rule) "inside" = some none) (na_Rule_back : PySem.W.findIn K (.ref C_Rule) "back" = some none) (na_Rule_ahead : PySem.W.findIn K (.ref C_Rule) "ahead" = some none) (na_Rule_out : PySem.W.findIn K (.ref C_Rule) "out" = some none) (na_Rule_calls : PySem.W.findIn K (.ref C_Rule) "calls" = some none) (na_Rule_extra : PySem.W.findIn K (.ref C_Rule) "extra" = some none) {C_Lookup fI_Lookup D_Lookup : Addr} {oI_Lookup dI_Lookup pI_Lookup cI_Lookup tI_Lookup : Value} {odI_Lookup anI_Lookup : Option Addr} {slI_Lookup : Array (Option Value)} (g_Lookup : PySem.W.nsIn K mainGlobals "Lookup" = some (some (.ref C_Lookup))) (pg_Lookup : PySem.W.plainGet K C_Lookup Str.empty = true) (hd_Lookup : PySem.W.hasDictIn K C_Lookup = true) (po_Lookup : PySem.W.plainOver K C_Lookup = true) (sa_Lookup : PySem.W.findIn K (.ref C_Lookup) "__setattr__" = some (some (.builtin "object.__setattr__"))) (mk_Lookup : PySem.W.makesIn K C_Lookup = true) (in_Lookup : PySem.W.findIn K (.ref C_Lookup) "__init__" = some (some (.ref fI_Lookup))) (fn_Lookup : PySem.W.isFn K (.ref fI_Lookup) = true) (kc_Lookup : PySem.W.keepIn K (.ref C_Lookup) = true) (li_Lookup : K.lookup fI_Lookup = some ⟨oI_Lookup, odI_Lookup, .func (PySem.W.fnOf "__init__" "Lookup.__init__" (defArgs s_Lookup) (defBody s_Lookup) (defScope s_Lookup) .none (.ref D_Lookup) dI_Lookup pI_Lookup anI_Lookup cI_Lookup tI_Lookup), slI_Lookup⟩) (ci_Lookup : PySem.W.codeIn K cI_Lookup "Lookup.__init__" = true) (ki_Lookup : PySem.W.keepIn K (.ref fI_Lookup) = true) (kd_Lookup_ignore : PySem.W.nsIn K D_Lookup "ignore" = some (some (.bool false))) (na_Lookup_kind : PySem.W.findIn K (.ref C_Lookup) "kind" = some none) (na_Lookup_rules : PySem.W.findIn K (.ref C_Lookup) "rules" = some none) (na_Lookup_ignore : PySem.W.findIn K (.ref C_Lookup) "ignore" = some none) {C_Font fI_Font D_Font : Addr} {oI_Font dI_Font pI_Font cI_Font tI_Font : Value} {odI_Font anI_Font : Option Addr} {slI_Font : Array (Option Value)} (g_Font : PySem.W.nsIn K mainGlobals "Font" = some (some (.ref C_Font))) (pg_Font : PySem.W.plainGet K C_Font Str.empty = true) (hd_Font : PySem.W.hasDictIn K C_Font = true) (po_Font : PySem.W.plainOver K C_Font = true) (sa_Font : PySem.W.findIn K (.ref C_Font) "__setattr__" = some (some (.builtin "object.__setattr__"))) (mk_Font : PySem.W.makesIn K C_Font = true) (in_Font : PySem.W.findIn K (.ref C_Font) "__init__" = some (some (.ref fI_Font))) (fn_Font : PySem.W.isFn K (.ref fI_Font) = true) (kc_Font : PySem.W.keepIn K (.ref C_Font) = true) (li_Font : K.lookup fI_Font = some ⟨oI_Font, odI_Font, .func (PySem.W.fnOf "__init__" "Font.__init__" (defArgs s_Font) (defBody s_Font) (defScope s_Font) .none (.ref D_Font) dI_Font pI_Font anI_Font cI_Font tI_Font), slI_Font⟩) (ci_Font : PySem.W.codeIn K cI_Font "Font.__init__" = true) (ki_Font : PySem.W.keepIn K (.ref fI_Font) = true) {e_Font_chars : Addr} {oe_Font_chars : Option Addr} {ne_Font_chars : Nat} {se_Font_chars : Array (Option Value)} (kd_Font_chars : PySem.W.nsIn K D_Font "chars" = some (some (.ref e_Font_chars))) (em_Font_chars : K.lookup e_Font_chars = some ⟨.type "tuple", oe_Font_chars, .seq #[] ne_Font_chars, se_Font_chars⟩) {e_Font_lookups : Addr} {oe_Font_lookups : Option Addr} {ne_Font_lookups : Nat} {se_Font_lookups : Array (Option Value)} (kd_Font_lookups : PySem.W.nsIn K D_Font "lookups" = some (some (.ref e_Font_lookups))) (em_Font_lookups : K.lookup e_Font_lookups = some ⟨.type "tuple", oe_Font_lookups, .seq #[] ne_Font_lookups, se_Font_lookups⟩) {e_Font_features : Addr} {oe_Font_features : Option Addr} {ne_Font_features : Nat} {se_Font_features : Array (Option Value)} (kd_Font_features : PySem.W.nsIn K D_Font "features" = some (some (.ref e_Font_features))) (em_Font_features : K.lookup e_Font_features = some ⟨.type "tuple", oe_Font_features, .seq #[] ne_Font_features, se_Font_features⟩) {e_Font_axes : Addr} {oe_Font_axes : Option Addr} {ne_Font_axes : Nat} {se_Font_axes : Array (Option Value)} (kd_Font_axes : PySem.W.nsIn K D_Font "axes" = some (some (.ref e_Font_axes))) (em_Font_axes : K.lookup e_Font_axes = some ⟨.type "tuple", oe_Font_axes, .seq #[] ne_Font_axes, se_Font_axes⟩) {e_Font_regions : Addr} {oe_Font_regions : Option Addr} {ne_Font_regions : Nat} {se_Font_regions : Array (Option Value)} (kd_Font_regions : PySem.W.nsIn K D_Font "regions" = some (some (.ref e_Font_regions))) (em_Font_regions : K.lookup e_Font_regions = some ⟨.type "tuple", oe_Font_regions, .seq #[] ne_Font_regions, se_Font_regions⟩) {e_Font_functions : Addr} {oe_Font_functions : Option Addr} {ne_Font_functions : Nat} {se_Font_functions : Array (Option Value)} (kd_Font_functions : PySem.W.nsIn K D_Font "functions" = some (some (.ref e_Font_functions))) (em_Font_functions : K.lookup e_Font_functions = some ⟨.type "tuple", oe_Font_functions, .seq #[] ne_Font_functions, se_Font_functions⟩) {e_Font_presets : Addr} {oe_Font_presets : Option Addr} {ne_Font_presets : Nat} {se_Font_presets : Array (Option Value)} (kd_Font_presets : PySem.W.nsIn K D_Font "presets" = some (some (.ref e_Font_presets))) (em_Font_presets : K.lookup e_Font_presets = some ⟨.type "tuple", oe_Font_presets, .seq #[] ne_Font_presets, se_Font_presets⟩) (na_Font_unit : PySem.W.findIn K (.ref C_Font) "unit" = some none) (na_Font_glyphs : PySem.W.findIn K (.ref C_Font) "glyphs" = some none) (na_Font_chars : PySem.W.findIn K (.ref C_Font) "chars" = some none) (na_Font_lookups : PySem.W.findIn K (.ref C_Font) "lookups" = some none) (na_Font_features : PySem.W.findIn K (.ref C_Font) "features" = some none) (na_Font_axes : PySem.W.findIn K (.ref C_Font) "axes" = some none) (na_Font_regions : PySem.W.findIn K (.ref C_Font) "regions" = some none) (na_Font_functions : PySem.W.findIn K (.ref C_Font) "functions" = some none) (na_Font_presets : PySem.W.findIn K (.ref C_Font) "presets" = some none) {C_Zone fI_Zone : Addr} {kV_Zone oI_Zone dI_Zone pI_Zone cI_Zone tI_Zone : Value} {odI_Zone anI_Zone : Option Addr} {slI_Zone : Array (Option Value)} (g_Zone : PySem.W.nsIn K mainGlobals "Zone" = some (some (.ref C_Zone))) (pg_Zone : PySem.W.plainGet K C_Zone Str.empty = true) (hd_Zone : PySem.W.hasDictIn K C_Zone = true) (po_Zone : PySem.W.plainOver K C_Zone = true) (sa_Zone : PySem.W.findIn K (.ref C_Zone) "__setattr__" = some (some (.builtin "object.__setattr__"))) (mk_Zone : PySem.W.makesIn K C_Zone = true) (in_Zone : PySem.W.findIn K (.ref C_Zone) "__init__" = some (some (.ref fI_Zone))) (fn_Zone : PySem.W.isFn K (.ref fI_Zone) = true) (kc_Zone : PySem.W.keepIn K (.ref C_Zone) = true) (li_Zone : K.lookup fI_Zone = some ⟨oI_Zone, odI_Zone, .func (PySem.W.fnOf "__init__" "Zone.__init__" (defArgs s_Zone) (defBody s_Zone) (defScope s_Zone) .none kV_Zone dI_Zone pI_Zone anI_Zone cI_Zone tI_Zone), slI_Zone⟩) (ci_Zone : PySem.W.codeIn K cI_Zone "Zone.__init__" = true) (ki_Zone : PySem.W.keepIn K (.ref fI_Zone) = true) (na_Zone_original : PySem.W.findIn K (.ref C_Zone) "original" = some none) (na_Zone_current : PySem.W.findIn K (.ref C_Zone) "current" = some none) (na_Zone_touched : PySem.W.findIn K (.ref C_Zone) "touched" = some none) (na_Zone_ends : PySem.W.findIn K (.ref C_Zone) "ends" = some none) {C_Program fI_Program D_Program : Addr} {oI_Program dI_Program pI_Program cI_Program tI_Program : Value} {odI_Program anI_Program : Option Addr} {slI_Program : Array (Option Value)} (g_Program : PySem.W.nsIn K mainGlobals "Program" = some (some (.ref C_Program))) (pg_Program : PySem.W.plainGet K C_Program Str.empty = true) (hd_Program : PySem.W.hasDictIn K C_Program = true) (po_Program : PySem.W.plainOver K C_Program = true) (sa_Program : PySem.W.findIn K (.ref C_Program) "__setattr__" = some (some (.builtin "object.__setattr__"))) (mk_Program : PySem.W.makesIn K C_Program = true) (in_Program : PySem.W.findIn K (.ref C_Program) "__init__" = some (some (.ref fI_Program))) (fn_Program : PySem.W.isFn K (.ref fI_Program) = true) (kc_Program : PySem.W.keepIn K (.ref C_Program) = true) (li_Program : K.lookup fI_Program = some ⟨oI_Program, odI_Program, .func (PySem.W.fnOf "__init__" "Program.__init__" (defArgs s_Program) (defBody s_Program) (defScope s_Program) .none (.ref D_Program) dI_Program pI_Program anI_Program cI_Program tI_Program), slI_Program⟩) (ci_Program : PySem.W.codeIn K cI_Program "Program.__init__" = true) (ki_Program : PySem.W.keepIn K (.ref fI_Program) = true) {e_Program_functions : Addr} {oe_Program_functions : Option Addr} {ne_Program_functions : Nat} {se_Program_functions : Array (Option Value)} (kd_Program_functions : PySem.W.nsIn K D_Program "functions" = some (some (.ref e_Program_functions))) (em_Program_functions : K.lookup e_Program_functions = some ⟨.type "tuple", oe_Program_functions, .seq #[] ne_Program_functions, se_Program_functions⟩) {e_Program_presets : Addr} {oe_Program_presets : Option Addr} {ne_Program_presets : Nat} {se_Program_presets : Array (Option Value)} (kd_Program_presets : PySem.W.nsIn K D_Program "presets" = some (some (.ref e_Program_presets))) (em_Program_presets : K.lookup e_Program_presets = some ⟨.type "tuple", oe_Program_presets, .seq #[] ne_Program_presets, se_Program_presets⟩) {tk_Program_size : Tok} (kd_Program_size : PySem.W.nsIn K D_Program "size" = some (some (.int 0 tk_Program_size))) (na_Program_main : PySem.W.findIn K (.ref C_Program) "main" = some none) (na_Program_functions : PySem.W.findIn K (.ref C_Program) "functions" = some none) (na_Program_presets : PySem.W.findIn K (.ref C_Program) "presets" = some none) (na_Program_size : PySem.W.findIn K (.ref C_Program) "size" = some none) {A_WITH_CONTEXT : Addr} {od_WITH_CONTEXT : Option Addr} {nn_WITH_CONTEXT : Nat} {sl_WITH_CONTEXT : Array (Option Value)} {tk_WITH_CONTEXT_0 : Tok} {tk_WITH_CONTEXT_1 : Tok} (g_WITH_CONTEXT : PySem.W.nsIn K mainGlobals "WITH_CONTEXT" = some (some (.ref A_WITH_CONTEXT))) (t_WITH_CONTEXT : K.lookup A_WITH_CONTEXT = some ⟨.type "tuple", od_WITH_CONTEXT, .seq #[.str "chain" tk_WITH_CONTEXT_0, .str "reverse" tk_WITH_CONTEXT_1] nn_WITH_CONTEXT, sl_WITH_CONTEXT⟩) {A_WITH_OUT : Addr} {od_WITH_OUT : Option Addr} {nn_WITH_OUT : Nat} {sl_WITH_OUT : Array (Option Value)} {tk_WITH_OUT_0 : Tok} {tk_WITH_OUT_1 : Tok} {tk_WITH_OUT_2 : Tok} {tk_WITH_OUT_3 : Tok} (g_WITH_OUT : PySem.W.nsIn K mainGlobals "WITH_OUT" = some (some (.ref A_WITH_OUT))) (t_WITH_OUT : K.lookup A_WITH_OUT = some ⟨.type "tuple", od_WITH_OUT, .seq #[.str "single" tk_WITH_OUT_0, .str "multiple" tk_WITH_OUT_1, .str "ligature" tk_WITH_OUT_2, .str "reverse" tk_WITH_OUT_3] nn_WITH_OUT, sl_WITH_OUT⟩) {A_ANCHOR_KINDS : Addr} {od_ANCHOR_KINDS : Option Addr} {nn_ANCHOR_KINDS : Nat} {sl_ANCHOR_KINDS : Array (Option Value)} {tk_ANCHOR_KINDS_0 : Tok} {tk_ANCHOR_KINDS_1 : Tok} {tk_ANCHOR_KINDS_2 : Tok} {tk_ANCHOR_KINDS_3 : Tok} (g_ANCHOR_KINDS : PySem.W.nsIn K mainGlobals "ANCHOR_KINDS" = some (some (.ref A_ANCHOR_KINDS))) (t_ANCHOR_KINDS : K.lookup A_ANCHOR_KINDS = some ⟨.type "tuple", od_ANCHOR_KINDS, .seq #[.str "base" tk_ANCHOR_KINDS_0, .str "mark" tk_ANCHOR_KINDS_1, .str "entry" tk_ANCHOR_KINDS_2, .str "exit" tk_ANCHOR_KINDS_3] nn_ANCHOR_KINDS, sl_ANCHOR_KINDS⟩) {A_WORDS : Addr} {es_WORDS : Array DictEntry} {nn_WORDS : Nat} (g_WORDS : PySem.W.nsIn K mainGlobals "WORDS" = some (some (.ref A_WORDS))) (l_WORDS : K.lookup A_WORDS = some ⟨.type "dict", none, .dict es_WORDS nn_WORDS, #[]⟩) (kl_WORDS : PySem.W.KeysLit w.params es_WORDS.toList) (sm_WORDS : (A_WORDS == sysModules) = false) {t_WORDS_0 : Addr} {od_WORDS_0 : Option Addr} {nt_WORDS_0 : Nat} {sl_WORDS_0 : Array (Option Value)} {tk_WORDS_0_0 : Tok} {tk_WORDS_0_1 : Tok} (e_WORDS_0 : PySem.W.nsIn K A_WORDS "push" = some (some (.ref t_WORDS_0))) (lt_WORDS_0 : K.lookup t_WORDS_0 = some ⟨.type "tuple", od_WORDS_0, .seq #[.int 0 tk_WORDS_0_0, .int 1 tk_WORDS_0_1] nt_WORDS_0, sl_WORDS_0⟩) {t_WORDS_1 : Addr} {od_WORDS_1 : Option Addr} {nt_WORDS_1 : Nat} {sl_WORDS_1 : Array (Option Value)} {tk_WORDS_1_0 : Tok} {tk_WORDS_1_1 : Tok} (e_WORDS_1 : PySem.W.nsIn K A_WORDS "size" = some (some (.ref t_WORDS_1))) (lt_WORDS_1 : K.lookup t_WORDS_1 = some ⟨.type "tuple", od_WORDS_1, .seq #[.int 0 tk_WORDS_1_0, .int 1 tk_WORDS_1_1] nt_WORDS_1, sl_WORDS_1⟩) (e_WORDS_2 : PySem.W.nsIn K A_WORDS "take" = some none) {t_WORDS_3 : Addr} {od_WORDS_3 : Option Addr} {nt_WORDS_3 : Nat} {sl_WORDS_3 : Array (Option Value)} {tk_WORDS_3_0 : Tok} {tk_WORDS_3_1 : Tok} (e_WORDS_3 : PySem.W.nsIn K A_WORDS "jump" = some (some (.ref t_WORDS_3))) (lt_WORDS_3 : K.lookup t_WORDS_3 = some ⟨.type "tuple", od_WORDS_3, .seq #[.int 0 tk_WORDS_3_0, .int 0 tk_WORDS_3_1] nt_WORDS_3, sl_WORDS_3⟩) {t_WORDS_4 : Addr} {od_WORDS_4 : Option Addr} {nt_WORDS_4 : Nat} {sl_WORDS_4 : Array (Option Value)} {tk_WORDS_4_0 : Tok} {tk_WORDS_4_1 : Tok} (e_WORDS_4 : PySem.W.nsIn K A_WORDS "jumpzero" = some (some (.ref t_WORDS_4))) (lt_WORDS_4 : K.lookup t_WORDS_4 = some ⟨.type "tuple", od_WORDS_4, .seq #[.int 1 tk_WORDS_4_0, .int 0 tk_WORDS_4_1] nt_WORDS_4, sl_WORDS_4⟩) (e_WORDS_5 : PySem.W.nsIn K A_WORDS "jumpsmall" = some none) (e_WORDS_6 : PySem.W.nsIn K A_WORDS "end" = some none) {t_WORDS_7 : Addr} {od_WORDS_7 : Option Addr} {nt_WORDS_7 : Nat} {sl_WORDS_7 : Array (Option Value)} {tk_WORDS_7_0 : Tok} {tk_WORDS_7_1 : Tok} (e_WORDS_7 : PySem.W.nsIn K A_WORDS "drop" = some (some (.ref t_WORDS_7))) (lt_WORDS_7 : K.lookup t_WORDS_7 = some ⟨.type "tuple", od_WORDS_7, .seq #[.int 1 tk_WORDS_7_0, .int 0 tk_WORDS_7_1] nt_WORDS_7, sl_WORDS_7⟩) {t_WORDS_8 : Addr} {od_WORDS_8 : Option Addr} {nt_WORDS_8 : Nat} {sl_WORDS_8 : Array (Option Value)} {tk_WORDS_8_0 : Tok} {tk_WORDS_8_1 : Tok} (e_WORDS_8 : PySem.W.nsIn K A_WORDS "copy" = some (some (.ref t_WORDS_8))) (lt_WORDS_8 : K.lookup t_WORDS_8 = some ⟨.type "tuple", od_WORDS_8, .seq #[.int 1 tk_WORDS_8_0, .int 2 tk_WORDS_8_1] nt_WORDS_8, sl_WORDS_8⟩) {t_WORDS_9 : Addr} {od_WORDS_9 : Option Addr} {nt_WORDS_9 : Nat} {sl_WORDS_9 : Array (Option Value)} {tk_WORDS_9_0 : Tok} {tk_WORDS_9_1 : Tok} (e_WORDS_9 : PySem.W.nsIn K A_WORDS "swap" = some (some (.ref t_WORDS_9))) (lt_WORDS_9 : K.lookup t_WORDS_9 = some ⟨.type "tuple", od_WORDS_9, .seq #[.int 2 tk_WORDS_9_0, .int 2 tk_WORDS_9_1] nt_WORDS_9, sl_WORDS_9⟩) {t_WORDS_10 : Addr} {od_WORDS_10 : Option Addr} {nt_WORDS_10 : Nat} {sl_WORDS_10 : Array (Option Value)} {tk_WORDS_10_0 : Tok} {tk_WORDS_10_1 : Tok} (e_WORDS_10 : PySem.W.nsIn K A_WORDS "add" = some (some (.ref t_WORDS_10))) (lt_WORDS_10 : K.lookup t_WORDS_10 = some ⟨.type "tuple", od_WORDS_10, .seq #[.int 2 tk_WORDS_10_0, .int 1 tk_WORDS_10_1] nt_WORDS_10, sl_WORDS_10⟩) {t_WORDS_11 : Addr} {od_WORDS_11 : Option Addr} {nt_WORDS_11 : Nat} {sl_WORDS_11 : Array (Option Value)} {tk_WORDS_11_0 : Tok} {tk_WORDS_11_1 : Tok} (e_WORDS_11 : PySem.W.nsIn K A_WORDS "subtract" = some (some (.ref t_WORDS_11))) (lt_WORDS_11 : K.lookup t_WORDS_11 = some ⟨.type "tuple", od_WORDS_11, .seq #[.int 2 tk_WORDS_11_0, .int 1 tk_WORDS_11_1] nt_WORDS_11, sl_WORDS_11⟩) {t_WORDS_12 : Addr} {od_WORDS_12 : Option Addr} {nt_WORDS_12 : Nat} {sl_WORDS_12 : Array (Option Value)} {tk_WORDS_12_0 : Tok} {tk_WORDS_12_1 : Tok} (e_WORDS_12 : PySem.W.nsIn K A_WORDS "multiply" = some (some (.ref t_WORDS_12))) (lt_WORDS_12 : K.lookup t_WORDS_12 = some ⟨.type "tuple", od_WORDS_12, .seq #[.int 2 tk_WORDS_12_0, .int 1 tk_WORDS_12_1] nt_WORDS_12, sl_WORDS_12⟩) {t_WORDS_13 : Addr} {od_WORDS_13 : Option Addr} {nt_WORDS_13 : Nat} {sl_WORDS_13 : Array (Option Value)} {tk_WORDS_13_0 : Tok} {tk_WORDS_13_1 : Tok} (e_WORDS_13 : PySem.W.nsIn K A_WORDS "divide" = some (some (.ref t_WORDS_13))) (lt_WORDS_13 : K.lookup t_WORDS_13 = some ⟨.type "tuple", od_WORDS_13, .seq #[.int 2 tk_WORDS_13_0, .int 1 tk_WORDS_13_1] nt_WORDS_13, sl_WORDS_13⟩) {t_WORDS_14 : Addr} {od_WORDS_14 : Option Addr} {nt_WORDS_14 : Nat} {sl_WORDS_14 : Array (Option Value)} {tk_WORDS_14_0 : Tok} {tk_WORDS_14_1 : Tok} (e_WORDS_14 : PySem.W.nsIn K A_WORDS "negate" = some (some (.ref t_WORDS_14))) (lt_WORDS_14 : K.lookup t_WORDS_14 = some ⟨.type "tuple", od_WORDS_14, .seq #[.int 1 tk_WORDS_14_0, .int 1 tk_WORDS_14_1] nt_WORDS_14, sl_WORDS_14⟩) {t_WORDS_15 : Addr} {od_WORDS_15 : Option Addr} {nt_WORDS_15 : Nat} {sl_WORDS_15 : Array (Option Value)} {tk_WORDS_15_0 : Tok} {tk_WORDS_15_1 : Tok} (e_WORDS_15 : PySem.W.nsIn K A_WORDS "amount" = some (some (.ref t_WORDS_15))) (lt_WORDS_15 : K.lookup t_WORDS_15 = some ⟨.type "tuple", od_WORDS_15, .seq #[.int 1 tk_WORDS_15_0, .int 1 tk_WORDS_15_1] nt_WORDS_15, sl_WORDS_15⟩) {t_WORDS_16 : Addr} {od_WORDS_16 : Option Addr} {nt_WORDS_16 : Nat} {sl_WORDS_16 : Array (Option Value)} {tk_WORDS_16_0 : Tok} {tk_WORDS_16_1 : Tok} (e_WORDS_16 : PySem.W.nsIn K A_WORDS "lesser" = some (some (.ref t_WORDS_16))) (lt_WORDS_16 : K.lookup t_WORDS_16 = some ⟨.type "tuple", od_WORDS_16, .seq #[.int 2 tk_WORDS_16_0, .int 1 tk_WORDS_16_1] nt_WORDS_16, sl_WORDS_16⟩) {t_WORDS_17 : Addr} {od_WORDS_17 : Option Addr} {nt_WORDS_17 : Nat} {sl_WORDS_17 : Array (Option Value)} {tk_WORDS_17_0 : Tok} {tk_WORDS_17_1 : Tok} (e_WORDS_17 : PySem.W.nsIn K A_WORDS "greater" = some (some (.ref t_WORDS_17))) (lt_WORDS_17 : K.lookup t_WORDS_17 = some ⟨.type "tuple", od_WORDS_17, .seq #[.int 2 tk_WORDS_17_0, .int 1 tk_WORDS_17_1] nt_WORDS_17, sl_WORDS_17⟩) {t_WORDS_18 : Addr} {od_WORDS_18 : Option Addr} {nt_WORDS_18 : Nat} {sl_WORDS_18 : Array (Option Value)} {tk_WORDS_18_0 : Tok} {tk_WORDS_18_1 : Tok} (e_WORDS_18 : PySem.W.nsIn K A_WORDS "down" = some (some (.ref t_WORDS_18))) (lt_WORDS_18 : K.lookup t_WORDS_18 = some ⟨.type "tuple", od_WORDS_18, .seq #[.int 1 tk_WORDS_18_0, .int 1 tk_WORDS_18_1] nt_WORDS_18, sl_WORDS_18⟩) {t_WORDS_19 : Addr} {od_WORDS_19 : Option Addr} {nt_WORDS_19 : Nat} {sl_WORDS_19 : Array (Option Value)} {tk_WORDS_19_0 : Tok} {tk_WORDS_19_1 : Tok} (e_WORDS_19 : PySem.W.nsIn K A_WORDS "up" = some (some (.ref t_WORDS_19))) (lt_WORDS_19 : K.lookup t_WORDS_19 = some ⟨.type "tuple", od_WORDS_19, .seq #[.int 1 tk_WORDS_19_0, .int 1 tk_WORDS_19_1] nt_WORDS_19, sl_WORDS_19⟩) {t_WORDS_20 : Addr} {od_WORDS_20 : Option Addr} {nt_WORDS_20 : Nat} {sl_WORDS_20 : Array (Option Value)} {tk_WORDS_20_0 : Tok} {tk_WORDS_20_1 : Tok} (e_WORDS_20 : PySem.W.nsIn K A_WORDS "round" = some (some (.ref t_WORDS_20))) (lt_WORDS_20 : K.lookup t_WORDS_20 = some ⟨.type "tuple", od_WORDS_20, .seq #[.int 1 tk_WORDS_20_0, .int 1 tk_WORDS_20_1] nt_WORDS_20, sl_WORDS_20⟩) {t_WORDS_21 : Addr} {od_WORDS_21 : Option Addr} {nt_WORDS_21 : Nat} {sl_WORDS_21 : Array (Option Value)} {tk_WORDS_21_0 : Tok} {tk_WORDS_21_1 : Tok} (e_WORDS_21 : PySem.W.nsIn K A_WORDS "less" = some (some (.ref t_WORDS_21))) (lt_WORDS_21 : K.lookup t_WORDS_21 = some ⟨.type "tuple", od_WORDS_21, .seq #[.int 2 tk_WORDS_21_0, .int 1 tk_WORDS_21_1] nt_WORDS_21, sl_WORDS_21⟩) {t_WORDS_22 : Addr} {od_WORDS_22 : Option Addr} {nt_WORDS_22 : Nat} {sl_WORDS_22 : Array (Option Value)} {tk_WORDS_22_0 : Tok} {tk_WORDS_22_1 : Tok} (e_WORDS_22 : PySem.W.nsIn K A_WORDS "atmost" = some (some (.ref t_WORDS_22))) (lt_WORDS_22 : K.lookup t_WORDS_22 = some ⟨.type "tuple", od_WORDS_22, .seq #[.int 2 tk_WORDS_22_0, .int 1 tk_WORDS_22_1] nt_WORDS_22, sl_WORDS_22⟩) {t_WORDS_23 : Addr} {od_WORDS_23 : Option Addr} {nt_WORDS_23 : Nat} {sl_WORDS_23 : Array (Option Value)} {tk_WORDS_23_0 : Tok} {tk_WORDS_23_1 : Tok} (e_WORDS_23 : PySem.W.nsIn K A_WORDS "equal" = some (some (.ref t_WORDS_23))) (lt_WORDS_23 : K.lookup t_WORDS_23 = some ⟨.type "tuple", od_WORDS_23, .seq #[.int 2 tk_WORDS_23_0, .int 1 tk_WORDS_23_1] nt_WORDS_23, sl_WORDS_23⟩) {t_WORDS_24 : Addr} {od_WORDS_24 : Option Addr} {nt_WORDS_24 : Nat} {sl_WORDS_24 : Array (Option Value)} {tk_WORDS_24_0 : Tok} {tk_WORDS_24_1 : Tok} (e_WORDS_24 : PySem.W.nsIn K A_WORDS "not" = some (some (.ref t_WORDS_24))) (lt_WORDS_24 : K.lookup t_WORDS_24 = some ⟨.type "tuple", od_WORDS_24, .seq #[.int 1 tk_WORDS_24_0, .int 1 tk_WORDS_24_1] nt_WORDS_24, sl_WORDS_24⟩) {t_WORDS_25 : Addr} {od_WORDS_25 : Option Addr} {nt_WORDS_25 : Nat} {sl_WORDS_25 : Array (Option Value)} {tk_WORDS_25_0 : Tok} {tk_WORDS_25_1 : Tok} (e_WORDS_25 : PySem.W.nsIn K A_WORDS "and" = some (some (.ref t_WORDS_25))) (lt_WORDS_25 : K.lookup t_WORDS_25 = some ⟨.type "tuple", od_WORDS_25, .seq #[.int 2 tk_WORDS_25_0, .int 1 tk_WORDS_25_1] nt_WORDS_25, sl_WORDS_25⟩) {t_WORDS_26 : Addr} {od_WORDS_26 : Option Addr} {nt_WORDS_26 : Nat} {sl_WORDS_26 : Array (Option Value)} {tk_WORDS_26_0 : Tok} {tk_WORDS_26_1 : Tok} (e_WORDS_26 : PySem.W.nsIn K A_WORDS "or" = some (some (.ref t_WORDS_26))) (lt_WORDS_26 : K.lookup t_WORDS_26 = some ⟨.type "tuple", od_WORDS_26, .seq #[.int 2 tk_WORDS_26_0, .int 1 tk_WORDS_26_1] nt_WORDS_26, sl_WORDS_26⟩) {t_WORDS_27 : Addr} {od_WORDS_27 : Option Addr} {nt_WORDS_27 : Nat} {sl_WORDS_27 : Array (Option Value)} {tk_WORDS_27_0 : Tok} {tk_WORDS_27_1 : Tok} (e_WORDS_27 : PySem.W.nsIn K A_WORDS "look" = some (some (.ref t_WORDS_27))) (lt_WORDS_27 : K.lookup t_WORDS_27 = some ⟨.type "tuple", od_WORDS_27, .seq #[.int 0 tk_WORDS_27_0, .int 0 tk_WORDS_27_1] nt_WORDS_27, sl_WORDS_27⟩) {t_WORDS_28 : Addr} {od_WORDS_28 : Option Addr} {nt_WORDS_28 : Nat} {sl_WORDS_28 : Array (Option Value)} {tk_WORDS_28_0 : Tok} {tk_WORDS_28_1 : Tok} (e_WORDS_28 : PySem.W.nsIn K A_WORDS "go" = some (some (.ref t_WORDS_28))) (lt_WORDS_28 : K.lookup t_WORDS_28 = some ⟨.type "tuple", od_WORDS_28, .seq #[.int 0 tk_WORDS_28_0, .int 0 tk_WORDS_28_1] nt_WORDS_28, sl_WORDS_28⟩) {t_WORDS_29 : Addr} {od_WORDS_29 : Option Addr} {nt_WORDS_29 : Nat} {sl_WORDS_29 : Array (Option Value)} {tk_WORDS_29_0 : Tok} {tk_WORDS_29_1 : Tok} (e_WORDS_29 : PySem.W.nsIn K A_WORDS "mode" = some (some (.ref t_WORDS_29))) (lt_WORDS_29 : K.lookup t_WORDS_29 = some ⟨.type "tuple", od_WORDS_29, .seq #[.int 0 tk_WORDS_29_0, .int 0 tk_WORDS_29_1] nt_WORDS_29, sl_WORDS_29⟩) {t_WORDS_30 : Addr} {od_WORDS_30 : Option Addr} {nt_WORDS_30 : Nat} {sl_WORDS_30 : Array (Option Value)} {tk_WORDS_30_0 : Tok} {tk_WORDS_30_1 : Tok} (e_WORDS_30 : PySem.W.nsIn K A_WORDS "value" = some (some (.ref t_WORDS_30))) (lt_WORDS_30 : K.lookup t_WORDS_30 = some ⟨.type "tuple", od_WORDS_30, .seq #[.int 1 tk_WORDS_30_0, .int 1 tk_WORDS_30_1] nt_WORDS_30, sl_WORDS_30⟩) {t_WORDS_31 : Addr} {od_WORDS_31 : Option Addr} {nt_WORDS_31 : Nat} {sl_WORDS_31 : Array (Option Value)} {tk_WORDS_31_0 : Tok} {tk_WORDS_31_1 : Tok} (e_WORDS_31 : PySem.W.nsIn K A_WORDS "load" = some (some (.ref t_WORDS_31))) (lt_WORDS_31 : K.lookup t_WORDS_31 = some ⟨.type "tuple", od_WORDS_31, .seq #[.int 1 tk_WORDS_31_0, .int 1 tk_WORDS_31_1] nt_WORDS_31, sl_WORDS_31⟩) {t_WORDS_32 : Addr} {od_WORDS_32 : Option Addr} {nt_WORDS_32 : Nat} {sl_WORDS_32 : Array (Option Value)} {tk_WORDS_32_0 : Tok} {tk_WORDS_32_1 : Tok} (e_WORDS_32 : PySem.W.nsIn K A_WORDS "setvalue" = some (some (.ref t_WORDS_32))) (lt_WORDS_32 : K.lookup t_WORDS_32 = some ⟨.type "tuple", od_WORDS_32, .seq #[.int 2 tk_WORDS_32_0, .int 0 tk_WORDS_32_1] nt_WORDS_32, sl_WORDS_32⟩) {t_WORDS_33 : Addr} {od_WORDS_33 : Option Addr} {nt_WORDS_33 : Nat} {sl_WORDS_33 : Array (Option Value)} {tk_WORDS_33_0 : Tok} {tk_WORDS_33_1 : Tok} (e_WORDS_33 : PySem.W.nsIn K A_WORDS "save" = some (some (.ref t_WORDS_33))) (lt_WORDS_33 : K.lookup t_WORDS_33 = some ⟨.type "tuple", od_WORDS_33, .seq #[.int 2 tk_WORDS_33_0, .int 0 tk_WORDS_33_1] nt_WORDS_33, sl_WORDS_33⟩) {t_WORDS_34 : Addr} {od_WORDS_34 : Option Addr} {nt_WORDS_34 : Nat} {sl_WORDS_34 : Array (Option Value)} {tk_WORDS_34_0 : Tok} {tk_WORDS_34_1 : Tok} (e_WORDS_34 : PySem.W.nsIn K A_WORDS "get" = some (some (.ref t_WORDS_34))) (lt_WORDS_34 : K.lookup t_WORDS_34 = some ⟨.type "tuple", od_WORDS_34, .seq #[.int 1 tk_WORDS_34_0, .int 1 tk_WORDS_34_1] nt_WORDS_34, sl_WORDS_34⟩) {t_WORDS_35 : Addr} {od_WORDS_35 : Option Addr} {nt_WORDS_35 : Nat} {sl_WORDS_35 : Array (Option Value)} {tk_WORDS_35_0 : Tok} {tk_WORDS_35_1 : Tok} (e_WORDS_35 : PySem.W.nsIn K A_WORDS "origin" = some (some (.ref t_WORDS_35))) (lt_WORDS_35 : K.lookup t_WORDS_35 = some ⟨.type "tuple", od_WORDS_35, .seq #[.int 1 tk_WORDS_35_0, .int 1 tk_WORDS_35_1] nt_WORDS_35, sl_WORDS_35⟩) {t_WORDS_36 : Addr} {od_WORDS_36 : Option Addr} {nt_WORDS_36 : Nat} {sl_WORDS_36 : Array (Option Value)} {tk_WORDS_36_0 : Tok} {tk_WORDS_36_1 : Tok} (e_WORDS_36 : PySem.W.nsIn K A_WORDS "move" = some (some (.ref t_WORDS_36))) (lt_WORDS_36 : K.lookup t_WORDS_36 = some ⟨.type "tuple", od_WORDS_36, .seq #[.int 2 tk_WORDS_36_0, .int 0 tk_WORDS_36_1] nt_WORDS_36, sl_WORDS_36⟩) {t_WORDS_37 : Addr} {od_WORDS_37 : Option Addr} {nt_WORDS_37 : Nat} {sl_WORDS_37 : Array (Option Value)} {tk_WORDS_37_0 : Tok} {tk_WORDS_37_1 : Tok} (e_WORDS_37 : PySem.W.nsIn K A_WORDS "set" = some (some (.ref t_WORDS_37))) (lt_WORDS_37 : K.lookup t_WORDS_37 = some ⟨.type "tuple", od_WORDS_37, .seq #[.int 2 tk_WORDS_37_0, .int 0 tk_WORDS_37_1] nt_WORDS_37, sl_WORDS_37⟩) {t_WORDS_38 : Addr} {od_WORDS_38 : Option Addr} {nt_WORDS_38 : Nat} {sl_WORDS_38 : Array (Option Value)} {tk_WORDS_38_0 : Tok} {tk_WORDS_38_1 : Tok} (e_WORDS_38 : PySem.W.nsIn K A_WORDS "align" = some (some (.ref t_WORDS_38))) (lt_WORDS_38 : K.lookup t_WORDS_38 = some ⟨.type "tuple", od_WORDS_38, .seq #[.int 2 tk_WORDS_38_0, .int 0 tk_WORDS_38_1] nt_WORDS_38, sl_WORDS_38⟩) {t_WORDS_39 : Addr} {od_WORDS_39 : Option Addr} {nt_WORDS_39 : Nat} {sl_WORDS_39 : Array (Option Value)} {tk_WORDS_39_0 : Tok} {tk_WORDS_39_1 : Tok} (e_WORDS_39 : PySem.W.nsIn K A_WORDS "between" = some (some (.ref t_WORDS_39))) (lt_WORDS_39 : K.lookup t_WORDS_39 = some ⟨.type "tuple", od_WORDS_39, .seq #[.int 0 tk_WORDS_39_0, .int 0 tk_WORDS_39_1] nt_WORDS_39, sl_WORDS_39⟩) {t_WORDS_40 : Addr} {od_WORDS_40 : Option Addr} {nt_WORDS_40 : Nat} {sl_WORDS_40 : Array (Option Value)} {tk_WORDS_40_0 : Tok} {tk_WORDS_40_1 : Tok} (e_WORDS_40 : PySem.W.nsIn K A_WORDS "call" = some (some (.ref t_WORDS_40))) (lt_WORDS_40 : K.lookup t_WORDS_40 = some ⟨.type "tuple", od_WORDS_40, .seq #[.int 0 tk_WORDS_40_0, .int 0 tk_WORDS_40_1] nt_WORDS_40, sl_WORDS_40⟩) {t_WORDS_41 : Addr} {od_WORDS_41 : Option Addr} {nt_WORDS_41 : Nat} {sl_WORDS_41 : Array (Option Value)} {tk_WORDS_41_0 : Tok} {tk_WORDS_41_1 : Tok} (e_WORDS_41 : PySem.W.nsIn K A_WORDS "repeat" = some (some (.ref t_WORDS_41))) (lt_WORDS_41 : K.lookup t_WORDS_41 = some ⟨.type "tuple", od_WORDS_41, .seq #[.int 1 tk_WORDS_41_0, .int 0 tk_WORDS_41_1] nt_WORDS_41, sl_WORDS_41⟩) (e_WORDS_42 : PySem.W.nsIn K A_WORDS "nothing" = some none) :
    ∃ fd : FuncData, (∀ (s : Shared) (v : Value), BindsTo s fd ⟨[v], []⟩ [("script", v)]) ∧ ∀ base : Heap, K.In base → base.Ns mainGlobals mg → FnOk l.prog w K mg base CX0 12 fa fd ["script"] (spLaw K) := by
  have e := hfa.symm.trans (PySem.W.mg_of X G a47)
  cases e
  have T : Txt K mg := ⟨PySem.W.mg_none_of X G z_abs, PySem.W.mg_none_of X G z_all, PySem.W.mg_none_of X G z_bool, PySem.W.mg_none_of X G z_enumerate, PySem.W.mg_none_of X G z_int, PySem.W.mg_none_of X G z_isinstance, PySem.W.mg_none_of X G z_len, PySem.W.mg_none_of X G z_list, PySem.W.mg_none_of X G z_max, PySem.W.mg_none_of X G z_min, PySem.W.mg_none_of X G z_range, PySem.W.mg_none_of X G z_set, PySem.W.mg_none_of X G z_str, PySem.W.mg_none_of X G z_sum, PySem.W.mg_none_of X G z_tuple, ⟨_, PySem.W.mg_of X G g_DEEPEST, _, rfl⟩, ⟨_, PySem.W.mg_of X G g_FARTHEST, _, rfl⟩, ⟨_, PySem.W.mg_of X G g_GREATEST_NUMBER, _, rfl⟩, ⟨_, PySem.W.mg_of X G g_LEAST_NUMBER, _, rfl⟩, ⟨_, PySem.W.mg_of X G g_LEAST_OF_CONTOUR, _, rfl⟩, ⟨_, PySem.W.mg_of X G g_MOST_CONTOURS, _, rfl⟩, ⟨_, PySem.W.mg_of X G g_MOST_POINTS, _, rfl⟩, ⟨_, PySem.W.mg_of X G g_ONE_PIXEL, _, rfl⟩, ⟨_, _, fun_mk l0 c0 k0, PySem.W.mg_of X G a0⟩, ⟨_, _, fun_mk l1 c1 k1, PySem.W.mg_of X G a1⟩, ⟨_, _, fun_mk l2 c2 k2, PySem.W.mg_of X G a2⟩, ⟨_, _, fun_mk l3 c3 k3, PySem.W.mg_of X G a3⟩, ⟨_, _, fun_mk l4 c4 k4, PySem.W.mg_of X G a4⟩, ⟨_, _, fun_mk l5 c5 k5, PySem.W.mg_of X G a5⟩, ⟨_, _, fun_mk l6 c6 k6, PySem.W.mg_of X G a6⟩, ⟨_, _, fun_mk l7 c7 k7, PySem.W.mg_of X G a7⟩, ⟨_, _, fun_mk l8 c8 k8, PySem.W.mg_of X G a8⟩, ⟨_, _, fun_mk l9 c9 k9, PySem.W.mg_of X G a9⟩, ⟨_, _, fun_mk l10 c10 k10, PySem.W.mg_of X G a10⟩, ⟨_, _, fun_mk l11 c11 k11, PySem.W.mg_of X G a11⟩, ⟨_, _, fun_mk l12 c12 k12, PySem.W.mg_of X G a12⟩, ⟨_, _, fun_mk l13 c13 k13, PySem.W.mg_of X G a13⟩, ⟨_, _, fun_mk l14 c14 k14, PySem.W.mg_of X G a14⟩, ⟨_, _, fun_mk l15 c15 k15, PySem.W.mg_of X G a15⟩, ⟨_, _, fun_mk l16 c16 k16, PySem.W.mg_of X G a16⟩, ⟨_, _, fun_mk l17 c17 k17, PySem.W.mg_of X G a17⟩, ⟨_, _, fun_mk l18 c18 k18, PySem.W.mg_of X G a18⟩, ⟨_, _, fun_mk l19 c19 k19, PySem.W.mg_of X G a19⟩, ⟨_, _, fun_mk l20 c20 k20, PySem.W.mg_of X G a20⟩, ⟨_, _, fun_mk l21 c21 k21, PySem.W.mg_of X G a21⟩, ⟨_, _, fun_mk l22 c22 k22, PySem.W.mg_of X G a22⟩, ⟨_, _, fun_mk l23 c23 k23, PySem.W.mg_of X G a23⟩, ⟨_, _, fun_mk l24 c24 k24, PySem.W.mg_of X G a24⟩, ⟨_, _, fun_mk l25 c25 k25, PySem.W.mg_of X G a25⟩, ⟨_, _, fun_mk l26 c26 k26, PySem.W.mg_of X G a26⟩, ⟨_, _, fun_mk l27 c27 k27, PySem.W.mg_of X G a27⟩, ⟨_, _, fun_mk l28 c28 k28, PySem.W.mg_of X G a28⟩, ⟨_, _, fun_mk l29 c29 k29, PySem.W.mg_of X G a29⟩, ⟨_, _, fun_mk l30 c30 k30, PySem.W.mg_of X G a30⟩, ⟨_, _, fun_mk l31 c31 k31, PySem.W.mg_of X G a31⟩, ⟨_, _, fun_mk l32 c32 k32, PySem.W.mg_of X G a32⟩, ⟨_, _, fun_mk l33 c33 k33, PySem.W.mg_of X G a33⟩, ⟨_, _, fun_mk l34 c34 k34, PySem.W.mg_of X G a34⟩, ⟨_, _, fun_mk l35 c35 k35, PySem.W.mg_of X G a35⟩, ⟨_, _, fun_mk l36 c36 k36, PySem.W.mg_of X G a36⟩, ⟨_, _, fun_mk l37 c37 k37, PySem.W.mg_of X G a37⟩, ⟨_, _, fun_mk l38 c38 k38, PySem.W.mg_of X G a38⟩, ⟨_, _, fun_mk l39 c39 k39, PySem.W.mg_of X G a39⟩, ⟨_, _, fun_mk l40 c40 k40, PySem.W.mg_of X G a40⟩, ⟨_, _, fun_mk l41 c41 k41, PySem.W.mg_of X G a41⟩, ⟨_, _, fun_mk l42 c42 k42, PySem.W.mg_of X G a42⟩, ⟨_, _, fun_mk l43 c43 k43, PySem.W.mg_of X G a43⟩, ⟨_, _, fun_mk l44 c44 k44, PySem.W.mg_of X G a44⟩, ⟨_, _, fun_mk l45 c45 k45, PySem.W.mg_of X G a45⟩, ⟨_, _, fun_mk l46 c46 k46, PySem.W.mg_of X G a46⟩, ⟨_, _, fun_mk l47 c47 k47, PySem.W.mg_of X G a47⟩, (by rw [adr_of (PySem.W.mg_of X G g_FleuronError)]; exact PySem.W.mg_of X G g_FleuronError), (by rw [adr_of (PySem.W.mg_of X G g_FleuronError)]; exact ⟨sg_FleuronError, ty_FleuronError, rd_FleuronError, fc_FleuronError⟩), ⟨by rw [adr_of (PySem.W.mg_of X G g_UnknownGlyph)]; exact PySem.W.mg_of X G g_UnknownGlyph, by rw [adr_of (PySem.W.mg_of X G g_UnknownGlyph)]; exact ⟨⟨_, _, _, _, _, _, _, _, _, _, _, _, _, _, _, xL_UnknownGlyph, by rfl⟩, sa_UnknownGlyph, be_UnknownGlyph, ty_UnknownGlyph, kC_UnknownGlyph⟩, by rw [adr_of (PySem.W.mg_of X G g_UnknownGlyph)]; exact fn_UnknownGlyph, by rw [adr_of (PySem.W.mg_of X G g_UnknownGlyph)]; exact ⟨ga_UnknownGlyph, gg_UnknownGlyph, be_UnknownGlyph, hd_UnknownGlyph⟩, by rw [adr_of (PySem.W.mg_of X G g_UnknownGlyph)]; exact ⟨_, _, in_UnknownGlyph, tf_UnknownGlyph, fun_mk li_UnknownGlyph ci_UnknownGlyph ki_UnknownGlyph⟩⟩, (by rw [adr_of (PySem.W.mg_of X G g_UnknownGlyph)]; exact PySem.W.exm_ref be_UnknownGlyph hd_UnknownGlyph ty_UnknownGlyph ss_UnknownGlyph), ⟨e_Glyph_parts, e_Glyph_anchors, e_Glyph_deltas, e_Glyph_hint, ⟨_, #[], _, em_Glyph_parts, rfl, rfl, (show (0 : Nat) ≤ sizeLine by decide), .nil⟩, ⟨_, #[], _, em_Glyph_anchors, rfl, rfl, (show (0 : Nat) ≤ sizeLine by decide), .nil⟩, ⟨_, #[], _, em_Glyph_deltas, rfl, rfl, (show (0 : Nat) ≤ sizeLine by decide), .nil⟩, ⟨_, #[], _, em_Glyph_hint, rfl, rfl, (show (0 : Nat) ≤ sizeLine by decide), .nil⟩, ⟨by rw [adr_of (PySem.W.mg_of X G g_Glyph)]; exact PySem.W.mg_of X G g_Glyph, by rw [adr_of (PySem.W.mg_of X G g_Glyph)]; exact ⟨pg_Glyph, hd_Glyph, po_Glyph, sa_Glyph⟩, by rw [adr_of (PySem.W.mg_of X G g_Glyph)]; exact (List.forall_mem_cons.mpr ⟨na_Glyph_advance, (List.forall_mem_cons.mpr ⟨na_Glyph_outline, (List.forall_mem_cons.mpr ⟨na_Glyph_parts, (List.forall_mem_cons.mpr ⟨na_Glyph_anchors, (List.forall_mem_cons.mpr ⟨na_Glyph_mark, (List.forall_mem_cons.mpr ⟨na_Glyph_deltas, (List.forall_mem_cons.mpr ⟨na_Glyph_hint, (List.forall_mem_nil _)⟩)⟩)⟩)⟩)⟩)⟩)⟩), by rw [adr_of (PySem.W.mg_of X G g_Glyph)]; exact ⟨fI_Glyph, _, ⟨mk_Glyph, in_Glyph, fn_Glyph, kc_Glyph⟩, ⟨⟨_, _, _, _, _, _, _, _, _, _, rfl, li_Glyph, ci_Glyph, .inl ⟨rfl, rfl⟩, .inr ⟨D_Glyph, rfl, (List.forall_mem_cons.mpr ⟨⟨_, kd_Glyph_parts, rfl⟩, (List.forall_mem_cons.mpr ⟨⟨_, kd_Glyph_anchors, rfl⟩, (List.forall_mem_cons.mpr ⟨⟨_, kd_Glyph_mark, rfl⟩, (List.forall_mem_cons.mpr ⟨⟨_, kd_Glyph_deltas, rfl⟩, (List.forall_mem_cons.mpr ⟨⟨_, kd_Glyph_hint, rfl⟩, (List.forall_mem_nil _)⟩)⟩)⟩)⟩)⟩)⟩⟩, ki_Glyph⟩⟩⟩⟩, ⟨e_Rule_back, e_Rule_ahead, e_Rule_out, e_Rule_calls, ⟨_, #[], _, em_Rule_back, rfl, rfl, (show (0 : Nat) ≤ sizeLine by decide), .nil⟩, ⟨_, #[], _, em_Rule_ahead, rfl, rfl, (show (0 : Nat) ≤ sizeLine by decide), .nil⟩, ⟨_, #[], _, em_Rule_out, rfl, rfl, (show (0 : Nat) ≤ sizeLine by decide), .nil⟩, ⟨_, #[], _, em_Rule_calls, rfl, rfl, (show (0 : Nat) ≤ sizeLine by decide), .nil⟩, ⟨by rw [adr_of (PySem.W.mg_of X G g_Rule)]; exact PySem.W.mg_of X G g_Rule, by rw [adr_of (PySem.W.mg_of X G g_Rule)]; exact ⟨pg_Rule, hd_Rule, po_Rule, sa_Rule⟩, by rw [adr_of (PySem.W.mg_of X G g_Rule)]; exact (List.forall_mem_cons.mpr ⟨na_Rule_inside, (List.forall_mem_cons.mpr ⟨na_Rule_back, (List.forall_mem_cons.mpr ⟨na_Rule_ahead, (List.forall_mem_cons.mpr ⟨na_Rule_out, (List.forall_mem_cons.mpr ⟨na_Rule_calls, (List.forall_mem_cons.mpr ⟨na_Rule_extra, (List.forall_mem_nil _)⟩)⟩)⟩)⟩)⟩)⟩), by rw [adr_of (PySem.W.mg_of X G g_Rule)]; exact ⟨fI_Rule, _, ⟨mk_Rule, in_Rule, fn_Rule, kc_Rule⟩, ⟨⟨_, _, _, _, _, _, _, _, _, _, rfl, li_Rule, ci_Rule, .inl ⟨rfl, rfl⟩, .inr ⟨D_Rule, rfl, (List.forall_mem_cons.mpr ⟨⟨_, kd_Rule_back, rfl⟩, (List.forall_mem_cons.mpr ⟨⟨_, kd_Rule_ahead, rfl⟩, (List.forall_mem_cons.mpr ⟨⟨_, kd_Rule_out, rfl⟩, (List.forall_mem_cons.mpr ⟨⟨_, kd_Rule_calls, rfl⟩, (List.forall_mem_cons.mpr ⟨⟨_, kd_Rule_extra, ⟨_, rfl⟩⟩, (List.forall_mem_nil _)⟩)⟩)⟩)⟩)⟩)⟩⟩, ki_Rule⟩⟩⟩⟩, ⟨by rw [adr_of (PySem.W.mg_of X G g_Lookup)]; exact PySem.W.mg_of X G g_Lookup, by rw [adr_of (PySem.W.mg_of X G g_Lookup)]; exact ⟨pg_Lookup, hd_Lookup, po_Lookup, sa_Lookup⟩, by rw [adr_of (PySem.W.mg_of X G g_Lookup)]; exact (List.forall_mem_cons.mpr ⟨na_Lookup_kind, (List.forall_mem_cons.mpr ⟨na_Lookup_rules, (List.forall_mem_cons.mpr ⟨na_Lookup_ignore, (List.forall_mem_nil _)⟩)⟩)⟩), by rw [adr_of (PySem.W.mg_of X G g_Lookup)]; exact ⟨fI_Lookup, _, ⟨mk_Lookup, in_Lookup, fn_Lookup, kc_Lookup⟩, ⟨⟨_, _, _, _, _, _, _, _, _, _, rfl, li_Lookup, ci_Lookup, .inl ⟨rfl, rfl⟩, .inr ⟨D_Lookup, rfl, (List.forall_mem_cons.mpr ⟨⟨_, kd_Lookup_ignore, rfl⟩, (List.forall_mem_nil _)⟩)⟩⟩, ki_Lookup⟩⟩⟩, ⟨e_Font_chars, e_Font_lookups, e_Font_features, e_Font_axes, e_Font_regions, e_Font_functions, e_Font_presets, ⟨_, #[], _, em_Font_chars, rfl, rfl, (show (0 : Nat) ≤ sizeLine by decide), .nil⟩, ⟨_, #[], _, em_Font_lookups, rfl, rfl, (show (0 : Nat) ≤ sizeLine by decide), .nil⟩, ⟨_, #[], _, em_Font_features, rfl, rfl, (show (0 : Nat) ≤ sizeLine by decide), .nil⟩, ⟨_, #[], _, em_Font_axes, rfl, rfl, (show (0 : Nat) ≤ sizeLine by decide), .nil⟩, ⟨_, #[], _, em_Font_regions, rfl, rfl, (show (0 : Nat) ≤ sizeLine by decide), .nil⟩, ⟨_, #[], _, em_Font_functions, rfl, rfl, (show (0 : Nat) ≤ sizeLine by decide), .nil⟩, ⟨_, #[], _, em_Font_presets, rfl, rfl, (show (0 : Nat) ≤ sizeLine by decide), .nil⟩, ⟨by rw [adr_of (PySem.W.mg_of X G g_Font)]; exact PySem.W.mg_of X G g_Font, by rw [adr_of (PySem.W.mg_of X G g_Font)]; exact ⟨pg_Font, hd_Font, po_Font, sa_Font⟩, by rw [adr_of (PySem.W.mg_of X G g_Font)]; exact (List.forall_mem_cons.mpr ⟨na_Font_unit, (List.forall_mem_cons.mpr ⟨na_Font_glyphs, (List.forall_mem_cons.mpr ⟨na_Font_chars, (List.forall_mem_cons.mpr ⟨na_Font_lookups, (List.forall_mem_cons.mpr ⟨na_Font_features, (List.forall_mem_cons.mpr ⟨na_Font_axes, (List.forall_mem_cons.mpr ⟨na_Font_regions, (List.forall_mem_cons.mpr ⟨na_Font_functions, (List.forall_mem_cons.mpr ⟨na_Font_presets, (List.forall_mem_nil _)⟩)⟩)⟩)⟩)⟩)⟩)⟩)⟩)⟩), by rw [adr_of (PySem.W.mg_of X G g_Font)]; exact ⟨fI_Font, _, ⟨mk_Font, in_Font, fn_Font, kc_Font⟩, ⟨⟨_, _, _, _, _, _, _, _, _, _, rfl, li_Font, ci_Font, .inl ⟨rfl, rfl⟩, .inr ⟨D_Font, rfl, (List.forall_mem_cons.mpr ⟨⟨_, kd_Font_chars, rfl⟩, (List.forall_mem_cons.mpr ⟨⟨_, kd_Font_lookups, rfl⟩, (List.forall_mem_cons.mpr ⟨⟨_, kd_Font_features, rfl⟩, (List.forall_mem_cons.mpr ⟨⟨_, kd_Font_axes, rfl⟩, (List.forall_mem_cons.mpr ⟨⟨_, kd_Font_regions, rfl⟩, (List.forall_mem_cons.mpr ⟨⟨_, kd_Font_functions, rfl⟩, (List.forall_mem_cons.mpr ⟨⟨_, kd_Font_presets, rfl⟩, (List.forall_mem_nil _)⟩)⟩)⟩)⟩)⟩)⟩)⟩)⟩⟩, ki_Font⟩⟩⟩⟩, ⟨by rw [adr_of (PySem.W.mg_of X G g_Zone)]; exact PySem.W.mg_of X G g_Zone, by rw [adr_of (PySem.W.mg_of X G g_Zone)]; exact ⟨pg_Zone, hd_Zone, po_Zone, sa_Zone⟩, by rw [adr_of (PySem.W.mg_of X G g_Zone)]; exact (List.forall_mem_cons.mpr ⟨na_Zone_original, (List.forall_mem_cons.mpr ⟨na_Zone_current, (List.forall_mem_cons.mpr ⟨na_Zone_touched, (List.forall_mem_cons.mpr ⟨na_Zone_ends, (List.forall_mem_nil _)⟩)⟩)⟩)⟩), by rw [adr_of (PySem.W.mg_of X G g_Zone)]; exact ⟨fI_Zone, _, ⟨mk_Zone, in_Zone, fn_Zone, kc_Zone⟩, ⟨⟨_, _, _, _, _, _, _, _, _, _, rfl, li_Zone, ci_Zone, .inl ⟨rfl, rfl⟩, .inl rfl⟩, ki_Zone⟩⟩⟩, ⟨e_Program_functions, e_Program_presets, ⟨_, #[], _, em_Program_functions, rfl, rfl, (show (0 : Nat) ≤ sizeLine by decide), .nil⟩, ⟨_, #[], _, em_Program_presets, rfl, rfl, (show (0 : Nat) ≤ sizeLine by decide), .nil⟩, ⟨by rw [adr_of (PySem.W.mg_of X G g_Program)]; exact PySem.W.mg_of X G g_Program, by rw [adr_of (PySem.W.mg_of X G g_Program)]; exact ⟨pg_Program, hd_Program, po_Program, sa_Program⟩, by rw [adr_of (PySem.W.mg_of X G g_Program)]; exact (List.forall_mem_cons.mpr ⟨na_Program_main, (List.forall_mem_cons.mpr ⟨na_Program_functions, (List.forall_mem_cons.mpr ⟨na_Program_presets, (List.forall_mem_cons.mpr ⟨na_Program_size, (List.forall_mem_nil _)⟩)⟩)⟩)⟩), by rw [adr_of (PySem.W.mg_of X G g_Program)]; exact ⟨fI_Program, _, ⟨mk_Program, in_Program, fn_Program, kc_Program⟩, ⟨⟨_, _, _, _, _, _, _, _, _, _, rfl, li_Program, ci_Program, .inl ⟨rfl, rfl⟩, .inr ⟨D_Program, rfl, (List.forall_mem_cons.mpr ⟨⟨_, kd_Program_functions, rfl⟩, (List.forall_mem_cons.mpr ⟨⟨_, kd_Program_presets, rfl⟩, (List.forall_mem_cons.mpr ⟨⟨_, kd_Program_size, ⟨_, rfl⟩⟩, (List.forall_mem_nil _)⟩)⟩)⟩)⟩⟩, ki_Program⟩⟩⟩⟩, (by rw [adr_of (PySem.W.mg_of X G g_WITH_CONTEXT)]; exact PySem.W.mg_of X G g_WITH_CONTEXT), (fun H => by rw [adr_of (PySem.W.mg_of X G g_WITH_CONTEXT)]; exact .inr ⟨_, _, _, t_WITH_CONTEXT, rfl, rfl, (show (2 : Nat) ≤ sizeLine by decide), .cons ⟨_, rfl⟩ (.cons ⟨_, rfl⟩ (.nil))⟩), (by rw [adr_of (PySem.W.mg_of X G g_WITH_OUT)]; exact PySem.W.mg_of X G g_WITH_OUT), (fun H => by rw [adr_of (PySem.W.mg_of X G g_WITH_OUT)]; exact .inr ⟨_, _, _, t_WITH_OUT, rfl, rfl, (show (4 : Nat) ≤ sizeLine by decide), .cons ⟨_, rfl⟩ (.cons ⟨_, rfl⟩ (.cons ⟨_, rfl⟩ (.cons ⟨_, rfl⟩ (.nil))))⟩), (by rw [adr_of (PySem.W.mg_of X G g_ANCHOR_KINDS)]; exact PySem.W.mg_of X G g_ANCHOR_KINDS), (fun H => by rw [adr_of (PySem.W.mg_of X G g_ANCHOR_KINDS)]; exact .inr ⟨_, _, _, t_ANCHOR_KINDS, rfl, rfl, (show (4 : Nat) ≤ sizeLine by decide), .cons ⟨_, rfl⟩ (.cons ⟨_, rfl⟩ (.cons ⟨_, rfl⟩ (.cons ⟨_, rfl⟩ (.nil))))⟩)⟩
  have I : WoK K w mg := ⟨(by rw [adr_of (PySem.W.mg_of X G g_WORDS)]; exact PySem.W.mg_of X G g_WORDS), (by rw [adr_of (PySem.W.mg_of X G g_WORDS)]; exact ⟨_, _, l_WORDS, kl_WORDS, sm_WORDS⟩), (by rw [adr_of (PySem.W.mg_of X G g_WORDS)]; exact (List.forall_mem_cons.mpr ⟨⟨_, e_WORDS_0, fun _ h => by subst h; exact ⟨_, rfl, fun H => .inr ⟨_, _, _, lt_WORDS_0, rfl, rfl, (show (2 : Nat) ≤ sizeLine by decide), .cons ⟨_, rfl⟩ (.cons ⟨_, rfl⟩ (.nil))⟩⟩⟩, (List.forall_mem_cons.mpr ⟨⟨_, e_WORDS_1, fun _ h => by subst h; exact ⟨_, rfl, fun H => .inr ⟨_, _, _, lt_WORDS_1, rfl, rfl, (show (2 : Nat) ≤ sizeLine by decide), .cons ⟨_, rfl⟩ (.cons ⟨_, rfl⟩ (.nil))⟩⟩⟩, (List.forall_mem_cons.mpr ⟨⟨_, e_WORDS_2, fun _ h => by subst h; rfl⟩, (List.forall_mem_cons.mpr ⟨⟨_, e_WORDS_3, fun _ h => by subst h; exact ⟨_, rfl, fun H => .inr ⟨_, _, _, lt_WORDS_3, rfl, rfl, (show (2 : Nat) ≤ sizeLine by decide), .cons ⟨_, rfl⟩ (.cons ⟨_, rfl⟩ (.nil))⟩⟩⟩, (List.forall_mem_cons.mpr ⟨⟨_, e_WORDS_4, fun _ h => by subst h; exact ⟨_, rfl, fun H => .inr ⟨_, _, _, lt_WORDS_4, rfl, rfl, (show (2 : Nat) ≤ sizeLine by decide), .cons ⟨_, rfl⟩ (.cons ⟨_, rfl⟩ (.nil))⟩⟩⟩, (List.forall_mem_cons.mpr ⟨⟨_, e_WORDS_5, fun _ h => by subst h; rfl⟩, (List.forall_mem_cons.mpr ⟨⟨_, e_WORDS_6, fun _ h => by subst h; rfl⟩, (List.forall_mem_cons.mpr ⟨⟨_, e_WORDS_7, fun _ h => by subst h; exact ⟨_, rfl, fun H => .inr ⟨_, _, _, lt_WORDS_7, rfl, rfl, (show (2 : Nat) ≤ sizeLine by decide), .cons ⟨_, rfl⟩ (.cons ⟨_, rfl⟩ (.nil))⟩⟩⟩, (List.forall_mem_cons.mpr ⟨⟨_, e_WORDS_8, fun _ h => by subst h; exact ⟨_, rfl, fun H => .inr ⟨_, _, _, lt_WORDS_8, rfl, rfl, (show (2 : Nat) ≤ sizeLine by decide), .cons ⟨_, rfl⟩ (.cons ⟨_, rfl⟩ (.nil))⟩⟩⟩, (List.forall_mem_cons.mpr ⟨⟨_, e_WORDS_9, fun _ h => by subst h; exact ⟨_, rfl, fun H => .inr ⟨_, _, _, lt_WORDS_9, rfl, rfl, (show (2 : Nat) ≤ sizeLine by decide), .cons ⟨_, rfl⟩ (.cons ⟨_, rfl⟩ (.nil))⟩⟩⟩, (List.forall_mem_cons.mpr ⟨⟨_, e_WORDS_10, fun _ h => by subst h; exact ⟨_, rfl, fun H => .inr ⟨_, _, _, lt_WORDS_10, rfl, rfl, (show (2 : Nat) ≤ sizeLine by decide), .cons ⟨_, rfl⟩ (.cons ⟨_, rfl⟩ (.nil))⟩⟩⟩, (List.forall_mem_cons.mpr ⟨⟨_, e_WORDS_11, fun _ h => by subst h; exact ⟨_, rfl, fun H => .inr ⟨_, _, _, lt_WORDS_11, rfl, rfl, (show (2 : Nat) ≤ sizeLine by decide), .cons ⟨_, rfl⟩ (.cons ⟨_, rfl⟩ (.nil))⟩⟩⟩, (List.forall_mem_cons.mpr ⟨⟨_, e_WORDS_12, fun _ h => by subst h; exact ⟨_, rfl, fun H => .inr ⟨_, _, _, lt_WORDS_12, rfl, rfl, (show (2 : Nat) ≤ sizeLine by decide), .cons ⟨_, rfl⟩ (.cons ⟨_, rfl⟩ (.nil))⟩⟩⟩, (List.forall_mem_cons.mpr ⟨⟨_, e_WORDS_13, fun _ h => by subst h; exact ⟨_, rfl, fun H => .inr ⟨_, _, _, lt_WORDS_13, rfl, rfl, (show (2 : Nat) ≤ sizeLine by decide), .cons ⟨_, rfl⟩ (.cons ⟨_, rfl⟩ (.nil))⟩⟩⟩, (List.forall_mem_cons.mpr ⟨⟨_, e_WORDS_14, fun _ h => by subst h; exact ⟨_, rfl, fun H => .inr ⟨_, _, _, lt_WORDS_14, rfl, rfl, (show (2 : Nat) ≤ sizeLine by decide), .cons ⟨_, rfl⟩ (.cons ⟨_, rfl⟩ (.nil))⟩⟩⟩, (List.forall_mem_cons.mpr ⟨⟨_, e_WORDS_15, fun _ h => by subst h; exact ⟨_, rfl, fun H => .inr ⟨_, _, _, lt_WORDS_15, rfl, rfl, (show (2 : Nat) ≤ sizeLine by decide), .cons ⟨_, rfl⟩ (.cons ⟨_, rfl⟩ (.nil))⟩⟩⟩, (List.forall_mem_cons.mpr ⟨⟨_, e_WORDS_16, fun _ h => by subst h; exact ⟨_, rfl, fun H => .inr ⟨_, _, _, lt_WORDS_16, rfl, rfl, (show (2 : Nat) ≤ sizeLine by decide), .cons ⟨_, rfl⟩ (.cons ⟨_, rfl⟩ (.nil))⟩⟩⟩, (List.forall_mem_cons.mpr ⟨⟨_, e_WORDS_17, fun _ h => by subst h; exact ⟨_, rfl, fun H => .inr ⟨_, _, _, lt_WORDS_17, rfl, rfl, (show (2 : Nat) ≤ sizeLine by decide), .cons ⟨_, rfl⟩ (.cons ⟨_, rfl⟩ (.nil))⟩⟩⟩, (List.forall_mem_cons.mpr ⟨⟨_, e_WORDS_18, fun _ h => by subst h; exact ⟨_, rfl, fun H => .inr ⟨_, _, _, lt_WORDS_18, rfl, rfl, (show (2 : Nat) ≤ sizeLine by decide), .cons ⟨_, rfl⟩ (.cons ⟨_, rfl⟩ (.nil))⟩⟩⟩, (List.forall_mem_cons.mpr ⟨⟨_, e_WORDS_19, fun _ h => by subst h; exact ⟨_, rfl, fun H => .inr ⟨_, _, _, lt_WORDS_19, rfl, rfl, (show (2 : Nat) ≤ sizeLine by decide), .cons ⟨_, rfl⟩ (.cons ⟨_, rfl⟩ (.nil))⟩⟩⟩, (List.forall_mem_cons.mpr ⟨⟨_, e_WORDS_20, fun _ h => by subst h; exact ⟨_, rfl, fun H => .inr ⟨_, _, _, lt_WORDS_20, rfl, rfl, (show (2 : Nat) ≤ sizeLine by decide), .cons ⟨_, rfl⟩ (.cons ⟨_, rfl⟩ (.nil))⟩⟩⟩, (List.forall_mem_cons.mpr ⟨⟨_, e_WORDS_21, fun _ h => by subst h; exact ⟨_, rfl, fun H => .inr ⟨_, _, _, lt_WORDS_21, rfl, rfl, (show (2 : Nat) ≤ sizeLine by decide), .cons ⟨_, rfl⟩ (.cons ⟨_, rfl⟩ (.nil))⟩⟩⟩, (List.forall_mem_cons.mpr ⟨⟨_, e_WORDS_22, fun _ h => by subst h; exact ⟨_, rfl, fun H => .inr ⟨_, _, _, lt_WORDS_22, rfl, rfl, (show (2 : Nat) ≤ sizeLine by decide), .cons ⟨_, rfl⟩ (.cons ⟨_, rfl⟩ (.nil))⟩⟩⟩, (List.forall_mem_cons.mpr ⟨⟨_, e_WORDS_23, fun _ h => by subst h; exact ⟨_, rfl, fun H => .inr ⟨_, _, _, lt_WORDS_23, rfl, rfl, (show (2 : Nat) ≤ sizeLine by decide), .cons ⟨_, rfl⟩ (.cons ⟨_, rfl⟩ (.nil))⟩⟩⟩, (List.forall_mem_cons.mpr ⟨⟨_, e_WORDS_24, fun _ h => by subst h; exact ⟨_, rfl, fun H => .inr ⟨_, _, _, lt_WORDS_24, rfl, rfl, (show (2 : Nat) ≤ sizeLine by decide), .cons ⟨_, rfl⟩ (.cons ⟨_, rfl⟩ (.nil))⟩⟩⟩, (List.forall_mem_cons.mpr ⟨⟨_, e_WORDS_25, fun _ h => by subst h; exact ⟨_, rfl, fun H => .inr ⟨_, _, _, lt_WORDS_25, rfl, rfl, (show (2 : Nat) ≤ sizeLine by decide), .cons ⟨_, rfl⟩ (.cons ⟨_, rfl⟩ (.nil))⟩⟩⟩, (List.forall_mem_cons.mpr ⟨⟨_, e_WORDS_26, fun _ h => by subst h; exact ⟨_, rfl, fun H => .inr ⟨_, _, _, lt_WORDS_26, rfl, rfl, (show (2 : Nat) ≤ sizeLine by decide), .cons ⟨_, rfl⟩ (.cons ⟨_, rfl⟩ (.nil))⟩⟩⟩, (List.forall_mem_cons.mpr ⟨⟨_, e_WORDS_27, fun _ h => by subst h; exact ⟨_, rfl, fun H => .inr ⟨_, _, _, lt_WORDS_27, rfl, rfl, (show (2 : Nat) ≤ sizeLine by decide), .cons ⟨_, rfl⟩ (.cons ⟨_, rfl⟩ (.nil))⟩⟩⟩, (List.forall_mem_cons.mpr ⟨⟨_, e_WORDS_28, fun _ h => by subst h; exact ⟨_, rfl, fun H => .inr ⟨_, _, _, lt_WORDS_28, rfl, rfl, (show (2 : Nat) ≤ sizeLine by decide), .cons ⟨_, rfl⟩ (.cons ⟨_, rfl⟩ (.nil))⟩⟩⟩, (List.forall_mem_cons.mpr ⟨⟨_, e_WORDS_29, fun _ h => by subst h; exact ⟨_, rfl, fun H => .inr ⟨_, _, _, lt_WORDS_29, rfl, rfl, (show (2 : Nat) ≤ sizeLine by decide), .cons ⟨_, rfl⟩ (.cons ⟨_, rfl⟩ (.nil))⟩⟩⟩, (List.forall_mem_cons.mpr ⟨⟨_, e_WORDS_30, fun _ h => by subst h; exact ⟨_, rfl, fun H => .inr ⟨_, _, _, lt_WORDS_30, rfl, rfl, (show (2 : Nat) ≤ sizeLine by decide), .cons ⟨_, rfl⟩ (.cons ⟨_, rfl⟩ (.nil))⟩⟩⟩, (List.forall_mem_cons.mpr ⟨⟨_, e_WORDS_31, fun _ h => by subst h; exact ⟨_, rfl, fun H => .inr ⟨_, _, _, lt_WORDS_31, rfl, rfl, (show (2 : Nat) ≤ sizeLine by decide), .cons ⟨_, rfl⟩ (.cons ⟨_, rfl⟩ (.nil))⟩⟩⟩, (List.forall_mem_cons.mpr ⟨⟨_, e_WORDS_32, fun _ h => by subst h; exact ⟨_, rfl, fun H => .inr ⟨_, _, _, lt_WORDS_32, rfl, rfl, (show (2 : Nat) ≤ sizeLine by decide), .cons ⟨_, rfl⟩ (.cons ⟨_, rfl⟩ (.nil))⟩⟩⟩, (List.forall_mem_cons.mpr ⟨⟨_, e_WORDS_33, fun _ h => by subst h; exact ⟨_, rfl, fun H => .inr ⟨_, _, _, lt_WORDS_33, rfl, rfl, (show (2 : Nat) ≤ sizeLine by decide), .cons ⟨_, rfl⟩ (.cons ⟨_, rfl⟩ (.nil))⟩⟩⟩, (List.forall_mem_cons.mpr ⟨⟨_, e_WORDS_34, fun _ h => by subst h; exact ⟨_, rfl, fun H => .inr ⟨_, _, _, lt_WORDS_34, rfl, rfl, (show (2 : Nat) ≤ sizeLine by decide), .cons ⟨_, rfl⟩ (.cons ⟨_, rfl⟩ (.nil))⟩⟩⟩, (List.forall_mem_cons.mpr ⟨⟨_, e_WORDS_35, fun _ h => by subst h; exact ⟨_, rfl, fun H => .inr ⟨_, _, _, lt_WORDS_35, rfl, rfl, (show (2 : Nat) ≤ sizeLine by decide), .cons ⟨_, rfl⟩ (.cons ⟨_, rfl⟩ (.nil))⟩⟩⟩, (List.forall_mem_cons.mpr ⟨⟨_, e_WORDS_36, fun _ h => by subst h; exact ⟨_, rfl, fun H => .inr ⟨_, _, _, lt_WORDS_36, rfl, rfl, (show (2 : Nat) ≤ sizeLine by decide), .cons ⟨_, rfl⟩ (.cons ⟨_, rfl⟩ (.nil))⟩⟩⟩, (List.forall_mem_cons.mpr ⟨⟨_, e_WORDS_37, fun _ h => by subst h; exact ⟨_, rfl, fun H => .inr ⟨_, _, _, lt_WORDS_37, rfl, rfl, (show (2 : Nat) ≤ sizeLine by decide), .cons ⟨_, rfl⟩ (.cons ⟨_, rfl⟩ (.nil))⟩⟩⟩, (List.forall_mem_cons.mpr ⟨⟨_, e_WORDS_38, fun _ h => by subst h; exact ⟨_, rfl, fun H => .inr ⟨_, _, _, lt_WORDS_38, rfl, rfl, (show (2 : Nat) ≤ sizeLine by decide), .cons ⟨_, rfl⟩ (.cons ⟨_, rfl⟩ (.nil))⟩⟩⟩, (List.forall_mem_cons.mpr ⟨⟨_, e_WORDS_39, fun _ h => by subst h; exact ⟨_, rfl, fun H => .inr ⟨_, _, _, lt_WORDS_39, rfl, rfl, (show (2 : Nat) ≤ sizeLine by decide), .cons ⟨_, rfl⟩ (.cons ⟨_, rfl⟩ (.nil))⟩⟩⟩, (List.forall_mem_cons.mpr ⟨⟨_, e_WORDS_40, fun _ h => by subst h; exact ⟨_, rfl, fun H => .inr ⟨_, _, _, lt_WORDS_40, rfl, rfl, (show (2 : Nat) ≤ sizeLine by decide), .cons ⟨_, rfl⟩ (.cons ⟨_, rfl⟩ (.nil))⟩⟩⟩, (List.forall_mem_cons.mpr ⟨⟨_, e_WORDS_41, fun _ h => by subst h; exact ⟨_, rfl, fun H => .inr ⟨_, _, _, lt_WORDS_41, rfl, rfl, (show (2 : Nat) ≤ sizeLine by decide), .cons ⟨_, rfl⟩ (.cons ⟨_, rfl⟩ (.nil))⟩⟩⟩, (List.forall_mem_cons.mpr ⟨⟨_, e_WORDS_42, fun _ h => by subst h; rfl⟩, (List.forall_mem_nil _)⟩)⟩)⟩)⟩)⟩)⟩)⟩)⟩)⟩)⟩)⟩)⟩)⟩)⟩)⟩)⟩)⟩)⟩)⟩)⟩)⟩)⟩)⟩)⟩)⟩)⟩)⟩)⟩)⟩)⟩)⟩)⟩)⟩)⟩)⟩)⟩)⟩)⟩)⟩)⟩)⟩)⟩)⟩))⟩
  exact ⟨PySem.W.fnOf "law" "law" (defArgs s_law) (defBody s_law) (defScope s_law) .none kV47 dc47 pm47 an47 cd47 ct47, fun s v => .of_eq rfl, fun base _ _ => ok_law T I (fun_mk l47 c47 k47)⟩
end K55
open PySem PySem.W PyProof.Rows
set_option maxHeartbeats 0 in
theorem PySem.Challenge.cw_fleuron_k55_scaled_zones_holds : PySem.Challenge.rw_fleuron_k55_scaled_zones.Holds := by
  w_on; o_law; k_head; (case hw => w_witness2)
  k_fill
  refine L2.walk_of (l := PySem.Challenge.rw_fleuron_k55_scaled_zones) (n := 63) (k := 12) (x := "script") (CX := fun _ => L2.CX0) (sp := fun w => K55.spLaw _) rfl (by decide) rfl ⟨rfl, by decide, by decide⟩ (fun w h Y => PySem.W.kIn_of Y) ?F (fun _ _ a ns hl _ hS => ⟨a, ns, rfl, hS, hl, fun _ => rfl⟩) (fun _ _ _ _ _ h => h)
  case F =>
    intro w mg fa h KX G hmg
    refine' K55.all_mk KX G hmg ?a0 ?l0 ?c0 ?k0 ?a1 ?l1 ?c1 ?k1 ?a2 ?l2 ?c2 ?k2 ?a3 ?l3 ?c3 ?k3 ?a4 ?l4 ?c4 ?k4 ?a5 ?l5 ?c5 ?k5 ?a6 ?l6 ?c6 ?k6 ?a7 ?l7 ?c7 ?k7 ?a8 ?l8 ?c8 ?k8 ?a9 ?l9 ?c9 ?k9 ?a10 ?l10 ?c10 ?k10 ?a11 ?l11 ?c11 ?k11 ?a12 ?l12 ?c12 ?k12 ?a13 ?l13 ?c13 ?k13 ?a14 ?l14 ?c14 ?k14 ?a15 ?l15 ?c15 ?k15 ?a16 ?l16 ?c16 ?k16 ?a17 ?l17 ?c17 ?k17 ?a18 ?l18 ?c18 ?k18 ?a19 ?l19 ?c19 ?k19 ?a20 ?l20 ?c20 ?k20 ?a21 ?l21 ?c21 ?k21 ?a22 ?l22 ?c22 ?k22 ?a23 ?l23 ?c23 ?k23 ?a24 ?l24 ?c24 ?k24 ?a25 ?l25 ?c25 ?k25 ?a26 ?l26 ?c26 ?k26 ?a27 ?l27 ?c27 ?k27 ?a28 ?l28 ?c28 ?k28 ?a29 ?l29 ?c29 ?k29 ?a30 ?l30 ?c30 ?k30 ?a31 ?l31 ?c31 ?k31 ?a32 ?l32 ?c32 ?k32 ?a33 ?l33 ?c33 ?k33 ?a34 ?l34 ?c34 ?k34 ?a35 ?l35 ?c35 ?k35 ?a36 ?l36 ?c36 ?k36 ?a37 ?l37 ?c37 ?k37 ?a38 ?l38 ?c38 ?k38 ?a39 ?l39 ?c39 ?k39 ?a40 ?l40 ?c40 ?k40 ?a41 ?l41 ?c41 ?k41 ?a42 ?l42 ?c42 ?k42 ?a43 ?l43 ?c43 ?k43 ?a44 ?l44 ?c44 ?k44 ?a45 ?l45 ?c45 ?k45 ?a46 ?l46 ?c46 ?k46 ?a47 ?l47 ?c47 ?k47 ?z_abs ?z_all ?z_bool ?z_enumerate ?z_int ?z_isinstance ?z_len ?z_list ?z_max ?z_min ?z_range ?z_set ?z_str ?z_sum ?z_tuple ?g_DEEPEST ?g_FARTHEST ?g_GREATEST_NUMBER ?g_LEAST_NUMBER ?g_LEAST_OF_CONTOUR ?g_MOST_CONTOURS ?g_MOST_POINTS ?g_ONE_PIXEL ?g_FleuronError ?sg_FleuronError ?ty_FleuronError ?rd_FleuronError ?fc_FleuronError ?be_FleuronError ?hd_FleuronError ?g_UnknownGlyph ?xL_UnknownGlyph ?sa_UnknownGlyph ?be_UnknownGlyph ?ty_UnknownGlyph ?kC_UnknownGlyph ?hd_UnknownGlyph ?fn_UnknownGlyph ?ga_UnknownGlyph ?gg_UnknownGlyph ?in_UnknownGlyph ?tf_UnknownGlyph ?li_UnknownGlyph ?ci_UnknownGlyph ?ki_UnknownGlyph ?ss_UnknownGlyph ?g_Glyph ?pg_Glyph ?hd_Glyph ?po_Glyph ?sa_Glyph ?mk_Glyph ?in_Glyph ?fn_Glyph ?kc_Glyph ?li_Glyph ?ci_Glyph ?ki_Glyph ?kd_Glyph_parts ?em_Glyph_parts ?kd_Glyph_anchors ?em_Glyph_anchors ?kd_Glyph_mark ?kd_Glyph_deltas ?em_Glyph_deltas ?kd_Glyph_hint ?em_Glyph_hint ?na_Glyph_advance ?na_Glyph_outline ?na_Glyph_parts ?na_Glyph_anchors ?na_Glyph_mark ?na_Glyph_deltas ?na_Glyph_hint ?g_Rule ?pg_Rule ?hd_Rule ?po_Rule ?sa_Rule ?mk_Rule ?in_Rule ?fn_Rule ?kc_Rule ?li_Rule ?ci_Rule ?ki_Rule ?kd_Rule_back ?em_Rule_back ?kd_Rule_ahead ?em_Rule_ahead ?kd_Rule_out ?em_Rule_out ?kd_Rule_calls ?em_Rule_calls ?kd_Rule_extra ?na_Rule_inside ?na_Rule_back ?na_Rule_ahead ?na_Rule_out ?na_Rule_calls ?na_Rule_extra ?g_Lookup ?pg_Lookup ?hd_Lookup ?po_Lookup ?sa_Lookup ?mk_Lookup ?in_Lookup ?fn_Lookup ?kc_Lookup ?li_Lookup ?ci_Lookup ?ki_Lookup ?kd_Lookup_ignore ?na_Lookup_kind ?na_Lookup_rules ?na_Lookup_ignore ?g_Font ?pg_Font ?hd_Font ?po_Font ?sa_Font ?mk_Font ?in_Font ?fn_Font ?kc_Font ?li_Font ?ci_Font ?ki_Font ?kd_Font_chars ?em_Font_chars ?kd_Font_lookups ?em_Font_lookups ?kd_Font_features ?em_Font_features ?kd_Font_axes ?em_Font_axes ?kd_Font_regions ?em_Font_regions ?kd_Font_functions ?em_Font_functions ?kd_Font_presets ?em_Font_presets ?na_Font_unit ?na_Font_glyphs ?na_Font_chars ?na_Font_lookups ?na_Font_features ?na_Font_axes ?na_Font_regions ?na_Font_functions ?na_Font_presets ?g_Zone ?pg_Zone ?hd_Zone ?po_Zone ?sa_Zone ?mk_Zone ?in_Zone ?fn_Zone ?kc_Zone ?li_Zone ?ci_Zone ?ki_Zone ?na_Zone_original ?na_Zone_current ?na_Zone_touched ?na_Zone_ends ?g_Program ?pg_Program ?hd_Program ?po_Program ?sa_Program ?mk_Program ?in_Program ?fn_Program ?kc_Program ?li_Program ?ci_Program ?ki_Program ?kd_Program_functions ?em_Program_functions ?kd_Program_presets ?em_Program_presets ?kd_Program_size ?na_Program_main ?na_Program_functions ?na_Program_presets ?na_Program_size ?g_WITH_CONTEXT ?t_WITH_CONTEXT ?g_WITH_OUT ?t_WITH_OUT ?g_ANCHOR_KINDS ?t_ANCHOR_KINDS ?g_WORDS ?l_WORDS ?kl_WORDS ?sm_WORDS ?e_WORDS_0 ?lt_WORDS_0 ?e_WORDS_1 ?lt_WORDS_1 ?e_WORDS_2 ?e_WORDS_3 ?lt_WORDS_3 ?e_WORDS_4 ?lt_WORDS_4 ?e_WORDS_5 ?e_WORDS_6 ?e_WORDS_7 ?lt_WORDS_7 ?e_WORDS_8 ?lt_WORDS_8 ?e_WORDS_9 ?lt_WORDS_9 ?e_WORDS_10 ?lt_WORDS_10 ?e_WORDS_11 ?lt_WORDS_11 ?e_WORDS_12 ?lt_WORDS_12 ?e_WORDS_13 ?lt_WORDS_13 ?e_WORDS_14 ?lt_WORDS_14 ?e_WORDS_15 ?lt_WORDS_15 ?e_WORDS_16 ?lt_WORDS_16 ?e_WORDS_17 ?lt_WORDS_17 ?e_WORDS_18 ?lt_WORDS_18 ?e_WORDS_19 ?lt_WORDS_19 ?e_WORDS_20 ?lt_WORDS_20 ?e_WORDS_21 ?lt_WORDS_21 ?e_WORDS_22 ?lt_WORDS_22 ?e_WORDS_23 ?lt_WORDS_23 ?e_WORDS_24 ?lt_WORDS_24 ?e_WORDS_25 ?lt_WORDS_25 ?e_WORDS_26 ?lt_WORDS_26 ?e_WORDS_27 ?lt_WORDS_27 ?e_WORDS_28 ?lt_WORDS_28 ?e_WORDS_29 ?lt_WORDS_29 ?e_WORDS_30 ?lt_WORDS_30 ?e_WORDS_31 ?lt_WORDS_31 ?e_WORDS_32 ?lt_WORDS_32 ?e_WORDS_33 ?lt_WORDS_33 ?e_WORDS_34 ?lt_WORDS_34 ?e_WORDS_35 ?lt_WORDS_35 ?e_WORDS_36 ?lt_WORDS_36 ?e_WORDS_37 ?lt_WORDS_37 ?e_WORDS_38 ?lt_WORDS_38 ?e_WORDS_39 ?lt_WORDS_39 ?e_WORDS_40 ?lt_WORDS_40 ?e_WORDS_41 ?lt_WORDS_41 ?e_WORDS_42
    (case a0 => k_is); (case l0 => k_is); (case c0 => k_is); (case k0 => k_is); (case a1 => k_is); (case l1 => k_is); (case c1 => k_is); (case k1 => k_is); (case a2 => k_is); (case l2 => k_is); (case c2 => k_is); (case k2 => k_is); (case a3 => k_is); (case l3 => k_is); (case c3 => k_is); (case k3 => k_is); (case a4 => k_is); (case l4 => k_is); (case c4 => k_is); (case k4 => k_is); (case a5 => k_is); (case l5 => k_is); (case c5 => k_is); (case k5 => k_is); (case a6 => k_is); (case l6 => k_is); (case c6 => k_is); (case k6 => k_is); (case a7 => k_is); (case l7 => k_is); (case c7 => k_is); (case k7 => k_is); (case a8 => k_is); (case l8 => k_is); (case c8 => k_is); (case k8 => k_is); (case a9 => k_is); (case l9 => k_is); (case c9 => k_is); (case k9 => k_is); (case a10 => k_is); (case l10 => k_is); (case c10 => k_is); (case k10 => k_is); (case a11 => k_is); (case l11 => k_is); (case c11 => k_is); (case k11 => k_is); (case a12 => k_is); (case l12 => k_is); (case c12 => k_is); (case k12 => k_is); (case a13 => k_is); (case l13 => k_is); (case c13 => k_is); (case k13 => k_is); (case a14 => k_is); (case l14 => k_is); (case c14 => k_is); (case k14 => k_is); (case a15 => k_is); (case l15 => k_is); (case c15 => k_is); (case k15 => k_is); (case a16 => k_is); (case l16 => k_is); (case c16 => k_is); (case k16 => k_is); (case a17 => k_is); (case l17 => k_is); (case c17 => k_is); (case k17 => k_is); (case a18 => k_is); (case l18 => k_is); (case c18 => k_is); (case k18 => k_is); (case a19 => k_is); (case l19 => k_is); (case c19 => k_is); (case k19 => k_is); (case a20 => k_is); (case l20 => k_is); (case c20 => k_is); (case k20 => k_is); (case a21 => k_is); (case l21 => k_is); (case c21 => k_is); (case k21 => k_is); (case a22 => k_is); (case l22 => k_is); (case c22 => k_is); (case k22 => k_is); (case a23 => k_is); (case l23 => k_is); (case c23 => k_is); (case k23 => k_is); (case a24 => k_is); (case l24 => k_is); (case c24 => k_is); (case k24 => k_is); (case a25 => k_is); (case l25 => k_is); (case c25 => k_is); (case k25 => k_is); (case a26 => k_is); (case l26 => k_is); (case c26 => k_is); (case k26 => k_is); (case a27 => k_is); (case l27 => k_is); (case c27 => k_is); (case k27 => k_is); (case a28 => k_is); (case l28 => k_is); (case c28 => k_is); (case k28 => k_is); (case a29 => k_is); (case l29 => k_is); (case c29 => k_is); (case k29 => k_is); (case a30 => k_is); (case l30 => k_is); (case c30 => k_is); (case k30 => k_is); (case a31 => k_is); (case l31 => k_is); (case c31 => k_is); (case k31 => k_is); (case a32 => k_is); (case l32 => k_is); (case c32 => k_is); (case k32 => k_is); (case a33 => k_is); (case l33 => k_is); (case c33 => k_is); (case k33 => k_is); (case a34 => k_is); (case l34 => k_is); (case c34 => k_is); (case k34 => k_is); (case a35 => k_is); (case l35 => k_is); (case c35 => k_is); (case k35 => k_is); (case a36 => k_is); (case l36 => k_is); (case c36 => k_is); (case k36 => k_is); (case a37 => k_is); (case l37 => k_is); (case c37 => k_is); (case k37 => k_is); (case a38 => k_is); (case l38 => k_is); (case c38 => k_is); (case k38 => k_is); (case a39 => k_is); (case l39 => k_is); (case c39 => k_is); (case k39 => k_is); (case a40 => k_is); (case l40 => k_is); (case c40 => k_is); (case k40 => k_is); (case a41 => k_is); (case l41 => k_is); (case c41 => k_is); (case k41 => k_is); (case a42 => k_is); (case l42 => k_is); (case c42 => k_is); (case k42 => k_is); (case a43 => k_is); (case l43 => k_is); (case c43 => k_is); (case k43 => k_is); (case a44 => k_is); (case l44 => k_is); (case c44 => k_is); (case k44 => k_is); (case a45 => k_is); (case l45 => k_is); (case c45 => k_is); (case k45 => k_is); (case a46 => k_is); (case l46 => k_is); (case c46 => k_is); (case k46 => k_is); (case a47 => k_is); (case l47 => k_is); (case c47 => k_is); (case k47 => k_is); (case z_abs => k_is); (case z_all => k_is); (case z_bool => k_is); (case z_enumerate => k_is); (case z_int => k_is); (case z_isinstance => k_is); (case z_len => k_is); (case z_list => k_is); (case z_max => k_is); (case z_min => k_is); (case z_range => k_is); (case z_set => k_is); (case z_str => k_is); (case z_sum => k_is); (case z_tuple => k_is); (case g_DEEPEST => k_is); (case g_FARTHEST => k_is); (case g_GREATEST_NUMBER => k_is); (case g_LEAST_NUMBER => k_is); (case g_LEAST_OF_CONTOUR => k_is); (case g_MOST_CONTOURS => k_is); (case g_MOST_POINTS => k_is); (case g_ONE_PIXEL => k_is); (case g_FleuronError => k_is); (case sg_FleuronError => k_is); (case ty_FleuronError => k_is); (case rd_FleuronError => k_is); (case fc_FleuronError => k_is); (case be_FleuronError => k_is); (case hd_FleuronError => k_is); (case g_UnknownGlyph => k_is); (case xL_UnknownGlyph => k_is); (case sa_UnknownGlyph => k_is); (case be_UnknownGlyph => k_is); (case ty_UnknownGlyph => k_is); (case kC_UnknownGlyph => k_is); (case hd_UnknownGlyph => k_is); (case fn_UnknownGlyph => k_is); (case ga_UnknownGlyph => k_is); (case gg_UnknownGlyph => k_is); (case in_UnknownGlyph => k_is); (case tf_UnknownGlyph => k_is); (case li_UnknownGlyph => k_is); (case ci_UnknownGlyph => k_is); (case ki_UnknownGlyph => k_is); (case ss_UnknownGlyph => k_is); (case g_Glyph => k_is); (case pg_Glyph => k_is); (case hd_Glyph => k_is); (case po_Glyph => k_is); (case sa_Glyph => k_is); (case mk_Glyph => k_is); (case in_Glyph => k_is); (case fn_Glyph => k_is); (case kc_Glyph => k_is); (case li_Glyph => k_is); (case ci_Glyph => k_is); (case ki_Glyph => k_is); (case kd_Glyph_parts => k_is); (case em_Glyph_parts => k_is); (case kd_Glyph_anchors => k_is); (case em_Glyph_anchors => k_is); (case kd_Glyph_mark => k_is); (case kd_Glyph_deltas => k_is); (case em_Glyph_deltas => k_is); (case kd_Glyph_hint => k_is); (case em_Glyph_hint => k_is); (case na_Glyph_advance => k_is); (case na_Glyph_outline => k_is); (case na_Glyph_parts => k_is); (case na_Glyph_anchors => k_is); (case na_Glyph_mark => k_is); (case na_Glyph_deltas => k_is); (case na_Glyph_hint => k_is); (case g_Rule => k_is); (case pg_Rule => k_is); (case hd_Rule => k_is); (case po_Rule => k_is); (case sa_Rule => k_is); (case mk_Rule => k_is); (case in_Rule => k_is); (case fn_Rule => k_is); (case kc_Rule => k_is); (case li_Rule => k_is); (case ci_Rule => k_is); (case ki_Rule => k_is); (case kd_Rule_back => k_is); (case em_Rule_back => k_is); (case kd_Rule_ahead => k_is); (case em_Rule_ahead => k_is); (case kd_Rule_out => k_is); (case em_Rule_out => k_is); (case kd_Rule_calls => k_is); (case em_Rule_calls => k_is); (case kd_Rule_extra => k_is); (case na_Rule_inside => k_is); (case na_Rule_back => k_is); (case na_Rule_ahead => k_is); (case na_Rule_out => k_is); (case na_Rule_calls => k_is); (case na_Rule_extra => k_is); (case g_Lookup => k_is); (case pg_Lookup => k_is); (case hd_Lookup => k_is); (case po_Lookup => k_is); (case sa_Lookup => k_is); (case mk_Lookup => k_is); (case in_Lookup => k_is); (case fn_Lookup => k_is); (case kc_Lookup => k_is); (case li_Lookup => k_is); (case ci_Lookup => k_is); (case ki_Lookup => k_is); (case kd_Lookup_ignore => k_is); (case na_Lookup_kind => k_is); (case na_Lookup_rules => k_is); (case na_Lookup_ignore => k_is); (case g_Font => k_is); (case pg_Font => k_is); (case hd_Font => k_is); (case po_Font => k_is); (case sa_Font => k_is); (case mk_Font => k_is); (case in_Font => k_is); (case fn_Font => k_is); (case kc_Font => k_is); (case li_Font => k_is); (case ci_Font => k_is); (case ki_Font => k_is); (case kd_Font_chars => k_is); (case em_Font_chars => k_is); (case kd_Font_lookups => k_is); (case em_Font_lookups => k_is); (case kd_Font_features => k_is); (case em_Font_features => k_is); (case kd_Font_axes => k_is); (case em_Font_axes => k_is); (case kd_Font_regions => k_is); (case em_Font_regions => k_is); (case kd_Font_functions => k_is); (case em_Font_functions => k_is); (case kd_Font_presets => k_is); (case em_Font_presets => k_is); (case na_Font_unit => k_is); (case na_Font_glyphs => k_is); (case na_Font_chars => k_is); (case na_Font_lookups => k_is); (case na_Font_features => k_is); (case na_Font_axes => k_is); (case na_Font_regions => k_is); (case na_Font_functions => k_is); (case na_Font_presets => k_is); (case g_Zone => k_is); (case pg_Zone => k_is); (case hd_Zone => k_is); (case po_Zone => k_is); (case sa_Zone => k_is); (case mk_Zone => k_is); (case in_Zone => k_is); (case fn_Zone => k_is); (case kc_Zone => k_is); (case li_Zone => k_is); (case ci_Zone => k_is); (case ki_Zone => k_is); (case na_Zone_original => k_is); (case na_Zone_current => k_is); (case na_Zone_touched => k_is); (case na_Zone_ends => k_is); (case g_Program => k_is); (case pg_Program => k_is); (case hd_Program => k_is); (case po_Program => k_is); (case sa_Program => k_is); (case mk_Program => k_is); (case in_Program => k_is); (case fn_Program => k_is); (case kc_Program => k_is); (case li_Program => k_is); (case ci_Program => k_is); (case ki_Program => k_is); (case kd_Program_functions => k_is); (case em_Program_functions => k_is); (case kd_Program_presets => k_is); (case em_Program_presets => k_is); (case kd_Program_size => k_is); (case na_Program_main => k_is); (case na_Program_functions => k_is); (case na_Program_presets => k_is); (case na_Program_size => k_is); (case g_WITH_CONTEXT => k_is); (case t_WITH_CONTEXT => k_is); (case g_WITH_OUT => k_is); (case t_WITH_OUT => k_is); (case g_ANCHOR_KINDS => k_is); (case t_ANCHOR_KINDS => k_is); (case g_WORDS => k_is); (case l_WORDS => k_is); (case kl_WORDS => k_keys); (case sm_WORDS => rfl); (case e_WORDS_0 => k_is); (case lt_WORDS_0 => k_is); (case e_WORDS_1 => k_is); (case lt_WORDS_1 => k_is); (case e_WORDS_2 => k_is); (case e_WORDS_3 => k_is); (case lt_WORDS_3 => k_is); (case e_WORDS_4 => k_is); (case lt_WORDS_4 => k_is); (case e_WORDS_5 => k_is); (case e_WORDS_6 => k_is); (case e_WORDS_7 => k_is); (case lt_WORDS_7 => k_is); (case e_WORDS_8 => k_is); (case lt_WORDS_8 => k_is); (case e_WORDS_9 => k_is); (case lt_WORDS_9 => k_is); (case e_WORDS_10 => k_is); (case lt_WORDS_10 => k_is); (case e_WORDS_11 => k_is); (case lt_WORDS_11 => k_is); (case e_WORDS_12 => k_is); (case lt_WORDS_12 => k_is); (case e_WORDS_13 => k_is); (case lt_WORDS_13 => k_is); (case e_WORDS_14 => k_is); (case lt_WORDS_14 => k_is); (case e_WORDS_15 => k_is); (case lt_WORDS_15 => k_is); (case e_WORDS_16 => k_is); (case lt_WORDS_16 => k_is); (case e_WORDS_17 => k_is); (case lt_WORDS_17 => k_is); (case e_WORDS_18 => k_is); (case lt_WORDS_18 => k_is); (case e_WORDS_19 => k_is); (case lt_WORDS_19 => k_is); (case e_WORDS_20 => k_is); (case lt_WORDS_20 => k_is); (case e_WORDS_21 => k_is); (case lt_WORDS_21 => k_is); (case e_WORDS_22 => k_is); (case lt_WORDS_22 => k_is); (case e_WORDS_23 => k_is); (case lt_WORDS_23 => k_is); (case e_WORDS_24 => k_is); (case lt_WORDS_24 => k_is); (case e_WORDS_25 => k_is); (case lt_WORDS_25 => k_is); (case e_WORDS_26 => k_is); (case lt_WORDS_26 => k_is); (case e_WORDS_27 => k_is); (case lt_WORDS_27 => k_is); (case e_WORDS_28 => k_is); (case lt_WORDS_28 => k_is); (case e_WORDS_29 => k_is); (case lt_WORDS_29 => k_is); (case e_WORDS_30 => k_is); (case lt_WORDS_30 => k_is); (case e_WORDS_31 => k_is); (case lt_WORDS_31 => k_is); (case e_WORDS_32 => k_is); (case lt_WORDS_32 => k_is); (case e_WORDS_33 => k_is); (case lt_WORDS_33 => k_is); (case e_WORDS_34 => k_is); (case lt_WORDS_34 => k_is); (case e_WORDS_35 => k_is); (case lt_WORDS_35 => k_is); (case e_WORDS_36 => k_is); (case lt_WORDS_36 => k_is); (case e_WORDS_37 => k_is); (case lt_WORDS_37 => k_is); (case e_WORDS_38 => k_is); (case lt_WORDS_38 => k_is); (case e_WORDS_39 => k_is); (case lt_WORDS_39 => k_is); (case e_WORDS_40 => k_is); (case lt_WORDS_40 => k_is); (case e_WORDS_41 => k_is); (case lt_WORDS_41 => k_is); (case e_WORDS_42 => k_is)

