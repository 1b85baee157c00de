import PyProof.Rows.All
import Wide.All
import OpenK.AllK
import Wide.FinOn
import HandS.ForMost
import HandS.Wide
import HandS.IsInst
import HandS.Gcd
import HandS.Defaults
import HandS.Comp
import HandS.Zip
import HandS.Iter
import HandS.Style
import PyProof.ReprRoads
import PyProof.ReprLen
import HandS.Rev
import HandS.ForExc
import HandS.ExcInit
import HandS.ExcIs
import HandS.TryMany
import HandS.MakeKwOnly
import HandS.Flow
import HandS.More
import HandS.Dict
import HandS.FStr
import HandS.ExcField
import HandS.TryOnly
import HandS.Walk
import HandS.TupSets
import HandS.Flt
import HandS.ExcCtx
import HandS.HotCalls
import HandS.DictComp
import KE.GoesComp
import HandS.Head2
import HandS.Head3
import HandS.HeadEnd
import HandS.HeadHook3
import HandS.WordsDict
import PySem.Challenge.RW_fleuron_k43_whole_instances
set_option Elab.async false
set_option linter.all false
set_option maxRecDepth 100000
set_option maxHeartbeats 4000000
namespace Fl
open PySem PySem.Spec PyProof.Rows L2

/-! ### defs of the text, and what they promise -/
structure DefIn (K : PySem.W.Frag) (mg : Str → Option Value) (x : Str) (st : Stmt) : Prop where
  ex : ∃ (f : Addr) (fd : FuncData), Fun K x x st f fd ∧ mg x = some (.ref f)

structure Has (P : Program) (w : World) (K : PySem.W.Frag) (mg : Str → Option Value) (base : Heap) (k : Nat) (x : Str) (ps : List Str) (sp : Sp) : Prop where
  ex : ∃ (f : Addr) (fd : FuncData), FnOk P w K mg base CX0 k f fd ps sp ∧ mg x = some (.ref f) ∧ PySem.W.keepIn K (.ref f) = true ∧ Binds K fd ps []

section
variable {P : Program} {w : World} {K : PySem.W.Frag} {mg : Str → Option Value} {base : Heap}
theorem Has.mono {j k : Nat} {x : Str} {ps : List Str} {sp : Sp} (h : Has P w K mg base j x ps sp) (e : j ≤ k) : Has P w K mg base k x ps sp := by
  obtain ⟨f, fd, a, b, c, d⟩ := h.ex
  exact ⟨f, fd, a.mono e, b, c, d⟩
/-- the context of a def's body -/
abbrev bx (P : Program) (w : World) (K : PySem.W.Frag) (mg : Str → Option Value) (base : Heap) (N : List Str) (x : Str) (st : Stmt) (f : Addr) (cdv : Value) (A : Around) (outer : List Env) (s : Shared) (H : Hp) (E : XK) : Cx :=
  (cxOf CX0 P w K mg base N x (defScope st) f cdv A outer s H E).nox
theorem fnok_of {x : Str} {st : Stmt} {N ps : List Str} {k : Nat} {sp : Sp} {f : Addr} {fd : FuncData} (F : Fun K x x st f fd) (S : FnScope N ps (defScope st))
    (len : ∀ vs H Q E, sp vs H Q E → vs.length = ps.length)
    (hbody : ∀ (f : Addr) (cdv : Value) (A : Around) (outer : List Env) (s : Shared) (H : Hp) (vs : List V) (Q : VK) (E : XK), Room k (A.deeper (envOfC x (defScope st) s.heap.objs.size f cdv)) → sp vs H Q E →
      ∃ t, PSs (bx P w K mg base N x st f cdv A outer s H E) (defBody st) t ∧ t { nx := fun _ H' => Q .non H', rt := Q } (start N vs) H) : FnOk P w K mg base CX0 (k + 1) f fd ps sp :=
  F.ok S len fun cdv A outer s H vs Q E hr h => hbody f cdv A outer s H vs Q E hr h
theorem has_of {x : Str} {st : Stmt} {N ps : List Str} {k : Nat} {sp : Sp} (D : DefIn K mg x st) (S : FnScope N ps (defScope st))
    (hb : ∀ (kV doc pm : Value) (an : Option Addr) (cdv ct : Value) (us : List Value), us.length = ps.length → bindArgs (PySem.W.fnOf x x (defArgs st) (defBody st) (defScope st) .none kV doc pm an cdv ct) ⟨us, []⟩ = pure (ps.zip us))
    (len : ∀ vs H Q E, sp vs H Q E → vs.length = ps.length)
    (hbody : ∀ (f : Addr) (cdv : Value) (A : Around) (outer : List Env) (s : Shared) (H : Hp) (vs : List V) (Q : VK) (E : XK), Room k (A.deeper (envOfC x (defScope st) s.heap.objs.size f cdv)) → sp vs H Q E →
      ∃ t, PSs (bx P w K mg base N x st f cdv A outer s H E) (defBody st) t ∧ t { nx := fun _ H' => Q .non H', rt := Q } (start N vs) H) : Has P w K mg base (k + 1) x ps sp := by
  obtain ⟨f, fd, F, m⟩ := D.ex
  exact ⟨f, fd, fnok_of F S len hbody, m, F.kp, F.binds hb⟩
end
section
variable {X : Cx}
theorem pe_h {k : Nat} {x : Str} {ps : List Str} {sp : Sp} {e : Expr} {es : List Expr} {t : TA} {p pos : Pos} (h : Has X.prog X.w X.K X.mg X.base k x ps sp) (hr : Room k X.A) (ha : PA X (e :: es) t) (hg : Gl X x := by rfl)
    (hdb : (x == ("__debug__" : Str)) = false := by decide) (he : starEach (e :: es) X.env = (false, eval e X.env) :: starEach es X.env := by rfl) (hpl : (backTo pos (starEach es X.env)).any (·.1) = false := by rfl) :
    PE X (.Call (.Name x p) (e :: es) [] pos) (tCall sp [] E0 t) := by
  obtain ⟨f, fd, a, b, c, d⟩ := h.ex
  exact pe_call a hr hg b c d .nil pass0 ha hdb he hpl
end

/-! ### heaps: all stands but at one address -/
def Ex1 (d : Addr) (H H' : Hp) : Prop := ∀ a o, a ≠ d → H a = some o → H' a = some o
theorem Ex1.refl {d : Addr} {H : Hp} : Ex1 d H H := fun _ _ _ h => h
theorem Ex1.trans {d : Addr} {H H1 H2 : Hp} (a : Ex1 d H H1) (b : Ex1 d H1 H2) : Ex1 d H H2 := fun x o n h => b x o n (a x o n h)
theorem Ex1.upd {d : Addr} {H : Hp} {o : HO} : Ex1 d H (upd H d o) := fun a u n h => by rw [upd_ne n]; exact h
theorem Ex1.of {d : Addr} {H H' : Hp} (h : Same H H') : Ex1 d H H' := fun a o _ e => h a o e
theorem Ex1.rd {d : Addr} {H H' : Hp} {a : Addr} {u : HO} (e : Ex1 d H H') (n : a ≠ d) (h : Rd H a u) : Rd H' a u := by
  rcases h with h | ⟨o, h⟩
  · exact Or.inl (e a _ n h)
  · exact Or.inr ⟨o, e a _ n h⟩
theorem Ex1.l {K : PySem.W.Frag} {d : Addr} {H H' : Hp} {a : Addr} {xs : List V} (e : Ex1 d H H') (n : a ≠ d) (h : SqL K H a xs) : SqL K H' a xs := by
  rcases h with h | h
  · exact Or.inl (e.rd n h)
  · exact Or.inr h
theorem Ex1.t {K : PySem.W.Frag} {d : Addr} {H H' : Hp} {a : Addr} {xs : List V} (e : Ex1 d H H') (n : a ≠ d) (h : SqT K H a xs) : SqT K H' a xs := by
  rcases h with h | h
  · exact Or.inl (e.rd n h)
  · exact Or.inr h

/-! ### the deck -/
def DeckAt (K : PySem.W.Frag) (H : Hp) (d : Addr) : Prop := ∃ (s : Addr) (ns : List Int) (pos rest seed : Int), H d = some (.lst [.ref s, .int pos, .int rest, .int seed]) ∧ SqL K H s (ns.map V.int) ∧ s ≠ d ∧ 0 ≤ pos
theorem DeckAt.same {K : PySem.W.Frag} {H H' : Hp} {d : Addr} (h : DeckAt K H d) (e : Same H H') : DeckAt K H' d := by
  obtain ⟨s, ns, p, r, q, h1, h2, h3, h4⟩ := h
  exact ⟨s, ns, p, r, q, e _ _ h1, e.seq h2, h3, h4⟩
theorem Same.new {H : Hp} {p : Addr} {o : HO} (h : H p = none) : Same H (upd H p o) := fun a u e => by
  rw [upd_ne (ne_of_none e h)]
  exact e
def spDraw (K : PySem.W.Frag) : Sp := fun vs H Q _ => ∃ (d : Addr) (m : Int), vs = [.ref d, .int m] ∧ DeckAt K H d ∧ 0 < m ∧ m < 10 ^ 62 ∧ ∀ v H', 0 ≤ v → v < m → DeckAt K H' d → Ex1 d H H' → Q (.int v) H'
def spDeck (K : PySem.W.Frag) : Sp := fun vs H Q _ => ∃ (a : Addr) (ns : List Int), vs = [.ref a] ∧ SqL K H a (ns.map V.int) ∧ ∀ d H', H d = none → DeckAt K H' d → Same H H' → Q (.ref d) H'
theorem div62 {i m : Int} (h : 0 < m) (h1 : m < 10 ^ 62) : CDivW i m := by
  have e : (10 : Int) ^ 62 < 2 ^ 250 := by decide
  refine wide_div (b := 250) h ?_ (by decide) (by decide)
  have e1 : (10 : Nat) ^ 62 < 2 ^ 250 := by decide
  have e2 : m.natAbs < 10 ^ 62 := by omega
  omega

/-! ### readings, step by step -/
section
variable {σ : L2.St} {H : Hp} {Q : VK} {v x y : V} {ta tb tc te : TE} {K : PySem.W.Frag} {D : Ends} {t u : TS}
theorem g_var {i : Nat} (h : σ[i]? = some (some v)) (q : Q v H) : tVar i σ H Q := ⟨v, h, q⟩
theorem g_c (q : Q v H) : tC v σ H Q := q
theorem g_op {r : R2} (h : ta σ H fun x H1 => tb σ H1 fun y H2 => r x y H2 Q) : tOp r ta tb σ H Q := h
theorem g_un {r : V → Hp → VK → Prop} (h : ta σ H fun x H1 => r x H1 Q) : tUn r ta σ H Q := h
theorem g_I0 {g : Int → Int → V} {i j : Int} (q : Q (g i j) H) : rI0 g (.int i) (.int j) H Q := ⟨i, j, rfl, rfl, q⟩
theorem g_I {C : Int → Int → Prop} {g : Int → Int → V} {i j : Int} (c : C i j) (q : Q (g i j) H) : rI C g (.int i) (.int j) H Q := ⟨i, j, rfl, rfl, c, q⟩
theorem g_U {g : Int → V} {i : Int} (q : Q (g i) H) : rU g (.int i) H Q := ⟨i, rfl, q⟩
theorem g_ixL {p : Addr} {xs : List V} {i : Int} (h : SqL K H p xs) (a : atI xs i = some v) (q : Q v H) : rIxL K (.ref p) (.int i) H Q := ⟨p, xs, i, v, rfl, rfl, h, a, q⟩
theorem g_ixT {p : Addr} {xs : List V} {i : Int} (h : SqT K H p xs) (a : atI xs i = some v) (q : Q v H) : rIxT K (.ref p) (.int i) H Q := ⟨p, xs, i, v, rfl, rfl, h, a, q⟩
theorem g_eq (h : scal x y = true) (q : Q (.bl (decide (x = y))) H) : rEq x y H Q := ⟨h, q⟩
theorem g_ne (h : scal x y = true) (q : Q (.bl (!decide (x = y))) H) : rNe x y H Q := ⟨h, q⟩
theorem g_eqI {i j : Int} (q : Q (.bl (decide (i = j))) H) : rEq (.int i) (.int j) H Q := ⟨rfl, by
  have e : decide (V.int i = V.int j) = decide (i = j) := by simp
  rw [e]; exact q⟩
theorem g_neI {i j : Int} (q : Q (.bl (!decide (i = j))) H) : rNe (.int i) (.int j) H Q := ⟨rfl, by
  have e : decide (V.int i = V.int j) = decide (i = j) := by simp
  rw [e]; exact q⟩
theorem g_eqB {i j : Bool} (q : Q (.bl (decide (i = j))) H) : rEq (.bl i) (.bl j) H Q := ⟨rfl, by
  have e : decide (V.bl i = V.bl j) = decide (i = j) := by simp
  rw [e]; exact q⟩
/-! calls of built-ins, by named readings -/
def rInt : List V → Hp → VK → Prop := fun xs H Q => ∃ i, xs = [.int i] ∧ Q (.int i) H
def rIntB : List V → Hp → VK → Prop := fun xs H Q => ∃ k, xs = [.bl k] ∧ Q (.int (if k then 1 else 0)) H
def rAbs : List V → Hp → VK → Prop := fun xs H Q => ∃ i, xs = [.int i] ∧ Q (.int (if i < 0 then -i else i)) H
def rMax : List V → Hp → VK → Prop := fun xs H Q => ∃ i j, xs = [.int i, .int j] ∧ Q (.int (if j > i then j else i)) H
def rMin : List V → Hp → VK → Prop := fun xs H Q => ∃ i j, xs = [.int i, .int j] ∧ Q (.int (if j < i then j else i)) H
def rLen (K : PySem.W.Frag) : List V → Hp → VK → Prop := fun xs H Q => ∃ p ys, xs = [.ref p] ∧ (SqL K H p ys ∨ SqT K H p ys) ∧ Q (.int (ys.length : Int)) H
def rList (K : PySem.W.Frag) : List V → Hp → VK → Prop := fun xs H Q => ∃ p ys, xs = [.ref p] ∧ (SqL K H p ys ∨ SqT K H p ys) ∧ ∀ l, H l = none → Q (.ref l) (upd H l (.lst ys))
theorem g_cb1 {r : List V → Hp → VK → Prop} (h : ta σ H fun x H1 => r [x] H1 Q) : tCB r (tCons ta tNil) σ H Q := h
theorem g_cb2 {r : List V → Hp → VK → Prop} (h : ta σ H fun x H1 => tb σ H1 fun y H2 => r [x, y] H2 Q) : tCB r (tCons ta (tCons tb tNil)) σ H Q := h
theorem g_int {i : Int} (q : Q (.int i) H) : rInt [.int i] H Q := ⟨i, rfl, q⟩
theorem g_intB {k : Bool} (q : Q (.int (if k then 1 else 0)) H) : rIntB [.bl k] H Q := ⟨k, rfl, q⟩
theorem g_abs {i : Int} (q : Q (.int (if i < 0 then -i else i)) H) : rAbs [.int i] H Q := ⟨i, rfl, q⟩
theorem g_max {i j : Int} (q : Q (.int (if j > i then j else i)) H) : rMax [.int i, .int j] H Q := ⟨i, j, rfl, q⟩
theorem g_min {i j : Int} (q : Q (.int (if j < i then j else i)) H) : rMin [.int i, .int j] H Q := ⟨i, j, rfl, q⟩
theorem g_lenL {p : Addr} {ys : List V} (h : SqL K H p ys) (q : Q (.int (ys.length : Int)) H) : rLen K [.ref p] H Q := ⟨p, ys, rfl, .inl h, q⟩
theorem g_lenT {p : Addr} {ys : List V} (h : SqT K H p ys) (q : Q (.int (ys.length : Int)) H) : rLen K [.ref p] H Q := ⟨p, ys, rfl, .inr h, q⟩
theorem g_listL {p : Addr} {ys : List V} (h : SqL K H p ys) (q : ∀ l, H l = none → Q (.ref l) (upd H l (.lst ys))) : rList K [.ref p] H Q := ⟨p, ys, rfl, .inl h, q⟩
theorem g_gcd {a b : Int} (q : Q (.int ((Nat.gcd a.natAbs b.natAbs : Nat) : Int)) H) : rGcd [.int a, .int b] H Q := ⟨a, b, rfl, q⟩
theorem g_isi {c : V} {ty w : Value} {b : Bool} (hc : ClsV c w) (ht : TyX K H x ty) (e : PySem.W.kitOne K ty w = some b) (q : Q (.bl b) H) : rIsi K [x, c] H Q := ⟨x, c, ty, w, b, rfl, hc, ht, e, q⟩
/-- isinstance(x, T), T a built-in type's name, x of the built-in type n -/
theorem g_isiT {n m : String} {b : Bool} (ht : TyX K H x (.type n)) (e : kitB n m = some b) (q : Q (.bl b) H) : rIsi K [x, .ty m] H Q := ⟨x, .ty m, .type n, .type m, b, rfl, .ty m, ht, kit_ty e, q⟩
/-! displays -/
theorem g_tup2 (h : ta σ H fun x H1 => tb σ H1 fun y H2 => ∀ p, H2 p = none → Q (.ref p) (upd H2 p (.tup [x, y]))) : tTup (tCons ta (tCons tb tNil)) σ H Q := by
  show ta σ H fun x H1 => tb σ H1 fun y H2 => 2 ≤ sizeLine ∧ ∀ p, H2 p = none → Q (.ref p) (upd H2 p (.tup [x, y]))
  simpa [show (2 : Nat) ≤ sizeLine by decide] using h
theorem g_tupN {ta : TA} (h : ta σ H fun xs H1 => xs.length ≤ sizeLine ∧ ∀ p, H1 p = none → Q (.ref p) (upd H1 p (.tup xs))) : tTup ta σ H Q := h
theorem g_lstN {ta : TA} (h : ta σ H fun xs H1 => xs.length ≤ sizeLine ∧ ∀ p, H1 p = none → Q (.ref p) (upd H1 p (.lst xs))) : tLst ta σ H Q := h
theorem g_nil {Q : List V → Hp → Prop} (q : Q [] H) : tNil σ H Q := q
theorem g_cons {tr : TA} {Q : List V → Hp → Prop} (h : ta σ H fun x H1 => tr σ H1 fun xs H2 => Q (x :: xs) H2) : tCons ta tr σ H Q := h
theorem g_new {n : Nat} {Q : Addr → Hp → Prop} {f : Addr → Hp} (hn : n ≤ 1000) (h : ∀ p, H p = none → Q p (f p)) : n ≤ sizeLine ∧ ∀ p, H p = none → Q p (f p) := ⟨Nat.le_trans hn (by decide), h⟩
/-! tests -/
variable {QB : Bool → Hp → Prop} {tt tu : TT}
theorem g_test (h : te σ H fun x H1 => ∃ k, x = .bl k ∧ QB k H1) : tTest te σ H QB := h
theorem g_B (h : te σ H fun x H1 => ∃ k, x = .bl k ∧ QB k H1) : tB te σ H QB := h
theorem g_bl {b : Bool} (q : QB b H) : ∃ k, V.bl b = .bl k ∧ QB k H := ⟨b, rfl, q⟩
theorem g_not (h : tt σ H fun b H1 => QB (!b) H1) : tNot tt σ H QB := h
theorem g_and (h : tt σ H fun b H1 => if b = true then tu σ H1 QB else QB false H1) : tAnd tt tu σ H QB := h
theorem g_or (h : tt σ H fun b H1 => if b = true then QB true H1 else tu σ H1 QB) : tOr tt tu σ H QB := h
theorem g_andV (h : ta σ H fun x H1 => ∃ c, x = .bl c ∧ if c = true then tb σ H1 Q else Q (.bl false) H1) : tAndV ta tb σ H Q := h
theorem g_orV (h : ta σ H fun x H1 => ∃ c, x = .bl c ∧ if c = true then Q (.bl true) H1 else tb σ H1 Q) : tOrV ta tb σ H Q := h
theorem g_notV (h : ta σ H fun x H1 => ∃ c, x = .bl c ∧ Q (.bl (!c)) H1) : tNotV ta σ H Q := h
theorem g_ex {b : Bool} {P : Bool → Prop} (q : P b) : ∃ c, V.bl b = .bl c ∧ P c := ⟨b, rfl, q⟩
theorem g_ite {p : Prop} [Decidable p] {A B : Prop} (h1 : p → A) (h2 : ¬ p → B) : if decide p = true then A else B := by
  by_cases h : p
  · rw [decide_eq_true h, if_pos rfl]; exact h1 h
  · rw [decide_eq_false h, if_neg Bool.false_ne_true]; exact h2 h
theorem g_iteN {p : Prop} [Decidable p] {A B : Prop} (h1 : ¬ p → A) (h2 : p → B) : if (!decide p) = true then A else B := by
  by_cases h : p
  · rw [decide_eq_true h, if_neg (by decide)]; exact h2 h
  · rw [decide_eq_false h, if_pos (by decide)]; exact h1 h
theorem g_iteT {A B : Prop} (h : A) : if true = true then A else B := by rw [if_pos rfl]; exact h
theorem g_iteF {A B : Prop} (h : B) : if false = true then A else B := by rw [if_neg Bool.false_ne_true]; exact h
theorem g_iteNT {A B : Prop} (h : B) : if (!true) = true then A else B := by rw [if_neg (by decide)]; exact h
theorem g_iteNF {A B : Prop} (h : A) : if (!false) = true then A else B := by rw [if_pos (by decide)]; exact h
theorem g_iteB {b : Bool} {A B : Prop} (h1 : b = true → A) (h2 : b = false → B) : if b = true then A else B := by
  cases b with
  | true => rw [if_pos rfl]; exact h1 rfl
  | false => rw [if_neg Bool.false_ne_true]; exact h2 rfl
/-! statements -/
variable {g : TG}
theorem g_seq (h : t { D with nx := u D } σ H) : tSeq t u D σ H := h
theorem g_next (q : D.nx σ H) : tNext D σ H := q
theorem g_ret (h : te σ H D.rt) : tRet te D σ H := h
theorem g_if {c : TT} (h : c σ H fun b H1 => if b = true then t D σ H1 else u D σ H1) : tIfS c t u D σ H := h
theorem g_set {i : Nat} (h : te σ H fun x H1 => D.nx (σ.set i (some x)) H1) : tAsg te (gName i) D σ H := h
theorem g_setS (h : te σ H fun x H1 => ta σ H1 fun o H2 => tb σ H2 fun i H3 => rSetL o i x H3 fun H4 => D.nx σ H4) : tAsg te (gSub ta tb rSetL) D σ H := h
theorem g_setL {p : Addr} {xs : List V} {k : Int} {j : Nat} {Q : Hp → Prop} (h : H p = some (.lst xs)) (e : ixN xs.length k = some j) (q : Q (upd H p (.lst (xs.set j v)))) : rSetL (.ref p) (.int k) v H Q := ⟨p, xs, k, j, rfl, rfl, h, e, q⟩
theorem g_drop (h : te σ H fun _ H1 => D.nx σ H1) : tDrop te D σ H := h
theorem g_aug {i : Nat} {r : TIp} (hx : σ[i]? = some (some x)) (h : te σ H fun y H1 => r x y H1 fun z H2 => D.nx (σ.set i (some z)) H2) : tAug i te r D σ H := ⟨x, hx, h⟩
theorem g_ipI {f : Int → Int → Int} {i j : Int} (q : Q (.int (f i j)) H) : ipI f (.int i) (.int j) H Q := ⟨i, j, rfl, rfl, q⟩
theorem g_call {sp : Sp} {E : XK} {ta : TA} (h : ta σ H fun vs H1 => sp vs H1 Q E) : tCall sp [] E ta σ H Q := by
  show ta σ H fun vs H1 => sp (vs ++ []) H1 Q E
  simpa using h
end
section
variable {X : Cx}
theorem pe_powc {a b r : Int} {j1 j2 : Nat} {p1 p2 pos : Pos} (h : 0 ≤ b ∧ b ≤ 1000000 ∧ a.natAbs < 2 ^ 64) (e : a ^ b.toNat = r) : PE X (.BinOp (.Constant (.int a) j1 p1) .Pow (.Constant (.int b) j2 p2) pos) (tC (.int r)) :=
  ⟨fun pins s σ H Q I q => (pe_op op_pow pe_int pe_int).run pins s σ H Q I ⟨a, b, rfl, rfl, h, by subst e; exact q⟩⟩
theorem call_int' : CallR X (.type "int") rInt := fun pins s σ H xs us Q I r h => call_int1 pins s σ H xs us Q I r (.inl h)
theorem call_intB : CallR X (.type "int") rIntB := fun pins s σ H xs us Q I r h => call_int1 pins s σ H xs us Q I r (.inr h)
theorem call_abs' : CallR X (.builtin "abs") rAbs := call_abs
theorem call_max' (hc : X.calm = true) : CallR X (.builtin "max") rMax := call_max2 hc
theorem call_min' (hc : X.calm = true) : CallR X (.builtin "min") rMin := call_min2 hc
theorem call_len' : CallR X (.builtin "len") (rLen X.K) := call_len_seq
theorem call_list' : CallR X (.type "list") (rList X.K) := call_list_of
end
/-! isinstance, by the built-in kinds -/
theorem kit_int_int : kitB "int" "int" = some true := by decide +kernel
theorem kit_int_bool : kitB "int" "bool" = some false := by decide +kernel
theorem kit_int_tuple : kitB "int" "tuple" = some false := by decide +kernel
theorem kit_int_str : kitB "int" "str" = some false := by decide +kernel
theorem kit_int_list : kitB "int" "list" = some false := by decide +kernel
theorem kit_int_dict : kitB "int" "dict" = some false := by decide +kernel
theorem kit_bool_int : kitB "bool" "int" = some true := by decide +kernel
theorem kit_bool_bool : kitB "bool" "bool" = some true := by decide +kernel
theorem kit_bool_tuple : kitB "bool" "tuple" = some false := by decide +kernel
theorem kit_bool_str : kitB "bool" "str" = some false := by decide +kernel
theorem kit_bool_list : kitB "bool" "list" = some false := by decide +kernel
theorem kit_bool_dict : kitB "bool" "dict" = some false := by decide +kernel
theorem kit_tuple_int : kitB "tuple" "int" = some false := by decide +kernel
theorem kit_tuple_bool : kitB "tuple" "bool" = some false := by decide +kernel
theorem kit_tuple_tuple : kitB "tuple" "tuple" = some true := by decide +kernel
theorem kit_tuple_str : kitB "tuple" "str" = some false := by decide +kernel
theorem kit_tuple_list : kitB "tuple" "list" = some false := by decide +kernel
theorem kit_tuple_dict : kitB "tuple" "dict" = some false := by decide +kernel
theorem kit_str_int : kitB "str" "int" = some false := by decide +kernel
theorem kit_str_bool : kitB "str" "bool" = some false := by decide +kernel
theorem kit_str_tuple : kitB "str" "tuple" = some false := by decide +kernel
theorem kit_str_str : kitB "str" "str" = some true := by decide +kernel
theorem kit_str_list : kitB "str" "list" = some false := by decide +kernel
theorem kit_str_dict : kitB "str" "dict" = some false := by decide +kernel
theorem kit_list_int : kitB "list" "int" = some false := by decide +kernel
theorem kit_list_bool : kitB "list" "bool" = some false := by decide +kernel
theorem kit_list_tuple : kitB "list" "tuple" = some false := by decide +kernel
theorem kit_list_str : kitB "list" "str" = some false := by decide +kernel
theorem kit_list_list : kitB "list" "list" = some true := by decide +kernel
theorem kit_list_dict : kitB "list" "dict" = some false := by decide +kernel
theorem kit_NoneType_int : kitB "NoneType" "int" = some false := by decide +kernel
theorem kit_NoneType_bool : kitB "NoneType" "bool" = some false := by decide +kernel
theorem kit_NoneType_tuple : kitB "NoneType" "tuple" = some false := by decide +kernel
theorem kit_NoneType_str : kitB "NoneType" "str" = some false := by decide +kernel
theorem kit_NoneType_list : kitB "NoneType" "list" = some false := by decide +kernel
theorem kit_NoneType_dict : kitB "NoneType" "dict" = some false := by decide +kernel
theorem kit_dict_int : kitB "dict" "int" = some false := by decide +kernel
theorem kit_dict_bool : kitB "dict" "bool" = some false := by decide +kernel
theorem kit_dict_tuple : kitB "dict" "tuple" = some false := by decide +kernel
theorem kit_dict_str : kitB "dict" "str" = some false := by decide +kernel
theorem kit_dict_list : kitB "dict" "list" = some false := by decide +kernel
theorem kit_dict_dict : kitB "dict" "dict" = some true := by decide +kernel

/-! defs with defaults -/
structure DefInD (K : PySem.W.Frag) (mg : Str → Option Value) (x : Str) (st : Stmt) (dvs : List V) : Prop where
  ex : ∃ (f : Addr) (fd : FuncData), FunD K x x (defArgs st) (defBody st) (defScope st) dvs [] f fd ∧ mg x = some (.ref f)
structure HasD (P : Program) (w : World) (K : PySem.W.Frag) (mg : Str → Option Value) (base : Heap) (k : Nat) (x : Str) (ps : List Str) (dvs : List V) (sp : Sp) : Prop where
  ex : ∃ (f : Addr) (fd : FuncData) (ds : List Value), FnOk P w K mg base CX0 k f fd ps sp ∧ mg x = some (.ref f) ∧ PySem.W.keepIn K (.ref f) = true ∧ Vals dvs ds ∧ Binds K fd ps ds
section
variable {P : Program} {w : World} {K : PySem.W.Frag} {mg : Str → Option Value} {base : Heap}
/-- the def's promise; its calls with n values written, the defaults behind the first j filling up -/
theorem hasD_of {x : Str} {st : Stmt} {N ps : List Str} {k : Nat} {sp : Sp} {dvs : List V} (D : DefInD K mg x st dvs) (S : FnScope N ps (defScope st)) (n j : Nat) (hd : dvs ≠ []) (hn : n + (dvs.length - j) = ps.length)
    (hb : ∀ (T : Addr) (kV doc pm : Value) (an : Option Addr) (cdv ct : Value) (us its : List Value), us.length = n → its.length = dvs.length →
      ∃ k, bindArgs (PySem.W.fnOf x x (defArgs st) (defBody st) (defScope st) (.ref T) kV doc pm an cdv ct) ⟨us, []⟩ = seqItems? (.ref T) >>= k ∧ k (some its.toArray) = pure (ps.zip (us ++ its.drop j)))
    (len : ∀ vs H Q E, sp vs H Q E → vs.length = ps.length)
    (hbody : ∀ (f : Addr) (cdv : Value) (A : Around) (outer : List Env) (s : Shared) (H : Hp) (vs : List V) (Q : VK) (E : XK), Room k (A.deeper (envOfC x (defScope st) s.heap.objs.size f cdv)) → sp vs H Q E →
      ∃ t, PSs (bx P w K mg base N x st f cdv A outer s H E) (defBody st) t ∧ t { nx := fun _ H' => Q .non H', rt := Q } (start N vs) H) : HasD P w K mg base (k + 1) x ps (dvs.drop j) sp := by
  obtain ⟨f, fd, F, m⟩ := D.ex
  obtain ⟨ds, r, b⟩ := F.binds1 n j hd hn hb
  refine ⟨f, fd, ds, F.ok S len fun cdv A outer s H vs Q E hr h => ?_, m, F.kp, r, b⟩
  obtain ⟨t, ht, q⟩ := hbody f cdv A outer s H vs Q E hr h
  exact ⟨t, ht.nox, q⟩
end
theorem pe_hD {X : Cx} {k : Nat} {x : Str} {ps : List Str} {dvs : List V} {sp : Sp} {e : Expr} {es : List Expr} {t : TA} {p pos : Pos} (h : HasD X.prog X.w X.K X.mg X.base k x ps dvs sp) (hr : Room k X.A) (ha : PA X (e :: es) t) (hg : Gl X x := by rfl)
    (hdb : (x == ("__debug__" : Str)) = false := by decide) (he : starEach (e :: es) X.env = (false, eval e X.env) :: starEach es X.env := by rfl) (hpl : (backTo pos (starEach es X.env)).any (·.1) = false := by rfl) :
    PE X (.Call (.Name x p) (e :: es) [] pos) (tCall sp dvs E0 t) := by
  obtain ⟨f, fd, ds, a, b, c, r, d⟩ := h.ex
  exact pe_call a hr hg b c d r pass0 ha hdb he hpl
theorem g_callD {sp : Sp} {dvs : List V} {E : XK} {ta : TA} {σ : L2.St} {H : Hp} {Q : VK} (h : ta σ H fun vs H1 => sp (vs ++ dvs) H1 Q E) : tCall sp dvs E ta σ H Q := h
end Fl

set_option Elab.async false
set_option linter.all false
set_option maxRecDepth 100000
set_option maxHeartbeats 4000000
set_option exponentiation.threshold 20000
/-! fractions: the mathematics, and what the helpers promise -/
namespace Fl
open PySem PySem.Spec PyProof.Rows L2

def gg (p q : Int) : Int := ((Nat.gcd p.natAbs q.natAbs : Nat) : Int)
def rp (p q : Int) : Int := if q < 0 then -(p / gg p q) else p / gg p q
def rq (p q : Int) : Int := if q < 0 then -(q / gg p q) else q / gg p q
theorem gg_pos {p q : Int} (h : q ≠ 0) : 0 < gg p q := by
  have : 0 < Nat.gcd p.natAbs q.natAbs := Nat.gcd_pos_of_pos_right _ (by omega)
  unfold gg; omega
theorem gg_dvd_l (p q : Int) : gg p q ∣ p := by
  unfold gg
  exact Int.ofNat_dvd_left.mpr (Nat.gcd_dvd_left _ _)
theorem gg_dvd_r (p q : Int) : gg p q ∣ q := by
  unfold gg
  exact Int.ofNat_dvd_left.mpr (Nat.gcd_dvd_right _ _)
theorem abs_div_le {p g : Int} (hg : 0 < g) : (p / g).natAbs ≤ p.natAbs := by
  have h := Int.natAbs_ediv_le_natAbs p g
  exact h
theorem fdiv_neg_exact {p g : Int} (hg : 0 < g) (hd : g ∣ p) : Int.fdiv p (-g) = -(p / g) := by
  obtain ⟨k, rfl⟩ := hd
  have h1 : g * k / g = k := Int.mul_ediv_cancel_left k (by omega)
  rw [h1]
  have h2 : g * k = (-g) * (-k) := by rw [Int.neg_mul_neg]
  rw [h2]
  exact Int.mul_fdiv_cancel_left (-k) (by omega)
theorem fdiv_pos_exact {p g : Int} (hg : 0 < g) : Int.fdiv p g = p / g := Int.fdiv_eq_ediv_of_nonneg p (by omega)
theorem rp_abs (p q : Int) (h : q ≠ 0) : (rp p q).natAbs ≤ p.natAbs := by
  have := abs_div_le (p := p) (gg_pos (p := p) h)
  unfold rp
  split <;> omega
theorem rq_abs (p q : Int) (h : q ≠ 0) : (rq p q).natAbs ≤ q.natAbs := by
  have := abs_div_le (p := q) (gg_pos (p := p) h)
  unfold rq
  split <;> omega
theorem rq_pos (p q : Int) (h : q ≠ 0) : 0 < rq p q := by
  have hg := gg_pos (p := p) h
  obtain ⟨k, hk⟩ := gg_dvd_r p q
  have e : q / gg p q = k := Int.ediv_eq_of_eq_mul_right (by omega) hk
  unfold rq
  rw [e]
  by_cases hq : q < 0
  · rw [if_pos hq]
    have : k < 0 := by
      rcases (by omega : k < 0 ∨ 0 ≤ k) with h1 | h1
      · exact h1
      · have : 0 ≤ gg p q * k := Int.mul_nonneg (by omega) h1
        omega
    omega
  · rw [if_neg hq]
    rcases (by omega : 0 < k ∨ k ≤ 0) with h1 | h1
    · exact h1
    · have h2 : gg p q * k ≤ 0 := Int.mul_nonpos_of_nonneg_of_nonpos (by omega) h1
      omega
theorem rp_mul (p q : Int) (h : q ≠ 0) : rp p q * q = p * rq p q := by
  have hg := gg_pos (p := p) h
  obtain ⟨k, hk⟩ := gg_dvd_r p q
  obtain ⟨l, hl⟩ := gg_dvd_l p q
  have e : q / gg p q = k := Int.ediv_eq_of_eq_mul_right (by omega) hk
  have e2 : p / gg p q = l := Int.ediv_eq_of_eq_mul_right (by omega) hl
  have key : l * q = p * k := by
    generalize gg p q = g at hk hl
    subst hk hl
    rw [Int.mul_comm g l, Int.mul_assoc]
  unfold rp rq
  rw [e, e2]
  split
  · rw [Int.neg_mul, key, Int.mul_neg]
  · exact key

/-! the loop of Euclid -/
theorem euclid_step {m n : Nat} (hn : 0 < n) : Nat.gcd n (m % n) = Nat.gcd m n := by
  rw [Nat.gcd_comm n (m % n), Nat.gcd_comm m n]
  exact (Nat.gcd_rec n m).symm
structure Eu (g B i m n : Nat) : Prop where
  gcd : Nat.gcd m n = g
  lt : (i = 0 ∧ m * n ≤ B) ∨ n < m
  le : m * n * 2 ^ i ≤ 2 * B
theorem Eu.start {m n B : Nat} (h : m * n ≤ B) : Eu (Nat.gcd m n) B 0 m n := ⟨rfl, .inl ⟨rfl, h⟩, by simp; omega⟩
theorem Eu.step {g B i m n : Nat} (h : Eu g B i m n) (hn : 0 < n) : Eu g B (i + 1) n (m % n) := by
  refine ⟨(euclid_step hn).trans h.gcd, .inr (Nat.mod_lt _ hn), ?_⟩
  have hle := h.le
  rcases h.lt with e | e
  · obtain ⟨e, e'⟩ := e
    subst e
    have h1 : m % n ≤ m := Nat.mod_le _ _
    have h2 : n * (m % n) ≤ n * m := Nat.mul_le_mul_left _ h1
    have h3 : n * m = m * n := Nat.mul_comm _ _
    rw [Nat.zero_add, Nat.pow_one]
    omega
  · have h1 : 2 * (m % n) ≤ m := by
      have q1 := Nat.div_add_mod m n
      have q2 : m % n < n := Nat.mod_lt _ hn
      have q3 : 1 ≤ m / n := (Nat.le_div_iff_mul_le hn).mpr (by omega)
      have q4 : n * 1 ≤ n * (m / n) := Nat.mul_le_mul_left _ q3
      omega
    have h2 : n * (m % n) * 2 ^ (i + 1) = n * (2 * (m % n)) * 2 ^ i := by
      rw [Nat.pow_succ]
      simp only [Nat.mul_assoc, Nat.mul_comm, Nat.mul_left_comm]
    have h3 : n * (2 * (m % n)) ≤ n * m := Nat.mul_le_mul_left _ h1
    have h4 : n * (2 * (m % n)) * 2 ^ i ≤ n * m * 2 ^ i := Nat.mul_le_mul_right _ h3
    rw [h2, Nat.mul_comm n m] at *
    omega
theorem Eu.fin {g B m n : Nat} (h : Eu g B 5000 m n) (hB : B < 2 ^ 4990) : m = g := by
  have h0 : n = 0 := by
    rcases Nat.eq_zero_or_pos n with e | e
    · exact e
    · exfalso
      have hm : n < m := by
        rcases h.lt with q | q
        · cases q.1
        · exact q
      have h1 : 1 * 1 ≤ m * n := Nat.mul_le_mul (by omega) e
      have h2 : 1 * 2 ^ 5000 ≤ m * n * 2 ^ 5000 := Nat.mul_le_mul_right _ (by omega)
      have h3 := h.le
      have h4 : 2 * 2 ^ 4990 ≤ 1 * 2 ^ 5000 := by decide +kernel
      omega
  have := h.gcd
  rw [h0, Nat.gcd_zero_right] at this
  exact this
theorem Eu.done {g B i m : Nat} (h : Eu g B i m 0) : m = g := by
  have := h.gcd
  rw [Nat.gcd_zero_right] at this
  exact this

/-! sizes -/
theorem mulW {i j : Int} (hi : i.natAbs < 2 ^ 4000) (hj : j.natAbs < 2 ^ 4000) : CMulW i j := wide_mul hi hj (by decide) (by decide) (by decide)
theorem divW {i j : Int} (h : 0 < j) (hj : j.natAbs < 2 ^ 4000) : CDivW i j := wide_div h hj (by decide) (by decide)
/-- // by a divisor of either sign -/
def CDivS (_ j : Int) : Prop := j ≠ 0 ∧ j.natAbs.log2 < 9000
theorem op_fdivS {X : Cx} : OpR X (binaryOp .FloorDiv) (rI CDivS fun i j => .int (i.fdiv j)) := opI fun i j _ _ _ _ _ hc q =>
  floordiv_int hc.1 q (.inl (PyProof.noPylong_of_log2 hc.2))
theorem divS {i j : Int} (h : j ≠ 0) (hj : j.natAbs < 2 ^ 4000) : CDivS i j := ⟨h, Nat.lt_of_lt_of_le (PySem.Flt.log2_lt_of (by decide) hj) (by decide)⟩

/-! loops -/
section
variable {σ : L2.St} {H : Hp} {te : TE} {D : Ends} {g : TG} {tb : TS}
theorem g_forR (n : Int) (Pv : Nat → L2.St → Hp → Prop) (h : te σ H fun x H1 => x = .int n ∧ -(2 ^ 62) ≤ n ∧ n < 2 ^ 62 ∧ Pv 0 σ H1)
    (hs : ∀ (i : Nat) σ' H', (i : Int) < n → Pv i σ' H' → g (.int (i : Int)) σ' H' fun σ2 H2 => tb { D with nx := Pv (i + 1), ct := Pv (i + 1), bk := D.nx } σ2 H2)
    (hd : ∀ σ' H', Pv n.toNat σ' H' → D.nx σ' H') (mono : ∀ Q Q' : VK, (∀ x H1, Q x H1 → Q' x H1) → te σ H Q → te σ H Q') : tFor (iRng1 (tCons te tNil)) g tb D σ H := by
  refine mono _ _ (fun x H1 q => ?_) h
  obtain ⟨rfl, h1, h2, p⟩ := q
  show ∃ j : Int, [V.int n] = [V.int j] ∧ _
  refine ⟨n, rfl, h1, h2, for_range Pv p (fun i σ' H' hi p' => ?_) hd⟩
  have e0 : (0 : Int) + (i : Int) = (i : Int) := Int.zero_add _
  rw [e0]
  exact hs i σ' H' (by omega) p'
end

/-! promises -/
/-- the frame: what stood stands -/
def spGcd : Sp := fun vs H Q _ => ∃ (m n : Nat), vs = [.int (m : Int), .int (n : Int)] ∧ m * n < 2 ^ 4990 ∧ Q (.int ((Nat.gcd m n : Nat) : Int)) H
def spRat : Sp := fun vs H Q _ => ∃ (p q : Int), vs = [.int p, .int q] ∧ q ≠ 0 ∧ p.natAbs < 2 ^ 2000 ∧ q.natAbs < 2 ^ 2000 ∧ ∀ t, H t = none → Q (.ref t) (upd H t (.tup [.int (rp p q), .int (rq p q)]))
/-- a fraction stands at a -/
def FrAt (K : PySem.W.Frag) (H : Hp) (a : Addr) (p q : Int) : Prop := SqT K H a [.int p, .int q]
theorem rat_app {p q : Int} {H : Hp} {Q : VK} {E : XK} (h : q ≠ 0) (h1 : p.natAbs < 2 ^ 2000) (h2 : q.natAbs < 2 ^ 2000) (k : ∀ t, H t = none → Q (.ref t) (upd H t (.tup [.int (rp p q), .int (rq p q)]))) : spRat [.int p, .int q] H Q E :=
  ⟨p, q, rfl, h, h1, h2, k⟩
theorem draw_app {K : PySem.W.Frag} {d : Addr} {m : Int} {H : Hp} {Q : VK} {E : XK} (h : DeckAt K H d) (h1 : 0 < m) (h2 : m < 10 ^ 62) (k : ∀ v H', 0 ≤ v → v < m → DeckAt K H' d → Ex1 d H H' → Q (.int v) H') : spDraw K [.ref d, .int m] H Q E :=
  ⟨d, m, rfl, h, h1, h2, k⟩
theorem deck_app {K : PySem.W.Frag} {a : Addr} {ns : List Int} {H : Hp} {Q : VK} {E : XK} (h : SqL K H a (ns.map V.int)) (k : ∀ d H', H d = none → DeckAt K H' d → Same H H' → Q (.ref d) H') : spDeck K [.ref a] H Q E :=
  ⟨a, ns, rfl, h, k⟩
theorem DeckAt.ne {K : PySem.W.Frag} {H : Hp} {d p : Addr} (h : DeckAt K H d) (hp : H p = none) : p ≠ d := by
  obtain ⟨s, ns, a, b, c, h1, _⟩ := h
  exact fun e => by rw [e, h1] at hp; cases hp
theorem Same.t {K : PySem.W.Frag} {H H' : Hp} {a : Addr} {xs : List V} (e : Same H H') (h : SqT K H a xs) : SqT K H' a xs := by
  rcases h with (h | ⟨o, h⟩) | h
  · exact .inl (.inl (e _ _ h))
  · exact .inl (.inr ⟨o, e _ _ h⟩)
  · exact .inr h

theorem at_int {ns : List Int} {i : Int} (h0 : 0 ≤ i) (h : i < ns.length) : ∃ n, atI (ns.map V.int) i = some (.int n) := by
  obtain ⟨k, rfl⟩ : ∃ k : Nat, i = (k : Int) := ⟨i.toNat, by omega⟩
  have hk : k < ns.length := by omega
  refine ⟨ns[k], atI_nat ?_⟩
  rw [List.getElem?_map, List.getElem?_eq_getElem hk]
  rfl

theorem natAbs_ediv_of_dvd {p g : Int} (hg : 0 < g) (hd : g ∣ p) : (p / g).natAbs = p.natAbs / g.natAbs := by
  obtain ⟨k, rfl⟩ := hd
  rw [Int.mul_ediv_cancel_left k (by omega), Int.natAbs_mul, Nat.mul_div_cancel_left _ (by omega)]
theorem rat_cop (p q : Int) (h : q ≠ 0) : Nat.gcd (rp p q).natAbs (rq p q).natAbs = 1 := by
  have hg := gg_pos (p := p) h
  have e : (gg p q).natAbs = Nat.gcd p.natAbs q.natAbs := rfl
  have h0 : 0 < Nat.gcd p.natAbs q.natAbs := by omega
  have key : Nat.gcd (p / gg p q).natAbs (q / gg p q).natAbs = 1 := by
    rw [natAbs_ediv_of_dvd hg (gg_dvd_l p q), natAbs_ediv_of_dvd hg (gg_dvd_r p q), e]
    exact Nat.gcd_div_gcd_div_gcd_of_pos_right (by omega)
  unfold rp rq
  split
  · rw [Int.natAbs_neg, Int.natAbs_neg]
    exact key
  · exact key
/-- a drawn fraction -/
structure Fra (n e : Int) : Prop where
  pos : 0 < e
  bn : n.natAbs ≤ 10 ^ 12
  be : e.natAbs ≤ 10 ^ 12
  cop : Nat.gcd n.natAbs e.natAbs = 1
theorem big12 {x : Int} (h : x.natAbs ≤ 10 ^ 12) : x.natAbs < 2 ^ 2000 := by
  have : (10 : Nat) ^ 12 < 2 ^ 2000 := by decide +kernel
  omega
theorem big40 {x : Int} (h : x.natAbs < 2 ^ 2000) : x.natAbs < 2 ^ 4000 := by
  have : (2 : Nat) ^ 2000 < 2 ^ 4000 := by decide +kernel
  omega
theorem Fra.int {n : Int} (h : n.natAbs ≤ 10 ^ 12) : Fra n 1 := ⟨by decide, h, by decide, Nat.gcd_one_right _⟩
theorem Fra.rat {p q : Int} (h : q ≠ 0) (h1 : p.natAbs ≤ 10 ^ 12) (h2 : q.natAbs ≤ 10 ^ 12) : Fra (rp p q) (rq p q) :=
  ⟨rq_pos p q h, Nat.le_trans (rp_abs p q h) h1, Nat.le_trans (rq_abs p q h) h2, rat_cop p q h⟩
def spBig (K : PySem.W.Frag) : Sp := fun vs H Q _ => ∃ (d : Addr), vs = [.ref d] ∧ DeckAt K H d ∧ ∀ t H' n e, DeckAt K H' d → Ex1 d H H' → t ≠ d → SqT K H' t [.int n, .int e] → Fra n e → Q (.ref t) H'
theorem big_app {K : PySem.W.Frag} {d : Addr} {H : Hp} {Q : VK} {E : XK} (h : DeckAt K H d) (k : ∀ t H' n e, DeckAt K H' d → Ex1 d H H' → t ≠ d → SqT K H' t [.int n, .int e] → Fra n e → Q (.ref t) H') : spBig K [.ref d] H Q E := ⟨d, rfl, h, k⟩
def sg (x : Int) : Int := if 0 < x then 1 else if x < 0 then -1 else 0
theorem sg_neg (x : Int) : sg (-x) = -sg x := by
  unfold sg
  rcases (by omega : x < 0 ∨ x = 0 ∨ 0 < x) with h | h | h
  · rw [if_pos (by omega), if_neg (by omega), if_pos h]; rfl
  · subst h; rfl
  · rw [if_neg (by omega), if_pos (by omega), if_pos h]

def spCmp (K : PySem.W.Frag) : Sp := fun vs H Q _ => ∃ (a b : Addr) (n e m k : Int), vs = [.ref a, .ref b] ∧ SqT K H a [.int n, .int e] ∧ SqT K H b [.int m, .int k] ∧
  n.natAbs < 2 ^ 4000 ∧ e.natAbs < 2 ^ 4000 ∧ m.natAbs < 2 ^ 4000 ∧ k.natAbs < 2 ^ 4000 ∧ Q (.int (sg (n * k - m * e))) H
theorem cmp_app {K : PySem.W.Frag} {a b : Addr} {n e m k : Int} {H : Hp} {Q : VK} {E : XK} (h1 : SqT K H a [.int n, .int e]) (h2 : SqT K H b [.int m, .int k])
  (f1 : Fra n e) (f2 : Fra m k) (q : Q (.int (sg (n * k - m * e))) H) : spCmp K [.ref a, .ref b] H Q E :=
  ⟨a, b, n, e, m, k, rfl, h1, h2, big40 (big12 f1.bn), big40 (big12 f1.be), big40 (big12 f2.bn), big40 (big12 f2.be), q⟩
def spDown (K : PySem.W.Frag) : Sp := fun vs H Q _ => ∃ (a : Addr) (n e : Int), vs = [.ref a] ∧ SqT K H a [.int n, .int e] ∧ 0 < e ∧ e.natAbs < 2 ^ 4000 ∧ Q (.int (n / e)) H
def spNear (K : PySem.W.Frag) : Sp := fun vs H Q _ => ∃ (a : Addr) (n e : Int), vs = [.ref a] ∧ SqT K H a [.int n, .int e] ∧ 0 < e ∧ (2 * e).natAbs < 2 ^ 4000 ∧ Q (.int ((2 * n + e) / (2 * e))) H
theorem down_app {K : PySem.W.Frag} {a : Addr} {n e : Int} {H : Hp} {Q : VK} {E : XK} (h1 : SqT K H a [.int n, .int e]) (f1 : Fra n e) (q : Q (.int (n / e)) H) : spDown K [.ref a] H Q E := ⟨a, n, e, rfl, h1, f1.pos, big40 (big12 f1.be), q⟩
theorem near_app {K : PySem.W.Frag} {a : Addr} {n e : Int} {H : Hp} {Q : VK} {E : XK} (h1 : SqT K H a [.int n, .int e]) (f1 : Fra n e) (q : Q (.int ((2 * n + e) / (2 * e))) H) : spNear K [.ref a] H Q E :=
  ⟨a, n, e, rfl, h1, f1.pos, by
    have h2 := f1.be
    have h3 : (2 : Nat) * 10 ^ 12 < 2 ^ 4000 := by decide +kernel
    omega, q⟩
def spIsInt : Sp := fun vs H Q _ => ∃ (i : Int), vs = [.int i] ∧ Q (.bl true) H
theorem isint_app {i : Int} {H : Hp} {Q : VK} {E : XK} (q : Q (.bl true) H) : spIsInt [.int i] H Q E := ⟨i, rfl, q⟩
def spSameI : Sp := fun vs H Q _ => ∃ (i j : Int), vs = [.int i, .int j] ∧ Q (.bl (decide (i = j))) H
theorem sameI_app {i j : Int} {H : Hp} {Q : VK} {E : XK} (q : Q (.bl (decide (i = j))) H) : spSameI [.int i, .int j] H Q E := ⟨i, j, rfl, q⟩

theorem fra_app {p q : Int} {H : Hp} {Q : VK} {E : XK} (h : q ≠ 0) (h1 : p.natAbs ≤ 10 ^ 12) (h2 : q.natAbs ≤ 10 ^ 12) (k : ∀ t n e, H t = none → Fra n e → Q (.ref t) (upd H t (.tup [.int n, .int e]))) : spRat [.int p, .int q] H Q E :=
  rat_app h (big12 h1) (big12 h2) fun t ht => k t _ _ ht (Fra.rat h h1 h2)
theorem down2_app {K : PySem.W.Frag} {a : Addr} {n e : Int} {H : Hp} {Q : VK} {E : XK} (h1 : SqT K H a [.int n, .int e]) (f1 : Fra n e)
    (q : ∀ v, v.natAbs < 2 ^ 4000 → (v + 1).natAbs < 2 ^ 4000 → e.natAbs < 2 ^ 4000 → v * e ≤ n → n < (v + 1) * e → Q (.int v) H) : spDown K [.ref a] H Q E := by
  have hp := f1.pos
  have b1 := f1.bn
  have b2 := f1.be
  have big : (10 : Nat) ^ 12 + 1 < 2 ^ 4000 := by decide +kernel
  have b3 : (n / e).natAbs ≤ n.natAbs := Int.natAbs_ediv_le_natAbs n e
  refine down_app h1 f1 (q _ (by omega) (by omega) (by omega) ?_ ?_)
  · exact Int.ediv_mul_le n (by omega)
  · exact Int.lt_ediv_add_one_mul_self n hp
theorem near2_app {K : PySem.W.Frag} {a : Addr} {n e : Int} {H : Hp} {Q : VK} {E : XK} (h1 : SqT K H a [.int n, .int e]) (f1 : Fra n e)
    (q : ∀ v, (2 * v).natAbs < 2 ^ 4000 → e.natAbs < 2 ^ 4000 → 2 * v * e ≤ 2 * n + e → 2 * n - e < 2 * v * e → Q (.int v) H) : spNear K [.ref a] H Q E := by
  have hp := f1.pos
  have b1 := f1.bn
  have b2 := f1.be
  have big : (10 : Nat) ^ 14 < 2 ^ 4000 := by decide +kernel
  have b3 : ((2 * n + e) / (2 * e)).natAbs ≤ (2 * n + e).natAbs := Int.natAbs_ediv_le_natAbs _ _
  have c1 := Int.ediv_mul_le (2 * n + e) (b := 2 * e) (by omega)
  have c2 := Int.lt_ediv_add_one_mul_self (2 * n + e) (b := 2 * e) (by omega)
  generalize hv : (2 * n + e) / (2 * e) = v at *
  have e1 : v * (2 * e) = 2 * v * e := by rw [Int.mul_left_comm, Int.mul_assoc]
  have e2 : (v + 1) * (2 * e) = 2 * v * e + 2 * e := by rw [Int.add_mul, e1, Int.one_mul]
  refine near_app h1 f1 ?_
  rw [hv]
  exact q v (by omega) (by omega) (by omega) (by omega)

theorem sg_opp (x y : Int) : sg (x - y) = -sg (y - x) := by
  rw [← sg_neg]
  congr 1
  omega
theorem of_dec {p : Prop} [Decidable p] {Q : VK} {H : Hp} (h : p) (q : Q (.bl true) H) : Q (.bl (decide p)) H := by
  rw [decide_eq_true h]
  exact q
theorem DeckAt.ne' {K : PySem.W.Frag} {H : Hp} {d p : Addr} (hp : H p = none) (h : DeckAt K H d) : p ≠ d := h.ne hp
end Fl

set_option Elab.async false
set_option linter.all false
set_option maxRecDepth 100000
set_option maxHeartbeats 4000000
set_option exponentiation.threshold 20000
/-! fractions as numbers -/
namespace Fl
open PySem PySem.Spec PyProof.Rows L2

theorem gg_comm (p q : Int) : gg p q = ((Int.gcd q p : Nat) : Int) := by
  unfold gg Int.gcd
  rw [Nat.gcd_comm]
theorem rp_num {p q : Int} (h : q ≠ 0) : rp p q = (Rat.divInt p q).num := by
  rw [Rat.num_divInt, ← gg_comm]
  have hg := gg_pos (p := p) h
  obtain ⟨k, hk⟩ := gg_dvd_l p q
  have e : p / gg p q = k := Int.ediv_eq_of_eq_mul_right (by omega) hk
  unfold rp
  rw [e]
  split
  · rename_i hq
    rw [Int.sign_eq_neg_one_of_neg hq]
    refine (Int.ediv_eq_of_eq_mul_right (by omega) ?_).symm
    rw [Int.mul_neg, ← hk, Int.neg_mul, Int.one_mul]
  · rw [Int.sign_eq_one_of_pos (by omega), Int.one_mul, e]
theorem rq_den {p q : Int} (h : q ≠ 0) : rq p q = ((Rat.divInt p q).den : Int) := by
  rw [Rat.den_divInt, if_neg h]
  have hg := gg_pos (p := p) h
  obtain ⟨k, hk⟩ := gg_dvd_r p q
  have e : q / gg p q = k := Int.ediv_eq_of_eq_mul_right (by omega) hk
  have e2 : ((q.natAbs / Int.gcd q p : Nat) : Int) = (q.natAbs : Int) / gg p q := by
    rw [gg_comm]
    exact Int.natCast_ediv _ _
  rw [e2]
  unfold rq
  rw [e]
  split
  · rename_i hq
    refine (Int.ediv_eq_of_eq_mul_right (by omega) ?_).symm
    rw [Int.mul_neg, ← hk]
    omega
  · refine (Int.ediv_eq_of_eq_mul_right (by omega) ?_).symm
    rw [← hk]
    omega

/-- the fraction x stands at a -/
def RV (K : PySem.W.Frag) (H : Hp) (a : Addr) (x : Rat) : Prop := SqT K H a [.int x.num, .int (x.den : Int)]
theorem RV.ex1 {K : PySem.W.Frag} {d : Addr} {H H' : Hp} {a : Addr} {x : Rat} (e : Ex1 d H H') (n : a ≠ d) (h : RV K H a x) : RV K H' a x := Ex1.t e n h
theorem RV.same {K : PySem.W.Frag} {H H' : Hp} {a : Addr} {x : Rat} (e : Same H H') (h : RV K H a x) : RV K H' a x := Same.t e h
theorem RV.sq {K : PySem.W.Frag} {H : Hp} {a : Addr} {x : Rat} (h : RV K H a x) : SqT K H a [.int x.num, .int (x.den : Int)] := h
/-- of moderate size -/
structure Md (x : Rat) : Prop where
  n : x.num.natAbs < 2 ^ 900
  d : x.den < 2 ^ 900
structure Szq (k : Nat) (x : Rat) : Prop where
  n : x.num.natAbs < 2 ^ k
  d : x.den < 2 ^ k
theorem Szq.md {k : Nat} {x : Rat} (h : Szq k x) (hk : k ≤ 900) : Md x :=
  ⟨Nat.lt_of_lt_of_le h.n (Nat.pow_le_pow_right (by decide) hk), Nat.lt_of_lt_of_le h.d (Nat.pow_le_pow_right (by decide) hk)⟩
theorem szq_div {p q : Int} {k : Nat} (h : q ≠ 0) (h1 : p.natAbs < 2 ^ k) (h2 : q.natAbs < 2 ^ k) : Szq k (Rat.divInt p q) := by
  have e1 := rp_abs p q h
  have e2 := rq_abs p q h
  rw [rp_num h] at e1
  rw [rq_den h] at e2
  exact ⟨by omega, by omega⟩
theorem pw_add {a b j k : Nat} (ha : a < 2 ^ j) (hb : b < 2 ^ k) : a * b < 2 ^ (j + k) := by
  rw [Nat.pow_add]
  exact Nat.mul_lt_mul'' ha hb
theorem add_div (x y : Rat) : Rat.divInt (x.num * y.den + y.num * x.den) ((x.den : Int) * y.den) = x + y := by
  rw [Rat.add_def', ← Rat.divInt_ofNat, Int.natCast_mul]
theorem sub_div (x y : Rat) : Rat.divInt (x.num * y.den - y.num * x.den) ((x.den : Int) * y.den) = x - y := by
  rw [Rat.sub_def', ← Rat.divInt_ofNat, Int.natCast_mul]
theorem mul_div' (x y : Rat) : Rat.divInt (x.num * y.num) ((x.den : Int) * y.den) = x * y := by
  rw [Rat.mul_def', ← Rat.divInt_ofNat, Int.natCast_mul]
theorem div_div' (x y : Rat) : Rat.divInt (x.num * y.den) ((x.den : Int) * y.num) = x / y := by
  rw [Rat.div_def, Rat.inv_def]
  conv => rhs; rw [← Rat.num_divInt_den x]
  rw [Rat.divInt_mul_divInt]
theorem den0 (x : Rat) : (x.den : Int) ≠ 0 := by
  have := x.den_nz
  omega
theorem sz_cross {x y : Rat} {j k : Nat} (hx : Szq j x) (hy : Szq k y) : (x.num * y.den).natAbs < 2 ^ (j + k) ∧ (y.num * x.den).natAbs < 2 ^ (j + k) ∧ ((x.den : Int) * y.den).natAbs < 2 ^ (j + k) ∧ (x.num * y.num).natAbs < 2 ^ (j + k) ∧ ((x.den : Int) * y.num).natAbs < 2 ^ (j + k) := by
  simp only [Int.natAbs_mul, Int.natAbs_natCast]
  refine ⟨pw_add hx.n hy.d, ?_, pw_add hx.d hy.d, pw_add hx.n hy.n, pw_add hx.d hy.n⟩
  rw [Nat.mul_comm]
  exact pw_add hx.d hy.n
theorem Szq.add {x y : Rat} {j k : Nat} (hx : Szq j x) (hy : Szq k y) : Szq (j + k + 1) (x + y) := by
  obtain ⟨h1, h2, h3, h4, h5⟩ := sz_cross hx hy
  rw [← add_div]
  have e : 2 ^ (j + k + 1) = 2 * 2 ^ (j + k) := by rw [Nat.pow_succ, Nat.mul_comm]
  exact szq_div (Int.mul_ne_zero (den0 x) (den0 y)) (by omega) (by omega)
theorem Szq.sub {x y : Rat} {j k : Nat} (hx : Szq j x) (hy : Szq k y) : Szq (j + k + 1) (x - y) := by
  obtain ⟨h1, h2, h3, h4, h5⟩ := sz_cross hx hy
  rw [← sub_div]
  have e : 2 ^ (j + k + 1) = 2 * 2 ^ (j + k) := by rw [Nat.pow_succ, Nat.mul_comm]
  exact szq_div (Int.mul_ne_zero (den0 x) (den0 y)) (by omega) (by omega)
theorem Szq.mul {x y : Rat} {j k : Nat} (hx : Szq j x) (hy : Szq k y) : Szq (j + k) (x * y) := by
  obtain ⟨h1, h2, h3, h4, h5⟩ := sz_cross hx hy
  rw [← mul_div']
  exact szq_div (Int.mul_ne_zero (den0 x) (den0 y)) (by omega) (by omega)
theorem num0 {x : Rat} (h : x ≠ 0) : x.num ≠ 0 := fun e => h (Rat.num_eq_zero.mp e)
theorem Szq.div {x y : Rat} {j k : Nat} (hx : Szq j x) (hy : Szq k y) (h : y ≠ 0) : Szq (j + k) (x / y) := by
  obtain ⟨h1, h2, h3, h4, h5⟩ := sz_cross hx hy
  rw [← div_div']
  exact szq_div (Int.mul_ne_zero (den0 x) (num0 h)) (by omega) (by omega)
theorem Fra.rat_of {n e : Int} (h : Fra n e) : ∃ x : Rat, x.num = n ∧ (x.den : Int) = e ∧ Szq 41 x := by
  have hp := h.pos
  obtain ⟨k, rfl⟩ : ∃ k : Nat, e = (k : Int) := ⟨e.toNat, by omega⟩
  refine ⟨⟨n, k, by omega, h.cop⟩, rfl, rfl, ?_, ?_⟩
  · have := h.bn
    show n.natAbs < _
    have e : (10 : Nat) ^ 12 < 2 ^ 41 := by decide
    omega
  · have := h.be
    show k < _
    have e : (10 : Nat) ^ 12 < 2 ^ 41 := by decide
    omega

/-! promises -/
def spRatP : Sp := spRat
def spBin (K : PySem.W.Frag) (f : Rat → Rat → Rat) (pre : Rat → Rat → Prop) : Sp := fun vs H Q _ => ∃ (a b : Addr) (x y : Rat), vs = [.ref a, .ref b] ∧ RV K H a x ∧ RV K H b y ∧ Md x ∧ Md y ∧ pre x y ∧
  ∀ t H', H t = none → Same H H' → RV K H' t (f x y) → Q (.ref t) H'
theorem bin_app {K : PySem.W.Frag} {f : Rat → Rat → Rat} {pre : Rat → Rat → Prop} {a b : Addr} {x y : Rat} {H : Hp} {Q : VK} {E : XK} (h1 : RV K H a x) (h2 : RV K H b y) (m1 : Md x) (m2 : Md y) (hp : pre x y)
  (k : ∀ t H', H t = none → Same H H' → RV K H' t (f x y) → Q (.ref t) H') : spBin K f pre [.ref a, .ref b] H Q E := ⟨a, b, x, y, rfl, h1, h2, m1, m2, hp, k⟩
def cq (x y : Rat) : Int := if x < y then -1 else if y < x then 1 else 0
def spCq (K : PySem.W.Frag) : Sp := fun vs H Q _ => ∃ (a b : Addr) (x y : Rat), vs = [.ref a, .ref b] ∧ RV K H a x ∧ RV K H b y ∧ Md x ∧ Md y ∧ Q (.int (cq x y)) H
theorem cq_app {K : PySem.W.Frag} {a b : Addr} {x y : Rat} {H : Hp} {Q : VK} {E : XK} (h1 : RV K H a x) (h2 : RV K H b y) (m1 : Md x) (m2 : Md y) (q : Q (.int (cq x y)) H) : spCq K [.ref a, .ref b] H Q E := ⟨a, b, x, y, rfl, h1, h2, m1, m2, q⟩
theorem cq_add (x y z : Rat) : cq (x + z) (y + z) = cq x y := by
  unfold cq
  simp only [Rat.add_lt_add_right]
def nr (x : Rat) : Int := (2 * x.num + x.den) / (2 * x.den)
def spNr (K : PySem.W.Frag) : Sp := fun vs H Q _ => ∃ (a : Addr) (x : Rat), vs = [.ref a] ∧ RV K H a x ∧ Md x ∧ Q (.int (nr x)) H
theorem nr_app {K : PySem.W.Frag} {a : Addr} {x : Rat} {H : Hp} {Q : VK} {E : XK} (h1 : RV K H a x) (m1 : Md x) (q : Q (.int (nr x)) H) : spNr K [.ref a] H Q E := ⟨a, x, rfl, h1, m1, q⟩
def spRatq (K : PySem.W.Frag) : Sp := fun vs H Q _ => ∃ (p q : Int), vs = [.int p, .int q] ∧ q ≠ 0 ∧ p.natAbs < 2 ^ 1900 ∧ q.natAbs < 2 ^ 1900 ∧ ∀ t H', H t = none → Same H H' → RV K H' t (Rat.divInt p q) → Q (.ref t) H'
theorem ratq_app {K : PySem.W.Frag} {p q : Int} {H : Hp} {Q : VK} {E : XK} (h : q ≠ 0) (h1 : p.natAbs < 2 ^ 1900) (h2 : q.natAbs < 2 ^ 1900) (k : ∀ t H', H t = none → Same H H' → RV K H' t (Rat.divInt p q) → Q (.ref t) H') : spRatq K [.int p, .int q] H Q E := ⟨p, q, rfl, h, h1, h2, k⟩
theorem nr_add (x : Rat) (w : Int) : nr (x + Rat.divInt w 1) = nr x + w := by
  generalize hy : x + Rat.divInt w 1 = y
  have key : y.num * x.den = (x.num + w * x.den) * y.den := by
    have e : Rat.divInt (x.num + w * x.den) x.den = y := by
      rw [← hy]
      conv => rhs; lhs; rw [← Rat.num_divInt_den x]
      rw [Rat.divInt_add_divInt _ _ (den0 x) (by decide), Int.mul_one, Int.mul_one]
    rw [← Rat.num_divInt_den y] at e
    exact ((Rat.divInt_eq_divInt_iff (den0 x) (den0 y)).mp e).symm
  unfold nr
  have hx := x.den_pos
  have hyp := y.den_pos
  generalize x.num = n at *
  generalize (y.num) = m at *
  have hx' : (0 : Int) < x.den := by omega
  have hy' : (0 : Int) < y.den := by omega
  generalize (x.den : Int) = e at *
  generalize (y.den : Int) = k at *
  have c1 := Int.ediv_mul_le (2 * n + e) (b := 2 * e) (by omega)
  have c2 := Int.lt_ediv_add_one_mul_self (2 * n + e) (b := 2 * e) (by omega)
  generalize (2 * n + e) / (2 * e) = v at *
  have g1 : (v + w) * (2 * k) ≤ 2 * m + k := by
    refine Int.le_of_mul_le_mul_right (a := e) ?_ hx'
    have h1 : v * (2 * e) * k ≤ (2 * n + e) * k := Int.mul_le_mul_of_nonneg_right c1 (by omega)
    have e1 : (v + w) * (2 * k) * e = v * (2 * e) * k + 2 * (w * e * k) := by grind
    have e2 : (2 * m + k) * e = 2 * (m * e) + k * e := by grind
    rw [e1, e2, key]
    have e3 : 2 * ((n + w * e) * k) + k * e = (2 * n + e) * k + 2 * (w * e * k) := by grind
    rw [e3]
    omega
  have g2 : 2 * m + k < (v + w + 1) * (2 * k) := by
    refine Int.lt_of_mul_lt_mul_right (a := e) ?_ (by omega)
    have h1 : (2 * n + e) * k < (v + 1) * (2 * e) * k := Int.mul_lt_mul_of_pos_right c2 hy'
    have e1 : (v + w + 1) * (2 * k) * e = (v + 1) * (2 * e) * k + 2 * (w * e * k) := by grind
    have e2 : (2 * m + k) * e = 2 * (m * e) + k * e := by grind
    rw [e1, e2, key]
    have e3 : 2 * ((n + w * e) * k) + k * e = (2 * n + e) * k + 2 * (w * e * k) := by grind
    rw [e3]
    omega
  have f1 : v + w ≤ (2 * m + k) / (2 * k) := (Int.le_ediv_iff_mul_le (by omega)).mpr g1
  have f2 : (2 * m + k) / (2 * k) < v + w + 1 := (Int.ediv_lt_iff_lt_mul (by omega)).mpr g2
  omega
/-- != of two fractions that are the same number -/
theorem ne_app {K : PySem.W.Frag} {a b : Addr} {x y : Rat} {H : Hp} {Q : VK} (h1 : RV K H a x) (h2 : RV K H b y) (e : x = y) (q : Q (.bl false) H) : rNeD K (.ref a) (.ref b) H Q := by
  subst e
  have d1 : ∀ {a : Addr}, RV K H a x → Dp K H (.ref a) (.tuple [.int x.num, .int x.den]) := fun h => .tup h (.cons (.int _) (.cons (.int _) .nil))
  refine ⟨_, _, d1 h1, d1 h2, rfl, rfl, ?_⟩
  have e2 : PyData.eqv (.tuple [.int x.num, .int x.den]) (.tuple [.int x.num, .int x.den]) = true := SeqAt.eqv_refl _ rfl
  rw [e2]
  exact q
theorem g_neD {r : R2} {x y : V} {H : Hp} {Q : VK} (h : r x y H Q) : r x y H Q := h

theorem Md.big {x : Rat} (h : Md x) : x.num.natAbs < 2 ^ 4000 ∧ ((x.den : Int)).natAbs < 2 ^ 4000 := by
  have h1 := h.n
  have h2 := h.d
  have e : (2 : Nat) ^ 900 < 2 ^ 4000 := by decide +kernel
  constructor <;> omega
theorem md_cross {x y : Rat} (hx : Md x) (hy : Md y) : (x.num * y.den + y.num * x.den).natAbs < 2 ^ 1900 ∧ (x.num * y.den - y.num * x.den).natAbs < 2 ^ 1900 ∧ ((x.den : Int) * y.den).natAbs < 2 ^ 1900 ∧ (x.num * y.num).natAbs < 2 ^ 1900 ∧ ((x.den : Int) * y.num).natAbs < 2 ^ 1900 ∧ (x.num * y.den).natAbs < 2 ^ 1900 := by
  obtain ⟨h1, h2, h3, h4, h5⟩ := sz_cross (j := 900) (k := 900) ⟨hx.n, hx.d⟩ ⟨hy.n, hy.d⟩
  have e : 2 * 2 ^ (900 + 900) < (2 : Nat) ^ 1900 := by decide +kernel
  refine ⟨?_, ?_, ?_, ?_, ?_, ?_⟩ <;> omega

theorem bigq_app {K : PySem.W.Frag} {d : Addr} {H : Hp} {Q : VK} {E : XK} (h : DeckAt K H d) (k : ∀ t H' (x : Rat), DeckAt K H' d → Ex1 d H H' → t ≠ d → RV K H' t x → Szq 41 x → Q (.ref t) H') : spBig K [.ref d] H Q E := by
  refine big_app h fun t H' n e hD hE hn hS hF => ?_
  obtain ⟨x, rfl, rfl, hz⟩ := hF.rat_of
  exact k t H' x hD hE hn hS hz
theorem ne_of_num {x : Rat} (h : ¬ x.num = 0) : x ≠ 0 := fun e => h (by rw [e]; rfl)
end Fl

set_option Elab.async false
set_option linter.all false
set_option maxRecDepth 100000
set_option maxHeartbeats 4000000
set_option exponentiation.threshold 20000
/-! data at any depth, apart from the addresses S that are being written -/
namespace Fl
open PySem PySem.Spec PyProof.Rows L2

mutual
inductive Dq (S : List Addr) (H : Hp) : V → PyData → Prop
  | non : Dq S H .non .none
  | bl (b : Bool) : Dq S H (.bl b) (.bool b)
  | int (i : Int) : Dq S H (.int i) (.int i)
  | str (x : Str) : Dq S H (.str x) (.str x)
  | lst {a : Addr} {xs : List V} {ds : List PyData} : a ∉ S → H a = some (.lst xs) → DqA S H xs ds → Dq S H (.ref a) (.list ds)
  | tup {a : Addr} {xs : List V} {ds : List PyData} : a ∉ S → H a = some (.tup xs) → DqA S H xs ds → Dq S H (.ref a) (.tuple ds)
  | ins {a C dx : Addr} {fs : List (Str × V)} {ds : List (PyData × PyData)} : a ∉ S → H a = some (.ins C dx fs) → DqF S H fs ds → Dq S H (.ref a) (.dict ((.none, .int (C : Int)) :: ds))
inductive DqA (S : List Addr) (H : Hp) : List V → List PyData → Prop
  | nil : DqA S H [] []
  | cons {v : V} {vs : List V} {d : PyData} {ds : List PyData} : Dq S H v d → DqA S H vs ds → DqA S H (v :: vs) (d :: ds)
inductive DqF (S : List Addr) (H : Hp) : List (Str × V) → List (PyData × PyData) → Prop
  | nil : DqF S H [] []
  | cons {n : Str} {v : V} {fs : List (Str × V)} {d : PyData} {ds : List (PyData × PyData)} : Dq S H v d → DqF S H fs ds → DqF S H ((n, v) :: fs) ((.str n, d) :: ds)
end
mutual
theorem Dq.to {S S' : List Addr} {H H' : Hp} (k : ∀ a o, a ∉ S → H a = some o → a ∉ S' ∧ H' a = some o) : ∀ {v : V} {d : PyData}, Dq S H v d → Dq S' H' v d
  | _, _, .non => .non
  | _, _, .bl b => .bl b
  | _, _, .int i => .int i
  | _, _, .str x => .str x
  | _, _, .lst n h r => .lst (k _ _ n h).1 (k _ _ n h).2 (DqA.to k r)
  | _, _, .tup n h r => .tup (k _ _ n h).1 (k _ _ n h).2 (DqA.to k r)
  | _, _, .ins n h r => .ins (k _ _ n h).1 (k _ _ n h).2 (DqF.to k r)
theorem DqA.to {S S' : List Addr} {H H' : Hp} (k : ∀ a o, a ∉ S → H a = some o → a ∉ S' ∧ H' a = some o) : ∀ {vs : List V} {ds : List PyData}, DqA S H vs ds → DqA S' H' vs ds
  | _, _, .nil => .nil
  | _, _, .cons h r => .cons (Dq.to k h) (DqA.to k r)
theorem DqF.to {S S' : List Addr} {H H' : Hp} (k : ∀ a o, a ∉ S → H a = some o → a ∉ S' ∧ H' a = some o) : ∀ {fs : List (Str × V)} {ds : List (PyData × PyData)}, DqF S H fs ds → DqF S' H' fs ds
  | _, _, .nil => .nil
  | _, _, .cons h r => .cons (Dq.to k h) (DqF.to k r)
end
mutual
theorem Dq.dp {S : List Addr} {H : Hp} {K : PySem.W.Frag} : ∀ {v : V} {d : PyData}, Dq S H v d → d.hasDict = false → Dp K H v d
  | _, _, .non, _ => .non
  | _, _, .bl b, _ => .bl b
  | _, _, .int i, _ => .int i
  | _, _, .str x, _ => .str x
  | _, _, .lst _ h r, n => .lst (SqL.of h) (DqA.dp r (by simpa [PyData.hasDict] using n))
  | _, _, .tup _ h r, n => .tup (SqT.of h) (DqA.dp r (by simpa [PyData.hasDict] using n))
  | _, _, .ins _ _ _, n => by simp [PyData.hasDict] at n
theorem DqA.dp {S : List Addr} {H : Hp} {K : PySem.W.Frag} : ∀ {vs : List V} {ds : List PyData}, DqA S H vs ds → PyData.hasDictAll ds = false → DpAll K H vs ds
  | _, _, .nil, _ => .nil
  | _, _, .cons h r, n => .cons (Dq.dp h (by simp [PyData.hasDictAll] at n; exact n.1)) (DqA.dp r (by simp [PyData.hasDictAll] at n; exact n.2))
end
mutual
theorem nodict_lay : ∀ d : PyData, d.canLay0 = true → d.hasDict = false
  | .none, _ | .bool _, _ | .int _, _ | .str _, _ => rfl
  | .list xs, h => by
    simp only [PyData.hasDict]
    exact nodictAll_lay xs (by simpa [PyData.canLay0] using h)
  | .tuple xs, h => by
    simp only [PyData.hasDict]
    exact nodictAll_lay xs (by simpa [PyData.canLay0] using h)
  | .dict _, h => by simp [PyData.canLay0] at h
theorem nodictAll_lay : ∀ ds : List PyData, PyData.canLayAll0 ds = true → PyData.hasDictAll ds = false
  | [], _ => rfl
  | d :: ds, h => by
    simp [PyData.canLayAll0] at h
    simp [PyData.hasDictAll, nodict_lay d h.1, nodictAll_lay ds h.2]
end
theorem nodict_sh {d : PyData} (h : SeqAt.shaped d = true) : d.hasDict = false := by
  unfold SeqAt.shaped at h
  simp only [Bool.and_eq_true] at h
  exact nodict_lay d h.1
/-- all but what stands at S stands -/
def Fr (S : List Addr) (H H' : Hp) : Prop := ∀ a o, a ∉ S → H a = some o → H' a = some o
/-- these are there -/
def Al (S : List Addr) (H : Hp) : Prop := ∀ a, a ∈ S → H a ≠ none
section
variable {S T : List Addr} {H H' H2 : Hp} {a p D : Addr} {v : V} {d : PyData} {vs ws : List V} {ds es : List PyData} {o : HO}
theorem Fr.refl : Fr S H H := fun _ _ _ h => h
theorem Fr.trans (h : Fr S H H') (k : Fr S H' H2) : Fr S H H2 := fun a o n e => k a o n (h a o n e)
theorem Fr.mono (h : Fr S H H') (k : ∀ a, a ∈ S → a ∈ T) : Fr T H H' := fun a o n e => h a o (fun m => n (k a m)) e
theorem Fr.same (h : Same H H') : Fr S H H' := fun a o _ e => h a o e
theorem Fr.new (h : H p = none) : Fr S H (upd H p o) := Fr.same (Fl.Same.new h)
theorem Fr.upd (h : p ∈ S) : Fr S H (upd H p o) := fun a u n e => by
  rw [upd_ne (fun q => n (by rw [q]; exact h))]
  exact e
theorem Fr.sm (h : Fr [] H H') : Same H H' := fun a o e => h a o (List.not_mem_nil) e
theorem Al.nil : Al [] H := fun a h => nomatch h
theorem Al.cons (h : H a ≠ none) (k : Al S H) : Al (a :: S) H := fun b m => by
  rcases List.mem_cons.mp m with rfl | m
  · exact h
  · exact k b m
theorem Al.same (k : Al S H) (e : Same H H') : Al S H' := fun b m q => by
  cases z : H b with
  | none => exact k b m z
  | some o => rw [e b o z] at q; cases q
theorem Al.fr (k : Al S H) (e : Fr T H H') (k2 : Al T H') : Al S H' := fun b m q => by
  by_cases hb : b ∈ T
  · exact k2 b hb q
  · cases z : H b with
    | none => exact k b m z
    | some o => rw [e b o hb z] at q; cases q
theorem Al.ni (k : Al S H) (e : H p = none) : p ∉ S := fun m => k p m e
theorem Dq.fr (h : Dq S H v d) (e : Fr S H H') : Dq S H' v d := h.to fun a o n q => ⟨n, e a o n q⟩
theorem Dq.same (h : Dq S H v d) (e : Same H H') : Dq S H' v d := h.fr (Fr.same e)
theorem Dq.mono (h : Dq S H v d) (k : ∀ a, a ∈ T → a ∈ S) : Dq T H v d := h.to fun a o n q => ⟨fun m => n (k a m), q⟩
theorem Dq.new (h : Dq S H v d) (e : H D = none) : Dq (D :: S) H v d := h.to fun a o n q => ⟨fun m => by
  rcases List.mem_cons.mp m with rfl | m
  · rw [e] at q; cases q
  · exact n m, q⟩
theorem Dq.tail (h : Dq (D :: S) H v d) : Dq S H v d := h.mono fun _ m => List.mem_cons_of_mem _ m
theorem DqA.fr (h : DqA S H vs ds) (e : Fr S H H') : DqA S H' vs ds := h.to fun a o n q => ⟨n, e a o n q⟩
theorem DqA.same (h : DqA S H vs ds) (e : Same H H') : DqA S H' vs ds := h.fr (Fr.same e)
theorem DqA.mono (h : DqA S H vs ds) (k : ∀ a, a ∈ T → a ∈ S) : DqA T H vs ds := h.to fun a o n q => ⟨fun m => n (k a m), q⟩
theorem DqA.new (h : DqA S H vs ds) (e : H D = none) : DqA (D :: S) H vs ds := h.to fun a o n q => ⟨fun m => by
  rcases List.mem_cons.mp m with rfl | m
  · rw [e] at q; cases q
  · exact n m, q⟩
theorem DqA.tail (h : DqA (D :: S) H vs ds) : DqA S H vs ds := h.mono fun _ m => List.mem_cons_of_mem _ m
theorem DqA.len : ∀ {vs : List V} {ds : List PyData}, DqA S H vs ds → vs.length = ds.length
  | _, _, .nil => rfl
  | _, _, .cons _ r => congrArg (· + 1) (DqA.len r)
theorem DqA.app : ∀ {vs : List V} {ds : List PyData}, DqA S H vs ds → DqA S H ws es → DqA S H (vs ++ ws) (ds ++ es)
  | _, _, .nil, k => k
  | _, _, .cons h r, k => .cons h (DqA.app r k)
theorem DqA.one (h : Dq S H v d) : DqA S H [v] [d] := .cons h .nil
theorem DqA.drop : ∀ {vs : List V} {ds : List PyData} (n : Nat), DqA S H vs ds → DqA S H (vs.drop n) (ds.drop n)
  | _, _, 0, h => h
  | _, _, _ + 1, .nil => .nil
  | _, _, n + 1, .cons _ r => DqA.drop n r
theorem DqA.take : ∀ {vs : List V} {ds : List PyData} (n : Nat), DqA S H vs ds → DqA S H (vs.take n) (ds.take n)
  | _, _, 0, _ => .nil
  | _, _, _ + 1, .nil => .nil
  | _, _, n + 1, .cons h r => .cons h (DqA.take n r)
theorem DqA.rev : ∀ {vs : List V} {ds : List PyData}, DqA S H vs ds → DqA S H vs.reverse ds.reverse
  | _, _, .nil => .nil
  | _, _, .cons h r => by
    rw [List.reverse_cons, List.reverse_cons]
    exact (DqA.rev r).app (.one h)
theorem DqA.get : ∀ {vs : List V} {ds : List PyData} {i : Nat}, DqA S H vs ds → vs[i]? = some v → ∃ d, ds[i]? = some d ∧ Dq S H v d
  | _, _, _, .nil, e => by simp at e
  | _, _, 0, .cons h _, e => by simp at e; subst e; exact ⟨_, rfl, h⟩
  | _, _, i + 1, .cons _ r, e => by
    obtain ⟨d, h1, h2⟩ := DqA.get (i := i) r (by simpa using e)
    exact ⟨d, by simpa using h1, h2⟩
theorem DqA.getD : ∀ {vs : List V} {ds : List PyData} {i : Nat}, DqA S H vs ds → ds[i]? = some d → ∃ v, vs[i]? = some v ∧ Dq S H v d
  | _, _, _, .nil, e => by simp at e
  | _, _, 0, .cons h _, e => by simp at e; subst e; exact ⟨_, rfl, h⟩
  | _, _, i + 1, .cons _ r, e => by
    obtain ⟨v, h1, h2⟩ := DqA.getD (i := i) r (by simpa using e)
    exact ⟨v, by simpa using h1, h2⟩
theorem Dq.lstE (h : Dq S H v (.list ds)) : ∃ a xs, v = .ref a ∧ a ∉ S ∧ H a = some (.lst xs) ∧ DqA S H xs ds := by
  cases h with
  | lst n q r => exact ⟨_, _, rfl, n, q, r⟩
theorem Dq.tupE (h : Dq S H v (.tuple ds)) : ∃ a xs, v = .ref a ∧ a ∉ S ∧ H a = some (.tup xs) ∧ DqA S H xs ds := by
  cases h with
  | tup n q r => exact ⟨_, _, rfl, n, q, r⟩
theorem Dq.intE {i : Int} (h : Dq S H v (.int i)) : v = .int i := by cases h; rfl
theorem Dq.blE {b : Bool} (h : Dq S H v (.bool b)) : v = .bl b := by cases h; rfl
theorem Dq.nonE (h : Dq S H v .none) : v = .non := by cases h; rfl
theorem DqA.nilE (h : DqA S H vs []) : vs = [] := by cases h; rfl
theorem DqA.consE (h : DqA S H vs (d :: ds)) : ∃ v ws, vs = v :: ws ∧ Dq S H v d ∧ DqA S H ws ds := by
  cases h with
  | cons h r => exact ⟨_, _, rfl, h, r⟩
end
/-- a new list or tuple of data -/
theorem Dq.newL {S : List Addr} {H : Hp} {p : Addr} {xs : List V} {ds : List PyData} (k : Al S H) (e : H p = none) (h : DqA S H xs ds) : Dq S (upd H p (.lst xs)) (.ref p) (.list ds) :=
  .lst (k.ni e) upd_same (h.fr (Fr.new e))
theorem Dq.newT {S : List Addr} {H : Hp} {p : Addr} {xs : List V} {ds : List PyData} (k : Al S H) (e : H p = none) (h : DqA S H xs ds) : Dq S (upd H p (.tup xs)) (.ref p) (.tuple ds) :=
  .tup (k.ni e) upd_same (h.fr (Fr.new e))

/-- a function of data: nothing that stands is changed -/
def spD (f : List PyData → PyData → Prop) : Sp := fun vs H Q _ => ∃ S ds d, Al S H ∧ DqA S H vs ds ∧ f ds d ∧ ∀ v H', Same H H' → Dq S H' v d → Q v H'
theorem spD_app {f : List PyData → PyData → Prop} {vs : List V} {H : Hp} {Q : VK} {E : XK} (S : List Addr) (ds : List PyData) (d : PyData) (hS : Al S H) (hd : DqA S H vs ds) (hf : f ds d) (q : ∀ v H', Same H H' → Dq S H' v d → Q v H') : spD f vs H Q E :=
  ⟨S, ds, d, hS, hd, hf, q⟩

/-! ### points -/
abbrev Pt := Int × Int × Bool
def ptD (p : Pt) : PyData := .tuple [.int p.1, .int p.2.1, .bool p.2.2]
def ctD (c : List Pt) : PyData := .list (c.map ptD)
def ouD (o : List (List Pt)) : PyData := .list (o.map ctD)
theorem ptE {S : List Addr} {H : Hp} {v : V} {p : Pt} (h : Dq S H v (ptD p)) : ∃ a, v = .ref a ∧ a ∉ S ∧ H a = some (.tup [.int p.1, .int p.2.1, .bl p.2.2]) := by
  obtain ⟨a, xs, rfl, n, q, r⟩ := h.tupE
  obtain ⟨x1, w1, rfl, h1, r⟩ := r.consE
  obtain ⟨x2, w2, rfl, h2, r⟩ := r.consE
  obtain ⟨x3, w3, rfl, h3, r⟩ := r.consE
  cases r.nilE
  cases h1.intE
  cases h2.intE
  cases h3.blE
  exact ⟨a, rfl, n, q⟩
theorem ptI {S : List Addr} {H : Hp} {a : Addr} {x y : Int} {b : Bool} (n : a ∉ S) (q : H a = some (.tup [.int x, .int y, .bl b])) : Dq S H (.ref a) (ptD (x, y, b)) := .tup n q (.cons (.int _) (.cons (.int _) (.cons (.bl _) .nil)))

/-! ### comprehensions -/
section
variable {H1 : Hp} {Q : VK} {g : TG} {tt : TT} {te : TE} {tb : TS} {vs : List Nat} {σ : L2.St} {D : Ends}
/-- what is left of a comprehension when it is known what is walked -/
def lcK (J : It) (g : TG) (tt : TT) (te : TE) (vs : List Nat) (σ : L2.St) (H1 : Hp) (Q : VK) : Prop :=
  ∀ B, H1 B = none → ∃ W : Nat → Nat → Hp → Prop, (∃ m, W 0 m (upd H1 B (.lst []))) ∧ ∀ i m H, W i m H →
    (J.stop i H ∧ Q (.ref B) H) ∨ (J.go i H ∧ ∃ Nx : Hp → Prop, (∀ H', Nx H' → ∃ m', m' < m ∧ W (i + 1) m' H') ∧
      ∀ x H', J.yld i H x H' → g x (wipe σ vs) H' fun σ2 H2 => wipe σ2 vs = wipe σ vs ∧ tt σ2 H2 fun b H3 =>
        if b = true then te σ2 H3 fun y H4 => ∃ acc, H4 B = some (.lst acc) ∧ acc.length < sizeLine ∧ Nx (upd H4 B (.lst (acc ++ [y]))) else Nx H3)
/-- the same of a loop -/
def forK (J : It) (g : TG) (tb : TS) (D : Ends) (σ : L2.St) (H1 : Hp) : Prop :=
  ∃ W : Nat → Nat → L2.St → Hp → Prop, (∃ m, W 0 m σ H1) ∧ ∀ i m σ H, W i m σ H →
    (J.stop i H ∧ D.nx σ H) ∨ (J.go i H ∧ ∃ N : L2.St → Hp → Prop, (∀ σ' H', N σ' H' → ∃ m', m' < m ∧ W (i + 1) m' σ' H') ∧
      ∀ x H', J.yld i H x H' → g x σ H' fun σ2 H2 => tb { D with nx := N, ct := N, bk := D.nx } σ2 H2)
end
section
variable {S : List Addr} {H1 : Hp} {K : PySem.W.Frag} {g : TG} {tt : TT} {te : TE} {vs : List Nat} {σ : L2.St} {Q : VK}
theorem fm_succ {f : Nat → Option PyData} (i : Nat) : (List.range (i + 1)).filterMap f = (List.range i).filterMap f ++ (f i).toList := by
  rw [List.range_succ, List.filterMap_append]
  cases h : f i <;> simp [h]
theorem sm_of {D : Addr} {H : Hp} (hD : H1 D = none) (f : Fr [D] H1 H) : Same H1 H := fun b o q => f b o (fun m => by
  have : b = D := by simpa using m
  rw [this, hD] at q; cases q) q
/-- the list D at turn i: the items that f has given so far -/
structure CompAt (S : List Addr) (H1 : Hp) (D : Addr) (f : Nat → Option PyData) (i : Nat) (H : Hp) : Prop where
  ex : ∃ acc, H D = some (.lst acc) ∧ DqA (D :: S) H acc ((List.range i).filterMap f)
  fr : Fr [D] H1 H
theorem CompAt.zero {D : Addr} {f : Nat → Option PyData} (hD : H1 D = none) : CompAt S H1 D f 0 (upd H1 D (.lst [])) := ⟨⟨[], upd_same, .nil⟩, Fr.same (Fl.Same.new hD)⟩
theorem CompAt.same {D : Addr} {f : Nat → Option PyData} {i : Nat} {H H' : Hp} (h : CompAt S H1 D f i H) (e : Same H H') : CompAt S H1 D f i H' := by
  obtain ⟨⟨acc, h1, h2⟩, h3⟩ := h
  exact ⟨⟨acc, e _ _ h1, h2.same e⟩, h3.trans (Fr.same e)⟩
theorem CompAt.skip {D : Addr} {f : Nat → Option PyData} {i : Nat} {H : Hp} (h : CompAt S H1 D f i H) (e : f i = none) : CompAt S H1 D f (i + 1) H := by
  obtain ⟨⟨acc, h1, h2⟩, h3⟩ := h
  refine ⟨⟨acc, h1, ?_⟩, h3⟩
  rw [fm_succ, e]
  simpa using h2
theorem CompAt.len {D : Addr} {f : Nat → Option PyData} {i : Nat} {H : Hp} (h : CompAt S H1 D f i H) (hi : i < 1000) : ∀ acc, H D = some (.lst acc) → acc.length < sizeLine := by
  obtain ⟨⟨acc, h1, h2⟩, h3⟩ := h
  intro acc' h'
  rw [h1] at h'
  cases h'
  have e := h2.len
  have e2 := List.length_filterMap_le f (List.range i)
  rw [List.length_range] at e2
  have : (1000 : Nat) ≤ sizeLine := by decide
  omega
theorem CompAt.put {D : Addr} {f : Nat → Option PyData} {i : Nat} {H H4 : Hp} {y : V} {r : PyData} (h : CompAt S H1 D f i H) (hi : i < 1000) (e : f i = some r) (s : Same H H4) (d : Dq (D :: S) H4 y r) :
    ∃ acc, H4 D = some (.lst acc) ∧ acc.length < sizeLine ∧ CompAt S H1 D f (i + 1) (upd H4 D (.lst (acc ++ [y]))) := by
  have h4 := h.same s
  obtain ⟨⟨acc, h1, h2⟩, h3⟩ := h4
  refine ⟨acc, h1, (h.same s).len hi acc h1, ⟨acc ++ [y], upd_same, ?_⟩, h3.trans (Fr.upd (by simp))⟩
  rw [fm_succ, e]
  exact (h2.app (.one d)).fr (Fr.upd (by simp))
theorem CompAt.al {D : Addr} {f : Nat → Option PyData} {i : Nat} {H : Hp} (h : CompAt S H1 D f i H) (hS : Al S H1) (hD : H1 D = none) : Al (D :: S) H := by
  obtain ⟨⟨acc, h1, h2⟩, h3⟩ := h
  exact .cons (by rw [h1]; simp) (hS.same (sm_of hD h3))
theorem CompAt.fin {D : Addr} {f : Nat → Option PyData} {i : Nat} {H : Hp} (h : CompAt S H1 D f i H) (hS : Al S H1) (hD : H1 D = none) : Dq S H (.ref D) (.list ((List.range i).filterMap f)) := by
  obtain ⟨⟨acc, h1, h2⟩, h3⟩ := h
  exact .lst (hS.ni hD) h1 h2.tail
/-- [elt for x in list if test], nothing changed: es the items, f what becomes of each -/
theorem lcL {a : Addr} {es : List PyData} (f : Nat → Option PyData) (hS : Al S H1) (ha : Dq S H1 (.ref a) (.list es)) (hz : es.length < 1000)
    (step : ∀ (D : Addr) (i : Nat) (x : V) (e : PyData) (H : Hp), H1 D = none → es[i]? = some e → Same H1 H → Al (D :: S) H → Dq (D :: S) H x e →
      ∀ (R : V → Hp → Prop) (N : Hp → Prop), (∀ r y H4, f i = some r → Same H H4 → Dq (D :: S) H4 y r → R y H4) → (f i = none → ∀ H4, Same H H4 → N H4) →
      g x (wipe σ vs) H fun σ2 H2 => wipe σ2 vs = wipe σ vs ∧ tt σ2 H2 fun b H3 => if b = true then te σ2 H3 R else N H3)
    (q : ∀ (D : Addr) (H : Hp), Same H1 H → H1 D = none → Dq S H (.ref D) (.list ((List.range es.length).filterMap f)) → Q (.ref D) H) :
    lcK (Itl K a) g tt te vs σ H1 Q := by
  unfold lcK
  intro D hD
  obtain ⟨a', xs, ea, na, hxs, hall⟩ := ha.lstE
  cases ea
  have hlx := hall.len
  have hDa : a ≠ D := fun e => by rw [e, hD] at hxs; cases hxs
  refine lc_list (xs := xs) (CompAt S H1 D f) (CompAt.zero hD) ?_ ?_ ?_
  · intro i H _ h
    exact SqL.of (h.fr a _ (by simpa using hDa) hxs)
  · intro i x H hx h
    have hlt : i < xs.length := (List.getElem?_eq_some_iff.mp hx).1
    have hsm : Same H1 H := sm_of hD h.fr
    have hall' : DqA (D :: S) H xs es := (hall.new hD).same hsm
    obtain ⟨e, he, hxe⟩ := hall'.get hx
    exact step D i x e H hD he hsm (h.al hS hD) hxe _ _ (fun r y H4 er s d => h.put (by omega) er s d) fun en H4 s => (h.same s).skip en
  · intro H h
    rw [hlx] at h
    exact q D H (sm_of hD h.fr) hD (h.fin hS hD)
/-- the same over range(lo, ..) of n numbers -/
theorem lcR {lo : Int} {n : Nat} (f : Nat → Option PyData) (hS : Al S H1) (hz : n < 1000)
    (step : ∀ (D : Addr) (i : Nat) (H : Hp), H1 D = none → i < n → Same H1 H → Al (D :: S) H →
      ∀ (R : V → Hp → Prop) (N : Hp → Prop), (∀ r y H4, f i = some r → Same H H4 → Dq (D :: S) H4 y r → R y H4) → (f i = none → ∀ H4, Same H H4 → N H4) →
      g (.int (lo + i)) (wipe σ vs) H fun σ2 H2 => wipe σ2 vs = wipe σ vs ∧ tt σ2 H2 fun b H3 => if b = true then te σ2 H3 R else N H3)
    (q : ∀ (D : Addr) (H : Hp), Same H1 H → H1 D = none → Dq S H (.ref D) (.list ((List.range n).filterMap f)) → Q (.ref D) H) :
    lcK (Itr lo n) g tt te vs σ H1 Q := by
  unfold lcK
  intro D hD
  refine lc_range (CompAt S H1 D f) (CompAt.zero hD) ?_ ?_
  · intro i H hlt h
    exact step D i H hD hlt (sm_of hD h.fr) (h.al hS hD) _ _ (fun r y H4 er s d => h.put (by omega) er s d) fun en H4 s => (h.same s).skip en
  · intro H h
    exact q D H (sm_of hD h.fr) hD (h.fin hS hD)
theorem fm_take (rs : List PyData) : ∀ n : Nat, (List.range n).filterMap (fun i => rs[i]?) = rs.take n
  | 0 => by simp
  | n + 1 => by rw [fm_succ, fm_take rs n, List.take_succ]
theorem fm_map {es rs : List PyData} (hl : rs.length = es.length) : (List.range es.length).filterMap (fun i => rs[i]?) = rs := by
  rw [fm_take, List.take_of_length_le (by omega)]
end

/-! ### the deck -/
def Dk (d s : Addr) (ns : List Int) (H : Hp) : Prop := s ≠ d ∧ H s = some (.lst (ns.map V.int)) ∧ ∃ pos rest seed : Int, H d = some (.lst [.ref s, .int pos, .int rest, .int seed]) ∧ 0 ≤ pos
/-- only what stands at d is another -/
def On (d : Addr) (H H' : Hp) : Prop := ∀ b, b ≠ d → H' b = H b
section
variable {d s D : Addr} {ns : List Int} {H H' H2 : Hp} {o : HO} {S : List Addr}
theorem On.refl : On d H H := fun _ _ => rfl
theorem On.trans (h : On d H H') (k : On d H' H2) : On d H H2 := fun b n => (k b n).trans (h b n)
theorem On.upd : On d H (upd H d o) := fun b n => upd_ne n
theorem On.fr (h : On d H H') : Fr [d] H H' := fun a u n e => by
  rw [h a (by simpa using n)]
  exact e
theorem On.frS (h : On d H H') (m : d ∈ S) : Fr S H H' := h.fr.mono fun a k => by
  rw [show a = d by simpa using k]
  exact m
theorem Dk.hd (h : Dk d s ns H) : H d ≠ none := by
  obtain ⟨_, _, _, _, _, e, _⟩ := h
  rw [e]
  simp
theorem Dk.hs (h : Dk d s ns H) : H s ≠ none := by
  obtain ⟨_, e, _⟩ := h
  rw [e]
  simp
theorem Dk.fr (h : Dk d s ns H) (e : Fr S H H') (h1 : d ∉ S) (h2 : s ∉ S) : Dk d s ns H' := by
  obtain ⟨a, b, p, r, q, c, e0⟩ := h
  exact ⟨a, e _ _ h2 b, p, r, q, e _ _ h1 c, e0⟩
theorem Dk.same (h : Dk d s ns H) (e : Same H H') : Dk d s ns H' := h.fr (S := []) (Fr.same e) (by simp) (by simp)
theorem Dk.put (h : Dk d s ns H) (hD : D ≠ d) (hs : D ≠ s) : Dk d s ns (upd H D o) := h.fr (S := [D]) (Fr.upd (by simp)) (by simpa using hD.symm) (by simpa using hs.symm)
theorem Dk.ned (h : Dk d s ns H) (hD : H D = none) : D ≠ d := fun e => h.hd (e ▸ hD)
theorem Dk.nes (h : Dk d s ns H) (hD : H D = none) : D ≠ s := fun e => h.hs (e ▸ hD)
end
def spDk (K : PySem.W.Frag) : Sp := fun vs H Q _ => ∃ (a : Addr) (ns : List Int), vs = [.ref a] ∧ SqL K H a (ns.map V.int) ∧ ∀ d s H', Same H H' → Dk d s ns H' → Q (.ref d) H'
def spDr : Sp := fun vs H Q _ => ∃ (d s : Addr) (ns : List Int) (m : Int), vs = [.ref d, .int m] ∧ Dk d s ns H ∧ 0 < m ∧ m < 10 ^ 62 ∧ ∀ v H', 0 ≤ v → v < m → Dk d s ns H' → On d H H' → Q (.int v) H'
theorem dr_app {d s : Addr} {ns : List Int} {m : Int} {H : Hp} {Q : VK} {E : XK} (h : Dk d s ns H) (h1 : 0 < m) (h2 : m < 10 ^ 62) (k : ∀ v H', 0 ≤ v → v < m → Dk d s ns H' → On d H H' → Q (.int v) H') : spDr [.ref d, .int m] H Q E := ⟨d, s, ns, m, rfl, h, h1, h2, k⟩
/-- how far a point lies -/
def PtIn (b : Int) (p : Pt) : Prop := -b ≤ p.1 ∧ p.1 ≤ b ∧ -b ≤ p.2.1 ∧ p.2.1 ≤ b
def spPt : Sp := fun vs H Q _ => ∃ (S : List Addr) (d s : Addr) (ns : List Int) (far : Int), vs = [.ref d, .int far] ∧ d ∈ S ∧ Al S H ∧ Dk d s ns H ∧ 130 ≤ far ∧ far ≤ 10 ^ 6 ∧
  ∀ t H' p, Fr [d] H H' → Dk d s ns H' → Dq S H' (.ref t) (ptD p) → PtIn far p → Q (.ref t) H'

/-! ### more readings -/
section
variable {σ : L2.St} {H H' H2 : Hp} {Q : VK} {v x y : V} {ta tb tc te : TE} {K : PySem.W.Frag} {p a b l : Addr} {xs zs : List V} {o : HO}
theorem raw_new (h : H p = none) (e : H a = some o) {u : HO} : upd H p u a = some o := Fl.Same.new h a o e
theorem raw_same (h : Same H H') (e : H a = some o) : H' a = some o := h a o e
theorem none_upd {u : HO} (h : H p = none) (n : p ≠ a) : upd H a u p = none := by rw [upd_ne n]; exact h
theorem Dq.newH {S : List Addr} {d : PyData} {u : HO} (e : H p = none) (h : Dq S H v d) : Dq S (upd H p u) v d := h.same (Fl.Same.new e)
theorem DqA.newH {S : List Addr} {vs : List V} {ds : List PyData} {u : HO} (e : H p = none) (h : DqA S H vs ds) : DqA S (upd H p u) vs ds := h.same (Fl.Same.new e)
theorem Al.newH {S : List Addr} {u : HO} (e : H p = none) (h : Al S H) : Al S (upd H p u) := h.same (Fl.Same.new e)
theorem g_sl {r : V → Option Int → Option Int → Hp → VK → Prop} {tl th : TO} (h : te σ H fun x H1 => tl σ H1 fun l H2 => th σ H2 fun u H3 => r x l u H3 Q) : L2.tSl r te tl th σ H Q := h
theorem g_part {QO : Option Int → Hp → Prop} (h : te σ H fun x H1 => ∃ i, x = .int i ∧ QO (some i) H1) : tPart te σ H QO := h
theorem g_nop {QO : Option Int → Hp → Prop} (h : QO none H) : tNoPart σ H QO := h
theorem g_ei {i : Int} {R : Int → Prop} (q : R i) : ∃ j, V.int i = .int j ∧ R j := ⟨i, rfl, q⟩
theorem g_slL {lo hi : Option Int} (h : SqL K H a xs) (q : ∀ p, H p = none → Q (.ref p) (upd H p (.lst (cutV xs lo hi)))) : rSlL K (.ref a) lo hi H Q := ⟨a, xs, rfl, h, q⟩
theorem g_slT {lo hi : Option Int} (h : SqT K H a xs) (n : ¬ (HT.sIx xs.length 0 lo = 0 ∧ HT.sIx xs.length xs.length hi = xs.length)) (q : ∀ p, H p = none → Q (.ref p) (upd H p (.tup (cutV xs lo hi)))) : rSlT K (.ref a) lo hi H Q := ⟨a, xs, rfl, h, n, q⟩
theorem cut_from (k : Nat) : cutV xs (some (k : Int)) none = xs.drop k := by
  show (xs.drop (HT.sIx xs.length 0 (some (k : Int)))).take (HT.sIx xs.length xs.length none - HT.sIx xs.length 0 (some (k : Int))) = _
  rw [HT.sIx_nat, HT.sIx_none]
  rcases Nat.le_total k xs.length with h | h
  · rw [Nat.min_eq_left h, List.take_of_length_le (by rw [List.length_drop]; omega)]
  · rw [Nat.min_eq_right h, Nat.sub_self, List.take_zero, List.drop_of_length_le h]
theorem cut_to (k : Nat) : cutV xs none (some (k : Int)) = xs.take k := by
  show (xs.drop (HT.sIx xs.length 0 none)).take (HT.sIx xs.length xs.length (some (k : Int)) - HT.sIx xs.length 0 none) = _
  rw [HT.sIx_nat, HT.sIx_none, List.drop_zero, Nat.sub_zero]
  rcases Nat.le_total k xs.length with h | h
  · rw [Nat.min_eq_left h]
  · rw [Nat.min_eq_right h, List.take_of_length_le (Nat.le_refl _), List.take_of_length_le h]
theorem cut_last : cutV xs none (some (-1)) = xs.dropLast := by
  show (xs.drop (HT.sIx xs.length 0 none)).take (HT.sIx xs.length xs.length (some (-1)) - HT.sIx xs.length 0 none) = _
  rw [HT.sIx_none, List.drop_zero, Nat.sub_zero, List.dropLast_eq_take]
  congr 1
  show (if (-1 : Int) < 0 then ((-1 : Int) + (xs.length : Int)).toNat else min (-1 : Int).toNat xs.length) = _
  rw [if_pos (by decide)]
  omega
theorem cut_fromLast : cutV xs (some (-1)) none = xs.drop (xs.length - 1) := by
  show (xs.drop (HT.sIx xs.length 0 (some (-1)))).take (HT.sIx xs.length xs.length none - HT.sIx xs.length 0 (some (-1))) = _
  have e : HT.sIx xs.length 0 (some (-1)) = xs.length - 1 := by
    show (if (-1 : Int) < 0 then ((-1 : Int) + (xs.length : Int)).toNat else min (-1 : Int).toNat xs.length) = _
    rw [if_pos (by decide)]
    omega
  rw [e, HT.sIx_none, List.take_of_length_le (by rw [List.length_drop]; omega)]
theorem g_cat (h1 : H l = some (.lst xs)) (h2 : H b = some (.lst zs)) (hz : xs.length + zs.length ≤ 2000) (q : ∀ p, H p = none → Q (.ref p) (upd H p (.lst (xs ++ zs)))) : rCat (.ref l) (.ref b) H Q :=
  ⟨l, b, xs, zs, rfl, rfl, h1, h2, Nat.le_trans hz (by decide), q⟩
end
/-! promises about outlines -/
def beg (c : List α) (k : Nat) : List α := c.drop k ++ c.take k
def fBeg (ds : List PyData) (d : PyData) : Prop := ∃ (c : List PyData) (k : Nat), ds = [.list c, .int (k : Int)] ∧ c.length ≤ 900 ∧ d = .list (beg c k)

section
variable {d s D : Addr} {ns : List Int} {H H' H1 H2 : Hp} {o : HO} {S : List Addr} {a : Addr} {v : V} {e : PyData}
theorem raw_on (h : On d H H') (n : a ≠ d) (e : H a = some o) : H' a = some o := by rw [h a n]; exact e
theorem raw_frd (h : Fr [d] H H') (n : a ≠ d) (e : H a = some o) : H' a = some o := h a o (by simpa using n) e
theorem Dq.frd (h : Fr [d] H H') (m : d ∈ S) (k : Dq S H v e) : Dq S H' v e := k.fr (h.mono fun a q => by
  rw [show a = d by simpa using q]
  exact m)
theorem Al.frd (h : Fr [d] H H') (k : Dk d s ns H') (q : Al S H) : Al S H' := q.fr h (.cons k.hd .nil)
theorem spread_at {v far : Int} (h0 : 0 ≤ v) (h1 : v < 3) (hf : 130 ≤ far) : ∃ sp : Int, atI [V.int 9, V.int 130, V.int far] v = some (.int sp) ∧ 9 ≤ sp ∧ sp ≤ far := by
  rcases (by omega : v = 0 ∨ v = 1 ∨ v = 2) with rfl | rfl | rfl
  · exact ⟨9, rfl, by omega, by omega⟩
  · exact ⟨130, rfl, by omega, by omega⟩
  · exact ⟨far, rfl, by omega, by omega⟩
theorem pt_app {far : Int} {Q : VK} {E : XK} (S : List Addr) (h1 : d ∈ S) (h2 : Al S H) (h3 : Dk d s ns H) (h4 : 130 ≤ far) (h5 : far ≤ 10 ^ 6) (q : ∀ t H' p, Fr [d] H H' → Dk d s ns H' → Dq S H' (.ref t) (ptD p) → PtIn far p → Q (.ref t) H') : spPt [.ref d, .int far] H Q E :=
  ⟨S, d, s, ns, far, rfl, h1, h2, h3, h4, h5, q⟩
/-- the list of points D at turn i -/
structure PtsAt (S : List Addr) (H1 : Hp) (d s : Addr) (ns : List Int) (far : Int) (D : Addr) (i : Nat) (H : Hp) : Prop where
  ex : ∃ (acc : List V) (c : List Pt), H D = some (.lst acc) ∧ DqA (D :: S) H acc (c.map ptD) ∧ c.length = i ∧ ∀ p, p ∈ c → PtIn far p
  fr : Fr [D, d] H1 H
  dk : Dk d s ns H
/-- [point for j in range(n)], points drawn from the deck at d -/
theorem lcDk {n : Nat} {lo far : Int} {g : TG} {te : TE} {vs : List Nat} {σ : L2.St} {Q : VK} (hS : Al S H1) (hd : d ∈ S) (hk : Dk d s ns H1) (hz : n < 1000)
    (step : ∀ (D : Addr) (i : Nat) (H : Hp), Al (D :: S) H → Dk d s ns H →
      ∀ (R : V → Hp → Prop), (∀ t H' p, Fr [d] H H' → Dk d s ns H' → Dq (D :: S) H' (.ref t) (ptD p) → PtIn far p → R (.ref t) H') →
      g (.int (lo + i)) (wipe σ vs) H fun σ2 H2 => wipe σ2 vs = wipe σ vs ∧ te σ2 H2 R)
    (q : ∀ (D : Addr) (H : Hp) (c : List Pt), Fr [d] H1 H → Dk d s ns H → Dq S H (.ref D) (ctD c) → c.length = n → (∀ p, p ∈ c → PtIn far p) → Q (.ref D) H)
    (gm : ∀ x σ' H' (Q1 Q2 : L2.St → Hp → Prop), (∀ s h, Q1 s h → Q2 s h) → g x σ' H' Q1 → g x σ' H' Q2) :
    lcK (Itr lo n) g tYes te vs σ H1 Q := by
  unfold lcK
  intro D hD
  have hnd : D ≠ d := hk.ned hD
  have hns : D ≠ s := hk.nes hD
  refine lc_range (PtsAt S H1 d s ns far D) ⟨⟨[], [], upd_same, .nil, rfl, fun _ m => nomatch m⟩, Fr.same (Fl.Same.new hD), hk.put hnd hns⟩ ?_ ?_
  · intro i H hlt h
    obtain ⟨⟨acc, c, hacc, hA, hl, hp⟩, hf, hk'⟩ := h
    have hAl : Al (D :: S) H := .cons (by rw [hacc]; simp) (hS.fr hf fun b m => by
      rcases List.mem_cons.mp m with rfl | m
      · rw [hacc]; simp
      · rw [show b = d by simpa using m]
        exact hk'.hd)
    refine gm _ _ _ _ _ (fun σ2 H2 hq => ⟨hq.1, ?_⟩) (step D i H hAl hk' (fun y H4 => ∃ acc, H4 D = some (.lst acc) ∧ acc.length < sizeLine ∧ PtsAt S H1 d s ns far D (i + 1) (upd H4 D (.lst (acc ++ [y])))) ?_)
    · exact hq.2
    · intro t H' p f k dq hp'
      have f' : Fr (D :: S) H H' := f.mono fun b m => by
        rw [show b = d by simpa using m]
        exact List.mem_cons_of_mem _ hd
      refine ⟨acc, f D _ (by simpa using hnd) hacc, ?_, ⟨acc ++ [.ref t], c ++ [p], upd_same, ?_, ?_, ?_⟩, ?_, ?_⟩
      · have := hA.len
        rw [List.length_map] at this
        have : (1000 : Nat) ≤ sizeLine := by decide
        omega
      · rw [List.map_append]
        exact ((hA.fr f').app (.one dq)).fr (Fr.upd (by simp))
      · rw [List.length_append, hl]
        rfl
      · intro p2 m
        rcases List.mem_append.mp m with m | m
        · exact hp p2 m
        · rw [show p2 = p by simpa using m]
          exact hp'
      · exact (hf.trans (f.mono fun b m => by simpa using Or.inr (show b = d by simpa using m))).trans (Fr.upd (by simp))
      · exact k.put hnd hns
  · intro H h
    obtain ⟨⟨acc, c, hacc, hA, hl, hp⟩, hf, hk'⟩ := h
    refine q D H c (fun b o n e => hf b o (fun m => ?_) e) hk' (.lst (hS.ni hD) hacc hA.tail) hl hp
    rcases List.mem_cons.mp m with rfl | m
    · rw [hD] at e; cases e
    · exact n m
/-- an outline that was drawn -/
structure OuIn (least : Nat) (far : Int) (o : List (List Pt)) : Prop where
  len : o.length ≤ 3
  cs : ∀ c, c ∈ o → least ≤ c.length ∧ c.length ≤ least + 5 ∧ ∀ p, p ∈ c → PtIn far p
end
def spOu : Sp := fun vs H Q _ => ∃ (d s : Addr) (ns : List Int) (least : Nat) (far : Int), vs = [.ref d, .int (least : Int), .int far] ∧ Dk d s ns H ∧ least ≤ 2 ∧ 130 ≤ far ∧ far ≤ 10 ^ 6 ∧
  ∀ t H' o, Fr [d] H H' → Dk d s ns H' → Dq [d] H' (.ref t) (ouD o) → OuIn least far o → Q (.ref t) H'
theorem g_sz {n : Nat} {A : Prop} (hn : n ≤ 1000) (h : A) : n ≤ sizeLine ∧ A := ⟨Nat.le_trans hn (by decide), h⟩
section
variable {σ : L2.St} {H : Hp} {te : TE} {D : Ends} {g : TG} {tb : TS}
/-- for _ in range(n): the number first, then the turns (te keeps its continuation: what it gives is put into te's own reading) -/
theorem g_forR_ (Pv : Nat → L2.St → Hp → Prop)
    (h : te σ H fun x H1 => ∃ n : Int, x = .int n ∧ -(2 ^ 62) ≤ n ∧ n < 2 ^ 62 ∧ Pv 0 σ H1 ∧ (∀ (i : Nat) σ' H', (i : Int) < n → Pv i σ' H' → g (.int (i : Int)) σ' H' fun σ2 H2 => tb { D with nx := Pv (i + 1), ct := Pv (i + 1), bk := D.nx } σ2 H2) ∧ ∀ σ' H', Pv n.toNat σ' H' → D.nx σ' H')
    (mono : ∀ Q Q' : VK, (∀ x H1, Q x H1 → Q' x H1) → te σ H Q → te σ H Q') : tFor (iRng1 (tCons te tNil)) g tb D σ H := by
  refine mono _ _ (fun x H1 q => ?_) h
  obtain ⟨n, rfl, h1, h2, p, hs, hd⟩ := q
  show ∃ j : Int, [V.int n] = [V.int j] ∧ _
  refine ⟨n, rfl, h1, h2, for_range Pv p (fun i σ' H' hi p' => ?_) hd⟩
  have e0 : (0 : Int) + (i : Int) = (i : Int) := Int.zero_add _
  rw [e0]
  exact hs i σ' H' (by omega) p'
end
section
variable {S : List Addr} {d s p : Addr} {ns : List Int} {H H' H2 : Hp} {v : V} {e : PyData} {u o : HO} {vs : List V} {es : List PyData}
theorem Dk.newH (h : H p = none) (k : Dk d s ns H) : Dk d s ns (upd H p u) := k.same (Fl.Same.new h)
theorem Dk.sm (h : Same H H') (k : Dk d s ns H) : Dk d s ns H' := k.same h
theorem Dq.sm (h : Same H H') (k : Dq S H v e) : Dq S H' v e := k.same h
theorem DqA.sm (h : Same H H') (k : DqA S H vs es) : DqA S H' vs es := k.same h
theorem Al.sm (h : Same H H') (k : Al S H) : Al S H' := k.same h
theorem Dq.ond (h : On d H H') (m : d ∈ S) (k : Dq S H v e) : Dq S H' v e := Dq.frd h.fr m k
theorem Al.ond (h : On d H H') (k : Dk d s ns H') (q : Al S H) : Al S H' := Al.frd h.fr k q
theorem Same.newT (h : H2 p = none) (k : Same H H2) : Same H (upd H2 p u) := L2.Same.trans k (Fl.Same.new h)
theorem Same.sm (h : Same H2 H') (k : Same H H2) : Same H H' := L2.Same.trans k h
theorem Fr.newT (h : H2 p = none) (k : Fr S H H2) : Fr S H (L2.upd H2 p u) := k.trans (Fr.new h)
theorem Fr.ond (h : On d H2 H') (k : Fr [d] H H2) : Fr [d] H H' := k.trans h.fr
theorem Fr.smT (h : Same H2 H') (k : Fr S H H2) : Fr S H H' := k.trans (Fr.same h)
theorem Fr.frT (h : Fr S H2 H') (k : Fr S H H2) : Fr S H H' := k.trans h
end
theorem Dk.ned2 {d s D : Addr} {ns : List Int} {H : Hp} (hD : H D = none) (h : Dk d s ns H) : D ≠ d := h.ned hD
theorem g_name {i : Nat} {v : V} {σ : L2.St} {H : Hp} {Q : L2.St → Hp → Prop} (q : Q (σ.set i (some v)) H) : gName i v σ H Q := q
theorem g_bm {K : PySem.W.Frag} {T : String} {r : V → List V → Hp → VK → Prop} {to : TE} {t : TA} {σ : L2.St} {H : Hp} {Q : VK} (h : to σ H fun x H1 => tyV K T x H1 ∧ t σ H1 fun xs H2 => r x xs H2 Q) : tBM K T r to t σ H Q := h
theorem g_app {l : Addr} {xs : List V} {y : V} {H : Hp} {Q : VK} (h : H l = some (.lst xs)) (hz : xs.length < 2000) (q : Q .non (upd H l (.lst (xs ++ [y])))) : rAppend (.ref l) [y] H Q := ⟨l, xs, y, rfl, rfl, h, Nat.lt_of_lt_of_le hz (by decide), q⟩
theorem g_ext {l b : Addr} {xs zs : List V} {H : Hp} {Q : VK} (h : H l = some (.lst xs)) (h2 : H b = some (.lst zs)) (hz : xs.length + zs.length ≤ 2000) (q : Q .non (upd H l (.lst (xs ++ zs)))) : rExtend (.ref l) [.ref b] H Q := ⟨l, b, xs, zs, rfl, rfl, h, h2, Nat.le_trans hz (by decide), q⟩
section
variable {K : PySem.W.Frag} {σ : L2.St} {H H1 : Hp} {Q : VK} {g : TG} {tt : TT} {te tx ty : TE} {tb : TS} {vs : List Nat} {D : Ends} {wi : TI} {R : It → Hp → Prop} {a b : Addr} {xs ys : List V}
theorem g_tyL {A : Prop} (h : SqL K H a xs) (q : A) : tyV K "list" (.ref a) H ∧ A := ⟨.inl ⟨rfl, _, h⟩, q⟩
theorem g_lc (h : wi σ H fun J H1 => lcK J g tt te vs σ H1 Q) : tLc wi g tt te vs σ H Q := h
theorem g_for (h : wi σ H fun J H1 => forK J g tb D σ H1) : tFor wi g tb D σ H := h
theorem g_rng1 (h : te σ H fun x H1 => ∃ j : Int, [x] = [V.int j] ∧ -(2 ^ 62) ≤ j ∧ j < 2 ^ 62 ∧ R (Itr 0 j.toNat) H1) : iRng1 (tCons te tNil) σ H R := h
theorem g_rng2 (h : tx σ H fun x H1 => ty σ H1 fun y H2 => ∃ i j : Int, [x, y] = [V.int i, V.int j] ∧ (-(2 ^ 62) ≤ i ∧ i < 2 ^ 62 ∧ -(2 ^ 62) ≤ j ∧ j < 2 ^ 62) ∧ R (Itr i (j - i).toNat) H2) : iRng2 (tCons tx (tCons ty tNil)) σ H R := h
theorem g_e1 {n : Int} {Z : Int → Prop} (h1 : -(2 ^ 62) ≤ n) (h2 : n < 2 ^ 62) (q : Z n) : ∃ j : Int, [V.int n] = [V.int j] ∧ -(2 ^ 62) ≤ j ∧ j < 2 ^ 62 ∧ Z j := ⟨n, rfl, h1, h2, q⟩
theorem g_e2 {i j : Int} {Z : Int → Int → Prop} (h : -(2 ^ 62) ≤ i ∧ i < 2 ^ 62 ∧ -(2 ^ 62) ≤ j ∧ j < 2 ^ 62) (q : Z i j) : ∃ k l : Int, [V.int i, V.int j] = [V.int k, V.int l] ∧ (-(2 ^ 62) ≤ k ∧ k < 2 ^ 62 ∧ -(2 ^ 62) ≤ l ∧ l < 2 ^ 62) ∧ Z k l := ⟨i, j, rfl, h, q⟩
theorem g_il (h : te σ H fun x H1 => ∃ a, x = .ref a ∧ (∃ xs, SqL K H1 a xs) ∧ R (Itl K a) H1) : iList K te σ H R := h
theorem g_el {Z : Addr → Prop} (h : SqL K H a xs) (q : Z a) : ∃ c, V.ref a = .ref c ∧ (∃ xs, SqL K H c xs) ∧ Z c := ⟨a, rfl, ⟨xs, h⟩, q⟩
theorem g_zip (h : tx σ H fun x H1 => ty σ H1 fun y H2 => ∃ a b xs ys, [x, y] = [V.ref a, V.ref b] ∧ SqL K H2 a xs ∧ SqL K H2 b ys ∧ R (Itz K a b) H2) : iZip K (tCons tx (tCons ty tNil)) σ H R := h
theorem g_ez {Z : Addr → Addr → Prop} (h1 : SqL K H a xs) (h2 : SqL K H b ys) (q : Z a b) : ∃ c d zs ws, [V.ref a, V.ref b] = [V.ref c, V.ref d] ∧ SqL K H c zs ∧ SqL K H d ws ∧ Z c d := ⟨a, b, xs, ys, rfl, h1, h2, q⟩
theorem forK_r {lo : Int} {n : Nat} (Pv : Nat → L2.St → Hp → Prop) (h0 : Pv 0 σ H)
    (hs : ∀ i σ H, i < n → Pv i σ H → g (.int (lo + i)) σ H fun σ2 H2 => tb { D with nx := Pv (i + 1), ct := Pv (i + 1), bk := D.nx } σ2 H2) (hd : ∀ σ H, Pv n σ H → D.nx σ H) : forK (Itr lo n) g tb D σ H := for_range Pv h0 hs hd
theorem forK_l (Pv : Nat → L2.St → Hp → Prop) (h0 : Pv 0 σ H) (hl : ∀ i σ H, i ≤ xs.length → Pv i σ H → SqL K H a xs)
    (hs : ∀ i x σ H, xs[i]? = some x → Pv i σ H → g x σ H fun σ2 H2 => tb { D with nx := Pv (i + 1), ct := Pv (i + 1), bk := D.nx } σ2 H2) (hd : ∀ σ H, Pv xs.length σ H → D.nx σ H) : forK (Itl K a) g tb D σ H := for_list Pv h0 hl hs hd
theorem forK_z (hl : xs.length = ys.length) (Pv : Nat → L2.St → Hp → Prop) (h0 : Pv 0 σ H) (hq : ∀ i σ H, Pv i σ H → SqL K H a xs ∧ SqL K H b ys)
    (hs : ∀ (i : Nat) (x y : V) (T : Addr) (σ : L2.St) (H : Hp), xs[i]? = some x → ys[i]? = some y → Pv i σ H → H T = none → g (.ref T) σ (upd H T (.tup [x, y])) fun σ2 H2 => tb { D with nx := Pv (i + 1), ct := Pv (i + 1), bk := D.nx } σ2 H2)
    (hd : ∀ σ H, Pv xs.length σ H → D.nx σ H) : forK (Itz K a b) g tb D σ H := RZ.for_zipL hl Pv h0 hq hs hd
end
section
variable {K : PySem.W.Frag} {H : Hp} {Q : VK} {a : Addr} {xs : List V} {x y z : V}
theorem g_slF {k : Nat} (h : SqL K H a xs) (q : ∀ p, H p = none → Q (.ref p) (upd H p (.lst (xs.drop k)))) : rSlL K (.ref a) (some (k : Int)) none H Q := g_slL h (by rw [cut_from]; exact q)
theorem g_slF1 (h : SqL K H a xs) (q : ∀ p, H p = none → Q (.ref p) (upd H p (.lst (xs.drop 1)))) : rSlL K (.ref a) (some 1) none H Q := g_slF (k := 1) h q
theorem g_slTo {k : Nat} (h : SqL K H a xs) (q : ∀ p, H p = none → Q (.ref p) (upd H p (.lst (xs.take k)))) : rSlL K (.ref a) none (some (k : Int)) H Q := g_slL h (by rw [cut_to]; exact q)
theorem g_slT1 (h : SqL K H a xs) (q : ∀ p, H p = none → Q (.ref p) (upd H p (.lst (xs.take 1)))) : rSlL K (.ref a) none (some 1) H Q := g_slTo (k := 1) h q
theorem g_slB (h : SqL K H a xs) (q : ∀ p, H p = none → Q (.ref p) (upd H p (.lst xs.dropLast))) : rSlL K (.ref a) none (some (-1)) H Q := g_slL h (by rw [cut_last]; exact q)
theorem g_slE (h : SqL K H a xs) (q : ∀ p, H p = none → Q (.ref p) (upd H p (.lst (xs.drop (xs.length - 1))))) : rSlL K (.ref a) (some (-1)) none H Q := g_slL h (by rw [cut_fromLast]; exact q)
theorem g_sl2 (h : SqT K H a [x, y, z]) (q : ∀ p, H p = none → Q (.ref p) (upd H p (.tup [x, y]))) : rSlT K (.ref a) none (some 2) H Q := g_slT h (by show ¬ (0 = 0 ∧ 2 = 3); decide) q
end
/-- a global number -/
theorem pe_gv {X : Cx} {x : Str} {pos : Pos} {v : V} (g : Gl X x) (h : ∃ u, X.mg x = some u ∧ RelV v u)
    (n : (x == ("__debug__" : Str)) = false := by decide) : PE X (.Name x pos) (tC v) := pe_glob g h.choose_spec.1 h.choose_spec.2 n
/-! the rules whose readings name the written part, for blocks within defs -/
section
variable {X : Cx} {K : PySem.W.Frag}
theorem ixT (e : X.K = K) : IxR X (rIxT K) := by subst e; exact ix_tup
theorem ixL (e : X.K = K) : IxR X (rIxL K) := by subst e; exact ix_list
theorem slL' (e : X.K = K) : SlR X (rSlL K) := by subst e; exact sl_list
theorem slT' (e : X.K = K) : SlR X (rSlT K) := by subst e; exact sl_tup
theorem clLen (e : X.K = K) : CallR X (.builtin "len") (Fl.rLen K) := by subst e; exact call_len'
theorem clList (e : X.K = K) : CallR X (.type "list") (Fl.rList K) := by subst e; exact call_list'
theorem clIsi (e : X.K = K) : CallR X (.builtin "isinstance") (rIsi K) := by subst e; exact call_isi
theorem opEqD (e : X.K = K) (hu : X.A.units + 64 < cLine) : OpR X (compareOp .Eq) (rEqD K) := by subst e; exact op_eqD hu
theorem opNeD (e : X.K = K) (hu : X.A.units + 64 < cLine) : OpR X (compareOp .NotEq) (rNeD K) := by subst e; exact op_neD hu
theorem opIn (e : X.K = K) : OpR X (compareOp .In) (rIn K false) := by subst e; exact op_in_seq
theorem opNotIn (e : X.K = K) : OpR X (compareOp .NotIn) (rIn K true) := by subst e; exact op_notIn_seq
def tTru (K : PySem.W.Frag) (ta : TE) : TT := fun σ H Q => ta σ H fun x H' => ∃ k, TruV K x H' k ∧ Q k H'
theorem ptTru {a : Expr} {ta : TE} (e : X.K = K) (ha : PE X a ta) (he : ∀ whole, isTrue a X.env whole = (do let v ← whole; standAt a.pos; holding [v] (truthy v))) : PT X a (tTru K ta) := by subst e; exact pt_truth ha he
theorem piL {l tg : Expr} {tl : TE} (e : X.K = K) (h : PE X l tl) : PI X tg l (iList K tl) := by subst e; exact pi_list h
theorem piT {l tg : Expr} {tl : TE} (e : X.K = K) (h : PE X l tl) : PI X tg l (iTup K tl) := by subst e; exact pi_tup h
theorem pgT {es : List Expr} {j : Nat} {t : TGs} {n : Nat} {pos : Pos} (e : X.K = K) (hc : X.calm = true) (h : PGs X es t)
    (hn : (assignEach es X.env).length = n := by rfl)
    (hst : (assignEach es X.env).findIdx? (·.1) = none := by rfl) : PG X (.Tuple es j pos) (gTup K n t) := by subst e; exact pg_tup hc h hn hst
theorem g_gtup {n : Nat} {t : TGs} {a : Addr} {xs : List V} {σ : L2.St} {H : Hp} {Q : L2.St → Hp → Prop} (h : SqT K H a xs) (e : xs.length = n) (q : t xs σ H Q) : gTup K n t (.ref a) σ H Q := ⟨a, xs, rfl, h, e, q⟩
theorem g_gcons {t : TG} {u : TGs} {v : V} {r : List V} {σ : L2.St} {H : Hp} {Q : L2.St → Hp → Prop} (q : t v σ H fun σ' H' => u r σ' H' Q) : gCons t u (v :: r) σ H Q := ⟨v, r, rfl, q⟩
theorem g_gnil {σ : L2.St} {H : Hp} {Q : L2.St → Hp → Prop} (q : Q σ H) : gNil [] σ H Q := ⟨rfl, q⟩
theorem g_truL {a : Addr} {xs : List V} {te : TE} {σ : L2.St} {H : Hp} {Q : Bool → Hp → Prop} (h : te σ H fun x H' => ∃ k, TruV K x H' k ∧ Q k H') : tTru K te σ H Q := h
end
theorem g_yes {te : TE} {R : VK} {N : Hp → Prop} {σ : L2.St} {H : Hp} (h : te σ H R) : tYes σ H fun b H3 => if b = true then te σ H3 R else N H3 := h
theorem fm_all {rs : List PyData} {n : Nat} (h : rs.length ≤ n) : (List.range n).filterMap (fun i => rs[i]?) = rs := by rw [fm_take, List.take_of_length_le h]
theorem DqA.getM {α : Type} {f : α → PyData} {S : List Addr} {H : Hp} {vs : List V} {c : List α} {i : Nat} {x : V} (h : DqA S H vs (c.map f)) (e : vs[i]? = some x) : ∃ p, c[i]? = some p ∧ Dq S H x (f p) := by
  obtain ⟨d, h1, h2⟩ := h.get e
  rw [List.getElem?_map] at h1
  cases hc : c[i]? with
  | none => rw [hc] at h1; cases h1
  | some p =>
    rw [hc] at h1
    cases h1
    exact ⟨p, rfl, h2⟩
theorem take_zip {α β : Type} {l : List α} {m : List β} {i : Nat} {x : α} {y : β} (h1 : l[i]? = some x) (h2 : m[i]? = some y) : (l.zip m).take (i + 1) = (l.zip m).take i ++ [(x, y)] := by
  rw [List.take_succ, (List.getElem?_zip_eq_some (z := (x, y))).mpr ⟨h1, h2⟩]
  rfl
theorem g_tru {K : PySem.W.Frag} {te : TE} {σ : L2.St} {H : Hp} {Q : Bool → Hp → Prop} (h : te σ H fun x H' => ∃ k, TruV K x H' k ∧ Q k H') : tTru K te σ H Q := h
theorem g_tru0 {K : PySem.W.Frag} {a : Addr} {H : Hp} {Z : Bool → Prop} (h : SqL K H a []) (q : Z false) : ∃ k, TruV K (.ref a) H k ∧ Z k := ⟨_, .inl ⟨_, h, rfl⟩, q⟩
theorem g_tru1 {K : PySem.W.Frag} {a : Addr} {x : V} {xs : List V} {H : Hp} {Z : Bool → Prop} (h : SqL K H a (x :: xs)) (q : Z true) : ∃ k, TruV K (.ref a) H k ∧ Z k := ⟨_, .inl ⟨_, h, rfl⟩, q⟩
theorem at0 {x : V} {xs : List V} : atI (x :: xs) 0 = some x := atI_nat (j := 0) rfl
theorem DqA.dl {S : List Addr} {H : Hp} {vs : List V} {ds : List PyData} (h : DqA S H vs ds) : DqA S H vs.dropLast ds.dropLast := by
  rw [List.dropLast_eq_take, List.dropLast_eq_take, h.len]
  exact h.take _
theorem dk_app {K : PySem.W.Frag} {a : Addr} {ns : List Int} {H : Hp} {Q : VK} {E : XK} (h : SqL K H a (ns.map V.int)) (k : ∀ d s H', Same H H' → Dk d s ns H' → Q (.ref d) H') : spDk K [.ref a] H Q E := ⟨a, ns, rfl, h, k⟩
def spLaw (K : PySem.W.Frag) : Sp := fun vs H Q _ => ∃ (a : Addr) (ns : List Int), vs = [.ref a] ∧ SqL K H a (ns.map V.int) ∧ ns.length ≤ 63 ∧ ∀ H', Q (.bl true) H'
theorem g_nn {A : Prop} (h : A) : V.non = V.non ∧ A := ⟨rfl, h⟩
end Fl

set_option Elab.async false
set_option linter.all false
set_option maxRecDepth 100000
set_option maxHeartbeats 4000000
/-! lines of contours: the mathematics -/
namespace Fl
open PySem PySem.Spec PyProof.Rows L2

abbrev Pr := Int × Int
def prD (p : Pr) : PyData := .tuple [.int p.1, .int p.2]
def lnD (l : List Pr) : PyData := .list (l.map prD)
def lsD (ls : List (List Pr)) : PyData := .list (ls.map lnD)
def pr (p : Pt) : Pr := (p.1, p.2.1)
def mid (p q : Pt) : Pt := ((p.1 + q.1) / 2, (p.2.1 + q.2.1) / 2, true)
def w1 (p q : Pt) : List Pt := if p.2.2 = true then [p] else if q.2.2 = true then [p] else [p, mid p q]
/-- a path and the point behind it, with its middle points -/
def wp : List Pt → Pt → List Pt
  | [], _ => []
  | [p], nx => w1 p nx
  | p :: q :: l, nx => w1 p q ++ wp (q :: l) nx
def wm : List Pt → List Pt
  | [] => []
  | p :: l => wp (p :: l) p
def cv (n a c b : Int) : Int := ((8 - n) * (8 - n) * a + 2 * n * (8 - n) * c + n * n * b + 32) / 64
def cp (a c b : Pt) (n : Nat) : Pr := (cv (n + 1) a.1 c.1 b.1, cv (n + 1) a.2.1 c.2.1 b.2.1)
def cvs (a c b : Pt) : List Pr := (List.range 8).map (cp a c b)
def cv7 (a c b : Pt) : List Pr := (List.range 7).map (cp a c b)
theorem cv_end (a c b : Int) : cv 8 a c b = b := by
  show ((8 - 8) * (8 - 8) * a + 2 * 8 * (8 - 8) * c + 8 * 8 * b + 32) / 64 = b
  omega
theorem cvs_eq (a c b : Pt) : cvs a c b = cv7 a c b ++ [pr b] := by
  have e : cp a c b 7 = pr b := Prod.ext (cv_end _ _ _) (cv_end _ _ _)
  rw [← e]
  rfl
/-- what the walk along a closed ring gives at a point -/
def s1 (a p b : Pt) : List Pr := if p.2.2 = true then (if b.2.2 = true then [pr b] else []) else cvs a p b
def e1 (a p b : Pt) : List Pr := if p.2.2 = true then [pr p] else cv7 a p b
def sp' : Pt → List Pt → List Pr
  | pv, p :: q :: l => s1 pv p q ++ sp' p (q :: l)
  | _, _ => []
def ep : Pt → List Pt → Pt → List Pr
  | _, [], _ => []
  | pv, [p], nx => e1 pv p nx
  | pv, p :: q :: l, nx => e1 pv p q ++ ep p (q :: l) nx
/-- no two neighbours are off -/
def Na : List Pt → Prop
  | p :: q :: l => (p.2.2 = true ∨ q.2.2 = true) ∧ Na (q :: l)
  | _ => True
theorem tele (h : Pt) (hh : h.2.2 = true) : ∀ (l : List Pt) (pv p : Pt), Na (p :: l ++ [h]) → (if p.2.2 = true then [pr p] else []) ++ sp' pv (p :: l ++ [h]) = ep pv (p :: l) h ++ [pr h]
  | [], pv, p, _ => by
    show (if p.2.2 = true then [pr p] else []) ++ (s1 pv p h ++ []) = e1 pv p h ++ [pr h]
    unfold s1 e1
    by_cases hp : p.2.2 = true
    · simp [hp, hh]
    · simp [hp, cvs_eq]
  | q :: l, pv, p, na => by
    have ih := tele h hh l p q na.2
    have hpq : p.2.2 = true ∨ q.2.2 = true := na.1
    show (if p.2.2 = true then [pr p] else []) ++ (s1 pv p q ++ sp' p (q :: l ++ [h])) = (e1 pv p q ++ ep p (q :: l) h) ++ [pr h]
    rw [List.append_assoc, ← ih]
    unfold s1 e1
    by_cases hp : p.2.2 = true
    · simp [hp]
    · have hq : q.2.2 = true := hpq.resolve_left hp
      simp [hp, hq, cvs_eq]

/-! by index -/
def p0 : Pt := (0, 0, false)
def st (pv : Pt) (cl : List Pt) (k : Nat) : List Pr := s1 (if k = 0 then pv else cl.getD (k - 1) p0) (cl.getD k p0) (cl.getD (k + 1) p0)
theorem st_sp : ∀ (l : List Pt) (pv p : Pt), (List.range l.length).flatMap (st pv (p :: l)) = sp' pv (p :: l)
  | [], _, _ => rfl
  | q :: l, pv, p => by
    have ih := st_sp l p q
    show (List.range (l.length + 1)).flatMap (st pv (p :: q :: l)) = s1 pv p q ++ sp' p (q :: l)
    rw [List.range_succ_eq_map, List.flatMap_cons, ← ih, List.flatMap_map]
    congr 1
    congr 1
    funext k
    cases k with
    | zero => rfl
    | succ k => rfl
def wz (c : List Pt) : List Pt := (c.zip (beg c 1)).flatMap fun z => w1 z.1 z.2
theorem wz_wp : ∀ (l : List Pt) (p nx : Pt), ((p :: l).zip (l ++ [nx])).flatMap (fun z => w1 z.1 z.2) = wp (p :: l) nx
  | [], _, _ => by simp [wp]
  | q :: l, p, nx => by
    have ih := wz_wp l q nx
    show w1 p q ++ ((q :: l).zip (l ++ [nx])).flatMap (fun z => w1 z.1 z.2) = w1 p q ++ wp (q :: l) nx
    rw [ih]
theorem wz_wm (c : List Pt) : wz c = wm c := by
  cases c with
  | nil => rfl
  | cons p l => exact wz_wp l p p
theorem w1_len (p q : Pt) : 1 ≤ (w1 p q).length ∧ (w1 p q).length ≤ 2 := by
  unfold w1
  split
  · simp
  · split <;> simp
theorem wp_len : ∀ (l : List Pt) (nx : Pt), l.length ≤ (wp l nx).length ∧ (wp l nx).length ≤ 2 * l.length
  | [], _ => ⟨Nat.le_refl _, Nat.le_refl _⟩
  | [p], nx => w1_len p nx
  | p :: q :: l, nx => by
    have ih := wp_len (q :: l) nx
    have := w1_len p q
    show _ ≤ (w1 p q ++ wp (q :: l) nx).length ∧ (w1 p q ++ wp (q :: l) nx).length ≤ _
    rw [List.length_append]
    simp only [List.length_cons] at *
    omega
theorem wm_len (c : List Pt) : c.length ≤ (wm c).length ∧ (wm c).length ≤ 2 * c.length := by
  cases c with
  | nil => exact ⟨Nat.le_refl _, Nat.le_refl _⟩
  | cons p l => exact wp_len _ _
theorem w1_head (p q : Pt) : ∃ t, w1 p q = p :: t := by
  unfold w1
  split
  · exact ⟨_, rfl⟩
  · split <;> exact ⟨_, rfl⟩
theorem wp_head (p : Pt) (l : List Pt) (nx : Pt) : ∃ t, wp (p :: l) nx = p :: t := by
  cases l with
  | nil => exact w1_head p nx
  | cons q l =>
    obtain ⟨t, e⟩ := w1_head p q
    refine ⟨t ++ wp (q :: l) nx, ?_⟩
    show w1 p q ++ _ = _
    rw [e]
    rfl
/-- in which box -/
def InB (P : Pt → Prop) : Prop := ∀ p q, P p → P q → P (mid p q)
theorem w1_in {P : Pt → Prop} (hP : InB P) {p q x : Pt} (hp : P p) (hq : P q) (m : x ∈ w1 p q) : P x := by
  unfold w1 at m
  split at m
  · rw [show x = p by simpa using m]; exact hp
  · split at m
    · rw [show x = p by simpa using m]; exact hp
    · rcases List.mem_cons.mp m with rfl | m
      · exact hp
      · rw [show x = mid p q by simpa using m]
        exact hP p q hp hq
theorem wp_in {P : Pt → Prop} (hP : InB P) : ∀ (l : List Pt) (nx : Pt), (∀ p, p ∈ l → P p) → P nx → ∀ x, x ∈ wp l nx → P x
  | [], _, _, _, _, m => nomatch m
  | [p], nx, h, hn, x, m => w1_in hP (h p (by simp)) hn m
  | p :: q :: l, nx, h, hn, x, m => by
    rcases List.mem_append.mp (show x ∈ w1 p q ++ wp (q :: l) nx from m) with m | m
    · exact w1_in hP (h p (by simp)) (h q (by simp)) m
    · exact wp_in hP (q :: l) nx (fun z mz => h z (List.mem_cons_of_mem _ mz)) hn x m
theorem wm_in {P : Pt → Prop} (hP : InB P) {c : List Pt} (h : ∀ p, p ∈ c → P p) : ∀ x, x ∈ wm c → P x := by
  cases c with
  | nil => intro x m; cases m
  | cons p l => exact wp_in hP _ _ h (h p (by simp))
theorem mem_beg {α : Type} {c : List α} {k : Nat} {x : α} : x ∈ beg c k ↔ x ∈ c := by
  unfold beg
  rw [List.mem_append]
  constructor
  · rintro (m | m)
    · exact List.mem_of_mem_drop m
    · exact List.mem_of_mem_take m
  · intro m
    rw [← List.take_append_drop k c] at m
    rcases List.mem_append.mp m with m | m
    · exact .inr m
    · exact .inl m
theorem beg_len {α : Type} (c : List α) (k : Nat) : (beg c k).length = c.length := by
  unfold beg
  rw [List.length_append, List.length_drop, List.length_take]
  omega
/-- the indexes of the points that are on -/
def ps (c : List Pt) : List Nat := (List.range c.length).filter fun i => (c.getD i p0).2.2
def ro (c : List Pt) : List Pt := match ps c with
  | [] => (wm c).drop ((wm c).length - 1) ++ (wm c).dropLast
  | k :: _ => wm (beg c k)
theorem inB_in (b : Int) : InB (PtIn b) := fun p q hp hq => by
  obtain ⟨h1, h2, h3, h4⟩ := hp
  obtain ⟨g1, g2, g3, g4⟩ := hq
  refine ⟨?_, ?_, ?_, ?_⟩
  · show -b ≤ (p.1 + q.1) / 2; omega
  · show (p.1 + q.1) / 2 ≤ b; omega
  · show -b ≤ (p.2.1 + q.2.1) / 2; omega
  · show (p.2.1 + q.2.1) / 2 ≤ b; omega
theorem ro_in {P : Pt → Prop} (hP : InB P) {c : List Pt} (h : ∀ p, p ∈ c → P p) : ∀ x, x ∈ ro c → P x := by
  intro x m
  unfold ro at m
  split at m
  · refine wm_in hP h x ?_
    rcases List.mem_append.mp m with m | m
    · exact List.mem_of_mem_drop m
    · exact List.dropLast_subset _ m
  · exact wm_in hP (fun p mp => h p (mem_beg.mp mp)) x m
theorem ro_len (c : List Pt) : (ro c).length ≤ 2 * c.length ∧ c.length ≤ (ro c).length := by
  unfold ro
  split
  · have := wm_len c
    rw [List.length_append, List.length_drop, List.length_dropLast]
    omega
  · rename_i k _ _
    have := wm_len (beg c k)
    rw [beg_len] at this
    omega
/-- the line of a contour -/
def lnOf (c : List Pt) : List Pr := match ro c with
  | [] => []
  | r :: l => (pr r :: (List.range (r :: l).length).flatMap (st p0 (r :: l ++ [r]))).dropLast
/-! promises -/
def fMid (ds : List PyData) (d : PyData) : Prop := ∃ p q : Pt, ds = [ptD p, ptD q] ∧ d = ptD (mid p q)
def spCv : Sp := fun vs H Q _ => ∃ n a c b : Int, vs = [.int n, .int a, .int c, .int b] ∧ 0 ≤ n ∧ n ≤ 8 ∧ a.natAbs ≤ 10 ^ 7 ∧ c.natAbs ≤ 10 ^ 7 ∧ b.natAbs ≤ 10 ^ 7 ∧ Q (.int (cv n a c b)) H
theorem cv_app {n a c b : Int} {H : Hp} {Q : VK} {E : XK} (h1 : 0 ≤ n) (h2 : n ≤ 8) (h3 : a.natAbs ≤ 10 ^ 7) (h4 : c.natAbs ≤ 10 ^ 7) (h5 : b.natAbs ≤ 10 ^ 7) (q : Q (.int (cv n a c b)) H) : spCv [.int n, .int a, .int c, .int b] H Q E := ⟨n, a, c, b, rfl, h1, h2, h3, h4, h5, q⟩
def fCur (ds : List PyData) (d : PyData) : Prop := ∃ a c b : Pt, ds = [ptD a, ptD c, ptD b] ∧ PtIn (10 ^ 6) a ∧ PtIn (10 ^ 6) c ∧ PtIn (10 ^ 6) b ∧ d = lnD (cvs a c b)
def fWm (ds : List PyData) (d : PyData) : Prop := ∃ c : List Pt, ds = [ctD c] ∧ c.length ≤ 100 ∧ d = ctD (wm c)
def fRo (ds : List PyData) (d : PyData) : Prop := ∃ c : List Pt, ds = [ctD c] ∧ c.length ≤ 100 ∧ d = ctD (ro c)
def fLo (ds : List PyData) (d : PyData) : Prop := ∃ c : List Pt, ds = [ctD c] ∧ c.length ≤ 100 ∧ (∀ p, p ∈ c → PtIn (10 ^ 6) p) ∧ d = lnD (lnOf c)
def fLs (ds : List PyData) (d : PyData) : Prop := ∃ o : List (List Pt), ds = [ouD o] ∧ o.length ≤ 100 ∧ (∀ c, c ∈ o → c.length ≤ 100 ∧ ∀ p, p ∈ c → PtIn (10 ^ 6) p) ∧ d = lsD (o.map lnOf)
theorem fm_filter {α β : Type} (p : α → Bool) (f : α → β) : ∀ l : List α, l.filterMap (fun i => if p i = true then some (f i) else none) = (l.filter p).map f
  | [] => rfl
  | x :: l => by
    rw [List.filterMap_cons, List.filter_cons, fm_filter p f l]
    by_cases h : p x = true
    · simp [h]
    · simp [h]
theorem ps_fm (c : List Pt) : (List.range c.length).filterMap (fun i => if (c.getD i p0).2.2 = true then some (PyData.int (i : Int)) else none) = (ps c).map fun i : Nat => PyData.int (i : Int) := fm_filter _ _ _
theorem ps_lt {c : List Pt} {k : Nat} (h : k ∈ ps c) : k < c.length := by
  unfold ps at h
  exact List.mem_range.mp (List.mem_filter.mp h).1
theorem ps_on {c : List Pt} {k : Nat} (h : k ∈ ps c) : (c.getD k p0).2.2 = true := (List.mem_filter.mp h).2
/-! a ring begins with a point that is on -/
theorem w1_last (p q : Pt) : p.2.2 = false → q.2.2 = false → (w1 p q).getLast? = some (mid p q) := fun h1 h2 => by
  unfold w1
  simp [h1, h2]
theorem wp_last_off : ∀ (l : List Pt) (p nx : Pt), (∀ x, x ∈ p :: l → x.2.2 = false) → nx.2.2 = false → ∃ z, (wp (p :: l) nx).getLast? = some z ∧ z.2.2 = true
  | [], p, nx, h, hn => ⟨mid p nx, w1_last p nx (h p (by simp)) hn, rfl⟩
  | q :: l, p, nx, h, hn => by
    obtain ⟨z, e, hz⟩ := wp_last_off l q nx (fun x m => h x (List.mem_cons_of_mem _ m)) hn
    refine ⟨z, ?_, hz⟩
    show (w1 p q ++ wp (q :: l) nx).getLast? = _
    rw [List.getLast?_append, e]
    rfl
theorem beg_head {α : Type} {c : List α} {k : Nat} {x : α} (h : c[k]? = some x) : ∃ t, beg c k = x :: t := by
  unfold beg
  have hk := (List.getElem?_eq_some_iff.mp h).1
  rw [List.drop_eq_getElem_cons hk, (List.getElem?_eq_some_iff.mp h).2]
  exact ⟨_, rfl⟩
theorem getD_of {c : List Pt} {k : Nat} {x : Pt} (h : c[k]? = some x) : c.getD k p0 = x := by
  rw [List.getD_eq_getElem?_getD, h]
  rfl
theorem ro_on {c : List Pt} {r : Pt} {l : List Pt} (h : ro c = r :: l) : r.2.2 = true := by
  unfold ro at h
  cases hps : ps c with
  | nil =>
    rw [hps] at h
    have h : (wm c).drop ((wm c).length - 1) ++ (wm c).dropLast = r :: l := h
    cases c with
    | nil => cases h
    | cons p t =>
      have off : ∀ x, x ∈ p :: t → x.2.2 = false := fun x m => by
        obtain ⟨i, hi⟩ := List.getElem?_of_mem m
        cases hx : x.2.2 with
        | false => rfl
        | true =>
          have : i ∈ ps (p :: t) := by
            refine List.mem_filter.mpr ⟨List.mem_range.mpr (List.getElem?_eq_some_iff.mp hi).1, ?_⟩
            rw [getD_of hi]
            exact hx
          rw [hps] at this
          cases this
      obtain ⟨z, e, hz⟩ := wp_last_off t p p off (off p (by simp))
      have e' : (wm (p :: t)).drop ((wm (p :: t)).length - 1) = [z] := by
        have e2 : (wm (p :: t)).getLast? = some z := e
        rw [List.getLast?_eq_getElem?] at e2
        have hlt := (List.getElem?_eq_some_iff.mp e2).1
        rw [List.drop_eq_getElem_cons hlt, (List.getElem?_eq_some_iff.mp e2).2, List.drop_of_length_le (by omega)]
      rw [e'] at h
      have : z = r := by
        have h : z :: (wm (p :: t)).dropLast = r :: l := h
        exact (List.cons.inj h).1
      rw [← this]
      exact hz
  | cons k t =>
    rw [hps] at h
    have h : wm (beg c k) = r :: l := h
    have hk : k ∈ ps c := by rw [hps]; simp
    have hkl : k < c.length := ps_lt hk
    have hx : c[k]? = some c[k] := List.getElem?_eq_getElem hkl
    have hon := ps_on hk
    rw [getD_of hx] at hon
    obtain ⟨u, hu⟩ := beg_head hx
    rw [hu] at h
    obtain ⟨v, hv⟩ := wp_head c[k] u c[k]
    have h : wp (c[k] :: u) c[k] = r :: l := h
    rw [hv] at h
    rw [← (List.cons.inj h).1]
    exact hon
end Fl

set_option Elab.async false
set_option linter.all false
set_option maxRecDepth 100000
set_option maxHeartbeats 4000000
/-! the line of a contour, in a closed form; it goes around with the contour -/
namespace Fl
open PySem PySem.Spec PyProof.Rows L2

def Rot {α : Type} (a b : List α) : Prop := ∃ u v, a = u ++ v ∧ b = v ++ u
theorem Rot.refl {α : Type} (a : List α) : Rot a a := ⟨a, [], by simp, by simp⟩
theorem Rot.symm {α : Type} {a b : List α} (h : Rot a b) : Rot b a := by
  obtain ⟨u, v, rfl, rfl⟩ := h
  exact ⟨v, u, rfl, rfl⟩
theorem Rot.trans {α : Type} {a b c : List α} (h : Rot a b) (k : Rot b c) : Rot a c := by
  obtain ⟨u, v, rfl, hb⟩ := h
  obtain ⟨u', v', rfl, rfl⟩ := k
  rcases List.append_eq_append_iff.mp hb with ⟨w, h1, h2⟩ | ⟨w, h1, h2⟩
  · -- v = u' ++ w, v' = w ++ u
    subst h1 h2
    exact ⟨u ++ u', w, by simp, by simp⟩
  · subst h1 h2
    exact ⟨w, v' ++ v, by simp, by simp⟩
theorem Rot.beg {α : Type} (a : List α) (k : Nat) : Rot a (Fl.beg a k) := ⟨a.take k, a.drop k, (List.take_append_drop k a).symm, rfl⟩
theorem Rot.len {α : Type} {a b : List α} (h : Rot a b) : a.length = b.length := by
  obtain ⟨u, v, rfl, rfl⟩ := h
  simp [Nat.add_comm]
/-- a turn by less than the whole length -/
theorem Rot.ex {α : Type} {a b : List α} (h : Rot a b) (n : a ≠ []) : ∃ k, k < a.length ∧ Fl.beg a k = b := by
  obtain ⟨u, v, rfl, rfl⟩ := h
  cases v with
  | nil =>
    refine ⟨0, ?_, ?_⟩
    · cases u with
      | nil => exact absurd rfl n
      | cons x u => simp
    · unfold Fl.beg
      simp
  | cons x v =>
    refine ⟨u.length, by simp, ?_⟩
    unfold Fl.beg
    simp

/-! middle points go around -/
theorem wp_app : ∀ (u : List Pt) (p : Pt) (v : List Pt) (nx : Pt), wp (u ++ p :: v) nx = wp u p ++ wp (p :: v) nx
  | [], _, _, _ => rfl
  | [x], p, v, nx => rfl
  | x :: y :: u, p, v, nx => by
    show w1 x y ++ wp (y :: u ++ p :: v) nx = (w1 x y ++ wp (y :: u) p) ++ wp (p :: v) nx
    rw [wp_app (y :: u) p v nx, List.append_assoc]
theorem wm_rot {a b : List Pt} (h : Rot a b) : Rot (wm a) (wm b) := by
  obtain ⟨u, v, rfl, rfl⟩ := h
  cases u with
  | nil => simpa using Rot.refl _
  | cons x u =>
    cases v with
    | nil => simpa using Rot.refl _
    | cons y v =>
      have e1 : wm (x :: u ++ y :: v) = wp (x :: u) y ++ wp (y :: v) x := wp_app (x :: u) y v x
      have e2 : wm (y :: v ++ x :: u) = wp (y :: v) x ++ wp (x :: u) y := wp_app (y :: v) x u y
      exact ⟨_, _, e1, e2⟩
theorem ro_rot (c : List Pt) : Rot (wm c) (ro c) := by
  unfold ro
  cases ps c with
  | nil =>
    refine ⟨(wm c).dropLast, (wm c).drop ((wm c).length - 1), ?_, rfl⟩
    rw [List.dropLast_eq_take, List.take_append_drop]
  | cons k l => exact wm_rot (Rot.beg c k)

/-! no two neighbours are off, around -/
def Nc : List Pt → Pt → Prop
  | [], _ => True
  | [p], nx => p.2.2 = true ∨ nx.2.2 = true
  | p :: q :: l, nx => (p.2.2 = true ∨ q.2.2 = true) ∧ Nc (q :: l) nx
theorem Nc.app : ∀ (u : List Pt) (p : Pt) (v : List Pt) (nx : Pt), Nc (u ++ p :: v) nx ↔ Nc u p ∧ Nc (p :: v) nx
  | [], _, _, _ => by simp [Nc]
  | [x], p, v, nx => by
    show (x.2.2 = true ∨ p.2.2 = true) ∧ Nc (p :: v) nx ↔ _
    rfl
  | x :: y :: u, p, v, nx => by
    show (x.2.2 = true ∨ y.2.2 = true) ∧ Nc (y :: u ++ p :: v) nx ↔ ((x.2.2 = true ∨ y.2.2 = true) ∧ Nc (y :: u) p) ∧ Nc (p :: v) nx
    rw [Nc.app (y :: u) p v nx, and_assoc]
theorem Nc.na : ∀ (l : List Pt) (nx : Pt), Nc l nx → Na (l ++ [nx])
  | [], _, _ => trivial
  | [p], nx, h => ⟨h, trivial⟩
  | p :: q :: l, nx, h => ⟨h.1, Nc.na (q :: l) nx h.2⟩
theorem w1_nc (p q : Pt) : Nc (w1 p q) q := by
  unfold w1
  by_cases hp : p.2.2 = true
  · rw [if_pos hp]; exact .inl hp
  · rw [if_neg hp]
    by_cases hq : q.2.2 = true
    · rw [if_pos hq]; exact .inr hq
    · rw [if_neg hq]
      exact ⟨.inr rfl, .inl rfl⟩
theorem wp_nc : ∀ (l : List Pt) (nx : Pt), Nc (wp l nx) nx
  | [], _ => trivial
  | [p], nx => w1_nc p nx
  | p :: q :: l, nx => by
    obtain ⟨t, e⟩ := wp_head q l nx
    have ih := wp_nc (q :: l) nx
    show Nc (w1 p q ++ wp (q :: l) nx) nx
    rw [e] at ih ⊢
    exact (Nc.app _ _ _ _).mpr ⟨w1_nc p q, ih⟩
/-- around -/
def Nr : List Pt → Prop
  | [] => True
  | p :: l => Nc (p :: l) p
theorem Nr.rot {a b : List Pt} (h : Rot a b) (k : Nr a) : Nr b := by
  obtain ⟨u, v, rfl, rfl⟩ := h
  cases u with
  | nil => simpa using k
  | cons x u =>
    cases v with
    | nil => simpa using k
    | cons y v =>
      have k : Nc (x :: u ++ y :: v) x := k
      show Nc (y :: v ++ x :: u) y
      rw [Nc.app] at k ⊢
      exact ⟨k.2, k.1⟩
theorem wm_nr (c : List Pt) : Nr (wm c) := by
  cases c with
  | nil => trivial
  | cons p l =>
    obtain ⟨t, e⟩ := wp_head p l p
    have h := wp_nc (p :: l) p
    show Nr (wp (p :: l) p)
    rw [e] at h ⊢
    exact h
theorem ro_nr (c : List Pt) : Nr (ro c) := (wm_nr c).rot (ro_rot c)

/-! the line, around -/
def er (l : List Pt) : List Pr := match l with
  | [] => []
  | p :: t => ep ((p :: t).getLast (by simp)) (p :: t) p
theorem ep_app : ∀ (u : List Pt) (pv p : Pt) (v : List Pt) (nx x : Pt), ep pv (x :: u ++ p :: v) nx = ep pv (x :: u) p ++ ep ((x :: u).getLast (by simp)) (p :: v) nx
  | [], _, _, _, _, _ => rfl
  | y :: u, pv, p, v, nx, x => by
    have ih := ep_app u x p v nx y
    show e1 pv x y ++ ep x (y :: u ++ p :: v) nx = (e1 pv x y ++ ep x (y :: u) p) ++ ep ((x :: y :: u).getLast (by simp)) (p :: v) nx
    rw [ih, List.append_assoc]
    rfl
theorem er_rot {a b : List Pt} (h : Rot a b) : Rot (er a) (er b) := by
  obtain ⟨u, v, rfl, rfl⟩ := h
  cases u with
  | nil => simpa using Rot.refl _
  | cons x u =>
    cases v with
    | nil => simpa using Rot.refl _
    | cons y v =>
      have g1 : (x :: u ++ y :: v).getLast (by simp) = (y :: v).getLast (by simp) := List.getLast_append_of_ne_nil (by simp) (by simp)
      have g2 : (y :: v ++ x :: u).getLast (by simp) = (x :: u).getLast (by simp) := List.getLast_append_of_ne_nil (by simp) (by simp)
      refine ⟨ep ((y :: v).getLast (by simp)) (x :: u) y, ep ((x :: u).getLast (by simp)) (y :: v) x, ?_, ?_⟩
      · show ep ((x :: u ++ y :: v).getLast (by simp)) (x :: u ++ y :: v) x = _
        rw [g1, ep_app]
      · show ep ((y :: v ++ x :: u).getLast (by simp)) (y :: v ++ x :: u) y = _
        rw [g2, ep_app]
theorem lnOf_er (c : List Pt) : lnOf c = er (ro c) := by
  unfold lnOf
  have hn := ro_nr c
  cases hro : ro c with
  | nil => rfl
  | cons r l =>
    have hr := ro_on hro
    rw [hro] at hn
    have hna : Na (r :: l ++ [r]) := Nc.na _ _ hn
    have h1 := tele r hr l ((r :: l).getLast (by simp)) r hna
    rw [if_pos hr] at h1
    have h2 : (List.range (r :: l).length).flatMap (st p0 (r :: l ++ [r])) = sp' p0 (r :: l ++ [r]) := by
      have := st_sp (l ++ [r]) p0 r
      rw [List.length_append] at this
      exact this
    have h3 : sp' p0 (r :: l ++ [r]) = sp' ((r :: l).getLast (by simp)) (r :: l ++ [r]) := by
      cases l with
      | nil =>
        show s1 _ r r ++ [] = s1 _ r r ++ []
        unfold s1
        simp [hr]
      | cons q l =>
        show s1 _ r q ++ _ = s1 _ r q ++ _
        unfold s1
        simp [hr]
    show (pr r :: (List.range (r :: l).length).flatMap (st p0 (r :: l ++ [r]))).dropLast = ep ((r :: l).getLast (by simp)) (r :: l) r
    rw [h2, h3]
    have h4 : pr r :: sp' ((r :: l).getLast (by simp)) (r :: l ++ [r]) = ep ((r :: l).getLast (by simp)) (r :: l) r ++ [pr r] := h1
    rw [h4, List.dropLast_concat]
theorem lnOf_rot {a b : List Pt} (h : Rot a b) : Rot (lnOf a) (lnOf b) := by
  rw [lnOf_er, lnOf_er]
  exact er_rot ((ro_rot a).symm.trans ((wm_rot h).trans (ro_rot b)))
theorem lnOf_ne {c : List Pt} (h : c ≠ []) : lnOf c ≠ [] := by
  rw [lnOf_er]
  have hl := ro_len c
  cases hro : ro c with
  | nil =>
    rw [hro] at hl
    exact absurd (List.eq_nil_of_length_eq_zero (by simpa using hl.2)) h
  | cons r l =>
    have hr := ro_on hro
    show ep _ (r :: l) r ≠ []
    cases l with
    | nil =>
      show e1 _ r r ≠ []
      unfold e1
      rw [if_pos hr]
      simp
    | cons q l =>
      show e1 _ r q ++ _ ≠ []
      unfold e1
      rw [if_pos hr]
      simp
end Fl
namespace Fl
open PySem PySem.Spec PyProof.Rows L2
theorem canLay_all (P : PyData → Prop) (h : ∀ d, P d → d.canLay0 = true) : ∀ ds : List PyData, (∀ d, d ∈ ds → P d) → PyData.canLayAll0 ds = true
  | [], _ => by simp [PyData.canLayAll0]
  | d :: ds, k => by
    simp [PyData.canLayAll0, h d (k d (by simp)), canLay_all P h ds (fun e m => k e (List.mem_cons_of_mem _ m))]
theorem depth_all (n : Nat) : ∀ ds : List PyData, (∀ d, d ∈ ds → d.depth ≤ n) → PyData.depthAll ds ≤ n
  | [], _ => by simp [PyData.depthAll]
  | d :: ds, k => by
    have h1 := k d (by simp)
    have h2 := depth_all n ds (fun e m => k e (List.mem_cons_of_mem _ m))
    simp only [PyData.depthAll]
    omega
theorem sh_list {ds : List PyData} {n : Nat} (h : ∀ d, d ∈ ds → d.canLay0 = true ∧ d.depth ≤ n) (hn : n < 64) : SeqAt.shaped (.list ds) = true := by
  unfold SeqAt.shaped
  have h1 := canLay_all (fun d => d.canLay0 = true) (fun _ h => h) ds (fun d m => (h d m).1)
  have h2 := depth_all n ds (fun d m => (h d m).2)
  have h3 : (PyData.list ds).depth = PyData.depthAll ds + 1 := by simp [PyData.depth]
  have h4 : (PyData.list ds).canLay0 = true := by simp [PyData.canLay0, h1]
  rw [h4, Bool.true_and, decide_eq_true_eq, h3]
  omega
theorem pr_lay (p : Pr) : (prD p).canLay0 = true ∧ (prD p).depth ≤ 1 := by
  unfold prD
  simp [PyData.canLay0, PyData.canLayAll0, PyData.depth, PyData.depthAll]
theorem sh_ln (l : List Pr) : SeqAt.shaped (lnD l) = true := sh_list (n := 1) (fun d m => by
  obtain ⟨p, _, rfl⟩ := List.mem_map.mp m
  exact pr_lay p) (by decide)
theorem eqv_self {d : PyData} (h : SeqAt.shaped d = true) : PyData.eqv d d = true := SeqAt.eqv_refl d (SeqAt.canLay_of_shaped h)
theorem g_eqD {K : PySem.W.Frag} {S T : List Addr} {H : Hp} {x y : V} {d e : PyData} {Q : VK} (h1 : Dq S H x d) (h2 : Dq T H y e) (s1 : SeqAt.shaped d = true) (s2 : SeqAt.shaped e = true) (q : Q (.bl (PyData.eqv d e)) H) : rEqD K x y H Q :=
  ⟨d, e, h1.dp (nodict_sh s1), h2.dp (nodict_sh s2), s1, s2, q⟩
theorem g_neD' {K : PySem.W.Frag} {S T : List Addr} {H : Hp} {x y : V} {d e : PyData} {Q : VK} (h1 : Dq S H x d) (h2 : Dq T H y e) (s1 : SeqAt.shaped d = true) (s2 : SeqAt.shaped e = true) (q : Q (.bl (!PyData.eqv d e)) H) : rNeD K x y H Q :=
  ⟨d, e, h1.dp (nodict_sh s1), h2.dp (nodict_sh s2), s1, s2, q⟩
end Fl
namespace Fl
open PySem PySem.Spec PyProof.Rows L2
theorem e1_len (a p b : Pt) : (e1 a p b).length ≤ 7 := by
  unfold e1
  split
  · simp
  · simp [cv7]
theorem ep_len : ∀ (l : List Pt) (pv nx : Pt), (ep pv l nx).length ≤ 7 * l.length
  | [], _, _ => Nat.le_refl _
  | [p], pv, nx => e1_len pv p nx
  | p :: q :: l, pv, nx => by
    have ih := ep_len (q :: l) p nx
    have h := e1_len pv p q
    show (e1 pv p q ++ ep p (q :: l) nx).length ≤ _
    rw [List.length_append]
    simp only [List.length_cons] at *
    omega
theorem lnOf_len (c : List Pt) : (lnOf c).length ≤ 14 * c.length := by
  rw [lnOf_er]
  have h := (ro_len c).1
  unfold er
  cases hro : ro c with
  | nil => simp
  | cons r l =>
    rw [hro] at h
    have := ep_len (r :: l) ((r :: l).getLast (by simp)) r
    show (ep ((r :: l).getLast (by simp)) (r :: l) r).length ≤ _
    omega
end Fl

set_option Elab.async false
set_option linter.all false
set_option maxRecDepth 100000
set_option maxHeartbeats 4000000
/-! flattened lists; least and greatest numbers; the same data twice -/
namespace Fl
open PySem PySem.Spec PyProof.Rows L2
section
variable {K : PySem.W.Frag} {S : List Addr} {H1 : Hp} {Q : VK}
def lc2K (J : It) (g : TG) (tt : TT) (wi1 : TI) (g1 : TG) (tt1 : TT) (te : TE) (vs vs1 : List Nat) (σ : L2.St) (H1 : Hp) (Q : VK) : Prop :=
  ∀ B, H1 B = none → ∃ W : Nat → Nat → Hp → Prop, (∃ m, W 0 m (upd H1 B (.lst []))) ∧ ∀ i m H, W i m H →
    (J.stop i H ∧ Q (.ref B) H) ∨ (J.go i H ∧ ∃ Nx : Hp → Prop, (∀ H', Nx H' → ∃ m', m' < m ∧ W (i + 1) m' H') ∧
      ∀ x H', J.yld i H x H' → g x (wipe σ vs) H' fun σ2 H2 => wipe σ2 vs = wipe σ vs ∧ tt σ2 H2 fun b H3 =>
        if b = true then wi1 σ2 H3 fun J1 H4 => ∃ W1 : Nat → Nat → Hp → Prop, (∃ m, W1 0 m H4) ∧ ∀ j k H, W1 j k H →
          (J1.stop j H ∧ Nx H) ∨ (J1.go j H ∧ ∃ Nx1 : Hp → Prop, (∀ H', Nx1 H' → ∃ k', k' < k ∧ W1 (j + 1) k' H') ∧
            ∀ x H', J1.yld j H x H' → g1 x (wipe σ2 vs1) H' fun σ3 H5 => wipe σ3 vs1 = wipe σ2 vs1 ∧ tt1 σ3 H5 fun b H6 =>
              if b = true then te σ3 H6 fun y H7 => ∃ acc, H7 B = some (.lst acc) ∧ acc.length < sizeLine ∧ Nx1 (upd H7 B (.lst (acc ++ [y]))) else Nx1 H6)
        else Nx H3)
theorem g_lc2 {wi : TI} {g : TG} {tt : TT} {wi1 : TI} {g1 : TG} {tt1 : TT} {te : TE} {vs vs1 : List Nat} {σ : L2.St} {H : Hp} (h : wi σ H fun J H1 => lc2K J g tt wi1 g1 tt1 te vs vs1 σ H1 Q) : tLc2 wi g tt wi1 g1 tt1 te vs vs1 σ H Q := h
theorem g_yesI {A B : Hp → Prop} {σ : L2.St} {H : Hp} (h : A H) : tYes σ H (fun b H3 => if b = true then A H3 else B H3) := h
structure FlatAt (S : List Addr) (H1 : Hp) (D : Addr) (ds : List PyData) (H : Hp) : Prop where
  ex : ∃ acc, H D = some (.lst acc) ∧ DqA (D :: S) H acc ds
  fr : Fr [D] H1 H
/-- [y for x in xs for y in x] -/
theorem lcLL {a : Addr} {es : List (List PyData)} {vs vs1 : List Nat} {σ : L2.St} {i0 j0 : Nat} (hS : Al S H1) (ha : Dq S H1 (.ref a) (.list (es.map PyData.list))) (hz : es.flatten.length < 1000)
    (hw : ∀ x, wipe ((wipe σ vs).set i0 (some x)) vs = wipe σ vs) (hw1 : ∀ x y, wipe ((wipe ((wipe σ vs).set i0 (some x)) vs1).set j0 (some y)) vs1 = wipe ((wipe σ vs).set i0 (some x)) vs1)
    (hi0 : ∀ x, ((wipe σ vs).set i0 (some x))[i0]? = some (some x)) (hj0 : ∀ x y, ((wipe ((wipe σ vs).set i0 (some x)) vs1).set j0 (some y))[j0]? = some (some y))
    (q : ∀ (D : Addr) (H : Hp), Same H1 H → H1 D = none → Dq S H (.ref D) (.list es.flatten) → Q (.ref D) H) :
    lc2K (Itl K a) (gName i0) tYes (iList K (tVar i0)) (gName j0) tYes (tVar j0) vs vs1 σ H1 Q := by
  intro D hD
  obtain ⟨a', xs, ea, na, hxs, hall⟩ := ha.lstE
  cases ea
  have hlx := hall.len
  rw [List.length_map] at hlx
  have hDa : a ≠ D := fun e => by rw [e, hD] at hxs; cases hxs
  have hDS : D ∉ S := hS.ni hD
  refine ⟨fun i m H => m = xs.length - i ∧ i ≤ xs.length ∧ FlatAt S H1 D (es.take i).flatten H, ⟨_, rfl, Nat.zero_le _, ⟨⟨[], upd_same, .nil⟩, Fr.same (Fl.Same.new hD)⟩⟩, ?_⟩
  rintro i m H ⟨rfl, hle, F⟩
  have hsm : Same H1 H := sm_of hD F.fr
  have qa : SqL K H a xs := SqL.of (F.fr a _ (by simpa using hDa) hxs)
  by_cases hlt : i < xs.length
  · refine .inr ⟨⟨xs, xs[i], qa, by simp [hlt]⟩, FlatAt S H1 D (es.take (i + 1)).flatten, fun H' p => ⟨xs.length - (i + 1), by omega, rfl, hlt, p⟩, fun x H' y => ?_⟩
    obtain ⟨e, y⟩ := y
    subst e
    have hx := y xs qa
    refine g_name ⟨hw x, g_yesI ?_⟩
    obtain ⟨e, he, dx⟩ := ((hall.new hD).same hsm).getM hx
    obtain ⟨b, zs, rfl, nb, hb, hB⟩ := dx.lstE
    have hDb : b ≠ D := fun e => nb (by rw [e]; simp)
    have hlz := hB.len
    have hflat : (es.take (i + 1)).flatten = (es.take i).flatten ++ e := by
      rw [List.take_succ, he, List.flatten_append]
      simp
    have hsub : (es.take (i + 1)).flatten.length ≤ es.flatten.length := by
      conv => rhs; rw [← List.take_append_drop (i + 1) es, List.flatten_append, List.length_append]
      omega
    refine g_il (g_var (hi0 _) (g_el (SqL.of hb) ?_))
    refine ⟨fun j k H => k = zs.length - j ∧ j ≤ zs.length ∧ FlatAt S H1 D ((es.take i).flatten ++ e.take j) H ∧ Fr [D] H' H, ⟨_, rfl, Nat.zero_le _, by simpa using F, Fr.refl⟩, ?_⟩
    rintro j k H2 ⟨rfl, hj, F2, f2⟩
    have qb : SqL K H2 b zs := SqL.of (f2 b _ (by simpa using hDb) hb)
    by_cases hjl : j < zs.length
    · refine .inr ⟨⟨zs, zs[j], qb, by simp [hjl]⟩, fun H => FlatAt S H1 D ((es.take i).flatten ++ e.take (j + 1)) H ∧ Fr [D] H' H, fun H3 p => ⟨zs.length - (j + 1), by omega, rfl, hjl, p⟩, fun x2 H3 y2 => ?_⟩
      obtain ⟨e2, y2⟩ := y2
      subst e2
      have hx2 := y2 zs qb
      refine g_name ⟨hw1 _ x2, g_yesI (g_var (hj0 _ x2) ?_)⟩
      obtain ⟨⟨acc, hacc, hA⟩, hf⟩ := F2
      have hfS : Fr (D :: S) H' H3 := f2.mono fun b m => by simpa using Or.inl (show b = D by simpa using m)
      obtain ⟨e', he', dx2⟩ := (hB.fr hfS).get hx2
      have hal := hA.len
      have hlen : ((es.take i).flatten ++ e.take j).length < 1000 := by
        rw [hflat] at hsub
        rw [List.length_append] at hsub ⊢
        rw [List.length_take]
        omega
      refine ⟨acc, hacc, ?_, ⟨⟨acc ++ [x2], upd_same, ?_⟩, hf.trans (Fr.upd (by simp))⟩, f2.trans (Fr.upd (by simp))⟩
      · have : (1000 : Nat) ≤ sizeLine := by decide
        omega
      · rw [List.take_succ, he', ← List.append_assoc]
        exact (hA.app (.one dx2)).fr (Fr.upd (by simp))
    · have ej : j = zs.length := by omega
      subst ej
      refine .inl ⟨⟨zs, qb, Nat.le_refl _⟩, ?_⟩
      rw [hflat]
      rw [List.take_of_length_le (l := e) (i := zs.length) (by omega)] at F2
      exact F2
  · have e : i = xs.length := by omega
    subst e
    refine .inl ⟨⟨xs, qa, Nat.le_refl _⟩, ?_⟩
    rw [List.take_of_length_le (by omega)] at F
    obtain ⟨⟨acc, hacc, hA⟩, hf⟩ := F
    exact q D _ hsm hD (.lst hDS hacc hA.tail)
end

/-! the least and the greatest -/
def IsMin (m : Int) (l : List Int) : Prop := m ∈ l ∧ ∀ y, y ∈ l → m ≤ y
def IsMax (m : Int) (l : List Int) : Prop := m ∈ l ∧ ∀ y, y ∈ l → y ≤ m
theorem ex_min : ∀ l : List Int, l ≠ [] → ∃ m, IsMin m l
  | [], h => absurd rfl h
  | [x], _ => ⟨x, by simp, fun y m => by rw [show y = x by simpa using m]; exact Int.le_refl _⟩
  | x :: z :: l, _ => by
    obtain ⟨m, h1, h2⟩ := ex_min (z :: l) (by simp)
    rcases Int.le_total x m with h | h
    · refine ⟨x, by simp, fun y my => ?_⟩
      rcases List.mem_cons.mp my with rfl | my
      · exact Int.le_refl _
      · exact Int.le_trans h (h2 y my)
    · refine ⟨m, List.mem_cons_of_mem _ h1, fun y my => ?_⟩
      rcases List.mem_cons.mp my with rfl | my
      · exact h
      · exact h2 y my
theorem ex_max : ∀ l : List Int, l ≠ [] → ∃ m, IsMax m l
  | [], h => absurd rfl h
  | [x], _ => ⟨x, by simp, fun y m => by rw [show y = x by simpa using m]; exact Int.le_refl _⟩
  | x :: z :: l, _ => by
    obtain ⟨m, h1, h2⟩ := ex_max (z :: l) (by simp)
    rcases Int.le_total x m with h | h
    · refine ⟨m, List.mem_cons_of_mem _ h1, fun y my => ?_⟩
      rcases List.mem_cons.mp my with rfl | my
      · exact h
      · exact h2 y my
    · refine ⟨x, by simp, fun y my => ?_⟩
      rcases List.mem_cons.mp my with rfl | my
      · exact Int.le_refl _
      · exact Int.le_trans (h2 y my) h
theorem IsMin.eq {m n : Int} {l : List Int} (h : IsMin m l) (k : IsMin n l) : m = n := Int.le_antisymm (h.2 n k.1) (k.2 m h.1)
theorem IsMax.eq {m n : Int} {l : List Int} (h : IsMax m l) (k : IsMax n l) : m = n := Int.le_antisymm (k.2 m h.1) (h.2 n k.1)
theorem ints_of {S : List Addr} {H : Hp} : ∀ {xs : List V} {ns : List Int}, DqA S H xs (ns.map PyData.int) → xs = ns.map V.int
  | _, [], h => h.nilE
  | _, n :: ns, h => by
    obtain ⟨v, ws, rfl, hv, hw⟩ := h.consE
    rw [hv.intE, ints_of hw]
    rfl
def rMinL (K : PySem.W.Frag) : List V → Hp → VK → Prop := fun vs H Q => ∃ (a : Addr) (ns : List Int), vs = [V.ref a] ∧ SqL K H a (ns.map V.int) ∧ ∃ m, IsMin m ns ∧ Q (.int m) H
def rMaxL (K : PySem.W.Frag) : List V → Hp → VK → Prop := fun vs H Q => ∃ (a : Addr) (ns : List Int), vs = [V.ref a] ∧ SqL K H a (ns.map V.int) ∧ ∃ m, IsMax m ns ∧ Q (.int m) H
section
variable {X : Cx} {K : PySem.W.Frag}
theorem clMin (e : X.K = K) (hc : X.calm = true) : CallR X (.builtin "min") (Fl.rMinL K) := by
  subst e
  intro pins s σ H xs us Q I r h
  obtain ⟨a, ns, rfl, hs, m, hm, q⟩ := h
  exact cr_min hc pins s σ H _ us Q I r ⟨a, ns, rfl, hs, List.length_pos_of_mem hm.1, fun m' h1 h2 => by rw [IsMin.eq ⟨h1, h2⟩ hm]; exact q⟩
theorem clMax (e : X.K = K) (hc : X.calm = true) : CallR X (.builtin "max") (Fl.rMaxL K) := by
  subst e
  intro pins s σ H xs us Q I r h
  obtain ⟨a, ns, rfl, hs, m, hm, q⟩ := h
  exact cr_max hc pins s σ H _ us Q I r ⟨a, ns, rfl, hs, List.length_pos_of_mem hm.1, fun m' h1 h2 => by rw [IsMax.eq ⟨h1, h2⟩ hm]; exact q⟩
theorem clSum (e : X.K = K) (hc : X.calm = true) : CallR X (.builtin "sum") (rSum K) := by subst e; exact cr_sum hc
theorem g_minL {a : Addr} {ns : List Int} {m : Int} {H : Hp} {Q : VK} (h : SqL K H a (ns.map V.int)) (hm : IsMin m ns) (q : Q (.int m) H) : Fl.rMinL K [.ref a] H Q := ⟨a, ns, rfl, h, m, hm, q⟩
theorem g_maxL {a : Addr} {ns : List Int} {m : Int} {H : Hp} {Q : VK} (h : SqL K H a (ns.map V.int)) (hm : IsMax m ns) (q : Q (.int m) H) : Fl.rMaxL K [.ref a] H Q := ⟨a, ns, rfl, h, m, hm, q⟩
theorem g_sum {a : Addr} {ns : List Int} {H : Hp} {Q : VK} (h : SqL K H a (ns.map V.int)) (q : Q (.int ns.sum) H) : rSum K [.ref a] H Q := ⟨a, ns, rfl, h, q⟩
end

/-! promises -/
def xsOf (o : List (List Pt)) : List Int := o.flatten.map fun p => p.1
def ysOf (o : List (List Pt)) : List Int := o.flatten.map fun p => p.2.1
def fBox (ds : List PyData) (d : PyData) : Prop := ∃ o : List (List Pt), ds = [ouD o] ∧ o.flatten.length < 900 ∧
  ((o.flatten = [] ∧ d = .none) ∨ ∃ x1 y1 x2 y2 : Int, IsMin x1 (xsOf o) ∧ IsMin y1 (ysOf o) ∧ IsMax x2 (xsOf o) ∧ IsMax y2 (ysOf o) ∧ d = .tuple [.int x1, .int y1, .int x2, .int y2])
def mv (x y : Int) (p : Pt) : Pt := (p.1 + x, p.2.1 + y, p.2.2)
def fMv (ds : List PyData) (d : PyData) : Prop := ∃ (o : List (List Pt)) (x y : Int), ds = [ouD o, .int x, .int y] ∧ o.length ≤ 100 ∧ (∀ c, c ∈ o → c.length ≤ 900) ∧ d = ouD (o.map fun c => c.map (mv x y))
/-- flat data -/
def FlD : PyData → Prop
  | .int _ | .bool _ | .none => True
  | _ => False
def TfD (d : PyData) : Prop := ∃ es, d = .tuple es ∧ es.length ≤ 10 ∧ ∀ e, e ∈ es → FlD e
/-- same(x, y), x and y the same flat data -/
def spSm1 : Sp := fun vs H Q _ => ∃ (S T : List Addr) (d : PyData) (x y : V), vs = [x, y] ∧ FlD d ∧ Dq S H x d ∧ Dq T H y d ∧ Q (.bl true) H
def spSm2 : Sp := fun vs H Q _ => ∃ (S T : List Addr) (d : PyData) (x y : V), vs = [x, y] ∧ TfD d ∧ Dq S H x d ∧ Dq T H y d ∧ Q (.bl true) H
def spSml : Sp := fun vs H Q _ => ∃ (S T : List Addr) (ds : List PyData) (x y : V), vs = [x, y] ∧ ds.length ≤ 900 ∧ (∀ d, d ∈ ds → TfD d) ∧ Dq S H x (.list ds) ∧ Dq T H y (.list ds) ∧ Q (.bl true) H
def spSmr : Sp := fun vs H Q _ => ∃ (S T : List Addr) (dss : List (List PyData)) (x y : V), vs = [x, y] ∧ Al S H ∧ dss.length ≤ 900 ∧ (∀ ds, ds ∈ dss → ds.length ≤ 900 ∧ ∀ d, d ∈ ds → TfD d) ∧ Dq S H x (.list (dss.map PyData.list)) ∧ Dq T H y (.list (dss.map PyData.list)) ∧ ∀ H', Same H H' → Q (.bl true) H'
theorem tf_pt (p : Pt) : TfD (ptD p) := ⟨_, rfl, by simp, fun e m => by
  simp only [List.mem_cons, List.not_mem_nil, or_false] at m
  rcases m with rfl | rfl | rfl <;> trivial⟩
theorem tf_pr (p : Pr) : TfD (prD p) := ⟨_, rfl, by simp, fun e m => by
  simp only [List.mem_cons, List.not_mem_nil, or_false] at m
  rcases m with rfl | rfl <;> trivial⟩
theorem trues_of {S : List Addr} {H : Hp} : ∀ (l : List Nat) (zs : List V), DqA S H zs (l.filterMap fun _ => some (PyData.bool true)) → zs.all flatV = true ∧ inV (.bl false) zs = false
  | [], zs, h => by
    rw [h.nilE]
    exact ⟨rfl, rfl⟩
  | _ :: l, zs, h => by
    obtain ⟨v, ws, rfl, hv, hw⟩ := h.consE
    obtain ⟨h1, h2⟩ := trues_of l ws hw
    rw [hv.blE]
    exact ⟨by rw [List.all_cons, h1]; rfl, by
      show (eqV (.bl true) (.bl false) || inV (.bl false) ws) = false
      rw [h2]
      rfl⟩
end Fl

set_option Elab.async false
set_option linter.all false
set_option maxRecDepth 100000
set_option maxHeartbeats 4000000
/-! lines: where they lie, where they begin, how they move -/
namespace Fl
open PySem PySem.Spec PyProof.Rows L2
theorem e1_in {P : Pt → Prop} {R : Pr → Prop} (h1 : ∀ p, P p → R (pr p)) (h2 : ∀ a p b n, n < 7 → P a → P p → P b → R (cp a p b n)) {a p b : Pt} (ha : P a) (hp : P p) (hb : P b) {x : Pr} (m : x ∈ e1 a p b) : R x := by
  unfold e1 at m
  split at m
  · rw [show x = pr p by simpa using m]
    exact h1 p hp
  · unfold cv7 at m
    obtain ⟨n, hn, rfl⟩ := List.mem_map.mp m
    exact h2 a p b n (List.mem_range.mp hn) ha hp hb
theorem ep_in {P : Pt → Prop} {R : Pr → Prop} (h1 : ∀ p, P p → R (pr p)) (h2 : ∀ a p b n, n < 7 → P a → P p → P b → R (cp a p b n)) : ∀ (l : List Pt) (pv nx : Pt), P pv → P nx → (∀ p, p ∈ l → P p) → ∀ x, x ∈ ep pv l nx → R x
  | [], _, _, _, _, _, _, m => nomatch m
  | [p], pv, nx, hv, hn, h, x, m => e1_in h1 h2 hv (h p (by simp)) hn m
  | p :: q :: l, pv, nx, hv, hn, h, x, m => by
    rcases List.mem_append.mp (show x ∈ e1 pv p q ++ ep p (q :: l) nx from m) with m | m
    · exact e1_in h1 h2 hv (h p (by simp)) (h q (by simp)) m
    · exact ep_in h1 h2 (q :: l) p nx (h p (by simp)) hn (fun z mz => h z (List.mem_cons_of_mem _ mz)) x m
theorem lnOf_in {P : Pt → Prop} {R : Pr → Prop} (hP : InB P) (h1 : ∀ p, P p → R (pr p)) (h2 : ∀ a p b n, n < 7 → P a → P p → P b → R (cp a p b n)) {c : List Pt} (h : ∀ p, p ∈ c → P p) : ∀ x, x ∈ lnOf c → R x := by
  intro x m
  rw [lnOf_er] at m
  have hr := ro_in hP h
  cases hro : ro c with
  | nil => rw [hro] at m; cases m
  | cons r l =>
    rw [hro] at m hr
    exact ep_in h1 h2 (r :: l) _ r (hr _ (List.getLast_mem _)) (hr r (by simp)) hr x m
theorem cv_box {lo hi n a c b : Int} (h0 : 1 ≤ n) (h1 : n ≤ 7) (ha : lo ≤ a ∧ a ≤ hi) (hc : lo ≤ c ∧ c ≤ hi) (hb : lo ≤ b ∧ b ≤ hi) : lo ≤ cv n a c b ∧ cv n a c b ≤ hi := by
  unfold cv
  rcases (by omega : n = 1 ∨ n = 2 ∨ n = 3 ∨ n = 4 ∨ n = 5 ∨ n = 6 ∨ n = 7) with rfl | rfl | rfl | rfl | rfl | rfl | rfl <;> omega
theorem ln_box {x1 y1 x2 y2 : Int} {c : List Pt} (h : ∀ p, p ∈ c → (x1 ≤ p.1 ∧ p.1 ≤ x2) ∧ y1 ≤ p.2.1 ∧ p.2.1 ≤ y2) : ∀ z, z ∈ lnOf c → (x1 ≤ z.1 ∧ z.1 ≤ x2) ∧ y1 ≤ z.2 ∧ z.2 ≤ y2 := by
  refine lnOf_in (P := fun p => (x1 ≤ p.1 ∧ p.1 ≤ x2) ∧ y1 ≤ p.2.1 ∧ p.2.1 ≤ y2) (R := fun z => (x1 ≤ z.1 ∧ z.1 ≤ x2) ∧ y1 ≤ z.2 ∧ z.2 ≤ y2) ?_ (fun p hp => hp) ?_ h
  · intro p q hp hq
    refine ⟨⟨?_, ?_⟩, ?_, ?_⟩
    · show _ ≤ (p.1 + q.1) / 2; omega
    · show (p.1 + q.1) / 2 ≤ _; omega
    · show _ ≤ (p.2.1 + q.2.1) / 2; omega
    · show (p.2.1 + q.2.1) / 2 ≤ _; omega
  · intro a p b n hn ha hp hb
    exact ⟨cv_box (by omega) (by omega) ha.1 hp.1 hb.1, cv_box (by omega) (by omega) ha.2 hp.2 hb.2⟩

/-! the points that are on -/
def fon (c : List Pt) : List Pt := c.filter fun p => p.2.2
theorem range_map (c : List Pt) : (List.range c.length).map (fun i => c.getD i p0) = c := by
  apply List.ext_getElem
  · simp
  · intro i h1 h2
    rw [List.getElem_map, List.getElem_range, List.getD_eq_getElem?_getD, List.getElem?_eq_getElem h2]
    rfl
theorem fon_ps (c : List Pt) : fon c = (ps c).map fun i => c.getD i p0 := by
  have h : fon c = fon ((List.range c.length).map fun i => c.getD i p0) := by rw [range_map]
  rw [h]
  unfold fon ps
  rw [List.filter_map]
  rfl
theorem lnOf_head {c : List Pt} {f : Pt} {t : List Pt} (h : fon c = f :: t) : ∃ l, lnOf c = pr f :: l := by
  rw [fon_ps] at h
  cases hps : ps c with
  | nil => rw [hps] at h; cases h
  | cons k u =>
    rw [hps] at h
    have hk : k ∈ ps c := by rw [hps]; simp
    have hkl : k < c.length := ps_lt hk
    have hx : c[k]? = some c[k] := List.getElem?_eq_getElem hkl
    have hf : c[k] = f := by
      rw [List.map_cons] at h
      rw [← (List.cons.inj h).1, getD_of hx]
    have hon := ps_on hk
    rw [getD_of hx] at hon
    obtain ⟨v, hv⟩ := beg_head hx
    have hro : ro c = wm (beg c k) := by unfold ro; rw [hps]
    obtain ⟨z, hz⟩ := wp_head c[k] v c[k]
    rw [hv] at hro
    have hro : ro c = c[k] :: z := hro.trans hz
    rw [lnOf_er, hro, ← hf]
    show ∃ l, ep _ (c[k] :: z) c[k] = _
    cases z with
    | nil =>
      refine ⟨[], ?_⟩
      show e1 _ _ _ = _
      unfold e1
      rw [if_pos hon]
    | cons q z =>
      refine ⟨ep c[k] (q :: z) c[k], ?_⟩
      show e1 _ _ _ ++ _ = _
      unfold e1
      rw [if_pos hon]
      rfl
theorem wp_on : ∀ (l : List Pt) (nx : Pt), (∀ p, p ∈ l → p.2.2 = true) → wp l nx = l
  | [], _, _ => rfl
  | [p], nx, h => by
    show w1 p nx = _
    unfold w1
    rw [if_pos (h p (by simp))]
  | p :: q :: l, nx, h => by
    show w1 p q ++ wp (q :: l) nx = _
    rw [wp_on (q :: l) nx (fun x m => h x (List.mem_cons_of_mem _ m))]
    unfold w1
    rw [if_pos (h p (by simp))]
    rfl
theorem ep_on : ∀ (l : List Pt) (pv nx : Pt), (∀ p, p ∈ l → p.2.2 = true) → ep pv l nx = l.map pr
  | [], _, _, _ => rfl
  | [p], pv, nx, h => by
    show e1 pv p nx = _
    unfold e1
    rw [if_pos (h p (by simp))]
    rfl
  | p :: q :: l, pv, nx, h => by
    show e1 pv p q ++ ep p (q :: l) nx = _
    rw [ep_on (q :: l) p nx (fun x m => h x (List.mem_cons_of_mem _ m))]
    unfold e1
    rw [if_pos (h p (by simp))]
    rfl
theorem lnOf_on {c : List Pt} (h : ∀ p, p ∈ c → p.2.2 = true) : lnOf c = c.map pr := by
  have hr : ro c = c := by
    cases c with
    | nil => rfl
    | cons p l =>
      have h0 : ps (p :: l) = List.range (p :: l).length := by
        unfold ps
        rw [List.filter_eq_self]
        intro i hi
        have hi := List.mem_range.mp hi
        have hx : (p :: l)[i]? = some (p :: l)[i] := List.getElem?_eq_getElem hi
        show ((p :: l).getD i p0).2.2 = true
        rw [getD_of hx]
        exact h _ (List.mem_of_getElem? hx)
      unfold ro
      rw [h0, show (p :: l).length = l.length + 1 from rfl, List.range_succ_eq_map]
      show wm (beg (p :: l) 0) = p :: l
      have hb : beg (p :: l) 0 = p :: l := by unfold beg; simp
      rw [hb]
      exact wp_on (p :: l) p h
  rw [lnOf_er, hr]
  cases c with
  | nil => rfl
  | cons p l => exact ep_on (p :: l) _ p h
theorem fon_all {c : List Pt} (h : (fon c).length = c.length) : (∀ p, p ∈ c → p.2.2 = true) ∧ fon c = c := by
  have h2 : fon c = c := List.Sublist.eq_of_length (List.filter_sublist) h
  refine ⟨fun p m => ?_, h2⟩
  rw [← h2] at m
  exact (List.mem_filter.mp m).2

/-! moving -/
def mp (x y : Int) (p : Pr) : Pr := (p.1 + x, p.2 + y)
section
variable (x y : Int)
theorem w1_mv (p q : Pt) : w1 (mv x y p) (mv x y q) = (w1 p q).map (mv x y) := by
  have h : mid (mv x y p) (mv x y q) = mv x y (mid p q) := by
    refine Prod.ext ?_ (Prod.ext ?_ rfl)
    · show (p.1 + x + (q.1 + x)) / 2 = (p.1 + q.1) / 2 + x
      omega
    · show (p.2.1 + y + (q.2.1 + y)) / 2 = (p.2.1 + q.2.1) / 2 + y
      omega
  have e1 : (mv x y p).2.2 = p.2.2 := rfl
  have e2 : (mv x y q).2.2 = q.2.2 := rfl
  unfold w1
  rw [e1, e2, h]
  split
  · rfl
  · split <;> rfl
theorem wp_mv : ∀ (l : List Pt) (nx : Pt), wp (l.map (mv x y)) (mv x y nx) = (wp l nx).map (mv x y)
  | [], _ => rfl
  | [p], nx => w1_mv x y p nx
  | p :: q :: l, nx => by
    have ih := wp_mv (q :: l) nx
    show w1 (mv x y p) (mv x y q) ++ wp ((q :: l).map (mv x y)) (mv x y nx) = (w1 p q ++ wp (q :: l) nx).map (mv x y)
    rw [ih, w1_mv, List.map_append]
theorem wm_mv (c : List Pt) : wm (c.map (mv x y)) = (wm c).map (mv x y) := by
  cases c with
  | nil => rfl
  | cons p l => exact wp_mv x y (p :: l) p
theorem ps_mv (c : List Pt) : ps (c.map (mv x y)) = ps c := by
  unfold ps
  rw [List.length_map]
  apply List.filter_congr
  intro i hi
  have hi := List.mem_range.mp hi
  have hx : c[i]? = some c[i] := List.getElem?_eq_getElem hi
  have hy : (c.map (mv x y))[i]? = some (mv x y c[i]) := by rw [List.getElem?_map, hx]; rfl
  rw [getD_of hx, getD_of hy]
  rfl
theorem beg_map {α β : Type} (f : α → β) (c : List α) (k : Nat) : beg (c.map f) k = (beg c k).map f := by
  unfold beg
  rw [List.map_append, List.map_drop, List.map_take]
theorem ro_mv (c : List Pt) : ro (c.map (mv x y)) = (ro c).map (mv x y) := by
  unfold ro
  rw [ps_mv, wm_mv]
  cases ps c with
  | nil =>
    show ((wm c).map (mv x y)).drop (((wm c).map (mv x y)).length - 1) ++ ((wm c).map (mv x y)).dropLast = ((wm c).drop ((wm c).length - 1) ++ (wm c).dropLast).map (mv x y)
    rw [List.map_append, List.map_drop, List.length_map, List.map_dropLast]
  | cons k l =>
    show wm (beg (c.map (mv x y)) k) = (wm (beg c k)).map (mv x y)
    rw [beg_map, wm_mv]
theorem cv_mv {n : Int} (h0 : 1 ≤ n) (h1 : n ≤ 7) (a c b z : Int) : cv n (a + z) (c + z) (b + z) = cv n a c b + z := by
  unfold cv
  rcases (by omega : n = 1 ∨ n = 2 ∨ n = 3 ∨ n = 4 ∨ n = 5 ∨ n = 6 ∨ n = 7) with rfl | rfl | rfl | rfl | rfl | rfl | rfl <;> omega
theorem e1_mv (a p b : Pt) : e1 (mv x y a) (mv x y p) (mv x y b) = (e1 a p b).map (mp x y) := by
  have e1' : (mv x y p).2.2 = p.2.2 := rfl
  unfold e1
  rw [e1']
  split
  · rfl
  · unfold cv7
    rw [List.map_map]
    apply List.map_congr_left
    intro n hn
    have hn := List.mem_range.mp hn
    exact Prod.ext (cv_mv (by omega) (by omega) _ _ _ _) (cv_mv (by omega) (by omega) _ _ _ _)
theorem ep_mv : ∀ (l : List Pt) (pv nx : Pt), ep (mv x y pv) (l.map (mv x y)) (mv x y nx) = (ep pv l nx).map (mp x y)
  | [], _, _ => rfl
  | [p], pv, nx => e1_mv x y pv p nx
  | p :: q :: l, pv, nx => by
    have ih := ep_mv (q :: l) p nx
    show e1 (mv x y pv) (mv x y p) (mv x y q) ++ ep (mv x y p) ((q :: l).map (mv x y)) (mv x y nx) = (e1 pv p q ++ ep p (q :: l) nx).map (mp x y)
    rw [ih, e1_mv, List.map_append]
theorem lnOf_mv (c : List Pt) : lnOf (c.map (mv x y)) = (lnOf c).map (mp x y) := by
  rw [lnOf_er, lnOf_er, ro_mv]
  cases ro c with
  | nil => rfl
  | cons r l =>
    have hg : ((r :: l).map (mv x y)).getLast (by simp) = mv x y ((r :: l).getLast (by simp)) := List.getLast_map (by simp)
    show ep (((r :: l).map (mv x y)).getLast (by simp)) ((r :: l).map (mv x y)) (mv x y r) = (ep ((r :: l).getLast (by simp)) (r :: l) r).map (mp x y)
    rw [hg, ep_mv]
end
end Fl
namespace Fl
open PySem PySem.Spec PyProof.Rows L2
theorem fon_fm (c : List Pt) : (List.range c.length).filterMap (fun i => if (c.getD i p0).2.2 = true then some (prD (pr (c.getD i p0))) else none) = ((fon c).map pr).map prD := by
  rw [fm_filter (fun i => (c.getD i p0).2.2) (fun i => prD (pr (c.getD i p0))), fon_ps, List.map_map, List.map_map]
  rfl
theorem xs_one (c : List Pt) : xsOf [c] = c.map fun p => p.1 := by unfold xsOf; simp
theorem ys_one (c : List Pt) : ysOf [c] = c.map fun p => p.2.1 := by unfold ysOf; simp
/-- a box of one contour -/
theorem box_one {c : List Pt} (h : c ≠ []) : ∃ x1 y1 x2 y2 : Int, (IsMin x1 (xsOf [c]) ∧ IsMin y1 (ysOf [c]) ∧ IsMax x2 (xsOf [c]) ∧ IsMax y2 (ysOf [c])) ∧ ∀ z, z ∈ lnOf c → (x1 ≤ z.1 ∧ z.1 ≤ x2) ∧ y1 ≤ z.2 ∧ z.2 ≤ y2 := by
  obtain ⟨x1, m1⟩ := ex_min (xsOf [c]) (by rw [xs_one]; simpa using h)
  obtain ⟨y1, m2⟩ := ex_min (ysOf [c]) (by rw [ys_one]; simpa using h)
  obtain ⟨x2, m3⟩ := ex_max (xsOf [c]) (by rw [xs_one]; simpa using h)
  obtain ⟨y2, m4⟩ := ex_max (ysOf [c]) (by rw [ys_one]; simpa using h)
  refine ⟨x1, y1, x2, y2, ⟨m1, m2, m3, m4⟩, ln_box fun p hp => ?_⟩
  have a1 : p.1 ∈ xsOf [c] := by rw [xs_one]; exact List.mem_map.mpr ⟨p, hp, rfl⟩
  have a2 : p.2.1 ∈ ysOf [c] := by rw [ys_one]; exact List.mem_map.mpr ⟨p, hp, rfl⟩
  exact ⟨⟨m1.2 _ a1, m3.2 _ a1⟩, m2.2 _ a2, m4.2 _ a2⟩
theorem sh_pr (p : Pr) : SeqAt.shaped (prD p) = true := by
  have h := pr_lay p
  unfold SeqAt.shaped
  rw [h.1, Bool.true_and, decide_eq_true_eq]
  omega
theorem sh_nil : SeqAt.shaped (PyData.list []) = true := sh_list (n := 0) (fun _ m => nomatch m) (by decide)
theorem eqv_cons_nil (x : PyData) (l : List PyData) : PyData.eqv (.list (x :: l)) (.list []) = false := by simp [PyData.eqv, PyData.eqvAll]
theorem prE {S : List Addr} {H : Hp} {v : V} {p : Pr} (h : Dq S H v (prD p)) : ∃ a, v = .ref a ∧ a ∉ S ∧ H a = some (.tup [.int p.1, .int p.2]) := by
  obtain ⟨a, xs, rfl, n, q, r⟩ := h.tupE
  obtain ⟨x1, w1, rfl, h1, r⟩ := r.consE
  obtain ⟨x2, w2, rfl, h2, r⟩ := r.consE
  cases r.nilE
  cases h1.intE
  cases h2.intE
  exact ⟨a, rfl, n, q⟩
end Fl
namespace Fl
open PySem PySem.Spec PyProof.Rows L2
theorem g_andF {k : Bool} {t2 : TT} {σ : L2.St} {H : Hp} {Q : Bool → Hp → Prop} (h : Q false H) (h2 : k = true → Q false H → t2 σ H Q) : if k = true then t2 σ H Q else Q false H := by
  cases k with
  | true => rw [if_pos rfl]; exact h2 rfl h
  | false => rw [if_neg Bool.false_ne_true]; exact h
end Fl

set_option Elab.async false
set_option linter.all false
set_option maxRecDepth 100000
set_option maxHeartbeats 4000000
/-! repr of data; the law's def, called from outside (no guard stands below it) -/
namespace Fl
open PySem PySem.Spec PyProof.Rows L2

/-! ### repr -/
structure Shw (d : PyData) : Prop where
  sh : d.showable = true
  nd : d.hasDict = false
  dp : d.depth ≤ 40
  lv : d.leavesShort 13 = true
  wt : d.weight ≤ 2 ^ 20
def rRp (K : PySem.W.Frag) : List V → Hp → VK → Prop := fun xs H Q => ∃ (a : Addr) (d : PyData), xs = [.ref a] ∧ Dp K H (.ref a) d ∧ Shw d ∧ Q (.str d.shown) H
theorem clRepr {X : Cx} {K : PySem.W.Frag} (e : X.K = K) (hg : X.A.guards = some []) (hu : X.A.units + 64 < cLine) : CallR X (.builtin "repr") (rRp K) := by
  subst e
  intro pins s σ H xs us Q I r h
  obtain ⟨a, d, rfl, hd, hw, q⟩ := h
  obtain ⟨u, rfl, hu1⟩ := vals1 r
  cases hu1
  obtain ⟨as, rd⟩ := Dp.reads I d (.ref a) (.ref a) hd rfl
  have hdp := hw.dp
  refine repr_of_reads' rd hw.sh (fun z => ?_) hg (by omega) (fun b o z => z) (fun h' u tk hk => ⟨.str _, H, I.kept hk, ⟨u, rfl⟩, q⟩) (PyData.shown_fits (B := 13) (by decide) (by decide) hw.lv hw.wt)
  rw [hw.nd] at z
  cases z
theorem g_rp {K : PySem.W.Frag} {H : Hp} {Q : VK} {S : List Addr} {a : Addr} {d : PyData} (h : Dq S H (.ref a) d) (w : Shw d) (q : Q (.str d.shown) H) : rRp K [.ref a] H Q := ⟨a, d, rfl, h.dp w.nd, w, q⟩

/-! ### the law's def -/
def AtLaw (P : Program) (w : World) (K : PySem.W.Frag) (mg : Str → Option Value) (f : Addr) (fd : FuncData) (x : Str) (sp : Sp) : Prop :=
  ∀ base : Heap, K.In base → base.Ns mainGlobals mg → ∀ (s : Shared) (H : Hp) (a : Addr) (Q : VK), Env0 P w K mg base callerA [] s H → BindsTo s fd ⟨[.ref a], []⟩ [(x, .ref a)] → sp [.ref a] H Q E0 →
    codeAny (model P w) callerA (.call (.ref f) ⟨[.ref a], []⟩) (CR CX0 [] P w H s Q E0) s
theorem atLaw_of {P : Program} {w : World} {K : PySem.W.Frag} {mg : Str → Option Value} {k : Nat} {x y : Str} {st : Stmt} {N : List Str} {sp : Sp} {f : Addr} {fd : FuncData} (F : Fun K x x st f fd) (S : FnScope N [y] (defScope st)) (hr : Room (k + 1) callerA)
    (body : ∀ (base : Heap) (cdv : Value) (s : Shared) (H : Hp) (a : Addr) (Q : VK), Room k (callerA.deeper (envOfC x (defScope st) s.heap.objs.size f cdv)) → sp [.ref a] H Q E0 →
      ∃ t, PSs (bx P w K mg base N x st f cdv callerA [] s H E0) (defBody st) t ∧ t { nx := fun _ H' => Q .non H', rt := Q } (start N [.ref a]) H) : AtLaw P w K mg f fd y sp := by
  obtain ⟨_, _, kV, doc, pm, an, cdv, ct, _, rfl, atf, code⟩ := F.ex
  intro base kb nb s H a Q e0 bind hsp
  have here : ∀ {b : Addr} {o : Obj}, base.get? b = some o → s.heap.get? b = some o := fun e => (e0.bs _ _ e).1
  have Ks : K.In s.heap := e0.mod.kin.keeps fun _ _ => here
  have kinds : ∀ z ∈ [(y, Value.ref a)], (defScope st).names.lookup z.1 = some .local ∨ ((defScope st).names.lookup z.1 = some .cell ∧ ((cellsFrom (s.heap.objs.size + 1) (defScope st).names []).lookup z.1).isSome = true) := by
    intro z hz
    obtain rfl := List.mem_singleton.mp hz
    cases S.par y (List.mem_singleton.mpr rfl) with
    | inl q => exact .inl q
    | inr q => exact .inr ⟨q, PySem.W.cellsFrom_some _ _ _ (.inl q)⟩
  have vals : Vals [V.ref a] [Value.ref a] := .cons rfl .nil
  obtain ⟨t, ht, hq⟩ := body base cdv s H a Q (hr.deeper _) hsp
  exact codeAny_call_function hr.depth (Ks _ _ atf) rfl S.co S.gen rfl (PySem.W.codeRec_of Ks code) (bind _ _ _ _ (wpAny_newFunctionEnv_cells S.kind kinds (fun env he s1 z => by
    subst he
    refine ⟨(e0.mod.nolimit.keeps fun _ _ => here).keeps z.toInCall.keep, codeAny_func ?_⟩
    have I := inv_start (N := N) (E := E0) (CX := CX0) S hr.hd e0 rfl vals z
    have R := (PSs.nox (X := cxOf CX0 P w K mg base N x (defScope st) f cdv callerA [] s H E0) ht).run [] s1 (start N [.ref a]) H _ I hq
    exact wpAny_mono R (fun fl s' hs => (match fl, hs with
      | .ret u, ⟨v, σ', H', J, rv, q⟩ => ⟨v, H', J.os, J.bare, J.base, J.hok, rv, q⟩
      | .next, ⟨σ', H', J, q⟩ => ⟨.non, H', J.os, J.bare, J.base, J.hok, rfl, q⟩
      | .brk, ⟨_, _, _, q⟩ => q.elim
      | .cont, ⟨_, _, _, q⟩ => q.elim)) (fun _ _ z => z))))
/-- the goal of the end, from the law's def called from outside: nothing is tracked but the script -/
theorem atLaw_end {l : PySem.W.OpenLaw} {n : Nat} {q : Program} {loose : List Str} {XP : (Str → Option Value) → Heap → Prop} {YP : World → Heap → Prop} {d : DefRec} {K : Params → PySem.W.Frag} {sp : PySem.W.Frag → Sp} {x : Str}
    (hn : l.most = some n) (hn2 : n ≤ sizeLine) (hdf : d.params.defaults = []) (hY : ∀ (w : World) (h : Heap), YP w h → (K w.params).In h)
    (F : ∀ (w : World) (mg : Str → Option Value) (fa : Addr) (h : Heap), (K w.params).In h → h.Ns mainGlobals mg → mg d.name = some (.ref fa) →
      ∃ fd : FuncData, (∀ (s : Shared) (u : Value), BindsTo s fd ⟨[u], []⟩ [(x, u)]) ∧ AtLaw l.prog w (K w.params) mg fa fd x (sp (K w.params)))
    (hsp : ∀ (K : PySem.W.Frag) (H : Hp) (a : Addr) (ns : List Int), ns.length ≤ n → SqL K H a (ns.map V.int) → sp K [.ref a] H (fun v _ => v = .bl true) E0) :
    PySem.W.WalkO q loose XP YP l.row.toRowW d [] (fun f vs => PySem.call f vs) := by
  refine Att.attach_call hn hdf fun w s₀ s₁ mg mb fa o pm cd doc a vs ns G Y ho hd hcd hmg hobj hints hlen hg => ?_
  have Kh := hY w _ Y
  obtain ⟨fd, bind, run⟩ := F w mg fa _ Kh G.T.g hmg
  have vals := vals_ints hints
  -- the script: one of the module's own lists, or the one object that is tracked
  obtain ⟨H, only, sq, hok, none_of, own⟩ : ∃ H : Hp, Only H ∧ SqL (K w.params) H a (ns.map V.int) ∧ HOk l.prog w H s₁.heap ∧ (∀ b, b ≠ a → H b = none) ∧ (H a ≠ none → (K w.params).lookup a = none) := by
    have fits : (ns.map V.int).length ≤ sizeLine := by rw [List.length_map]; exact Nat.le_trans hlen hn2
    cases hk : (K w.params).lookup a with
    | some u =>
      cases hobj.symm.trans (Kh a u hk)
      refine ⟨fun _ => none, fun _ => .inl rfl, .inr ⟨_, vs.toArray, _, hk, rfl, rfl, rfl, ?_, by simpa using vals⟩, fun b u z => (nomatch (show (none : Option HO) = some u from z)), fun _ _ => rfl, fun z => (z rfl).elim⟩
      rw [List.size_toArray, hints.length]
      exact Nat.le_trans hlen hn2
    | none =>
      have at_a : ∀ {b : Addr}, b = a → (if b = a then some (HO.frz { cls := .type "list", data := .seq vs.toArray } (.lst (ns.map V.int))) else none) = some (HO.frz { cls := .type "list", data := .seq vs.toArray } (.lst (ns.map V.int))) := fun e => if_pos e
      refine ⟨fun b => if b = a then some (HO.frz { cls := .type "list", data := .seq vs.toArray } (.lst (ns.map V.int))) else none, fun b => ?_, .inl (.inr ⟨_, at_a rfl⟩), fun b u z => ?_, fun b e => if_neg e, fun _ => rfl⟩
      · rcases Decidable.em (b = a) with e | e
        · exact .inr ⟨_, _, at_a e⟩
        · exact .inl (if_neg e)
      · rcases Decidable.em (b = a) with e | e
        · cases (at_a e).symm.trans z
          exact ⟨by rw [e]; exact hobj, fits, vs, _, vals, by rw [e]; exact hobj⟩
        · cases (if_neg e).symm.trans z
  have keep : ∀ {b : Addr} {u : Obj}, s₁.heap.get? b = some u → H b = none → (hidT s₁.heap H).get? b = some u := fun e z => hidT_get e z
  have plain : ∀ {b : Addr} {u : Obj} {es : Array DictEntry} {ep : Nat}, s₁.heap.get? b = some u → u.data = .dict es ep → H b = none := by
    intro b u es ep e z
    rcases Decidable.em (b = a) with e2 | e2
    · rw [e2] at e
      cases hobj.symm.trans e
      exact (nomatch (show Data.seq vs.toArray _ = Data.dict es ep from z))
    · exact none_of b e2
  have space : ∀ {b : Addr} {m : Str → Option Value}, s₁.heap.Ns b m → (hidT s₁.heap H).Ns b m := fun ⟨u, es, ep, e, z, r⟩ => ⟨u, es, ep, keep e (plain e z), z, r⟩
  have Kb : (K w.params).In (hidT s₁.heap H) := fun b u e => keep (Kh b u e) (by
    rcases Decidable.em (b = a) with e2 | e2
    · cases z : H b with
      | none => rfl
      | some v =>
        rw [e2] at e z
        rw [own (by rw [z]; exact Option.some_ne_none _)] at e
        cases e
    · exact none_of b e2)
  obtain ⟨mc, lim1, lim2⟩ := G.T.nolimit
  have e0 : Env0 l.prog w (K w.params) mg (hidT s₁.heap H) callerA [] s₁ H := ⟨rfl, ⟨Kb, space G.T.g, ⟨mb, space G.T.b, G.T.builtins⟩, ⟨mc, space lim1, lim2⟩⟩, fun b u e => of_hidT e, Nat.le_of_eq (hidT_size _ _), trivial, fun b hb => (nomatch (show b ∈ ([] : List Addr) from hb)), hok, .of_eq hg⟩
  refine codeAny_mono (run _ Kb (space G.T.g) s₁ H a _ e0 (bind s₁ (.ref a)) (hsp _ H a ns hlen sq)) fun r s' h => ?_
  match r, h with
  | .ok (.ret u), ⟨v, H', os, bare, un, hok', rv, q⟩ =>
    obtain rfl : v = .bl true := q
    obtain rfl : u = Value.bool true := rv
    refine ⟨rfl, OldK.of_keep fun b u e => ?_, os, bare⟩
    cases z : H b with
    | none => exact un.keep b u e z (fun m => (nomatch (show b ∈ ([] : List Addr) from m))) (List.not_mem_nil)
    | some v =>
      rcases only b with y | ⟨u2, xs, y⟩
      · cases y.symm.trans z
      · have later := (hok' b _ (un.frzs b u2 _ y)).1
        rw [e.symm.trans (hok b _ y).1]
        exact later
end Fl

set_option Elab.async false
set_option linter.all false
set_option maxRecDepth 100000
set_option maxHeartbeats 4000000
/-! slices of lists backwards, by ones -/
namespace Fl
open PySem PySem.Spec PyProof.Rows L2

/-- what xs[lo:hi:-1] takes -/
def pickR {α : Type} (xs : List α) (lo hi : Option Int) : List α := (let (a, b, c) := sliceBounds lo hi (some (-1)) xs.length; sliceRange a b c).filterMap (xs[·]?)
theorem pick_vals {xs : List V} {its : List Value} (r : Vals xs its) : ∀ ks : List Nat, Vals (ks.filterMap (xs[·]?)) (ks.filterMap (its[·]?))
  | [] => .nil
  | k :: ks => by
    have ih := pick_vals r ks
    have hl := r.length
    rw [List.filterMap_cons, List.filterMap_cons]
    cases hx : xs[k]? with
    | none =>
      have : its[k]? = none := by
        rw [List.getElem?_eq_none_iff] at hx ⊢
        omega
      rw [this]
      exact ih
    | some x =>
      obtain ⟨u, hu, rv⟩ := r.get hx
      rw [hu]
      exact .cons rv ih
def rSlR (K : PySem.W.Frag) : V → Option Int → Option Int → Hp → VK → Prop := fun x lo hi H Q => ∃ a xs, x = .ref a ∧ SqL K H a xs ∧ (pickR xs lo hi).length ≤ xs.length ∧ ∀ p, H p = none → Q (.ref p) (upd H p (.lst (pickR xs lo hi)))
theorem pe_slR {X : Cx} {K : PySem.W.Frag} {e : Expr} {te : TE} {lo hi : Option Expr} {tl th : TO} {k : Nat} {p1 p2 p3 pos : Pos} (eK : X.K = K) (he : PE X e te) (hl : PO X lo tl) (hh : PO X hi th) :
    PE X (.Subscript e (.Slice lo hi (some (.UnaryOp .USub (.Constant (.int 1) k p1) p2)) p3) pos) (L2.tSl (rSlR K) te tl th) := by
  subst eK
  refine ⟨fun pins s σ H Q I h => ?_⟩
  have one : PO X (some (.UnaryOp .USub (.Constant (.int 1) k p1) p2)) (tPart (tUn (rU fun i => .int (-i)) (tC (.int 1)))) := po_some (pe_un un_neg pe_int)
  refine Subscript_ (thn (he.run pins s σ H _ I h) fun v s1 ⟨x, H1, I1, r1, q1⟩ => ?_)
  refine wpAny_Slice (thn (hl.run pins s1 σ H1 _ I1 q1) fun vl s2 ⟨l, H2, I2, pl, q2⟩ => thn (hh.run pins s2 σ H2 _ I2 q2) fun vu s3 ⟨u, H3, I3, pu, a, xs, ex, hx, hz1, q⟩ =>
    thn (one.run pins s3 σ H3 (fun o H4 => o = some (-1) ∧ H4 = H3) I3 ⟨1, rfl, -1, rfl, rfl, rfl⟩) fun vs s4 ⟨o, H4, I4, ps, eo, e4⟩ => ?_)
  subst eo e4 ex
  cases r1
  have I5 : Inv X pins σ H4 { s4 with heap := s4.heap.push { cls := .type "slice", data := .fields #[vl, vu, vs] } } := I4.kept (t' := s4.toks) fun _ _ z => Heap.get?_push_of_some _ z
  obtain ⟨its, r, ht, hz⟩ := I5.list hx
  have hlen := r.length
  have hsz : its.toArray.size ≤ sizeLine := by rw [List.size_toArray]; omega
  refine tail_any (ops := [.ref a, .ref s4.heap.objs.size]) ht.isList.typeIs (PySem.slot_list_getitem.lookup) (wpAny_getItem_list_slice ht.isList (Heap.IsSliceOf.new _ vl vu vs) pl pu ps (by decide) ?_ hsz) (by with_unfolding_all rfl)
  have hp : slicePick its.toArray l u (some (-1)) = (pickR its l u).toArray := by
    unfold slicePick pickR
    simp only [List.size_toArray]
    congr 1
    congr 1
    funext i
    simp
  rw [hp]
  have hv : Vals (pickR xs l u) (pickR its l u) := by
    unfold pickR
    rw [hlen]
    exact pick_vals r _
  exact ⟨.ref _, _, I5.laid (t' := s4.toks) (o := .lst (pickR xs l u)) (fun _ _ z => Heap.get?_push_of_some _ z) (Nat.le_refl _) ⟨Nat.le_trans hz1 hz, _, 0, hv, Heap.get?_push_size _ rfl⟩, rfl, q _ (I5.hok.fresh (Nat.le_refl _))⟩
theorem fmc {α β : Type} {f g : α → Option β} : ∀ {l : List α}, (∀ x, x ∈ l → f x = g x) → l.filterMap f = l.filterMap g
  | [], _ => rfl
  | x :: l, h => by
    rw [List.filterMap_cons, List.filterMap_cons, h x (by simp), fmc fun y m => h y (List.mem_cons_of_mem _ m)]
theorem fm_takeG {α : Type} (rs : List α) : ∀ n : Nat, (List.range n).filterMap (fun i => rs[i]?) = rs.take n
  | 0 => by simp
  | n + 1 => by
    rw [List.range_succ, List.filterMap_append, fm_takeG rs n, List.take_succ]
    cases h : rs[n]? <;> simp [h]
/-- xs[:0:-1] -/
theorem pickR_0 {α : Type} (xs : List α) : pickR xs none (some 0) = (xs.drop 1).reverse := by
  have e0 : pickR xs none (some 0) = (sliceRange ((xs.length : Int) - 1) 0 (-1)).filterMap (xs[·]?) := by
    unfold pickR
    have : sliceBounds none (some 0) (some (-1)) xs.length = ((xs.length : Int) - 1, 0, -1) ∨ xs.length = 0 := by
      rcases Nat.eq_zero_or_pos xs.length with h | h
      · exact .inr h
      · left
        unfold sliceBounds
        simp
        omega
    rcases this with h | h
    · rw [h]
    · have : xs = [] := List.eq_nil_of_length_eq_zero h
      subst this
      rfl
  rw [e0]
  have e1 : sliceRange ((xs.length : Int) - 1) 0 (-1) = (List.range (xs.length - 1)).map fun k => xs.length - 1 - k := by
    unfold sliceRange
    rw [if_neg (by decide)]
    have : (if (xs.length : Int) - 1 > 0 then ((xs.length : Int) - 1 - 0 - -1 - 1) / - -1 else 0).toNat = xs.length - 1 := by
      split
      · rw [show (- -1 : Int) = 1 from rfl, Int.ediv_one]
        omega
      · omega
    show (List.range (if (xs.length : Int) - 1 > 0 then ((xs.length : Int) - 1 - 0 - -1 - 1) / - -1 else 0).toNat).map _ = _
    rw [this]
    refine List.map_congr_left fun k hk => ?_
    have := List.mem_range.mp hk
    omega
  rw [e1]
  rw [List.filterMap_map]
  have e2 : ((List.range (xs.length - 1)).filterMap ((fun x => xs[x]?) ∘ fun k => xs.length - 1 - k)) = (List.range (xs.length - 1)).filterMap fun k => ((xs.drop 1).reverse)[k]? := by
    refine fmc fun k hk => ?_
    have hk := List.mem_range.mp hk
    show xs[xs.length - 1 - k]? = _
    rw [List.getElem?_reverse (by rw [List.length_drop]; omega), List.length_drop, List.getElem?_drop]
    congr 1
    omega
  rw [e2, fm_takeG, List.take_of_length_le (by simp)]
theorem g_slR0 {K : PySem.W.Frag} {H : Hp} {Q : VK} {a : Addr} {xs : List V} (h : SqL K H a xs) (q : ∀ p, H p = none → Q (.ref p) (upd H p (.lst (xs.drop 1).reverse))) : rSlR K (.ref a) none (some 0) H Q :=
  ⟨a, xs, rfl, h, by rw [pickR_0]; simp, by rw [pickR_0]; exact q⟩
end Fl

set_option Elab.async false
set_option linter.all false
set_option maxRecDepth 100000
set_option maxHeartbeats 4000000
/-! list(reversed(xs)), xs a list -/
namespace Fl
open PySem PySem.Spec PyProof.Rows L2
section
variable {prog : Program} {w : World} {A : Around} {E : Value → Shared → Prop} {s : Shared}
abbrev nilO : Obj := { cls := .type "list", data := .seq #[] }
/-- S.extend(it), S a new list, it a list's iterator from its end -/
theorem ext_rev {it l S : Addr} {items : Array Value} {c0 : Nat} {R : Result → Shared → Prop} (hh : A.handled = none) (hit : s.heap.IsRevIter it l ((items.size : Int) - 1)) (hl : s.heap.IsList l items) (hne : l ≠ it) (hn : items.size ≤ sizeLine)
    (hSf : S ∉ [it, l]) (hS : s.heap.get? S = some { cls := .type "list", data := .seq #[] c0 })
    (hR : ∀ s' acc' c', Moved [S, it] (fun a b => b = a) s s' → s'.heap.get? S = some { cls := .type "list", dict := none, data := .seq acc' c', slots := #[] } → ItemsOf (fun i v => items[items.size - 1 - i]? = some v) acc' items.size → R (.ok (.ret .none)) s') :
    wpAny (model prog w) A.in1 (Builtin.List.listExtendWith (.ref S) (.ref it) .none)
      (fun fin s' => match fin with | .done f => R (.ok f) s' | .again c' => c'.quiet = true ∧ codeAny (model prog w) A c' R s') (fun e s' => R (.error e) s') s := by
  have W := (Walks.listRev (prog := prog) (w := w) (A := A.in1) hh it l hne items).toS
  have T := hit.typeIs (s := s)
  have ne : S ≠ it := fun e => hSf (by rw [e]; exact List.mem_cons_self)
  have same : Builtin.List.listSameRef (.ref S) (.ref it) = false := by simp [Builtin.List.listSameRef, ne]
  unfold Builtin.List.listExtendWith
  refine wpAny_bind (wpAny_typeOf T ?_); rw [if_neg (by rw [same]; decide)]
  refine wpAny_bind (wpAny_pyIter_revIter hit ?_); refine wpAny_bind (wpAny_holding ?_)
  unfold Builtin.List.listLengthHint
  refine wpAny_bind (wpAny_specialOf T RT.nolen_lri ?_); show wpAny _ A.in1 (specialOf (Value.ref it) (Str.ofString "__length_hint__") >>= _) _ _ s
  refine wpAny_bind (wpAny_specialOf T RT.hint_lri ?_); generalize hid : ("list_reverseiterator.__length_hint__" : String) = id0
  wp_delta
  rw [show splitId id0 = some ("list_reverseiterator", "__length_hint__") from by subst hid; decide +kernel]; subst hid
  refine wpAny_bind (wpAny_isInstance (b := true) T (by rw [isSubtype_type]; kernel_rfl) (wpAny_pure ?_)); rw [if_neg (by decide)]
  have e0 : ((items.size : Nat) : Int) - 1 - ((0 : Nat) : Int) = (items.size : Int) - 1 := Int.sub_zero _
  refine wpAny_pure ⟨plainId_quiet F.plain_extend_loop _, codeAny_extend_loopS W hn _ hSf _ items.size 0 _ _ _ rfl (Nat.zero_le _) ⟨Nat.zero_le _, by rw [e0]; exact hit, hl⟩ hS (ItemsOf.nil _) hR⟩
theorem make_rev {it l : Addr} {items : Array Value} {Q : Value → Shared → Prop} (hh : A.handled = none) (hit : s.heap.IsRevIter it l ((items.size : Int) - 1)) (hl : s.heap.IsList l items) (hne : l ≠ it) (hn : items.size ≤ sizeLine)
    (hQ : ∀ s' acc' c', Moved [s.heap.objs.size, it] (fun a b => b = a) { s with heap := s.heap.push nilO } s' → s'.heap.get? s.heap.objs.size = some { cls := .type "list", dict := none, data := .seq acc' c', slots := #[] } →
      ItemsOf (fun i v => items[items.size - 1 - i]? = some v) acc' items.size → Q (.ref s.heap.objs.size) s') : wpAny (model prog w) A (call (.type "list") [.ref it]) Q E s := by
  obtain ⟨oi, hoi, _⟩ := id hit
  obtain ⟨ol, hol, _⟩ := id hl
  have n1 : s.heap.objs.size ≠ it := Nat.ne_of_gt (Heap.lt_size hoi)
  have n2 : s.heap.objs.size ≠ l := Nat.ne_of_gt (Heap.lt_size hol)
  refine callType_codes (Q₁ := fun obj s₁ => obj = .ref s.heap.objs.size ∧ s₁ = { s with heap := s.heap.push nilO }) F.called_list (F.typeCall_list_1 _) F.entry_list_init (code_list_new _ ⟨rfl, rfl⟩) fun obj s₁ ⟨e1, e2⟩ => ?_
  subst e1 e2
  have hS : (s.heap.push nilO).get? s.heap.objs.size = some nilO := Heap.get?_push_size _ rfl
  refine ⟨⟨_, hS, rfl⟩, F.args_list_init_2 _ _, ?_⟩
  show wpAny _ A.in1.in1 (do let old ← Builtin.List.listItems (.ref s.heap.objs.size); Builtin.List.listUpdate (.ref s.heap.objs.size) (fun _ => #[]); letGo old.toList.reverse; Builtin.List.listExtendWith (.ref s.heap.objs.size) (.ref it) .none) _ _ _
  unfold Builtin.List.listItems
  refine wpAny_bind (wpAny_bind (wpAny_seqItems hS rfl (wpAny_pure ?_)))
  all_goals first
    | (refine wpAny_bind (wpAny_updateSeq hS rfl (wpAny_bind (wpAny_letGo ?_)))
       have hS2 := Heap.get?_update_self (Obj.mapSeq (fun _ => (#[] : Array Value))) hS rfl
       have oth : ∀ b o, b ≠ s.heap.objs.size → s.heap.get? b = some o → ((s.heap.push nilO).update s.heap.objs.size (Obj.mapSeq (fun _ => (#[] : Array Value)))).get? b = some o := fun b o hb e => (Heap.get?_update_other _ _ (Ne.symm hb)).trans (Heap.get?_push_of_some _ e)
       refine ext_rev (A := A.in1) hh (hit.at fun o e => oth it o (Ne.symm n1) e) (hl.at fun o e => oth l o (Ne.symm n2) e) hne hn (by simp [n1, n2]) hS2 fun s' acc' c' hm hS' hacc => ?_
       refine ⟨rfl, hQ s' acc' c' (Moved.trans (G := fun a b => b = a) (fun a b c h k => k.trans h) ((Moved.refl (G := fun a b => b = a) fun _ => rfl).then_heap (Nat.le_refl _) fun b o hb e => ?_) hm) hS' hacc⟩
       exact (Heap.get?_update_other _ _ (fun z => hb (by rw [z]; exact List.mem_cons_self))).trans e)
end
/-- list(reversed(x)), x a list: a new list -/
def tListRev (K : PySem.W.Frag) (te : TE) : TE := fun σ H Q => te σ H fun v H1 => ∃ (a : Addr) (xs : List V), v = .ref a ∧ SqL K H1 a xs ∧ ∀ q, H1 q = none → Q (.ref q) (upd H1 q (.lst xs.reverse))
theorem pe_listRev {X : Cx} {K : PySem.W.Frag} {e : Expr} {te : TE} {p p2 pos pos2 : Pos} (eK : X.K = K) (hc : X.calm = true) (hg : Gl X "list") (hm : X.mg "list" = none) (hg2 : Gl X "reversed") (hm2 : X.mg "reversed" = none) (he : PE X e te)
    (hs : starEach [e] X.env = (false, eval e X.env) :: starEach [] X.env := by rfl)
    (hs2 : starEach [.Call (.Name "reversed" p2) [e] [] pos2] X.env = (false, eval (.Call (.Name "reversed" p2) [e] [] pos2) X.env) :: starEach [] X.env := by rfl) :
    PE X (.Call (.Name "list" p) [.Call (.Name "reversed" p2) [e] [] pos2] [] pos) (tListRev K te) := by
  subst eK
  refine ⟨fun pins s σ H Q I h => Call_ (ld_blt I hg hm boot_list (PyProof.Rows.callWith_type1 (args_cons (Call_ (ld_blt I hg2 hm2 PyProof.Rows.boot_reversed (PyProof.Rows.callWith_type1 (args_cons (thn (he.run pins s σ H _ I h) fun u s1 ⟨v, H1, I1, r1, a, xs, ev, hq, q⟩ => args_nil ?_) hs) hs rfl))) hs2) hs2 rfl))⟩
  subst ev
  obtain rfl : u = Value.ref a := r1
  obtain ⟨its, rv, pl, hz⟩ := I1.list hq
  have hl := pl.isList
  have hlen := rv.length
  obtain ⟨ol, hol, _⟩ := id hl
  refine call_reversed_list hl (args_nil ?_)
  have I2 : Inv X pins σ H1 { s1 with heap := s1.heap.push (revObj a ((its.toArray.size : Int) - 1)) } := I1.kept (t' := s1.toks) fun b o z => Heap.get?_push_of_some _ z
  obtain ⟨f0, f1, f2, f3, f4, f5⟩ := I1.fpOk (H' := H1) (b := s1.heap.objs.size) (Nat.le_refl _) (I1.hok.fresh (Nat.le_refl _))
  refine make_rev (s := { s1 with heap := s1.heap.push (revObj a ((its.toArray.size : Int) - 1)) }) (items := its.toArray) (I1.ok.hd hc) ⟨_, Heap.get?_push_size _ rfl, rfl, rfl⟩ (hl.push _) (Nat.ne_of_lt (Heap.lt_size hol)) (by rw [List.size_toArray]; omega) fun s' acc' c' hm hS hi => ?_
  rw [Moved.eq_with hm]
  have new : H1 (s1.heap.objs.size + 1) = none := I1.hok.fresh (Nat.le_succ _)
  have at1 : ({ s1 with heap := s1.heap.push (revObj a ((its.toArray.size : Int) - 1)) } : Shared).heap.objs.size = s1.heap.objs.size + 1 := by simp [Heap.push]
  rw [at1] at hS hm ⊢
  have keep : ∀ b o, b ≠ s1.heap.objs.size → b ≠ s1.heap.objs.size + 1 → ((s1.heap.push (revObj a ((its.toArray.size : Int) - 1))).push nilO).get? b = some o → s'.heap.get? b = some o := fun b o n n1 z => hm.heap b o (by simp [n, n1]) z
  have I3 : Inv X pins σ (upd H1 (s1.heap.objs.size + 1) (.lst [])) { s1 with heap := (s1.heap.push (revObj a ((its.toArray.size : Int) - 1))).push nilO } :=
    I2.laid (t' := s1.toks) (fun b o z => Heap.get?_push_of_some _ z) (Nat.le_of_eq at1) ⟨Nat.zero_le _, [], 0, .nil, by rw [← at1]; exact Heap.get?_push_size _ rfl⟩
  have n2 : s1.heap.objs.size ≠ s1.heap.objs.size + 1 := Nat.ne_of_lt (Nat.lt_succ_self _)
  have mid : (s'.heap.update (s1.heap.objs.size + 1) (fun _ => nilO)).get? (s1.heap.objs.size + 1) = some nilO := Heap.get?_update_self _ hS rfl
  have I4 : Inv X pins σ (upd H1 (s1.heap.objs.size + 1) (.lst [])) { s1 with heap := s'.heap.update (s1.heap.objs.size + 1) (fun _ => nilO), toks := s'.toks } := by
    refine I3.turned (t' := s'.toks) (fun b o n z => ?_) (by rw [upd_ne n2]; exact I1.hok.fresh (Nat.le_refl _)) f1 f3 f4 f5
    by_cases e : b = s1.heap.objs.size + 1
    · subst e
      rw [← at1] at z
      rw [Heap.get?_push_size _ rfl] at z
      cases z
      exact mid
    · exact (Heap.get?_update_other _ _ (Ne.symm e)).trans (keep b o n e z)
  have I5 : Inv X pins σ (upd (upd H1 (s1.heap.objs.size + 1) (.lst [])) (s1.heap.objs.size + 1) (.lst xs.reverse)) { s1 with heap := s'.heap, toks := s'.toks } :=
    I4.write (by rw [upd_same]; trivial) (.inl rfl) (fun b o n z => by rw [← z]; exact (Heap.get?_update_other _ _ (Ne.symm n)).symm) ⟨_, hS⟩ ⟨by rw [List.length_reverse]; exact hz, acc'.toList, c', RT.vals_rev rv hi, by rw [hS]⟩
  refine ⟨.ref _, _, I5, rfl, ?_⟩
  rw [upd_upd]
  exact q _ new
end Fl

set_option Elab.async false
set_option linter.all false
set_option maxRecDepth 100000
set_option maxHeartbeats 4000000
/-! turning sums, reversed contours: the mathematics -/
namespace Fl
open PySem PySem.Spec PyProof.Rows L2

def cr (p q : Pt) : Int := p.1 * q.2.1 - q.1 * p.2.1
/-- over a path -/
def pa : List Pt → Int
  | p :: q :: l => cr p q + pa (q :: l)
  | _ => 0
def tc (c : List Pt) : Int := ((c.zip (beg c 1)).map fun z => cr z.1 z.2).sum
def ts (o : List (List Pt)) : Int := (o.map tc).sum
def rv (c : List Pt) : List Pt := c.take 1 ++ (c.drop 1).reverse
theorem pa_app : ∀ (u : List Pt) (x : Pt) (v : List Pt), pa (u ++ x :: v) = pa (u ++ [x]) + pa (x :: v)
  | [], x, v => by simp [pa]
  | [y], x, v => by simp [pa]
  | y :: z :: u, x, v => by
    have ih := pa_app (z :: u) x v
    show cr y z + pa (z :: u ++ x :: v) = cr y z + pa (z :: u ++ [x]) + pa (x :: v)
    rw [ih, Int.add_assoc]
theorem pa_rev : ∀ l : List Pt, pa l.reverse = -pa l
  | [] => rfl
  | [_] => rfl
  | p :: q :: l => by
    have ih := pa_rev (q :: l)
    rw [List.reverse_cons] at ih
    rw [List.reverse_cons, List.reverse_cons, List.append_assoc]
    show pa (l.reverse ++ q :: [p]) = -(cr p q + pa (q :: l))
    rw [pa_app, ih]
    show -pa (q :: l) + (cr q p + 0) = _
    unfold cr
    omega
theorem tc_pa (p : Pt) (l : List Pt) : tc (p :: l) = pa (p :: l ++ [p]) := by
  have key : ∀ (l : List Pt) (p x : Pt), (((p :: l).zip (l ++ [x])).map fun z => cr z.1 z.2).sum = pa (p :: l ++ [x]) := by
    intro l
    induction l with
    | nil => intro p x; simp [pa]
    | cons q l ih =>
      intro p x
      have := ih q x
      show (cr p q :: ((q :: l).zip (l ++ [x])).map fun z => cr z.1 z.2).sum = cr p q + pa (q :: l ++ [x])
      rw [List.sum_cons, this]
  exact key l p p
theorem tc_rv (c : List Pt) : tc (rv c) = -tc c := by
  cases c with
  | nil => rfl
  | cons p l =>
    show tc (p :: l.reverse) = _
    rw [tc_pa, tc_pa, ← pa_rev]
    congr 1
    simp
theorem ts_rv (o : List (List Pt)) : ts (o.map rv) = -ts o := by
  unfold ts
  induction o with
  | nil => rfl
  | cons c o ih =>
    rw [List.map_cons, List.map_cons, List.sum_cons, List.map_cons, List.sum_cons, ih, tc_rv]
    omega
theorem rv_rv (c : List Pt) : rv (rv c) = c := by
  cases c with
  | nil => rfl
  | cons p l =>
    show p :: l.reverse.reverse = _
    rw [List.reverse_reverse]
theorem rv_len (c : List Pt) : (rv c).length = c.length := by
  cases c with
  | nil => rfl
  | cons p l =>
    show (p :: l.reverse).length = _
    simp
theorem rv_mem {c : List Pt} {x : Pt} : x ∈ rv c ↔ x ∈ c := by
  cases c with
  | nil => rfl
  | cons p l =>
    show x ∈ p :: l.reverse ↔ _
    simp
/-! turn by turn -/
def tz (c : List Pt) (i : Nat) : Int := (((c.zip (beg c 1)).take i).map fun z => cr z.1 z.2).sum
theorem tz_zero (c : List Pt) : tz c 0 = 0 := rfl
theorem tz_all (c : List Pt) : tz c c.length = tc c := by
  unfold tz tc
  rw [List.take_of_length_le (by rw [List.length_zip, beg_len]; omega)]
theorem beg1_get {c : List Pt} {i : Nat} (h : i < c.length) : (beg c 1)[i]? = c[(i + 1) % c.length]? := by
  unfold beg
  rcases Nat.lt_or_ge (i + 1) c.length with g | g
  · rw [Nat.mod_eq_of_lt g, List.getElem?_append_left (by rw [List.length_drop]; omega), List.getElem?_drop, Nat.add_comm]
  · have e : i + 1 = c.length := by omega
    rw [e, Nat.mod_self, List.getElem?_append_right (by rw [List.length_drop]; omega), List.length_drop]
    have : i - (c.length - 1) = 0 := by omega
    rw [this]
    cases c with
    | nil => cases h
    | cons p l => rfl
theorem tz_succ {c : List Pt} {i : Nat} {p q : Pt} (hp : c[i]? = some p) (hq : (beg c 1)[i]? = some q) : tz c (i + 1) = tz c i + cr p q := by
  unfold tz
  rw [take_zip hp hq, List.map_append, List.sum_append]
  simp
theorem cr_big {p q : Pt} (hp : PtIn (10 ^ 6) p) (hq : PtIn (10 ^ 6) q) : (cr p q).natAbs ≤ 2 * 10 ^ 12 ∧ (p.1 * q.2.1).natAbs ≤ 10 ^ 12 ∧ (q.1 * p.2.1).natAbs ≤ 10 ^ 12 := by
  obtain ⟨a1, a2, a3, a4⟩ := hp
  obtain ⟨b1, b2, b3, b4⟩ := hq
  have h1 : (p.1 * q.2.1).natAbs ≤ 10 ^ 12 := by
    rw [Int.natAbs_mul]
    exact Nat.le_trans (Nat.mul_le_mul (show p.1.natAbs ≤ 10 ^ 6 by omega) (show q.2.1.natAbs ≤ 10 ^ 6 by omega)) (by decide)
  have h2 : (q.1 * p.2.1).natAbs ≤ 10 ^ 12 := by
    rw [Int.natAbs_mul]
    exact Nat.le_trans (Nat.mul_le_mul (show q.1.natAbs ≤ 10 ^ 6 by omega) (show p.2.1.natAbs ≤ 10 ^ 6 by omega)) (by decide)
  refine ⟨?_, h1, h2⟩
  unfold cr
  omega
/-! how data is shown -/
structure Sw (k W : Nat) (d : PyData) : Prop where
  sh : d.showable = true
  nd : d.hasDict = false
  lv : d.leavesShort 13 = true
  dp : d.depth ≤ k
  wt : d.weight ≤ W
theorem Sw.shw {k W : Nat} {d : PyData} (h : Sw k W d) (hk : k ≤ 40) (hW : W ≤ 2 ^ 20) : Shw d := ⟨h.sh, h.nd, Nat.le_trans h.dp hk, h.lv, Nat.le_trans h.wt hW⟩
theorem Sw.mono {k W j U : Nat} {d : PyData} (h : Sw k W d) (hk : k ≤ j) (hW : W ≤ U) : Sw j U d := ⟨h.sh, h.nd, h.lv, Nat.le_trans h.dp hk, Nat.le_trans h.wt hW⟩
theorem Sw.all {k W : Nat} : ∀ ds : List PyData, (∀ d, d ∈ ds → Sw k W d) → PyData.showableAll ds = true ∧ PyData.hasDictAll ds = false ∧ PyData.leavesShortAll 13 ds = true ∧ PyData.depthAll ds ≤ k ∧ PyData.weightAll ds ≤ (W + 1) * ds.length
  | [], _ => by simp [PyData.showableAll, PyData.hasDictAll, PyData.leavesShortAll, PyData.depthAll, PyData.weightAll]
  | d :: ds, h => by
    obtain ⟨a, b, c, e, f⟩ := h d (by simp)
    obtain ⟨a2, b2, c2, e2, f2⟩ := Sw.all ds fun e m => h e (List.mem_cons_of_mem _ m)
    refine ⟨by simp [PyData.showableAll, a, a2], by simp [PyData.hasDictAll, b, b2], by simp [PyData.leavesShortAll, c, c2], ?_, ?_⟩
    · simp only [PyData.depthAll]
      omega
    · simp only [PyData.weightAll, List.length_cons, Nat.mul_succ]
      omega
theorem Sw.lst {k W : Nat} {ds : List PyData} (h : ∀ d, d ∈ ds → Sw k W d) : Sw (k + 1) ((W + 1) * ds.length) (.list ds) := by
  obtain ⟨a, b, c, e, f⟩ := Sw.all ds h
  exact ⟨by simpa [PyData.showable] using a, by simpa [PyData.hasDict] using b, by simpa [PyData.leavesShort] using c, by simp only [PyData.depth]; omega, by simp only [PyData.weight]; omega⟩
theorem Sw.tup {k W : Nat} {ds : List PyData} (h : ∀ d, d ∈ ds → Sw k W d) : Sw (k + 1) ((W + 1) * ds.length) (.tuple ds) := by
  obtain ⟨a, b, c, e, f⟩ := Sw.all ds h
  exact ⟨by simpa [PyData.showable] using a, by simpa [PyData.hasDict] using b, by simpa [PyData.leavesShort] using c, by simp only [PyData.depth]; omega, by simp only [PyData.weight]; omega⟩
theorem Sw.int {i : Int} (h : i.natAbs < 10 ^ 12) : Sw 0 41 (.int i) := by
  have h2 : i.natAbs < 2 ^ 41 := Nat.lt_of_lt_of_le h (by decide)
  have l : i.natAbs.log2 ≤ 40 := by
    rcases Nat.eq_zero_or_pos i.natAbs with z | z
    · rw [z]; decide
    · have := (Nat.log2_lt (k := 41) (by omega)).mpr h2
      omega
  refine ⟨?_, rfl, ?_, Nat.le_refl _, ?_⟩
  · simp only [PyData.showable, decide_eq_true_eq]
    omega
  · simp only [PyData.leavesShort, decide_eq_true_eq]
    exact PyData.shown_int_le h
  · simp only [PyData.weight]
    split <;> omega
theorem Sw.bl {b : Bool} : Sw 0 0 (.bool b) := ⟨rfl, rfl, rfl, Nat.le_refl _, Nat.le_refl _⟩
theorem Sw.int20 {i : Int} (h : i.natAbs ≤ 10 ^ 6) : Sw 0 20 (.int i) := by
  obtain ⟨a, b, c, d, _⟩ := Sw.int (i := i) (by omega)
  refine ⟨a, b, c, d, ?_⟩
  have l : i.natAbs.log2 ≤ 19 := by
    rcases Nat.eq_zero_or_pos i.natAbs with z | z
    · rw [z]; decide
    · have := (Nat.log2_lt (k := 20) (by omega)).mpr (Nat.lt_of_le_of_lt h (by decide))
      omega
  simp only [PyData.weight]
  split <;> omega
theorem sw_pt {p : Pt} (h : PtIn (10 ^ 6) p) : Sw 1 63 (ptD p) := by
  obtain ⟨h1, h2, h3, h4⟩ := h
  refine (Sw.tup (k := 0) (W := 20) fun d m => ?_).mono (Nat.le_refl _) (by show (20 + 1) * 3 ≤ 63; decide)
  simp only [List.mem_cons, List.not_mem_nil, or_false] at m
  rcases m with rfl | rfl | rfl
  · exact Sw.int20 (by omega)
  · exact Sw.int20 (by omega)
  · exact Sw.bl.mono (Nat.le_refl _) (by decide)
theorem sw_ct {c : List Pt} {n : Nat} (h : ∀ p, p ∈ c → PtIn (10 ^ 6) p) (hn : c.length ≤ n) : Sw 2 (64 * n) (ctD c) := by
  refine (Sw.lst (k := 1) (W := 63) fun d m => ?_).mono (Nat.le_refl _) (by rw [List.length_map]; omega)
  obtain ⟨p, hp, rfl⟩ := List.mem_map.mp m
  exact sw_pt (h p hp)
theorem sw_ou {o : List (List Pt)} {n : Nat} (h : ∀ c, c ∈ o → c.length ≤ n ∧ ∀ p, p ∈ c → PtIn (10 ^ 6) p) : Sw 3 ((64 * n + 1) * o.length) (ouD o) := by
  refine (Sw.lst (k := 2) (W := 64 * n) fun d m => ?_).mono (Nat.le_refl _) (by rw [List.length_map]; exact Nat.le_refl _)
  obtain ⟨c, hc, rfl⟩ := List.mem_map.mp m
  exact sw_ct (h c hc).2 (h c hc).1
end Fl
namespace Fl
open PySem PySem.Spec PyProof.Rows L2
def fTs (ds : List PyData) (d : PyData) : Prop := ∃ o : List (List Pt), ds = [ouD o] ∧ o.length ≤ 100 ∧ (∀ c, c ∈ o → c.length ≤ 100 ∧ ∀ p, p ∈ c → PtIn (10 ^ 6) p) ∧ d = .int (ts o)
def fRv (ds : List PyData) (d : PyData) : Prop := ∃ o : List (List Pt), ds = [ouD o] ∧ o.length ≤ 100 ∧ (∀ c, c ∈ o → c.length ≤ 100) ∧ d = ouD (o.map rv)
theorem ts_take {o : List (List Pt)} {i : Nat} {c : List Pt} (h : o[i]? = some c) : ((o.take (i + 1)).map tc).sum = ((o.take i).map tc).sum + tc c := by
  rw [List.take_succ, h, List.map_append, List.sum_append]
  simp
theorem md_cast (i n : Nat) : ((i : Int) + 1) % (n : Int) = (((i + 1) % n : Nat) : Int) := by
  rw [Int.natCast_emod]
  rfl
theorem sz12 {n : Int} (h : n.natAbs ≤ 10 ^ 12) : n.natAbs < 2 ^ 4000 := Nat.lt_of_le_of_lt h (by decide +kernel)
theorem sz6 {n : Int} (h1 : -(10 ^ 6) ≤ n) (h2 : n ≤ 10 ^ 6) : n.natAbs < 2 ^ 4000 := sz12 (by omega)
end Fl
namespace Fl
open PySem PySem.Spec PyProof.Rows L2
section
variable {K : PySem.W.Frag} {H : Hp} {Q : VK} {a : Addr} {xs : List V} {te : TE} {σ : L2.St}
theorem g_lrev (h : te σ H fun v H1 => ∃ (a : Addr) (xs : List V), v = .ref a ∧ SqL K H1 a xs ∧ ∀ q, H1 q = none → Q (.ref q) (upd H1 q (.lst xs.reverse))) : tListRev K te σ H Q := h
theorem g_lrev2 {Q : Addr → List V → Prop} (h : SqL K H a xs) (q : Q a xs) : ∃ (b : Addr) (ys : List V), V.ref a = .ref b ∧ SqL K H b ys ∧ Q b ys := ⟨a, xs, rfl, h, q⟩
theorem g_eqS {x y : Str} (q : Q (.bl (decide (x = y))) H) : rEq (.str x) (.str y) H Q := ⟨rfl, by
  have e : decide (V.str x = V.str y) = decide (x = y) := by simp
  rw [e]; exact q⟩
end
end Fl

set_option Elab.async false
set_option linter.all false
set_option maxRecDepth 100000
set_option maxHeartbeats 4000000
/-! proper outlines -/
namespace Fl
open PySem PySem.Spec PyProof.Rows L2
def cnt (o : List (List Pt)) : Int := (o.map fun c => (c.length : Int)).sum
def okP (p : Pt) : Bool := decide (-16384 ≤ p.1 ∧ p.1 ≤ 16384 ∧ -16384 ≤ p.2.1 ∧ p.2.1 ≤ 16384)
def okC (c : List Pt) : Bool := decide (2 ≤ c.length) && c.all okP
def prp (o : List (List Pt)) : Bool := (decide (o.length ≤ 40) && decide (cnt o ≤ 200)) && o.all okC
def fCt (ds : List PyData) (d : PyData) : Prop := ∃ o : List (List Pt), ds = [ouD o] ∧ o.length ≤ 100 ∧ d = .int (cnt o)
def fPr (ds : List PyData) (d : PyData) : Prop := ∃ o : List (List Pt), ds = [ouD o] ∧ o.length ≤ 100 ∧ (∀ c, c ∈ o → c.length ≤ 900) ∧ d = .bool (prp o)
theorem cnt_flat (o : List (List Pt)) : cnt o = (o.flatten.length : Int) := by
  unfold cnt
  induction o with
  | nil => rfl
  | cons c o ih =>
    rw [List.map_cons, List.sum_cons, ih, List.flatten_cons, List.length_append]
    omega
theorem prp_many {o : List (List Pt)} (h : ¬ ((o.length : Int) ≤ 40)) : prp o = false := by
  unfold prp
  rw [decide_eq_false (by omega), Bool.false_and, Bool.false_and]
theorem prp_cnt {o : List (List Pt)} (h : ¬ (cnt o ≤ 200)) : prp o = false := by
  unfold prp
  rw [decide_eq_false h, Bool.and_false, Bool.false_and]
theorem prp_c {o : List (List Pt)} {c : List Pt} (m : c ∈ o) (h : okC c = false) : prp o = false := by
  unfold prp
  have : o.all okC = false := by
    rw [List.all_eq_false]
    exact ⟨c, m, by rw [h]; exact Bool.false_ne_true⟩
  rw [this, Bool.and_false]
theorem prp_true {o : List (List Pt)} (h1 : (o.length : Int) ≤ 40) (h2 : cnt o ≤ 200) (h3 : ∀ c, c ∈ o → okC c = true) : prp o = true := by
  unfold prp
  rw [decide_eq_true (by omega), decide_eq_true h2, List.all_eq_true.mpr h3]
  rfl
theorem okC_few {c : List Pt} (h : (c.length : Int) < 2) : okC c = false := by
  unfold okC
  rw [decide_eq_false (by omega), Bool.false_and]
theorem okC_p {c : List Pt} {p : Pt} (m : p ∈ c) (h : okP p = false) : okC c = false := by
  unfold okC
  have : c.all okP = false := by
    rw [List.all_eq_false]
    exact ⟨p, m, by rw [h]; exact Bool.false_ne_true⟩
  rw [this, Bool.and_false]
theorem okC_true {c : List Pt} (h1 : ¬ (c.length : Int) < 2) (h3 : ∀ p, p ∈ c → okP p = true) : okC c = true := by
  unfold okC
  rw [decide_eq_true (by omega), List.all_eq_true.mpr h3]
  rfl
theorem okP_f {p : Pt} (h : ¬ (-16384 ≤ p.1 ∧ p.1 ≤ 16384 ∧ -16384 ≤ p.2.1 ∧ p.2.1 ≤ 16384)) : okP p = false := decide_eq_false h
theorem okP_t {p : Pt} (h : -16384 ≤ p.1 ∧ p.1 ≤ 16384 ∧ -16384 ≤ p.2.1 ∧ p.2.1 ≤ 16384) : okP p = true := decide_eq_true h
theorem take_mem {α : Type} {l : List α} {P : α → Prop} {i : Nat} {x : α} (hx : l[i]? = some x) (h : ∀ y, y ∈ l.take i → P y) (k : P x) : ∀ y, y ∈ l.take (i + 1) → P y := by
  intro y m
  rw [List.take_succ, hx] at m
  rcases List.mem_append.mp m with m | m
  · exact h y m
  · rw [show y = x by simpa using m]
    exact k
/-- a changed outline -/
structure ChIn (o : List (List Pt)) : Prop where
  len : o.length ≤ 45
  cs : ∀ c, c ∈ o → c.length ≤ 300 ∧ ∀ p, p ∈ c → PtIn (10 ^ 6) p
  fl : o.flatten.length ≤ 400
def spCh : Sp := fun vs H Q _ => ∃ (d s : Addr) (ns : List Int) (a : V) (o : List (List Pt)), vs = [.ref d, a] ∧ Dk d s ns H ∧ Dq [d] H a (ouD o) ∧ OuIn 2 400 o ∧
  ∀ t H' o', Dk d s ns H' → Dq [d] H' t (ouD o') → ChIn o' → Q t H'
theorem flat_len {n : Nat} : ∀ {o : List (List Pt)}, (∀ c, c ∈ o → c.length ≤ n) → o.flatten.length ≤ n * o.length
  | [], _ => Nat.zero_le _
  | c :: o, h => by
    have h1 := h c (by simp)
    have h2 := flat_len (o := o) fun x m => h x (List.mem_cons_of_mem _ m)
    rw [List.flatten_cons, List.length_append, List.length_cons, Nat.mul_succ]
    omega
theorem OuIn.ch {o : List (List Pt)} (h : OuIn 2 400 o) : ChIn o := by
  have h1 := h.len
  refine ⟨by omega, fun c m => ?_, ?_⟩
  · obtain ⟨g1, g2, g3⟩ := h.cs c m
    refine ⟨by omega, fun p mp => ?_⟩
    obtain ⟨g1, g2, g3, g4⟩ := g3 p mp
    exact ⟨by omega, by omega, by omega, by omega⟩
  · have := flat_len (n := 7) fun c m => (h.cs c m).2.1
    omega
theorem ChIn.app {o u : List (List Pt)} (h : OuIn 2 400 o) (h1 : u.length ≤ 42) (h2 : ∀ c, c ∈ u → c.length ≤ 300 ∧ ∀ p, p ∈ c → PtIn (10 ^ 6) p) (h3 : u.flatten.length ≤ 300) : ChIn (o ++ u) := by
  obtain ⟨a, b, c⟩ := h.ch
  have h0 := h.len
  have := flat_len (n := 7) fun c m => (h.cs c m).2.1
  refine ⟨by rw [List.length_append]; omega, fun c m => ?_, by rw [List.flatten_append, List.length_append]; omega⟩
  rcases List.mem_append.mp m with m | m
  · exact b c m
  · exact h2 c m
theorem ChIn.pre {o : List (List Pt)} (h : OuIn 2 400 o) : ChIn ([] :: o) := by
  obtain ⟨a, b, c⟩ := h.ch
  have h0 := h.len
  refine ⟨by rw [List.length_cons]; omega, fun c m => ?_, by simpa using c⟩
  rcases List.mem_cons.mp m with rfl | m
  · exact ⟨by simp, fun _ m => nomatch m⟩
  · exact b c m
theorem PtIn.big {p : Pt} (h : PtIn 400 p) : PtIn (10 ^ 6) p := by
  obtain ⟨g1, g2, g3, g4⟩ := h
  exact ⟨by omega, by omega, by omega, by omega⟩
/-- same(x, y), of data at a depth of up to one -/
def spSm12 : Sp := fun vs H Q E => spSm1 vs H Q E ∨ spSm2 vs H Q E
theorem sh_tu {ds : List PyData} {n : Nat} (h : ∀ d, d ∈ ds → d.canLay0 = true ∧ d.depth ≤ n) (hn : n < 63) : (PyData.list ds).canLay0 = true ∧ (PyData.list ds).depth ≤ n + 1 := by
  have h1 := canLay_all (fun d => d.canLay0 = true) (fun _ h => h) ds (fun d m => (h d m).1)
  have h2 := depth_all n ds (fun d m => (h d m).2)
  refine ⟨by simp [PyData.canLay0, h1], ?_⟩
  simp only [PyData.depth]
  omega
theorem pt_lay (p : Pt) : (ptD p).canLay0 = true ∧ (ptD p).depth ≤ 1 := by
  unfold ptD
  simp [PyData.canLay0, PyData.canLayAll0, PyData.depth, PyData.depthAll]
theorem sh_ct (c : List Pt) : SeqAt.shaped (ctD c) = true := sh_list (n := 1) (fun d m => by
  obtain ⟨p, _, rfl⟩ := List.mem_map.mp m
  exact pt_lay p) (by decide)
theorem sh_nilL : SeqAt.shaped (.list []) = true := sh_list (n := 0) (fun d m => nomatch m) (by decide)
/-- a list of data is the empty list just if it has no item -/
theorem eqv_nil (ds : List PyData) : PyData.eqv (.list ds) (.list []) = ds.isEmpty := by
  cases ds with
  | nil => exact eqv_self sh_nilL
  | cons d ds => rfl
end Fl
namespace Fl
open PySem PySem.Spec PyProof.Rows L2
theorem fm_getD {β : Type} (f : Pt → Option β) : ∀ c : List Pt, (List.range c.length).filterMap (fun j => f (c.getD j p0)) = c.filterMap f
  | [] => rfl
  | p :: c => by
    rw [List.length_cons, List.range_succ_eq_map, List.filterMap_cons, List.filterMap_cons, List.filterMap_map]
    have ih := fm_getD f c
    have e : (List.range c.length).filterMap ((fun j => f ((p :: c).getD j p0)) ∘ Nat.succ) = c.filterMap f := ih
    rw [e]
    rfl
def bad (c : List Pt) : List PyData := c.filterMap fun p => if okP p = true then none else some (ptD p)
theorem bad_fm (c : List Pt) : (List.range c.length).filterMap (fun j => if okP (c.getD j p0) = true then none else some (ptD (c.getD j p0))) = bad c := fm_getD (fun p => if okP p = true then none else some (ptD p)) c
theorem bad_sh (c : List Pt) : SeqAt.shaped (.list (bad c)) = true := sh_list (n := 1) (fun d m => by
  obtain ⟨p, _, h⟩ := List.mem_filterMap.mp m
  split at h
  · cases h
  · cases h
    exact pt_lay p) (by decide)
theorem bad_nil {c : List Pt} (h : (bad c).isEmpty = true) : ∀ p, p ∈ c → okP p = true := by
  intro p m
  cases hp : okP p with
  | true => rfl
  | false =>
    have : ptD p ∈ bad c := List.mem_filterMap.mpr ⟨p, m, by rw [hp]; rfl⟩
    rw [List.isEmpty_iff.mp h] at this
    cases this
theorem bad_one {c : List Pt} (h : (bad c).isEmpty = false) : okC c = false := by
  cases hb : bad c with
  | nil => rw [hb] at h; cases h
  | cons d ds =>
    have m : d ∈ bad c := by rw [hb]; simp
    obtain ⟨p, mp, e⟩ := List.mem_filterMap.mp m
    split at e
    · cases e
    · rename_i hk
      exact okC_p mp (by simpa using hk)
theorem g_iteNB {b : Bool} {A B : Prop} (h1 : b = false → A) (h2 : b = true → B) : if (!b) = true then A else B := by
  cases b with
  | true => rw [if_neg (by decide)]; exact h2 rfl
  | false => rw [if_pos (by decide)]; exact h1 rfl
end Fl
namespace Fl
open PySem PySem.Spec PyProof.Rows L2
theorem cat_ou {S : List Addr} {H : Hp} {xs ys : List V} {o u : List (List Pt)} (h : DqA S H xs (o.map ctD)) (k : DqA S H ys (u.map ctD)) : DqA S H (xs ++ ys) ((o ++ u).map ctD) := by
  rw [List.map_append]
  exact h.app k
theorem rep_fm {α β : Type} (x : β) : ∀ l : List α, l.filterMap (fun _ => some x) = List.replicate l.length x
  | [] => rfl
  | _ :: l => by
    rw [List.filterMap_cons, rep_fm x l]
    rfl
theorem far_at {v : Int} (h0 : 0 ≤ v) (h1 : v < 4) : ∃ f : Int, atI [V.int 16384, V.int (-16384), V.int 16385, V.int (-16385)] v = some (.int f) ∧ -16385 ≤ f ∧ f ≤ 16385 := by
  rcases (by omega : v = 0 ∨ v = 1 ∨ v = 2 ∨ v = 3) with rfl | rfl | rfl | rfl
  · exact ⟨_, rfl, by decide, by decide⟩
  · exact ⟨_, rfl, by decide, by decide⟩
  · exact ⟨_, rfl, by decide, by decide⟩
  · exact ⟨_, rfl, by decide, by decide⟩
theorem flat_rep {α : Type} (x : List α) : ∀ n : Nat, (List.replicate n x).flatten.length = n * x.length
  | 0 => by simp
  | n + 1 => by rw [List.replicate_succ, List.flatten_cons, List.length_append, flat_rep x n, Nat.succ_mul, Nat.add_comm]
end Fl

set_option Elab.async false
set_option linter.all false
set_option maxRecDepth 100000
set_option maxHeartbeats 4000000
/-! the line of a contour by its ring and its start -/
namespace Fl
open PySem PySem.Spec PyProof.Rows L2
def wk (c : List Pt) (i : Nat) : List Pt := ((c.zip (beg c 1)).take i).flatMap fun z => w1 z.1 z.2
theorem wk_all (c : List Pt) : wk c c.length = wm c := by
  unfold wk
  rw [List.take_of_length_le (by rw [List.length_zip, beg_len]; omega)]
  exact wz_wm c
theorem wk_succ {c : List Pt} {i : Nat} {p q : Pt} (hp : c[i]? = some p) (hq : (beg c 1)[i]? = some q) : wk c (i + 1) = wk c i ++ w1 p q := by
  unfold wk
  rw [take_zip hp hq, List.flatMap_append]
  simp
theorem wk_len {c : List Pt} : ∀ i : Nat, (wk c i).length ≤ 2 * i
  | 0 => Nat.le_refl _
  | i + 1 => by
    have ih := wk_len (c := c) i
    rcases Nat.lt_or_ge i c.length with h | h
    · obtain ⟨p, hp⟩ : ∃ p, c[i]? = some p := ⟨_, List.getElem?_eq_getElem h⟩
      obtain ⟨q, hq⟩ : ∃ q, (beg c 1)[i]? = some q := ⟨_, List.getElem?_eq_getElem (by rw [beg_len]; exact h)⟩
      rw [wk_succ hp hq, List.length_append]
      have := (w1_len p q).2
      omega
    · have e : wk c (i + 1) = wk c i := by
        unfold wk
        rw [List.take_of_length_le (by rw [List.length_zip, beg_len]; omega), List.take_of_length_le (by rw [List.length_zip, beg_len]; omega)]
      rw [e]
      omega
def stOf (c : List Pt) : Int := match ps c with
  | [] => ((wm c).length : Int) - 1
  | k :: _ => ((wk c k).length : Int)
theorem wk_wp {u : List Pt} {p : Pt} {v : List Pt} : wk (u ++ p :: v) u.length = wp u p := by
  cases u with
  | nil => rfl
  | cons x u =>
    have e : (x :: u ++ p :: v).zip (beg (x :: u ++ p :: v) 1) = (x :: u).zip (u ++ [p]) ++ (p :: v).zip (v ++ [x]) := by
      have e2 : beg (x :: u ++ p :: v) 1 = (u ++ [p]) ++ (v ++ [x]) := by
        unfold beg
        simp
      rw [e2]
      exact List.zip_append (by simp)
    unfold wk
    rw [e, List.take_append_of_le_length (by simp), List.take_of_length_le (by simp)]
    exact wz_wp u x p
theorem beg_ro {c : List Pt} (n : c ≠ []) : ∃ k : Nat, stOf c = (k : Int) ∧ k ≤ (wm c).length ∧ beg (wm c) k = ro c := by
  have hl := (wm_len c).1
  have hc : 0 < c.length := List.length_pos_iff.mpr n
  unfold stOf ro
  cases hp : ps c with
  | nil =>
    refine ⟨(wm c).length - 1, by show ((wm c).length : Int) - 1 = _; omega, by omega, ?_⟩
    unfold beg
    rw [List.dropLast_eq_take]
  | cons k l =>
    have hk : k < c.length := ps_lt (by rw [hp]; simp)
    obtain ⟨u, p, v, rfl, rfl⟩ : ∃ (u : List Pt) (p : Pt) (v : List Pt), c = u ++ p :: v ∧ k = u.length := by
      refine ⟨c.take k, c[k], c.drop (k + 1), ?_, ?_⟩
      · rw [List.getElem_cons_drop, List.take_append_drop]
      · rw [List.length_take]; omega
    refine ⟨(wk (u ++ p :: v) u.length).length, rfl, ?_, ?_⟩
    · rw [wk_wp]
      cases u with
      | nil => exact Nat.zero_le _
      | cons x u =>
        have e1 : wm (x :: u ++ p :: v) = wp (x :: u) p ++ wp (p :: v) x := wp_app (x :: u) p v x
        rw [e1, List.length_append]
        omega
    · show beg (wm (u ++ p :: v)) (wk (u ++ p :: v) u.length).length = wm (beg (u ++ p :: v) u.length)
      rw [wk_wp]
      have e0 : beg (u ++ p :: v) u.length = p :: v ++ u := by
        unfold beg
        simp
      rw [e0]
      cases u with
      | nil =>
        unfold beg
        simp [wp]
      | cons x u =>
        have e1 : wm (x :: u ++ p :: v) = wp (x :: u) p ++ wp (p :: v) x := wp_app (x :: u) p v x
        have e2 : wm (p :: v ++ x :: u) = wp (p :: v) x ++ wp (x :: u) p := wp_app (p :: v) x u p
        rw [e1, e2]
        unfold beg
        simp
theorem na_get : ∀ {l : List Pt} {i : Nat} {p q : Pt}, Na l → l[i]? = some p → l[i + 1]? = some q → p.2.2 = true ∨ q.2.2 = true
  | [], _, _, _, _, h, _ => by simp at h
  | [x], i, p, q, _, _, h => by simp at h
  | x :: y :: l, 0, p, q, na, h, k => by
    simp at h k
    subst h k
    exact na.1
  | x :: y :: l, i + 1, p, q, na, h, k => na_get (l := y :: l) (i := i) na.2 (by simpa using h) (by simpa using k)
def fRi (ds : List PyData) (d : PyData) : Prop := ∃ c : List Pt, ds = [ctD c] ∧ c.length ≤ 100 ∧ d = ctD (wm c)
def fSt (ds : List PyData) (d : PyData) : Prop := ∃ c : List Pt, ds = [ctD c] ∧ c.length ≤ 100 ∧ d = .int (stOf c)
theorem stOf_first {c : List Pt} {k : Nat} {p : Pt} (hk : c[k]? = some p) (on : p.2.2 = true) (off : ∀ x, x ∈ c.take k → x.2.2 = false) : stOf c = ((wk c k).length : Int) := by
  have hkl := (List.getElem?_eq_some_iff.mp hk).1
  have e : ∃ l, ps c = k :: l := by
    unfold ps
    have h1 : List.range c.length = List.range k ++ (List.range (c.length - k)).map (k + ·) := by
      rw [← List.range_add]
      congr 1
      omega
    rw [h1, List.filter_append]
    have h2 : (List.range k).filter (fun i => (c.getD i p0).2.2) = [] := by
      rw [List.filter_eq_nil_iff]
      intro i hi
      have hi := List.mem_range.mp hi
      obtain ⟨x, hx⟩ : ∃ x, c[i]? = some x := ⟨_, List.getElem?_eq_getElem (by omega)⟩
      rw [getD_of hx, off x (List.mem_of_getElem? (i := i) (by rw [List.getElem?_take]; simp [hi, hx]))]
      decide
    rw [h2, List.nil_append]
    obtain ⟨n, hn⟩ : ∃ n, c.length - k = n + 1 := ⟨c.length - k - 1, by omega⟩
    rw [hn, List.range_succ_eq_map, List.map_cons, List.filter_cons]
    have : (c.getD (k + 0) p0).2.2 = true := by
      rw [Nat.add_zero, getD_of hk]
      exact on
    rw [if_pos this]
    exact ⟨_, rfl⟩
  obtain ⟨l, e⟩ := e
  unfold stOf
  rw [e]
theorem stOf_none {c : List Pt} (off : ∀ x, x ∈ c → x.2.2 = false) : stOf c = ((wm c).length : Int) - 1 := by
  have e : ps c = [] := by
    unfold ps
    rw [List.filter_eq_nil_iff]
    intro i hi
    have hi := List.mem_range.mp hi
    obtain ⟨x, hx⟩ : ∃ x, c[i]? = some x := ⟨_, List.getElem?_eq_getElem hi⟩
    rw [getD_of hx, off x (List.mem_of_getElem? hx)]
    decide
  unfold stOf
  rw [e]
end Fl

set_option Elab.async false
set_option linter.all false
set_option maxRecDepth 100000
set_option maxHeartbeats 4000000
set_option exponentiation.threshold 20000
/-! own errors: B.__init__(self, ..) of an own base; X() without fields; isinstance of a caught one -/
namespace Fl
open PySem PySem.Spec PyProof.Rows L2
/-- what the written part says of an own base class whose __init__ is ValueError's -/
structure BaseC (K : PySem.W.Frag) (C : Addr) : Prop where
  sg : PySem.W.specialIn K (.ref C) "__getattribute__" = some (some (.builtin "type.__getattribute__"))
  ty : PySem.W.typeIn K (.ref C) = some (.type "type")
  rd : PySem.W.readsIn K C (.type "type") = true
  fc : PySem.W.findCls K (.ref C) (.type "type") "__init__" = some (.val (.builtin "ValueError.__init__"))
section
variable {X : Cx} {o e : Expr} {es : List Expr} {te : TE} {ta : TA} {x : Str} {C : Addr} {p p' p1 p2 pos : Pos}
theorem pe_binit {pl : Sem Bool} (hg : Gl X x) (hm : X.mg x = some (.ref C)) (B : BaseC X.K C) (ha : PA X (e :: es) ta) (hdb : (x == ("__debug__" : Str)) = false := by decide)
    (hc : eval (.Call (.Attribute (.Name x p1) "__init__" p2) (e :: es) [] pos) X.env = (do
      let ov ← eval (.Name x p1) X.env
      standAt p2.atName
      let (f, first) ← holding [ov] (getMethod ov "__init__" pl)
      callWith pos f first (backTo pos (starEach (e :: es) X.env)) (backToKw pos (keywordEach [] X.env))) := by rfl)
    (he : starEach (e :: es) X.env = (false, eval e X.env) :: starEach es X.env := by rfl) (hpl : (backTo pos (starEach es X.env)).any (·.1) = false := by rfl) :
    PE X (.Call (.Attribute (.Name x p1) "__init__" p2) (e :: es) [] pos) (tVeI X.K ta) := by
  refine ⟨fun pins s σ H Q I h => PySem.W.methodCall_KW (ld_glob I hg hm ?_ hdb) hc⟩
  obtain ⟨m, fr⟩ := I.fr
  refine PySem.W.method_of_cls fr I.ok.mod.kin B.sg (PySem.W.cls_val fr I.ok.mod.kin B.ty B.rd B.fc (by decide +kernel) ?_)
  refine PyProof.Rows.callWith_method1 (thn (ha.run pos pins _ σ H _ (I.tok _) h) fun us s1 ⟨vs, H1, I1, r1, a, C, ws, ev, hl, T, ea, q⟩ => ?_) he hpl
  subst ev
  cases r1 with
  | cons ra rw' =>
    cases ra
    exact oinit_ok T I1 ea (by rw [← Paired.length rw', sizeLine_eq]; omega) fun s' J => ⟨.non, H1, J, rfl, q⟩
end
section
variable {X : Cx}
/-- an error without fields, made: let go -/
theorem mk_nod {pins : List (Addr × Obj)} {σ : L2.St} {H1 H2 : Hp} {hp hp2 h2 : Heap} {g1 g2 : Array GenState} {d1 d2 : Drawn} {t1 t2 : Nat} {os1 os2 : OsState} {a C : Addr} (I1 : Inv X pins σ H1 ⟨hp, g1, d1, t1, os1⟩)
    (ha : hp.objs.size ≤ a) (k : ∀ b o, hp.get? b = some o → hp2.get? b = some o) (un : Un (frs X.stack) [] (upd H1 a (exo a C none)) H2 hp2 h2) (hok : HOk X.prog X.w H2 h2) (ho : os2 = os1) (hb : AllBare g2) (ea : H2 a = some (exo a C none)) :
    ∃ (t0 : Addr) (G : Heap), Inv X pins σ (del H2 a) ⟨G, g2, d2, t2, os2⟩ ∧ (∀ b o, G.get? b = some o → h2.get? b = some o) ∧ G.get? a = none ∧
      h2.get? a = some ({ cls := .ref C, dict := none, data := .fields #[.ref t0, .none, .none, .none, .bool false, .none] } : Obj) := by
  obtain ⟨t0, hoe⟩ := exo_at hok ea
  have hn : H1 a = none := I1.hok.fresh ha
  obtain ⟨G, gk', ge'⟩ := restrict h2 fun b => decide (b ≠ a)
  have gk : ∀ b, b ≠ a → G.get? b = h2.get? b := fun b n => gk' b (decide_eq_true n)
  have ge : G.get? a = none := ge' a (by simp)
  have old : ∀ {b : Addr} {u : Obj}, hp.get? b = some u → b ≠ a := fun z => Nat.ne_of_lt (Nat.lt_of_lt_of_le (Heap.lt_size z) ha)
  have none1 : ∀ {b : Addr}, b ≠ a → H1 b = none → upd H1 a (exo a C none) b = none := fun n z => (upd_ne n).trans z
  have some1 : ∀ {b : Addr} {u : HO}, H1 b = some u → upd H1 a (exo a C none) b = some u := fun z => (upd_ne (ne_of_none z hn)).trans z
  have U : Un (frs X.stack) [] H1 (del H2 a) hp G :=
    { keep := fun b u z n hf hx => (gk b (old z)).trans (un.keep b u (k b u z) (none1 (old z) n) hf hx)
      slot := fun b u z n hf hx => by rw [gk b (old z)]; exact un.slot b u (k b u z) (none1 (old z) n) hf hx
      free := fun b u z n hx => (del_ne (old z)).trans (un.free b u (k b u z) (none1 (old z) n) hx)
      there := fun b u z hx => by rw [gk b (old z)]; exact un.there b u (k b u z) hx
      tups := fun b xs z => (del_ne (ne_of_none z hn)).trans (un.tups b xs (some1 z))
      frzs := fun b u v z => (del_ne (ne_of_none z hn)).trans (un.frzs b u v (some1 z))
      tbls := fun b ps z => by rw [del_ne (ne_of_none z hn)]; exact un.tbls b ps (some1 z) }
  have hok3 : HOk X.prog X.w (del H2 a) G := fun b u z => by
    have n : b ≠ a := fun e => by rw [e, del_same] at z; cases z
    rw [del_ne n] at z
    have away : ∀ {c : Addr}, H2 c = some (.own b) → c ≠ a := fun hc => at_ne ea hc exo_own
    refine (hok b u z).stay (fun c v hc y => (gk c ?_).trans y) (fun c hc => (del_ne (away hc)).trans hc) (fun c xs hc => (del_ne (at_ne ea hc exo_tup)).trans hc)
    rcases hc with hc | hc
    · rw [hc]; exact n
    · exact away hc
  refine ⟨t0, G, I1.call' (ch := []) ho U hok3 hb (fun b z => absurd z (by simp)), fun b u z => ?_, ge, hoe⟩
  rcases Decidable.em (b = a) with e | e
  · rw [e, ge] at z; cases z
  · exact (gk b e).symm.trans z
/-- X(), X's __init__ keeping sp -/
def tMkN (C : Addr) (sp : Sp) : L2.St → Hp → XK → Prop := fun _ H Q => ∀ a, H a = none → sp [.ref a] (upd H a (exo a C none)) (fun v H2 => v = .non ∧ H2 a = some (exo a C none) ∧ Q (.ref C) none (del H2 a)) (fun _ _ _ => False)
theorem pmk_nod {CX : CXT} {x : Str} {C fI : Addr} {k : Nat} {fd : FuncData} {ps : List Str} {sp : Sp} {p pos : Pos} (T : OexC X.K C) (iC : PySem.W.findIn X.K (.ref C) "__init__" = some (some (.ref fI))) (tI : PySem.W.typeIn X.K (.ref fI) = some (.type "function"))
    (F1 : FnOk X.prog X.w X.K X.mg X.base CX k fI fd ps sp) (hr : Room (k + 1) X.A) (hb : Binds X.K fd ps []) (hx : Passes CX X (fun _ _ _ => False)) (hg : Gl X x) (hm : X.mg x = some (.ref C)) (hdb : (x == ("__debug__" : Str)) = false := by decide) :
    PMk X (.Call (.Name x p) [] [] pos) (tMkN C sp) := by
  intro pins s σ H Q I h
  obtain ⟨nm, q, N, bs, bm, sn, sub, ab, col, dd, k0, k1, k2, k3, k5, hC, hbm⟩ := T.cls
  refine wpAny_Call_Name_kw (ld_glob I hg hm (PySem.W.callWith_K0 I.kIn T.kC ?_) hdb)
  show wpAny _ _ (call (.ref C) []) _ _ _
  obtain ⟨hp, g, dr, tk, os⟩ := s
  have hsz : hp.objs.size ≤ hp.objs.size + 1 := Nat.le_succ _
  have hn : H (hp.objs.size + 1) = none := I.hok.fresh hsz
  have hq := h (hp.objs.size + 1) hn
  have kk : ∀ b o, hp.get? b = some o → ((hp.push (PySem.W.kdv_tup [])).push (PySem.HandSPX.excO C hp.objs.size)).get? b = some o := fun b o e => Heap.get?_push_of_some _ (Heap.get?_push_of_some _ e)
  have here : ((hp.push (PySem.W.kdv_tup [])).push (PySem.HandSPX.excO C hp.objs.size)).get? (hp.objs.size + 1) = some (PySem.HandSPX.excO C hp.objs.size) := by heap_get
  have I2 : Inv X pins σ (upd H (hp.objs.size + 1) (exo (hp.objs.size + 1) C none)) ⟨(hp.push (PySem.W.kdv_tup [])).push (PySem.HandSPX.excO C hp.objs.size), g, dr, tk, os⟩ := I.laid (t' := tk) kk hsz (exo_ok here)
  have r2 : Vals [V.ref (hp.objs.size + 1)] [Value.ref (hp.objs.size + 1)] := .cons rfl .nil
  have hl : ([Value.ref (hp.objs.size + 1)] ++ ([] : List Value)).length = ps.length := (F1.len _ _ _ _ hq)
  refine wpAny_call (PySem.HandSPX.call_own F.excBase_ValueError (fun Y => PySem.HandSPX.refsVE_contains Y bm hbm) (I.kIn _ _ hC) (PySem.W.looks_findIn I.kIn iC) (fun self => PySem.W.bind_fn I.kIn self tI) (Nat.zero_le _)
    (codeAny_mono (F1.run _ X.stack _ _ ⟨[Value.ref (hp.objs.size + 1)], []⟩ [Value.ref (hp.objs.size + 1)] _ _ (fun _ _ _ => False) (hr.make C [] []) (I2.env0.make C [] []) (hb _ _ I2.kIn hl) r2 hq) fun r s' hq' => ?_))
  match r, hq' with
  | .error er, hq' => exact hx pins σ _ _ er s' I2 hq'
  | .ok (.ret u), ⟨v, H2, os2, bare2, un2, hok2, rv, ev, ea, q2⟩ =>
    subst ev
    obtain ⟨h2, g2, d2, t2, os'⟩ := s'
    obtain ⟨t0, G, J, kG, ge, hoe⟩ := mk_nod (d2 := d2) (t2 := t2) I hsz kk un2 hok2 os2 bare2 ea
    exact ⟨rv, _, _, _, ⟨G, g2, d2, t2, os'⟩, _, .ref C, none, rfl, J, kG, ge, hoe, ⟨rfl, rfl⟩, rfl, rfl, del_same, rfl, bare2, raises_own T.exC T.tyC, q2⟩
/-- isinstance(e, c), e the error that the suite holds, without fields -/
def rIsN (K : PySem.W.Frag) (cls : Value) (d : Option Addr) (a : Addr) : List V → Hp → VK → Prop := fun xs H Q => ∃ D, cls = .ref D ∧ d = none ∧ ExcC K D ∧ rIsE K D a xs H Q
theorem call_isN {a : Addr} {cls : Value} {d : Option Addr} {oe : Obj} {K : PySem.W.Frag} (eK : X.K = K) (hp : (a, oe) ∈ X.pn) (hz : Zc cls d oe) (hf : ∃ vs, oe.data = .fields vs) : CallR X (.builtin "isinstance") (rIsN K cls d a) := by
  subst eK
  intro pins s σ H xs us Q I r ⟨D, e1, e2, C, c, cv, b, e3, hcv, e, q⟩
  subst e1 e2 e3
  obtain ⟨u1, u2, rfl, r1, r2⟩ := vals2 r
  cases r1
  obtain rfl := hcv _ r2
  obtain ⟨vs, hv⟩ := hf
  have J : PySem.W.InstAt s.heap a oe D none := by
    obtain ⟨h1, h2⟩ := hz
    refine ⟨(I.pin (a, oe) (List.mem_append_left _ hp)).1, h1, ?_, ?_⟩
    · unfold PySem.W.notCls
      rw [hv]
    · rw [h2]
      trivial
  exact PySem.W.kia_one (PySem.W.handS_kitx_exc C.hg C.hk C.hs C.hd C.ha C.hn C.ht C.hm) I.kIn J e (fun z => nomatch z) fun tk => ⟨.bl b, H, I.kept (t' := tk) fun _ _ z => z, rfl, q⟩
end
end Fl
namespace Fl
open PySem PySem.Spec PyProof.Rows L2
/-- where a name of the module's top stands -/
def adr (mg : Str → Option Value) (x : Str) : Addr := match mg x with | some (.ref a) => a | _ => 0
theorem adr_of {mg : Str → Option Value} {x : Str} {a : Addr} (h : mg x = some (.ref a)) : adr mg x = a := by unfold adr; rw [h]
/-- an own error class without fields -/
structure ClsN (K : PySem.W.Frag) (mg : Str → Option Value) (x qual : Str) (st : Stmt) : Prop where
  g : mg x = some (.ref (adr mg x))
  o : OexC K (adr mg x)
  c : ExcC K (adr mg x)
  i : ∃ (fI : Addr) (fd : FuncData), PySem.W.findIn K (.ref (adr mg x)) "__init__" = some (some (.ref fI)) ∧ PySem.W.typeIn K (.ref fI) = some (.type "function") ∧ Fun K "__init__" qual st fI fd
def spIniN (K : PySem.W.Frag) (C : Addr) : Sp := fun vs H Q _ => ∃ a : Addr, vs = [.ref a] ∧ H a = some (exo a C none) ∧ Q .non H
structure MkX (P : Program) (w : World) (K : PySem.W.Frag) (mg : Str → Option Value) (base : Heap) (k : Nat) (x : Str) : Prop where
  g : mg x = some (.ref (adr mg x))
  o : OexC K (adr mg x)
  i : ∃ (fI : Addr) (fd : FuncData), PySem.W.findIn K (.ref (adr mg x)) "__init__" = some (some (.ref fI)) ∧ PySem.W.typeIn K (.ref fI) = some (.type "function") ∧ FnOk P w K mg base L2.CX0 k fI fd ["self"] (spIniN K (adr mg x)) ∧ L2.Binds K fd ["self"] []
def tRaiseN (W : WX) (C : Addr) : TS := fun _ σ H => W (.ref C) none σ H
theorem del_upd {H : Hp} {a : Addr} {u : HO} (h : H a = none) : del (upd H a u) a = H := by
  funext b
  by_cases e : b = a
  · rw [e, del_same, h]
  · rw [del_ne e, upd_ne e]
theorem ps_raiseN {X : Cx} {W : WX} {k : Nat} {x : Str} {p pos pos2 : Pos} (M : MkX X.prog X.w X.K X.mg X.base k x) (hc : X.calm = true) (hr : Room (k + 1) X.A) (tk : Takes X W) (hg : Gl X x := by rfl) (hdb : (x == ("__debug__" : Str)) = false := by decide) :
    PS X (.Raise (some (.Call (.Name x p) [] [] pos)) none pos2) (tRaiseN W (adr X.mg x)) := by
  obtain ⟨fI, fd, iC, tI, F, b⟩ := M.i
  refine ⟨fun pins s σ H D I h => (ps_raise hc tk (pmk_nod (CX := L2.CX0) M.o iC tI F hr b (fun _ _ _ _ _ _ _ z => z.elim) hg M.g hdb)).run pins s σ H D I fun a ha => ⟨a, rfl, upd_same, rfl, upd_same, ?_⟩⟩
  rw [del_upd ha]
  exact h
/-- defs that may raise -/
structure HasX (P : Program) (w : World) (K : PySem.W.Frag) (mg : Str → Option Value) (base : Heap) (k : Nat) (x : Str) (ps : List Str) (sp : Sp) : Prop where
  ex : ∃ (f : Addr) (fd : FuncData), FnOk P w K mg base (L2.CX P w) k f fd ps sp ∧ mg x = some (.ref f) ∧ PySem.W.keepIn K (.ref f) = true ∧ L2.Binds K fd ps []
abbrev bxX (P : Program) (w : World) (K : PySem.W.Frag) (mg : Str → Option Value) (base : Heap) (N : List Str) (x : Str) (st : Stmt) (f : Addr) (cdv : Value) (A : Around) (outer : List Env) (s : Shared) (H : Hp) (E : XK) : Cx :=
  cxOf (L2.CX P w) P w K mg base N x (defScope st) f cdv A outer s H E
section
variable {P : Program} {w : World} {K : PySem.W.Frag} {mg : Str → Option Value} {base : Heap}
theorem hasX_of {x : Str} {st : Stmt} {N ps : List Str} {k : Nat} {sp : Sp} (D : DefIn K mg x st) (S : FnScope N ps (defScope st))
    (hb : ∀ (kV doc pm : Value) (an : Option Addr) (cdv ct : Value) (us : List Value), us.length = ps.length → bindArgs (PySem.W.fnOf x x (defArgs st) (defBody st) (defScope st) .none kV doc pm an cdv ct) ⟨us, []⟩ = pure (ps.zip us))
    (len : ∀ vs H Q E, sp vs H Q E → vs.length = ps.length)
    (hbody : ∀ (f : Addr) (cdv : Value) (A : Around) (outer : List Env) (s : Shared) (H : Hp) (vs : List V) (Q : VK) (E : XK), Room k (A.deeper (envOfC x (defScope st) s.heap.objs.size f cdv)) → sp vs H Q E →
      ∃ t, PSs (bxX P w K mg base N x st f cdv A outer s H E) (defBody st) t ∧ t { nx := fun _ H' => Q .non H', rt := Q } (start N vs) H) : HasX P w K mg base (k + 1) x ps sp := by
  obtain ⟨f, fd, F, m⟩ := D.ex
  exact ⟨f, fd, F.okX S len fun cdv A outer s H vs Q E hr h => hbody f cdv A outer s H vs Q E hr h, m, F.kp, F.binds hb⟩
/-- the same of a def with defaults, all values written -/
theorem hasXD_of {x : Str} {st : Stmt} {N ps : List Str} {k : Nat} {sp : Sp} {dvs : List V} (D : DefInD K mg x st dvs) (S : FnScope N ps (defScope st)) (hd : dvs ≠ [])
    (hb : ∀ (T : Addr) (kV doc pm : Value) (an : Option Addr) (cdv ct : Value) (us its : List Value), us.length = ps.length → its.length = dvs.length →
      ∃ k, bindArgs (PySem.W.fnOf x x (defArgs st) (defBody st) (defScope st) (.ref T) kV doc pm an cdv ct) ⟨us, []⟩ = seqItems? (.ref T) >>= k ∧ k (some its.toArray) = pure (ps.zip (us ++ its.drop dvs.length)))
    (len : ∀ vs H Q E, sp vs H Q E → vs.length = ps.length)
    (hbody : ∀ (f : Addr) (cdv : Value) (A : Around) (outer : List Env) (s : Shared) (H : Hp) (vs : List V) (Q : VK) (E : XK), Room k (A.deeper (envOfC x (defScope st) s.heap.objs.size f cdv)) → sp vs H Q E →
      ∃ t, PSs (bxX P w K mg base N x st f cdv A outer s H E) (defBody st) t ∧ t { nx := fun _ H' => Q .non H', rt := Q } (start N vs) H) : HasX P w K mg base (k + 1) x ps sp := by
  obtain ⟨f, fd, F, m⟩ := D.ex
  obtain ⟨ds, r, b⟩ := F.binds1 ps.length dvs.length hd (by rw [Nat.sub_self, Nat.add_zero]) hb
  rw [List.drop_length] at r
  cases r
  exact ⟨f, fd, F.ok S len fun cdv A outer s H vs Q E hr h => hbody f cdv A outer s H vs Q E hr h, m, F.kp, b⟩
theorem mkX_of {x qual : Str} {st : Stmt} {k : Nat} (C : ClsN K mg x qual st) (S : FnScope ["self"] ["self"] (defScope st))
    (hb : ∀ (kV doc pm : Value) (an : Option Addr) (cdv ct : Value) (us : List Value), us.length = 1 → bindArgs (PySem.W.fnOf "__init__" qual (defArgs st) (defBody st) (defScope st) .none kV doc pm an cdv ct) ⟨us, []⟩ = pure ((["self"] : List Str).zip us))
    (hbody : ∀ (f : Addr) (cdv : Value) (A : Around) (outer : List Env) (s : Shared) (H : Hp) (a : Addr) (Q : VK) (E : XK), Room k (A.deeper (envOfC qual (defScope st) s.heap.objs.size f cdv)) → H a = some (exo a (adr mg x) none) → Q .non H →
      ∃ t, PSs (cxOf L2.CX0 P w K mg base ["self"] qual (defScope st) f cdv A outer s H E).nox (defBody st) t ∧ t { nx := fun _ H' => Q .non H', rt := Q } (start ["self"] [.ref a]) H) : MkX P w K mg base (k + 1) x := by
  obtain ⟨fI, fd, iC, tI, F⟩ := C.i
  refine ⟨C.g, C.o, fI, fd, iC, tI, F.ok S (fun vs H Q E ⟨a, e, _⟩ => by rw [e]; rfl) fun cdv A outer s H vs Q E hr ⟨a, e, h, q⟩ => ?_, F.binds hb⟩
  subst e
  exact hbody fI cdv A outer s H a Q E hr h q
end
theorem pe_hX {X : Cx} {k : Nat} {x : Str} {ps : List Str} {sp : Sp} {W : WX} {e : Expr} {es : List Expr} {t : TA} {p pos : Pos} (h : HasX X.prog X.w X.K X.mg X.base k x ps sp) (hr : Room k X.A) (tk : Takes X W) (ha : PA X (e :: es) t) (hg : Gl X x := by rfl)
    (hdb : (x == ("__debug__" : Str)) = false := by decide) (he : starEach (e :: es) X.env = (false, eval e X.env) :: starEach es X.env := by rfl) (hpl : (backTo pos (starEach es X.env)).any (·.1) = false := by rfl) :
    PE X (.Call (.Name x p) (e :: es) [] pos) (tCallS sp (WE W) t) := by
  obtain ⟨f, fd, a, b, c, d⟩ := h.ex
  exact pe_callS a hr hg b c d (fun σ => passAt tk σ) ha hdb he hpl
theorem g_callS {sp : Sp} {E : L2.St → XK} {t : TA} {σ : L2.St} {H : Hp} {Q : VK} (h : t σ H fun vs H1 => sp vs H1 Q (E σ)) : tCallS sp E t σ H Q := h
theorem g_raiseN {W : WX} {C : Addr} {D : Ends} {σ : L2.St} {H : Hp} (h : W (.ref C) none σ H) : tRaiseN W C D σ H := h
theorem g_isN {K : PySem.W.Frag} {D a : Addr} {c : V} {cv : Value} {b : Bool} {H : Hp} {Q : VK} (C : ExcC K D) (hc : ∀ u, RelV c u → u = cv) (k : PySem.W.kitOne K (.ref D) cv = some b) (q : Q (.bl b) H) : rIsN K (.ref D) none a [.ref a, c] H Q := ⟨D, rfl, rfl, C, c, cv, b, rfl, hc, k, q⟩
theorem wAs_yes {K : PySem.W.Frag} {c cls : Value} {d : Option Addr} {i : Nat} {ts : Addr → Value → Option Addr → TS} {Wout : WX} {D : Ends} {σ : L2.St} {H : Hp} (h : PySem.W.exmOne K cls c = some true)
    (k : ∀ a, H a = none → ts a cls d { nx := fun σ' H' => D.nx (σ'.set i none) H', rt := D.rt, bk := fun σ' H' => D.bk (σ'.set i none) H', ct := fun σ' H' => D.ct (σ'.set i none) H' } (σ.set i (some (.ref a))) H) : wAs K c i ts Wout D cls d σ H :=
  ⟨true, h, fun _ => k, fun z => nomatch z⟩
theorem Has.imp {P : Program} {w : World} {K : PySem.W.Frag} {mg : Str → Option Value} {base : Heap} {k : Nat} {x : Str} {ps : List Str} {sp sp' : Sp} (h : Has P w K mg base k x ps sp) (i : ∀ vs H Q E, sp' vs H Q E → sp vs H Q E) : Has P w K mg base k x ps sp' := by
  obtain ⟨f, fd, a, b⟩ := h.ex
  exact ⟨f, fd, a.imp i, b⟩
end Fl
namespace Fl
open PySem PySem.Spec PyProof.Rows L2
theorem ratq_rat {K : PySem.W.Frag} {vs : List V} {H : Hp} {Q : VK} {E : XK} (h : spRatq K vs H Q E) : spRat vs H Q E := by
  obtain ⟨p, q, rfl, hq, h1, h2, k⟩ := h
  refine ⟨p, q, rfl, hq, Nat.lt_of_lt_of_le h1 (Nat.pow_le_pow_right (by decide) (by decide)), Nat.lt_of_lt_of_le h2 (Nat.pow_le_pow_right (by decide) (by decide)), fun t ht => k t _ ht (Fl.Same.new ht) ?_⟩
  unfold RV
  rw [rp_num hq, rq_den hq]
  exact SqT.of upd_same
def spInt (K : PySem.W.Frag) : Sp := fun vs H Q _ => ∃ d : Addr, vs = [.ref d] ∧ DeckAt K H d ∧ ∀ v H', v.natAbs < 10 ^ 60 → DeckAt K H' d → Ex1 d H H' → Q (.int v) H'
theorem int_app {K : PySem.W.Frag} {d : Addr} {H : Hp} {Q : VK} {E : XK} (h : DeckAt K H d) (k : ∀ v H', v.natAbs < 10 ^ 60 → DeckAt K H' d → Ex1 d H H' → Q (.int v) H') : spInt K [.ref d] H Q E := ⟨d, rfl, h, k⟩
def spSameQ (K : PySem.W.Frag) : Sp := fun vs H Q _ => ∃ (a b : Addr) (x : Rat), vs = [.ref a, .ref b] ∧ RV K H a x ∧ RV K H b x ∧ Q (.bl true) H
theorem sameQ_app {K : PySem.W.Frag} {a b : Addr} {x : Rat} {H : Hp} {Q : VK} {E : XK} (h1 : RV K H a x) (h2 : RV K H b x) (q : Q (.bl true) H) : spSameQ K [.ref a, .ref b] H Q E := ⟨a, b, x, rfl, h1, h2, q⟩
def spRat0 (Z : Addr) : Sp := fun vs H _ E => ∃ p : Int, vs = [.int p, .int 0] ∧ E (.ref Z) none H
def spDiv0 (K : PySem.W.Frag) (Z : Addr) : Sp := fun vs H _ E => ∃ (a b : Addr) (x : Rat), vs = [.ref a, .ref b] ∧ RV K H a x ∧ Md x ∧ SqT K H b [.int 0, .int 1] ∧ E (.ref Z) none H
def spRefu (K : PySem.W.Frag) : Sp := fun vs H Q _ => ∃ (p : Int) (a : Addr) (x : Rat), vs = [.int p, .ref a] ∧ RV K H a x ∧ Md x ∧ ∀ H', Same H H' → Q (.bl true) H'
theorem refu_app {K : PySem.W.Frag} {p : Int} {a : Addr} {x : Rat} {H : Hp} {Q : VK} {E : XK} (h : RV K H a x) (m : Md x) (q : ∀ H', Same H H' → Q (.bl true) H') : spRefu K [.int p, .ref a] H Q E := ⟨p, a, x, rfl, h, m, q⟩
theorem rv_int {K : PySem.W.Frag} {H : Hp} {a : Addr} {p : Int} (h : SqT K H a [.int p, .int 1]) : RV K H a (Rat.divInt p 1) := by
  unfold RV
  have e1 : (Rat.divInt p 1).num = p := by rw [Rat.num_divInt]; simp
  have e2 : (Rat.divInt p 1).den = 1 := by rw [Rat.den_divInt]; simp
  rw [e1, e2]
  exact h
end Fl
namespace Fl
open PySem PySem.Spec PyProof.Rows L2
theorem tyT {K : PySem.W.Frag} {H : Hp} {a : Addr} {xs : List V} (h : SqT K H a xs) : TyX K H (.ref a) (.type "tuple") := by
  rcases h with (h | ⟨o, h⟩) | ⟨o, its, n, h, c, _⟩
  · exact .base (.tup h)
  · exact .fTuple h
  · exact .kTuple h c
end Fl
namespace Fl
open PySem PySem.Spec PyProof.Rows L2
theorem pe_cls {X : Cx} {x : Str} {pos : Pos} {a : Addr} (g : Gl X x) (h : X.mg x = some (.ref a)) (n : (x == ("__debug__" : Str)) = false := by decide) : PE X (.Name x pos) (tC (.ref a)) := pe_glob g h rfl n
end Fl
namespace Fl
open PySem PySem.Spec PyProof.Rows L2
theorem pe_asK {X : Cx} {e : Expr} {t t' : TE} (h : PE X e t) (q : t' = t := by rfl) : PE X e t' := by subst q; exact h
end Fl
namespace Fl
open PySem PySem.Spec PyProof.Rows L2
theorem pe_bmK {X : Cx} {K : PySem.W.Frag} {o e : Expr} {es : List Expr} {to : TE} {t : TA} {T id : String} {name : Str} {apos cpos : Pos} {r : V → List V → Hp → VK → Prop} (eK : X.K = K) (pa : PlainAttrs T) (slot : Slot T name id) (hty : typeOf (.builtin id) = pure (.type "method_descriptor")) (hm : MtR X id r) (ho : PE X o to) (ha : PA X (e :: es) t)
    (h1 : attributeBase o name X.env (eval o X.env) = eval o X.env := by rfl)
    (h2 : ((backTo cpos (starEach (e :: es) X.env)).all (fun x => !x.1) && (backToKw cpos (keywordEach [] X.env)).all (fun x => x.1.isSome) && decide ((e :: es).length + ([] : List Keyword).length + (if ([] : List Keyword).isEmpty then 0 else 1) < 30)) = true := by rfl)
    (h3 : (apos.endLine == cpos.line) = true := by rfl) (h4 : starEach (e :: es) X.env = (false, eval e X.env) :: starEach es X.env := by rfl) (h5 : (backTo cpos (starEach es X.env)).any (·.1) = false := by rfl) :
    PE X (.Call (.Attribute o name apos) (e :: es) [] cpos) (tBM K T r to t) := by
  subst eK
  exact pe_bm pa slot hty hm ho ha h1 h2 h3 h4 h5
end Fl
namespace Fl
open PySem PySem.Spec PyProof.Rows L2
theorem kit_self (K : PySem.W.Frag) (a : Addr) : PySem.W.kitOne K (.ref a) (.ref a) = some true := by
  unfold PySem.W.kitOne
  rw [if_pos (by simp)]
theorem kit_typ {K : PySem.W.Frag} {a : Addr} {T : String} {b : Bool} (h : PySem.W.subIn K (.ref a) (.type T) = some b) (m : PySem.W.kitMeta T = true) : PySem.W.kitOne K (.ref a) (.type T) = some b := by
  unfold PySem.W.kitOne
  rw [if_neg (by intro z; cases z)]
  show (if PySem.W.kitMeta T = true then PySem.W.subIn K (.ref a) (.type T) else none) = some b
  rw [if_pos m, h]
end Fl

set_option Elab.async false
set_option linter.all false
set_option maxRecDepth 100000
set_option maxHeartbeats 4000000
set_option exponentiation.threshold 20000
/-! objects of the program's own classes: made with named parameters, their fields set and read -/
namespace Fl
open PySem PySem.Spec PyProof.Rows L2

/-! ### parameters put in order -/
def pick {α : Type} (is : List Nat) (l : List α) : List α := is.filterMap fun i => l[i]?
theorem Vals.getO : ∀ {vs : List V} {us : List Value} (h : Vals vs us) (i : Nat), (∃ v u, vs[i]? = some v ∧ us[i]? = some u ∧ RelV v u) ∨ (vs[i]? = none ∧ us[i]? = none)
  | _, _, .nil, i => .inr ⟨by simp, by simp⟩
  | _, _, .cons h r, 0 => .inl ⟨_, _, rfl, rfl, h⟩
  | _, _, .cons h r, i + 1 => by
    rcases Vals.getO r i with ⟨v, u, a, b, c⟩ | ⟨a, b⟩
    · exact .inl ⟨v, u, by simpa using a, by simpa using b, c⟩
    · exact .inr ⟨by simpa using a, by simpa using b⟩
theorem Vals.pick {vs : List V} {us : List Value} (h : Vals vs us) : ∀ is : List Nat, Vals (Fl.pick is vs) (Fl.pick is us)
  | [] => .nil
  | i :: is => by
    unfold Fl.pick
    rw [List.filterMap_cons, List.filterMap_cons]
    rcases Vals.getO h i with ⟨v, u, a, b, c⟩ | ⟨a, b⟩
    · rw [a, b]
      exact .cons c (Vals.pick h is)
    · rw [a, b]
      exact Vals.pick h is
theorem Vals.app : ∀ {vs : List V} {us : List Value} {ws : List V} {zs : List Value}, Vals vs us → Vals ws zs → Vals (vs ++ ws) (us ++ zs)
  | _, _, _, _, .nil, k => k
  | _, _, _, _, .cons h r, k => .cons h (Vals.app r k)

/-! ### classes -/
/-- a class without bases whose __init__ has named parameters with defaults -/
structure ClsI (K : PySem.W.Frag) (mg : Str → Option Value) (x qual : Str) (st : Stmt) (fs : List Str) (kws : List (Str × V)) : Prop where
  g : mg x = some (.ref (adr mg x))
  cl : Cls K (adr mg x)
  na : ∀ f, f ∈ fs → NoAttr K (adr mg x) f
  mi : ∃ (f : Addr) (fd : FuncData), Mk K (adr mg x) f ∧ FunD K "__init__" qual (defArgs st) (defBody st) (defScope st) [] kws f fd
/-- the class can be called with n values and the names ks -/
structure MkI (P : Program) (w : World) (K : PySem.W.Frag) (mg : Str → Option Value) (base : Heap) (k : Nat) (x : Str) (n : Nat) (ks : List Str) (gV : List V → List V → List V) (sp : Sp) : Prop where
  ex : ∃ (f : Addr) (fd : FuncData) (ps : List Str) (g : List Value → List Value → List Value), mg x = some (.ref (adr mg x)) ∧ Mk K (adr mg x) f ∧ FnOk P w K mg base L2.CX0 k f fd ps sp ∧ KBn K fd ps (n + 1) ks g gV
theorem MkI.mono {P : Program} {w : World} {K : PySem.W.Frag} {mg : Str → Option Value} {base : Heap} {j k : Nat} {x : Str} {n : Nat} {ks : List Str} {gV : List V → List V → List V} {sp : Sp} (h : MkI P w K mg base j x n ks gV sp) (e : j ≤ k) : MkI P w K mg base k x n ks gV sp := by
  obtain ⟨f, fd, ps, g, a, b, c, d⟩ := h.ex
  exact ⟨f, fd, ps, g, a, b, c.mono e, d⟩
/-- an __init__'s promise -/
structure InI (P : Program) (w : World) (K : PySem.W.Frag) (mg : Str → Option Value) (base : Heap) (k : Nat) (x qual : Str) (st : Stmt) (fs : List Str) (kws : List (Str × V)) (ps : List Str) (sp : Sp) : Prop where
  ex : ∃ (f : Addr) (fd : FuncData), mg x = some (.ref (adr mg x)) ∧ Mk K (adr mg x) f ∧ FunD K "__init__" qual (defArgs st) (defBody st) (defScope st) [] kws f fd ∧ FnOk P w K mg base L2.CX0 k f fd ps sp
section
variable {P : Program} {w : World} {K : PySem.W.Frag} {mg : Str → Option Value} {base : Heap}
theorem inI_of {x qual : Str} {st : Stmt} {fs : List Str} {kws : List (Str × V)} {N ps : List Str} {k : Nat} {sp : Sp} (D : ClsI K mg x qual st fs kws) (S : FnScope N ps (defScope st))
    (len : ∀ vs H Q E, sp vs H Q E → vs.length = ps.length)
    (hbody : ∀ (f : Addr) (cdv : Value) (A : Around) (outer : List Env) (s : Shared) (H : Hp) (vs : List V) (Q : VK) (E : XK), Room k (A.deeper (envOfC qual (defScope st) s.heap.objs.size f cdv)) → sp vs H Q E →
      ∃ t, PSs (bx P w K mg base N qual st f cdv A outer s H E) (defBody st) t ∧ t { nx := fun _ H' => Q .non H', rt := Q } (start N vs) H) : InI P w K mg base (k + 1) x qual st fs kws ps sp := by
  obtain ⟨f, fd, M, F⟩ := D.mi
  refine ⟨f, fd, D.g, M, F, F.ok S len fun cdv A outer s H vs Q E hr h => ?_⟩
  obtain ⟨t, ht, q⟩ := hbody f cdv A outer s H vs Q E hr h
  exact ⟨t, ht.nox, q⟩
/-- the calls with n values and the names ks; ms stand by default; is: where each parameter stands in values, defaults, named ones -/
theorem InI.make {x qual : Str} {st : Stmt} {fs : List Str} {kws : List (Str × V)} {ps : List Str} {k : Nat} {sp : Sp} (D : InI P w K mg base k x qual st fs kws ps sp) (n : Nat) (ks : List Str) (ms : List (Str × V)) (is : List Nat) (hk : kws ≠ [])
    (hm : ∀ q, q ∈ ms → q ∈ kws)
    (hb : ∀ (D : Addr) (doc pm : Value) (an : Option Addr) (cdv ct : Value) (us mv ws : List Value), us.length = n + 1 → mv.length = ms.length → ws.length = ks.length →
      KwChain D ((ms.map (fun x => x.fst)).zip mv) (bindArgs (PySem.W.fnOf "__init__" qual (defArgs st) (defBody st) (defScope st) .none (.ref D) doc pm an cdv ct) ⟨us, ks.zip ws⟩) (ps.zip (pick is (us ++ (mv ++ ws))))) :
    MkI P w K mg base k x n ks (fun vs zs => pick is (vs ++ (ms.map (fun x => x.snd) ++ zs))) sp := by
  obtain ⟨f, fd, a, M, F, G⟩ := D.ex
  obtain ⟨mv, b⟩ := F.kbinds0 (n + 1) ks ms (fun {α} us mv ws => pick is (us ++ (mv ++ ws))) hk hm (fun h1 h2 h3 => Vals.pick (Vals.app h1 (Vals.app h2 h3)) is) hb
  exact ⟨f, fd, ps, _, a, M, G, b⟩
end
theorem pe_mk {X : Cx} {mg : Str → Option Value} {k n : Nat} {x : Str} {ks : List Str} {sp : Sp} {gV : List V → List V → List V} {e : Expr} {es : List Expr} {kws : List Keyword} {t tk : TA} {p pos : Pos} (em : X.mg = mg) (h : MkI X.prog X.w X.K X.mg X.base k x n ks gV sp) (hr : Room (k + 1) X.A) (ha : PA X (e :: es) t) (hk : PK X kws tk) (hg : Gl X x := by rfl)
    (h1 : ((backToKw pos (keywordEach kws X.env)).all fun x => x.fst.isSome) = true := by rfl) (h2 : List.filterMap (fun x => x.fst) (backToKw pos (keywordEach kws X.env)) = ks := by rfl)
    (hdb : (x == ("__debug__" : Str)) = false := by decide) (he : starEach (e :: es) X.env = (false, eval e X.env) :: starEach es X.env := by rfl)
    (hpl : (((backTo pos (starEach (e :: es) X.env)).any fun x => x.fst) || (backToKw pos (keywordEach kws X.env)).any fun x => x.fst.isNone) = false := by rfl) :
    PE X (.Call (.Name x p) (e :: es) kws pos) (tMakeK (adr mg x) n ks.length sp gV E0 t tk) := by
  subst em
  obtain ⟨f, fd, ps, g, a, b, c, d⟩ := h.ex
  exact pe_makeK b c hr hg a d pass0 ha hk h1 h2 hdb he hpl

/-! ### walked things of two kinds -/
def iOr (t1 t2 : TI) : TI := fun σ H R => t1 σ H R ∨ t2 σ H R
theorem piOr {X : Cx} {tg l : Expr} {t1 t2 : TI} (h1 : PI X tg l t1) (h2 : PI X tg l t2) : PI X tg l (iOr t1 t2) := ⟨fun pins s σ H R I h => h.elim (h1.run pins s σ H R I) (h2.run pins s σ H R I)⟩
theorem piS {X : Cx} {K : PySem.W.Frag} {l tg : Expr} {tl : TE} (e : X.K = K) (h : PE X l tl) : PI X tg l (iOr (iList K tl) (iTup K tl)) := piOr (piL e h) (piT e h)
section
variable {X : Cx} {K : PySem.W.Frag}
def rTupOf (K : PySem.W.Frag) : List V → Hp → VK → Prop := fun xs H Q => ∃ p ys, xs = [V.ref p] ∧ ((SqL K H p ys ∧ ∀ l, H l = none → Q (.ref l) (upd H l (.tup ys))) ∨ SqT K H p ys ∧ Q (.ref p) H)
theorem clTupOf (e : X.K = K) : CallR X (.type "tuple") (rTupOf K) := by subst e; exact call_tuple_of
def rLstOf (K : PySem.W.Frag) : List V → Hp → VK → Prop := fun xs H Q => ∃ p ys, xs = [V.ref p] ∧ (SqL K H p ys ∨ SqT K H p ys) ∧ ∀ l, H l = none → Q (.ref l) (upd H l (.lst ys))
theorem clLstOf (e : X.K = K) : CallR X (.type "list") (rLstOf K) := by subst e; exact call_list_of
/-- o.f = e, within a written part of its own -/
theorem psFld {o value : Expr} {f : Str} {pos pos' : Pos} {ta tv : TE} (e : X.K = K) (h1 : PE X o ta) (h2 : PE X value tv) (hs : swapsWith value (some (o.Attribute f pos')) pos.line X.env = pure false) : PS X (.Assign [o.Attribute f pos'] value pos) (sFld K ta tv f) := by subst e; exact ps_fld h1 h2 hs
theorem peFld {o : Expr} {f : Str} {pos : Pos} {ta : TE} (e : X.K = K) (h : PE X o ta) (hb : attributeBase o f X.env (eval o X.env) = eval o X.env) : PE X (o.Attribute f pos) (tFld K ta f) := by subst e; exact pe_fld h hb
end

/-! ### data of objects -/
def encF (p : Str × PyData) : PyData × PyData := (.str p.1, p.2)
def insD (C : Addr) (fs : List (Str × PyData)) : PyData := .dict ((.none, .int (C : Int)) :: fs.map encF)
inductive DqN (S : List Addr) (H : Hp) : List (Str × V) → List (Str × PyData) → Prop
  | nil : DqN S H [] []
  | cons {n : Str} {v : V} {d : PyData} {fs : List (Str × V)} {ds : List (Str × PyData)} : Dq S H v d → DqN S H fs ds → DqN S H ((n, v) :: fs) ((n, d) :: ds)
section
variable {S T : List Addr} {H H' : Hp} {fs gs : List (Str × V)} {ds es : List (Str × PyData)} {v : V} {d : PyData} {n : Str}
theorem DqN.enc : ∀ {fs : List (Str × V)} {ds : List (Str × PyData)}, DqN S H fs ds → DqF S H fs (ds.map encF)
  | _, _, .nil => .nil
  | _, _, .cons h r => .cons h (DqN.enc r)
theorem DqF.dec : ∀ {fs : List (Str × V)} {ds : List (Str × PyData)}, DqF S H fs (ds.map encF) → DqN S H fs ds
  | _, [], h => by cases h; exact .nil
  | _, (n, d) :: ds, h => by
    cases h with
    | cons h r => exact .cons h (DqF.dec r)
theorem DqN.app : ∀ {fs gs : List (Str × V)} {ds es : List (Str × PyData)}, DqN S H fs ds → DqN S H gs es → DqN S H (fs ++ gs) (ds ++ es)
  | _, _, _, _, .nil, k => k
  | _, _, _, _, .cons h r, k => .cons h (DqN.app r k)
theorem DqN.fr : ∀ {fs : List (Str × V)} {ds : List (Str × PyData)}, DqN S H fs ds → Fr S H H' → DqN S H' fs ds
  | _, _, .nil, _ => .nil
  | _, _, .cons h r, e => .cons (h.fr e) (DqN.fr r e)
theorem DqN.mono : ∀ {fs : List (Str × V)} {ds : List (Str × PyData)}, DqN S H fs ds → (∀ a, a ∈ T → a ∈ S) → DqN T H fs ds
  | _, _, .nil, _ => .nil
  | _, _, .cons h r, e => .cons (h.mono e) (DqN.mono r e)
theorem DqN.names : ∀ {fs : List (Str × V)} {ds : List (Str × PyData)}, DqN S H fs ds → fs.map Prod.fst = ds.map Prod.fst
  | _, _, .nil => rfl
  | _, _, .cons h r => by rw [List.map_cons, List.map_cons, DqN.names r]
theorem DqN.look : ∀ {fs : List (Str × V)} {ds : List (Str × PyData)} {d : PyData}, DqN S H fs ds → ds.lookup n = some d → ∃ v, fs.lookup n = some v ∧ Dq S H v d
  | _, _, _, .nil, e => by simp at e
  | _, _, d, .cons (n := m) h r, e => by
    rw [List.lookup_cons] at e ⊢
    cases hb : n == m with
    | true => rw [hb] at e; cases e; exact ⟨_, rfl, h⟩
    | false => rw [hb] at e; exact DqN.look r e
theorem Dq.insE {C : Addr} (h : Dq S H v (insD C ds)) : ∃ a dx fs, v = .ref a ∧ a ∉ S ∧ H a = some (.ins C dx fs) ∧ DqN S H fs ds := by
  unfold insD at h
  generalize e : (C : Int) = c at h
  cases h with
  | ins n q r =>
    rename_i C' dx fs
    have : C = C' := by exact_mod_cast e
    subst this
    exact ⟨_, _, _, rfl, n, q, DqF.dec r⟩
theorem Dq.insI {C a dx : Addr} (n : a ∉ S) (q : H a = some (.ins C dx fs)) (r : DqN S H fs ds) : Dq S H (.ref a) (insD C ds) := .ins n q r.enc
end
/-- an empty tuple of the written part: a default -/
def EmT (K : PySem.W.Frag) (a : Addr) : Prop := ∃ o its n, K.lookup a = some o ∧ o.cls = .type "tuple" ∧ o.data = .seq its n ∧ its.size ≤ sizeLine ∧ Vals [] its.toList
theorem EmT.sq {K : PySem.W.Frag} {a : Addr} (h : EmT K a) (H : Hp) : SqT K H a [] := .inr h
/-- what may be handed to a maker: data, or a default () -/
def De (K : PySem.W.Frag) (S : List Addr) (H : Hp) (v : V) (d : PyData) : Prop := Dq S H v d ∨ (d = .tuple [] ∧ ∃ a, v = .ref a ∧ EmT K a)
inductive DeA (K : PySem.W.Frag) (S : List Addr) (H : Hp) : List V → List PyData → Prop
  | nil : DeA K S H [] []
  | cons {v : V} {vs : List V} {d : PyData} {ds : List PyData} : De K S H v d → DeA K S H vs ds → DeA K S H (v :: vs) (d :: ds)
section
variable {K : PySem.W.Frag} {S T : List Addr} {H H' : Hp} {v : V} {d : PyData} {vs : List V} {ds : List PyData}
theorem De.fr (h : De K S H v d) (e : Fr S H H') : De K S H' v d := h.imp (fun h => h.fr e) id
theorem De.mono (h : De K S H v d) (k : ∀ a, a ∈ T → a ∈ S) : De K T H v d := h.imp (fun h => h.mono k) id
theorem De.new {p : Addr} (h : De K S H v d) (e : H p = none) : De K (p :: S) H v d := h.imp (fun h => h.new e) id
theorem DeA.fr : ∀ {vs : List V} {ds : List PyData}, DeA K S H vs ds → Fr S H H' → DeA K S H' vs ds
  | _, _, .nil, _ => .nil
  | _, _, .cons h r, e => .cons (h.fr e) (DeA.fr r e)
theorem DeA.new {p : Addr} : ∀ {vs : List V} {ds : List PyData}, DeA K S H vs ds → H p = none → DeA K (p :: S) H vs ds
  | _, _, .nil, _ => .nil
  | _, _, .cons h r, e => .cons (h.new e) (DeA.new r e)
theorem DeA.consE (h : DeA K S H vs (d :: ds)) : ∃ v ws, vs = v :: ws ∧ De K S H v d ∧ DeA K S H ws ds := by
  cases h with
  | cons h r => exact ⟨_, _, rfl, h, r⟩
theorem DeA.nilE (h : DeA K S H vs []) : vs = [] := by cases h; rfl
theorem De.lst {xs : List PyData} (h : De K S H v (.list xs)) : Dq S H v (.list xs) := by
  rcases h with h | ⟨e, _⟩
  · exact h
  · cases e
theorem De.ofDq (h : Dq S H v d) : De K S H v d := .inl h
end
/-- the items of a list or a tuple -/
def sqI : PyData → Option (List PyData)
  | .list xs => some xs
  | .tuple xs => some xs
  | _ => none
theorem De.seq {K : PySem.W.Frag} {S : List Addr} {H : Hp} {v : V} {d : PyData} {xs : List PyData} (h : De K S H v d) (e : sqI d = some xs) :
    ∃ a vs, v = .ref a ∧ DqA S H vs xs ∧ (∀ H', Fr S H H' → SqL K H' a vs) ∨ (∃ a vs, v = .ref a ∧ DqA S H vs xs ∧ (∀ H', Fr S H H' → SqT K H' a vs)) := by
  rcases h with h | ⟨rfl, a, rfl, m⟩
  · cases h with
    | lst n q r => cases e; exact ⟨_, _, .inl ⟨rfl, r, fun H' f => SqL.of (f _ _ n q)⟩⟩
    | tup n q r => cases e; exact ⟨0, [], .inr ⟨_, _, rfl, r, fun H' f => SqT.of (f _ _ n q)⟩⟩
    | _ => cases e
  · cases e
    exact ⟨0, [], .inr ⟨a, [], rfl, .nil, fun H' f => m.sq H'⟩⟩
/-- a function of what may be handed to a maker -/
def spE (K : PySem.W.Frag) (f : List PyData → PyData → Prop) : Sp := fun vs H Q _ => ∃ S ds d, Al S H ∧ DeA K S H vs ds ∧ f ds d ∧ ∀ v H', Same H H' → Dq S H' v d → Q v H'
theorem spE_app {K : PySem.W.Frag} {f : List PyData → PyData → Prop} {vs : List V} {H : Hp} {Q : VK} {E : XK} (S : List Addr) (ds : List PyData) (d : PyData) (hS : Al S H) (hd : DeA K S H vs ds) (hf : f ds d) (q : ∀ v H', Same H H' → Dq S H' v d → Q v H') : spE K f vs H Q E :=
  ⟨S, ds, d, hS, hd, hf, q⟩
/-- an __init__: the new object's fields -/
def spI (K : PySem.W.Frag) (C : Addr) (f : List PyData → List (Str × PyData) → Prop) : Sp := fun vs H Q _ =>
  ∃ S x dx ws ds fs, vs = .ref x :: ws ∧ x ∈ S ∧ Al S H ∧ H x = some (.ins C dx []) ∧ DeA K S H ws ds ∧ f ds fs ∧ ∀ H' gs, Fr [x] H H' → H' x = some (.ins C dx gs) → DqN S H' gs fs → Q .non H'
theorem mk_app {K : PySem.W.Frag} {C : Addr} {f : List PyData → List (Str × PyData) → Prop} {ws : List V} {H : Hp} {Z : Addr → Hp → Prop} {E : XK} {gl : Addr → List V} (S : List Addr) (ds : List PyData) (fs : List (Str × PyData)) (hg : ∀ x, gl x = .ref x :: ws) (hS : Al S H) (hd : DeA K S H ws ds) (hf : f ds fs)
    (q : ∀ x H', Same H H' → Dq S H' (.ref x) (insD C fs) → Z x H') :
    ∀ x dx, H x = none → H dx = none → dx ≠ x → spI K C f (gl x) (upd (upd H dx (.own x)) x (.ins C dx [])) (fun v H3 => v = .non ∧ Z x H3) E := by
  intro x dx h1 h2 h3
  have s1 : Same H (upd H dx (.own x)) := Fl.Same.new h2
  have h1' : upd H dx (.own x) x = none := by rw [upd_ne (Ne.symm h3)]; exact h1
  have s2 : Same H (upd (upd H dx (.own x)) x (.ins C dx [])) := L2.Same.trans s1 (Fl.Same.new h1')
  have al : Al (x :: S) (upd (upd H dx (.own x)) x (.ins C dx [])) := .cons (by rw [upd_same]; simp) (hS.same s2)
  rw [hg]
  refine ⟨x :: S, x, dx, ws, ds, fs, rfl, by simp, al, upd_same, (hd.new h1).fr (Fr.same s2), hf, fun H' gs f' e n => ⟨rfl, ?_⟩⟩
  have sm : Same H H' := fun a o e2 => f' a o (by simp; intro z; rw [z, h1] at e2; cases e2) (s2 a o e2)
  exact q x H' sm (Dq.insI (hS.ni h1) e (n.mono fun a m => List.mem_cons_of_mem _ m))

/-! ### comprehensions over tuples -/
section
variable {S : List Addr} {H1 : Hp} {K : PySem.W.Frag} {g : TG} {tt : TT} {te : TE} {vs : List Nat} {σ : L2.St} {Q : VK}
theorem lc_tupP {a : Addr} {xs : List V} {D : Addr} {Qd : Hp → Prop} (Pv : Nat → Hp → Prop) (h0 : Pv 0 (upd H1 D (.lst [])))
    (hl : ∀ i H, i ≤ xs.length → Pv i H → SqT K H a xs)
    (hs : ∀ i x H, xs[i]? = some x → Pv i H → g x (wipe σ vs) H fun σ2 H2 => wipe σ2 vs = wipe σ vs ∧ tt σ2 H2 fun b H3 =>
        if b = true then te σ2 H3 fun y H4 => ∃ acc, H4 D = some (.lst acc) ∧ acc.length < sizeLine ∧ Pv (i + 1) (upd H4 D (.lst (acc ++ [y]))) else Pv (i + 1) H3)
    (hd : ∀ H, Pv xs.length H → Qd H) :
    ∃ W : Nat → Nat → Hp → Prop, (∃ m, W 0 m (upd H1 D (.lst []))) ∧ ∀ i m H, W i m H →
      ((Itt K a).stop i H ∧ Qd H) ∨ ((Itt K a).go i H ∧ ∃ Nx : Hp → Prop, (∀ H', Nx H' → ∃ m', m' < m ∧ W (i + 1) m' H') ∧
        ∀ x H', (Itt K a).yld i H x H' → g x (wipe σ vs) H' fun σ2 H2 => wipe σ2 vs = wipe σ vs ∧ tt σ2 H2 fun b H3 =>
          if b = true then te σ2 H3 fun y H4 => ∃ acc, H4 D = some (.lst acc) ∧ acc.length < sizeLine ∧ Nx (upd H4 D (.lst (acc ++ [y]))) else Nx H3) := by
  refine ⟨fun i m H => m = xs.length - i ∧ i ≤ xs.length ∧ Pv i H, ⟨xs.length, rfl, Nat.zero_le _, h0⟩, fun i m H h => ?_⟩
  obtain ⟨rfl, hi, p⟩ := h
  have q := hl i H hi p
  by_cases hlt : i < xs.length
  · refine .inr ⟨⟨xs, xs[i], q, by simp [hlt]⟩, Pv (i + 1), fun H' p' => ⟨xs.length - (i + 1), by omega, rfl, hlt, p'⟩, fun x H' y => ?_⟩
    obtain ⟨rfl, y⟩ := y
    exact hs i x H' (y xs q) p
  · have e : i = xs.length := by omega
    subst e
    exact .inl ⟨⟨xs, q, Nat.le_refl _⟩, hd H p⟩
/-- [elt for x in t if test], t a list or a tuple; nothing changed -/
theorem lcS {wi : TE} {v : V} {d : PyData} {es : List PyData} (f : Nat → Option PyData) (hS : Al S H1) (ha : De K S H1 v d) (he : sqI d = some es) (hz : es.length < 1000)
    (hv : ∀ R : VK, R v H1 → wi σ H1 R)
    (step : ∀ (D : Addr) (i : Nat) (x : V) (e : PyData) (H : Hp), H1 D = none → es[i]? = some e → Same H1 H → Al (D :: S) H → Dq (D :: S) H x e →
      ∀ (R : V → Hp → Prop) (N : Hp → Prop), (∀ r y H4, f i = some r → Same H H4 → Dq (D :: S) H4 y r → R y H4) → (f i = none → ∀ H4, Same H H4 → N H4) →
      g x (wipe σ vs) H fun σ2 H2 => wipe σ2 vs = wipe σ vs ∧ tt σ2 H2 fun b H3 => if b = true then te σ2 H3 R else N H3)
    (q : ∀ (D : Addr) (H : Hp), Same H1 H → H1 D = none → Dq S H (.ref D) (.list ((List.range es.length).filterMap f)) → Q (.ref D) H) :
    iOr (iList K wi) (iTup K wi) σ H1 fun J H1 => lcK J g tt te vs σ H1 Q := by
  obtain ⟨a, xs, h | h⟩ := ha.seq he
  · obtain ⟨rfl, hall, hsq⟩ := h
    refine .inl (hv _ ⟨a, rfl, ⟨xs, hsq H1 Fr.refl⟩, ?_⟩)
    unfold lcK
    intro D hD
    have hlx := hall.len
    have hfr : ∀ H, Fr [D] H1 H → Fr S H1 H := fun H f b o n e => f b o (by simp; intro z; rw [z, hD] at e; cases e) e
    refine lc_list (xs := xs) (CompAt S H1 D f) (CompAt.zero hD) (fun i H _ h => hsq H (hfr H h.fr)) ?_ ?_
    · intro i x H hx h
      have hlt : i < xs.length := (List.getElem?_eq_some_iff.mp hx).1
      have hsm : Same H1 H := sm_of hD h.fr
      obtain ⟨e, he, hxe⟩ := ((hall.new hD).same hsm).get hx
      exact step D i x e H hD he hsm (h.al hS hD) hxe _ _ (fun r y H4 er s d => h.put (by omega) er s d) fun en H4 s => (h.same s).skip en
    · intro H h
      rw [hlx] at h
      exact q D H (sm_of hD h.fr) hD (h.fin hS hD)
  · obtain ⟨a, xs, rfl, hall, hsq⟩ := h
    refine .inr (hv _ ⟨a, rfl, ⟨xs, hsq H1 Fr.refl⟩, ?_⟩)
    unfold lcK
    intro D hD
    have hlx := hall.len
    have hfr : ∀ H, Fr [D] H1 H → Fr S H1 H := fun H f b o n e => f b o (by simp; intro z; rw [z, hD] at e; cases e) e
    refine lc_tupP (xs := xs) (CompAt S H1 D f) (CompAt.zero hD) (fun i H _ h => hsq H (hfr H h.fr)) ?_ ?_
    · intro i x H hx h
      have hlt : i < xs.length := (List.getElem?_eq_some_iff.mp hx).1
      have hsm : Same H1 H := sm_of hD h.fr
      obtain ⟨e, he, hxe⟩ := ((hall.new hD).same hsm).get hx
      exact step D i x e H hD he hsm (h.al hS hD) hxe _ _ (fun r y H4 er s d => h.put (by omega) er s d) fun en H4 s => (h.same s).skip en
    · intro H h
      rw [hlx] at h
      exact q D H (sm_of hD h.fr) hD (h.fin hS hD)
end
end Fl

set_option Elab.async false
set_option linter.all false
set_option maxRecDepth 100000
set_option maxHeartbeats 4000000
set_option exponentiation.threshold 20000
/-! what fonts consist of -/
namespace Fl
open PySem PySem.Spec PyProof.Rows L2
/-! ### readings of fields -/
section
variable {K : PySem.W.Frag} {σ : L2.St} {H : Hp} {Q : VK} {ta tv : TE} {f : Str} {D : Ends} {a C dx : Addr} {fs : List (Str × V)} {v y : V} {l : List Str}
theorem g_fld (h : ta σ H fun x H1 => ∃ a C dx fs v, x = .ref a ∧ H1 a = some (.ins C dx fs) ∧ Cls K C ∧ NoAttr K C f ∧ fs.lookup f = some v ∧ Q v H1) : tFld K ta f σ H Q := h
theorem g_fldE {Z : V → Prop} (h : H a = some (.ins C dx fs)) (c : Cls K C) (n : NoAttr K C f) (e : fs.lookup f = some v) (q : Z v) : ∃ a' C' dx' fs' v', V.ref a = .ref a' ∧ H a' = some (.ins C' dx' fs') ∧ Cls K C' ∧ NoAttr K C' f ∧ fs'.lookup f = some v' ∧ Z v' := ⟨a, C, dx, fs, v, rfl, h, c, n, e, q⟩
theorem g_sf (h : tv σ H fun y H1 => ta σ H1 fun x H2 => ∃ a C dx fs, x = .ref a ∧ H2 a = some (.ins C dx fs) ∧ Cls K C ∧ NoAttr K C f ∧ fs.length < 1000 ∧ D.nx σ (upd H2 a (.ins C dx (putF f y fs)))) : sFld K ta tv f D σ H := h
theorem g_sfE {Z : Hp → Prop} (h : H a = some (.ins C dx fs)) (c : Cls K C) (n : NoAttr K C f) (e : fs.length < 1000) (q : Z (upd H a (.ins C dx (putF f y fs)))) : ∃ a' C' dx' fs', V.ref a = .ref a' ∧ H a' = some (.ins C' dx' fs') ∧ Cls K C' ∧ NoAttr K C' f ∧ fs'.length < 1000 ∧ Z (upd H a' (.ins C' dx' (putF f y fs'))) := ⟨a, C, dx, fs, rfl, h, c, n, e, q⟩
theorem na_of (h : ∀ f, f ∈ l → NoAttr K C f) (m : l.contains f = true) : NoAttr K C f := h f (List.contains_iff_mem.mp m)
theorem putF_new : ∀ {fs : List (Str × V)}, (fs.map Prod.fst).contains f = false → putF f y fs = fs ++ [(f, y)]
  | [], _ => rfl
  | (g, z) :: fs, h => by
    simp only [List.map_cons, List.contains_cons, Bool.or_eq_false_iff] at h
    unfold putF
    rw [putF_new h.2]
    have e : ¬ g = f := fun e => by
      rw [e] at h
      simp at h
    simp [e]
end
/-- a new object x while its fields are being set -/
structure InitAt (S : List Addr) (x C dx : Addr) (H0 H : Hp) (gs : List (Str × V)) (fs : List (Str × PyData)) : Prop where
  fr : Fr [x] H0 H
  hx : H x = some (.ins C dx gs)
  dq : DqN S H gs fs
  al : Al S H
  mem : x ∈ S
section
variable {K : PySem.W.Frag} {S : List Addr} {x C dx : Addr} {H0 H H' : Hp} {gs : List (Str × V)} {fs : List (Str × PyData)} {f : Str} {v : V} {d : PyData}
theorem InitAt.start (hx : H x = some (.ins C dx [])) (al : Al S H) (m : x ∈ S) : InitAt S x C dx H H [] [] := ⟨Fr.refl, hx, .nil, al, m⟩
theorem InitAt.same (I : InitAt S x C dx H0 H gs fs) (e : Same H H') : InitAt S x C dx H0 H' gs fs := ⟨I.fr.trans (Fr.same e), e _ _ I.hx, I.dq.fr (Fr.same e), I.al.same e, I.mem⟩
theorem InitAt.put (I : InitAt S x C dx H0 H gs fs) (hv : Dq S H v d) (f : Str) (hn : (gs.map Prod.fst).contains f = false) : InitAt S x C dx H0 (upd H x (.ins C dx (putF f v gs))) (gs ++ [(f, v)]) (fs ++ [(f, d)]) := by
  rw [putF_new hn]
  have u : Fr S H (upd H x (.ins C dx (gs ++ [(f, v)]))) := Fr.upd I.mem
  refine ⟨I.fr.trans (Fr.upd (by simp)), upd_same, (I.dq.fr u).app (.cons (hv.fr u) .nil), ?_, I.mem⟩
  intro b m q
  by_cases hb : b = x
  · rw [hb, upd_same] at q; cases q
  · rw [upd_ne hb] at q; exact I.al b m q
theorem InitAt.dqO (I : InitAt S x C dx H0 H gs fs) (h : Dq S H0 v d) : Dq S H v d := h.fr (I.fr.mono fun a m => by rw [show a = x by simpa using m]; exact I.mem)
theorem InitAt.deO (I : InitAt S x C dx H0 H gs fs) (h : De K S H0 v d) : De K S H v d := h.fr (I.fr.mono fun a m => by rw [show a = x by simpa using m]; exact I.mem)
theorem De.dq (h : De K S H v d) (n : d ≠ .tuple []) : Dq S H v d := by
  rcases h with h | ⟨e, _⟩
  · exact h
  · exact absurd e n
end
/-! ### sequences of data -/
def Sq1 (d : PyData) (L : List PyData) : Prop := sqI d = some L ∧ L.length < 1000
def Sq2 (d : PyData) (L : List (List PyData)) : Prop := ∃ xs, sqI d = some xs ∧ xs.map sqI = L.map some ∧ L.length < 1000
def Sq3 (d : PyData) (L : List (List (List PyData))) : Prop := ∃ xs, sqI d = some xs ∧ xs.length = L.length ∧ (∀ (i : Nat) x l, xs[i]? = some x → L[i]? = some l → Sq2 x l) ∧ L.length < 1000
def ltD (L : List (List PyData)) : PyData := .list (L.map .tuple)
def llD (L : List (List PyData)) : PyData := .list (L.map .list)
def ouD3 (L : List (List (List PyData))) : PyData := .list (L.map ltD)
section
variable {L : List (List PyData)} {M : List (List (List PyData))} {l : List PyData}
theorem Sq1.ls (h : l.length < 1000) : Sq1 (.list l) l := ⟨rfl, h⟩
theorem Sq1.e : Sq1 (.tuple []) [] := ⟨rfl, by decide⟩
theorem Sq2.lt (h : L.length < 1000) : Sq2 (ltD L) L := ⟨_, rfl, by rw [List.map_map]; rfl, h⟩
theorem Sq2.ll (h : L.length < 1000) : Sq2 (llD L) L := ⟨_, rfl, by rw [List.map_map]; rfl, h⟩
theorem Sq2.e : Sq2 (.tuple []) [] := ⟨[], rfl, rfl, by decide⟩
theorem Sq3.ou (h : M.length < 1000) (k : ∀ c, c ∈ M → c.length < 1000) : Sq3 (ouD3 M) M := by
  refine ⟨_, rfl, by rw [List.length_map], fun i x l e1 e2 => ?_, h⟩
  rw [List.getElem?_map, e2] at e1
  cases e1
  exact Sq2.lt (k l (List.mem_of_getElem? e2))
theorem Sq3.e : Sq3 (.tuple []) [] := ⟨[], rfl, rfl, fun i x l e1 _ => by simp at e1, by decide⟩
theorem Sq3.le : Sq3 (.list []) [] := ⟨[], rfl, rfl, fun i x l e1 _ => by simp at e1, by decide⟩
theorem Sq2.le : Sq2 (.list []) [] := ⟨[], rfl, rfl, by decide⟩
theorem fm_ltA {α : Type} {L : List α} {f : α → PyData} {n : Nat} (h : n = L.length) : (List.range n).filterMap (fun i => (L[i]?).map f) = L.map f := by
  subst h
  have e : (fun i : Nat => (L[i]?).map f) = fun i => (L.map f)[i]? := funext fun i => by rw [List.getElem?_map]
  rw [e]
  have := fm_map (es := L.map f) (rs := L.map f) rfl
  rwa [List.length_map] at this
theorem sq2_at {xs : List PyData} {i : Nat} {e : PyData} (h : xs.map sqI = L.map some) (he : xs[i]? = some e) : ∃ l, L[i]? = some l ∧ sqI e = some l := by
  have : (xs.map sqI)[i]? = (L.map some)[i]? := by rw [h]
  rw [List.getElem?_map, List.getElem?_map, he] at this
  cases hl : L[i]? with
  | none => rw [hl] at this; cases this
  | some l => rw [hl] at this; exact ⟨l, rfl, by simpa using this⟩
theorem sq2_len {xs : List PyData} (h : xs.map sqI = L.map some) : xs.length = L.length := by
  have := congrArg List.length h
  simpa using this
end
def fTof (ds : List PyData) (d : PyData) : Prop := ∃ r L, ds = [r] ∧ Sq2 r L ∧ d = ltD L
theorem DqN.consE {S : List Addr} {H : Hp} {n : Str} {d : PyData} {fs : List (Str × V)} {ds : List (Str × PyData)} (h : DqN S H fs ((n, d) :: ds)) : ∃ v gs, fs = (n, v) :: gs ∧ Dq S H v d ∧ DqN S H gs ds := by
  cases h with
  | cons h r => exact ⟨_, _, rfl, h, r⟩
theorem DqN.nilE {S : List Addr} {H : Hp} {fs : List (Str × V)} (h : DqN S H fs []) : fs = [] := by cases h; rfl
theorem lstOf_de {K : PySem.W.Frag} {S : List Addr} {H : Hp} {v : V} {e : PyData} {l : List PyData} {Q : VK} (al : Al S H) (h : De K S H v e) (hl : sqI e = some l) (q : ∀ p H', Same H H' → Dq S H' (.ref p) (.list l) → Q (.ref p) H') : rLstOf K [v] H Q := by
  obtain ⟨a, zs, h | h⟩ := h.seq hl
  · obtain ⟨rfl, hA, hs⟩ := h
    exact ⟨a, zs, rfl, .inl (hs _ Fr.refl), fun p hp => q p _ (Fl.Same.new hp) (Dq.newL al hp hA)⟩
  · obtain ⟨a, zs, rfl, hA, hs⟩ := h
    exact ⟨a, zs, rfl, .inr (hs _ Fr.refl), fun p hp => q p _ (Fl.Same.new hp) (Dq.newL al hp hA)⟩
theorem lstOf_app {K : PySem.W.Frag} {S : List Addr} {H : Hp} {v : V} {e : PyData} {l : List PyData} {Q : VK} (al : Al S H) (h : Dq S H v e) (hl : sqI e = some l) (q : ∀ p H', Same H H' → Dq S H' (.ref p) (.list l) → Q (.ref p) H') : rLstOf K [v] H Q := lstOf_de al (.inl h) hl q
theorem g_make {C : Addr} {n m : Nat} {sp : Sp} {gV : List V → List V → List V} {E : XK} {t tk : TA} {σ : L2.St} {H : Hp} {Q : VK}
    (h : t σ H fun vs H1 => tk σ H1 fun zs H2 => vs.length = n ∧ zs.length = m ∧ ∀ x dx, H2 x = none → H2 dx = none → dx ≠ x → sp (gV (.ref x :: vs) zs) (upd (upd H2 dx (.own x)) x (.ins C dx [])) (fun v H3 => v = .non ∧ Q (.ref x) H3) E) : tMakeK C n m sp gV E t tk σ H Q := h
theorem g_mk {A B C : Prop} (h1 : A) (h2 : B) (h3 : C) : A ∧ B ∧ C := ⟨h1, h2, h3⟩
/-! ### the parts of a font -/
structure GlR where
  adv : PyData
  outl : List (List (List PyData))
  parts : List (List PyData)
  anch : List (List PyData)
  mark : PyData
  deltas : List (List PyData)
  hint : List (List PyData)
structure RuR where
  inside : List (List PyData)
  back : List (List PyData)
  ahead : List (List PyData)
  out : List PyData
  calls : List (List PyData)
  extra : PyData
structure LkR where
  kind : PyData
  rules : List RuR
  ign : PyData
def GlR.F (g : GlR) : List (Str × PyData) := [("advance", g.adv), ("outline", ouD3 g.outl), ("parts", ltD g.parts), ("anchors", ltD g.anch), ("mark", g.mark), ("deltas", ltD g.deltas), ("hint", ltD g.hint)]
def RuR.F (r : RuR) : List (Str × PyData) := [("inside", llD r.inside), ("back", llD r.back), ("ahead", llD r.ahead), ("out", .list r.out), ("calls", ltD r.calls), ("extra", r.extra)]
def LkR.F (C : Addr) (k : LkR) : List (Str × PyData) := [("kind", k.kind), ("rules", .list (k.rules.map fun r => insD C r.F)), ("ignore", k.ign)]
structure GlR.ok (g : GlR) : Prop where
  a : g.adv ≠ .tuple []
  m : g.mark ≠ .tuple []
  o : g.outl.length < 1000
  c : ∀ c, c ∈ g.outl → c.length < 1000
  p : g.parts.length < 1000
  n : g.anch.length < 1000
  d : g.deltas.length < 1000
  h : g.hint.length < 1000
structure RuR.ok (x : RuR) : Prop where
  i : x.inside.length < 1000
  b : x.back.length < 1000
  a : x.ahead.length < 1000
  o : x.out.length < 1000
  c : x.calls.length < 1000
  e : x.extra ≠ .tuple []
structure LkR.ok (x : LkR) : Prop where
  k : x.kind ≠ .tuple []
  r : x.rules.length < 1000
  ro : ∀ r, r ∈ x.rules → RuR.ok r
  g : x.ign ≠ .tuple []
/-- what Glyph is called with -/
def fGl (ds : List PyData) (fs : List (Str × PyData)) : Prop := ∃ (o p n d h : PyData) (g : GlR), ds = [g.adv, o, p, n, g.mark, d, h] ∧ g.ok ∧ Sq3 o g.outl ∧ Sq2 p g.parts ∧ Sq2 n g.anch ∧ Sq2 d g.deltas ∧ Sq2 h g.hint ∧ fs = g.F
def fRu (ds : List PyData) (fs : List (Str × PyData)) : Prop := ∃ (i b a o c : PyData) (r : RuR), ds = [i, b, a, o, c, r.extra] ∧ r.ok ∧ Sq2 i r.inside ∧ Sq2 b r.back ∧ Sq2 a r.ahead ∧ Sq1 o r.out ∧ Sq2 c r.calls ∧ fs = r.F
def fLk (CR : Addr) (ds : List PyData) (fs : List (Str × PyData)) : Prop := ∃ (k : LkR) (rs : PyData), ds = [k.kind, rs, k.ign] ∧ k.ok ∧ sqI rs = some (k.rules.map fun r => insD CR r.F) ∧ fs = k.F CR
def fCg (CG : Addr) (ds : List PyData) (d : PyData) : Prop := ∃ g : GlR, g.ok ∧ ds = [insD CG g.F] ∧ d = insD CG g.F
def fCr (CR : Addr) (ds : List PyData) (d : PyData) : Prop := ∃ r : RuR, r.ok ∧ ds = [insD CR r.F] ∧ d = insD CR r.F
def fCl (CR CL : Addr) (ds : List PyData) (d : PyData) : Prop := ∃ k : LkR, k.ok ∧ ds = [insD CL (k.F CR)] ∧ d = insD CL (k.F CR)
/-- lcs_done: a walk over items of one kind, each copied -/
theorem at_map {α : Type} {L : List α} {f : α → PyData} {i : Nat} {e : PyData} (h : (L.map f)[i]? = some e) : ∃ x, L[i]? = some x ∧ e = f x := by
  rw [List.getElem?_map] at h
  cases hl : L[i]? with
  | none => rw [hl] at h; cases h
  | some x => rw [hl] at h; exact ⟨x, rfl, by simpa using h.symm⟩
/-! ### whole fonts -/
structure FoR where
  unit : PyData
  glyphs : List GlR
  chars : List (List PyData)
  lookups : List LkR
  features : List (PyData × List PyData)
  axes : List (List PyData)
  regions : List (List (List PyData))
  functions : List (List (List PyData))
  presets : List PyData
structure Cs where
  G : Addr
  R : Addr
  L : Addr
  F : Addr
def glD (c : Cs) (g : GlR) : PyData := insD c.G g.F
def lkD (c : Cs) (k : LkR) : PyData := insD c.L (k.F c.R)
def feD (f : PyData × List PyData) : PyData := .tuple [f.1, .list f.2]
def FoR.F (c : Cs) (f : FoR) : List (Str × PyData) := [("unit", f.unit), ("glyphs", .list (f.glyphs.map (glD c))), ("chars", ltD f.chars), ("lookups", .list (f.lookups.map (lkD c))), ("features", .list (f.features.map feD)), ("axes", ltD f.axes), ("regions", ouD3 f.regions), ("functions", ouD3 f.functions), ("presets", .list f.presets)]
def foD (c : Cs) (f : FoR) : PyData := insD c.F (f.F c)
structure FoR.ok (x : FoR) : Prop where
  u : x.unit ≠ .tuple []
  g : x.glyphs.length < 1000
  go : ∀ g, g ∈ x.glyphs → GlR.ok g
  c : x.chars.length < 1000
  l : x.lookups.length < 1000
  lo : ∀ k, k ∈ x.lookups → LkR.ok k
  f : x.features.length < 1000
  a : x.axes.length < 1000
  r : x.regions.length < 1000
  n : x.functions.length < 1000
  p : x.presets.length < 1000
/-- the pairs of features as they are handed in: a pair of a name and a list or tuple -/
def SqF (d : PyData) (L : List (PyData × List PyData)) : Prop := ∃ xs, sqI d = some xs ∧ xs.length = L.length ∧ (∀ (i : Nat) x (l : PyData × List PyData), xs[i]? = some x → L[i]? = some l → ∃ m, x = .tuple [l.1, m] ∧ Sq1 m l.2) ∧ L.length < 1000
theorem SqF.e : SqF (.tuple []) [] := ⟨[], rfl, rfl, fun i x l e1 _ => by simp at e1, by decide⟩
def fFf (c : Cs) (V : FoR → Prop) (ds : List PyData) (d : PyData) : Prop := ∃ f : FoR, V f ∧ ds = [foD c f] ∧ d = .none
def fFo (c : Cs) (V : FoR → Prop) (ds : List PyData) (fs : List (Str × PyData)) : Prop := ∃ (gs ch ls fe ax re fn pr : PyData) (f : FoR), ds = [f.unit, gs, ch, ls, fe, ax, re, fn, pr] ∧ f.ok ∧ V f ∧
  sqI gs = some (f.glyphs.map (glD c)) ∧ Sq2 ch f.chars ∧ sqI ls = some (f.lookups.map (lkD c)) ∧ SqF fe f.features ∧ Sq2 ax f.axes ∧ Sq3 re f.regions ∧ Sq3 fn f.functions ∧ Sq1 pr f.presets ∧ fs = f.F c
theorem InitAt.fin {S : List Addr} {x C dx : Addr} {H0 H : Hp} {gs : List (Str × V)} {fs : List (Str × PyData)} (I : InitAt S x C dx H0 H gs fs) : Al (S.filter fun a => a ≠ x) H ∧ Dq (S.filter fun a => a ≠ x) H (.ref x) (insD C fs) := by
  refine ⟨fun a m => I.al a ((List.mem_filter.mp m).1), Dq.insI (by simp) I.hx (I.dq.mono fun a m => (List.mem_filter.mp m).1)⟩
end Fl

set_option Elab.async false
set_option linter.all false
set_option maxRecDepth 100000
set_option maxHeartbeats 4000000
set_option exponentiation.threshold 20000
/-! readings for the checks of a font; fonts in numbers -/
namespace Fl
open PySem PySem.Spec PyProof.Rows L2
section
variable {X : Cx} {K : PySem.W.Frag} {σ : L2.St} {H : Hp} {Q : VK}
theorem peOrT {a b : Expr} {ta tb : TE} {rest : List Expr} {pos : Pos} (e : X.K = K) (h1 : PE X a ta) (h2 : PE X (.BoolOp .Or (b :: rest) pos) tb) : PE X (.BoolOp .Or (a :: b :: rest) pos) (tOrT K ta tb) := by subst e; exact pe_orT h1 h2
theorem g_orT {ta tb : TE} (h : ta σ H fun x H1 => ∃ k, TruV K x H1 k ∧ if k = true then Q x H1 else tb σ H1 Q) : tOrT K ta tb σ H Q := h
theorem g_truN {Z : Bool → Prop} (q : Z false) : ∃ k, TruV K .non H k ∧ Z k := ⟨false, rfl, q⟩
theorem g_chain {r r' : R2} {ta tb tc : TE} (h : ta σ H fun x H1 => tb σ H1 fun y H2 => r x y H2 fun z H3 => ∃ k, z = .bl k ∧ (if k = true then tc σ H3 fun w' H4 => r' y w' H4 Q else Q (.bl false) H3)) : tChain r r' ta tb tc σ H Q := h
theorem g_yesB {p : Prop} [Decidable p] {A B : Prop} (h : p) (q : A) : if decide p = true then A else B := by rw [if_pos (by simpa using h)]; exact q
theorem g_noB {p : Prop} [Decidable p] {A B : Prop} (h : ¬ p) (q : B) : if decide p = true then A else B := by rw [if_neg (by simpa using h)]; exact q
theorem g_nB {p : Prop} [Decidable p] {A B : Prop} (h : p) (q : B) : if (!decide p) = true then A else B := by rw [decide_eq_true h]; simpa using q
theorem g_inT {neg : Bool} {a : Addr} {xs : List V} {x : V} {b : Bool} (h : SqT K H a xs) (f1 : flatV x = true) (f2 : xs.all flatV = true) (e : (if neg = true then !inV x xs else inV x xs) = b) (q : Q (.bl b) H) : rIn K neg x (.ref a) H Q := ⟨a, xs, rfl, .inr h, f1, f2, by rw [e]; exact q⟩
theorem g_tru0n {a : Addr} {xs : List V} {Z : Bool → Prop} (h : SqL K H a xs) (e : xs.length = 0) (q : Z false) : ∃ k, TruV K (.ref a) H k ∧ Z k := by
  cases xs with
  | nil => exact ⟨_, .inl ⟨_, h, rfl⟩, q⟩
  | cons _ _ => cases e
theorem g_asg2 {te : TE} {g : TG} {D : Ends} (h : te σ H fun x H1 => g x σ H1 D.nx) : tAsg te g D σ H := h
theorem g_kd {w : World} {p : Addr} {z : Str} {v : V} (h : KDct K w p z v) (q : Q v H) : rIxD K w (.ref p) (.str z) H Q := ⟨p, z, v, rfl, rfl, h, q⟩
theorem g_neS {x y : Str} (q : Q (.bl (!decide (x = y))) H) : rNe (.str x) (.str y) H Q := ⟨rfl, by
  have e : decide (V.str x = V.str y) = decide (x = y) := by simp
  rw [e]
  exact q⟩
theorem g_nkd {d : Addr} {z : Str} {Z : VK} {u0 : Value} (h : PySem.W.nsIn K d z = some (some u0)) (q : Z (V.bl false) H) : ∃ z' r, V.str z = V.str z' ∧ V.ref d = V.ref d ∧ PySem.W.nsIn K d z' = some r ∧ Z (V.bl (!r.isSome)) H := ⟨z, _, rfl, rfl, h, q⟩
theorem g_noNB {p : Prop} [Decidable p] {A B : Prop} (h : ¬ p) (q : A) : if (!decide p) = true then A else B := by rw [decide_eq_false h]; simpa using q
theorem piEnum {e : Expr} {ta : TA} {p pos tpos : Pos} {elts : List Expr} {kk : Nat} (eK : X.K = K) (h1 : Gl X "enumerate") (h2 : X.mg "enumerate" = none) (h3 : PA X [e] ta) (h4 : starEach [e] X.env = [(false, eval e X.env)] := by rfl) :
    PI X (.Tuple elts kk tpos) (.Call (.Name "enumerate" p) [e] [] pos) (iEnum K ta) := by subst eK; exact pi_enum h1 h2 h3 h4
theorem g_enum {ta : TE} {R : It → Hp → Prop} (h : ta σ H fun x H1 => ∃ a xs, [x] = [V.ref a] ∧ SqL K H1 a xs ∧ R (Ite K a) H1) : iEnum K (tCons ta tNil) σ H R := h
theorem g_enE {a : Addr} {xs : List V} {Z : Addr → Prop} (h : SqL K H a xs) (q : Z a) : ∃ c zs, [V.ref a] = [V.ref c] ∧ SqL K H c zs ∧ Z c := ⟨a, xs, rfl, h, q⟩
theorem forK_e {a : Addr} {xs : List V} {g : TG} {tb : TS} {D : Ends} (Pv : Nat → L2.St → Hp → Prop) (h0 : Pv 0 σ H) (hl : ∀ i σ H, i ≤ xs.length → Pv i σ H → SqL K H a xs)
    (hs : ∀ (i : Nat) (x : V) (T : Addr) (σ : L2.St) (H : Hp), xs[i]? = some x → Pv i σ H → H T = none → g (.ref T) σ (upd H T (.tup [.int (i : Int), x])) fun σ2 H2 => tb { D with nx := Pv (i + 1), ct := Pv (i + 1), bk := D.nx } σ2 H2) (hd : ∀ σ H, Pv xs.length σ H → D.nx σ H) : forK (Ite K a) g tb D σ H := by
  refine ⟨fun i m σ H => m = xs.length - i ∧ i ≤ xs.length ∧ Pv i σ H, ⟨xs.length, rfl, Nat.zero_le _, h0⟩, fun i m σ H h => ?_⟩
  obtain ⟨rfl, hi, p⟩ := h
  have q := hl i σ H hi p
  by_cases hlt : i < xs.length
  · refine .inr ⟨⟨xs, xs[i], q, by simp [hlt]⟩, Pv (i + 1), fun σ' H' p' => ⟨xs.length - (i + 1), by omega, rfl, hlt, p'⟩, fun x H' y => ?_⟩
    obtain ⟨T, z, rfl, hT, rfl, y⟩ := y
    exact hs i z T σ H (y xs q) p hT
  · have e : i = xs.length := by omega
    subst e
    exact .inl ⟨⟨xs, q, Nat.le_refl _⟩, hd σ H p⟩
theorem clAll (e : X.K = K) (hc : X.calm = true) : CallR X (.builtin "all") (rAll K) := by subst e; exact cr_all hc
theorem g_allL {a : Addr} {bs : List Bool} (h : SqL K H a (bs.map V.bl)) (q : Q (.bl (bs.all id)) H) : rAll K [.ref a] H Q := ⟨a, bs, rfl, h, q⟩
def rKd (d : Addr) (K : PySem.W.Frag) (neg : Bool) : R2 := fun x y H Q => ∃ z r, x = V.str z ∧ y = V.ref d ∧ PySem.W.nsIn K d z = some r ∧ Q (V.bl (if neg then !r.isSome else r.isSome)) H
end
/-! ### objects taken apart -/
section
variable {S : List Addr} {H : Hp} {v : V} {c : Cs}
theorem glE {g : GlR} (h : Dq S H v (glD c g)) : ∃ a dx v1 v2 v3 v4 v5 v6 v7, v = .ref a ∧ a ∉ S ∧ H a = some (.ins c.G dx [("advance", v1), ("outline", v2), ("parts", v3), ("anchors", v4), ("mark", v5), ("deltas", v6), ("hint", v7)]) ∧
    Dq S H v1 g.adv ∧ Dq S H v2 (ouD3 g.outl) ∧ Dq S H v3 (ltD g.parts) ∧ Dq S H v4 (ltD g.anch) ∧ Dq S H v5 g.mark ∧ Dq S H v6 (ltD g.deltas) ∧ Dq S H v7 (ltD g.hint) := by
  obtain ⟨a, dx, fs, rfl, ha, hA, hN⟩ := h.insE
  obtain ⟨v1, fs, rfl, h1, hN⟩ := hN.consE
  obtain ⟨v2, fs, rfl, h2, hN⟩ := hN.consE
  obtain ⟨v3, fs, rfl, h3, hN⟩ := hN.consE
  obtain ⟨v4, fs, rfl, h4, hN⟩ := hN.consE
  obtain ⟨v5, fs, rfl, h5, hN⟩ := hN.consE
  obtain ⟨v6, fs, rfl, h6, hN⟩ := hN.consE
  obtain ⟨v7, fs, rfl, h7, hN⟩ := hN.consE
  cases hN.nilE
  exact ⟨a, dx, v1, v2, v3, v4, v5, v6, v7, rfl, ha, hA, h1, h2, h3, h4, h5, h6, h7⟩
theorem ruE {C : Addr} {r : RuR} (h : Dq S H v (insD C r.F)) : ∃ a dx v1 v2 v3 v4 v5 v6, v = .ref a ∧ a ∉ S ∧ H a = some (.ins C dx [("inside", v1), ("back", v2), ("ahead", v3), ("out", v4), ("calls", v5), ("extra", v6)]) ∧
    Dq S H v1 (llD r.inside) ∧ Dq S H v2 (llD r.back) ∧ Dq S H v3 (llD r.ahead) ∧ Dq S H v4 (.list r.out) ∧ Dq S H v5 (ltD r.calls) ∧ Dq S H v6 r.extra := by
  obtain ⟨a, dx, fs, rfl, ha, hA, hN⟩ := h.insE
  obtain ⟨v1, fs, rfl, h1, hN⟩ := hN.consE
  obtain ⟨v2, fs, rfl, h2, hN⟩ := hN.consE
  obtain ⟨v3, fs, rfl, h3, hN⟩ := hN.consE
  obtain ⟨v4, fs, rfl, h4, hN⟩ := hN.consE
  obtain ⟨v5, fs, rfl, h5, hN⟩ := hN.consE
  obtain ⟨v6, fs, rfl, h6, hN⟩ := hN.consE
  cases hN.nilE
  exact ⟨a, dx, v1, v2, v3, v4, v5, v6, rfl, ha, hA, h1, h2, h3, h4, h5, h6⟩
theorem lkE {k : LkR} (h : Dq S H v (lkD c k)) : ∃ a dx v1 v2 v3, v = .ref a ∧ a ∉ S ∧ H a = some (.ins c.L dx [("kind", v1), ("rules", v2), ("ignore", v3)]) ∧
    Dq S H v1 k.kind ∧ Dq S H v2 (.list (k.rules.map fun r => insD c.R r.F)) ∧ Dq S H v3 k.ign := by
  obtain ⟨a, dx, fs, rfl, ha, hA, hN⟩ := h.insE
  obtain ⟨v1, fs, rfl, h1, hN⟩ := hN.consE
  obtain ⟨v2, fs, rfl, h2, hN⟩ := hN.consE
  obtain ⟨v3, fs, rfl, h3, hN⟩ := hN.consE
  cases hN.nilE
  exact ⟨a, dx, v1, v2, v3, rfl, ha, hA, h1, h2, h3⟩
theorem foE {f : FoR} (h : Dq S H v (foD c f)) : ∃ a dx v1 v2 v3 v4 v5 v6 v7 v8 v9, v = .ref a ∧ a ∉ S ∧ H a = some (.ins c.F dx [("unit", v1), ("glyphs", v2), ("chars", v3), ("lookups", v4), ("features", v5), ("axes", v6), ("regions", v7), ("functions", v8), ("presets", v9)]) ∧
    Dq S H v1 f.unit ∧ Dq S H v2 (.list (f.glyphs.map (glD c))) ∧ Dq S H v3 (ltD f.chars) ∧ Dq S H v4 (.list (f.lookups.map (lkD c))) ∧ Dq S H v5 (.list (f.features.map feD)) ∧ Dq S H v6 (ltD f.axes) ∧ Dq S H v7 (ouD3 f.regions) ∧ Dq S H v8 (ouD3 f.functions) ∧ Dq S H v9 (.list f.presets) := by
  obtain ⟨a, dx, fs, rfl, ha, hA, hN⟩ := h.insE
  obtain ⟨v1, fs, rfl, h1, hN⟩ := hN.consE
  obtain ⟨v2, fs, rfl, h2, hN⟩ := hN.consE
  obtain ⟨v3, fs, rfl, h3, hN⟩ := hN.consE
  obtain ⟨v4, fs, rfl, h4, hN⟩ := hN.consE
  obtain ⟨v5, fs, rfl, h5, hN⟩ := hN.consE
  obtain ⟨v6, fs, rfl, h6, hN⟩ := hN.consE
  obtain ⟨v7, fs, rfl, h7, hN⟩ := hN.consE
  obtain ⟨v8, fs, rfl, h8, hN⟩ := hN.consE
  obtain ⟨v9, fs, rfl, h9, hN⟩ := hN.consE
  cases hN.nilE
  exact ⟨a, dx, v1, v2, v3, v4, v5, v6, v7, v8, v9, rfl, ha, hA, h1, h2, h3, h4, h5, h6, h7, h8, h9⟩
/-- a list whose length alone matters -/
theorem lstN {f : α → PyData} {L : List α} (h : Dq S H v (.list (L.map f))) : ∃ a xs, v = .ref a ∧ H a = some (.lst xs) ∧ xs.length = L.length ∧ DqA S H xs (L.map f) := by
  obtain ⟨a, xs, rfl, _, q, r⟩ := h.lstE
  exact ⟨a, xs, rfl, q, by rw [r.len, List.length_map], r⟩
end
/-! ### rules and lookups in numbers -/
def iD (l : List Int) : List PyData := l.map .int
structure RuV where
  inside : List (List Int)
  back : List (List Int)
  ahead : List (List Int)
  out : List Int
  calls : List (Int × Int)
structure LkV where
  kind : Str
  rules : List RuV
  ign : Bool
structure GlV where
  adv : Int
  mark : Bool
def RuV.R (r : RuV) : RuR := ⟨r.inside.map iD, r.back.map iD, r.ahead.map iD, iD r.out, r.calls.map fun p => [.int p.1, .int p.2], .int 0⟩
def LkV.R (k : LkV) : LkR := ⟨.str k.kind, k.rules.map RuV.R, .bool k.ign⟩
def GlV.R (g : GlV) : GlR := ⟨.int g.adv, [], [], [], .bool g.mark, [], []⟩
structure FoV where
  glyphs : List GlV
  lks : List LkV
def FoV.R (f : FoV) : FoR := ⟨.int 100, f.glyphs.map GlV.R, [], f.lks.map LkV.R, [], [], [], [], []⟩
/-- the number before the i-th -/
def prv (l : List Int) : Nat → Int
  | 0 => -1
  | i + 1 => (l[i]?).getD (-1)
/-- a set of glyphs of a font of n glyphs -/
structure IsSet (n : Nat) (l : List Int) : Prop where
  ne : l ≠ []
  up : ∀ (i : Nat) g, l[i]? = some g → prv l i < g ∧ g < n
theorem IsSet.len {n : Nat} {l : List Int} (h : IsSet n l) : l.length ≤ n := by
  have : ∀ i, i ≤ l.length → (i : Int) - 1 ≤ prv l i := by
    intro i
    induction i with
    | zero => intro _; simp [prv]
    | succ i ih =>
      intro hi
      have h1 := (h.up i _ (List.getElem?_eq_getElem (by omega))).1
      have h2 := ih (by omega)
      have e : prv l (i + 1) = l[i]'(by omega) := by simp [prv, List.getElem?_eq_getElem (show i < l.length by omega)]
      omega
  have h1 := this l.length (Nat.le_refl _)
  cases hl : l.length with
  | zero => omega
  | succ m =>
    rw [hl] at h1
    have h2 := (h.up m _ (List.getElem?_eq_getElem (by omega))).2
    have e : prv l (m + 1) = l[m]'(by omega) := by simp [prv, List.getElem?_eq_getElem (show m < l.length by omega)]
    omega
/-- a font of such parts, as the laws make it -/
def kindsR : List Str := ["single", "multiple", "ligature", "chain", "reverse"]
structure RuV.Ok (n : Nat) (ks : List Str) (kind : Str) (r : RuV) : Prop where
  i : (kind = "single" ∨ kind = "multiple" ∨ kind = "reverse") → r.inside.length = 1
  i2 : kind = "ligature" → 2 ≤ r.inside.length
  i3 : 1 ≤ r.inside.length ∧ r.inside.length ≤ 4
  b : r.back.length ≤ 3
  a : r.ahead.length ≤ 3
  ba : ¬ (kind = "chain" ∨ kind = "reverse") → r.back = [] ∧ r.ahead = []
  s : ∀ c, c ∈ r.inside ++ r.back ++ r.ahead → IsSet n c
  o : r.out.length ≤ 8
  og : ∀ g, g ∈ r.out → 0 ≤ g ∧ g < n
  oc : kind = "chain" → r.out = []
  os : (kind = "single" ∨ kind = "reverse") → ∀ l, r.inside[0]? = some l → r.out.length = l.length
  ol : kind = "ligature" → r.out.length = 1
  c : kind ≠ "chain" → r.calls = []
  cu : ∀ (i : Nat) p, r.calls[i]? = some p → prv (r.calls.map Prod.fst) i < p.1 ∧ p.1 < r.inside.length ∧ 0 ≤ p.2 ∧ ∃ k, ks[p.2.toNat]? = some k ∧ (k = "single" ∨ k = "multiple")
structure LkV.Ok (n : Nat) (ks : List Str) (x : LkV) : Prop where
  k : x.kind ∈ kindsR
  r : x.rules.length ≤ 12
  ro : ∀ r, r ∈ x.rules → RuV.Ok n ks x.kind r
structure FoV.Ok (f : FoV) : Prop where
  g : 1 ≤ f.glyphs.length ∧ f.glyphs.length ≤ 60
  ga : ∀ g, g ∈ f.glyphs → 0 ≤ g.adv ∧ g.adv ≤ 16384
  l : f.lks.length ≤ 20
  lo : ∀ k, k ∈ f.lks → k.Ok f.glyphs.length (f.lks.map LkV.kind)
theorem RuV.R_in (r : RuV) : llD (r.R.inside ++ r.R.back ++ r.R.ahead) = .list ((r.inside ++ r.back ++ r.ahead).map fun l => .list (iD l)) := by
  unfold llD RuV.R
  simp only [← List.map_append, List.map_map]
  rfl
theorem truesL {α : Type} {S : List Addr} {H : Hp} : ∀ {L : List α} {vs : List V}, DqA S H vs (L.map fun _ => PyData.bool true) → vs = (L.map fun _ => true).map V.bl
  | [], _, h => by cases h; rfl
  | _ :: L, _, .cons h r => by
    cases h.blE
    rw [truesL r]
    rfl
theorem all_trues {α : Type} : ∀ {L : List α}, (L.map fun _ => true).all id = true
  | [] => rfl
  | _ :: L => by simp
theorem allD {α : Type} {K : PySem.W.Frag} {S : List Addr} {H : Hp} {v : V} {L : List α} {Q : VK} (h : Dq S H v (.list (L.map fun _ => PyData.bool true))) (q : Q (.bl true) H) : rAll K [v] H Q := by
  obtain ⟨a, xs, rfl, _, hx, hA⟩ := h.lstE
  obtain rfl := truesL hA
  refine g_allL (SqL.of hx) ?_
  rw [all_trues]
  exact q
structure FoK (f : FoR) (ks : List Str) : Prop where
  g : f.glyphs.length < 1000
  l : f.lookups.length < 1000
  k : ∀ (i : Nat) k, ks[i]? = some k → ∃ lk, f.lookups[i]? = some lk ∧ lk.kind = .str k
theorem boolsL {α : Type} {p : α → Bool} {S : List Addr} {H : Hp} : ∀ {L : List α} {vs : List V}, DqA S H vs (L.map fun x => PyData.bool (p x)) → vs = (L.map p).map V.bl
  | [], _, h => by cases h; rfl
  | _ :: L, _, .cons h r => by
    cases h.blE
    rw [boolsL r]
    rfl
theorem lcNil {S : List Addr} {H1 : Hp} {K : PySem.W.Frag} {g : TG} {tt : TT} {te : TE} {vs : List Nat} {σ : L2.St} {Q : VK} {a : Addr} (hS : Al S H1) (ha : Dq S H1 (.ref a) (.list [])) (q : ∀ D H, Same H1 H → Dq S H (.ref D) (.list []) → Q (.ref D) H) : lcK (Itl K a) g tt te vs σ H1 Q :=
  lcL (S := S) (es := []) (fun _ => none) hS ha (by decide) (fun D i x e H hD he => by simp at he) (fun D H s hD h => q D H s h)
theorem allE {K : PySem.W.Frag} {S : List Addr} {H : Hp} {v : V} {Q : VK} (h : Dq S H v (.list [])) (q : Q (.bl true) H) : rAll K [v] H Q := allD (L := ([] : List Unit)) h q
theorem no_has {P : Program} {w : World} {K : PySem.W.Frag} {mg : Str → Option Value} {base : Heap} {x : Str} {st : Stmt} {N ps : List Str} (D : DefIn K mg x st) (S : FnScope N ps (defScope st))
    (hb : ∀ (kV doc pm : Value) (an : Option Addr) (cdv ct : Value) (us : List Value), us.length = ps.length → bindArgs (PySem.W.fnOf x x (defArgs st) (defBody st) (defScope st) .none kV doc pm an cdv ct) ⟨us, []⟩ = pure (ps.zip us)) : Has P w K mg base 1 x ps (fun _ _ _ _ => False) :=
  has_of D S hb (fun _ _ _ _ h => h.elim) (fun _ _ _ _ _ _ _ _ _ _ h => h.elim)
/-- the dict of depths of glyphs without parts -/
def kv0 (n : Nat) : List (Key × V) := (List.range n).map fun k : Nat => (.inl (k : Int), .int 0)
theorem kv0_succ (n : Nat) : kv0 (n + 1) = kv0 n ++ [(.inl (n : Int), .int 0)] := by
  unfold kv0
  rw [List.range_succ, List.map_append]
  rfl
theorem kv0_len (n : Nat) : (kv0 n).length = n := by unfold kv0; simp
theorem kv0_none {n i : Nat} (h : n ≤ i) : valV (kv0 n) (.inl (i : Int)) = none := by
  unfold valV kv0
  rw [Option.map_eq_none_iff, List.find?_eq_none]
  intro x hx
  obtain ⟨k, hk, rfl⟩ := List.mem_map.mp hx
  have := List.mem_range.mp hk
  simp
  omega
theorem kv0_some {n i : Nat} (h : i < n) : ∃ v, valV (kv0 n) (.inl (i : Int)) = some v := by
  cases e : valV (kv0 n) (.inl (i : Int)) with
  | some v => exact ⟨v, rfl⟩
  | none =>
    exfalso
    unfold valV kv0 at e
    rw [Option.map_eq_none_iff, List.find?_eq_none] at e
    have := e (.inl (i : Int), .int 0) (List.mem_map.mpr ⟨i, List.mem_range.mpr h, rfl⟩)
    simp at this
theorem g_tB {t : TE} {σ : L2.St} {H : Hp} {Q : Bool → Hp → Prop} (h : t σ H fun x H1 => ∃ c, x = .bl c ∧ Q c H1) : tB t σ H Q := h
theorem g_dn {ty td : TE} {σ : L2.St} {H : Hp} {Q : VK} (h : ty σ H fun y H1 => td σ H1 fun x H2 => ∃ a o, x = .ref a ∧ DGet H2 a y o ∧ Q (.bl (!o.isSome)) H2) : tDNotIn ty td σ H Q := h
theorem g_dp {ty td tv : TE} {D : Ends} {σ : L2.St} {H : Hp} (h : tv σ H fun v H1 => td σ H1 fun x H2 => ty σ H2 fun y H3 => ∃ a H4, x = V.ref a ∧ DPut H3 a y v H4 ∧ D.nx σ H4) : sDPut td ty tv D σ H := h
theorem fm_some {n : Nat} : (List.range n).filterMap (fun j : Nat => some (PyData.int (j : Int))) = (List.range n).map fun j : Nat => PyData.int (j : Int) := by
  rw [← List.filterMap_eq_map]
  rfl
theorem fm_none {n : Nat} : (List.range n).filterMap (fun _ : Nat => (none : Option PyData)) = [] := by
  rw [List.filterMap_eq_nil_iff]
  intros
  rfl
theorem fnok_weak {P : Program} {w : World} {K : PySem.W.Frag} {mg : Str → Option Value} {base : Heap} {k : Nat} {f : Addr} {fd : FuncData} {ps : List Str} {sp sp' : Sp} (a : FnOk P w K mg base L2.CX0 k f fd ps sp) (h : ∀ vs H Q E, sp' vs H Q E → sp vs H Q E) : FnOk P w K mg base L2.CX0 k f fd ps sp' :=
  ⟨fun vs H Q E z => a.len vs H Q E (h _ _ _ _ z), fun A outer s H args us vs Q E r e b v z => a.run A outer s H args us vs Q E r e b v (h _ _ _ _ z)⟩
/-- a rule, a lookup as the laws hold them -/
def ruT (r : RuV) : PyData := .tuple [llD (r.inside.map iD), llD (r.back.map iD), llD (r.ahead.map iD), .list (iD r.out), ltD (r.calls.map fun p => [.int p.1, .int p.2])]
def lkT (k : LkV) : PyData := .tuple [.str k.kind, .list (k.rules.map ruT), .bool k.ign]
theorem RuV.Rok {n : Nat} {ks : List Str} {kind : Str} {r : RuV} (h : r.Ok n ks kind) (hn : n < 900) : r.R.ok := by
  have hc : r.calls.length < 1000 := by
    have h3 := h.i3.2
    have : ∀ i, i ≤ r.calls.length → (i : Int) - 1 ≤ prv (r.calls.map Prod.fst) i := by
      intro i
      induction i with
      | zero => intro _; simp [prv]
      | succ i ih =>
        intro hi
        have h1 := (h.cu i _ (List.getElem?_eq_getElem (by omega))).1
        have h2 := ih (by omega)
        have e : prv (r.calls.map Prod.fst) (i + 1) = (r.calls[i]'(by omega)).1 := by simp [prv, List.getElem?_eq_getElem (show i < r.calls.length by omega)]
        omega
    have h1 := this r.calls.length (Nat.le_refl _)
    cases hl : r.calls.length with
    | zero => omega
    | succ m =>
      rw [hl] at h1
      have h2 := (h.cu m _ (List.getElem?_eq_getElem (by omega))).2.1
      have e : prv (r.calls.map Prod.fst) (m + 1) = (r.calls[m]'(by omega)).1 := by simp [prv, List.getElem?_eq_getElem (show m < r.calls.length by omega)]
      omega
  have h3 := h.i3
  have hb := h.b
  have ha := h.a
  have ho := h.o
  refine ⟨?_, ?_, ?_, ?_, ?_, by show PyData.int 0 ≠ _; intro e; cases e⟩
  · show (r.inside.map iD).length < 1000; rw [List.length_map]; omega
  · show (r.back.map iD).length < 1000; rw [List.length_map]; omega
  · show (r.ahead.map iD).length < 1000; rw [List.length_map]; omega
  · show (r.out.map PyData.int).length < 1000; rw [List.length_map]; omega
  · show (r.calls.map _).length < 1000; rw [List.length_map]; omega
theorem LkV.Rok {n : Nat} {ks : List Str} {k : LkV} (h : k.Ok n ks) (hn : n < 900) : k.R.ok := by
  have := h.r
  refine ⟨(by intro e; cases e), ?_, fun r m => ?_, (by intro e; cases e)⟩
  · show (k.rules.map RuV.R).length < 1000; rw [List.length_map]; omega
  · obtain ⟨r', m', rfl⟩ := List.mem_map.mp m
    exact RuV.Rok (h.ro r' m') hn
theorem GlV.Rok {g : GlV} : g.R.ok := ⟨(by intro e; cases e), (by intro e; cases e), (show (0 : Nat) < 1000 by decide), (fun c m => nomatch m), (show (0 : Nat) < 1000 by decide), (show (0 : Nat) < 1000 by decide), (show (0 : Nat) < 1000 by decide), (show (0 : Nat) < 1000 by decide)⟩
theorem FoV.Rok {f : FoV} (h : f.Ok) : f.R.ok := by
  have hg := h.g
  have hl := h.l
  refine ⟨(by intro e; cases e), ?_, fun g m => ?_, (show (0 : Nat) < 1000 by decide), ?_, fun k m => ?_, (show (0 : Nat) < 1000 by decide), (show (0 : Nat) < 1000 by decide), (show (0 : Nat) < 1000 by decide), (show (0 : Nat) < 1000 by decide), (show (0 : Nat) < 1000 by decide)⟩
  · show (f.glyphs.map GlV.R).length < 1000; rw [List.length_map]; omega
  · obtain ⟨g', m', rfl⟩ := List.mem_map.mp m
    exact GlV.Rok
  · show (f.lks.map LkV.R).length < 1000; rw [List.length_map]; omega
  · obtain ⟨k', m', rfl⟩ := List.mem_map.mp m
    exact LkV.Rok (h.lo k' m') (by omega)
/-- the table of kinds -/
structure InsK (K : PySem.W.Frag) (w : World) (mg : Str → Option Value) : Prop where
  g : mg "INSIDE" = some (.ref (adr mg "INSIDE"))
  d : ∃ es n, KDict K w (adr mg "INSIDE") es n
  k : ∀ kind, kind ∈ kindsR → ∃ t lo hi, PySem.W.nsIn K (adr mg "INSIDE") kind = some (some (.ref t)) ∧ (∀ H : Hp, SqT K H t [.int lo, .int hi]) ∧ (kind, lo, hi) ∈ ([("single", 1, 1), ("multiple", 1, 1), ("ligature", 2, 4), ("chain", 1, 4), ("reverse", 1, 1)] : List (Str × Int × Int))
end Fl

set_option Elab.async false
set_option linter.all false
set_option maxRecDepth 100000
set_option maxHeartbeats 4000000
set_option exponentiation.threshold 20000
/-! own errors with one field, a text -/
namespace Fl
open PySem PySem.Spec PyProof.Rows L2
/-- an own error class, made with a text that it keeps as f -/
structure Cls1 (K : PySem.W.Frag) (mg : Str → Option Value) (x qual : Str) (st : Stmt) (f : Str) : Prop where
  g : mg x = some (.ref (adr mg x))
  o : OexC K (adr mg x)
  n : PySem.W.findIn K (.ref (adr mg x)) f = some none
  i : ∃ (fI : Addr) (fd : FuncData), PySem.W.findIn K (.ref (adr mg x)) "__init__" = some (some (.ref fI)) ∧ PySem.W.typeIn K (.ref fI) = some (.type "function") ∧ Fun K "__init__" qual st fI fd
def spIni1 (C : Addr) (f : Str) : Sp := fun vs H Q _ => ∃ (a : Addr) (s : Str), vs = [.ref a, .str s] ∧ s.length ≤ 1000 ∧ H a = some (exo a C none) ∧ ∀ dx, H dx = none → dx ≠ a → Q .non (upd (upd H dx (exd dx [(f, .str s)])) a (exo a C (some dx)))
structure MkX1 (P : Program) (w : World) (K : PySem.W.Frag) (mg : Str → Option Value) (base : Heap) (k : Nat) (x f : Str) (ps : List Str) : Prop where
  g : mg x = some (.ref (adr mg x))
  o : OexC K (adr mg x)
  i : ∃ (fI : Addr) (fd : FuncData), PySem.W.findIn K (.ref (adr mg x)) "__init__" = some (some (.ref fI)) ∧ PySem.W.typeIn K (.ref fI) = some (.type "function") ∧ FnOk P w K mg base L2.CX0 k fI fd ps (spIni1 (adr mg x) f) ∧ L2.Binds K fd ps []
def tRaise1 (W : WX) (C : Addr) (f : Str) (ta : TA) : TS := fun _ σ H => tMkO C (spIni1 C f) [] ta σ H fun cls d H' => W cls d σ H'
theorem ps_raise1 {X : Cx} {W : WX} {k : Nat} {x f : Str} {ps : List Str} {e : Expr} {ta : TA} {p pos pos2 : Pos} (M : MkX1 X.prog X.w X.K X.mg X.base k x f ps) (hc : X.calm = true) (hr : Room (k + 1) X.A) (tk : Takes X W) (ha : PA X [e] ta) (hg : Gl X x := by rfl) (hdb : (x == ("__debug__" : Str)) = false := by decide)
    (he : starEach [e] X.env = (false, eval e X.env) :: starEach [] X.env := by rfl) (hpl : (backTo pos (starEach [] X.env)).any (·.1) = false := by rfl) :
    PS X (.Raise (some (.Call (.Name x p) [e] [] pos)) none pos2) (tRaise1 W (adr X.mg x) f ta) := by
  obtain ⟨fI, fd, iC, tI, F, b⟩ := M.i
  exact ⟨fun pins s σ H D I h => (ps_raise hc tk (pmk_oex (CX := L2.CX0) M.o iC tI F hr b .nil (fun _ _ _ _ _ _ _ z => z.elim) hg M.g ha hdb he hpl)).run pins s σ H D I h⟩
theorem g_raise1 {W : WX} {C : Addr} {f s : Str} {D : Ends} {σ : L2.St} {H : Hp} (hs : s.length ≤ 1000) (h : ∀ dx, H dx = none → W (.ref C) (some dx) σ (upd H dx (.xd [(f, .str s)]))) : tRaise1 W C f (tCons (tC (.str s)) tNil) D σ H := by
  refine ⟨by simp, fun a ha => ⟨a, s, rfl, hs, upd_same, fun dx hd hne => ⟨rfl, dx, [(f, .str s)], upd_same, by rw [upd_ne hne, upd_same], by rw [upd_ne hne] at hd; exact hd, ?_⟩⟩⟩
  rw [upd_ne hne] at hd
  have e : upd (del (upd (upd (upd H a (exo a C none)) dx (exd dx [(f, .str s)])) a (exo a C (some dx))) a) dx (.xd [(f, .str s)]) = upd H dx (.xd [(f, .str s)]) := by
    funext b
    by_cases h1 : b = dx
    · rw [h1, upd_same, upd_same]
    · rw [upd_ne h1, upd_ne h1]
      by_cases h2 : b = a
      · rw [h2, del_same, ha]
      · rw [del_ne h2, upd_ne h2, upd_ne h1, upd_ne h2]
  rw [e]
  exact h dx hd
section
variable {P : Program} {w : World} {K : PySem.W.Frag} {mg : Str → Option Value} {base : Heap}
theorem mkX1_of {x qual f : Str} {st : Stmt} {k : Nat} {N ps : List Str} (C : Cls1 K mg x qual st f) (hps : ps.length = 2) (S : FnScope N ps (defScope st))
    (hb : ∀ (kV doc pm : Value) (an : Option Addr) (cdv ct : Value) (us : List Value), us.length = ps.length → bindArgs (PySem.W.fnOf "__init__" qual (defArgs st) (defBody st) (defScope st) .none kV doc pm an cdv ct) ⟨us, []⟩ = pure (ps.zip us))
    (hbody : ∀ (fa : Addr) (cdv : Value) (A : Around) (outer : List Env) (s : Shared) (H : Hp) (a : Addr) (y : Str) (Q : VK) (E : XK), Room k (A.deeper (envOfC qual (defScope st) s.heap.objs.size fa cdv)) → y.length ≤ 1000 → H a = some (exo a (adr mg x) none) →
      (∀ dx, H dx = none → dx ≠ a → Q .non (upd (upd H dx (exd dx [(f, .str y)])) a (exo a (adr mg x) (some dx)))) →
      ∃ t, PSs (cxOf L2.CX0 P w K mg base N qual (defScope st) fa cdv A outer s H E).nox (defBody st) t ∧ t { nx := fun _ H' => Q .non H', rt := Q } (start N [.ref a, .str y]) H) : MkX1 P w K mg base (k + 1) x f ps := by
  obtain ⟨fI, fd, iC, tI, F⟩ := C.i
  refine ⟨C.g, C.o, fI, fd, iC, tI, F.ok S (fun vs H Q E ⟨a, y, e, _⟩ => by rw [e, hps]; rfl) fun cdv A outer s H vs Q E hr ⟨a, y, e, hy, h, q⟩ => ?_, F.binds hb⟩
  subst e
  exact hbody fI cdv A outer s H a y Q E hr hy h q
end
end Fl

set_option Elab.async false
set_option linter.all false
set_option maxRecDepth 100000
set_option maxHeartbeats 4000000
set_option exponentiation.threshold 20000
/-! own errors with two fields, numbers -/
namespace Fl
open PySem PySem.Spec PyProof.Rows L2
/-- an own error class, made with two numbers that it keeps as f and g -/
structure Cls2 (K : PySem.W.Frag) (mg : Str → Option Value) (x qual : Str) (st : Stmt) (f f2 : Str) : Prop where
  g : mg x = some (.ref (adr mg x))
  o : OexC K (adr mg x)
  n : PySem.W.findIn K (.ref (adr mg x)) f = some none
  m : PySem.W.findIn K (.ref (adr mg x)) f2 = some none
  r : XfC K (adr mg x)
  i : ∃ (fI : Addr) (fd : FuncData), PySem.W.findIn K (.ref (adr mg x)) "__init__" = some (some (.ref fI)) ∧ PySem.W.typeIn K (.ref fI) = some (.type "function") ∧ Fun K "__init__" qual st fI fd
def spIni2 (C : Addr) (f f2 : Str) : Sp := fun vs H Q _ => ∃ (a : Addr) (i j : Int), vs = [.ref a, .int i, .int j] ∧ i.natAbs < 10000 ∧ j.natAbs < 10000 ∧ H a = some (exo a C none) ∧ ∀ dx, H dx = none → dx ≠ a → Q .non (upd (upd (upd H dx (exd dx [(f, .int i)])) a (exo a C (some dx))) dx (exd dx [(f2, .int j), (f, .int i)]))
structure MkX2 (P : Program) (w : World) (K : PySem.W.Frag) (mg : Str → Option Value) (base : Heap) (k : Nat) (x f f2 : Str) (ps : List Str) : Prop where
  g : mg x = some (.ref (adr mg x))
  o : OexC K (adr mg x)
  i : ∃ (fI : Addr) (fd : FuncData), PySem.W.findIn K (.ref (adr mg x)) "__init__" = some (some (.ref fI)) ∧ PySem.W.typeIn K (.ref fI) = some (.type "function") ∧ FnOk P w K mg base L2.CX0 k fI fd ps (spIni2 (adr mg x) f f2) ∧ L2.Binds K fd ps []
def tRaise2 (W : WX) (C : Addr) (f f2 : Str) (ta : TA) : TS := fun _ σ H => tMkO C (spIni2 C f f2) [] ta σ H fun cls d H' => W cls d σ H'
theorem ps_raise2 {X : Cx} {W : WX} {k : Nat} {x f f2 : Str} {ps : List Str} {e e2 : Expr} {ta : TA} {p pos pos2 : Pos} (M : MkX2 X.prog X.w X.K X.mg X.base k x f f2 ps) (hc : X.calm = true) (hr : Room (k + 1) X.A) (tk : Takes X W) (ha : PA X [e, e2] ta) (hg : Gl X x := by rfl) (hdb : (x == ("__debug__" : Str)) = false := by decide)
    (he : starEach [e, e2] X.env = (false, eval e X.env) :: starEach [e2] X.env := by rfl) (hpl : (backTo pos (starEach [e2] X.env)).any (·.1) = false := by rfl) :
    PS X (.Raise (some (.Call (.Name x p) [e, e2] [] pos)) none pos2) (tRaise2 W (adr X.mg x) f f2 ta) := by
  obtain ⟨fI, fd, iC, tI, F, b⟩ := M.i
  exact ⟨fun pins s σ H D I h => (ps_raise hc tk (pmk_oex (CX := L2.CX0) M.o iC tI F hr b .nil (fun _ _ _ _ _ _ _ z => z.elim) hg M.g ha hdb he hpl)).run pins s σ H D I h⟩
theorem g_raise2 {W : WX} {C : Addr} {f f2 : Str} {i j : Int} {D : Ends} {σ : L2.St} {H : Hp} (hi : i.natAbs < 10000) (hj : j.natAbs < 10000) (h : ∀ dx, H dx = none → W (.ref C) (some dx) σ (upd H dx (.xd [(f2, .int j), (f, .int i)]))) : tRaise2 W C f f2 (tCons (tC (.int i)) (tCons (tC (.int j)) tNil)) D σ H := by
  refine ⟨by simp, fun a ha => ⟨a, i, j, rfl, hi, hj, upd_same, fun dx hd hne => ⟨rfl, dx, [(f2, .int j), (f, .int i)], by rw [upd_ne (Ne.symm hne), upd_same], upd_same, by rw [upd_ne hne] at hd; exact hd, ?_⟩⟩⟩
  rw [upd_ne hne] at hd
  have e : upd (del (upd (upd (upd (upd H a (exo a C none)) dx (exd dx [(f, .int i)])) a (exo a C (some dx))) dx (exd dx [(f2, .int j), (f, .int i)])) a) dx (.xd [(f2, .int j), (f, .int i)]) = upd H dx (.xd [(f2, .int j), (f, .int i)]) := by
    funext b
    by_cases h1 : b = dx
    · rw [h1, upd_same, upd_same]
    · rw [upd_ne h1, upd_ne h1]
      by_cases h2 : b = a
      · rw [h2, del_same, ha]
      · rw [del_ne h2, upd_ne h1, upd_ne h2, upd_ne h1, upd_ne h2]
  rw [e]
  exact h dx hd
section
variable {P : Program} {w : World} {K : PySem.W.Frag} {mg : Str → Option Value} {base : Heap}
theorem mkX2_of {x qual f f2 : Str} {st : Stmt} {k : Nat} {N ps : List Str} (C : Cls2 K mg x qual st f f2) (hps : ps.length = 3) (S : FnScope N ps (defScope st))
    (hb : ∀ (kV doc pm : Value) (an : Option Addr) (cdv ct : Value) (us : List Value), us.length = ps.length → bindArgs (PySem.W.fnOf "__init__" qual (defArgs st) (defBody st) (defScope st) .none kV doc pm an cdv ct) ⟨us, []⟩ = pure (ps.zip us))
    (hbody : ∀ (fa : Addr) (cdv : Value) (A : Around) (outer : List Env) (s : Shared) (H : Hp) (a : Addr) (i j : Int) (Q : VK) (E : XK), Room k (A.deeper (envOfC qual (defScope st) s.heap.objs.size fa cdv)) → i.natAbs < 10000 → j.natAbs < 10000 → H a = some (exo a (adr mg x) none) →
      (∀ dx, H dx = none → dx ≠ a → Q .non (upd (upd (upd H dx (exd dx [(f, .int i)])) a (exo a (adr mg x) (some dx))) dx (exd dx [(f2, .int j), (f, .int i)]))) →
      ∃ t, PSs (cxOf L2.CX0 P w K mg base N qual (defScope st) fa cdv A outer s H E).nox (defBody st) t ∧ t { nx := fun _ H' => Q .non H', rt := Q } (start N [.ref a, .int i, .int j]) H) : MkX2 P w K mg base (k + 1) x f f2 ps := by
  obtain ⟨fI, fd, iC, tI, F⟩ := C.i
  refine ⟨C.g, C.o, fI, fd, iC, tI, F.ok S (fun vs H Q E ⟨a, i, j, e, _⟩ => by rw [e, hps]; rfl) fun cdv A outer s H vs Q E hr ⟨a, i, j, e, hi, hj, h, q⟩ => ?_, F.binds hb⟩
  subst e
  exact hbody fI cdv A outer s H a i j Q E hr hi hj h q
end
/-- the reading of a field of the caught error -/
theorem g_xf {a C dd : Addr} {fs : List (Str × V)} {v : V} {f : Str} {i : Nat} {σ : L2.St} {H : Hp} {Q : VK} (h : σ[i]? = some (some (.ref a))) (hd : H dd = some (.xd fs)) (hl : fs.lookup f = some v) (q : Q v H) : tXf a (.ref C) (some dd) C f (tVar i) σ H Q := ⟨_, h, rfl, rfl, dd, fs, v, rfl, hd, hl, q⟩
end Fl

set_option Elab.async false
set_option linter.all false
set_option maxRecDepth 100000
set_option maxHeartbeats 4000000
set_option exponentiation.threshold 20000
/-! comprehensions that draw; fractions as data; lists taken apart; sorted -/
namespace Fl
open PySem PySem.Spec PyProof.Rows L2
section
variable {S X : List Addr} {H1 : Hp} {K : PySem.W.Frag}
/-- the list D at turn i of a comprehension whose steps change what stands at X and keep I -/
structure GenAt (S X : List Addr) (I : Hp → Prop) (Pr : PyData → Prop) (H1 : Hp) (D : Addr) (i : Nat) (H : Hp) : Prop where
  ex : ∃ (acc : List V) (rs : List PyData), H D = some (.lst acc) ∧ DqA (D :: S) H acc rs ∧ rs.length = i ∧ ∀ r, r ∈ rs → Pr r
  fr : Fr (D :: X) H1 H
  inv : I H
theorem lcG {n : Nat} {lo : Int} {j : Nat} {te : TE} {vs : List Nat} {σ : L2.St} {Q : VK} (X : List Addr) (I : Hp → Prop) (Pr : PyData → Prop) (hS : Al S H1) (hX : ∀ b, b ∈ X → b ∈ S) (hI : I H1) (hz : n < 1000)
    (hA : ∀ H, I H → Al X H) (hP : ∀ D H o, H1 D = none → I H → I (upd H D o))
    (step : ∀ (D : Addr) (i : Nat) (H : Hp), H1 D = none → i < n → Al (D :: S) H → I H →
      ∀ (R : V → Hp → Prop), (∀ y H' r, Fr X H H' → I H' → Dq (D :: S) H' y r → Pr r → R y H') →
      wipe ((wipe σ vs).set j (some (.int (lo + i)))) vs = wipe σ vs ∧ te ((wipe σ vs).set j (some (.int (lo + i)))) H R)
    (q : ∀ (D : Addr) (H : Hp) (rs : List PyData), Fr X H1 H → I H → H1 D = none → Dq S H (.ref D) (.list rs) → rs.length = n → (∀ r, r ∈ rs → Pr r) → Q (.ref D) H) :
    lcK (Itr lo n) (gName j) tYes te vs σ H1 Q := by
  unfold lcK
  intro D hD
  have hDX : D ∉ X := fun m => hS D (hX D m) hD
  refine lc_range (GenAt S X I Pr H1 D) ⟨⟨[], [], upd_same, .nil, rfl, fun _ m => nomatch m⟩, Fr.same (Fl.Same.new hD), hP D H1 _ hD hI⟩ ?_ ?_
  · intro i H hlt h
    obtain ⟨⟨acc, rs, hacc, hd, hl, hp⟩, hf, hi⟩ := h
    have hAl : Al (D :: S) H := .cons (by rw [hacc]; simp) (hS.fr hf fun b m => by
      rcases List.mem_cons.mp m with rfl | m
      · rw [hacc]; simp
      · exact hA H hi b m)
    have st := step D i H hD hlt hAl hi (fun y H4 => ∃ acc, H4 D = some (.lst acc) ∧ acc.length < sizeLine ∧ GenAt S X I Pr H1 D (i + 1) (upd H4 D (.lst (acc ++ [y])))) ?_
    · exact ⟨st.1, st.2⟩
    · intro y H' r f k dq hr
      have f' : Fr (D :: S) H H' := f.mono fun b m => List.mem_cons_of_mem _ (hX b m)
      refine ⟨acc, f D _ hDX hacc, ?_, ⟨acc ++ [y], rs ++ [r], upd_same, ?_, ?_, ?_⟩, ?_, ?_⟩
      · have := hd.len
        have : (1000 : Nat) ≤ sizeLine := by decide
        omega
      · exact ((hd.fr f').app (.one dq)).fr (Fr.upd (by simp))
      · rw [List.length_append, hl]
        rfl
      · intro p m
        rcases List.mem_append.mp m with m | m
        · exact hp p m
        · rw [show p = r by simpa using m]
          exact hr
      · exact (hf.trans (f.mono fun b m => List.mem_cons_of_mem _ m)).trans (Fr.upd (by simp))
      · exact hP D H' _ hD k
  · intro H h
    obtain ⟨⟨acc, rs, hacc, hd, hl, hp⟩, hf, hi⟩ := h
    refine q D H rs (fun b o n e => hf b o (fun m => ?_) e) hi hD (.lst (hS.ni hD) hacc hd.tail) hl hp
    rcases List.mem_cons.mp m with rfl | m
    · rw [hD] at e; cases e
    · exact n m
end
/-! fractions as data -/
def iq (n : Int) : Rat := Rat.divInt n 1
def fqD (x : Rat) : PyData := .tuple [.int x.num, .int (x.den : Int)]
theorem fqE {S : List Addr} {H : Hp} {v : V} {x : Rat} (h : Dq S H v (fqD x)) : ∃ a, v = .ref a ∧ a ∉ S ∧ H a = some (.tup [.int x.num, .int (x.den : Int)]) := by
  obtain ⟨a, xs, rfl, na, hx, hd⟩ := h.tupE
  obtain ⟨_, _, rfl, h1, hd⟩ := hd.consE
  obtain ⟨_, _, rfl, h2, hd⟩ := hd.consE
  cases hd.nilE
  cases h1.intE
  cases h2.intE
  exact ⟨a, rfl, na, hx⟩
theorem fqI {S : List Addr} {H : Hp} {a : Addr} {x : Rat} (n : a ∉ S) (q : H a = some (.tup [.int x.num, .int (x.den : Int)])) : Dq S H (.ref a) (fqD x) := .tup n q (.cons (.int _) (.cons (.int _) .nil))
theorem eqf_app {K : PySem.W.Frag} {a b : Addr} {x y : Rat} {H : Hp} {Q : VK} (h1 : RV K H a x) (h2 : RV K H b y) (q : Q (.bl (decide (x = y))) H) : rEqD K (.ref a) (.ref b) H Q := by
  have d1 : ∀ {a : Addr} {x : Rat}, RV K H a x → Dp K H (.ref a) (.tuple [.int x.num, .int x.den]) := fun h => .tup h (.cons (.int _) (.cons (.int _) .nil))
  refine ⟨_, _, d1 h1, d1 h2, rfl, rfl, ?_⟩
  by_cases e : x = y
  · subst e
    have e2 : PyData.eqv (.tuple [.int x.num, .int x.den]) (.tuple [.int x.num, .int x.den]) = true := SeqAt.eqv_refl _ rfl
    rw [e2]
    simpa using q
  · have e2 : PyData.eqv (.tuple [.int x.num, .int x.den]) (.tuple [.int y.num, .int y.den]) = false := by
      cases hb : PyData.eqv (.tuple [.int x.num, .int x.den]) (.tuple [.int y.num, .int y.den]) with
      | false => rfl
      | true =>
        exfalso
        apply e
        simp [PyData.eqv, PyData.eqvAll] at hb
        exact Rat.ext hb.1 (by omega)
    rw [e2]
    simpa [e] using q
/-! [ratio(n) for n in a tuple of integers] -/
theorem lcT {K : PySem.W.Frag} {H1 : Hp} {a : Addr} {ns : List Int} {j : Nat} {te : TE} {vs : List Nat} {σ : L2.St} {Q : VK} (ha : SqT K H1 a (ns.map V.int)) (hz : ns.length < 1000)
    (step : ∀ (D : Addr) (i : Nat) (n : Int) (H : Hp), H1 D = none → ns[i]? = some n → Same H1 H →
      ∀ (R : V → Hp → Prop), (∀ t H', H t = none → Same H H' → RV K H' t (iq n) → R (.ref t) H') →
      wipe ((wipe σ vs).set j (some (.int n))) vs = wipe σ vs ∧ te ((wipe σ vs).set j (some (.int n))) H R)
    (q : ∀ (D : Addr) (H : Hp) (ts : List Addr), Same H1 H → H D = some (.lst (ts.map V.ref)) → ts.length = ns.length → (∀ (k : Nat) (t : Addr) (n : Int), ts[k]? = some t → ns[k]? = some n → RV K H t (iq n)) → Q (.ref D) H) :
    lcK (Itt K a) (gName j) tYes te vs σ H1 Q := by
  unfold lcK
  intro D hD
  refine lc_tup (xs := ns.map V.int) (fun i H => (∃ ts : List Addr, H D = some (.lst (ts.map V.ref)) ∧ ts.length = i ∧ ∀ (k : Nat) (t : Addr) (n : Int), ts[k]? = some t → ns[k]? = some n → t ≠ D ∧ RV K H t (iq n)) ∧ Fr [D] H1 H) ⟨⟨[], upd_same, rfl, fun k t n h => by simp at h⟩, Fr.same (Fl.Same.new hD)⟩ ?_ ?_ ?_
  · intro i H _ ⟨_, hf⟩
    exact Fl.Same.t (sm_of hD hf) ha
  · intro i x H hx ⟨⟨ts, hts, hl, hr⟩, hf⟩
    have hlt : i < ns.length := by
      have := (List.getElem?_eq_some_iff.mp hx).1
      simpa using this
    rw [List.getElem?_map] at hx
    cases hn : ns[i]? with
    | none => rw [hn] at hx; cases hx
    | some n =>
      rw [hn] at hx
      cases hx
      have st := step D i n H hD hn (sm_of hD hf) (fun y H4 => ∃ acc, H4 D = some (.lst acc) ∧ acc.length < sizeLine ∧ ((∃ ts : List Addr, (upd H4 D (.lst (acc ++ [y]))) D = some (.lst (ts.map V.ref)) ∧ ts.length = i + 1 ∧ ∀ (k : Nat) (t : Addr) (n : Int), ts[k]? = some t → ns[k]? = some n → t ≠ D ∧ RV K (upd H4 D (.lst (acc ++ [y]))) t (iq n)) ∧ Fr [D] H1 (upd H4 D (.lst (acc ++ [y]))))) ?_
      · exact ⟨st.1, st.2⟩
      · intro t H' ht sm rv
        have htD : t ≠ D := fun e => by rw [e, hts] at ht; cases ht
        refine ⟨ts.map V.ref, sm _ _ hts, ?_, ⟨ts ++ [t], ?_, ?_, ?_⟩, ?_⟩
        · have : (1000 : Nat) ≤ sizeLine := by decide
          rw [List.length_map]
          omega
        · rw [upd_same, List.map_append]
          rfl
        · rw [List.length_append, hl]
          rfl
        · intro k u m hk hm
          by_cases hki : k < ts.length
          · rw [List.getElem?_append_left hki] at hk
            obtain ⟨g1, g2⟩ := hr k u m hk hm
            exact ⟨g1, RV.ex1 Ex1.upd g1 (g2.same sm)⟩
          · rw [List.getElem?_append_right (by omega)] at hk
            have hk0 : k - ts.length = 0 := by
              have := (List.getElem?_eq_some_iff.mp hk).1
              simp at this
              omega
            rw [hk0] at hk
            cases hk
            have : k = i := by omega
            rw [this, hn] at hm
            cases hm
            exact ⟨htD, RV.ex1 Ex1.upd htD rv⟩
        · exact (hf.trans (Fr.same sm)).trans (Fr.upd (by simp))
  · intro H ⟨⟨ts, hts, hl, hr⟩, hf⟩
    rw [List.length_map] at hl
    exact q D H ts (sm_of hD hf) hts hl (fun k t n h1 h2 => (hr k t n h1 h2).2)
/-! a, b, .. = a list -/
theorem pgL {X : Cx} {K : PySem.W.Frag} {es : List Expr} {j : Nat} {t : TGs} {n : Nat} {pos : Pos} (e : X.K = K) (hc : X.calm = true) (h : PGs X es t)
    (hn : (assignEach es X.env).length = n := by rfl) (hst : (assignEach es X.env).findIdx? (·.1) = none := by rfl) : PG X (.Tuple es j pos) (gLst K n t) := by subst e; exact pg_lst hc h hn hst
theorem g_glst {K : PySem.W.Frag} {n : Nat} {t : TGs} {a : Addr} {xs : List V} {σ : L2.St} {H : Hp} {Q : L2.St → Hp → Prop} (h : SqL K H a xs) (e : xs.length = n) (q : t xs σ H Q) : gLst K n t (.ref a) σ H Q := ⟨a, xs, rfl, h, e, q⟩
/-! sorted of a few integers -/
theorem clSort {X : Cx} {K : PySem.W.Frag} (e : X.K = K) : CallR X (.builtin "sorted") (rSorted K) := by subst e; exact cr_sorted
theorem g_sort {K : PySem.W.Frag} {a : Addr} {ns : List Int} {H : Hp} {Q : VK} (h : SqL K H a (ns.map V.int)) (hz : ns.length < 64) (q : ∀ (ns' : List Int) (p : Addr), ns'.Perm ns → ns'.Pairwise (· ≤ ·) → H p = none → Q (.ref p) (upd H p (.lst (ns'.map V.int)))) : rSorted K [.ref a] H Q := ⟨a, ns, rfl, h, hz, q⟩
theorem sort3 {ns : List Int} {a b c lo hi : Int} (hp : ns.Perm [a, b, c]) (hs : ns.Pairwise (· ≤ ·)) (ha : lo ≤ a ∧ a ≤ hi) (hb : lo ≤ b ∧ b ≤ hi) (hc : lo ≤ c ∧ c ≤ hi) : ∃ x y z, ns = [x, y, z] ∧ lo ≤ x ∧ x ≤ y ∧ y ≤ z ∧ z ≤ hi := by
  have hl := hp.length_eq
  match ns, hl with
  | [x, y, z], _ =>
    have hx : ∀ v, v ∈ [x, y, z] → lo ≤ v ∧ v ≤ hi := fun v m => by
      have := hp.mem_iff.mp m
      simp at this
      rcases this with rfl | rfl | rfl <;> assumption
    have h1 := hx x (by simp)
    have h3 := hx z (by simp)
    simp at hs
    exact ⟨x, y, z, rfl, h1.1, hs.1.1, hs.2, h3.2⟩
end Fl

set_option Elab.async false
set_option linter.all false
set_option maxRecDepth 100000
set_option maxHeartbeats 4000000
/-! draws: a list of integers, from whose end numbers are taken -/
namespace Fl
open PySem PySem.Spec PyProof.Rows L2
def Dw (d : Addr) (H : Hp) : Prop := ∃ zs : List Int, H d = some (.lst (zs.map V.int)) ∧ zs.length ≤ 10000
theorem Dw.hd {d : Addr} {H : Hp} (h : Dw d H) : H d ≠ none := by
  obtain ⟨zs, e, _⟩ := h
  rw [e]
  simp
theorem Dw.put {d D : Addr} {H : Hp} {o : HO} (h : Dw d H) (n : D ≠ d) : Dw d (upd H D o) := by
  obtain ⟨zs, e, b⟩ := h
  exact ⟨zs, by rw [upd_ne n.symm]; exact e, b⟩
theorem Dw.newH {d p : Addr} {H : Hp} {o : HO} (e : H p = none) (h : Dw d H) : Dw d (upd H p o) := h.put fun k => h.hd (k ▸ e)
theorem Dw.sm {d : Addr} {H H' : Hp} (s : Same H H') (h : Dw d H) : Dw d H' := by
  obtain ⟨zs, e, b⟩ := h
  exact ⟨zs, s _ _ e, b⟩
theorem Dw.fr {d : Addr} {H H' : Hp} {S : List Addr} (s : Fr S H H') (n : d ∉ S) (h : Dw d H) : Dw d H' := by
  obtain ⟨zs, e, b⟩ := h
  exact ⟨zs, s _ _ n e, b⟩
theorem Dw.ned {d p : Addr} {H : Hp} (e : H p = none) (h : Dw d H) : p ≠ d := fun k => h.hd (k ▸ e)
def spDws (K : PySem.W.Frag) : Sp := fun vs H Q _ => ∃ (a : Addr) (ns : List Int), vs = [.ref a] ∧ SqL K H a (ns.map V.int) ∧ ns.length ≤ 63 ∧ ∀ d H', Same H H' → H d = none → Dw d H' → Q (.ref d) H'
theorem dws_app {K : PySem.W.Frag} {a : Addr} {ns : List Int} {H : Hp} {Q : VK} {E : XK} (h : SqL K H a (ns.map V.int)) (hl : ns.length ≤ 63) (q : ∀ d H', Same H H' → H d = none → Dw d H' → Q (.ref d) H') : spDws K [.ref a] H Q E := ⟨a, ns, rfl, h, hl, q⟩
def spTk : Sp := fun vs H Q _ => ∃ (d : Addr) (m : Int), vs = [.ref d, .int m] ∧ Dw d H ∧ 0 < m ∧ ∀ v H', 0 ≤ v → v < m → Dw d H' → On d H H' → Q (.int v) H'
theorem tk_app {d : Addr} {m : Int} {H : Hp} {Q : VK} {E : XK} (h : Dw d H) (hm : 0 < m) (q : ∀ v H', 0 ≤ v → v < m → Dw d H' → On d H H' → Q (.int v) H') : spTk [.ref d, .int m] H Q E := ⟨d, m, rfl, h, hm, q⟩
theorem Same.updN {H H' : Hp} {D : Addr} {o : HO} (hD : H D = none) (h : Same H H') : Same H (upd H' D o) := fun b u e => by
  rw [upd_ne (fun k => by rw [k, hD] at e; cases e)]
  exact h b u e
theorem g_appB {l : Addr} {xs : List V} {y : V} {H : Hp} {Q : VK} (h : H l = some (.lst xs)) (hz : xs.length < 100000) (q : Q .non (upd H l (.lst (xs ++ [y])))) : rAppend (.ref l) [y] H Q := ⟨l, xs, y, rfl, rfl, h, Nat.lt_of_lt_of_le hz (by decide), q⟩
theorem g_bm0 {K : PySem.W.Frag} {T : String} {r : V → List V → Hp → VK → Prop} {to : TE} {σ : L2.St} {H : Hp} {Q : VK} (h : to σ H fun x H1 => tyV K T x H1 ∧ r x [] H1 Q) : tBM0 K T r to σ H Q := h
theorem g_pop {l : Addr} {xs : List V} {y : V} {H : Hp} {Q : VK} (h : H l = some (.lst xs)) (hy : xs[xs.length - 1]? = some y) (q : Q y (upd H l (.lst xs.dropLast))) : rPop (.ref l) [] H Q := ⟨l, xs, y, rfl, rfl, h, hy, q⟩
/-- more integers behind a list of integers -/
theorem ints_snoc {zs : List Int} {z : Int} : zs.map V.int ++ [V.int z] = (zs ++ [z]).map V.int := by simp
theorem picks {α : Type} {f : α → PyData} {Pr : α → Prop} : ∀ {rs : List PyData}, (∀ r, r ∈ rs → ∃ p, r = f p ∧ Pr p) → ∃ ps : List α, rs = ps.map f ∧ ∀ p, p ∈ ps → Pr p
  | [], _ => ⟨[], rfl, fun _ m => nomatch m⟩
  | r :: rs, h => by
    obtain ⟨p, e, hp⟩ := h r (by simp)
    subst e
    obtain ⟨ps, e, hps⟩ := picks (rs := rs) fun r m => h r (by simp [m])
    subst e
    exact ⟨p :: ps, rfl, fun q m => by
      rcases List.mem_cons.mp m with rfl | m
      · exact hp
      · exact hps q m⟩
section
variable {S : List Addr} {H1 : Hp} {K : PySem.W.Frag} {g : TG} {tt : TT} {te : TE} {vs : List Nat} {σ : L2.St} {Q : VK}
/-- [elt for i, x in enumerate(list) if test], nothing changed -/
theorem lcE {a : Addr} {xs : List V} (f : Nat → Option PyData) (hS : Al S H1) (ha : H1 a = some (.lst xs)) (hz : xs.length < 1000)
    (step : ∀ (D : Addr) (i : Nat) (x : V) (T : Addr) (H : Hp), H1 D = none → xs[i]? = some x → Same H1 H → Al (D :: S) H → H T = none →
      ∀ (R : V → Hp → Prop) (N : Hp → Prop), (∀ r y H4, f i = some r → Same (upd H T (.tup [.int (i : Nat), x])) H4 → Dq (D :: S) H4 y r → R y H4) → (f i = none → ∀ H4, Same (upd H T (.tup [.int (i : Nat), x])) H4 → N H4) →
      g (.ref T) (wipe σ vs) (upd H T (.tup [.int (i : Nat), x])) fun σ2 H2 => wipe σ2 vs = wipe σ vs ∧ tt σ2 H2 fun b H3 => if b = true then te σ2 H3 R else N H3)
    (q : ∀ (D : Addr) (H : Hp), Same H1 H → H1 D = none → Dq S H (.ref D) (.list ((List.range xs.length).filterMap f)) → Q (.ref D) H) :
    lcK (Ite K a) g tt te vs σ H1 Q := by
  unfold lcK
  intro D hD
  have hDa : a ≠ D := fun e => by rw [e, hD] at ha; cases ha
  refine lc_it (walk_enum (xs := xs)) (CompAt S H1 D f) (CompAt.zero hD) ?_ ?_ ?_
  · intro i H _ h
    exact SqL.of (h.fr a _ (by simpa using hDa) ha)
  · intro i x H H' hi h ⟨T, y, z, e1, hT, e2, e3, e4⟩
    subst e1 e2
    cases e3
    have hsm : Same H1 H := sm_of hD h.fr
    exact step D i z T H hD e4 hsm (h.al hS hD) hT _ _ (fun r y H4 er s d => h.put (by omega) er ((Fl.Same.new hT).trans s) d) fun en H4 s => (h.same ((Fl.Same.new hT).trans s)).skip en
  · intro H h
    exact q D H (sm_of hD h.fr) hD (h.fin hS hD)
/-- [test for x in dict.values()] -/
theorem lcVT {d : Addr} {od : Obj} {kvs : List (Key × V)} {j : Nat} (p : Nat → Bool) (hd : H1 d = some (.frz od (.dK kvs))) (hz : kvs.length < 1000)
    (step : ∀ (D : Addr) (i : Nat) (k : Key) (x : V) (H : Hp), H1 D = none → kvs[i]? = some (k, x) → Same H1 H → ∀ (R : V → Hp → Prop), R (.bl (p i)) H →
      wipe ((wipe σ vs).set j (some x)) vs = wipe σ vs ∧ te ((wipe σ vs).set j (some x)) H R)
    (q : ∀ (D : Addr) (H : Hp), Same H1 H → H1 D = none → H D = some (.lst (((List.range kvs.length).map p).map V.bl)) → Q (.ref D) H) :
    lcK (Itd d od kvs) (gName j) tYes te vs σ H1 Q := by
  unfold lcK
  intro D hD
  have hDd : d ≠ D := fun e => by rw [e, hD] at hd; cases hd
  refine lc_it (walk_values (kvs := kvs)) (fun i H => H D = some (.lst (((List.range i).map p).map V.bl)) ∧ Fr [D] H1 H) ⟨upd_same, Fr.same (Fl.Same.new hD)⟩ ?_ ?_ ?_
  · intro i H _ h
    exact h.2 d _ (by simpa using hDd) hd
  · intro i x H H' hi ⟨h1, h2⟩ ⟨e1, k, e2⟩
    subst e1
    have st := step D i k x H' hD e2 (sm_of hD h2) (fun y H4 => ∃ acc, H4 D = some (.lst acc) ∧ acc.length < sizeLine ∧ ((upd H4 D (.lst (acc ++ [y]))) D = some (.lst (((List.range (i + 1)).map p).map V.bl)) ∧ Fr [D] H1 (upd H4 D (.lst (acc ++ [y]))))) ?_
    · exact ⟨st.1, st.2⟩
    · refine ⟨_, h1, ?_, ?_, h2.trans (Fr.upd (by simp))⟩
      · have : (1000 : Nat) ≤ sizeLine := by decide
        rw [List.length_map, List.length_map, List.length_range]
        omega
      · rw [upd_same, List.range_succ, List.map_append, List.map_append]
        rfl
  · intro H ⟨h1, h2⟩
    exact q D H (sm_of hD h2) hD h1
end
theorem g_lockE {t : TE} {σ : L2.St} {H : Hp} {Q : VK} {d : Addr} {u : HO} (h : H d = some u) (m : Mut (some u)) (q : ∀ od, t σ (upd H d (.frz od u)) fun v H' => H' d = some (.frz od u) ∧ Q v (upd H' d u)) : tLockE t σ H Q := ⟨d, u, h, m, q⟩
theorem same_lock {H G : Hp} {d : Addr} {u w : HO} (h : H d = some u) (s : Same (upd H d w) G) : Same H (upd G d u) := fun b o e => by
  by_cases n : b = d
  · subst n
    rw [upd_same]
    rw [h] at e
    exact e
  · rw [upd_ne n]
    exact s b o (by rw [upd_ne n]; exact e)
theorem g_ivals {td : TE} {σ : L2.St} {H : Hp} {R : It → Hp → Prop} (h : td σ H fun x H1 => ∃ d o kvs, x = V.ref d ∧ H1 d = some (.frz o (.dK kvs)) ∧ R (Itd d o kvs) H1) : iVals td σ H R := h
theorem ixN_nat {n a : Nat} (h : a < n) : ixN n (a : Int) = some a := by
  unfold ixN
  simp [h]
theorem take_snoc {α : Type} {l : List α} {i : Nat} {x : α} (h : l[i]? = some x) : l.take (i + 1) = l.take i ++ [x] := by
  rw [List.take_add_one, h]
  rfl
end Fl

set_option Elab.async false
set_option linter.all false
set_option maxRecDepth 100000
set_option maxHeartbeats 4000000
/-! a dict of the written part whose keys are tuples of integers: d.get(k) -/
namespace Fl
open PySem PySem.Spec PyProof.Rows L2
/-- at a the written dict with these keys (each with its address) and values -/
structure KTup (K : PySem.W.Frag) (P : Program) (w : World) (a : Addr) (xs : List (List Int × Addr × Value)) : Prop where
  at_ : ∃ es n, K.lookup a = some ⟨.type "dict", none, .dict es n, #[]⟩ ∧ es.toList = xs.map (entryOfKey (TK P w))
  key : ∀ x, x ∈ xs → ∀ H : Hp, SqT K H x.2.1 (x.1.map V.int)
  nd : (xs.map (·.1)).Nodup
  ns : (a == sysModules) = false
def tDGetKT (K : PySem.W.Frag) (P : Program) (w : World) (td ty : TE) : TE := fun σ H Q => td σ H fun x H1 => ∃ a xs, x = .ref a ∧ KTup K P w a xs ∧ ty σ H1 fun y H2 => ∃ b k v, y = .ref b ∧ SqT K H2 b (k.map V.int) ∧ RelV v (((atKey xs k).map (·.2)).getD .none) ∧ Q v H2
section
variable {X : Cx} {pins : List (Addr × Obj)} {σ : L2.St} {H : Hp} {s : Shared} {a b : Addr} {A : Around} {E : Value → Shared → Prop} {xs : List (List Int × Addr × Value)} {k : List Int}
theorem KTup.of (h : KTup X.K X.prog X.w a xs) (I : Inv X pins σ H s) : s.heap.DictOfH (TK X.prog X.w) a xs := by
  obtain ⟨⟨es, n, hl, he⟩, hk, hn, _⟩ := h
  exact ⟨_, es, n, I.kIn _ _ hl, ⟨rfl, rfl, rfl⟩, rfl, he, fun x hx => I.isT (hk x hx H), hn⟩
theorem pe_dgetKT {o e : Expr} {apos cpos : Pos} {td ty : TE} (hu : X.A.units + 1 < cLine) (ho : PE X o td) (he : PE X e ty) (m : M1 X o "get" apos e cpos) : PE X (.Call (.Attribute o "get" apos) [e] [] cpos) (tDGetKT X.K X.prog X.w td ty) := by
  refine ⟨fun pins s σ H Q I h => ?_⟩
  refine wpAny_Call_method m.base m.few m.line PySem.F.plainAttrs_dict PySem.F.slot_dict_get PySem.F.type_dict_get (thn (ho.run pins s σ H _ I h) fun u s1 ⟨x, H1, I1, rx, a, xs, ex, d, q1⟩ => ?_)
  subst ex
  obtain rfl : u = Value.ref a := rx
  have dd := d.of I1
  refine ⟨dd.typeIs, fun b q => ?_, ?_⟩
  · cases q
    obtain ⟨ob, _, _, h1, h2, _⟩ := dd
    exact ⟨ob, h1, h2.2.1⟩
  rw [m.trees]
  refine Calls.callWith_builtin rfl (Calls.evalArgs_plain (Calls.spliced_cons (thn (he.run pins s1 σ H1 _ I1 q1) fun iv s2 ⟨y, H2, I2, ry, b, k, v, ey, hb, rv, q2⟩ => Calls.spliced_nil ?_)))
  subst ey
  obtain rfl : iv = Value.ref b := ry
  have dd2 := d.of I2
  exact call_meetsIn PySem.F.slot_dict_get dd2.typeIs PySem.F.entry_dict_get (PySem.F.args_dict_get_2 _ _) (meetsH_dict_get (TK X.prog X.w) a b d.ns) ⟨tupleKind_room_in1 hu, k, xs, I2.isT hb, dd2, ⟨_, H2, I2.tok _, rv, q2⟩⟩
end
/-- the same where the context is a def's -/
theorem pe_dgetKT' {X : Cx} {K : PySem.W.Frag} {P : Program} {w : World} {o e : Expr} {apos cpos : Pos} {td ty : TE} (e1 : X.K = K) (e2 : X.prog = P) (e3 : X.w = w) (hu : X.A.units + 1 < cLine) (ho : PE X o td) (he : PE X e ty) (m : M1 X o "get" apos e cpos) : PE X (.Call (.Attribute o "get" apos) [e] [] cpos) (tDGetKT K P w td ty) := by
  subst e1 e2 e3
  exact pe_dgetKT hu ho he m
theorem g_dgKT {K : PySem.W.Frag} {P : Program} {w : World} {td ty : TE} {σ : L2.St} {H : Hp} {Q : VK} (h : td σ H fun x H1 => ∃ a xs, x = .ref a ∧ KTup K P w a xs ∧ ty σ H1 fun y H2 => ∃ b k v, y = .ref b ∧ SqT K H2 b (k.map V.int) ∧ RelV v (((atKey xs k).map (·.2)).getD .none) ∧ Q v H2) : tDGetKT K P w td ty σ H Q := h
end Fl

set_option Elab.async false
set_option linter.all false
set_option maxRecDepth 100000
set_option maxHeartbeats 4000000
/-! straight code: its rows, when it is correct -/
namespace Fl
open PySem PySem.Spec PyProof.Rows L2
/-- a call without arguments -/
theorem pe_h0 {X : Cx} {k : Nat} {x : Str} {sp : Sp} {p pos : Pos} (h : Has X.prog X.w X.K X.mg X.base k x [] sp) (hr : Room k X.A) (hg : Gl X x := by rfl) (hdb : (x == ("__debug__" : Str)) = false := by decide) :
    PE X (.Call (.Name x p) [] [] pos) (tCall sp [] E0 tNil) := by
  obtain ⟨f, fd, a, b, c, d⟩ := h.ex
  exact pe_call0 a hr hg b c d .nil pass0 hdb
theorem opCatT {X : Cx} {K : PySem.W.Frag} (e : X.K = K) : OpR X (binaryOp .Add) (rCatT K) := by subst e; exact op_catT
abbrev Rw := Str × List Int
def rwD (r : Rw) : PyData := .tuple (.str r.1 :: r.2.map .int)
def coD (c : List Rw) : PyData := .list (c.map rwD)
theorem ints_dq {S : List Addr} {H : Hp} : ∀ {ns : List Int}, DqA S H (ns.map V.int) (ns.map PyData.int)
  | [] => .nil
  | n :: ns => .cons (.int n) (ints_dq (ns := ns))
theorem rwE {S : List Addr} {H : Hp} {v : V} {r : Rw} (h : Dq S H v (rwD r)) : ∃ a, v = .ref a ∧ a ∉ S ∧ H a = some (.tup (.str r.1 :: r.2.map V.int)) := by
  obtain ⟨a, xs, rfl, n, q, h⟩ := h.tupE
  obtain ⟨v, ws, rfl, hv, h2⟩ := h.consE
  cases hv
  rw [ints_of h2] at q
  exact ⟨a, rfl, n, q⟩
theorem rwI {S : List Addr} {H : Hp} {a : Addr} {r : Rw} (n : a ∉ S) (h : H a = some (.tup (.str r.1 :: r.2.map V.int))) : Dq S H (.ref a) (rwD r) := .tup n h (.cons (.str _) ints_dq)
def stL (l : List String) : List Str := l.map Str.ofString
def tabF : List (Str × List Str) := List.map (fun (p : String × List String) => (Str.ofString p.1, stL p.2)) [("push", ["place", "number"]), ("size", ["place"]), ("take", ["place", "place"]), ("jump", ["skip"]), ("jumpzero", ["place", "skip"]), ("jumpsmall", ["place", "number", "skip"]), ("end", ["many"])]
def tabW : List (Str × List Int) := List.map (fun (p : String × List Int) => (Str.ofString p.1, p.2)) [("push", [0, 1]), ("drop", [1, 0]), ("copy", [1, 2]), ("swap", [2, 2]), ("add", [2, 1]), ("subtract", [2, 1]), ("multiply", [2, 1]), ("divide", [2, 1]), ("negate", [1, 1]), ("amount", [1, 1]), ("lesser", [2, 1]), ("greater", [2, 1]), ("down", [1, 1]), ("up", [1, 1]), ("round", [1, 1]), ("less", [2, 1]), ("atmost", [2, 1]), ("equal", [2, 1]), ("not", [1, 1]), ("and", [2, 1]), ("or", [2, 1]), ("look", [0, 0]), ("go", [0, 0]), ("mode", [0, 0]), ("value", [1, 1]), ("load", [1, 1]), ("setvalue", [2, 0]), ("save", [2, 0]), ("get", [1, 1]), ("origin", [1, 1]), ("move", [2, 0]), ("set", [2, 0]), ("align", [2, 0]), ("between", [0, 0]), ("jump", [0, 0]), ("jumpzero", [1, 0]), ("call", [0, 0]), ("repeat", [1, 0]), ("size", [0, 1])]
def tabB : List (List Int × List Str) := List.map (fun (p : List Int × List String) => (p.1, stL p.2)) [([1, 1], ["place", "place"]), ([2, 1], ["place", "place", "place"]), ([2, 0], ["place", "place"]), ([0, 0], ["number"])]
def callsW : List Str := stL ["call", "repeat"]
def skW : List Str := stL ["jump", "jumpzero", "jumpsmall"]
def allW : List Str := stL ["push", "size", "take", "jump", "jumpzero", "jumpsmall", "end", "drop", "copy", "swap", "add", "subtract", "multiply", "divide", "negate", "amount", "lesser", "greater", "down", "up", "round", "less", "atmost", "equal", "not", "and", "or", "look", "go", "mode", "value", "load", "setvalue", "save", "get", "origin", "move", "set", "align", "between", "call", "repeat", "nothing"]
def fo (w : Str) : Option (List Str) := match tabF.lookup w with
  | some ks => some ks
  | none => match tabW.lookup w with
    | none => none
    | some p => if w ∈ callsW then none else tabB.lookup p
def argOk (k : Str) (n : Int) : Bool := if k = "place" then decide (0 ≤ n ∧ n < 64) else if k = "many" then decide (0 ≤ n ∧ n ≤ 64) else decide (k = "number") || decide (0 ≤ n)
def formed (r : Rw) : Bool := match fo r.1 with
  | none => false
  | some ks => decide (r.2.length = ks.length) && (List.zipWith (fun n k => argOk k n) r.2 ks).all id
def lastN (r : Rw) : Int := r.2.getLast?.getD 0
def rowA (r : Rw) (i last : Int) : Bool := formed r && (decide (r.1 = "end") == decide (i = last)) && !(decide (r.1 ∈ skW) && decide (lastN r > last - i - 1))
def isC (c : List Rw) : Bool := decide (1 ≤ c.length ∧ c.length ≤ 20000) && (List.range c.length).all fun i => rowA (c.getD i ("", [])) i ((c.length : Int) - 1)
theorem walk_zipT {K : PySem.W.Frag} {a b : Addr} {xs ys : List V} {n : Nat} (hn : n = min xs.length ys.length) : Walk (RZ.ItzT K a b) n (fun H => SqT K H a xs ∧ SqT K H b ys) (YPair (fun i => xs[i]?) (fun i => ys[i]?)) := by
  have le1 : n ≤ xs.length := by omega
  have le2 : n ≤ ys.length := by omega
  constructor
  · intro j G hj hlt
    exact ⟨xs, ys, _, _, hlt.1, hlt.2, List.getElem?_eq_getElem (Nat.lt_of_lt_of_le hj le1), List.getElem?_eq_getElem (Nat.lt_of_lt_of_le hj le2)⟩
  · intro G hq
    exact ⟨xs, ys, hq.1, hq.2, by omega⟩
  · intro j G v G' _ hq hy
    obtain ⟨pr, u, z, ev, eG, ep, fu, fz⟩ := hy
    exact ⟨pr, u, z, ev, eG, ep, fu _ hq.1, fz _ hq.2⟩
/-- [elt for x, y in zip(tuple, tuple) if test], nothing changed -/
theorem lcZT {S : List Addr} {H1 : Hp} {K : PySem.W.Frag} {g : TG} {tt : TT} {te : TE} {vs : List Nat} {σ : L2.St} {Q : VK} {a b : Addr} {xs ys : List V} (f : Nat → Option PyData) (hS : Al S H1) (ha : SqT K H1 a xs) (hb : SqT K H1 b ys) (hl : xs.length = ys.length) (hz : xs.length < 1000)
    (step : ∀ (D : Addr) (i : Nat) (x y : V) (T : Addr) (H : Hp), H1 D = none → xs[i]? = some x → ys[i]? = some y → Same H1 H → Al (D :: S) H → H T = none →
      ∀ (R : V → Hp → Prop) (N : Hp → Prop), (∀ r z H4, f i = some r → Same (upd H T (.tup [x, y])) H4 → Dq (D :: S) H4 z r → R z H4) → (f i = none → ∀ H4, Same (upd H T (.tup [x, y])) H4 → N H4) →
      g (.ref T) (wipe σ vs) (upd H T (.tup [x, y])) fun σ2 H2 => wipe σ2 vs = wipe σ vs ∧ tt σ2 H2 fun b H3 => if b = true then te σ2 H3 R else N H3)
    (q : ∀ (D : Addr) (H : Hp), Same H1 H → H1 D = none → Dq S H (.ref D) (.list ((List.range xs.length).filterMap f)) → Q (.ref D) H) :
    lcK (RZ.ItzT K a b) g tt te vs σ H1 Q := by
  unfold lcK
  intro D hD
  refine lc_it (walk_zipT (xs := xs) (ys := ys) (n := xs.length) (by omega)) (CompAt S H1 D f) (CompAt.zero hD) ?_ ?_ ?_
  · intro i H _ h
    exact ⟨Fl.Same.t (sm_of hD h.fr) ha, Fl.Same.t (sm_of hD h.fr) hb⟩
  · intro i x H H' hi h ⟨T, y, z, e1, hT, e2, e3, e4⟩
    subst e1 e2
    have hsm : Same H1 H := sm_of hD h.fr
    exact step D i y z T H hD e3 e4 hsm (h.al hS hD) hT _ _ (fun r y H4 er s d => h.put (by omega) er ((Fl.Same.new hT).trans s) d) fun en H4 s => (h.same ((Fl.Same.new hT).trans s)).skip en
  · intro H h
    exact q D H (sm_of hD h.fr) hD (h.fin hS hD)
theorem bools_of {S : List Addr} {H : Hp} : ∀ {L : List Bool} {xs : List V}, DqA S H xs (L.map PyData.bool) → xs = L.map V.bl
  | [], xs, h => h.nilE
  | b :: L, xs, h => by
    obtain ⟨v, ws, rfl, hv, h⟩ := h.consE
    rw [hv.blE, bools_of h]
    rfl
theorem g_slTF {K : PySem.W.Frag} {a : Addr} {xs : List V} {k : Nat} {H : Hp} {Q : VK} (h : SqT K H a xs) (hk : 0 < k) (hx : xs ≠ []) (q : ∀ p, H p = none → Q (.ref p) (upd H p (.tup (xs.drop k)))) : rSlT K (.ref a) (some (k : Int)) none H Q := by
  refine g_slT h (fun z => ?_) (by rw [cut_from]; exact q)
  have e := z.1
  rw [HT.sIx_nat] at e
  have : 0 < xs.length := List.length_pos_iff.mpr hx
  omega
theorem g_slTT {K : PySem.W.Frag} {a : Addr} {xs : List V} {k : Nat} {H : Hp} {Q : VK} (h : SqT K H a xs) (hk : k < xs.length) (q : ∀ p, H p = none → Q (.ref p) (upd H p (.tup (xs.take k)))) : rSlT K (.ref a) none (some (k : Int)) H Q := by
  refine g_slT h (fun z => ?_) (by rw [cut_to]; exact q)
  have e := z.2
  rw [HT.sIx_nat] at e
  omega
theorem fo_kinds : ∀ w, w ∈ allW → ∀ k, k ∈ (fo w).getD [] → k ∈ (stL ["place", "number", "skip", "many"]) := by decide +kernel
theorem fo_len : ∀ w, w ∈ allW → ((fo w).getD []).length ≤ 3 := by decide +kernel
theorem sk_some : ∀ w, w ∈ allW → w ∈ skW → ∀ ks, fo w = some ks → 0 < ks.length := by
  have h : ∀ w, w ∈ allW → w ∈ skW → 0 < ((fo w).getD ["x"]).length := by decide +kernel
  intro w h1 h2 ks e
  have := h w h1 h2
  rw [e] at this
  exact this
theorem sk_ne {w : Str} {ns : List Int} (hw : w ∈ allW) (hf : formed (w, ns) = true) (hs : w ∈ skW) : ns ≠ [] := by
  intro e
  subst e
  unfold formed at hf
  simp only at hf
  cases h : fo w with
  | none => rw [h] at hf; cases hf
  | some ks =>
    rw [h] at hf
    simp at hf
    have := sk_some w hw hs ks h
    omega
theorem at_last {x : V} {ns : List Int} {w : Str} (h : ns ≠ []) : atI (x :: ns.map V.int) (-1) = some (.int (lastN (w, ns))) := by
  have hp : 0 < ns.length := List.length_pos_iff.mpr h
  have e : ns[ns.length - 1]? = some (lastN (w, ns)) := by
    unfold lastN
    rw [List.getLast?_eq_getElem?, List.getElem?_eq_getElem (by omega)]
    rfl
  have l : (x :: ns.map V.int).length = ns.length + 1 := by simp
  unfold atI ixN
  rw [if_neg (by decide), l, if_pos (by omega)]
  show (x :: ns.map V.int)[((-1 : Int) + ((ns.length + 1 : Nat) : Int)).toNat]? = _
  rw [show ((-1 : Int) + ((ns.length + 1 : Nat) : Int)).toNat = (ns.length - 1) + 1 by omega, List.getElem?_cons_succ, List.getElem?_map, e]
  rfl
/-! promises -/
structure RwIn (r : Rw) : Prop where
  w : r.1 ∈ allW
  n : r.2.length ≤ 40
def fFm (ds : List PyData) (d : PyData) : Prop := ∃ r : Rw, ds = [rwD r] ∧ RwIn r ∧ d = .bool (formed r)
def fIc (ds : List PyData) (d : PyData) : Prop := ∃ c : List Rw, ds = [coD c] ∧ c.length ≤ 100 ∧ (∀ r, r ∈ c → RwIn r) ∧ d = .bool (isC c)
/-! the law's words -/
def w7 : List Str := stL ["push", "size", "take", "jump", "jumpzero", "jumpsmall", "end"]
def f7 : List (Nat × Nat) := [(1, 2), (1, 1), (2, 2), (0, 1), (1, 2), (1, 3), (0, 1)]
def W8 : List (List Str) := List.map stL [["push", "size"], ["drop", "jumpzero", "repeat"], ["copy"], ["swap"], ["look", "go", "mode", "between", "jump", "call"], ["negate", "amount", "down", "up", "round", "not", "value", "load", "get", "origin"], ["add", "subtract", "multiply", "divide", "lesser", "greater", "less", "atmost", "equal", "and", "or"], ["setvalue", "save", "move", "set", "align"]]
def r4 : List Str := stL ["look", "go", "mode", "between", "jump", "call"]
def r5 : List Str := stL ["negate", "amount", "down", "up", "round", "not", "value", "load", "get", "origin"]
def r6 : List Str := stL ["add", "subtract", "multiply", "divide", "lesser", "greater", "less", "atmost", "equal", "and", "or"]
def r7 : List Str := stL ["setvalue", "save", "move", "set", "align"]
def cf (w : Str) : Option (Nat × Nat) := if w ∈ w7 then f7[w7.idxOf w]? else if w ∈ r5 ∨ w ∈ r7 then some (2, 2) else if w ∈ r6 then some (3, 3) else if w ∈ r4 ∧ w ≠ "call" then some (0, 1) else none
def rowB (r : Rw) (i last : Int) : Bool := match cf r.1 with
  | none => false
  | some f => decide (r.2.length = f.2) && ((r.2.take f.1).all fun n => decide (0 ≤ n ∧ n ≤ 63)) && (decide (r.1 = "end") == decide (i = last)) && !(decide (r.1 = "end") && !decide (0 ≤ r.2.getD 0 0 ∧ r.2.getD 0 0 ≤ 64)) && !(decide (r.1 ∈ skW) && (!decide (0 ≤ lastN r) || decide (i + 1 + lastN r > last)))
def cls : List (Option (List Str) × Option (Nat × Nat) × Bool × Bool) := List.map (fun (p : Option (List String) × Option (Nat × Nat) × Bool × Bool) => (p.1.map stL, p.2)) [(some ["place", "number"], some (1, 2), false, false), (some ["place"], some (1, 1), false, false), (some ["place", "place"], some (2, 2), false, false), (some ["place", "place", "place"], some (3, 3), false, false), (some ["number"], some (0, 1), false, false), (some ["skip"], some (0, 1), false, true), (some ["place", "skip"], some (1, 2), false, true), (some ["place", "number", "skip"], some (1, 3), false, true), (some ["many"], some (0, 1), true, false), (none, none, false, false)]
theorem cls_of : ∀ w, w ∈ allW → (fo w, cf w, decide (w = "end"), decide (w ∈ skW)) ∈ cls := by decide +kernel
theorem ap (n : Int) : argOk "place" n = decide (0 ≤ n ∧ n < 64) := by unfold argOk; rw [if_pos rfl]
theorem an (n : Int) : argOk "number" n = true := by unfold argOk; rw [if_neg (by decide), if_neg (by decide), decide_eq_true rfl]; rfl
theorem am (n : Int) : argOk "many" n = decide (0 ≤ n ∧ n ≤ 64) := by unfold argOk; rw [if_neg (by decide), if_pos rfl]
theorem as (n : Int) : argOk "skip" n = decide (0 ≤ n) := by unfold argOk; rw [if_neg (by decide), if_neg (by decide), decide_eq_false (by decide)]; rfl
theorem len4 (ns : List Int) : ns = [] ∨ (∃ a, ns = [a]) ∨ (∃ a b, ns = [a, b]) ∨ (∃ a b c, ns = [a, b, c]) ∨ ∃ a b c d t, ns = a :: b :: c :: d :: t := by
  match ns with
  | [] => exact .inl rfl
  | [a] => exact .inr (.inl ⟨a, rfl⟩)
  | [a, b] => exact .inr (.inr (.inl ⟨a, b, rfl⟩))
  | [a, b, c] => exact .inr (.inr (.inr (.inl ⟨a, b, c, rfl⟩)))
  | a :: b :: c :: d :: t => exact .inr (.inr (.inr (.inr ⟨a, b, c, d, t, rfl⟩)))
theorem rowAB (r : Rw) (hw : r.1 ∈ allW) (i last : Int) : rowA r i last = rowB r i last := by
  obtain ⟨w, ns⟩ := r
  have h := cls_of w hw
  simp only at hw
  simp only [cls, stL, List.map_cons, List.map_nil, Option.map_some, Option.map_none, List.mem_cons, Prod.mk.injEq, List.not_mem_nil, or_false] at h
  rw [Bool.eq_iff_iff]
  rcases h with ⟨h1, h2, h3, h4⟩ | ⟨h1, h2, h3, h4⟩ | ⟨h1, h2, h3, h4⟩ | ⟨h1, h2, h3, h4⟩ | ⟨h1, h2, h3, h4⟩ | ⟨h1, h2, h3, h4⟩ | ⟨h1, h2, h3, h4⟩ | ⟨h1, h2, h3, h4⟩ | ⟨h1, h2, h3, h4⟩ | ⟨h1, h2, h3, h4⟩ <;>
    (unfold rowA rowB formed; simp only [h1, h2, h3, h4]; rcases len4 ns with rfl | ⟨a, rfl⟩ | ⟨a, b, rfl⟩ | ⟨a, b, c, rfl⟩ | ⟨a, b, c, d, t, rfl⟩ <;> simp [ap, an, am, as, lastN, List.zipWith, decide_eq_false_iff_not] <;> first | omega | (simp only [decide_eq_true_eq]; omega) | (rw [decide_eq_true_iff]; omega) | (by_cases h0 : 0 ≤ a <;> simp [h0] <;> omega))
theorem isC_no {c : List Rw} {i : Nat} {r : Rw} (h : c[i]? = some r) (k : rowA r i ((c.length : Int) - 1) = false) : isC c = false := by
  have hi := (List.getElem?_eq_some_iff.mp h).1
  cases e : isC c with
  | false => rfl
  | true =>
    unfold isC at e
    rw [Bool.and_eq_true, List.all_eq_true] at e
    have := e.2 i (List.mem_range.mpr hi)
    rw [show c.getD i ("", []) = r by rw [List.getD_eq_getElem?_getD, h]; rfl, k] at this
    cases this
theorem isC_yes {c : List Rw} (h0 : 1 ≤ c.length ∧ c.length ≤ 20000) (h : ∀ (i : Nat) (r : Rw), c[i]? = some r → rowA r i ((c.length : Int) - 1) = true) : isC c = true := by
  unfold isC
  rw [Bool.and_eq_true, List.all_eq_true]
  refine ⟨decide_eq_true h0, fun i hi => ?_⟩
  have hi := List.mem_range.mp hi
  have e : c[i]? = some c[i] := List.getElem?_eq_getElem hi
  rw [show c.getD i ("", []) = c[i] by rw [List.getD_eq_getElem?_getD, e]; rfl]
  exact h i _ e
theorem isC_len {c : List Rw} (h : ¬ (1 ≤ c.length ∧ c.length ≤ 20000)) : isC c = false := by
  unfold isC
  rw [decide_eq_false h]
  rfl
/-! the dicts of the module -/
structure WdK (K : PySem.W.Frag) (P : Program) (w : World) (mg : Str → Option Value) : Prop where
  gF : mg "FORMS" = some (.ref (adr mg "FORMS"))
  kF : ∃ es n, KDict K w (adr mg "FORMS") es n
  fF : ∀ x, x ∈ allW → ∃ r, PySem.W.nsIn K (adr mg "FORMS") x = some r ∧ ∀ ks, tabF.lookup x = ks → match ks with
    | none => r = none
    | some ks => ∃ t, r = some (.ref t) ∧ ∀ H : Hp, SqT K H t (ks.map V.str)
  gW : mg "WORDS" = some (.ref (adr mg "WORDS"))
  kW : ∃ es n, KDict K w (adr mg "WORDS") es n
  fW : ∀ x, x ∈ allW → ∃ r, PySem.W.nsIn K (adr mg "WORDS") x = some r ∧ ∀ ks, tabW.lookup x = ks → match ks with
    | none => r = none
    | some ks => ∃ t, r = some (.ref t) ∧ ∀ H : Hp, SqT K H t (ks.map V.int)
  gB : mg "FORMS_BY_VALUES" = some (.ref (adr mg "FORMS_BY_VALUES"))
  kB : ∃ xs, KTup K P w (adr mg "FORMS_BY_VALUES") xs ∧ ∀ k : List Int, match tabB.lookup k with
    | none => (atKey xs k).map (·.2) = none
    | some ks => ∃ t, (atKey xs k).map (·.2) = some (.ref t) ∧ ∀ H : Hp, SqT K H t (ks.map V.str)
end Fl

set_option Elab.async false
set_option linter.all false
set_option maxRecDepth 100000
set_option maxHeartbeats 4000000
/-! straight code that is drawn and spoilt -/
namespace Fl
open PySem PySem.Spec PyProof.Rows L2
def strD (ws : List Str) : PyData := .list (ws.map .str)
def w8D : PyData := .list (W8.map strD)
theorem strs_dq {S : List Addr} {H : Hp} : ∀ {ws : List Str}, DqA S H (ws.map V.str) (ws.map PyData.str)
  | [] => .nil
  | x :: ws => .cons (.str x) (strs_dq (ws := ws))
theorem strs_of {S : List Addr} {H : Hp} : ∀ {xs : List V} {ws : List Str}, DqA S H xs (ws.map PyData.str) → xs = ws.map V.str
  | xs, [], h => h.nilE
  | xs, w :: ws, h => by
    obtain ⟨v, vs, rfl, hv, h2⟩ := h.consE
    cases hv
    rw [strs_of h2]
    rfl
theorem w8E {S : List Addr} {H : Hp} {v : V} (h : Dq S H v w8D) : ∃ a xs, v = .ref a ∧ a ∉ S ∧ H a = some (.lst xs) ∧ ∀ (i : Nat) (ws : List Str), W8[i]? = some ws → ∃ l, atI xs (i : Int) = some (.ref l) ∧ l ∉ S ∧ H l = some (.lst (ws.map V.str)) := by
  obtain ⟨a, xs, rfl, na, ha, hX⟩ := h.lstE
  refine ⟨a, xs, rfl, na, ha, fun i ws hi => ?_⟩
  obtain ⟨x, hx, dx⟩ := hX.getD (i := i) (d := strD ws) (by rw [List.getElem?_map, hi]; rfl)
  obtain ⟨l, ys, rfl, nl, hl, hY⟩ := dx.lstE
  rw [strs_of hY] at hl
  exact ⟨l, atI_nat hx, nl, hl⟩
theorem str_at {ws : List Str} {v : Int} (h0 : 0 ≤ v) (h1 : v < ws.length) : ∃ x, x ∈ ws ∧ atI (ws.map V.str) v = some (.str x) := by
  obtain ⟨k, rfl⟩ : ∃ k : Nat, v = (k : Int) := ⟨v.toNat, by omega⟩
  have hk : k < ws.length := by omega
  exact ⟨ws[k], List.getElem_mem hk, atI_nat (by rw [List.getElem?_map, List.getElem?_eq_getElem hk]; rfl)⟩
theorem fo_r5 : ∀ x, x ∈ r5 → x ∈ allW ∧ fo x = some (stL ["place", "place"]) ∧ x ≠ "end" ∧ x ∉ skW := by decide +kernel
theorem fo_r6 : ∀ x, x ∈ r6 → x ∈ allW ∧ fo x = some (stL ["place", "place", "place"]) ∧ x ≠ "end" ∧ x ∉ skW := by decide +kernel
theorem fo_r7 : ∀ x, x ∈ r7 → x ∈ allW ∧ fo x = some (stL ["place", "place"]) ∧ x ≠ "end" ∧ x ∉ skW := by decide +kernel
theorem fo_r4 : ∀ x, x ∈ r4.take 4 → x ∈ allW ∧ fo x = some (stL ["number"]) ∧ x ≠ "end" ∧ x ∉ skW := by decide +kernel
/-- a row that may stand in code, with so many behind it -/
structure RowOk (r : Rw) (left : Int) : Prop where
  w : r.1 ∈ allW
  n : r.2.length ≤ 3
  fm : formed r = true
  ne : r.1 ≠ "end"
  sk : r.1 ∈ skW → lastN r ≤ left - 1
theorem rowA_ok {r : Rw} {left i last : Int} (h : RowOk r left) (hl : left = last - i) (hp : 0 < left) : rowA r i last = true := by
  unfold rowA
  rw [h.fm, decide_eq_false h.ne, decide_eq_false (show ¬ i = last by omega)]
  by_cases k : r.1 ∈ skW
  · have := h.sk k
    rw [decide_eq_true k, decide_eq_false (show ¬ lastN r > last - i - 1 by omega)]
    rfl
  · rw [decide_eq_false k]
    rfl
theorem rowA_end {n : Int} {i last : Int} (h0 : 0 ≤ n) (h1 : n ≤ 64) (hl : i = last) : rowA ("end", [n]) i last = true := by
  have hf : fo "end" = some (stL ["many"]) := by decide +kernel
  have hs : ¬ (("end" : Str) ∈ skW) := by decide +kernel
  unfold rowA formed
  simp only [hf]
  rw [decide_eq_true hl, decide_eq_false hs]
  have : argOk "many" n = true := by rw [am]; exact decide_eq_true ⟨h0, h1⟩
  simp [stL, this]
theorem pl {n : Int} (h0 : 0 ≤ n) (h1 : n < 6) : argOk "place" n = true := by rw [ap]; exact decide_eq_true ⟨h0, by omega⟩
theorem ok_2 {x : Str} {a b left : Int} (h : x ∈ allW ∧ fo x = some (stL ["place", "place"]) ∧ x ≠ "end" ∧ x ∉ skW) (ha : 0 ≤ a) (ha' : a < 6) (hb : 0 ≤ b) (hb' : b < 6) : RowOk (x, [a, b]) left := by
  obtain ⟨h1, h2, h3, h4⟩ := h
  refine ⟨h1, by simp, ?_, h3, fun k => absurd k h4⟩
  unfold formed
  simp only [h2]
  simp [stL, pl ha ha', pl hb hb']
theorem ok_3 {x : Str} {a b c left : Int} (h : x ∈ allW ∧ fo x = some (stL ["place", "place", "place"]) ∧ x ≠ "end" ∧ x ∉ skW) (ha : 0 ≤ a) (ha' : a < 6) (hb : 0 ≤ b) (hb' : b < 6) (hc : 0 ≤ c) (hc' : c < 6) : RowOk (x, [a, b, c]) left := by
  obtain ⟨h1, h2, h3, h4⟩ := h
  refine ⟨h1, by simp, ?_, h3, fun k => absurd k h4⟩
  unfold formed
  simp only [h2]
  simp [stL, pl ha ha', pl hb hb', pl hc hc']
theorem ok_1 {x : Str} {n left : Int} (h : x ∈ allW ∧ fo x = some (stL ["number"]) ∧ x ≠ "end" ∧ x ∉ skW) : RowOk (x, [n]) left := by
  obtain ⟨h1, h2, h3, h4⟩ := h
  refine ⟨h1, by simp, ?_, h3, fun k => absurd k h4⟩
  unfold formed
  simp only [h2]
  simp [stL, an]
theorem w_push : ("push" : Str) ∈ allW ∧ fo "push" = some (stL ["place", "number"]) ∧ ("push" : Str) ≠ "end" ∧ ("push" : Str) ∉ skW := by decide +kernel
theorem w_size : ("size" : Str) ∈ allW ∧ fo "size" = some (stL ["place"]) ∧ ("size" : Str) ≠ "end" ∧ ("size" : Str) ∉ skW := by decide +kernel
theorem w_take : ("take" : Str) ∈ allW ∧ fo "take" = some (stL ["place", "place"]) ∧ ("take" : Str) ≠ "end" ∧ ("take" : Str) ∉ skW := by decide +kernel
theorem w_jump : ("jump" : Str) ∈ allW ∧ fo "jump" = some (stL ["skip"]) ∧ ("jump" : Str) ≠ "end" := by decide +kernel
theorem w_jumpzero : ("jumpzero" : Str) ∈ allW ∧ fo "jumpzero" = some (stL ["place", "skip"]) ∧ ("jumpzero" : Str) ≠ "end" := by decide +kernel
theorem w_jumpsmall : ("jumpsmall" : Str) ∈ allW ∧ fo "jumpsmall" = some (stL ["place", "number", "skip"]) ∧ ("jumpsmall" : Str) ≠ "end" := by decide +kernel
theorem ok_push {a n left : Int} (ha : 0 ≤ a) (ha' : a < 6) : RowOk ("push", [a, n]) left := by
  obtain ⟨h1, h2, h3, h4⟩ := w_push
  refine ⟨h1, by simp, ?_, h3, fun k => absurd k h4⟩
  unfold formed
  simp only [h2]
  simp [stL, pl ha ha', an]
theorem ok_size {a left : Int} (ha : 0 ≤ a) (ha' : a < 6) : RowOk ("size", [a]) left := by
  obtain ⟨h1, h2, h3, h4⟩ := w_size
  refine ⟨h1, by simp, ?_, h3, fun k => absurd k h4⟩
  unfold formed
  simp only [h2]
  simp [stL, pl ha ha']
theorem ok_take {a b left : Int} (ha : 0 ≤ a) (ha' : a < 6) (hb : 0 ≤ b) (hb' : b < 6) : RowOk ("take", [a, b]) left :=
  ok_2 w_take ha ha' hb hb'
theorem sk {n : Int} (h0 : 0 ≤ n) : argOk "skip" n = true := by rw [as]; exact decide_eq_true h0
theorem ok_jump {k left : Int} (hk : 0 ≤ k) (hk' : k ≤ left - 1) : RowOk ("jump", [k]) left := by
  obtain ⟨h1, h2, h3⟩ := w_jump
  refine ⟨h1, by simp, ?_, h3, fun _ => hk'⟩
  unfold formed
  simp only [h2]
  simp [stL, sk hk]
theorem ok_jumpzero {a k left : Int} (ha : 0 ≤ a) (ha' : a < 6) (hk : 0 ≤ k) (hk' : k ≤ left - 1) : RowOk ("jumpzero", [a, k]) left := by
  obtain ⟨h1, h2, h3⟩ := w_jumpzero
  refine ⟨h1, by simp, ?_, h3, fun _ => hk'⟩
  unfold formed
  simp only [h2]
  simp [stL, pl ha ha', sk hk]
theorem ok_jumpsmall {a n k left : Int} (ha : 0 ≤ a) (ha' : a < 6) (hk : 0 ≤ k) (hk' : k ≤ left - 1) : RowOk ("jumpsmall", [a, n, k]) left := by
  obtain ⟨h1, h2, h3⟩ := w_jumpsmall
  refine ⟨h1, by simp, ?_, h3, fun _ => hk'⟩
  unfold formed
  simp only [h2]
  simp [stL, pl ha ha', an, sk hk]
def fWds (ds : List PyData) (d : PyData) : Prop := ds = [] ∧ d = w8D
def spRow : Sp := fun vs H Q _ => ∃ (d s : Addr) (ns : List Int) (left : Int), vs = [.ref d, .int left] ∧ Dk d s ns H ∧ 0 < left ∧
  ∀ t H' r, Fr [d] H H' → Dk d s ns H' → (∀ S, Al S H → d ∈ S → Dq S H' (.ref t) (rwD r)) → RowOk r left → Q (.ref t) H'
end Fl

set_option Elab.async false
set_option linter.all false
set_option maxRecDepth 100000
set_option maxHeartbeats 4000000
/-! the machine's words -/
namespace Fl
open PySem PySem.Spec PyProof.Rows L2
structure WoK (K : PySem.W.Frag) (w : World) (mg : Str → Option Value) : Prop where
  gW : mg "WORDS" = some (.ref (adr mg "WORDS"))
  kW : ∃ es n, KDict K w (adr mg "WORDS") es n
  fW : ∀ x, x ∈ allW → ∃ r, PySem.W.nsIn K (adr mg "WORDS") x = some r ∧ ∀ ks, tabW.lookup x = ks → match ks with
    | none => r = none
    | some ks => ∃ t, r = some (.ref t) ∧ ∀ H : Hp, SqT K H t (ks.map V.int)
def effL : List Pr := [(0, 1), (1, 0), (1, 2), (2, 2), (0, 0), (1, 1), (2, 1), (2, 0)]
/-- what a word takes and puts -/
def eff (x : Str) : Option Pr := ((W8.zip effL).find? fun r => decide (x ∈ r.1)).map (·.2)
theorem eff_tab : ∀ x, x ∈ allW → tabW.lookup x = (eff x).map fun p => [p.1, p.2] := by decide +kernel
/-- max of three -/
def rMax3 : List V → Hp → VK → Prop := fun xs H Q => ∃ i j k, xs = [.int i, .int j, .int k] ∧ Q (.int (if k > (if j > i then j else i) then k else (if j > i then j else i))) H
theorem nu3 (i j k : Int) : nuMax3 (.int i) (.int j) (.int k) = some (.int (if k > (if j > i then j else i) then k else (if j > i then j else i))) := by
  by_cases h : i < j
  · by_cases h2 : j < k <;> simp [nuMax3, nuMax2, h, h2, nuLt, nuCB]
  · by_cases h2 : i < k <;> simp [nuMax3, nuMax2, h, h2, nuLt, nuCB]
theorem clMax3 {X : Cx} (hc : X.calm = true) : CallR X (.builtin "max") rMax3 := by
  intro pins s σ H xs us Q I r h
  obtain ⟨i, j, k, rfl, q⟩ := h
  exact call_max3Nu hc pins s σ H _ us Q I r ⟨_, _, _, _, rfl, nu3 i j k, q⟩
theorem g_cb3 {r : List V → Hp → VK → Prop} {ta tb tc : TE} {σ : L2.St} {H : Hp} {Q : VK} (h : ta σ H fun x H1 => tb σ H1 fun y H2 => tc σ H2 fun z H3 => r [x, y, z] H3 Q) : tCB r (tCons ta (tCons tb (tCons tc tNil))) σ H Q := h
theorem g_max3 {i j k : Int} {H : Hp} {Q : VK} (q : Q (.int (if k > (if j > i then j else i) then k else (if j > i then j else i))) H) : rMax3 [.int i, .int j, .int k] H Q := ⟨i, j, k, rfl, q⟩
end Fl

set_option Elab.async false
set_option linter.all false
set_option maxRecDepth 100000
set_option maxHeartbeats 4000000
/-! fonts in numbers, with all their parts; when they may be -/
namespace Fl
open PySem PySem.Spec PyProof.Rows L2
def i2 (p : Int × Int) : List PyData := [.int p.1, .int p.2]
def i3 (p : Int × Int × Int) : List PyData := [.int p.1, .int p.2.1, .int p.2.2]
def i4 (p : Int × Int × Int × Int) : List PyData := [.int p.1, .int p.2.1, .int p.2.2.1, .int p.2.2.2]
def s1i (p : Str × Int) : List PyData := [.str p.1, .int p.2]
def s3i (p : Str × Int × Int × Int) : List PyData := [.str p.1, .int p.2.1, .int p.2.2.1, .int p.2.2.2]
def ptL (p : Pt) : List PyData := [.int p.1, .int p.2.1, .bool p.2.2]
structure GlG where
  adv : Int
  outl : List (List Pt)
  parts : List (Int × Int × Int)
  anch : List (Str × Int × Int × Int)
  mark : Bool
  deltas : List (Int × Int × Int × Int)
  hint : List (Str × Int)
def GlG.R (g : GlG) : GlR := ⟨.int g.adv, g.outl.map fun c => c.map ptL, g.parts.map i3, g.anch.map s3i, .bool g.mark, g.deltas.map i4, g.hint.map s1i⟩
structure FoG where
  unit : Int
  glyphs : List GlG
  chars : List (Int × Int)
  lks : List LkR
  feats : List (Str × List Int)
  axes : List (Int × Int × Int)
  regs : List (List (Int × Int × Int))
  fns : List (List (Str × Int))
  pres : List Int
def FoG.R (f : FoG) : FoR := ⟨.int f.unit, f.glyphs.map GlG.R, f.chars.map i2, f.lks, f.feats.map fun p => (.str p.1, iD p.2), f.axes.map i3, f.regs.map fun r => r.map i3, f.fns.map fun c => c.map s1i, iD f.pres⟩
/-- a coordinate -/
def Crd (n : Int) : Prop := -16384 ≤ n ∧ n ≤ 16384
/-- an instruction that may be -/
def InsV (h : Str × Int) : Prop := h.1 ∈ allW ∧ tabW.lookup h.1 ≠ none ∧ -2147483648 ≤ h.2 ∧ h.2 ≤ 2147483647
structure GlG.Ok (n m : Nat) (g : GlG) : Prop where
  av : 0 ≤ g.adv ∧ g.adv ≤ 16384
  ou : prp g.outl = true
  oz : g.outl.length ≤ 40 ∧ ∀ c, c ∈ g.outl → c.length ≤ 200
  pt : g.parts.length < 900 ∧ ∀ p, p ∈ g.parts → 0 ≤ p.1 ∧ p.1 < n ∧ Crd p.2.1 ∧ Crd p.2.2
  an : g.anch.length < 900 ∧ ∀ a, a ∈ g.anch → a.1 ∈ (["base", "mark", "entry", "exit"] : List Str) ∧ 0 ≤ a.2.1 ∧ a.2.1 ≤ 9 ∧ Crd a.2.2.1 ∧ Crd a.2.2.2
  de : g.deltas.length < 900 ∧ ∀ d, d ∈ g.deltas → 0 ≤ d.1 ∧ d.1 < m ∧ -1 ≤ d.2.1 ∧ d.2.1 < cnt g.outl ∧ Crd d.2.2.1 ∧ Crd d.2.2.2
  hi : g.hint.length < 900 ∧ ∀ h, h ∈ g.hint → InsV h
def tentOk (t : Int × Int × Int) : Prop := -64 ≤ t.1 ∧ t.1 ≤ t.2.1 ∧ t.2.1 ≤ t.2.2 ∧ t.2.2 ≤ 64 ∧ (t.2.1 = 0 ∨ 0 ≤ t.1 ∨ t.2.2 ≤ 0)
/-- a font that may be; VL: its lookups may be -/
structure FoG.Ok (VL : FoR → LkR → Prop) (f : FoG) : Prop where
  un : 16 ≤ f.unit ∧ f.unit ≤ 16384
  gl : 1 ≤ f.glyphs.length ∧ f.glyphs.length ≤ 60
  go : ∀ g, g ∈ f.glyphs → g.Ok f.glyphs.length f.regs.length
  dp : ∃ dep : Nat → Nat, ∀ k g, f.glyphs[k]? = some g → dep k ≤ 4 ∧ ∀ p, p ∈ g.parts → dep p.1.toNat < dep k
  ch : f.chars.length < 900 ∧ ∀ (i : Nat) c, f.chars[i]? = some c → prv (f.chars.map Prod.fst) i < c.1 ∧ c.1 ≤ 1114111 ∧ 0 ≤ c.2 ∧ c.2 < f.glyphs.length
  lz : f.lks.length ≤ 20
  lr : ∀ k, k ∈ f.lks → k.ok
  lo : ∀ k, k ∈ f.lks → VL f.R k
  fe : f.feats.length ≤ 12 ∧ (f.feats.map Prod.fst).Nodup ∧ ∀ p, p ∈ f.feats → p.2.length < 900
  ax : f.axes.length ≤ 3 ∧ ∀ t, t ∈ f.axes → -16384 ≤ t.1 ∧ t.1 ≤ t.2.1 ∧ t.2.1 ≤ t.2.2 ∧ t.2.2 ≤ 16384
  re : f.regs.length ≤ 8 ∧ ∀ r, r ∈ f.regs → r.length = f.axes.length ∧ ∀ t, t ∈ r → tentOk t
  fn : f.fns.length ≤ 12 ∧ ∀ c, c ∈ f.fns → c.length < 900 ∧ ∀ h, h ∈ c → InsV h
  ps : f.pres.length ≤ 32 ∧ ∀ n, n ∈ f.pres → -32768 ≤ n ∧ n ≤ 32767
theorem GlG.rok {n m : Nat} {g : GlG} (h : g.Ok n m) : g.R.ok := by
  have h1 := h.oz.1
  have h2 := h.pt.1
  have h3 := h.an.1
  have h4 := h.de.1
  have h5 := h.hi.1
  refine ⟨(by intro e; cases e), (by intro e; cases e), ?_, fun c m => ?_, ?_, ?_, ?_, ?_⟩
  · show (g.outl.map _).length < 1000; rw [List.length_map]; omega
  · obtain ⟨c', m', rfl⟩ := List.mem_map.mp (show c ∈ g.outl.map fun c => c.map ptL from m)
    rw [List.length_map]
    have := h.oz.2 c' m'
    omega
  · show (g.parts.map _).length < 1000; rw [List.length_map]; omega
  · show (g.anch.map _).length < 1000; rw [List.length_map]; omega
  · show (g.deltas.map _).length < 1000; rw [List.length_map]; omega
  · show (g.hint.map _).length < 1000; rw [List.length_map]; omega
theorem FoG.rok {VL : FoR → LkR → Prop} {f : FoG} (h : f.Ok VL) : f.R.ok := by
  have h1 := h.gl.2
  have h2 := h.ch.1
  have h3 := h.lz
  have h4 := h.fe.1
  have h5 := h.ax.1
  have h6 := h.re.1
  have h7 := h.fn.1
  have h8 := h.ps.1
  refine ⟨(by intro e; cases e), ?_, fun g m => ?_, ?_, ?_, h.lr, ?_, ?_, ?_, ?_, ?_⟩
  · show (f.glyphs.map _).length < 1000; rw [List.length_map]; omega
  · obtain ⟨g', m', rfl⟩ := List.mem_map.mp (show g ∈ f.glyphs.map GlG.R from m)
    exact GlG.rok (h.go g' m')
  · show (f.chars.map _).length < 1000; rw [List.length_map]; omega
  · show f.lks.length < 1000; omega
  · show (f.feats.map _).length < 1000; rw [List.length_map]; omega
  · show (f.axes.map _).length < 1000; rw [List.length_map]; omega
  · show (f.regs.map _).length < 1000; rw [List.length_map]; omega
  · show (f.fns.map _).length < 1000; rw [List.length_map]; omega
  · show (f.pres.map _).length < 1000; rw [List.length_map]; omega
theorem ouD3_pt (o : List (List Pt)) : ouD3 (o.map fun c => c.map ptL) = ouD o := by
  unfold ouD3 ouD
  rw [List.map_map]
  congr 1
  apply List.map_congr_left
  intro c _
  show PyData.list ((c.map ptL).map PyData.tuple) = PyData.list (c.map ptD)
  rw [List.map_map]
  rfl
theorem ltD_map {α : Type} (f : α → List PyData) (l : List α) : ltD (l.map f) = .list (l.map fun x => .tuple (f x)) := by
  unfold ltD
  rw [List.map_map]
  rfl
/-- a comprehension of truths that are all so -/
theorem allYes {K : PySem.W.Frag} {S : List Addr} {H : Hp} {Q : VK} {D : Addr} {α : Type} {L : List α} (hq : Dq S H (.ref D) (.list (L.map fun _ => .bool true))) (q : Q (.bl true) H) : rAll K [.ref D] H Q := by
  obtain ⟨_, xs, e, _, hb, hD⟩ := hq.lstE
  cases e
  have : ∀ (L : List α) (xs : List V), DqA S H xs (L.map fun _ => .bool true) → xs = (L.map fun _ => true).map V.bl := by
    intro L
    induction L with
    | nil => intro xs h; cases h; rfl
    | cons a L ih =>
      intro xs h
      rw [List.map_cons] at h
      obtain ⟨v, ws, rfl, hv, h2⟩ := h.consE
      cases hv.blE
      rw [ih ws h2]
      rfl
  rw [this L xs hD] at hb
  refine g_allL (SqL.of hb) ?_
  rw [show (L.map fun _ => true).all id = true by simp]
  exact q
end Fl

set_option Elab.async false
set_option linter.all false
set_option maxRecDepth 100000
set_option maxHeartbeats 4000000
set_option exponentiation.threshold 20000
/-! own errors with one field, a number -/
namespace Fl
open PySem PySem.Spec PyProof.Rows L2
structure ClsN1 (K : PySem.W.Frag) (mg : Str → Option Value) (x qual : Str) (st : Stmt) (f : Str) : Prop where
  g : mg x = some (.ref (adr mg x))
  o : OexC K (adr mg x)
  n : PySem.W.findIn K (.ref (adr mg x)) f = some none
  r : XfC K (adr mg x)
  i : ∃ (fI : Addr) (fd : FuncData), PySem.W.findIn K (.ref (adr mg x)) "__init__" = some (some (.ref fI)) ∧ PySem.W.typeIn K (.ref fI) = some (.type "function") ∧ Fun K "__init__" qual st fI fd
def spIniN1 (C : Addr) (f : Str) : Sp := fun vs H Q _ => ∃ (a : Addr) (i : Int), vs = [.ref a, .int i] ∧ i.natAbs < 10000 ∧ H a = some (exo a C none) ∧ ∀ dx, H dx = none → dx ≠ a → Q .non (upd (upd H dx (exd dx [(f, .int i)])) a (exo a C (some dx)))
structure MkN1 (P : Program) (w : World) (K : PySem.W.Frag) (mg : Str → Option Value) (base : Heap) (k : Nat) (x f : Str) (ps : List Str) : Prop where
  g : mg x = some (.ref (adr mg x))
  o : OexC K (adr mg x)
  i : ∃ (fI : Addr) (fd : FuncData), PySem.W.findIn K (.ref (adr mg x)) "__init__" = some (some (.ref fI)) ∧ PySem.W.typeIn K (.ref fI) = some (.type "function") ∧ FnOk P w K mg base L2.CX0 k fI fd ps (spIniN1 (adr mg x) f) ∧ L2.Binds K fd ps []
def tRaiseN1 (W : WX) (C : Addr) (f : Str) (ta : TA) : TS := fun _ σ H => tMkO C (spIniN1 C f) [] ta σ H fun cls d H' => W cls d σ H'
theorem ps_raiseN1 {X : Cx} {W : WX} {k : Nat} {x f : Str} {ps : List Str} {e : Expr} {ta : TA} {p pos pos2 : Pos} (M : MkN1 X.prog X.w X.K X.mg X.base k x f ps) (hc : X.calm = true) (hr : Room (k + 1) X.A) (tk : Takes X W) (ha : PA X [e] ta) (hg : Gl X x := by rfl) (hdb : (x == ("__debug__" : Str)) = false := by decide)
    (he : starEach [e] X.env = (false, eval e X.env) :: starEach [] X.env := by rfl) (hpl : (backTo pos (starEach [] X.env)).any (·.1) = false := by rfl) :
    PS X (.Raise (some (.Call (.Name x p) [e] [] pos)) none pos2) (tRaiseN1 W (adr X.mg x) f ta) := by
  obtain ⟨fI, fd, iC, tI, F, b⟩ := M.i
  exact ⟨fun pins s σ H D I h => (ps_raise hc tk (pmk_oex (CX := L2.CX0) M.o iC tI F hr b .nil (fun _ _ _ _ _ _ _ z => z.elim) hg M.g ha hdb he hpl)).run pins s σ H D I h⟩
theorem g_raiseN1 {W : WX} {C : Addr} {f : Str} {i : Int} {ta : TA} {D : Ends} {σ : L2.St} {H : Hp} (hta : ∀ R : List V → Hp → Prop, R [.int i] H → ta σ H R) (hi : i.natAbs < 10000) (h : ∀ dx, H dx = none → W (.ref C) (some dx) σ (upd H dx (.xd [(f, .int i)]))) : tRaiseN1 W C f ta D σ H := by
  refine hta _ ⟨by simp, fun a ha => ⟨a, i, rfl, hi, upd_same, fun dx hd hne => ⟨rfl, dx, [(f, .int i)], upd_same, by rw [upd_ne hne, upd_same], by rw [upd_ne hne] at hd; exact hd, ?_⟩⟩⟩
  rw [upd_ne hne] at hd
  have e : upd (del (upd (upd (upd H a (exo a C none)) dx (exd dx [(f, .int i)])) a (exo a C (some dx))) a) dx (.xd [(f, .int i)]) = upd H dx (.xd [(f, .int i)]) := by
    funext b
    by_cases h1 : b = dx
    · rw [h1, upd_same, upd_same]
    · rw [upd_ne h1, upd_ne h1]
      by_cases h2 : b = a
      · rw [h2, del_same, ha]
      · rw [del_ne h2, upd_ne h2, upd_ne h1, upd_ne h2]
  rw [e]
  exact h dx hd
section
variable {P : Program} {w : World} {K : PySem.W.Frag} {mg : Str → Option Value} {base : Heap}
theorem mkN1_of {x qual f : Str} {st : Stmt} {k : Nat} {N ps : List Str} (C : ClsN1 K mg x qual st f) (hps : ps.length = 2) (S : FnScope N ps (defScope st))
    (hb : ∀ (kV doc pm : Value) (an : Option Addr) (cdv ct : Value) (us : List Value), us.length = ps.length → bindArgs (PySem.W.fnOf "__init__" qual (defArgs st) (defBody st) (defScope st) .none kV doc pm an cdv ct) ⟨us, []⟩ = pure (ps.zip us))
    (hbody : ∀ (fa : Addr) (cdv : Value) (A : Around) (outer : List Env) (s : Shared) (H : Hp) (a : Addr) (i : Int) (Q : VK) (E : XK), Room k (A.deeper (envOfC qual (defScope st) s.heap.objs.size fa cdv)) → i.natAbs < 10000 → H a = some (exo a (adr mg x) none) →
      (∀ dx, H dx = none → dx ≠ a → Q .non (upd (upd H dx (exd dx [(f, .int i)])) a (exo a (adr mg x) (some dx)))) →
      ∃ t, PSs (cxOf L2.CX0 P w K mg base N qual (defScope st) fa cdv A outer s H E).nox (defBody st) t ∧ t { nx := fun _ H' => Q .non H', rt := Q } (start N [.ref a, .int i]) H) : MkN1 P w K mg base (k + 1) x f ps := by
  obtain ⟨fI, fd, iC, tI, F⟩ := C.i
  refine ⟨C.g, C.o, fI, fd, iC, tI, F.ok S (fun vs H Q E ⟨a, i, e, _⟩ => by rw [e, hps]; rfl) fun cdv A outer s H vs Q E hr ⟨a, i, e, hi, h, q⟩ => ?_, F.binds hb⟩
  subst e
  exact hbody fI cdv A outer s H a i Q E hr hi h q
end
end Fl

set_option Elab.async false
set_option linter.all false
set_option maxRecDepth 100000
set_option maxHeartbeats 4000000
/-! [f(y) for x in xs for y in x] -/
namespace Fl
open PySem PySem.Spec PyProof.Rows L2
section
variable {S : List Addr} {H1 : Hp} {Q : VK} {K : PySem.W.Frag}
theorem lcLM {a : Addr} {es : List (List PyData)} {f : PyData → PyData} {g1 : TG} {te : TE} {vs vs1 : List Nat} {σ : L2.St} {i0 : Nat} (hS : Al S H1) (ha : Dq S H1 (.ref a) (.list (es.map PyData.list))) (hz : es.flatten.length < 1000)
    (hw : ∀ x, wipe ((wipe σ vs).set i0 (some x)) vs = wipe σ vs) (hi0 : ∀ x, ((wipe σ vs).set i0 (some x))[i0]? = some (some x))
    (step : ∀ (D : Addr) (e : PyData) (x x2 : V) (H : Hp), H1 D = none → e ∈ es.flatten → Same H1 H → Al (D :: S) H → Dq (D :: S) H x2 e → ∀ (R : V → Hp → Prop), (∀ y H4, Same H H4 → Dq (D :: S) H4 y (f e) → R y H4) →
      g1 x2 (wipe ((wipe σ vs).set i0 (some x)) vs1) H fun σ2 H2 => wipe σ2 vs1 = wipe ((wipe σ vs).set i0 (some x)) vs1 ∧ te σ2 H2 R)
    (q : ∀ (D : Addr) (H : Hp), Same H1 H → H1 D = none → Dq S H (.ref D) (.list (es.flatten.map f)) → Q (.ref D) H) :
    lc2K (Itl K a) (gName i0) tYes (iList K (tVar i0)) g1 tYes te vs vs1 σ H1 Q := by
  intro D hD
  obtain ⟨a', xs, ea, na, hxs, hall⟩ := ha.lstE
  cases ea
  have hlx := hall.len
  rw [List.length_map] at hlx
  have hDa : a ≠ D := fun e => by rw [e, hD] at hxs; cases hxs
  have hDS : D ∉ S := hS.ni hD
  refine ⟨fun i m H => m = xs.length - i ∧ i ≤ xs.length ∧ FlatAt S H1 D ((es.take i).flatten.map f) H, ⟨_, rfl, Nat.zero_le _, ⟨⟨[], upd_same, .nil⟩, Fr.same (Fl.Same.new hD)⟩⟩, ?_⟩
  rintro i m H ⟨rfl, hle, F⟩
  have hsm : Same H1 H := sm_of hD F.fr
  have qa : SqL K H a xs := SqL.of (F.fr a _ (by simpa using hDa) hxs)
  by_cases hlt : i < xs.length
  · refine .inr ⟨⟨xs, xs[i], qa, by simp [hlt]⟩, FlatAt S H1 D ((es.take (i + 1)).flatten.map f), fun H' p => ⟨xs.length - (i + 1), by omega, rfl, hlt, p⟩, fun x H' y => ?_⟩
    obtain ⟨e, y⟩ := y
    subst e
    have hx := y xs qa
    refine g_name ⟨hw x, g_yesI ?_⟩
    obtain ⟨e, he, dx⟩ := ((hall.new hD).same hsm).getM hx
    obtain ⟨b, zs, rfl, nb, hb, hB⟩ := dx.lstE
    have hDb : b ≠ D := fun e => nb (by rw [e]; simp)
    have hlz := hB.len
    have hflat : (es.take (i + 1)).flatten = (es.take i).flatten ++ e := by
      rw [List.take_succ, he, List.flatten_append]
      simp
    have hsub : (es.take (i + 1)).flatten.length ≤ es.flatten.length := by
      conv => rhs; rw [← List.take_append_drop (i + 1) es, List.flatten_append, List.length_append]
      omega
    have hmem : ∀ z, z ∈ e → z ∈ es.flatten := fun z m => List.mem_flatten.mpr ⟨e, List.mem_of_getElem? he, m⟩
    refine g_il (g_var (hi0 _) (g_el (SqL.of hb) ?_))
    refine ⟨fun j k H => k = zs.length - j ∧ j ≤ zs.length ∧ FlatAt S H1 D (((es.take i).flatten ++ e.take j).map f) H ∧ Fr [D] H' H, ⟨_, rfl, Nat.zero_le _, by simpa using F, Fr.refl⟩, ?_⟩
    rintro j k H2 ⟨rfl, hj, F2, f2⟩
    have qb : SqL K H2 b zs := SqL.of (f2 b _ (by simpa using hDb) hb)
    by_cases hjl : j < zs.length
    · refine .inr ⟨⟨zs, zs[j], qb, by simp [hjl]⟩, fun H => FlatAt S H1 D (((es.take i).flatten ++ e.take (j + 1)).map f) H ∧ Fr [D] H' H, fun H3 p => ⟨zs.length - (j + 1), by omega, rfl, hjl, p⟩, fun x2 H3 y2 => ?_⟩
      obtain ⟨e2, y2⟩ := y2
      subst e2
      have hx2 := y2 zs qb
      obtain ⟨⟨acc, hacc, hA⟩, hf⟩ := F2
      have hfS : Fr (D :: S) H' H3 := f2.mono fun b m => by simpa using Or.inl (show b = D by simpa using m)
      obtain ⟨e', he', dx2⟩ := (hB.fr hfS).get hx2
      have hal := hA.len
      rw [List.length_map] at hal
      have hlen : ((es.take i).flatten ++ e.take j).length < 1000 := by
        rw [hflat] at hsub
        rw [List.length_append] at hsub ⊢
        rw [List.length_take]
        omega
      have al3 : Al (D :: S) H3 := .cons (by rw [hacc]; simp) (hS.same (sm_of hD hf))
      have st := step D e' (.ref b) x2 H3 hD (hmem e' (List.mem_of_getElem? he')) (sm_of hD hf) al3 dx2 (fun y H7 => ∃ acc, H7 D = some (.lst acc) ∧ acc.length < sizeLine ∧ (FlatAt S H1 D (((es.take i).flatten ++ e.take (j + 1)).map f) (upd H7 D (.lst (acc ++ [y]))) ∧ Fr [D] H' (upd H7 D (.lst (acc ++ [y]))))) (fun y H7 sm7 dy => ?_)
      · exact st
      · refine ⟨acc, sm7 _ _ hacc, ?_, ⟨⟨acc ++ [y], upd_same, ?_⟩, (hf.trans (Fr.same sm7)).trans (Fr.upd (by simp))⟩, (f2.trans (Fr.same sm7)).trans (Fr.upd (by simp))⟩
        · have : (1000 : Nat) ≤ sizeLine := by decide
          omega
        · rw [List.take_succ, he', ← List.append_assoc, List.map_append]
          exact ((hA.same sm7).app (.one dy)).fr (Fr.upd (by simp))
    · have ej : j = zs.length := by omega
      subst ej
      refine .inl ⟨⟨zs, qb, Nat.le_refl _⟩, ?_⟩
      rw [hflat]
      rw [List.take_of_length_le (l := e) (i := zs.length) (by omega)] at F2
      exact F2
  · have e : i = xs.length := by omega
    subst e
    refine .inl ⟨⟨xs, qa, Nat.le_refl _⟩, ?_⟩
    rw [List.take_of_length_le (by omega)] at F
    obtain ⟨⟨acc, hacc, hA⟩, hf⟩ := F
    exact q D _ hsm hD (.lst hDS hacc hA.tail)
end
end Fl

set_option Elab.async false
set_option linter.all false
set_option maxRecDepth 100000
set_option maxHeartbeats 4000000
/-! own classes made with values alone -/
namespace Fl
open PySem PySem.Spec PyProof.Rows L2
structure MkP (P : Program) (w : World) (K : PySem.W.Frag) (mg : Str → Option Value) (base : Heap) (k : Nat) (x : Str) (sp : Sp) : Prop where
  ex : ∃ (f : Addr) (fd : FuncData) (ps : List Str), mg x = some (.ref (adr mg x)) ∧ Mk K (adr mg x) f ∧ FnOk P w K mg base L2.CX0 k f fd ps sp ∧ L2.Binds K fd ps []
theorem InI.makeP {P : Program} {w : World} {K : PySem.W.Frag} {mg : Str → Option Value} {base : Heap} {x qual : Str} {st : Stmt} {fs : List Str} {kws : List (Str × V)} {ps : List Str} {k : Nat} {sp : Sp} (D : InI P w K mg base k x qual st fs kws ps sp)
    (hb : ∀ (kV doc pm : Value) (an : Option Addr) (cdv ct : Value) (us : List Value), us.length = ps.length → bindArgs (PySem.W.fnOf "__init__" qual (defArgs st) (defBody st) (defScope st) .none kV doc pm an cdv ct) ⟨us, []⟩ = pure (ps.zip us)) :
    MkP P w K mg base k x sp := by
  obtain ⟨f, fd, a, M, F, G⟩ := D.ex
  exact ⟨f, fd, ps, a, M, G, F.bindsN hb⟩
theorem pe_mkP {X : Cx} {mg : Str → Option Value} {k : Nat} {x : Str} {sp : Sp} {e : Expr} {es : List Expr} {t : TA} {p pos : Pos} (em : X.mg = mg) (h : MkP X.prog X.w X.K X.mg X.base k x sp) (hr : Room (k + 1) X.A) (ha : PA X (e :: es) t) (hg : Gl X x := by rfl)
    (hdb : (x == ("__debug__" : Str)) = false := by decide) (he : starEach (e :: es) X.env = (false, eval e X.env) :: starEach es X.env := by rfl) (hpl : (backTo pos (starEach es X.env)).any (·.1) = false := by rfl) :
    PE X (.Call (.Name x p) (e :: es) [] pos) (tMake (adr mg x) sp [] E0 t) := by
  subst em
  obtain ⟨f, fd, ps, a, b, c, d⟩ := h.ex
  exact pe_make b c hr hg a d .nil pass0 ha hdb he hpl
theorem g_mkP {C : Addr} {sp : Sp} {E : XK} {t : TA} {σ : L2.St} {H : Hp} {Q : VK} (h : t σ H fun vs H1 => ∀ x dx, H1 x = none → H1 dx = none → dx ≠ x → sp (.ref x :: (vs ++ [])) (upd (upd H1 dx (.own x)) x (.ins C dx [])) (fun v H2 => v = .non ∧ Q (.ref x) H2) E) : tMake C sp [] E t σ H Q := h
end Fl

set_option Elab.async false
set_option linter.all false
set_option maxRecDepth 100000
set_option maxHeartbeats 4000000
/-! calls of own defs within an except suite -/
namespace Fl
open PySem PySem.Spec PyProof.Rows L2 L2H HotX
structure HasH (P : Program) (w : World) (K : PySem.W.Frag) (mg : Str → Option Value) (base : Heap) (k : Nat) (x : Str) (ps : List Str) (sp : Sp) : Prop where
  ex : ∃ (f : Addr) (fd : FuncData), FnH P w K mg base L2.CX0 k f fd ps sp ∧ mg x = some (.ref f) ∧ PySem.W.keepIn K (.ref f) = true ∧ L2.Binds K fd ps []
abbrev bxH (P : Program) (w : World) (K : PySem.W.Frag) (mg : Str → Option Value) (base : Heap) (N : List Str) (x : Str) (st : Stmt) (f : Addr) (cdv : Value) (A : Around) (outer : List Env) (s : Shared) (H : Hp) (E : XK) (p : Addr × Obj) : Cx :=
  cxH L2.CX0 P w K mg base N x (defScope st) f cdv A outer s H E p
theorem hasH_of {P : Program} {w : World} {K : PySem.W.Frag} {mg : Str → Option Value} {base : Heap} {x : Str} {st : Stmt} {N ps : List Str} {k : Nat} {sp : Sp} (D : DefIn K mg x st) (S : FnScope N ps (defScope st))
    (hb : ∀ (kV doc pm : Value) (an : Option Addr) (cdv ct : Value) (us : List Value), us.length = ps.length → bindArgs (PySem.W.fnOf x x (defArgs st) (defBody st) (defScope st) .none kV doc pm an cdv ct) ⟨us, []⟩ = pure (ps.zip us))
    (len : ∀ vs H Q E, sp vs H Q E → vs.length = ps.length)
    (hbody : ∀ (f : Addr) (cdv : Value) (A : Around) (outer : List Env) (s : Shared) (H : Hp) (vs : List V) (Q : VK) (E : XK) (p : Addr × Obj), Hot1 A p → RoomH k (A.deeper (envOfC x (defScope st) s.heap.objs.size f cdv)) → sp vs H Q E →
      ∃ t, PSs (bxH P w K mg base N x st f cdv A outer s H E p) (defBody st) t ∧ t { nx := fun _ H' => Q .non H', rt := Q } (start N vs) H) : HasH P w K mg base (k + 1) x ps sp := by
  obtain ⟨f, fd, F, m⟩ := D.ex
  refine ⟨f, fd, ?_, m, F.kp, F.binds hb⟩
  obtain ⟨oc, od, kV, doc, pm, an, cdv, ct, osl, rfl, lk, hcd⟩ := F.ex
  exact fn_ofH lk hcd S len fun A outer s H vs Q E p hot hr hsp => hbody f cdv A outer s H vs Q E p hot hr hsp
theorem roomH_mk {k : Nat} {A : Around} {h : Option Value} (r : Room k A) : RoomH k (A.mark h) := ⟨r.dp, r.un⟩
theorem hotC_of {X : Cx} {a : Addr} {oe : Obj} {cls : Value} {d : Option Addr} (hz : L2N.Zn cls d oe) (hf : ∃ vs, oe.data = .fields vs) (hA : X.A.handled = some (.ref a)) (hp : (a, oe) ∈ X.pn) : HotC X := by
  obtain ⟨vs, hd⟩ := hf
  exact ⟨(a, oe), ⟨hA, vs, hd, hz.2.2 vs hd⟩, hp⟩
theorem pe_hH {X : Cx} {k : Nat} {x : Str} {ps : List Str} {sp : Sp} {e : Expr} {es : List Expr} {t : TA} {p pos : Pos} (h : HasH X.prog X.w X.K X.mg X.base k x ps sp) (hr : RoomH k X.A) (hc : HotC X) (ha : PA X (e :: es) t) (hg : Gl X x := by rfl)
    (hdb : (x == ("__debug__" : Str)) = false := by decide) (he : starEach (e :: es) X.env = (false, eval e X.env) :: starEach es X.env := by rfl) (hpl : (backTo pos (starEach es X.env)).any (·.1) = false := by rfl) :
    PE X (.Call (.Name x p) (e :: es) [] pos) (tCallS sp (fun _ => L2.E0) t) := by
  obtain ⟨f, fd, a, b, c, d⟩ := h.ex
  exact pe_callH a hr hc hg b c d (fun _ _ _ _ _ _ _ z => z.elim) ha hdb he hpl

/-! own errors raised where nothing is handled, known to have no context -/
theorem takes0N {X : Cx} : L2N.Takes X (fun _ _ _ _ => False) := by
  intro u s' x
  obtain ⟨a, B, sI, pins, σ, H, cls, d, e, I, nb, up, sky, na, os, ag, z⟩ := x
  exact z.elim
structure HasXN (P : Program) (w : World) (K : PySem.W.Frag) (mg : Str → Option Value) (base : Heap) (k : Nat) (x : Str) (ps : List Str) (sp : Sp) : Prop where
  ex : ∃ (f : Addr) (fd : FuncData), FnOk P w K mg base (L2N.CX P w) k f fd ps sp ∧ mg x = some (.ref f) ∧ PySem.W.keepIn K (.ref f) = true ∧ L2.Binds K fd ps []
abbrev bxXN (P : Program) (w : World) (K : PySem.W.Frag) (mg : Str → Option Value) (base : Heap) (N : List Str) (x : Str) (st : Stmt) (f : Addr) (cdv : Value) (A : Around) (outer : List Env) (s : Shared) (H : Hp) (E : XK) : Cx :=
  cxOf (L2N.CX P w) P w K mg base N x (defScope st) f cdv A outer s H E
theorem hasXN_of {P : Program} {w : World} {K : PySem.W.Frag} {mg : Str → Option Value} {base : Heap} {x : Str} {st : Stmt} {N ps : List Str} {k : Nat} {sp : Sp} (D : DefIn K mg x st) (S : FnScope N ps (defScope st))
    (hb : ∀ (kV doc pm : Value) (an : Option Addr) (cdv ct : Value) (us : List Value), us.length = ps.length → bindArgs (PySem.W.fnOf x x (defArgs st) (defBody st) (defScope st) .none kV doc pm an cdv ct) ⟨us, []⟩ = pure (ps.zip us))
    (len : ∀ vs H Q E, sp vs H Q E → vs.length = ps.length)
    (hbody : ∀ (f : Addr) (cdv : Value) (A : Around) (outer : List Env) (s : Shared) (H : Hp) (vs : List V) (Q : VK) (E : XK), Room k (A.deeper (envOfC x (defScope st) s.heap.objs.size f cdv)) → sp vs H Q E →
      ∃ t, PSs (bxXN P w K mg base N x st f cdv A outer s H E) (defBody st) t ∧ t { nx := fun _ H' => Q .non H', rt := Q } (start N vs) H) : HasXN P w K mg base (k + 1) x ps sp := by
  obtain ⟨f, fd, F, m⟩ := D.ex
  refine ⟨f, fd, ?_, m, F.kp, F.binds hb⟩
  obtain ⟨oc, od, kV, doc, pm, an, cdv, ct, osl, rfl, lk, hcd⟩ := F.ex
  exact fn_of lk hcd S len fun A outer s H vs Q E hr hsp => hbody f cdv A outer s H vs Q E hr hsp
theorem pe_hXN {X : Cx} {k : Nat} {x : Str} {ps : List Str} {sp : Sp} {W : WX} {e : Expr} {es : List Expr} {t : TA} {p pos : Pos} (h : HasXN X.prog X.w X.K X.mg X.base k x ps sp) (hr : Room k X.A) (tk : L2N.Takes X W) (ha : PA X (e :: es) t) (hg : Gl X x := by rfl)
    (hdb : (x == ("__debug__" : Str)) = false := by decide) (he : starEach (e :: es) X.env = (false, eval e X.env) :: starEach es X.env := by rfl) (hpl : (backTo pos (starEach es X.env)).any (·.1) = false := by rfl) :
    PE X (.Call (.Name x p) (e :: es) [] pos) (tCallS sp (WE W) t) := by
  obtain ⟨f, fd, a, b, c, d⟩ := h.ex
  exact pe_callS a hr hg b c d (fun σ => L2N.passAt tk σ) ha hdb he hpl
/-- an own error made of one value, its __init__ keeping sp -/
theorem pmk1N {X : Cx} {x : Str} {e : Expr} {ta : TA} {p pos : Pos} {C fI : Addr} {k : Nat} {fd : FuncData} {ps : List Str} {sp : Sp} (T : OexC X.K C) (iC : PySem.W.findIn X.K (.ref C) "__init__" = some (some (.ref fI))) (tI : PySem.W.typeIn X.K (.ref fI) = some (.type "function"))
    (F1 : FnOk X.prog X.w X.K X.mg X.base L2.CX0 k fI fd ps sp) (hr : Room (k + 1) X.A) (hb : L2.Binds X.K fd ps []) (hg : Gl X x) (hm : X.mg x = some (.ref C)) (ha : PA X [e] ta)
    (hdb : (x == ("__debug__" : Str)) = false) (he : starEach [e] X.env = (false, eval e X.env) :: starEach [] X.env) (hpl : (backTo pos (starEach [] X.env)).any (·.1) = false) :
    L2N.PMk X (.Call (.Name x p) [e] [] pos) (tMkO C sp [] ta) := fun pins s σ H Q I h => by
  obtain ⟨_, _, _, _, bm, _, _, _, _, _, _, _, _, _, _, hC, hbm⟩ := T.cls
  refine wpAny_Call_Name_kw (ld_glob I hg hm (PySem.W.callWith_K (h₀ := X.base) I.ok.mod.kin T.kC (thn (ha.run pos pins s σ H _ I h) fun us s1 hs => ?_) he hpl) hdb)
  obtain ⟨vs, H1, I1, r1, _, q1⟩ := hs
  refine ⟨I1.kIn, ?_⟩
  obtain ⟨hp, g, dr, tk, os⟩ := s1
  let n := hp.objs.size
  let G := (hp.push (PySem.W.kdv_tup us)).push (PySem.HandSPX.excO C n)
  have up : n ≤ n + 1 := Nat.le_succ _
  have hq := q1 (n + 1) (I1.hok.fresh up)
  rw [List.append_nil] at hq
  have kk : ∀ b o, hp.get? b = some o → G.get? b = some o := fun b o z => Heap.get?_push_of_some _ (Heap.get?_push_of_some _ z)
  have at1 : G.get? (n + 1) = some (PySem.HandSPX.excO C n) := by
    show ((hp.push (PySem.W.kdv_tup us)).push (PySem.HandSPX.excO C hp.objs.size)).get? (hp.objs.size + 1) = some (PySem.HandSPX.excO C hp.objs.size)
    heap_get
  have I2 : Inv X pins σ (upd H1 (n + 1) (exo (n + 1) C none)) ⟨G, g, dr, tk, os⟩ := I1.laid (t' := tk) (a := n + 1) (o := exo (n + 1) C none) (h' := G) kk up (exo_ok at1)
  have r2 : Vals (V.ref (n + 1) :: vs) (Value.ref (n + 1) :: us) := .cons rfl r1
  have hl : (Value.ref (n + 1) :: us ++ []).length = ps.length := by rw [List.append_nil]; exact r2.length.symm.trans (F1.len _ _ _ _ hq)
  have b2 := hb _ (Value.ref (n + 1) :: us) I2.kIn hl
  rw [List.append_nil] at b2
  have hus : us.length ≤ sizeLine := by rw [← Paired.length r1, sizeLine_eq]; omega
  have run := F1.run _ X.stack _ _ ⟨Value.ref (n + 1) :: us, []⟩ (Value.ref (n + 1) :: us) _ _ (fun _ _ _ => False) (hr.make C us []) (I2.env0.make C us []) b2 r2 hq
  show wpAny _ _ (call (.ref C) us) _ _ _
  refine wpAny_call (PySem.HandSPX.call_own F.excBase_ValueError (fun Y => PySem.HandSPX.refsVE_contains Y bm hbm) (I1.kIn _ _ hC) (PySem.W.looks_findIn I1.kIn iC) (fun self => PySem.W.bind_fn I1.kIn self tI) hus (codeAny_mono run fun r s' z => ?_))
  cases r with
  | error er => exact False.elim z
  | ok fl =>
    cases fl with
    | next => exact False.elim z
    | brk => exact False.elim z
    | cont => exact False.elim z
    | ret u =>
      obtain ⟨v, H2, os2, bare2, un2, hok2, rv, ev, d, fs, ea, ed, hd1, q2⟩ := z
      subst ev
      obtain ⟨h2, g2, d2, t2, os'⟩ := s'
      obtain ⟨t0, G2, J, kG, ge, hoe, na⟩ := mk_end0 (d2 := d2) (t2 := t2) I1 up kk un2 hok2 os2 bare2 ea ed hd1
      refine ⟨rv, n + 1, _, _, ⟨G2, g2, d2, t2, os'⟩, _, .ref C, some d, rfl, J, kG, ge, hoe, ⟨rfl, rfl, fun vs hv => ?_⟩, rfl, rfl, na, rfl, bare2, raises_own T.exC T.tyC, q2⟩
      cases hv
      rfl
theorem ps_raiseN1N {X : Cx} {W : WX} {k : Nat} {x f : Str} {ps : List Str} {e : Expr} {ta : TA} {p pos pos2 : Pos} (M : MkN1 X.prog X.w X.K X.mg X.base k x f ps) (hc : X.calm = true) (hr : Room (k + 1) X.A) (tk : L2N.Takes X W) (ha : PA X [e] ta) (hg : Gl X x := by rfl) (hdb : (x == ("__debug__" : Str)) = false := by decide)
    (he : starEach [e] X.env = (false, eval e X.env) :: starEach [] X.env := by rfl) (hpl : (backTo pos (starEach [] X.env)).any (·.1) = false := by rfl) :
    PS X (.Raise (some (.Call (.Name x p) [e] [] pos)) none pos2) (tRaiseN1 W (adr X.mg x) f ta) := by
  obtain ⟨fI, fd, iC, tI, F, b⟩ := M.i
  exact ⟨fun pins s σ H D I h => (L2N.ps_raise hc tk (pmk1N M.o iC tI F hr b hg M.g ha hdb he hpl)).run pins s σ H D I h⟩
end Fl

set_option Elab.async false
set_option linter.all false
set_option maxRecDepth 100000
set_option maxHeartbeats 4000000
/-! own defs that are handed the error which is handled: what is known of its object (Z) goes with them -/
namespace Fl
open PySem PySem.Spec PyProof.Rows L2 L2H HotX
structure FnZ (P : Program) (w : World) (K : PySem.W.Frag) (mg : Str → Option Value) (base : Heap) (Z : Addr × Obj → Prop) (k : Nat) (f : Addr) (fd : FuncData) (ps : List Str) (sp : Addr → Sp) : Prop where
  len : ∀ a vs H Q E, sp a vs H Q E → vs.length = ps.length
  run : ∀ (A : Around) (outer : List Env) (s : Shared) (H : Hp) (args : Args) (us : List Value) (vs : List V) (Q : VK) (E : XK) (p : Addr × Obj), Z p → RoomH k A → Hot1 A p → PinOk outer H s p → Env0 P w K mg base A outer s H → BindsTo s fd args (ps.zip us) → Vals vs us → sp p.1 vs H Q E →
    codeAny (model P w) A (.call (.ref f) args) (CR L2.CX0 outer P w H s Q E) s
structure HasZ (P : Program) (w : World) (K : PySem.W.Frag) (mg : Str → Option Value) (base : Heap) (Z : Addr × Obj → Prop) (k : Nat) (x : Str) (ps : List Str) (sp : Addr → Sp) : Prop where
  ex : ∃ (f : Addr) (fd : FuncData), FnZ P w K mg base Z k f fd ps sp ∧ mg x = some (.ref f) ∧ PySem.W.keepIn K (.ref f) = true ∧ L2.Binds K fd ps []
theorem hasZ_of {P : Program} {w : World} {K : PySem.W.Frag} {mg : Str → Option Value} {base : Heap} {Z : Addr × Obj → Prop} {x : Str} {st : Stmt} {N ps : List Str} {k : Nat} {sp : Addr → Sp} (D : DefIn K mg x st) (S : FnScope N ps (defScope st))
    (hb : ∀ (kV doc pm : Value) (an : Option Addr) (cdv ct : Value) (us : List Value), us.length = ps.length → bindArgs (PySem.W.fnOf x x (defArgs st) (defBody st) (defScope st) .none kV doc pm an cdv ct) ⟨us, []⟩ = pure (ps.zip us))
    (len : ∀ a vs H Q E, sp a vs H Q E → vs.length = ps.length)
    (hbody : ∀ (f : Addr) (cdv : Value) (A : Around) (outer : List Env) (s : Shared) (H : Hp) (vs : List V) (Q : VK) (E : XK) (p : Addr × Obj), Z p → Hot1 A p → RoomH k (A.deeper (envOfC x (defScope st) s.heap.objs.size f cdv)) → sp p.1 vs H Q E →
      ∃ t, PSs (bxH P w K mg base N x st f cdv A outer s H E p) (defBody st) t ∧ t { nx := fun _ H' => Q .non H', rt := Q } (start N vs) H) : HasZ P w K mg base Z (k + 1) x ps sp := by
  obtain ⟨f, fd, F, m⟩ := D.ex
  refine ⟨f, fd, ⟨len, ?_⟩, m, F.kp, F.binds hb⟩
  obtain ⟨oc, od, kV, doc, pm, an, cdv, ct, osl, rfl, lk, hcd⟩ := F.ex
  intro A outer s H args us vs Q E p hz hr hot hpin e0 hargs r hsp
  have KX : K.In s.heap := e0.mod.kin.keeps fun b o e => (e0.bs b o e).1
  have lim : s.heap.NoLimit := e0.mod.nolimit.keeps fun b o e => (e0.bs b o e).1
  obtain ⟨t, ht, hq⟩ := hbody f cdv A outer s H vs Q E p hz hot (hr.deeper _) hsp
  have hl := len _ _ _ _ _ hsp
  refine codeAny_call_function hr.depth (KX _ _ lk) rfl S.co S.gen rfl (PySem.W.codeRec_of KX hcd) (hargs _ _ _ _ ?_)
  refine wpAny_newFunctionEnv_cells S.kind (fun y hy => ?_) fun env he s1 x1 => ?_
  · obtain ⟨n, v⟩ := y
    exact (S.par n (List.of_mem_zip hy).1).imp id fun q => ⟨q, PySem.W.cellsFrom_some _ _ _ (.inl q)⟩
  subst he
  refine ⟨lim.keeps x1.toInCall.keep, codeAny_func (wpAny_mono (ht.run [] s1 (L2.start N vs) H _ (inv_startH S hpin e0 hl r x1) hq) (fun fl s' hs => ?_) fun e s' hs => hs)⟩
  rcases fl with _ | _ | _ | u
  all_goals first
    | (obtain ⟨_, _, _, z⟩ := hs; exact False.elim z)
    | (obtain ⟨σ', H', J, z⟩ := hs; exact ⟨.non, H', J.os, J.bare, J.base, J.hok, rfl, z⟩)
    | (obtain ⟨v, σ', H', J, rv, z⟩ := hs; exact ⟨v, H', J.os, J.bare, J.base, J.hok, rv, z⟩)
/-- what hot_of needs of the pinned error -/
theorem hot1_of {X : Cx} {a : Addr} {oe : Obj} {cls : Value} {d : Option Addr} (hz : L2N.Zn cls d oe) (hf : ∃ vs, oe.data = .fields vs) (hA : X.A.handled = some (.ref a)) : Hot1 X.A (a, oe) := by
  obtain ⟨vs, hd⟩ := hf
  exact ⟨hA, vs, hd, hz.2.2 vs hd⟩
theorem pe_hZ {X : Cx} {Z : Addr × Obj → Prop} {k : Nat} {x : Str} {ps : List Str} {sp : Addr → Sp} {e : Expr} {es : List Expr} {t : TA} {q pos : Pos} {p : Addr × Obj} (h : HasZ X.prog X.w X.K X.mg X.base Z k x ps sp) (hr : RoomH k X.A) (hz : Z p) (hot : Hot1 X.A p) (hp : p ∈ X.pn) (ha : PA X (e :: es) t) (hg : Gl X x := by rfl)
    (hdb : (x == ("__debug__" : Str)) = false := by decide) (he : starEach (e :: es) X.env = (false, eval e X.env) :: starEach es X.env := by rfl) (hpl : (backTo pos (starEach es X.env)).any (·.1) = false := by rfl) :
    PE X (.Call (.Name x q) (e :: es) [] pos) (tCallS (sp p.1) (fun _ => L2.E0) t) := by
  obtain ⟨f, fd, F, hm, hk, b⟩ := h.ex
  refine ⟨fun pins s σ H Q I h => wpAny_Call_Name_kw (ld_glob I hg hm (PySem.W.callWith_K (h₀ := X.base) I.ok.mod.kin hk (thn (ha.run pos pins s σ H _ I h) fun us s1 hs => ?_) he hpl) hdb)⟩
  obtain ⟨vs, H1, I1, r, z⟩ := hs
  refine ⟨I1.kIn, ?_⟩
  have hl : us.length = ps.length := by rw [← r.length]; exact F.len _ _ _ _ _ z
  have b1 := b s1 us I1.kIn (by rw [List.append_nil]; exact hl)
  rw [List.append_nil] at b1
  have P1 := I1.pin p (List.mem_append_left _ hp)
  have pk : PinOk X.stack H1 s1 p := ⟨P1.1, P1.2.1, fun hm => (List.mem_cons.mp (I1.stkSub p.1 hm)).elim P1.2.2.1 P1.2.2.2.1, P1.2.2.2.2⟩
  refine wpAny_call (codeAny_mono (F.run X.A X.stack s1 H1 ⟨us, []⟩ us vs Q L2.E0 p hz hr hot pk I1.env0 b1 r z) fun r2 s' hq => ?_)
  cases r2 with
  | error e => exact hq.elim
  | ok fl =>
    cases fl with
    | ret u => exact I1.after hq
    | next => exact False.elim hq
    | brk => exact False.elim hq
    | cont => exact False.elim hq
/-- e.f of the pinned error, in any context -/
theorem pe_xfP {X : Cx} {a C : Addr} {oe : Obj} {cls : Value} {d : Option Addr} {e : Expr} {te : TE} {pos : Pos} {n : Str} (T : XfC X.K C) (hno : PySem.W.findIn X.K (.ref C) n = some none) (hp : (a, oe) ∈ X.pn)
    (hz : L2N.Zn cls d oe) (hf : ∃ vs, oe.data = .fields vs) (he : PE X e te) (hb : attributeBase e n X.env (eval e X.env) = eval e X.env := by rfl) : PE X (.Attribute e n pos) (tXf a cls d C n te) := by
  obtain ⟨vs, hd⟩ := hf
  refine ⟨fun pins s σ H Q I h => attr_of hb (thn (he.run pins s σ H _ I h) fun u s1 hh => ?_)⟩
  obtain ⟨x, H1, I1, rx, rfl, rfl, dd, fs, v, rfl, ea, l, q⟩ := hh
  cases (show u = Value.ref a from rx)
  obtain ⟨mA, hns, hr⟩ := (show ObjOk X.prog X.w H1 s1.heap dd (.xd fs) from I1.hok dd _ ea)
  obtain ⟨od, ho, hl⟩ := lookIn_ns hns
  have hrn := hr n
  rw [l] at hrn
  obtain ⟨u, hu, ru⟩ := RelO.some_of hrn
  have J : PySem.W.InstAt s1.heap a oe C (some od) := ⟨(I1.pin _ (List.mem_append_left _ hp)).1, hz.1, by unfold PySem.W.notCls; rw [hd] <;> rfl, by rw [hz.2.1]; exact ho⟩
  exact HandSPX.exc_get I1.kIn J T.ga T.gg T.exC (PySem.W.findObj_own T.hdC hno rfl (by rw [hl, hu])) (handed_of ru) ⟨v, H1, I1.tok _, ru, q⟩
section
variable {X : Cx}
theorem pmk0N {CX : CXT} {x : Str} {C fI : Addr} {k : Nat} {fd : FuncData} {ps : List Str} {sp : Sp} {p pos : Pos} (T : OexC X.K C) (iC : PySem.W.findIn X.K (.ref C) "__init__" = some (some (.ref fI))) (tI : PySem.W.typeIn X.K (.ref fI) = some (.type "function"))
    (F1 : FnOk X.prog X.w X.K X.mg X.base CX k fI fd ps sp) (hr : Room (k + 1) X.A) (hb : L2.Binds X.K fd ps []) (hx : Passes CX X (fun _ _ _ => False)) (hg : Gl X x) (hm : X.mg x = some (.ref C)) (hdb : (x == ("__debug__" : Str)) = false := by decide) :
    L2N.PMk X (.Call (.Name x p) [] [] pos) (tMkN C sp) := by
  intro pins s σ H Q I h
  obtain ⟨nm, q, N, bs, bm, sn, sub, ab, col, dd, k0, k1, k2, k3, k5, hC, hbm⟩ := T.cls
  refine wpAny_Call_Name_kw (ld_glob I hg hm (PySem.W.callWith_K0 I.kIn T.kC ?_) hdb)
  show wpAny _ _ (call (.ref C) []) _ _ _
  obtain ⟨hp, g, dr, tk, os⟩ := s
  have hsz : hp.objs.size ≤ hp.objs.size + 1 := Nat.le_succ _
  have hn : H (hp.objs.size + 1) = none := I.hok.fresh hsz
  have hq := h (hp.objs.size + 1) hn
  have kk : ∀ b o, hp.get? b = some o → ((hp.push (PySem.W.kdv_tup [])).push (PySem.HandSPX.excO C hp.objs.size)).get? b = some o := fun b o e => Heap.get?_push_of_some _ (Heap.get?_push_of_some _ e)
  have here : ((hp.push (PySem.W.kdv_tup [])).push (PySem.HandSPX.excO C hp.objs.size)).get? (hp.objs.size + 1) = some (PySem.HandSPX.excO C hp.objs.size) := by heap_get
  have I2 : Inv X pins σ (upd H (hp.objs.size + 1) (exo (hp.objs.size + 1) C none)) ⟨(hp.push (PySem.W.kdv_tup [])).push (PySem.HandSPX.excO C hp.objs.size), g, dr, tk, os⟩ := I.laid (t' := tk) kk hsz (exo_ok here)
  have r2 : Vals [V.ref (hp.objs.size + 1)] [Value.ref (hp.objs.size + 1)] := .cons rfl .nil
  have hl : ([Value.ref (hp.objs.size + 1)] ++ ([] : List Value)).length = ps.length := (F1.len _ _ _ _ hq)
  refine wpAny_call (PySem.HandSPX.call_own F.excBase_ValueError (fun Y => PySem.HandSPX.refsVE_contains Y bm hbm) (I.kIn _ _ hC) (PySem.W.looks_findIn I.kIn iC) (fun self => PySem.W.bind_fn I.kIn self tI) (Nat.zero_le _)
    (codeAny_mono (F1.run _ X.stack _ _ ⟨[Value.ref (hp.objs.size + 1)], []⟩ [Value.ref (hp.objs.size + 1)] _ _ (fun _ _ _ => False) (hr.make C [] []) (I2.env0.make C [] []) (hb _ _ I2.kIn hl) r2 hq) fun r s' hq' => ?_))
  match r, hq' with
  | .error er, hq' => exact hx pins σ _ _ er s' I2 hq'
  | .ok (.ret u), ⟨v, H2, os2, bare2, un2, hok2, rv, ev, ea, q2⟩ =>
    subst ev
    obtain ⟨h2, g2, d2, t2, os'⟩ := s'
    obtain ⟨t0, G, J, kG, ge, hoe⟩ := mk_nod (d2 := d2) (t2 := t2) I hsz kk un2 hok2 os2 bare2 ea
    exact ⟨rv, _, _, _, ⟨G, g2, d2, t2, os'⟩, _, .ref C, none, rfl, J, kG, ge, hoe, ⟨rfl, rfl, fun vs hv => by cases hv; rfl⟩, rfl, rfl, del_same, rfl, bare2, raises_own T.exC T.tyC, q2⟩
theorem ps_raiseNN {X : Cx} {W : WX} {k : Nat} {x : Str} {p pos pos2 : Pos} (M : MkX X.prog X.w X.K X.mg X.base k x) (hc : X.calm = true) (hr : Room (k + 1) X.A) (tk : L2N.Takes X W) (hg : Gl X x := by rfl) (hdb : (x == ("__debug__" : Str)) = false := by decide) :
    PS X (.Raise (some (.Call (.Name x p) [] [] pos)) none pos2) (tRaiseN W (adr X.mg x)) := by
  obtain ⟨fI, fd, iC, tI, F, b⟩ := M.i
  refine ⟨fun pins s σ H D I h => (L2N.ps_raise hc tk (pmk0N (CX := L2.CX0) M.o iC tI F hr b (fun _ _ _ _ _ _ _ z => z.elim) hg M.g hdb)).run pins s σ H D I fun a ha => ⟨a, rfl, upd_same, rfl, upd_same, ?_⟩⟩
  rw [del_upd ha]
  exact h
end
end Fl

set_option Elab.async false
set_option linter.all false
/-! the factor of a tent at a share, and of a region: numbers only -/
namespace Fl
theorem rlt_le {a b c : Rat} (h : a < b) (k : b ≤ c) : a < c := by
  apply Rat.not_le.mp
  intro h2
  exact Rat.not_le.mpr h (Rat.le_trans k h2)
theorem rle_lt {a b c : Rat} (h : a ≤ b) (k : b < c) : a < c := by
  apply Rat.not_le.mp
  intro h2
  exact Rat.not_le.mpr k (Rat.le_trans h2 h)
theorem iq_cast (n : Int) : iq n = (n : Rat) := by
  have h : (iq n).num = n ∧ (iq n).den = 1 := by
    unfold iq
    rw [Rat.den_divInt, Rat.num_divInt]
    simp
  exact Rat.ext h.1 h.2
theorem iq_num (n : Int) : (iq n).num = n := by rw [iq_cast]; rfl
theorem iq_den (n : Int) : (iq n).den = 1 := by rw [iq_cast]; rfl
theorem iq_inj {a b : Int} (h : iq a = iq b) : a = b := by
  have := congrArg Rat.num h
  rwa [iq_num, iq_num] at this
theorem iq_lt {a b : Int} : iq a < iq b ↔ a < b := by
  rw [Rat.lt_iff, iq_num, iq_den, iq_num, iq_den]
  omega
/-- the factor of a tent at a share -/
def tf (t : Int × Int × Int) (x : Rat) : Rat :=
  if t.2.1 = 0 ∨ x * iq 64 = iq t.2.1 then iq 1 else
    if cq (x * iq 64) (iq t.1) ≤ 0 ∨ 0 ≤ cq (x * iq 64) (iq t.2.2) then iq 0 else
      if cq (x * iq 64) (iq t.2.1) < 0 then (x * iq 64 - iq t.1) / (iq t.2.1 - iq t.1) else (iq t.2.2 - x * iq 64) / (iq t.2.2 - iq t.2.1)
theorem cq_neg {x y : Rat} : cq x y < 0 ↔ x < y := by
  unfold cq
  constructor
  · intro h
    split at h
    · assumption
    · split at h <;> omega
  · intro h
    rw [if_pos h]
    decide
theorem cq_le {x y : Rat} : cq x y ≤ 0 ↔ ¬ y < x := by
  unfold cq
  constructor
  · intro h k
    split at h
    · rename_i h2
      exact absurd k (Rat.not_lt.mpr (Rat.le_of_lt h2))
    · omega
  · intro h
    split
    · decide
    · decide
theorem cq_ge {x y : Rat} : 0 ≤ cq x y ↔ ¬ x < y := by
  have := @cq_neg x y
  constructor
  · intro h k
    have := this.mpr k
    omega
  · intro h
    have h2 : ¬ cq x y < 0 := fun k => h (this.mp k)
    omega
theorem u_div {p q : Rat} (h0 : 0 < p) (h1 : p < q) : 0 ≤ p / q ∧ p / q ≤ 1 := by
  have hq : 0 < q := rle_lt (Rat.le_of_lt h0) h1
  constructor
  · rw [Rat.div_def]
    exact Rat.mul_nonneg (Rat.le_of_lt h0) (Rat.le_of_lt (Rat.inv_pos.mpr hq))
  · apply Rat.le_of_lt
    rw [Rat.div_lt_iff hq, Rat.one_mul]
    exact h1
theorem u_mul {p q : Rat} (hp : 0 ≤ p ∧ p ≤ 1) (hq : 0 ≤ q ∧ q ≤ 1) : 0 ≤ p * q ∧ p * q ≤ 1 := by
  refine ⟨Rat.mul_nonneg hp.1 hq.1, Rat.le_trans (Rat.mul_le_mul_of_nonneg_left hq.2 hp.1) ?_⟩
  rw [Rat.mul_one]
  exact hp.2
theorem u_iq1 : 0 ≤ iq 1 ∧ iq 1 ≤ 1 := by decide
theorem u_iq0 : 0 ≤ iq 0 ∧ iq 0 ≤ 1 := by decide
theorem sub_lt_r {a b c : Rat} (h : a < b) : a - c < b - c := by
  rw [Rat.sub_eq_add_neg, Rat.sub_eq_add_neg]
  exact Rat.add_lt_add_right.mpr h
theorem sub_lt_l {a b c : Rat} (h : a < b) : c - b < c - a := by
  rw [Rat.sub_eq_add_neg, Rat.sub_eq_add_neg]
  exact Rat.add_lt_add_left.mpr (Rat.neg_lt_neg h)
theorem tf_u (t : Int × Int × Int) (x : Rat) : 0 ≤ tf t x ∧ tf t x ≤ 1 := by
  unfold tf
  split
  · exact u_iq1
  rename_i h1
  split
  · exact u_iq0
  rename_i h2
  rw [not_or] at h1 h2
  have ha : iq t.1 < x * iq 64 := Decidable.not_not.mp fun h => h2.1 (cq_le.mpr h)
  have hc : x * iq 64 < iq t.2.2 := Decidable.not_not.mp fun h => h2.2 (cq_ge.mpr h)
  split
  · rename_i h3
    exact u_div ((Rat.lt_iff_sub_pos _ _).mp ha) (sub_lt_r (cq_neg.mp h3))
  · rename_i h3
    have hb : iq t.2.1 < x * iq 64 := by
      rcases Rat.le_iff_lt_or_eq.mp (Rat.not_lt.mp fun h => h3 (cq_neg.mpr h)) with h | h
      · exact h
      · exact absurd h.symm h1.2
    exact u_div ((Rat.lt_iff_sub_pos _ _).mp hc) (sub_lt_l hb)
/-- where tf divides, it does not divide by 0 -/
theorem tf_b1 {t : Int × Int × Int} {x : Rat} (h2 : ¬ cq (x * iq 64) (iq t.1) ≤ 0) (h3 : cq (x * iq 64) (iq t.2.1) < 0) : t.1 < t.2.1 := by
  have ha : iq t.1 < x * iq 64 := Decidable.not_not.mp fun h => h2 (cq_le.mpr h)
  exact iq_lt.mp (rlt_le ha (Rat.le_of_lt (cq_neg.mp h3)))
theorem tf_b2 {t : Int × Int × Int} {x : Rat} (h2 : ¬ 0 ≤ cq (x * iq 64) (iq t.2.2)) (h3 : ¬ cq (x * iq 64) (iq t.2.1) < 0) : t.2.1 < t.2.2 := by
  have hc : x * iq 64 < iq t.2.2 := Decidable.not_not.mp fun h => h2 (cq_ge.mpr h)
  exact iq_lt.mp (rle_lt (Rat.not_lt.mp fun h => h3 (cq_neg.mpr h)) hc)
theorem iq_sub (a b : Int) : iq a - iq b = iq (a - b) := by
  rw [iq_cast, iq_cast, iq_cast, Rat.intCast_sub]
theorem peak_iq (b : Int) : Rat.divInt b 64 * iq 64 = iq b := by
  rw [iq_cast, iq_cast, Rat.divInt_eq_div]
  exact Rat.div_mul_cancel (by decide)
theorem tf_peak (t : Int × Int × Int) : tf t (Rat.divInt t.2.1 64) = iq 1 := by
  unfold tf
  rw [if_pos (.inr (peak_iq _))]
def fa (l : List ((Int × Int × Int) × Rat)) : Rat := l.foldl (fun r q => r * tf q.1 q.2) (iq 1)
theorem fa_snoc (l : List ((Int × Int × Int) × Rat)) (q : (Int × Int × Int) × Rat) : fa (l ++ [q]) = fa l * tf q.1 q.2 := by
  unfold fa
  rw [List.foldl_append]
  rfl
theorem fa_u_aux (l : List ((Int × Int × Int) × Rat)) : ∀ r : Rat, (0 ≤ r ∧ r ≤ 1) → 0 ≤ l.foldl (fun r q => r * tf q.1 q.2) r ∧ l.foldl (fun r q => r * tf q.1 q.2) r ≤ 1 := by
  induction l with
  | nil => intro r h; exact h
  | cons q l ih => intro r h; exact ih _ (u_mul h (tf_u _ _))
theorem fa_u (l : List ((Int × Int × Int) × Rat)) : 0 ≤ fa l ∧ fa l ≤ 1 := fa_u_aux l _ u_iq1
theorem fa_num {x : Rat} (h : 0 ≤ x ∧ x ≤ 1) : ¬ x.num < 0 ∧ ¬ (x.den : Int) < x.num := by
  have h1 := Rat.num_nonneg.mpr h.1
  have h2 := (Rat.le_iff _ _).mp h.2
  have e1 : (1 : Rat).num = 1 := rfl
  have e2 : (1 : Rat).den = 1 := rfl
  rw [e1, e2] at h2
  omega
theorem fa_peaks (ps : List (Int × Int × Int)) : fa (ps.zip (ps.map fun t => Rat.divInt t.2.1 64)) = iq 1 := by
  have : ∀ r : Rat, (ps.zip (ps.map fun t => Rat.divInt t.2.1 64)).foldl (fun r q => r * tf q.1 q.2) r = r := by
    induction ps with
    | nil => intro r; rfl
    | cons t ps ih =>
      intro r
      show (ps.zip (ps.map fun t => Rat.divInt t.2.1 64)).foldl (fun r q => r * tf q.1 q.2) (r * tf t (Rat.divInt t.2.1 64)) = r
      rw [ih, tf_peak, iq_cast]
      exact Rat.mul_one r
  exact this _

open PySem PySem.Spec PyProof.Rows L2
theorem rv_iq {K : PySem.W.Frag} {H : Hp} {a : Addr} {p : Int} (h : SqT K H a [.int p, .int 1]) : RV K H a (iq p) := rv_int h
theorem rv_isq {K : PySem.W.Frag} {H : Hp} {a : Addr} {p : Int} (h : RV K H a (iq p)) : SqT K H a [.int p, .int 1] := by
  have := h.sq
  rw [iq_num, iq_den] at this
  exact this
theorem iq_sz (n : Int) (h : n.natAbs < 2 ^ 8) : Szq 8 (iq n) := ⟨by rw [iq_num]; exact h, by rw [iq_den]; decide⟩
theorem mul64 (x : Rat) : Rat.divInt (x.num * 64) (x.den : Int) = x * iq 64 := by
  have := mul_div' x (iq 64)
  rw [iq_num, iq_den] at this
  rw [← this]
  simp
theorem div_iq (x : Rat) (m : Int) : Rat.divInt x.num ((x.den : Int) * m) = x / iq m := by
  have := div_div' x (iq m)
  rw [iq_num, iq_den] at this
  rw [← this]
  simp
theorem Szq.mono {j k : Nat} {x : Rat} (h : Szq j x) (e : j ≤ k) : Szq k x := by
  have := Nat.pow_le_pow_right (show 0 < 2 by decide) e
  obtain ⟨h1, h2⟩ := h
  exact ⟨by omega, by omega⟩
theorem tf_sz {t : Int × Int × Int} {x : Rat} (hx : Szq 10 x) (h1 : t.1.natAbs < 2 ^ 8) (h2 : t.2.1.natAbs < 2 ^ 8) (h3 : t.2.2.natAbs < 2 ^ 8) : Szq 50 (tf t x) := by
  have hat : Szq (10 + 8) (x * iq 64) := hx.mul (iq_sz 64 (by decide))
  unfold tf
  split
  · exact (iq_sz 1 (by decide)).mono (by decide)
  split
  · exact (iq_sz 0 (by decide)).mono (by decide)
  rename_i g1 g2
  rw [not_or] at g2
  split
  · rename_i g3
    have := tf_b1 g2.1 g3
    refine (Szq.div (hat.sub (iq_sz _ h1)) ((iq_sz _ h2).sub (iq_sz _ h1)) ?_).mono (by decide)
    rw [iq_sub]
    intro e
    have := iq_inj (e.trans (iq_cast 0).symm)
    omega
  · rename_i g3
    have := tf_b2 g2.2 g3
    refine (Szq.div ((iq_sz _ h3).sub hat) ((iq_sz _ h3).sub (iq_sz _ h2)) ?_).mono (by decide)
    rw [iq_sub]
    intro e
    have := iq_inj (e.trans (iq_cast 0).symm)
    omega
end Fl

set_option Elab.async false
set_option linter.all false
set_option maxRecDepth 100000
set_option maxHeartbeats 4000000
/-! tests of comparisons in a row, however many -/
namespace Fl
open PySem PySem.Spec PyProof.Rows L2
/-- the rest of a row of comparisons, the left value known -/
def LinkT (X : Cx) (pos : Pos) (ops : List CmpOp) (bs : List Expr) (t : V → TT) : Prop :=
  ∀ (pins : List (Addr × Obj)) (s : Shared) (σ : L2.St) (H : Hp) (x : V) (v : Value) (Q : Bool → Hp → Prop), L2.Inv X pins σ H s → L2.RelV x v → t x σ H Q →
    wpAny (model X.prog X.w) X.A (testChain pos v ops (evalEach bs X.env)) (fun k s' => ∃ H', L2.Inv X pins σ H' s' ∧ Q k H') X.xe s
def tLink1 (r : R2) (tb : TE) : V → TT := fun x σ H Q => tb σ H fun y H2 => r x y H2 fun z H3 => ∃ k, z = .bl k ∧ Q k H3
def tLinkS (r : R2) (tb : TE) (t : V → TT) : V → TT := fun x σ H Q => tb σ H fun y H2 => r x y H2 fun z H3 => ∃ k, z = .bl k ∧ (if k = true then t y σ H3 Q else Q false H3)
def tLinks (ta : TE) (t : V → TT) : TT := fun σ H Q => ta σ H fun x H1 => t x σ H1 Q
section
variable {X : Cx} {a b b' : Expr} {bs : List Expr} {ta tb : TE} {op op' : CmpOp} {ops : List CmpOp} {r : R2} {t : V → TT} {pos : Pos}
theorem link1 (ho : OpR X (compareOp op) r) (hb : PE X b tb) : LinkT X pos [op] [b] (tLink1 r tb) := by
  intro pins s σ H x v Q I rx h
  refine test_last (thn (hb.run pins s σ H _ I h) fun u s2 ⟨y, H2, I2, r2, q2⟩ => thn (ho pins s2 σ H2 x y v u _ I2 rx r2 q2) fun d s3 ⟨z, H3, I3, r3, k, e, q3⟩ => ?_)
  subst e
  cases r3
  exact wpAny_truthy_bool ⟨H3, I3, q3⟩
theorem linkS (ho : OpR X (compareOp op) r) (hb : PE X b tb) (h2 : LinkT X pos (op' :: ops) (b' :: bs) t) : LinkT X pos (op :: op' :: ops) (b :: b' :: bs) (tLinkS r tb t) := by
  intro pins s σ H x v Q I rx h
  refine test_link (thn (hb.run pins s σ H _ I h) fun u s2 ⟨y, H2, I2, r2, q2⟩ => thn (ho pins s2 σ H2 x y v u _ I2 rx r2 q2) fun d s3 ⟨z, H3, I3, r3, k, e, q3⟩ => ?_)
  subst e
  cases r3
  refine wpAny_truthy_bool ?_
  cases k with
  | false => exact ite_ff ⟨H3, I3, q3⟩
  | true => exact ite_tt (h2 pins s3 σ H3 y u Q I3 r2 q3)
theorem pt_links (ha : PE X a ta) (h : LinkT X pos (op :: op' :: ops) (b :: b' :: bs) t) (hm : lastMarks (op :: op' :: ops) (b :: b' :: bs) = false := by with_unfolding_all rfl) : PT X (.Compare a (op :: op' :: ops) (b :: b' :: bs) pos) (tLinks ta t) := by
  refine ⟨fun pins s σ H Q I q => ?_⟩
  exact isTrue_chain (thn (ha.run pins s σ H _ I q) fun v s1 ⟨x, H1, I1, r1, q1⟩ => h pins s1 σ H1 x v Q I1 r1 q1) hm
end
theorem g_links {ta : TE} {t : V → TT} {σ : L2.St} {H : Hp} {Q : Bool → Hp → Prop} (h : ta σ H fun x H1 => t x σ H1 Q) : tLinks ta t σ H Q := h
theorem g_link1 {r : R2} {tb : TE} {x : V} {σ : L2.St} {H : Hp} {Q : Bool → Hp → Prop} (h : tb σ H fun y H2 => r x y H2 fun z H3 => ∃ k, z = .bl k ∧ Q k H3) : tLink1 r tb x σ H Q := h
theorem g_linkS {r : R2} {tb : TE} {t : V → TT} {x : V} {σ : L2.St} {H : Hp} {Q : Bool → Hp → Prop} (h : tb σ H fun y H2 => r x y H2 fun z H3 => ∃ k, z = .bl k ∧ (if k = true then t y σ H3 Q else Q false H3)) : tLinkS r tb t x σ H Q := h
end Fl

set_option Elab.async false
set_option linter.all false
set_option maxRecDepth 100000
set_option maxHeartbeats 4000000
/-! isinstance of the error that is handled, be it with fields or without; dicts that are empty, walked by their pairs -/
namespace Fl
open PySem PySem.Spec PyProof.Rows L2 L2H HotX
/-- the class of an own error that has fields, asked for by its name -/
theorem errCls {prg : Program} {wd : World} {Ar : Around} {Er : Value → Shared → Prop} {st : Shared} {K : PySem.W.Frag} {a D : Addr} {oe od : Obj} {Z : Option Value → Shared → Prop} (C : ExcC K D) (kin : K.In st.heap) (J : PySem.W.InstAt st.heap a oe D (some od))
    (z : Z (some (.ref D)) { st with toks := st.toks + 1 }) : wpAny (model prg wd) Ar (getAttr? (.ref a) "__class__") Z Er st := by
  have fo : PySem.W.findObj K D (some od) "__class__" = some (.bind (.builtin "getset_descriptor.__get__") (.builtin "object.__class__")) := PySem.W.findObj_data (by obtain ⟨_, e, _⟩ := PySem.W.any_some C.hd; rw [e]; rfl) C.ha C.hn C.ht
  rcases st with ⟨hh, gg, dd, tt, oo⟩
  have ty := J.type (M := model prg wd)
  have own := PySem.W.looks_find (M := model prg wd) kin J fo
  have isB : PySem.W.Looks (model prg wd) hh (isInstance (Value.ref a) (Value.type "BaseException")) true := by
    have z := PySem.W.looks_subIn (M := model prg wd) kin C.hs
    exact ty.andThen z
  have plain : (onTheHeap (Value.ref D) && Value.builtin "BaseException.__getattribute__" == Value.builtin "object.__getattribute__") = false := by
    rw [show (Value.builtin "BaseException.__getattribute__" == Value.builtin "object.__getattribute__") = false from by decide +kernel]
    rfl
  unfold getAttr? getAttrBy?
  unfold getAttrBy
  refine wpAny_bind (wpAny_mkText (wpAny_bind (wpAny_attempt ?_)))
  refine wpAny_holding (wpAny_bind (ty.at (wpAny_bind ((PySem.W.looks_findIn (M := model prg wd) kin C.hg).at ?_))))
  show wpAny _ _ (if (onTheHeap (Value.ref D) && Value.builtin "BaseException.__getattribute__" == Value.builtin "object.__getattribute__") = true then _ else _) _ _ _
  rw [if_neg (by rw [plain]; exact Bool.false_ne_true)]
  unfold getAttrByItsOwn
  unfold hookBefore
  refine wpAny_bind ?_
  rw [if_pos (show onTheHeap (Value.ref D) = true by rfl)]
  refine (PySem.W.looks_findIn (M := model prg wd) kin C.hk).at (wpAny_bind (wpAny_attempt (wpAny_holding ?_)))
  unfold callGetattribute
  rw [if_neg (show ¬ (false && onTheHeap (Value.builtin "BaseException.__getattribute__")) = true from Bool.false_ne_true)]
  unfold boundAndCalled
  rw [PySem.F.excAttr_ValueError.ga.bind (.ref a)]
  refine wpAny_bind (wpAny_pure ?_)
  show wpAny _ _ (call (.builtin "BaseException.__getattribute__") [.ref a, .str "__class__" tt]) _ _ _
  refine wpAny_call (codeAny_call_builtin PySem.F.excAttr_ValueError.ga.plain PySem.F.entry_bexc_ga ?_)
  refine @PySem.W.check_slot (model prg wd) _ _ ⟨hh, gg, dd, tt + 1, oo⟩ "BaseException.__getattribute__" "BaseException" "__getattribute__" (.ref a) [.str "__class__" tt] [] _ (by decide +kernel) (by decide +kernel) isB (PySem.F.args_bexc_ga (.ref a) (.str "__class__" tt)) ?_
  unfold Builtin.«object.__getattribute__»
  refine wpAny_bind (wpAny_of_eq (a := ((Value.ref a : Value), [Value.str "__class__" tt])) (by first | rfl | (simp only [slotArgs]; rfl)) ?_)
  refine wpAny_bind (wpAny_pure (wpAny_bind (ty.at (wpAny_bind (own.at ?_)))))
  show wpAny _ _ (holding [Value.builtin "object.__class__"] (call (.builtin "getset_descriptor.__get__") [.builtin "object.__class__", .ref a, .ref D]) >>= ret) _ _ _
  refine wpAny_bind (wpAny_holding (wpAny_call (PySem.W.class_get (s := ⟨hh, gg, dd, tt + 1, oo⟩) (ox := oe) (od := some od) kin J C.hm ?_)))
  refine wpAny_pure ?_
  show wpAny _ _ (handedOut (.ref D)) _ _ _
  rw [PySem.W.handedOut_of (v := .ref D) rfl]
  first
    | exact wpAny_pure z
    | exact wpAny_pure (wpAny_pure z)
    | exact wpAny_pure (wpAny_bind (wpAny_pure (wpAny_pure z)))
theorem errKit {K : PySem.W.Frag} {a D : Addr} {oe : Obj} (C : ExcC K D) : PySem.W.KitX K (.ref a) (.ref D) (fun h => ∃ od, PySem.W.InstAt h a oe D (some od)) where
  ty := fun _ _ _ ⟨_, J⟩ => J.type
  it := fun M h kin _ => by
    obtain ⟨_, e, _⟩ := PySem.W.any_some C.hd
    unfold PySem.W.clsIn at e
    split at e
    · rename_i c1 c2 c3 c4 lk
      intro _ _ _ _ keep q
      unfold isType loadHead
      exact wpAny_bind (wpAny_loadPart (keep _ _ (kin _ _ lk)) (wpAny_pure q))
    · cases e
  ne := fun h tp dd its n sl kin htp => by
    obtain ⟨_, e, _⟩ := PySem.W.any_some C.hd
    refine Bool.eq_false_iff.mpr fun same => ?_
    cases Value.ref.inj (beq_iff_eq.mp same)
    unfold PySem.W.clsIn at e
    split at e
    · rename_i c1 c2 c3 c4 lk
      cases (kin _ _ lk).symm.trans htp
    · cases e
  ca := fun kin ⟨_, J⟩ k => errCls C kin J k
theorem pe_hZA {X : Cx} {Z : Addr × Obj → Prop} {k : Nat} {x : Str} {ps : List Str} {sp : Addr → Sp} {e : Expr} {es : List Expr} {t : TA} {q pos : Pos} {a : Addr} {oe : Obj} (h : HasZ X.prog X.w X.K X.mg X.base Z k x ps sp) (hr : RoomH k X.A) (hz : Z (a, oe)) (hot : Hot1 X.A (a, oe)) (hp : (a, oe) ∈ X.pn) (ha : PA X (e :: es) t) (hg : Gl X x := by rfl)
    (hdb : (x == ("__debug__" : Str)) = false := by decide) (he : starEach (e :: es) X.env = (false, eval e X.env) :: starEach es X.env := by rfl) (hpl : (backTo pos (starEach es X.env)).any (·.1) = false := by rfl) :
    PE X (.Call (.Name x q) (e :: es) [] pos) (tCallS (sp a) (fun _ => L2.E0) t) := pe_hZ (p := (a, oe)) h hr hz hot hp ha hg hdb he hpl
/-- a class is no class of another row -/
theorem kit_no {K : PySem.W.Frag} {a b : Addr} (h : PySem.W.subIn K (.ref a) (.ref b) = some false) (s : PySem.W.subIn K (.ref b) (.ref b) = some true) (hd : PySem.W.hasDictIn K b = true) (ty : PySem.W.typeIn K (.ref b) = some (.type "type")) : PySem.W.kitOne K (.ref a) (.ref b) = some false := by
  obtain ⟨cd, hc, _⟩ := PySem.W.any_some hd
  unfold PySem.W.kitOne
  rw [if_neg (fun e => by
    have e := Value.ref.inj (beq_iff_eq.mp e)
    subst e
    rw [h] at s
    cases s)]
  show (if ((PySem.W.clsIn K b).isSome && PySem.W.typeIn K (.ref b) == some (.type "type")) = true then PySem.W.subIn K (.ref a) (.ref b) else none) = some false
  rw [if_pos (by rw [hc, ty] <;> rfl), h]
/-- isinstance(e, c) of the error handled, with fields or without -/
def rIsA (K : PySem.W.Frag) (cls : Value) (d : Option Addr) (a : Addr) : List V → Hp → VK → Prop := fun xs H Q => ∃ D, cls = .ref D ∧ (d = none ∨ ∃ dd fs, d = some dd ∧ H dd = some (.xd fs)) ∧ ExcC K D ∧ rIsE K D a xs H Q
theorem call_isA {X : Cx} {a : Addr} {cls : Value} {d : Option Addr} {oe : Obj} {K : PySem.W.Frag} (eK : X.K = K) (hp : (a, oe) ∈ X.pn) (hz : Zc cls d oe) (hf : ∃ vs, oe.data = .fields vs) : CallR X (.builtin "isinstance") (rIsA K cls d a) := by
  subst eK
  intro pins s σ H xs us Q I r ⟨D, e1, e2, C, c, cv, b, e3, hcv, e, q⟩
  rcases e2 with e2 | ⟨dd, fs, e2, hd⟩
  · exact call_isN rfl hp hz hf pins s σ H xs us Q I r ⟨D, e1, e2, C, c, cv, b, e3, hcv, e, q⟩
  subst e1 e2 e3
  obtain ⟨u1, u2, rfl, r1, r2⟩ := vals2 r
  cases r1
  obtain rfl := hcv _ r2
  obtain ⟨vs, hv⟩ := hf
  obtain ⟨mA, hns, _⟩ := (show ObjOk X.prog X.w H s.heap dd (.xd fs) from I.hok dd _ hd)
  obtain ⟨od, ho, _⟩ := lookIn_ns hns
  have J : PySem.W.InstAt s.heap a oe D (some od) := ⟨(I.pin _ (List.mem_append_left _ hp)).1, hz.1, by unfold PySem.W.notCls; rw [hv] <;> rfl, by rw [hz.2]; exact ho⟩
  exact PySem.W.kia_one (errKit C) I.kIn ⟨od, J⟩ e (fun z => nomatch z) fun tk => ⟨.bl b, H, I.kept (t' := tk) fun _ _ z => z, rfl, q⟩
theorem g_isA {K : PySem.W.Frag} {D a : Addr} {c : V} {cv : Value} {b : Bool} {d : Option Addr} {H : Hp} {Q : VK} (C : ExcC K D) (hd : d = none ∨ ∃ dd fs, d = some dd ∧ H dd = some (.xd fs)) (hc : ∀ u, RelV c u → u = cv) (k : PySem.W.kitOne K (.ref D) cv = some b) (q : Q (.bl b) H) : rIsA K (.ref D) d a [.ref a, c] H Q := ⟨D, rfl, hd, C, c, cv, b, rfl, hc, k, q⟩
end Fl

set_option Elab.async false
set_option linter.all false
set_option maxRecDepth 100000
set_option maxHeartbeats 4000000
/-! comprehensions that a callee's error leaves -/
namespace Fl
open PySem PySem.Spec PyProof.Rows L2 L2H HotX
/-- a block's error: one that a callee let out -/
def XEc (X : Cx) (E0 : XK) (u : Value) (s' : Shared) : Prop := L2N.XE X (fun cls d _ H => E0 cls d H) u s' ∧ ∃ (a : Addr) (B : Heap) (cls : Value) (d : Option Addr), u = .ref a ∧ HandSPX.FlyingZ B X.stack a (L2N.Zn cls d) s'.heap
abbrev blkX (X : Cx) (s : Shared) (H : Hp) (scope : Scope) (cenv : Env) (fp : List Addr) (E0 : XK) : Cx := { X.blk s H scope cenv fp with xe := XEc (X.blk s H scope cenv fp) E0 }
section
variable {X : Cx} {pins : List (Addr × Obj)} {σ : L2.St} {H : Hp} {s : Shared} {xe : Value → Shared → Prop}
theorem ok_xe (ok : X.Ok) : Cx.Ok { X with xe := xe } := ⟨ok.mod, ok.kind, ok.glob, ok.blt, ok.above, ok.inj, ok.has, ok.cab, ok.hd, ok.frames, ok.stk, ok.exf, ok.bs, ok.bsz, ok.noex, ok.exfs, ok.funs, ok.frf⟩
theorem ok_xe' (ok : Cx.Ok { X with xe := xe }) : X.Ok := ⟨ok.mod, ok.kind, ok.glob, ok.blt, ok.above, ok.inj, ok.has, ok.cab, ok.hd, ok.frames, ok.stk, ok.exf, ok.bs, ok.bsz, ok.noex, ok.exfs, ok.funs, ok.frf⟩
theorem inv_xe (I : Inv X pins σ H s) : Inv { X with xe := xe } pins σ H s := ⟨ok_xe I.ok, I.os, I.bare, I.base, I.loc, I.cell, I.free, I.freeC, I.pin, I.hok, I.len⟩
theorem inv_xe' (I : Inv { X with xe := xe } pins σ H s) : Inv X pins σ H s := ⟨ok_xe' I.ok, I.os, I.bare, I.base, I.loc, I.cell, I.free, I.freeC, I.pin, I.hok, I.len⟩
theorem ff_but {h h' base base' : Heap} {C : Addr} (sb : Heap.SameBut C h h') (sub : ∀ b, base.get? b = none → base'.get? b = none) : ∀ {l : List Env}, C ∉ frs l → h.FunFrames base l → h'.FunFrames base' l
  | [], _, _ => trivial
  | e :: l, hC, ⟨hk, ⟨L, o, hf, hn, ho, hd⟩, hr⟩ => by
    have hm : frs (e :: l) = L :: frs l := by unfold frs; rw [List.filterMap_cons, hf]
    rw [hm] at hC
    have hL : L ≠ C := fun z => hC (z ▸ List.mem_cons_self)
    exact ⟨hk, ⟨L, o, hf, sub _ hn, (sb.2 L hL).trans ho, hd⟩, ff_but sb sub (fun z => hC (List.mem_cons_of_mem _ z)) hr⟩
theorem ns_up {h h' : Heap} {C : Addr} {m : Str → Option Value} (hn : h.Ns C m) (up : h.UpToSlots h') : h'.Ns C m := by
  obtain ⟨o, es, ep, e, d, k, f⟩ := hn
  obtain ⟨sl, e'⟩ := up C o e fun vs z => by rw [d] at z; cases z
  exact ⟨_, es, ep, e', d, k, f⟩
/-- the error leaves the comprehension -/
theorem lc_err {E0 : XK} {scope : Scope} {cenv : Env} {fp : List Addr} {s3 : Shared} {H3 : Hp} {u : Value} {s' : Shared} {E1 : Value → Shared → Prop} (hs : X.stack = X.env :: X.outer) (hf : X.env.frame = some X.env.locals) (tk : L2N.Takes X (fun cls d _ H => E0 cls d H))
    (I3 : Inv X pins σ H3 s3) (hC : cenv.locals = s3.heap.objs.size) (hfr : cenv.frame = X.env.frame) (hfp : ∀ b ∈ fp, FpOk X pins H3 b) (x : XEc (X.blk s3 H3 scope cenv fp) E0 u s') :
    wpAny (model X.prog X.w) X.A (noteFrame u cenv) (fun _ s'' => PySem.CompFails (model X.prog X.w) X.A X.xe cenv u s'') E1 s' := by
  obtain ⟨⟨a, B, sI, pins', σ', H', cls, d, rfl, I', nb, up, sky, na, os, ag, w⟩, a', B0, cls', d', e, fl0⟩ := x
  cases e
  have fl : HandSPX.FlyingZ B X.stack a (L2N.Zn cls d) s'.heap := by
    obtain ⟨_, _, _, oe, vs, T, oT, ts, he, hz, hd, h1, hnT, hTe, hT, hdT, h3⟩ := fl0
    rcases sky with ⟨_, _, _, oe', vs', he', _, hd', h1'⟩ | fl | ⟨_, _, _, oe', vs', T', oT', ts', he', _, hd', h1', _, _, hT', hdT', h3'⟩
    · rw [he] at he'; cases he'
      rw [hd] at hd'; cases hd'
      rw [h1] at h1'; cases h1'
    · exact fl
    · rw [he] at he'; cases he'
      rw [hd] at hd'; cases hd'
      rw [h1] at h1'; cases h1'
      rw [hT] at hT'; cases hT'
      rw [hdT] at hdT'; cases hdT'
      rw [h3] at h3'; cases h3'
  have hfrA : X.A.frames = some (X.env :: X.outer) := by rw [I3.ok.frames, hs]
  have en : noteFrame (.ref a) cenv = noteFrame (.ref a) X.env := by simp only [noteFrame, PySem.frameOf, hfr]
  have nF : cenv.locals ∉ frs X.stack := fun hm => by
    obtain ⟨_, o, ho, _⟩ := I3.stack.mem hm
    have := Heap.lt_size ho
    rw [hC] at this
    exact absurd this (Nat.lt_irrefl _)
  rw [en]
  have fl' : HandSPX.FlyingZ B (X.env :: X.outer) a (L2N.Zn cls d) s'.heap := by rw [← hs]; exact fl
  refine PXN.looks_onZ L2N.Zn.steady hfrA hf fl' fun h1 hh up1 => ?_
  obtain ⟨m, hn, _⟩ := I'.loc
  have hn1 : h1.Ns cenv.locals m := ns_up (ns_up hn up) up1
  refine ⟨m, hn1, fun h2 m2 _ sb => ?_⟩
  obtain ⟨k1, k2, k3, oe, vs, T, oT, ts, he, hz, hd, hv1, hnT, hTe, hT, hdT, hv3⟩ := hh
  obtain ⟨oC, es, ep, eC, dC, _⟩ := hn1
  have aC : a ≠ cenv.locals := fun z => by rw [z, eC] at he; cases he; rw [dC] at hd; cases hd
  have tC : T ≠ cenv.locals := fun z => by rw [z, eC] at hT; cases hT; rw [dC] at hdT; cases hdT
  have he2 : h2.get? a = some oe := (sb.2 a aC).trans he
  have hT2 : h2.get? T = some oT := (sb.2 T tC).trans hT
  have hid : ∀ b, B.get? b = none → (PySem.W.hideAll B [cenv.locals]).get? b = none := fun b z => by
    cases q : (PySem.W.hideAll B [cenv.locals]).get? b with
    | none => rfl
    | some o => rw [PySem.W.of_hideAll _ q] at z; cases z
  have hdn : ∀ {G : Heap} {b : Addr} {o : Obj}, (PySem.W.hideAll G [cenv.locals]).get? b = some o → b ≠ cenv.locals := fun {G b o} z e => by
    rw [PySem.W.hideAll_none [cenv.locals] (by rw [e]; exact List.mem_cons_self)] at z; cases z
  unfold PySem.passOn
  refine wpAny_bind (wpAny_field he2 hd hv1 ?_)
  rw [if_neg (show ¬ ((Value.ref T == Value.none) = true) from by simp)]
  have fin : wpAny (model X.prog X.w) X.A (setFlight (.ref a) cenv.frame) (fun _ s4 => wpAny (model X.prog X.w) X.A (throw (.ref a) : Sem Value) (fun _ _ => False) X.xe s4) X.xe { s' with heap := h2 } := by
    rw [hfr, hf]
    refine HandSPX.setFlight_anyZ (base := PySem.W.hideAll B [cenv.locals]) (l := X.env :: X.outer) (Z := L2N.Zn cls d) (fl := rawInt X.env.locals) (fun b o e => (sb.2 b (hdn e)).trans (k1 b o (PySem.W.of_hideAll _ e)))
      (ff_but sb hid (by rw [← hs]; exact nF) k3) ⟨oe, vs, T, oT, ts, he2, hz, hd, hv1, hid T hnT, hTe, hT2, hdT, hv3⟩ fun h4 y1 y3 y4 up4 => wpAny_throw (tk _ _ ?_)
    have nC : H' cenv.locals = none := I'.free
    have I6 : Inv X pins σ H' sI := I3.call' (ch := fp) I'.os I'.base I'.hok I'.bare fun b hb => ⟨(hfp b hb).2.2.2.1, (hfp b hb).2.1, (hfp b hb).2.2.2.2.1, (hfp b hb).2.2.2.2.2⟩
    obtain ⟨f0, f1, f2, f3, f4, f5⟩ := I3.fpOk (b := cenv.locals) (by rw [hC]; exact Nat.le_refl _) nC
    refine ⟨a, PySem.W.hideAll B [cenv.locals], { sI with heap := PySem.W.hideAll sI.heap [cenv.locals], toks := sI.toks }, pins, σ, H', cls, d, rfl, I6.turned (t' := sI.toks) (fun b o hb e => PySem.W.hideAll_get _ e (by simpa using hb)) f0 f1 f3 f4 f5,
      fun b o e hb => PySem.W.hideAll_get _ (nb b o (PySem.W.of_hideAll _ e) hb) (by simpa using hdn e), fun b o e hnf => ?_, .inr (.inr ⟨y1, hid a k2, by rw [hs]; exact y3, y4⟩), na, os, ag, w⟩
    obtain ⟨sl1, e1⟩ := up b o (PySem.W.of_hideAll _ e) hnf
    obtain ⟨sl2, e2⟩ := up1 b _ e1 hnf
    obtain ⟨sl3, e3⟩ := up4 b _ ((sb.2 b (hdn e)).trans e2) hnf
    exact ⟨sl3, e3⟩
  first
    | exact wpAny_bind (wpAny_pure (wpAny_bind fin))
    | exact wpAny_bind fin
theorem thnX {α : Type} {t : Sem α} {Q Q' : α → Shared → Prop} {M : Model} {A : Around} {E E' : Value → Shared → Prop} {s : Shared} (h : wpAny M A t Q E s) (hQ : ∀ a s, Q a s → Q' a s) (hE : ∀ e s, E e s → E' e s) : wpAny M A t Q' E' s := wpAny_mono h hQ hE
theorem pe_lcN {E0 : XK} {elt tg iter : Expr} {ifs : List Expr} {scope : Scope} {own : List (Str × Nat)} {pos : Pos} {wi : TI} {g : TG} {tt : TT} {te : TE} (hst : X.stack = X.env :: X.outer) (hf : X.env.frame = some X.env.locals) (tk : L2N.Takes X (fun cls d _ H => E0 cls d H))
    (hc : X.calm = true) (hN : X.N.Nodup) (hi : PI X tg iter wi) (ok : BlkOk X.N X.env.scope scope own)
    (hg : ∀ (s : Shared) (H : Hp) (C : Addr) (cl : List (Str × Addr)) (fp : List Addr), PG (blkX X s H scope (compEnvC scope cl C X.env) fp E0) tg g) (ht : ∀ (s : Shared) (H : Hp) (C : Addr) (cl : List (Str × Addr)) (fp : List Addr), PTs (blkX X s H scope (compEnvC scope cl C X.env) fp E0) ifs tt)
    (he : ∀ (s : Shared) (H : Hp) (C : Addr) (cl : List (Str × Addr)) (fp : List Addr), PE (blkX X s H scope (compEnvC scope cl C X.env) fp E0) elt te) (hs : ∀ x, foldedSetIterable iter X.env x = pure x := by intro _; rfl) :
    PE X (.ListComp elt [⟨tg, iter, ifs, 0⟩] scope pos) (tLc wi g tt te (own.map (·.2))) := by
  refine ⟨fun pins s σ H Q I h => ?_⟩
  have hfree : ∀ y ∈ scope.names, y.2 = .free → ∃ c, X.env.cells.lookup y.1 = some c := fun y hy e => by
    rcases ok.free y hy e with k | k
    · exact I.ok.has _ (.inl k)
    · exact I.ok.has _ (.inr k)
  rw [eval_ListComp]
  refine PySem.comprehension_at (use := none) rfl hs (closure_ok hfree) ok.kind (fun y hy e => by rw [ok.uniq y hy, e]) (thn (hi.run pins s σ H _ I h) fun xv s1 hx => thn hx fun itv s2 h2 => ?_)
  obtain ⟨it, fp, tn, J, H2, e, I2, T, st2, f2, q⟩ := h2
  subst e
  refine wpAny_newObj_type (newEnv_comp ?_) (by show 0 ≤ sizeLine; decide)
  obtain ⟨D, hD⟩ : ∃ D, s2.heap.objs.size = D := ⟨_, rfl⟩
  have hDn : H2 D = none := I2.hok.fresh (Nat.le_of_eq hD)
  obtain ⟨W, ⟨m0, w0⟩, turn⟩ := q D hDn
  rw [hD]
  generalize hs3 : ({ s2 with heap := s2.heap.push { cls := .type "list", data := .seq ([] : List Value).toArray } } : Shared) = s3
  have h3 : s3.heap = s2.heap.push { cls := .type "list", data := .seq ([] : List Value).toArray } := by rw [← hs3]
  have old3 : ∀ b o, s2.heap.get? b = some o → s3.heap.get? b = some o := fun b o e => by rw [h3]; exact Heap.get?_push_of_some _ e
  have I3 : Inv X pins σ (upd H2 D (.lst [])) s3 := by
    rw [← hs3]
    refine I2.laid (t' := s2.toks) (fun b o e => Heap.get?_push_of_some _ e) (Nat.le_of_eq hD) ⟨Nat.zero_le _, [], 0, .nil, ?_⟩
    rw [← hD]
    exact Heap.get?_push_size _ rfl
  have f3 : ∀ b ∈ fp, FpOk X pins (upd H2 D (.lst [])) b ∧ b < s3.heap.objs.size := fun b hb => by
    obtain ⟨o, e, _⟩ := T.obj _ _ st2 b hb
    have hlt := Heap.lt_size e
    refine ⟨⟨?_, (f2 b hb).2⟩, by rw [h3, Heap.size_push]; exact Nat.lt_succ_of_lt hlt⟩
    rw [upd_ne (by rw [← hD]; exact Nat.ne_of_lt hlt)]
    exact (f2 b hb).1
  have st3 : tn 0 s3.heap := T.keep _ _ _ st2 fun b _ o e => old3 b o e
  have I4 := block_start I3 ok hN f3
  generalize hcl : cellsFrom (s3.heap.objs.size + 1) scope.names (cloFrom X.env.cells scope.names []) = cl at I4
  have pg := hg s3 (upd H2 D (.lst [])) s3.heap.objs.size cl fp
  have pt := ht s3 (upd H2 D (.lst [])) s3.heap.objs.size cl fp
  have pe := he s3 (upd H2 D (.lst [])) s3.heap.objs.size cl fp
  have nfp : ∀ b ∈ fp, (upd H2 D (.lst [])) b = none := fun b hb => (f3 b hb).1.1
  show codeAny _ _ (.compStart (.ListComp elt [⟨tg, iter, ifs, 0⟩] scope pos) 0 (.ref it) (.ref D) (compEnvC scope cl s3.heap.objs.size X.env)) (PySem.compEnds (model X.prog X.w) X.A X.xe none (EP X pins σ Q) (.ref D) (compEnvC scope cl s3.heap.objs.size X.env)) { s3 with heap := pushCells (s3.heap.push { cls := .type "dict", data := .dict #[] }) scope.names }
  have cL : (compEnvC scope cl s3.heap.objs.size X.env).locals = s3.heap.objs.size := rfl
  have cF : (compEnvC scope cl s3.heap.objs.size X.env).frame = X.env.frame := rfl
  generalize compEnvC scope cl s3.heap.objs.size X.env = ce at I4 pg pt pe cL cF ⊢
  generalize hH3 : upd H2 D (.lst []) = H3 at I3 I4 pg pt pe w0 nfp f3
  generalize hs4 : ({ s3 with heap := pushCells (s3.heap.push { cls := .type "dict", data := .dict #[] }) scope.names } : Shared) = s4 at I4 ⊢
  have st4 : tn 0 s4.heap := T.keep _ _ _ st3 fun b _ o e => by rw [← hs4]; exact pushCells_keeps _ _ _ _ (Heap.get?_push_of_some _ e)
  have err : ∀ (u : Value) (s' : Shared), (blkX X s3 H3 scope ce fp E0).xe u s' → notedBy (model X.prog X.w) X.A ce (fun e s' => PySem.compEnds (model X.prog X.w) X.A X.xe none (EP X pins σ Q) (.ref D) ce (.error e) s') u s' := fun u s' x =>
    lc_err hst hf tk I3 cL cF (fun b hb => (f3 b hb).1) x
  have stat : ∀ {σ' : L2.St} {H' : Hp} {s' : Shared}, Inv (blkX X s3 H3 scope ce fp E0) [] σ' H' s' → (∀ b ∈ fp, H' b = none) → ∀ b ∈ fp, FpOk (blkX X s3 H3 scope ce fp E0) [] H' b := fun {σ' H' s'} I' hn b hb =>
    ⟨hn b hb, (I'.ok.exf b hb).1, I'.ok.exfs b hb, .inl hb, fun x c e => (I'.ok.exf b hb).2 x c e, fun p hp => absurd (show p ∈ ([] : List (Addr × Obj)) ++ [] from hp) (by simp)⟩
  have loop : codeAny (model X.prog X.w) X.A (.compLoop (.ListComp elt [⟨tg, iter, ifs, 0⟩] scope pos) 0 (.ref it) (.ref D) ce) (PySem.compEnds (model X.prog X.w) X.A X.xe none (EP X pins σ Q) (.ref D) ce) s4 := by
    refine compLoop_any (fun n s' => ∃ i H', Inv (blkX X s3 H3 scope ce fp E0) [] (wipe σ (own.map (·.2))) H' s' ∧ tn i s'.heap ∧ (∀ b ∈ fp, H' b = none) ∧ W i n H') ?_ m0 ⟨0, H3, inv_xe I4, st4, nfp, w0⟩
    rintro n s5 ⟨i, H5, I5, st5, n5, w5⟩
    rcases turn i n H5 w5 with ⟨stop, qq⟩ | ⟨go, Nx, hNx, step⟩
    · refine thnF (T.done (blkX X s3 H3 scope ce fp E0) rfl rfl rfl hc i [] s5 _ H5 (fun _ _ => False) I5 (stat I5 n5) st5 stop) fun r s6 ⟨hr, I6⟩ => ?_
      subst hr
      have I7 : Inv X pins σ H5 s6 := I3.call' (ch := fp) I6.os I6.base I6.hok I6.bare fun b hb => ⟨(f3 b hb).1.2.2.2.1, (f3 b hb).1.2.1, (f3 b hb).1.2.2.2.2.1, (f3 b hb).1.2.2.2.2.2⟩
      have nC : H5 ce.locals = none := I6.free
      obtain ⟨m, hn, _⟩ := I6.loc
      refine ⟨m, hn, fun h'' sb => ?_⟩
      obtain ⟨f0, f1, f2, f3, f4, f5⟩ := I3.fpOk (b := ce.locals) (by rw [cL]; exact Nat.le_refl _) nC
      exact ⟨.ref D, H5, I7.turned (t' := s6.toks) (fun b o hb e => (sb.2 b hb).trans e) f0 f1 f3 f4 f5, rfl, qq⟩
    · refine thnF (T.item (blkX X s3 H3 scope ce fp E0) rfl rfl rfl hc i [] s5 _ H5 (fun _ _ => False) I5 (stat I5 n5) st5 go) fun r s6 ⟨u, hr, h6⟩ => ?_
      subst hr
      refine thnF h6 fun _ s7 ⟨x, H7, I7, r7, y7, st7, n7⟩ => ?_
      have I7' := I7.pinned (stat I7 n7) (T.obj _ _ st7)
      refine thnX (pg.run _ s7 _ H7 x u _ I7' r7 (step x H7 y7)) (fun _ s8 ⟨σ8, H8, I8, hw8, q8⟩ => ?_) err
      have fin : ∀ {s' : Shared} {H' : Hp}, Inv (blkX X s3 H3 scope ce fp E0) ([] ++ pinsAt fp s7.heap) σ8 H' s' → Nx H' → ∃ m, m < n ∧ ∃ i H', Inv (blkX X s3 H3 scope ce fp E0) [] (wipe σ (own.map (·.2))) H' s' ∧ tn i s'.heap ∧ (∀ b ∈ fp, H' b = none) ∧ W i m H' := fun {s' H'} I' nx => by
        obtain ⟨m', hm, w'⟩ := hNx H' nx
        have pin' : ∀ b ∈ fp, ∀ o, s7.heap.get? b = some o → s'.heap.get? b = some o ∧ H' b = none := fun b hb o e =>
          let z := I'.pin (b, o) (List.mem_append_right _ (List.mem_append_right _ (mem_pinsAt hb e)))
          ⟨z.1, z.2.1⟩
        have hl : (wipe σ (own.map (·.2))).length = σ8.length := by rw [← hw8, wipe_length]
        refine ⟨m', hm, i + 1, H', (I'.unpinned (pins := [])).weak hl (fun j v e => ?_), T.keep _ _ _ st7 fun b hb o e => (pin' b hb o e).1, fun b hb => ?_, w'⟩
        · rw [← hw8] at e
          exact (wipe_some e).1
        · obtain ⟨o, e, _⟩ := T.obj _ _ st7 b hb
          exact (pin' b hb o e).2
      refine thnX (pt.run _ s8 σ8 H8 _ I8 q8) (fun b s9 ⟨H9, I9, q9⟩ => ?_) err
      cases b with
      | false =>
        rw [if_neg Bool.false_ne_true] at q9 ⊢
        exact fin I9 q9
      | true =>
        rw [if_pos rfl] at q9 ⊢
        refine thnX (pe.run _ s9 σ8 H9 _ I9 q9) (fun z s10 ⟨yv, H10, I10, r10, acc, hD10, hz10, nx⟩ => ?_) err
        exact app_ok (X := blkX X s3 H3 scope ce fp E0) I10 hD10 hz10 r10 fun s11 I11 => fin I11 nx
  exact codeAny_compStart_list loop (T.self X.A 0 _ _ _ st4 loop)
/-- a def's own wish about errors, for the comprehension -/
theorem takes_ofN {E0 : XK} (hs : X.stack = X.env :: X.outer) (hf : X.env.frame = some X.env.locals) (hex : X.ex = []) {E₁ : Value → Shared → Prop}
    (hx : X.xe = fun e s' => wpAny (model X.prog X.w) X.A (leaving X.env e) (fun _ s'' => L2N.CX X.prog X.w X.outer X.H_0 X.s_0 E0 e s'') E₁ s') : L2N.Takes X (fun cls d _ H => E0 cls d H) := L2N.takes_of hs hf hex hx
/-- a call within the block that may let an error out -/
theorem pe_hXB {s0 : Shared} {H0 : Hp} {scope : Scope} {cenv : Env} {fp : List Addr} {E0 : XK} {k : Nat} {x : Str} {ps : List Str} {sp : Sp} {e : Expr} {es : List Expr} {t : TA} {p pos : Pos} (h : HasXN X.prog X.w X.K X.mg X.base k x ps sp) (hr : Room k X.A) (ha : PA (blkX X s0 H0 scope cenv fp E0) (e :: es) t) (hg : Gl (blkX X s0 H0 scope cenv fp E0) x := by rfl)
    (hdb : (x == ("__debug__" : Str)) = false := by decide) (he : starEach (e :: es) cenv = (false, eval e cenv) :: starEach es cenv := by rfl) (hpl : (backTo pos (starEach es cenv)).any (·.1) = false := by rfl) :
    PE (blkX X s0 H0 scope cenv fp E0) (.Call (.Name x p) (e :: es) [] pos) (tCallS sp (fun _ => E0) t) := by
  obtain ⟨f, fd, a, b, c, d⟩ := h.ex
  refine pe_callS a hr hg b c d (fun σ => ?_) ha hdb he hpl
  intro pins H s u s' I cx
  obtain ⟨a1, B1, H1, cls1, d1, e1, fl1, _⟩ := id cx
  exact ⟨L2N.XE.of_call (X := X.blk s0 H0 scope cenv fp) (inv_xe' I) (fun _ _ _ h => h) cx, a1, B1, cls1, d1, e1, fl1⟩
end
end Fl

set_option Elab.async false
set_option linter.all false
set_option maxRecDepth 100000
set_option maxHeartbeats 4000000
/-! the end of a law by one kernel run: what the proofs ask of the top, as truths of the objects at some addresses -/
namespace Fl
open PySem PySem.Spec PyProof.Rows L2 He
theorem map3 {α β γ δ : Type} {x : Option α} {f : α → β} {g : α → γ} {h : α → δ} {a : β} {b : γ} {c : δ} (h1 : x.map (fun y => (f y, g y)) = some (a, b)) (h2 : x.map h = some c) : x.map (fun y => (f y, g y, h y)) = some (a, b, c) := by
  cases x with
  | none => cases h1
  | some y =>
    have e1 : (f y, g y) = (a, b) := Option.some.inj h1
    have e2 : h y = c := Option.some.inj h2
    cases e1
    cases e2
    rfl
abbrev Chk : Type := PySem.W.Frag → Bool
def obsC (cs : List Chk) (fn : List DefD) (ts : List Tab) (K : PySem.W.Frag) : AlT := (((cs.all fun c => c K) && fn.all fun d => d.ok K, fn.map fun d => fnW K d.at_), ts.map fun t => dicW K (t.1 K))
def hookC (as : List Addr) (cs : List Chk) (fn : List DefD) (ts : List Tab) : PySem.W.Hook where
  α := AlT
  obs := fun s => obsC cs fn ts (frG s.heap.get? as)
  val := fun w => valT fn ts w
  says := fun w h => ∃ K : PySem.W.Frag, K.In h ∧ obsC cs fn ts K = valT fn ts w
  of := fun _ _ e => ⟨_, frG_in, e⟩
  keeps := fun _ _ _ ⟨K, hK, c⟩ k => ⟨K, PySem.W.Frag.In.keeps hK k, c⟩
def obC (as : List Addr) (cs : List Chk) (fn : List DefD) (ts : List Tab) (s : PySem.W.SharedT) : AlT := obsC cs fn ts (frG (HandSHeadRun.getT s) as)
theorem obC_eq {as : List Addr} {cs : List Chk} {fn : List DefD} {ts : List Tab} (s : PySem.W.SharedT) : obC as cs fn ts s = (hookC as cs fn ts).obs s.abs := by
  show obsC cs fn ts (frG (HandSHeadRun.getT s) as) = obsC cs fn ts (frG s.abs.heap.get? as)
  rw [show HandSHeadRun.getT s = s.abs.heap.get? from funext (HandSHeadRun.getT_eq s)]
section
variable {cs : List Chk} {fn : List DefD} {ts : List Tab} {w : World} {K : PySem.W.Frag}
theorem saysC_chk (c : obsC cs fn ts K = valT fn ts w) (i : Nat) {f : Chk} (h : cs[i]? = some f) : f K = true := by
  have c1 : ((cs.all fun c => c K) && fn.all fun d => d.ok K) = true := congrArg (fun z : AlT => z.1.1) c
  exact List.all_eq_true.mp (ba c1).1 f (List.mem_of_getElem? h)
theorem saysC_def (c : obsC cs fn ts K = valT fn ts w) (i : Nat) {d : DefD} (h : fn[i]? = some d) : ∃ fd, FunD K d.name d.qual d.params d.body d.scope (d.dvs K) (d.kws K) (fAd K d.at_) fd := by
  have c1 : ((cs.all fun c => c K) && fn.all fun d => d.ok K) = true := congrArg (fun z : AlT => z.1.1) c
  have e : fn.map (fun d => fnW K d.at_) = fn.map DefD.val := congrArg (fun z : AlT => z.1.2) c
  have e2 : (fn.map fun d => fnW K d.at_)[i]? = (fn.map DefD.val)[i]? := by rw [e]
  rw [List.getElem?_map, List.getElem?_map, h] at e2
  exact DefD.funD (Option.some.inj e2) (List.all_eq_true.mp (ba c1).2 d (List.mem_of_getElem? h))
theorem saysC_tab (c : obsC cs fn ts K = valT fn ts w) (i : Nat) {t : Tab} (h : ts[i]? = some t) : ∃ es n, KDict K w (t.1 K) es n := by
  have e : ts.map (fun t => dicW K (t.1 K)) = ts.map fun t => some (keysIn w.params t.2) := congrArg (fun z : AlT => z.2) c
  have e2 : (ts.map fun t => dicW K (t.1 K))[i]? = (ts.map fun t => some (keysIn w.params t.2))[i]? := by rw [e]
  rw [List.getElem?_map, List.getElem?_map, h] at e2
  exact dicW_ok (Option.some.inj e2)
end
section
variable {K : PySem.W.Frag} {h : Heap} {mg : Str → Option Value} {x y m : Str}
/-! names -/
def cGlo (x : Str) : Chk := fun K => (Fa.glo x).ok K
def cFree (x : Str) : Chk := fun K => (Fa.free x).ok K
def cInt (x : Str) (i : Int) : Chk := fun K => (Fa.int x i).ok K
def cBlt (x : Str) (b : String) : Chk := fun K => eqO (PySem.W.nsIn K mainGlobals x) (some (some (.builtin b)))
theorem glo_a (X : K.In h) (G : h.Ns mainGlobals mg) (c : cGlo x K = true) : adr mg x = ga K x := adr_of (glo_ok X G c)
theorem glo_g (X : K.In h) (G : h.Ns mainGlobals mg) (c : cGlo x K = true) : mg x = some (.ref (adr mg x)) := by rw [glo_a X G c]; exact glo_ok X G c
theorem free_g (X : K.In h) (G : h.Ns mainGlobals mg) (c : cFree x K = true) : mg x = none := free_ok X G c
theorem int_g (X : K.In h) (G : h.Ns mainGlobals mg) {i : Int} (c : cInt x i K = true) : ∃ u, mg x = some u ∧ RelV (.int i) u := by
  obtain ⟨t, e⟩ := int_ok X G c
  exact ⟨_, e, t, rfl⟩
theorem blt_g (X : K.In h) (G : h.Ns mainGlobals mg) {b : String} (c : cBlt x b K = true) : mg x = some (.builtin b) := PySem.W.mg_of X G (eqO_ok c)
/-! defs -/
theorem fun_of {x q : Str} {st : Stmt} {f : Addr} {fd : FuncData} (F : FunD K x q (defArgs st) (defBody st) (defScope st) [] [] f fd) : Fun K x q st f fd := by
  obtain ⟨⟨oc, od, dV, kV, doc, pm, an, cdv, ct, osl, e, lk, hc, hd, _⟩, kp⟩ := F
  rcases hd with ⟨_, e2⟩ | ⟨n, _⟩
  · subst e2
    exact ⟨⟨oc, od, kV, doc, pm, an, cdv, ct, osl, e, lk, hc⟩, kp⟩
  · exact absurd rfl n
theorem defIn_of {st : Stmt} (g : mg x = some (.ref (ga K x))) (F : ∃ fd, FunD K x x (defArgs st) (defBody st) (defScope st) [] [] (ga K x) fd) : DefIn K mg x st := by
  obtain ⟨fd, F⟩ := F
  exact ⟨⟨_, fd, fun_of F, g⟩⟩
theorem defInD_of {st : Stmt} {dvs : List V} (g : mg x = some (.ref (ga K x))) (F : ∃ fd, FunD K x x (defArgs st) (defBody st) (defScope st) dvs [] (ga K x) fd) : DefInD K mg x st dvs := by
  obtain ⟨fd, F⟩ := F
  exact ⟨⟨_, fd, F, g⟩⟩
/-- an empty tuple -/
def emB (K : PySem.W.Frag) (a : Addr) : Bool := match K.lookup a with
  | some ⟨.type c, _, .seq its _, _⟩ => decide (c = "tuple") && decide (its.toList = [])
  | _ => false
theorem em_ok {a : Addr} (c : emB K a = true) : EmT K a := by
  unfold emB at c
  split at c
  · rename_i cc d its n sl lk
    obtain ⟨c1, c2⟩ := ba c
    have e1 := of_decide_eq_true c1
    have e2 := of_decide_eq_true c2
    subst e1
    refine ⟨_, its, n, lk, rfl, rfl, ?_, by rw [e2]; exact .nil⟩
    have : its.size = 0 := by rw [← Array.length_toList, e2]; rfl
    omega
  · cases c
/-- a keyword default of a class that is an object -/
def kwAt (x m : Str) (K : PySem.W.Frag) : Addr := match K.lookup (ma K (ga K x) "__init__") with
  | some ⟨_, _, .func fd, _⟩ => (match fd.kwdefaults with
    | .ref D => (match PySem.W.nsIn K D m with
      | some (some (.ref a)) => a
      | _ => 0)
    | _ => 0)
  | _ => 0
/-! own errors -/
def baseB (x : Str) : Chk := fun K => eqO (PySem.W.specialIn K (.ref (ga K x)) "__getattribute__") (some (some (.builtin "type.__getattribute__"))) && (decide (PySem.W.typeIn K (.ref (ga K x)) = some (.type "type")) && (PySem.W.readsIn K (ga K x) (.type "type") && (match PySem.W.findCls K (.ref (ga K x)) (.type "type") "__init__" with
  | some (.val (.builtin b)) => decide (b = "ValueError.__init__")
  | _ => false)))
theorem base_ok (X : K.In h) (G : h.Ns mainGlobals mg) (g : cGlo x K = true) (c : baseB x K = true) : BaseC K (adr mg x) := by
  rw [glo_a X G g]
  obtain ⟨c1, c2⟩ := ba c
  obtain ⟨c2, c3⟩ := ba c2
  obtain ⟨c3, c4⟩ := ba c3
  refine ⟨eqO_ok c1, of_decide_eq_true c2, c3, ?_⟩
  split at c4
  · rename_i b e
    rw [e, of_decide_eq_true c4]
  · cases c4
def oexB (x : Str) : Chk := fun K => (match K.lookup (ga K x) with
  | some ⟨.type t, _, .cls cd, sl⟩ => (match cd.mro, sl.toList with
    | .ref C' :: bm, [_, _, _, _, some (.builtin n), _] => decide (t = "type") && (C' == ga K x && (decide (n = "ValueError.__new__") && (!cd.hasDel && (cd.hasDict && PySem.HandSPX.refsVE bm))))
    | _, _ => false)
  | _ => false) && (eqO (PySem.W.findIn K (.ref (ga K x)) "__setattr__") (some (some (.builtin "object.__setattr__"))) && (decide (PySem.W.subIn K (.ref (ga K x)) (.type "BaseException") = some true) && (decide (PySem.W.typeIn K (.ref (ga K x)) = some (.type "type")) && PySem.W.keepIn K (.ref (ga K x)))))
theorem oex_ok (c : oexB x K = true) : OexC K (ga K x) := by
  obtain ⟨c1, c2⟩ := ba c
  obtain ⟨c2, c3⟩ := ba c2
  obtain ⟨c3, c4⟩ := ba c3
  obtain ⟨c4, c5⟩ := ba c4
  refine ⟨?_, eqO_ok c2, of_decide_eq_true c3, of_decide_eq_true c4, c5⟩
  split at c1
  · rename_i t dd cd sl lk
    split at c1
    · rename_i C' bm k0 k1 k2 k3 n k5 hm hs
      obtain ⟨q1, c1⟩ := ba c1
      obtain ⟨q2, c1⟩ := ba c1
      obtain ⟨q3, c1⟩ := ba c1
      obtain ⟨q4, c1⟩ := ba c1
      obtain ⟨q5, q6⟩ := ba c1
      have e1 := of_decide_eq_true q1
      have e2 := beq_iff_eq.mp q2
      have e3 := of_decide_eq_true q3
      obtain ⟨nm, bs, mro, ns, qn, hd, sn, sub, ab, col, del⟩ := cd
      dsimp only at hm q4 q5
      have e4 : del = false := by simpa using q4
      subst e1 e2 e3 e4 hm q5
      have esl : sl = #[k0, k1, k2, k3, some (.builtin "ValueError.__new__"), k5] := by
        obtain ⟨l⟩ := sl
        simp only at hs
        rw [hs]
      subst esl
      exact ⟨nm, qn, ns, bs, bm, sn, sub, ab, col, dd, k0, k1, k2, k3, k5, lk, q6⟩
    · cases c1
  · cases c1
def excB (x : Str) : Chk := fun K => eqO (PySem.W.findIn K (.ref (ga K x)) "__getattribute__") (some (some (.builtin "BaseException.__getattribute__"))) && (eqO (PySem.W.findIn K (.ref (ga K x)) "__getattr__") (some none) && (decide (PySem.W.subIn K (.ref (ga K x)) (.type "BaseException") = some true) && (PySem.W.hasDictIn K (ga K x) && (eqO (PySem.W.findIn K (.ref (ga K x)) "__class__") (some (some (.builtin "object.__class__"))) &&
  (eqO (PySem.W.specialIn K (.builtin "object.__class__") "__get__") (some (some (.builtin "getset_descriptor.__get__"))) && (decide (PySem.W.takesIn K (.builtin "object.__class__") = some true) && decide (PySem.W.mroIn K (ga K x) (.type "object") = some true)))))))
theorem exc_k (c : excB x K = true) : ExcC K (ga K x) := by
  obtain ⟨c1, c⟩ := ba c
  obtain ⟨c2, c⟩ := ba c
  obtain ⟨c3, c⟩ := ba c
  obtain ⟨c4, c⟩ := ba c
  obtain ⟨c5, c⟩ := ba c
  obtain ⟨c6, c⟩ := ba c
  obtain ⟨c7, c8⟩ := ba c
  exact ⟨eqO_ok c1, eqO_ok c2, of_decide_eq_true c3, c4, eqO_ok c5, eqO_ok c6, of_decide_eq_true c7, of_decide_eq_true c8⟩
theorem exc_c (X : K.In h) (G : h.Ns mainGlobals mg) (g : cGlo x K = true) (c : excB x K = true) : ExcC K (adr mg x) := by rw [glo_a X G g]; exact exc_k c
def iniB (x : Str) : Chk := fun K => eqO (PySem.W.findIn K (.ref (ga K x)) "__init__") (some (some (.ref (ma K (ga K x) "__init__")))) && decide (PySem.W.typeIn K (.ref (ma K (ga K x) "__init__")) = some (.type "function"))
theorem clsN_ok {q : Str} {st : Stmt} (X : K.In h) (G : h.Ns mainGlobals mg) (g : cGlo x K = true) (o : oexB x K = true) (e : excB x K = true) (i : iniB x K = true) (F : ∃ fd, FunD K "__init__" q (defArgs st) (defBody st) (defScope st) [] [] (ma K (ga K x) "__init__") fd) : ClsN K mg x q st := by
  obtain ⟨fd, F⟩ := F
  obtain ⟨i1, i2⟩ := ba i
  have a := glo_a X G g
  exact ⟨glo_g X G g, by rw [a]; exact oex_ok o, by rw [a]; exact exc_k e, by rw [a]; exact ⟨_, fd, eqO_ok i1, of_decide_eq_true i2, fun_of F⟩⟩
def fldB (x f : Str) : Chk := fun K => eqO (PySem.W.findIn K (.ref (ga K x)) f) (some none) && (eqO (PySem.W.findIn K (.ref (ga K x)) "__getattribute__") (some (some (.builtin "BaseException.__getattribute__"))) && (eqO (PySem.W.findIn K (.ref (ga K x)) "__getattr__") (some none) && (decide (PySem.W.subIn K (.ref (ga K x)) (.type "BaseException") = some true) && PySem.W.hasDictIn K (ga K x))))
theorem clsN1_ok {q f : Str} {st : Stmt} (X : K.In h) (G : h.Ns mainGlobals mg) (g : cGlo x K = true) (o : oexB x K = true) (e : fldB x f K = true) (i : iniB x K = true) (F : ∃ fd, FunD K "__init__" q (defArgs st) (defBody st) (defScope st) [] [] (ma K (ga K x) "__init__") fd) : ClsN1 K mg x q st f := by
  obtain ⟨fd, F⟩ := F
  obtain ⟨i1, i2⟩ := ba i
  have a := glo_a X G g
  obtain ⟨e1, e2⟩ := ba e
  obtain ⟨e2, e3⟩ := ba e2
  obtain ⟨e3, e4⟩ := ba e3
  obtain ⟨e4, e5⟩ := ba e4
  exact ⟨glo_g X G g, by rw [a]; exact oex_ok o, by rw [a]; exact eqO_ok e1, by rw [a]; exact ⟨eqO_ok e2, eqO_ok e3, of_decide_eq_true e4, e5⟩, by rw [a]; exact ⟨_, fd, eqO_ok i1, of_decide_eq_true i2, fun_of F⟩⟩
def exmB (x y : Str) (b : Bool) : Chk := fun K => decide (PySem.W.exmOne K (.ref (ga K x)) (.ref (ga K y)) = some b)
theorem exm_a (X : K.In h) (G : h.Ns mainGlobals mg) (g : cGlo x K = true) (g2 : cGlo y K = true) {b : Bool} (c : exmB x y b K = true) : PySem.W.exmOne K (.ref (adr mg x)) (.ref (adr mg y)) = some b := by
  rw [glo_a X G g, glo_a X G g2]
  exact of_decide_eq_true c
def kitB (x y : Str) (b : Bool) : Chk := fun K => decide (PySem.W.kitOne K (.ref (ga K x)) (.ref (ga K y)) = some b)
theorem kit_a (X : K.In h) (G : h.Ns mainGlobals mg) (g : cGlo x K = true) (g2 : cGlo y K = true) {b : Bool} (c : kitB x y b K = true) : PySem.W.kitOne K (.ref (adr mg x)) (.ref (adr mg y)) = some b := by
  rw [glo_a X G g, glo_a X G g2]
  exact of_decide_eq_true c
/-! own classes -/
def clsB (x : Str) (fs : List Str) : Chk := fun K => (Fa.cls x).ok K && ((Fa.mkr x).ok K && fs.all fun f => eqO (PySem.W.findIn K (.ref (ga K x)) f) (some none))
theorem clsI_ok {q : Str} {st : Stmt} {fs : List Str} {kws : List (Str × V)} (X : K.In h) (G : h.Ns mainGlobals mg) (g : cGlo x K = true) (c : clsB x fs K = true) (F : ∃ fd, FunD K "__init__" q (defArgs st) (defBody st) (defScope st) [] kws (ma K (ga K x) "__init__") fd) : ClsI K mg x q st fs kws := by
  obtain ⟨fd, F⟩ := F
  obtain ⟨c1, c2⟩ := ba c
  obtain ⟨c2, c3⟩ := ba c2
  have a := glo_a X G g
  exact ⟨glo_g X G g, by rw [a]; exact cls_ok c1, fun f m => by rw [a]; exact eqO_ok (List.all_eq_true.mp c3 f m), by rw [a]; exact ⟨_, fd, mkr_ok c2, F⟩⟩
/-! tuples and dicts of the top -/
theorem tup_a (X : K.In h) (G : h.Ns mainGlobals mg) (g : cGlo x K = true) {vs : List Dv} (c : tupB K x vs = true) (H : Hp) : SqT K H (adr mg x) (vs.map (Dv.v K)) := by
  rw [glo_a X G g]
  exact tupB_ok c H
/-- the value at a key: a tuple of these -/
def entB (d x : Str) (vs : List V) : Chk := fun K => match PySem.W.nsIn K (ga K d) x with
  | some (some (.ref t)) => (match K.lookup t with
    | some ⟨.type c, _, .seq its _, _⟩ => decide (c = "tuple") && (decide (its.size ≤ sizeLine) && relAll vs its.toList)
    | _ => false)
  | _ => false
def entN (d x : Str) : Chk := fun K => eqO (PySem.W.nsIn K (ga K d) x) (some none)
theorem ent_ok {d x : Str} {vs : List V} (c : entB d x vs K = true) : ∃ t, PySem.W.nsIn K (ga K d) x = some (some (.ref t)) ∧ ∀ H : Hp, SqT K H t vs := by
  unfold entB at c
  split at c
  · rename_i t e
    refine ⟨t, e, fun H => ?_⟩
    split at c
    · rename_i cc dd its n sl lk
      obtain ⟨c1, c2⟩ := ba c
      obtain ⟨c2, c3⟩ := ba c2
      exact .inr ⟨_, its, n, lk, congrArg Value.type (of_decide_eq_true c1), rfl, of_decide_eq_true c2, relAll_ok c3⟩
    · cases c
  · cases c
end
end Fl

set_option Elab.async false
set_option linter.all false
set_option maxRecDepth 100000
set_option maxHeartbeats 4000000
set_option exponentiation.threshold 20000
namespace K43
open PySem PySem.Spec PyProof.Rows L2 Fl
-- facts of a place in the heap
local macro_rules | `(tactic| walk_at "fl.ne") => `(tactic| ((with_reducible apply DeckAt.ne'); (focus assumption); walk_at "fl.deck"))
local macro_rules | `(tactic| walk_at "fl.ne") => `(tactic| exact Ne.symm (by assumption))
local macro_rules | `(tactic| walk_at "fl.ne") => `(tactic| assumption)
local macro_rules | `(tactic| walk_at "fl.look") => `(tactic| ((with_reducible apply Fl.Same.t); (focus assumption); walk_at "fl.look"))
local macro_rules | `(tactic| walk_at "fl.look") => `(tactic| ((with_reducible apply Same.seq); (focus assumption); walk_at "fl.look"))
local macro_rules | `(tactic| walk_at "fl.look") => `(tactic| ((with_reducible apply Ex1.t); (focus assumption); (focus walk_at "fl.ne"); walk_at "fl.look"))
local macro_rules | `(tactic| walk_at "fl.look") => `(tactic| ((with_reducible apply Ex1.l); (focus assumption); (focus walk_at "fl.ne"); walk_at "fl.look"))
local macro_rules | `(tactic| walk_at "fl.look") => `(tactic| ((with_reducible apply Fl.Same.t); (focus exact Fl.Same.new (by assumption)); walk_at "fl.look"))
local macro_rules | `(tactic| walk_at "fl.look") => `(tactic| ((with_reducible apply Same.seq); (focus exact Fl.Same.new (by assumption)); walk_at "fl.look"))
local macro_rules | `(tactic| walk_at "fl.look") => `(tactic| ((with_reducible apply Ex1.t); (focus with_reducible exact Ex1.upd); (focus walk_at "fl.ne"); walk_at "fl.look"))
local macro_rules | `(tactic| walk_at "fl.look") => `(tactic| ((with_reducible apply Ex1.l); (focus with_reducible exact Ex1.upd); (focus walk_at "fl.ne"); walk_at "fl.look"))
local macro_rules | `(tactic| walk_at "fl.look") => `(tactic| ((with_reducible apply SqT.of); assumption))
local macro_rules | `(tactic| walk_at "fl.look") => `(tactic| ((with_reducible apply SqL.of); assumption))
local macro_rules | `(tactic| walk_at "fl.look") => `(tactic| (with_reducible exact SqT.of upd_same))
local macro_rules | `(tactic| walk_at "fl.look") => `(tactic| (with_reducible exact SqL.of upd_same))
local macro_rules | `(tactic| walk_at "fl.look") => `(tactic| ((with_reducible show RV _ _ _ _); (with_reducible apply RV.same); (focus exact Fl.Same.new (by assumption)); walk_at "fl.look"))
local macro_rules | `(tactic| walk_at "fl.look") => `(tactic| ((with_reducible show RV _ _ _ _); (with_reducible apply RV.same); (focus assumption); walk_at "fl.look"))
local macro_rules | `(tactic| walk_at "fl.look") => `(tactic| ((with_reducible show RV _ _ _ _); (with_reducible apply RV.ex1); (focus assumption); (focus walk_at "fl.ne"); walk_at "fl.look"))
local macro_rules | `(tactic| walk_at "fl.look") => `(tactic| assumption)
-- arithmetic that an operation asks
local macro_rules | `(tactic| walk_at "fl.side") => `(tactic| exact div62 (by first | assumption | decide | omega) (by first | assumption | decide | omega))
local macro_rules | `(tactic| walk_at "fl.side") => `(tactic| exact divS (by first | assumption | omega) (by first | assumption | omega))
local macro_rules | `(tactic| walk_at "fl.side") => `(tactic| exact divW (by first | assumption | omega) (by first | assumption | omega))
local macro_rules | `(tactic| walk_at "fl.side") => `(tactic| exact mulW (by first | assumption | omega) (by first | assumption | omega))
local macro_rules | `(tactic| walk_at "fl.side") => `(tactic| exact Or.inl (by decide))
local macro_rules | `(tactic| walk_at "fl.side") => `(tactic| (refine ⟨?_, ?_, ?_⟩ <;> decide))
local macro_rules | `(tactic| walk_at "fl.side") => `(tactic| exact Or.inr (by decide))
local macro_rules | `(tactic| walk_at "fl.side") => `(tactic| (simp only [List.length_cons, List.length_nil]; omega))
local macro_rules | `(tactic| walk_at "fl.side") => `(tactic| omega)
local macro_rules | `(tactic| walk_at "fl.side") => `(tactic| assumption)
local macro_rules | `(tactic| walk_at "fl.side") => `(tactic| decide)
local macro_rules | `(tactic| walk_at "fl.kit") => `(tactic| first | exact kit_int_int | exact kit_int_bool | exact kit_int_tuple | exact kit_int_str | exact kit_int_list | exact kit_int_dict | exact kit_bool_int | exact kit_bool_bool | exact kit_bool_tuple | exact kit_bool_str | exact kit_bool_list | exact kit_bool_dict | exact kit_tuple_int | exact kit_tuple_bool | exact kit_tuple_tuple | exact kit_tuple_str | exact kit_tuple_list | exact kit_tuple_dict | exact kit_str_int | exact kit_str_bool | exact kit_str_tuple | exact kit_str_str | exact kit_str_list | exact kit_str_dict | exact kit_list_int | exact kit_list_bool | exact kit_list_tuple | exact kit_list_str | exact kit_list_list | exact kit_list_dict | exact kit_NoneType_int | exact kit_NoneType_bool | exact kit_NoneType_tuple | exact kit_NoneType_str | exact kit_NoneType_list | exact kit_NoneType_dict | exact kit_dict_int | exact kit_dict_bool | exact kit_dict_tuple | exact kit_dict_str | exact kit_dict_list | exact kit_dict_dict)
local macro_rules | `(tactic| walk_at "fl.ty") => `(tactic| (apply TyX.base; apply TyOf.lst; assumption))
local macro_rules | `(tactic| walk_at "fl.ty") => `(tactic| (apply TyX.base; apply TyOf.tup; assumption))
local macro_rules | `(tactic| walk_at "fl.ty") => `(tactic| exact .base (.lst upd_same))
local macro_rules | `(tactic| walk_at "fl.ty") => `(tactic| exact .base (.tup upd_same))
local macro_rules | `(tactic| walk_at "fl.ty") => `(tactic| exact .base (.str _))
local macro_rules | `(tactic| walk_at "fl.ty") => `(tactic| exact .base .non)
local macro_rules | `(tactic| walk_at "fl.ty") => `(tactic| exact .base (.bl _))
local macro_rules | `(tactic| walk_at "fl.ty") => `(tactic| exact .base (.int _))
local macro_rules | `(tactic| walk_at "fl.deck") => `(tactic| (refine DeckAt.same ?_ (by assumption); walk_at "fl.deck"))
local macro_rules | `(tactic| walk_at "fl.deck") => `(tactic| (refine DeckAt.same ?_ (Fl.Same.new (by assumption)); walk_at "fl.deck"))
local macro_rules | `(tactic| walk_at "fl.deck") => `(tactic| assumption)
local macro_rules | `(tactic| walk_at "fl.ex1") => `(tactic| (refine Ex1.trans ?_ (Ex1.of (by assumption)); walk_at "fl.ex1"))
local macro_rules | `(tactic| walk_at "fl.ex1") => `(tactic| (refine Ex1.trans ?_ (by assumption); walk_at "fl.ex1"))
local macro_rules | `(tactic| walk_at "fl.ex1") => `(tactic| (refine Ex1.trans ?_ (Ex1.of (Fl.Same.new (by assumption))); walk_at "fl.ex1"))
local macro_rules | `(tactic| walk_at "fl.ex1") => `(tactic| (refine Ex1.trans ?_ Ex1.upd; walk_at "fl.ex1"))
local macro_rules | `(tactic| walk_at "fl.ex1") => `(tactic| exact Ex1.upd)
local macro_rules | `(tactic| walk_at "fl.ex1") => `(tactic| exact Ex1.refl)
local macro_rules | `(tactic| walk_at "fl.ex1") => `(tactic| assumption)
local macro_rules | `(tactic| walk_at "fl.pre") => `(tactic| first | assumption | trivial | exact ne_of_num (by assumption))
local macro_rules | `(tactic| walk_at "fl.szq") => `(tactic| exact szq_div (k := 41) (by decide) (by omega) (by decide))
local macro_rules | `(tactic| walk_at "fl.szq") => `(tactic| ((with_reducible apply Szq.div); (focus walk_at "fl.szq"); (focus walk_at "fl.szq"); (focus walk_at "fl.pre")))
local macro_rules | `(tactic| walk_at "fl.szq") => `(tactic| ((with_reducible apply Szq.mul); (focus walk_at "fl.szq"); (focus walk_at "fl.szq")))
local macro_rules | `(tactic| walk_at "fl.szq") => `(tactic| ((with_reducible apply Szq.sub); (focus walk_at "fl.szq"); (focus walk_at "fl.szq")))
local macro_rules | `(tactic| walk_at "fl.szq") => `(tactic| ((with_reducible apply Szq.add); (focus walk_at "fl.szq"); (focus walk_at "fl.szq")))
local macro_rules | `(tactic| walk_at "fl.szq") => `(tactic| assumption)
local macro_rules | `(tactic| walk_at "fl.md") => `(tactic| first | assumption | ((with_reducible apply Szq.md); (focus walk_at "fl.szq"); decide))
local macro_rules | `(tactic| walk_at "fl.rat") => `(tactic| exact Rat.div_mul_cancel (ne_of_num (by assumption)))
local macro_rules | `(tactic| walk_at "fl.rat") => `(tactic| exact Rat.mul_div_cancel (ne_of_num (by assumption)))
local macro_rules | `(tactic| walk_at "fl.rat") => `(tactic| exact Rat.add_sub_cancel)
local macro_rules | `(tactic| walk_at "fl.rat") => `(tactic| exact Rat.mul_add _ _ _)
local macro_rules | `(tactic| walk_at "fl.rat") => `(tactic| exact Rat.mul_assoc _ _ _)
local macro_rules | `(tactic| walk_at "fl.rat") => `(tactic| exact Rat.add_assoc _ _ _)
local macro_rules | `(tactic| walk_at "fl.rat") => `(tactic| exact Rat.mul_comm _ _)
local macro_rules | `(tactic| walk_at "fl.rat") => `(tactic| exact Rat.add_comm _ _)
local macro_rules | `(tactic| walk_at "fl.rat") => `(tactic| rfl)
-- one step of a reading
local macro_rules | `(tactic| walk_at "fl.s") => `(tactic| ((with_reducible show ∀ (p : Addr), (_ : Option HO) = none → _); intro _ _))
local macro_rules | `(tactic| walk_at "fl.s") => `(tactic| (with_reducible refine g_iteNF ?_))
local macro_rules | `(tactic| walk_at "fl.s") => `(tactic| (with_reducible refine g_iteNT ?_))
local macro_rules | `(tactic| walk_at "fl.s") => `(tactic| (with_reducible refine g_iteF ?_))
local macro_rules | `(tactic| walk_at "fl.s") => `(tactic| (with_reducible refine g_iteT ?_))
local macro_rules | `(tactic| walk_at "fl.s") => `(tactic| (with_reducible refine g_lstN ?_))
local macro_rules | `(tactic| walk_at "fl.s") => `(tactic| (with_reducible refine g_tupN ?_))
local macro_rules | `(tactic| walk_at "fl.s") => `(tactic| (with_reducible refine g_tup2 ?_))
local macro_rules | `(tactic| walk_at "fl.s") => `(tactic| (with_reducible refine g_nil ?_))
local macro_rules | `(tactic| walk_at "fl.s") => `(tactic| (with_reducible refine g_cons ?_))
local macro_rules | `(tactic| walk_at "fl.s") => `(tactic| ((with_reducible apply ne_app); (focus walk_at "fl.look"); (focus walk_at "fl.look"); (focus walk_at "fl.rat")))
local macro_rules | `(tactic| walk_at "fl.s") => `(tactic| ((with_reducible apply nr_app); (focus walk_at "fl.look"); (focus walk_at "fl.md")))
local macro_rules | `(tactic| walk_at "fl.s") => `(tactic| ((with_reducible apply cq_app); (focus walk_at "fl.look"); (focus walk_at "fl.look"); (focus walk_at "fl.md"); (focus walk_at "fl.md")))
local macro_rules | `(tactic| walk_at "fl.s") => `(tactic| ((with_reducible apply bin_app); (focus walk_at "fl.look"); (focus walk_at "fl.look"); (focus walk_at "fl.md"); (focus walk_at "fl.md"); (focus walk_at "fl.pre"); intro _ _ _ _ _))
local macro_rules | `(tactic| walk_at "fl.s") => `(tactic| ((with_reducible show spRatq _ _ _ _ _); (apply ratq_app); (focus walk_at "fl.side"); (focus walk_at "fl.side"); (focus walk_at "fl.side"); intro _ _ _ _ _))
local macro_rules | `(tactic| walk_at "fl.s") => `(tactic| (with_reducible refine g_callD ?_))
local macro_rules | `(tactic| walk_at "fl.s") => `(tactic| (with_reducible refine sameI_app ?_))
local macro_rules | `(tactic| walk_at "fl.s") => `(tactic| (with_reducible refine isint_app ?_))
local macro_rules | `(tactic| walk_at "fl.s") => `(tactic| ((with_reducible apply near2_app); (focus walk_at "fl.look"); (focus assumption); intro _ _ _ _ _))
local macro_rules | `(tactic| walk_at "fl.s") => `(tactic| ((with_reducible apply down2_app); (focus walk_at "fl.look"); (focus assumption); intro _ _ _ _ _ _))
local macro_rules | `(tactic| walk_at "fl.s") => `(tactic| ((with_reducible apply cmp_app); (focus walk_at "fl.look"); (focus walk_at "fl.look"); (focus assumption); (focus assumption)))
local macro_rules | `(tactic| walk_at "fl.s") => `(tactic| ((with_reducible refine fra_app ?_ ?_ ?_ ?_); (focus walk_at "fl.side"); (focus walk_at "fl.side"); (focus walk_at "fl.side"); intro _ _ _ _ _))
local macro_rules | `(tactic| walk_at "fl.s") => `(tactic| ((with_reducible apply deck_app); (focus walk_at "fl.look"); intro _ _ _ _ _))
local macro_rules | `(tactic| walk_at "fl.s") => `(tactic| ((with_reducible refine big_app ?_ ?_); (focus walk_at "fl.deck"); intro _ _ _ _ _ _ _ _ _))
local macro_rules | `(tactic| walk_at "fl.s") => `(tactic| ((with_reducible refine draw_app ?_ ?_ ?_ ?_); (focus walk_at "fl.deck"); (focus walk_at "fl.side"); (focus walk_at "fl.side"); intro _ _ _ _ _ _))
local macro_rules | `(tactic| walk_at "fl.s") => `(tactic| (with_reducible refine g_call ?_))
local macro_rules | `(tactic| walk_at "fl.s") => `(tactic| (with_reducible refine g_drop ?_))
local macro_rules | `(tactic| walk_at "fl.s") => `(tactic| (with_reducible refine g_ipI ?_))
local macro_rules | `(tactic| walk_at "fl.s") => `(tactic| ((with_reducible apply g_aug); (focus rfl)))
local macro_rules | `(tactic| walk_at "fl.s") => `(tactic| (with_reducible refine g_set ?_))
local macro_rules | `(tactic| walk_at "fl.s") => `(tactic| ((with_reducible apply g_setL); (focus first | assumption | exact upd_same); (focus rfl)))
local macro_rules | `(tactic| walk_at "fl.s") => `(tactic| (with_reducible refine g_setS ?_))
local macro_rules | `(tactic| walk_at "fl.s") => `(tactic| (with_reducible refine g_if ?_))
local macro_rules | `(tactic| walk_at "fl.s") => `(tactic| (with_reducible refine g_ret ?_))
local macro_rules | `(tactic| walk_at "fl.s") => `(tactic| (with_reducible refine g_next ?_))
local macro_rules | `(tactic| walk_at "fl.s") => `(tactic| (with_reducible refine g_notV ?_))
local macro_rules | `(tactic| walk_at "fl.s") => `(tactic| (with_reducible refine g_orV ?_))
local macro_rules | `(tactic| walk_at "fl.s") => `(tactic| (with_reducible refine g_andV ?_))
local macro_rules | `(tactic| walk_at "fl.s") => `(tactic| (with_reducible refine g_or ?_))
local macro_rules | `(tactic| walk_at "fl.s") => `(tactic| (with_reducible refine g_and ?_))
local macro_rules | `(tactic| walk_at "fl.s") => `(tactic| (with_reducible refine g_not ?_))
local macro_rules | `(tactic| walk_at "fl.s") => `(tactic| (with_reducible refine g_ex ?_))
local macro_rules | `(tactic| walk_at "fl.s") => `(tactic| (with_reducible refine g_bl ?_))
local macro_rules | `(tactic| walk_at "fl.s") => `(tactic| (with_reducible refine g_B ?_))
local macro_rules | `(tactic| walk_at "fl.s") => `(tactic| (with_reducible refine g_test ?_))
local macro_rules | `(tactic| walk_at "fl.s") => `(tactic| (with_reducible refine g_eqB ?_))
local macro_rules | `(tactic| walk_at "fl.s") => `(tactic| (with_reducible refine g_neI ?_))
local macro_rules | `(tactic| walk_at "fl.s") => `(tactic| (with_reducible refine g_eqI ?_))
local macro_rules | `(tactic| walk_at "fl.s") => `(tactic| ((with_reducible refine g_tup2 ?_)))
local macro_rules | `(tactic| walk_at "fl.s") => `(tactic| ((with_reducible refine g_new ?_ ?_); (focus walk_at "fl.side"); intro _ _))
local macro_rules | `(tactic| walk_at "fl.s") => `(tactic| ((with_reducible apply g_listL); (focus walk_at "fl.look"); intro _ _))
local macro_rules | `(tactic| walk_at "fl.s") => `(tactic| ((with_reducible apply g_isiT); (focus walk_at "fl.ty"); (focus walk_at "fl.kit")))
local macro_rules | `(tactic| walk_at "fl.s") => `(tactic| (with_reducible refine g_gcd ?_))
local macro_rules | `(tactic| walk_at "fl.s") => `(tactic| ((with_reducible apply g_lenT); (focus walk_at "fl.look")))
local macro_rules | `(tactic| walk_at "fl.s") => `(tactic| ((with_reducible apply g_lenL); (focus walk_at "fl.look")))
local macro_rules | `(tactic| walk_at "fl.s") => `(tactic| (with_reducible refine g_min ?_))
local macro_rules | `(tactic| walk_at "fl.s") => `(tactic| (with_reducible refine g_max ?_))
local macro_rules | `(tactic| walk_at "fl.s") => `(tactic| (with_reducible refine g_abs ?_))
local macro_rules | `(tactic| walk_at "fl.s") => `(tactic| (with_reducible refine g_intB ?_))
local macro_rules | `(tactic| walk_at "fl.s") => `(tactic| (with_reducible refine g_int ?_))
local macro_rules | `(tactic| walk_at "fl.s") => `(tactic| (with_reducible refine g_cb2 ?_))
local macro_rules | `(tactic| walk_at "fl.s") => `(tactic| (with_reducible refine g_cb1 ?_))
local macro_rules | `(tactic| walk_at "fl.s") => `(tactic| ((with_reducible apply g_ixT); (focus walk_at "fl.look"); (focus first | assumption | rfl)))
local macro_rules | `(tactic| walk_at "fl.s") => `(tactic| ((with_reducible apply g_ixL); (focus walk_at "fl.look"); (focus first | assumption | rfl)))
local macro_rules | `(tactic| walk_at "fl.s") => `(tactic| (with_reducible refine g_un ?_))
local macro_rules | `(tactic| walk_at "fl.s") => `(tactic| (with_reducible refine g_U ?_))
local macro_rules | `(tactic| walk_at "fl.s") => `(tactic| ((with_reducible apply g_I); (focus walk_at "fl.side")))
local macro_rules | `(tactic| walk_at "fl.s") => `(tactic| (with_reducible refine g_I0 ?_))
local macro_rules | `(tactic| walk_at "fl.s") => `(tactic| (with_reducible refine g_c ?_))
local macro_rules | `(tactic| walk_at "fl.s") => `(tactic| ((with_reducible apply g_var); (focus rfl)))
local macro_rules | `(tactic| walk_at "fl.s") => `(tactic| (with_reducible refine g_op ?_))
local macro_rules | `(tactic| walk_at "fl.s") => `(tactic| (with_reducible refine g_seq ?_))
local macro_rules | `(tactic| walk_at "fl.go") => `(tactic| repeat walk_at "fl.s")
local macro_rules | `(tactic| walk_at "fl.run") => `(tactic| ((repeat walk_at "fl.s"); try (first
  | (refine g_ite (fun _ => ?_) (fun _ => ?_); all_goals walk_at "fl.run")
  | (refine g_iteN (fun _ => ?_) (fun _ => ?_); all_goals walk_at "fl.run"))))

local macro_rules | `(tactic| walk_at "fl.raw") => `(tactic| ((with_reducible apply raw_frd); (focus assumption); (focus walk_at "fl.nd"); walk_at "fl.raw"))
local macro_rules | `(tactic| walk_at "fl.raw") => `(tactic| ((with_reducible apply raw_on); (focus assumption); (focus walk_at "fl.nd"); walk_at "fl.raw"))
local macro_rules | `(tactic| walk_at "fl.raw") => `(tactic| ((with_reducible apply raw_same); (focus assumption); walk_at "fl.raw"))
local macro_rules | `(tactic| walk_at "fl.raw") => `(tactic| ((with_reducible apply raw_new); (focus assumption); walk_at "fl.raw"))
local macro_rules | `(tactic| walk_at "fl.raw") => `(tactic| exact upd_same)
local macro_rules | `(tactic| walk_at "fl.raw") => `(tactic| assumption)
local macro_rules | `(tactic| walk_at "fl.nd") => `(tactic| exact Dk.ned2 (by assumption) (by assumption))
local macro_rules | `(tactic| walk_at "fl.nd") => `(tactic| assumption)
local macro_rules | `(tactic| walk_at "fl.frd") => `(tactic| ((with_reducible apply Fl.Fr.frT); (focus assumption); walk_at "fl.frd"))
local macro_rules | `(tactic| walk_at "fl.frd") => `(tactic| ((with_reducible apply Fl.Fr.smT); (focus assumption); walk_at "fl.frd"))
local macro_rules | `(tactic| walk_at "fl.frd") => `(tactic| ((with_reducible apply Fl.Fr.ond); (focus assumption); walk_at "fl.frd"))
local macro_rules | `(tactic| walk_at "fl.frd") => `(tactic| ((with_reducible apply Fl.Fr.newT); (focus assumption); walk_at "fl.frd"))
local macro_rules | `(tactic| walk_at "fl.frd") => `(tactic| exact Fl.Fr.refl)
local macro_rules | `(tactic| walk_at "fl.frd") => `(tactic| assumption)
local macro_rules | `(tactic| walk_at "fl.lk") => `(tactic| ((with_reducible apply SqT.of); walk_at "fl.raw"))
local macro_rules | `(tactic| walk_at "fl.lk") => `(tactic| ((with_reducible apply SqL.of); walk_at "fl.raw"))
local macro_rules | `(tactic| walk_at "fl.dq") => `(tactic| ((with_reducible apply Dq.frd); (focus assumption); (focus first | assumption | simp); walk_at "fl.dq"))
local macro_rules | `(tactic| walk_at "fl.dq") => `(tactic| ((with_reducible apply Dq.ond); (focus assumption); (focus first | assumption | simp); walk_at "fl.dq"))
local macro_rules | `(tactic| walk_at "fl.dq") => `(tactic| ((with_reducible apply Dq.sm); (focus assumption); walk_at "fl.dq"))
local macro_rules | `(tactic| walk_at "fl.dq") => `(tactic| ((with_reducible apply Dq.newH); (focus assumption); walk_at "fl.dq"))
local macro_rules | `(tactic| walk_at "fl.dq") => `(tactic| exact Dq.non)
local macro_rules | `(tactic| walk_at "fl.dq") => `(tactic| exact Dq.bl _)
local macro_rules | `(tactic| walk_at "fl.dq") => `(tactic| exact Dq.int _)
local macro_rules | `(tactic| walk_at "fl.dq") => `(tactic| assumption)
local macro_rules | `(tactic| walk_at "fl.dqa") => `(tactic| ((with_reducible apply DqA.sm); (focus assumption); walk_at "fl.dqa"))
local macro_rules | `(tactic| walk_at "fl.dqa") => `(tactic| ((with_reducible apply DqA.newH); (focus assumption); walk_at "fl.dqa"))
local macro_rules | `(tactic| walk_at "fl.dqa") => `(tactic| ((with_reducible apply DqA.cons); (focus walk_at "fl.dq"); walk_at "fl.dqa"))
local macro_rules | `(tactic| walk_at "fl.dqa") => `(tactic| exact DqA.nil)
local macro_rules | `(tactic| walk_at "fl.dqa") => `(tactic| assumption)
local macro_rules | `(tactic| walk_at "fl.al") => `(tactic| ((with_reducible apply Al.frd); (focus assumption); (focus assumption); walk_at "fl.al"))
local macro_rules | `(tactic| walk_at "fl.al") => `(tactic| ((with_reducible apply Al.ond); (focus assumption); (focus assumption); walk_at "fl.al"))
local macro_rules | `(tactic| walk_at "fl.al") => `(tactic| ((with_reducible apply Al.sm); (focus assumption); walk_at "fl.al"))
local macro_rules | `(tactic| walk_at "fl.al") => `(tactic| ((with_reducible apply Al.newH); (focus assumption); walk_at "fl.al"))
local macro_rules | `(tactic| walk_at "fl.al") => `(tactic| exact Al.nil)
local macro_rules | `(tactic| walk_at "fl.al") => `(tactic| assumption)
local macro_rules | `(tactic| walk_at "fl.sm") => `(tactic| ((with_reducible apply Fl.Same.sm); (focus assumption); walk_at "fl.sm"))
local macro_rules | `(tactic| walk_at "fl.sm") => `(tactic| ((with_reducible apply Fl.Same.newT); (focus assumption); walk_at "fl.sm"))
local macro_rules | `(tactic| walk_at "fl.sm") => `(tactic| exact L2.Same.refl _)
local macro_rules | `(tactic| walk_at "fl.sm") => `(tactic| assumption)
local macro_rules | `(tactic| walk_at "fl.dk") => `(tactic| ((with_reducible apply Dk.sm); (focus assumption); walk_at "fl.dk"))
local macro_rules | `(tactic| walk_at "fl.dk") => `(tactic| ((with_reducible apply Dk.newH); (focus assumption); walk_at "fl.dk"))
local macro_rules | `(tactic| walk_at "fl.dk") => `(tactic| assumption)
local macro_rules | `(tactic| walk_at "fl.cz") => `(tactic| ((try simp only [List.length_drop, List.length_take, List.length_append, List.length_cons, List.length_nil, List.length_map, List.length_reverse, List.length_dropLast]); omega))
-- readings with plain lookups first, then the older steps
local macro_rules | `(tactic| walk_at "fl.t") => `(tactic| walk_at "fl.s")
local macro_rules | `(tactic| walk_at "fl.t") => `(tactic| ((with_reducible apply g_ez); (focus walk_at "fl.lk"); (focus walk_at "fl.lk")))
local macro_rules | `(tactic| walk_at "fl.t") => `(tactic| ((with_reducible apply g_el); (focus walk_at "fl.lk")))
local macro_rules | `(tactic| walk_at "fl.t") => `(tactic| ((with_reducible apply g_e2); (focus (refine ⟨?_, ?_, ?_, ?_⟩ <;> walk_at "fl.cz"))))
local macro_rules | `(tactic| walk_at "fl.t") => `(tactic| ((with_reducible apply g_e1); (focus walk_at "fl.cz"); (focus walk_at "fl.cz")))
local macro_rules | `(tactic| walk_at "fl.t") => `(tactic| (with_reducible refine g_zip ?_))
local macro_rules | `(tactic| walk_at "fl.t") => `(tactic| (with_reducible refine g_il ?_))
local macro_rules | `(tactic| walk_at "fl.t") => `(tactic| (with_reducible refine g_rng2 ?_))
local macro_rules | `(tactic| walk_at "fl.t") => `(tactic| (with_reducible refine g_rng1 ?_))
local macro_rules | `(tactic| walk_at "fl.t") => `(tactic| (with_reducible refine g_for ?_))
local macro_rules | `(tactic| walk_at "fl.t") => `(tactic| (with_reducible refine g_lc ?_))
local macro_rules | `(tactic| walk_at "fl.t") => `(tactic| ((with_reducible apply g_ext); (focus walk_at "fl.raw"); (focus walk_at "fl.raw"); (focus walk_at "fl.cz")))
local macro_rules | `(tactic| walk_at "fl.t") => `(tactic| ((with_reducible apply g_app); (focus walk_at "fl.raw"); (focus walk_at "fl.cz")))
local macro_rules | `(tactic| walk_at "fl.t") => `(tactic| ((with_reducible apply g_tyL); (focus walk_at "fl.lk")))
local macro_rules | `(tactic| walk_at "fl.t") => `(tactic| (with_reducible refine g_bm ?_))
local macro_rules | `(tactic| walk_at "fl.t") => `(tactic| (with_reducible refine g_gnil ?_))
local macro_rules | `(tactic| walk_at "fl.t") => `(tactic| (with_reducible refine g_gcons ?_))
local macro_rules | `(tactic| walk_at "fl.t") => `(tactic| ((with_reducible apply g_gtup); (focus walk_at "fl.lk"); (focus rfl)))
local macro_rules | `(tactic| walk_at "fl.t") => `(tactic| (with_reducible refine g_yes ?_))
local macro_rules | `(tactic| walk_at "fl.t") => `(tactic| ((with_reducible apply g_tru1); (focus walk_at "fl.lk")))
local macro_rules | `(tactic| walk_at "fl.t") => `(tactic| ((with_reducible apply g_tru0); (focus walk_at "fl.lk")))
local macro_rules | `(tactic| walk_at "fl.t") => `(tactic| (with_reducible refine g_tru ?_))
local macro_rules | `(tactic| walk_at "fl.t") => `(tactic| (with_reducible refine g_nn ?_))
local macro_rules | `(tactic| walk_at "fl.t") => `(tactic| ((with_reducible apply g_sum); (focus walk_at "fl.lk")))
local macro_rules | `(tactic| walk_at "fl.t") => `(tactic| ((with_reducible apply g_maxL); (focus walk_at "fl.lk"); (focus assumption)))
local macro_rules | `(tactic| walk_at "fl.t") => `(tactic| ((with_reducible apply g_minL); (focus walk_at "fl.lk"); (focus assumption)))
local macro_rules | `(tactic| walk_at "fl.t") => `(tactic| (with_reducible refine g_name ?_))
local macro_rules | `(tactic| walk_at "fl.t") => `(tactic| ((with_reducible refine g_sz ?_ ?_); (focus walk_at "fl.cz")))
local macro_rules | `(tactic| walk_at "fl.t") => `(tactic| ((with_reducible apply dk_app); (focus assumption); intro _ _ _ _ _))
local macro_rules | `(tactic| walk_at "fl.t") => `(tactic| ((with_reducible apply dr_app); (focus walk_at "fl.dk"); (focus first | (with_reducible assumption) | omega | walk_at "fl.side"); (focus first | (with_reducible assumption) | omega | walk_at "fl.side"); intro _ _ _ _ _ _))
local macro_rules | `(tactic| walk_at "fl.t") => `(tactic| ((with_reducible apply g_cat); (focus walk_at "fl.raw"); (focus walk_at "fl.raw"); (focus walk_at "fl.cz"); intro _ _))
local macro_rules | `(tactic| walk_at "fl.t") => `(tactic| ((with_reducible apply g_sl2); (focus walk_at "fl.lk"); intro _ _))
local macro_rules | `(tactic| walk_at "fl.t") => `(tactic| ((with_reducible apply g_slTo); (focus walk_at "fl.lk"); intro _ _))
local macro_rules | `(tactic| walk_at "fl.t") => `(tactic| ((with_reducible apply g_slF); (focus walk_at "fl.lk"); intro _ _))
local macro_rules | `(tactic| walk_at "fl.t") => `(tactic| ((with_reducible apply g_slE); (focus walk_at "fl.lk"); intro _ _))
local macro_rules | `(tactic| walk_at "fl.t") => `(tactic| ((with_reducible apply g_slB); (focus walk_at "fl.lk"); intro _ _))
local macro_rules | `(tactic| walk_at "fl.t") => `(tactic| ((with_reducible apply g_slT1); (focus walk_at "fl.lk"); intro _ _))
local macro_rules | `(tactic| walk_at "fl.t") => `(tactic| ((with_reducible apply g_slF1); (focus walk_at "fl.lk"); intro _ _))
local macro_rules | `(tactic| walk_at "fl.t") => `(tactic| (with_reducible refine g_ei ?_))
local macro_rules | `(tactic| walk_at "fl.t") => `(tactic| (with_reducible refine g_nop ?_))
local macro_rules | `(tactic| walk_at "fl.t") => `(tactic| (with_reducible refine g_part ?_))
local macro_rules | `(tactic| walk_at "fl.t") => `(tactic| (with_reducible refine g_sl ?_))
local macro_rules | `(tactic| walk_at "fl.t") => `(tactic| ((with_reducible apply g_listL); (focus walk_at "fl.lk"); intro _ _))
local macro_rules | `(tactic| walk_at "fl.t") => `(tactic| ((with_reducible apply g_lenT); (focus walk_at "fl.lk")))
local macro_rules | `(tactic| walk_at "fl.t") => `(tactic| ((with_reducible apply g_lenL); (focus walk_at "fl.lk")))
local macro_rules | `(tactic| walk_at "fl.t") => `(tactic| ((with_reducible apply g_ixT); (focus walk_at "fl.lk"); (focus first | assumption | rfl)))
local macro_rules | `(tactic| walk_at "fl.t") => `(tactic| ((with_reducible apply g_ixL); (focus walk_at "fl.lk"); (focus first | assumption | exact at0 | rfl)))
local macro_rules | `(tactic| walk_at "fl.w") => `(tactic| repeat walk_at "fl.t")
local macro_rules | `(tactic| walk_at "fl.wr") => `(tactic| ((repeat walk_at "fl.t"); try (first
  | (refine g_ite (fun _ => ?_) (fun _ => ?_); all_goals walk_at "fl.wr")
  | (refine g_iteN (fun _ => ?_) (fun _ => ?_); all_goals walk_at "fl.wr"))))

local macro_rules | `(tactic| walk_at "fl.t") => `(tactic| (with_reducible refine g_eqS ?_))
local macro_rules | `(tactic| walk_at "fl.t") => `(tactic| ((with_reducible apply g_lrev2); (focus walk_at "fl.lk"); intro _ _))
local macro_rules | `(tactic| walk_at "fl.t") => `(tactic| (with_reducible refine g_lrev ?_))
local macro_rules | `(tactic| walk_at "fl.t") => `(tactic| ((with_reducible apply g_slR0); (focus walk_at "fl.lk"); intro _ _))
local macro_rules | `(tactic| walk_at "fl.w") => `(tactic| repeat walk_at "fl.t")

local macro_rules | `(tactic| walk_at "fl.t") => `(tactic| (with_reducible refine g_asg2 ?_))
local macro_rules | `(tactic| walk_at "fl.t") => `(tactic| ((with_reducible apply g_allL); (focus walk_at "fl.lk")))
local macro_rules | `(tactic| walk_at "fl.t") => `(tactic| ((with_reducible apply g_enE); (focus walk_at "fl.lk")))
local macro_rules | `(tactic| walk_at "fl.t") => `(tactic| (with_reducible refine g_enum ?_))
local macro_rules | `(tactic| walk_at "fl.t") => `(tactic| (with_reducible refine g_truN ?_))
local macro_rules | `(tactic| walk_at "fl.t") => `(tactic| (with_reducible refine g_orT ?_))
local macro_rules | `(tactic| walk_at "fl.t") => `(tactic| (with_reducible refine g_chain ?_))
local macro_rules | `(tactic| walk_at "fl.t") => `(tactic| ((with_reducible apply g_sfE); (focus first | exact InitAt.hx (by assumption) | walk_at "fl.raw"); (focus assumption); (focus ((apply na_of); (focus assumption); rfl)); (focus (simp only [List.length_append, List.length_cons, List.length_nil]; omega))))
local macro_rules | `(tactic| walk_at "fl.t") => `(tactic| ((with_reducible apply g_fldE); (focus walk_at "fl.raw"); (focus assumption); (focus ((apply na_of); (focus assumption); rfl)); (focus rfl)))
local macro_rules | `(tactic| walk_at "fl.t") => `(tactic| (with_reducible refine g_make ?_))
local macro_rules | `(tactic| walk_at "fl.t") => `(tactic| (with_reducible refine g_sf ?_))
local macro_rules | `(tactic| walk_at "fl.t") => `(tactic| (with_reducible refine g_fld ?_))
local macro_rules | `(tactic| walk_at "fl.w") => `(tactic| repeat walk_at "fl.t")

def topS (i : Nat) : Stmt := PySem.Challenge.pw_fleuron_k43_whole_instances.main.body.getD i (.Pass ⟨0, 0, 0, 0⟩)
abbrev s_tuples_of : Stmt := topS 22
abbrev N_tuples_of : List Str := ["rows", "row"]
abbrev ps_tuples_of : List Str := ["rows"]
theorem sc_tuples_of : FnScope N_tuples_of ps_tuples_of (defScope s_tuples_of) := ⟨rfl, rfl, rfl, by decide +kernel, rfl, by decide +kernel, by decide +kernel⟩
theorem bd_tuples_of (kV doc pm : Value) (an : Option Addr) (cdv ct : Value) (us : List Value) (h : us.length = ps_tuples_of.length) : bindArgs (PySem.W.fnOf "tuples_of" "tuples_of" (defArgs s_tuples_of) (defBody s_tuples_of) (defScope s_tuples_of) .none kV doc pm an cdv ct) ⟨us, []⟩ = pure (ps_tuples_of.zip us) := match us, h with | [_], _ => rfl
abbrev s_depths_of : Stmt := topS 3
abbrev N_depths_of : List Str := ["glyphs", "depths", "level", "k", "found"]
abbrev ps_depths_of : List Str := ["glyphs"]
theorem sc_depths_of : FnScope N_depths_of ps_depths_of (defScope s_depths_of) := ⟨rfl, rfl, rfl, by decide +kernel, rfl, by decide +kernel, by decide +kernel⟩
theorem bd_depths_of (kV doc pm : Value) (an : Option Addr) (cdv ct : Value) (us : List Value) (h : us.length = ps_depths_of.length) : bindArgs (PySem.W.fnOf "depths_of" "depths_of" (defArgs s_depths_of) (defBody s_depths_of) (defScope s_depths_of) .none kV doc pm an cdv ct) ⟨us, []⟩ = pure (ps_depths_of.zip us) := match us, h with | [_], _ => rfl
abbrev s_has_parts_in : Stmt := topS 4
abbrev N_has_parts_in : List Str := ["glyph", "depths", "part"]
abbrev ps_has_parts_in : List Str := ["glyph", "depths"]
theorem sc_has_parts_in : FnScope N_has_parts_in ps_has_parts_in (defScope s_has_parts_in) := ⟨rfl, rfl, rfl, by decide +kernel, rfl, by decide +kernel, by decide +kernel⟩
theorem bd_has_parts_in (kV doc pm : Value) (an : Option Addr) (cdv ct : Value) (us : List Value) (h : us.length = ps_has_parts_in.length) : bindArgs (PySem.W.fnOf "has_parts_in" "has_parts_in" (defArgs s_has_parts_in) (defBody s_has_parts_in) (defScope s_has_parts_in) .none kV doc pm an cdv ct) ⟨us, []⟩ = pure (ps_has_parts_in.zip us) := match us, h with | [_, _], _ => rfl
abbrev s_is_proper : Stmt := topS 16
abbrev N_is_proper : List Str := ["outline", "contour", "x", "y", "_"]
abbrev ps_is_proper : List Str := ["outline"]
theorem sc_is_proper : FnScope N_is_proper ps_is_proper (defScope s_is_proper) := ⟨rfl, rfl, rfl, by decide +kernel, rfl, by decide +kernel, by decide +kernel⟩
theorem bd_is_proper (kV doc pm : Value) (an : Option Addr) (cdv ct : Value) (us : List Value) (h : us.length = ps_is_proper.length) : bindArgs (PySem.W.fnOf "is_proper" "is_proper" (defArgs s_is_proper) (defBody s_is_proper) (defScope s_is_proper) .none kV doc pm an cdv ct) ⟨us, []⟩ = pure (ps_is_proper.zip us) := match us, h with | [_], _ => rfl
abbrev s_count_points : Stmt := topS 17
abbrev N_count_points : List Str := ["outline", "contour"]
abbrev ps_count_points : List Str := ["outline"]
theorem sc_count_points : FnScope N_count_points ps_count_points (defScope s_count_points) := ⟨rfl, rfl, rfl, by decide +kernel, rfl, by decide +kernel, by decide +kernel⟩
theorem bd_count_points (kV doc pm : Value) (an : Option Addr) (cdv ct : Value) (us : List Value) (h : us.length = ps_count_points.length) : bindArgs (PySem.W.fnOf "count_points" "count_points" (defArgs s_count_points) (defBody s_count_points) (defScope s_count_points) .none kV doc pm an cdv ct) ⟨us, []⟩ = pure (ps_count_points.zip us) := match us, h with | [_], _ => rfl
abbrev s_is_rising : Stmt := topS 23
abbrev N_is_rising : List Str := ["numbers", "many", "last", "number"]
abbrev ps_is_rising : List Str := ["numbers", "many"]
theorem sc_is_rising : FnScope N_is_rising ps_is_rising (defScope s_is_rising) := ⟨rfl, rfl, rfl, by decide +kernel, rfl, by decide +kernel, by decide +kernel⟩
theorem bd_is_rising (kV doc pm : Value) (an : Option Addr) (cdv ct : Value) (us : List Value) (h : us.length = ps_is_rising.length) : bindArgs (PySem.W.fnOf "is_rising" "is_rising" (defArgs s_is_rising) (defBody s_is_rising) (defScope s_is_rising) .none kV doc pm an cdv ct) ⟨us, []⟩ = pure (ps_is_rising.zip us) := match us, h with | [_, _], _ => rfl
abbrev s_is_instruction : Stmt := topS 41
abbrev N_is_instruction : List Str := ["step"]
abbrev ps_is_instruction : List Str := ["step"]
theorem sc_is_instruction : FnScope N_is_instruction ps_is_instruction (defScope s_is_instruction) := ⟨rfl, rfl, rfl, by decide +kernel, rfl, by decide +kernel, by decide +kernel⟩
theorem bd_is_instruction (kV doc pm : Value) (an : Option Addr) (cdv ct : Value) (us : List Value) (h : us.length = ps_is_instruction.length) : bindArgs (PySem.W.fnOf "is_instruction" "is_instruction" (defArgs s_is_instruction) (defBody s_is_instruction) (defScope s_is_instruction) .none kV doc pm an cdv ct) ⟨us, []⟩ = pure (ps_is_instruction.zip us) := match us, h with | [_], _ => rfl
abbrev s_is_row_of_letters : Stmt := topS 20
abbrev N_is_row_of_letters : List Str := ["word", "most", "letter"]
abbrev ps_is_row_of_letters : List Str := ["word", "most"]
theorem sc_is_row_of_letters : FnScope N_is_row_of_letters ps_is_row_of_letters (defScope s_is_row_of_letters) := ⟨rfl, rfl, rfl, by decide +kernel, rfl, by decide +kernel, by decide +kernel⟩
theorem bd_is_row_of_letters (kV doc pm : Value) (an : Option Addr) (cdv ct : Value) (us : List Value) (h : us.length = ps_is_row_of_letters.length) : bindArgs (PySem.W.fnOf "is_row_of_letters" "is_row_of_letters" (defArgs s_is_row_of_letters) (defBody s_is_row_of_letters) (defScope s_is_row_of_letters) .none kV doc pm an cdv ct) ⟨us, []⟩ = pure (ps_is_row_of_letters.zip us) := match us, h with | [_, _], _ => rfl
abbrev s_lookup_reason : Stmt := topS 31
abbrev N_lookup_reason : List Str := ["font", "lookup", "rule", "reason"]
abbrev ps_lookup_reason : List Str := ["font", "lookup"]
theorem sc_lookup_reason : FnScope N_lookup_reason ps_lookup_reason (defScope s_lookup_reason) := ⟨rfl, rfl, rfl, by decide +kernel, rfl, by decide +kernel, by decide +kernel⟩
theorem bd_lookup_reason (kV doc pm : Value) (an : Option Addr) (cdv ct : Value) (us : List Value) (h : us.length = ps_lookup_reason.length) : bindArgs (PySem.W.fnOf "lookup_reason" "lookup_reason" (defArgs s_lookup_reason) (defBody s_lookup_reason) (defScope s_lookup_reason) .none kV doc pm an cdv ct) ⟨us, []⟩ = pure (ps_lookup_reason.zip us) := match us, h with | [_, _], _ => rfl
abbrev s_first_fault : Stmt := topS 45
abbrev N_first_fault : List Str := ["font"]
abbrev ps_first_fault : List Str := ["font"]
theorem sc_first_fault : FnScope N_first_fault ps_first_fault (defScope s_first_fault) := ⟨rfl, rfl, rfl, by decide +kernel, rfl, by decide +kernel, by decide +kernel⟩
theorem bd_first_fault (kV doc pm : Value) (an : Option Addr) (cdv ct : Value) (us : List Value) (h : us.length = ps_first_fault.length) : bindArgs (PySem.W.fnOf "first_fault" "first_fault" (defArgs s_first_fault) (defBody s_first_fault) (defScope s_first_fault) .none kV doc pm an cdv ct) ⟨us, []⟩ = pure (ps_first_fault.zip us) := match us, h with | [_], _ => rfl
abbrev s_placed : Stmt := topS 46
abbrev N_placed : List Str := ["place", "reason"]
abbrev ps_placed : List Str := ["place", "reason"]
theorem sc_placed : FnScope N_placed ps_placed (defScope s_placed) := ⟨rfl, rfl, rfl, by decide +kernel, rfl, by decide +kernel, by decide +kernel⟩
theorem bd_placed (kV doc pm : Value) (an : Option Addr) (cdv ct : Value) (us : List Value) (h : us.length = ps_placed.length) : bindArgs (PySem.W.fnOf "placed" "placed" (defArgs s_placed) (defBody s_placed) (defScope s_placed) .none kV doc pm an cdv ct) ⟨us, []⟩ = pure (ps_placed.zip us) := match us, h with | [_, _], _ => rfl
abbrev s_first_glyph_fault : Stmt := topS 47
abbrev N_first_glyph_fault : List Str := ["font", "number", "glyph", "reason"]
abbrev ps_first_glyph_fault : List Str := ["font"]
theorem sc_first_glyph_fault : FnScope N_first_glyph_fault ps_first_glyph_fault (defScope s_first_glyph_fault) := ⟨rfl, rfl, rfl, by decide +kernel, rfl, by decide +kernel, by decide +kernel⟩
theorem bd_first_glyph_fault (kV doc pm : Value) (an : Option Addr) (cdv ct : Value) (us : List Value) (h : us.length = ps_first_glyph_fault.length) : bindArgs (PySem.W.fnOf "first_glyph_fault" "first_glyph_fault" (defArgs s_first_glyph_fault) (defBody s_first_glyph_fault) (defScope s_first_glyph_fault) .none kV doc pm an cdv ct) ⟨us, []⟩ = pure (ps_first_glyph_fault.zip us) := match us, h with | [_], _ => rfl
abbrev s_first_lookup_fault : Stmt := topS 48
abbrev N_first_lookup_fault : List Str := ["font", "number", "lookup", "reason"]
abbrev ps_first_lookup_fault : List Str := ["font"]
theorem sc_first_lookup_fault : FnScope N_first_lookup_fault ps_first_lookup_fault (defScope s_first_lookup_fault) := ⟨rfl, rfl, rfl, by decide +kernel, rfl, by decide +kernel, by decide +kernel⟩
theorem bd_first_lookup_fault (kV doc pm : Value) (an : Option Addr) (cdv ct : Value) (us : List Value) (h : us.length = ps_first_lookup_fault.length) : bindArgs (PySem.W.fnOf "first_lookup_fault" "first_lookup_fault" (defArgs s_first_lookup_fault) (defBody s_first_lookup_fault) (defScope s_first_lookup_fault) .none kV doc pm an cdv ct) ⟨us, []⟩ = pure (ps_first_lookup_fault.zip us) := match us, h with | [_], _ => rfl
abbrev s_is_coordinate : Stmt := topS 49
abbrev N_is_coordinate : List Str := ["n"]
abbrev ps_is_coordinate : List Str := ["n"]
theorem sc_is_coordinate : FnScope N_is_coordinate ps_is_coordinate (defScope s_is_coordinate) := ⟨rfl, rfl, rfl, by decide +kernel, rfl, by decide +kernel, by decide +kernel⟩
theorem bd_is_coordinate (kV doc pm : Value) (an : Option Addr) (cdv ct : Value) (us : List Value) (h : us.length = ps_is_coordinate.length) : bindArgs (PySem.W.fnOf "is_coordinate" "is_coordinate" (defArgs s_is_coordinate) (defBody s_is_coordinate) (defScope s_is_coordinate) .none kV doc pm an cdv ct) ⟨us, []⟩ = pure (ps_is_coordinate.zip us) := match us, h with | [_], _ => rfl
abbrev s_many_reason : Stmt := topS 50
abbrev N_many_reason : List Str := ["rows", "least", "most"]
abbrev ps_many_reason : List Str := ["rows", "least", "most"]
theorem sc_many_reason : FnScope N_many_reason ps_many_reason (defScope s_many_reason) := ⟨rfl, rfl, rfl, by decide +kernel, rfl, by decide +kernel, by decide +kernel⟩
theorem bd_many_reason (kV doc pm : Value) (an : Option Addr) (cdv ct : Value) (us : List Value) (h : us.length = ps_many_reason.length) : bindArgs (PySem.W.fnOf "many_reason" "many_reason" (defArgs s_many_reason) (defBody s_many_reason) (defScope s_many_reason) .none kV doc pm an cdv ct) ⟨us, []⟩ = pure (ps_many_reason.zip us) := match us, h with | [_, _, _], _ => rfl
abbrev s_unit_reason : Stmt := topS 51
abbrev N_unit_reason : List Str := ["font"]
abbrev ps_unit_reason : List Str := ["font"]
theorem sc_unit_reason : FnScope N_unit_reason ps_unit_reason (defScope s_unit_reason) := ⟨rfl, rfl, rfl, by decide +kernel, rfl, by decide +kernel, by decide +kernel⟩
theorem bd_unit_reason (kV doc pm : Value) (an : Option Addr) (cdv ct : Value) (us : List Value) (h : us.length = ps_unit_reason.length) : bindArgs (PySem.W.fnOf "unit_reason" "unit_reason" (defArgs s_unit_reason) (defBody s_unit_reason) (defScope s_unit_reason) .none kV doc pm an cdv ct) ⟨us, []⟩ = pure (ps_unit_reason.zip us) := match us, h with | [_], _ => rfl
abbrev s_glyph_reason : Stmt := topS 52
abbrev N_glyph_reason : List Str := ["font", "glyph", "part", "anchor", "delta", "step"]
abbrev ps_glyph_reason : List Str := ["font", "glyph"]
theorem sc_glyph_reason : FnScope N_glyph_reason ps_glyph_reason (defScope s_glyph_reason) := ⟨rfl, rfl, rfl, by decide +kernel, rfl, by decide +kernel, by decide +kernel⟩
theorem bd_glyph_reason (kV doc pm : Value) (an : Option Addr) (cdv ct : Value) (us : List Value) (h : us.length = ps_glyph_reason.length) : bindArgs (PySem.W.fnOf "glyph_reason" "glyph_reason" (defArgs s_glyph_reason) (defBody s_glyph_reason) (defScope s_glyph_reason) .none kV doc pm an cdv ct) ⟨us, []⟩ = pure (ps_glyph_reason.zip us) := match us, h with | [_, _], _ => rfl
abbrev s_is_part : Stmt := topS 53
abbrev N_is_part : List Str := ["font", "part", "number", "x", "y"]
abbrev ps_is_part : List Str := ["font", "part"]
theorem sc_is_part : FnScope N_is_part ps_is_part (defScope s_is_part) := ⟨rfl, rfl, rfl, by decide +kernel, rfl, by decide +kernel, by decide +kernel⟩
theorem bd_is_part (kV doc pm : Value) (an : Option Addr) (cdv ct : Value) (us : List Value) (h : us.length = ps_is_part.length) : bindArgs (PySem.W.fnOf "is_part" "is_part" (defArgs s_is_part) (defBody s_is_part) (defScope s_is_part) .none kV doc pm an cdv ct) ⟨us, []⟩ = pure (ps_is_part.zip us) := match us, h with | [_, _], _ => rfl
abbrev s_is_anchor : Stmt := topS 54
abbrev N_is_anchor : List Str := ["anchor", "kind", "group", "x", "y"]
abbrev ps_is_anchor : List Str := ["anchor"]
theorem sc_is_anchor : FnScope N_is_anchor ps_is_anchor (defScope s_is_anchor) := ⟨rfl, rfl, rfl, by decide +kernel, rfl, by decide +kernel, by decide +kernel⟩
theorem bd_is_anchor (kV doc pm : Value) (an : Option Addr) (cdv ct : Value) (us : List Value) (h : us.length = ps_is_anchor.length) : bindArgs (PySem.W.fnOf "is_anchor" "is_anchor" (defArgs s_is_anchor) (defBody s_is_anchor) (defScope s_is_anchor) .none kV doc pm an cdv ct) ⟨us, []⟩ = pure (ps_is_anchor.zip us) := match us, h with | [_], _ => rfl
abbrev s_is_delta : Stmt := topS 55
abbrev N_is_delta : List Str := ["font", "glyph", "delta", "region", "point", "x", "y"]
abbrev ps_is_delta : List Str := ["font", "glyph", "delta"]
theorem sc_is_delta : FnScope N_is_delta ps_is_delta (defScope s_is_delta) := ⟨rfl, rfl, rfl, by decide +kernel, rfl, by decide +kernel, by decide +kernel⟩
theorem bd_is_delta (kV doc pm : Value) (an : Option Addr) (cdv ct : Value) (us : List Value) (h : us.length = ps_is_delta.length) : bindArgs (PySem.W.fnOf "is_delta" "is_delta" (defArgs s_is_delta) (defBody s_is_delta) (defScope s_is_delta) .none kV doc pm an cdv ct) ⟨us, []⟩ = pure (ps_is_delta.zip us) := match us, h with | [_, _, _], _ => rfl
abbrev s_parts_reason : Stmt := topS 56
abbrev N_parts_reason : List Str := ["font"]
abbrev ps_parts_reason : List Str := ["font"]
theorem sc_parts_reason : FnScope N_parts_reason ps_parts_reason (defScope s_parts_reason) := ⟨rfl, rfl, rfl, by decide +kernel, rfl, by decide +kernel, by decide +kernel⟩
theorem bd_parts_reason (kV doc pm : Value) (an : Option Addr) (cdv ct : Value) (us : List Value) (h : us.length = ps_parts_reason.length) : bindArgs (PySem.W.fnOf "parts_reason" "parts_reason" (defArgs s_parts_reason) (defBody s_parts_reason) (defScope s_parts_reason) .none kV doc pm an cdv ct) ⟨us, []⟩ = pure (ps_parts_reason.zip us) := match us, h with | [_], _ => rfl
abbrev s_chars_reason : Stmt := topS 57
abbrev N_chars_reason : List Str := ["font", "last", "code", "glyph"]
abbrev ps_chars_reason : List Str := ["font"]
theorem sc_chars_reason : FnScope N_chars_reason ps_chars_reason (defScope s_chars_reason) := ⟨rfl, rfl, rfl, by decide +kernel, rfl, by decide +kernel, by decide +kernel⟩
theorem bd_chars_reason (kV doc pm : Value) (an : Option Addr) (cdv ct : Value) (us : List Value) (h : us.length = ps_chars_reason.length) : bindArgs (PySem.W.fnOf "chars_reason" "chars_reason" (defArgs s_chars_reason) (defBody s_chars_reason) (defScope s_chars_reason) .none kV doc pm an cdv ct) ⟨us, []⟩ = pure (ps_chars_reason.zip us) := match us, h with | [_], _ => rfl
abbrev s_features_reason : Stmt := topS 58
abbrev N_features_reason : List Str := ["font", "name", "names", "numbers", "_"]
abbrev ps_features_reason : List Str := ["font"]
theorem sc_features_reason : FnScope N_features_reason ps_features_reason (defScope s_features_reason) := ⟨rfl, rfl, rfl, by decide +kernel, rfl, by decide +kernel, by decide +kernel⟩
theorem bd_features_reason (kV doc pm : Value) (an : Option Addr) (cdv ct : Value) (us : List Value) (h : us.length = ps_features_reason.length) : bindArgs (PySem.W.fnOf "features_reason" "features_reason" (defArgs s_features_reason) (defBody s_features_reason) (defScope s_features_reason) .none kV doc pm an cdv ct) ⟨us, []⟩ = pure (ps_features_reason.zip us) := match us, h with | [_], _ => rfl
abbrev s_axes_reason : Stmt := topS 59
abbrev N_axes_reason : List Str := ["font", "least", "normal", "greatest"]
abbrev ps_axes_reason : List Str := ["font"]
theorem sc_axes_reason : FnScope N_axes_reason ps_axes_reason (defScope s_axes_reason) := ⟨rfl, rfl, rfl, by decide +kernel, rfl, by decide +kernel, by decide +kernel⟩
theorem bd_axes_reason (kV doc pm : Value) (an : Option Addr) (cdv ct : Value) (us : List Value) (h : us.length = ps_axes_reason.length) : bindArgs (PySem.W.fnOf "axes_reason" "axes_reason" (defArgs s_axes_reason) (defBody s_axes_reason) (defScope s_axes_reason) .none kV doc pm an cdv ct) ⟨us, []⟩ = pure (ps_axes_reason.zip us) := match us, h with | [_], _ => rfl
abbrev s_regions_reason : Stmt := topS 60
abbrev N_regions_reason : List Str := ["font", "region", "tent"]
abbrev ps_regions_reason : List Str := ["font"]
theorem sc_regions_reason : FnScope N_regions_reason ps_regions_reason (defScope s_regions_reason) := ⟨rfl, rfl, rfl, by decide +kernel, rfl, by decide +kernel, by decide +kernel⟩
theorem bd_regions_reason (kV doc pm : Value) (an : Option Addr) (cdv ct : Value) (us : List Value) (h : us.length = ps_regions_reason.length) : bindArgs (PySem.W.fnOf "regions_reason" "regions_reason" (defArgs s_regions_reason) (defBody s_regions_reason) (defScope s_regions_reason) .none kV doc pm an cdv ct) ⟨us, []⟩ = pure (ps_regions_reason.zip us) := match us, h with | [_], _ => rfl
abbrev s_is_tent : Stmt := topS 61
abbrev N_is_tent : List Str := ["tent", "start", "peak", "end"]
abbrev ps_is_tent : List Str := ["tent"]
theorem sc_is_tent : FnScope N_is_tent ps_is_tent (defScope s_is_tent) := ⟨rfl, rfl, rfl, by decide +kernel, rfl, by decide +kernel, by decide +kernel⟩
theorem bd_is_tent (kV doc pm : Value) (an : Option Addr) (cdv ct : Value) (us : List Value) (h : us.length = ps_is_tent.length) : bindArgs (PySem.W.fnOf "is_tent" "is_tent" (defArgs s_is_tent) (defBody s_is_tent) (defScope s_is_tent) .none kV doc pm an cdv ct) ⟨us, []⟩ = pure (ps_is_tent.zip us) := match us, h with | [_], _ => rfl
abbrev s_functions_reason : Stmt := topS 62
abbrev N_functions_reason : List Str := ["font", "function", "step"]
abbrev ps_functions_reason : List Str := ["font"]
theorem sc_functions_reason : FnScope N_functions_reason ps_functions_reason (defScope s_functions_reason) := ⟨rfl, rfl, rfl, by decide +kernel, rfl, by decide +kernel, by decide +kernel⟩
theorem bd_functions_reason (kV doc pm : Value) (an : Option Addr) (cdv ct : Value) (us : List Value) (h : us.length = ps_functions_reason.length) : bindArgs (PySem.W.fnOf "functions_reason" "functions_reason" (defArgs s_functions_reason) (defBody s_functions_reason) (defScope s_functions_reason) .none kV doc pm an cdv ct) ⟨us, []⟩ = pure (ps_functions_reason.zip us) := match us, h with | [_], _ => rfl
abbrev s_presets_reason : Stmt := topS 63
abbrev N_presets_reason : List Str := ["font", "preset"]
abbrev ps_presets_reason : List Str := ["font"]
theorem sc_presets_reason : FnScope N_presets_reason ps_presets_reason (defScope s_presets_reason) := ⟨rfl, rfl, rfl, by decide +kernel, rfl, by decide +kernel, by decide +kernel⟩
theorem bd_presets_reason (kV doc pm : Value) (an : Option Addr) (cdv ct : Value) (us : List Value) (h : us.length = ps_presets_reason.length) : bindArgs (PySem.W.fnOf "presets_reason" "presets_reason" (defArgs s_presets_reason) (defBody s_presets_reason) (defScope s_presets_reason) .none kV doc pm an cdv ct) ⟨us, []⟩ = pure (ps_presets_reason.zip us) := match us, h with | [_], _ => rfl
abbrev s_Glyph : Stmt := inClass (topS 65) 0
abbrev N_Glyph : List Str := ["self", "advance", "outline", "parts", "anchors", "mark", "deltas", "hint", "contour"]
abbrev ps_Glyph : List Str := ["self", "advance", "outline", "parts", "anchors", "mark", "deltas", "hint"]
theorem sc_Glyph : FnScope N_Glyph ps_Glyph (defScope s_Glyph) := ⟨rfl, rfl, rfl, by decide +kernel, rfl, by decide +kernel, by decide +kernel⟩
abbrev s_Rule : Stmt := inClass (topS 66) 0
abbrev N_Rule : List Str := ["self", "inside", "back", "ahead", "out", "calls", "extra", "chosen"]
abbrev ps_Rule : List Str := ["self", "inside", "back", "ahead", "out", "calls", "extra"]
theorem sc_Rule : FnScope N_Rule ps_Rule (defScope s_Rule) := ⟨rfl, rfl, rfl, by decide +kernel, rfl, by decide +kernel, by decide +kernel⟩
abbrev s_Lookup : Stmt := inClass (topS 67) 0
abbrev N_Lookup : List Str := ["self", "kind", "rules", "ignore", "rule"]
abbrev ps_Lookup : List Str := ["self", "kind", "rules", "ignore"]
theorem sc_Lookup : FnScope N_Lookup ps_Lookup (defScope s_Lookup) := ⟨rfl, rfl, rfl, by decide +kernel, rfl, by decide +kernel, by decide +kernel⟩
abbrev s_Font : Stmt := inClass (topS 68) 0
abbrev N_Font : List Str := ["self", "unit", "glyphs", "chars", "lookups", "features", "axes", "regions", "functions", "presets", "fault", "glyph", "lookup", "name", "numbers", "region", "function"]
abbrev ps_Font : List Str := ["self", "unit", "glyphs", "chars", "lookups", "features", "axes", "regions", "functions", "presets"]
theorem sc_Font : FnScope N_Font ps_Font (defScope s_Font) := ⟨rfl, rfl, rfl, by decide +kernel, rfl, by decide +kernel, by decide +kernel⟩
abbrev s_copied_glyph : Stmt := topS 69
abbrev N_copied_glyph : List Str := ["glyph"]
abbrev ps_copied_glyph : List Str := ["glyph"]
theorem sc_copied_glyph : FnScope N_copied_glyph ps_copied_glyph (defScope s_copied_glyph) := ⟨rfl, rfl, rfl, by decide +kernel, rfl, by decide +kernel, by decide +kernel⟩
theorem bd_copied_glyph (kV doc pm : Value) (an : Option Addr) (cdv ct : Value) (us : List Value) (h : us.length = ps_copied_glyph.length) : bindArgs (PySem.W.fnOf "copied_glyph" "copied_glyph" (defArgs s_copied_glyph) (defBody s_copied_glyph) (defScope s_copied_glyph) .none kV doc pm an cdv ct) ⟨us, []⟩ = pure (ps_copied_glyph.zip us) := match us, h with | [_], _ => rfl
abbrev s_copied_rule : Stmt := topS 70
abbrev N_copied_rule : List Str := ["rule"]
abbrev ps_copied_rule : List Str := ["rule"]
theorem sc_copied_rule : FnScope N_copied_rule ps_copied_rule (defScope s_copied_rule) := ⟨rfl, rfl, rfl, by decide +kernel, rfl, by decide +kernel, by decide +kernel⟩
theorem bd_copied_rule (kV doc pm : Value) (an : Option Addr) (cdv ct : Value) (us : List Value) (h : us.length = ps_copied_rule.length) : bindArgs (PySem.W.fnOf "copied_rule" "copied_rule" (defArgs s_copied_rule) (defBody s_copied_rule) (defScope s_copied_rule) .none kV doc pm an cdv ct) ⟨us, []⟩ = pure (ps_copied_rule.zip us) := match us, h with | [_], _ => rfl
abbrev s_copied_lookup : Stmt := topS 71
abbrev N_copied_lookup : List Str := ["lookup"]
abbrev ps_copied_lookup : List Str := ["lookup"]
theorem sc_copied_lookup : FnScope N_copied_lookup ps_copied_lookup (defScope s_copied_lookup) := ⟨rfl, rfl, rfl, by decide +kernel, rfl, by decide +kernel, by decide +kernel⟩
theorem bd_copied_lookup (kV doc pm : Value) (an : Option Addr) (cdv ct : Value) (us : List Value) (h : us.length = ps_copied_lookup.length) : bindArgs (PySem.W.fnOf "copied_lookup" "copied_lookup" (defArgs s_copied_lookup) (defBody s_copied_lookup) (defScope s_copied_lookup) .none kV doc pm an cdv ct) ⟨us, []⟩ = pure (ps_copied_lookup.zip us) := match us, h with | [_], _ => rfl
abbrev s_law_deck : Stmt := topS 99
abbrev N_law_deck : List Str := ["script"]
abbrev ps_law_deck : List Str := ["script"]
theorem sc_law_deck : FnScope N_law_deck ps_law_deck (defScope s_law_deck) := ⟨rfl, rfl, rfl, by decide +kernel, rfl, by decide +kernel, by decide +kernel⟩
theorem bd_law_deck (kV doc pm : Value) (an : Option Addr) (cdv ct : Value) (us : List Value) (h : us.length = ps_law_deck.length) : bindArgs (PySem.W.fnOf "_law_deck" "_law_deck" (defArgs s_law_deck) (defBody s_law_deck) (defScope s_law_deck) .none kV doc pm an cdv ct) ⟨us, []⟩ = pure (ps_law_deck.zip us) := match us, h with | [_], _ => rfl
abbrev s_law_draw : Stmt := topS 100
abbrev N_law_draw : List Str := ["deck", "most", "value", "cell"]
abbrev ps_law_draw : List Str := ["deck", "most"]
theorem sc_law_draw : FnScope N_law_draw ps_law_draw (defScope s_law_draw) := ⟨rfl, rfl, rfl, by decide +kernel, rfl, by decide +kernel, by decide +kernel⟩
theorem bd_law_draw (kV doc pm : Value) (an : Option Addr) (cdv ct : Value) (us : List Value) (h : us.length = ps_law_draw.length) : bindArgs (PySem.W.fnOf "_law_draw" "_law_draw" (defArgs s_law_draw) (defBody s_law_draw) (defScope s_law_draw) .none kV doc pm an cdv ct) ⟨us, []⟩ = pure (ps_law_draw.zip us) := match us, h with | [_, _], _ => rfl
abbrev s_law : Stmt := topS 111
abbrev N_law : List Str := ["script", "deck", "made", "region", "peak", "font", "normal", "k", "place", "first", "wide", "other", "far", "axis"]
abbrev ps_law : List Str := ["script"]
theorem sc_law : FnScope N_law ps_law (defScope s_law) := ⟨rfl, rfl, rfl, by decide +kernel, rfl, by decide +kernel, by decide +kernel⟩
theorem bd_law (kV doc pm : Value) (an : Option Addr) (cdv ct : Value) (us : List Value) (h : us.length = ps_law.length) : bindArgs (PySem.W.fnOf "law" "law" (defArgs s_law) (defBody s_law) (defScope s_law) .none kV doc pm an cdv ct) ⟨us, []⟩ = pure (ps_law.zip us) := match us, h with | [_], _ => rfl
abbrev s_ratio : Stmt := topS 78
abbrev N_ratio : List Str := ["p", "q", "divisor"]
abbrev ps_ratio : List Str := ["p", "q"]
theorem sc_ratio : FnScope N_ratio ps_ratio (defScope s_ratio) := ⟨rfl, rfl, rfl, by decide +kernel, rfl, by decide +kernel, by decide +kernel⟩
theorem bd_ratio_1 (T : Addr) (kV doc pm : Value) (an : Option Addr) (cdv ct : Value) (us its : List Value) (h : us.length = 1) (h2 : its.length = 1) : ∃ k, bindArgs (PySem.W.fnOf "ratio" "ratio" (defArgs s_ratio) (defBody s_ratio) (defScope s_ratio) (.ref T) kV doc pm an cdv ct) ⟨us, []⟩ = seqItems? (.ref T) >>= k ∧ k (some its.toArray) = pure (ps_ratio.zip (us ++ its.drop 0)) := match us, h, its, h2 with | [_], _, [_], _ => ⟨_, rfl, rfl⟩
theorem bd_ratio_2 (T : Addr) (kV doc pm : Value) (an : Option Addr) (cdv ct : Value) (us its : List Value) (h : us.length = 2) (h2 : its.length = 1) : ∃ k, bindArgs (PySem.W.fnOf "ratio" "ratio" (defArgs s_ratio) (defBody s_ratio) (defScope s_ratio) (.ref T) kV doc pm an cdv ct) ⟨us, []⟩ = seqItems? (.ref T) >>= k ∧ k (some its.toArray) = pure (ps_ratio.zip (us ++ its.drop 1)) := match us, h, its, h2 with | [_, _], _, [_], _ => ⟨_, rfl, rfl⟩
abbrev s_add : Stmt := topS 79
abbrev N_add : List Str := ["a", "b"]
abbrev ps_add : List Str := ["a", "b"]
theorem sc_add : FnScope N_add ps_add (defScope s_add) := ⟨rfl, rfl, rfl, by decide +kernel, rfl, by decide +kernel, by decide +kernel⟩
theorem bd_add (kV doc pm : Value) (an : Option Addr) (cdv ct : Value) (us : List Value) (h : us.length = ps_add.length) : bindArgs (PySem.W.fnOf "add" "add" (defArgs s_add) (defBody s_add) (defScope s_add) .none kV doc pm an cdv ct) ⟨us, []⟩ = pure (ps_add.zip us) := match us, h with | [_, _], _ => rfl
abbrev s_subtract : Stmt := topS 80
abbrev N_subtract : List Str := ["a", "b"]
abbrev ps_subtract : List Str := ["a", "b"]
theorem sc_subtract : FnScope N_subtract ps_subtract (defScope s_subtract) := ⟨rfl, rfl, rfl, by decide +kernel, rfl, by decide +kernel, by decide +kernel⟩
theorem bd_subtract (kV doc pm : Value) (an : Option Addr) (cdv ct : Value) (us : List Value) (h : us.length = ps_subtract.length) : bindArgs (PySem.W.fnOf "subtract" "subtract" (defArgs s_subtract) (defBody s_subtract) (defScope s_subtract) .none kV doc pm an cdv ct) ⟨us, []⟩ = pure (ps_subtract.zip us) := match us, h with | [_, _], _ => rfl
abbrev s_multiply : Stmt := topS 81
abbrev N_multiply : List Str := ["a", "b"]
abbrev ps_multiply : List Str := ["a", "b"]
theorem sc_multiply : FnScope N_multiply ps_multiply (defScope s_multiply) := ⟨rfl, rfl, rfl, by decide +kernel, rfl, by decide +kernel, by decide +kernel⟩
theorem bd_multiply (kV doc pm : Value) (an : Option Addr) (cdv ct : Value) (us : List Value) (h : us.length = ps_multiply.length) : bindArgs (PySem.W.fnOf "multiply" "multiply" (defArgs s_multiply) (defBody s_multiply) (defScope s_multiply) .none kV doc pm an cdv ct) ⟨us, []⟩ = pure (ps_multiply.zip us) := match us, h with | [_, _], _ => rfl
abbrev s_divide : Stmt := topS 82
abbrev N_divide : List Str := ["a", "b"]
abbrev ps_divide : List Str := ["a", "b"]
theorem sc_divide : FnScope N_divide ps_divide (defScope s_divide) := ⟨rfl, rfl, rfl, by decide +kernel, rfl, by decide +kernel, by decide +kernel⟩
theorem bd_divide (kV doc pm : Value) (an : Option Addr) (cdv ct : Value) (us : List Value) (h : us.length = ps_divide.length) : bindArgs (PySem.W.fnOf "divide" "divide" (defArgs s_divide) (defBody s_divide) (defScope s_divide) .none kV doc pm an cdv ct) ⟨us, []⟩ = pure (ps_divide.zip us) := match us, h with | [_, _], _ => rfl
abbrev s_compare : Stmt := topS 83
abbrev N_compare : List Str := ["a", "b", "left", "right"]
abbrev ps_compare : List Str := ["a", "b"]
theorem sc_compare : FnScope N_compare ps_compare (defScope s_compare) := ⟨rfl, rfl, rfl, by decide +kernel, rfl, by decide +kernel, by decide +kernel⟩
theorem bd_compare (kV doc pm : Value) (an : Option Addr) (cdv ct : Value) (us : List Value) (h : us.length = ps_compare.length) : bindArgs (PySem.W.fnOf "compare" "compare" (defArgs s_compare) (defBody s_compare) (defScope s_compare) .none kV doc pm an cdv ct) ⟨us, []⟩ = pure (ps_compare.zip us) := match us, h with | [_, _], _ => rfl
abbrev s_nearest : Stmt := topS 84
abbrev N_nearest : List Str := ["a"]
abbrev ps_nearest : List Str := ["a"]
theorem sc_nearest : FnScope N_nearest ps_nearest (defScope s_nearest) := ⟨rfl, rfl, rfl, by decide +kernel, rfl, by decide +kernel, by decide +kernel⟩
theorem bd_nearest (kV doc pm : Value) (an : Option Addr) (cdv ct : Value) (us : List Value) (h : us.length = ps_nearest.length) : bindArgs (PySem.W.fnOf "nearest" "nearest" (defArgs s_nearest) (defBody s_nearest) (defScope s_nearest) .none kV doc pm an cdv ct) ⟨us, []⟩ = pure (ps_nearest.zip us) := match us, h with | [_], _ => rfl
abbrev s_shares : Stmt := topS 88
abbrev N_shares : List Str := ["font", "place", "axis", "at", "least", "_", "greatest"]
abbrev ps_shares : List Str := ["font", "place"]
theorem sc_shares : FnScope N_shares ps_shares (defScope s_shares) := ⟨rfl, rfl, rfl, by decide +kernel, rfl, by decide +kernel, by decide +kernel⟩
theorem bd_shares (kV doc pm : Value) (an : Option Addr) (cdv ct : Value) (us : List Value) (h : us.length = ps_shares.length) : bindArgs (PySem.W.fnOf "shares" "shares" (defArgs s_shares) (defBody s_shares) (defScope s_shares) .none kV doc pm an cdv ct) ⟨us, []⟩ = pure (ps_shares.zip us) := match us, h with | [_, _], _ => rfl
abbrev s_share_of : Stmt := topS 89
abbrev N_share_of : List Str := ["axis", "at", "least", "normal", "greatest"]
abbrev ps_share_of : List Str := ["axis", "at"]
theorem sc_share_of : FnScope N_share_of ps_share_of (defScope s_share_of) := ⟨rfl, rfl, rfl, by decide +kernel, rfl, by decide +kernel, by decide +kernel⟩
theorem bd_share_of (kV doc pm : Value) (an : Option Addr) (cdv ct : Value) (us : List Value) (h : us.length = ps_share_of.length) : bindArgs (PySem.W.fnOf "share_of" "share_of" (defArgs s_share_of) (defBody s_share_of) (defScope s_share_of) .none kV doc pm an cdv ct) ⟨us, []⟩ = pure (ps_share_of.zip us) := match us, h with | [_, _], _ => rfl
abbrev s_factor : Stmt := topS 90
abbrev N_factor : List Str := ["region", "parts", "product", "tent", "share"]
abbrev ps_factor : List Str := ["region", "parts"]
theorem sc_factor : FnScope N_factor ps_factor (defScope s_factor) := ⟨rfl, rfl, rfl, by decide +kernel, rfl, by decide +kernel, by decide +kernel⟩
theorem bd_factor (kV doc pm : Value) (an : Option Addr) (cdv ct : Value) (us : List Value) (h : us.length = ps_factor.length) : bindArgs (PySem.W.fnOf "factor" "factor" (defArgs s_factor) (defBody s_factor) (defScope s_factor) .none kV doc pm an cdv ct) ⟨us, []⟩ = pure (ps_factor.zip us) := match us, h with | [_, _], _ => rfl
abbrev s_factor_of_tent : Stmt := topS 91
abbrev N_factor_of_tent : List Str := ["tent", "share", "start", "peak", "end", "at", "n"]
abbrev ps_factor_of_tent : List Str := ["tent", "share"]
theorem sc_factor_of_tent : FnScope N_factor_of_tent ps_factor_of_tent (defScope s_factor_of_tent) := ⟨rfl, rfl, rfl, by decide +kernel, rfl, by decide +kernel, by decide +kernel⟩
theorem bd_factor_of_tent (kV doc pm : Value) (an : Option Addr) (cdv ct : Value) (us : List Value) (h : us.length = ps_factor_of_tent.length) : bindArgs (PySem.W.fnOf "factor_of_tent" "factor_of_tent" (defArgs s_factor_of_tent) (defBody s_factor_of_tent) (defScope s_factor_of_tent) .none kV doc pm an cdv ct) ⟨us, []⟩ = pure (ps_factor_of_tent.zip us) := match us, h with | [_, _], _ => rfl
abbrev s_factors_of : Stmt := topS 92
abbrev N_factors_of : List Str := ["font", "place", "parts", "region"]
abbrev ps_factors_of : List Str := ["font", "place"]
theorem sc_factors_of : FnScope N_factors_of ps_factors_of (defScope s_factors_of) := ⟨rfl, rfl, rfl, by decide +kernel, rfl, by decide +kernel, by decide +kernel⟩
theorem bd_factors_of (kV doc pm : Value) (an : Option Addr) (cdv ct : Value) (us : List Value) (h : us.length = ps_factors_of.length) : bindArgs (PySem.W.fnOf "factors_of" "factors_of" (defArgs s_factors_of) (defBody s_factors_of) (defScope s_factors_of) .none kV doc pm an cdv ct) ⟨us, []⟩ = pure (ps_factors_of.zip us) := match us, h with | [_, _], _ => rfl
abbrev s_changed_glyph : Stmt := topS 93
abbrev N_changed_glyph : List Str := ["font", "number", "factors", "glyph", "changes", "advance", "outline"]
abbrev ps_changed_glyph : List Str := ["font", "number", "factors"]
theorem sc_changed_glyph : FnScope N_changed_glyph ps_changed_glyph (defScope s_changed_glyph) := ⟨rfl, rfl, rfl, by decide +kernel, rfl, by decide +kernel, by decide +kernel⟩
theorem bd_changed_glyph (kV doc pm : Value) (an : Option Addr) (cdv ct : Value) (us : List Value) (h : us.length = ps_changed_glyph.length) : bindArgs (PySem.W.fnOf "changed_glyph" "changed_glyph" (defArgs s_changed_glyph) (defBody s_changed_glyph) (defScope s_changed_glyph) .none kV doc pm an cdv ct) ⟨us, []⟩ = pure (ps_changed_glyph.zip us) := match us, h with | [_, _, _], _ => rfl
abbrev s_changes_of : Stmt := topS 94
abbrev N_changes_of : List Str := ["deltas", "factors", "sums", "region", "point", "x", "y", "sum_x", "sum_y"]
abbrev ps_changes_of : List Str := ["deltas", "factors"]
theorem sc_changes_of : FnScope N_changes_of ps_changes_of (defScope s_changes_of) := ⟨rfl, rfl, rfl, by decide +kernel, rfl, by decide +kernel, by decide +kernel⟩
theorem bd_changes_of (kV doc pm : Value) (an : Option Addr) (cdv ct : Value) (us : List Value) (h : us.length = ps_changes_of.length) : bindArgs (PySem.W.fnOf "changes_of" "changes_of" (defArgs s_changes_of) (defBody s_changes_of) (defScope s_changes_of) .none kV doc pm an cdv ct) ⟨us, []⟩ = pure (ps_changes_of.zip us) := match us, h with | [_, _], _ => rfl
abbrev s_changed_outline : Stmt := topS 95
abbrev N_changed_outline : List Str := ["outline", "changes", "found", "number", "contour", "changed", "x", "y", "on", "more_x", "more_y"]
abbrev ps_changed_outline : List Str := ["outline", "changes"]
theorem sc_changed_outline : FnScope N_changed_outline ps_changed_outline (defScope s_changed_outline) := ⟨rfl, rfl, rfl, by decide +kernel, rfl, by decide +kernel, by decide +kernel⟩
theorem bd_changed_outline (kV doc pm : Value) (an : Option Addr) (cdv ct : Value) (us : List Value) (h : us.length = ps_changed_outline.length) : bindArgs (PySem.W.fnOf "changed_outline" "changed_outline" (defArgs s_changed_outline) (defBody s_changed_outline) (defScope s_changed_outline) .none kV doc pm an cdv ct) ⟨us, []⟩ = pure (ps_changed_outline.zip us) := match us, h with | [_, _], _ => rfl
abbrev s_is_near : Stmt := topS 96
abbrev N_is_near : List Str := ["outline", "contour", "x", "y", "_"]
abbrev ps_is_near : List Str := ["outline"]
theorem sc_is_near : FnScope N_is_near ps_is_near (defScope s_is_near) := ⟨rfl, rfl, rfl, by decide +kernel, rfl, by decide +kernel, by decide +kernel⟩
theorem bd_is_near (kV doc pm : Value) (an : Option Addr) (cdv ct : Value) (us : List Value) (h : us.length = ps_is_near.length) : bindArgs (PySem.W.fnOf "is_near" "is_near" (defArgs s_is_near) (defBody s_is_near) (defScope s_is_near) .none kV doc pm an cdv ct) ⟨us, []⟩ = pure (ps_is_near.zip us) := match us, h with | [_], _ => rfl
abbrev s_at_place : Stmt := topS 97
abbrev N_at_place : List Str := ["font", "place", "factors", "number"]
abbrev ps_at_place : List Str := ["font", "place"]
theorem sc_at_place : FnScope N_at_place ps_at_place (defScope s_at_place) := ⟨rfl, rfl, rfl, by decide +kernel, rfl, by decide +kernel, by decide +kernel⟩
theorem bd_at_place (kV doc pm : Value) (an : Option Addr) (cdv ct : Value) (us : List Value) (h : us.length = ps_at_place.length) : bindArgs (PySem.W.fnOf "at_place" "at_place" (defArgs s_at_place) (defBody s_at_place) (defScope s_at_place) .none kV doc pm an cdv ct) ⟨us, []⟩ = pure (ps_at_place.zip us) := match us, h with | [_, _], _ => rfl
abbrev s_law_axes : Stmt := topS 103
abbrev N_law_axes : List Str := ["deck", "least", "axes", "k", "low", "normal"]
abbrev ps_law_axes : List Str := ["deck", "least"]
theorem sc_law_axes : FnScope N_law_axes ps_law_axes (defScope s_law_axes) := ⟨rfl, rfl, rfl, by decide +kernel, rfl, by decide +kernel, by decide +kernel⟩
theorem bd_law_axes (kV doc pm : Value) (an : Option Addr) (cdv ct : Value) (us : List Value) (h : us.length = ps_law_axes.length) : bindArgs (PySem.W.fnOf "_law_axes" "_law_axes" (defArgs s_law_axes) (defBody s_law_axes) (defScope s_law_axes) .none kV doc pm an cdv ct) ⟨us, []⟩ = pure (ps_law_axes.zip us) := match us, h with | [_, _], _ => rfl
abbrev s_law_place : Stmt := topS 105
abbrev N_law_place : List Str := ["deck", "axes", "place", "axis", "kind", "number"]
abbrev ps_law_place : List Str := ["deck", "axes"]
theorem sc_law_place : FnScope N_law_place ps_law_place (defScope s_law_place) := ⟨rfl, rfl, rfl, by decide +kernel, rfl, by decide +kernel, by decide +kernel⟩
theorem bd_law_place (kV doc pm : Value) (an : Option Addr) (cdv ct : Value) (us : List Value) (h : us.length = ps_law_place.length) : bindArgs (PySem.W.fnOf "_law_place" "_law_place" (defArgs s_law_place) (defBody s_law_place) (defScope s_law_place) .none kV doc pm an cdv ct) ⟨us, []⟩ = pure (ps_law_place.zip us) := match us, h with | [_, _], _ => rfl
abbrev s_law_point : Stmt := topS 101
abbrev N_law_point : List Str := ["deck", "far", "spread", "x"]
abbrev ps_law_point : List Str := ["deck", "far"]
theorem sc_law_point : FnScope N_law_point ps_law_point (defScope s_law_point) := ⟨rfl, rfl, rfl, by decide +kernel, rfl, by decide +kernel, by decide +kernel⟩
theorem bd_law_point (kV doc pm : Value) (an : Option Addr) (cdv ct : Value) (us : List Value) (h : us.length = ps_law_point.length) : bindArgs (PySem.W.fnOf "_law_point" "_law_point" (defArgs s_law_point) (defBody s_law_point) (defScope s_law_point) .none kV doc pm an cdv ct) ⟨us, []⟩ = pure (ps_law_point.zip us) := match us, h with | [_, _], _ => rfl
abbrev s_law_outline : Stmt := topS 102
abbrev N_law_outline : List Str := ["deck", "least", "far", "outline", "k", "j"]
abbrev ps_law_outline : List Str := ["deck", "least", "far"]
theorem sc_law_outline : FnScope N_law_outline ps_law_outline (defScope s_law_outline) := ⟨rfl, rfl, rfl, by decide +kernel, rfl, by decide +kernel, by decide +kernel⟩
theorem bd_law_outline (kV doc pm : Value) (an : Option Addr) (cdv ct : Value) (us : List Value) (h : us.length = ps_law_outline.length) : bindArgs (PySem.W.fnOf "_law_outline" "_law_outline" (defArgs s_law_outline) (defBody s_law_outline) (defScope s_law_outline) .none kV doc pm an cdv ct) ⟨us, []⟩ = pure (ps_law_outline.zip us) := match us, h with | [_, _, _], _ => rfl
abbrev s_law_tent : Stmt := topS 104
abbrev N_law_tent : List Str := ["deck", "kind", "rows"]
abbrev ps_law_tent : List Str := ["deck"]
theorem sc_law_tent : FnScope N_law_tent ps_law_tent (defScope s_law_tent) := ⟨rfl, rfl, rfl, by decide +kernel, rfl, by decide +kernel, by decide +kernel⟩
theorem bd_law_tent (kV doc pm : Value) (an : Option Addr) (cdv ct : Value) (us : List Value) (h : us.length = ps_law_tent.length) : bindArgs (PySem.W.fnOf "_law_tent" "_law_tent" (defArgs s_law_tent) (defBody s_law_tent) (defScope s_law_tent) .none kV doc pm an cdv ct) ⟨us, []⟩ = pure (ps_law_tent.zip us) := match us, h with | [_], _ => rfl
abbrev s_law_font_tent : Stmt := topS 107
abbrev N_law_font_tent : List Str := ["deck", "tent"]
abbrev ps_law_font_tent : List Str := ["deck"]
theorem sc_law_font_tent : FnScope N_law_font_tent ps_law_font_tent (defScope s_law_font_tent) := ⟨rfl, rfl, rfl, by decide +kernel, rfl, by decide +kernel, by decide +kernel⟩
theorem bd_law_font_tent (kV doc pm : Value) (an : Option Addr) (cdv ct : Value) (us : List Value) (h : us.length = ps_law_font_tent.length) : bindArgs (PySem.W.fnOf "_law_font_tent" "_law_font_tent" (defArgs s_law_font_tent) (defBody s_law_font_tent) (defScope s_law_font_tent) .none kV doc pm an cdv ct) ⟨us, []⟩ = pure (ps_law_font_tent.zip us) := match us, h with | [_], _ => rfl
abbrev s_law_deltas : Stmt := topS 106
abbrev N_law_deltas : List Str := ["deck", "count", "regions", "deltas", "k", "far", "x"]
abbrev ps_law_deltas : List Str := ["deck", "count", "regions"]
theorem sc_law_deltas : FnScope N_law_deltas ps_law_deltas (defScope s_law_deltas) := ⟨rfl, rfl, rfl, by decide +kernel, rfl, by decide +kernel, by decide +kernel⟩
theorem bd_law_deltas (kV doc pm : Value) (an : Option Addr) (cdv ct : Value) (us : List Value) (h : us.length = ps_law_deltas.length) : bindArgs (PySem.W.fnOf "_law_deltas" "_law_deltas" (defArgs s_law_deltas) (defBody s_law_deltas) (defScope s_law_deltas) .none kV doc pm an cdv ct) ⟨us, []⟩ = pure (ps_law_deltas.zip us) := match us, h with | [_, _, _], _ => rfl
abbrev s_law_styled : Stmt := topS 108
abbrev N_law_styled : List Str := ["deck", "least", "axes", "k", "regions", "rows", "outline", "count", "axis", "contour"]
abbrev ps_law_styled : List Str := ["deck", "least"]
theorem sc_law_styled : FnScope N_law_styled ps_law_styled (defScope s_law_styled) := ⟨rfl, rfl, rfl, by decide +kernel, rfl, by decide +kernel, by decide +kernel⟩
theorem bd_law_styled (kV doc pm : Value) (an : Option Addr) (cdv ct : Value) (us : List Value) (h : us.length = ps_law_styled.length) : bindArgs (PySem.W.fnOf "_law_styled" "_law_styled" (defArgs s_law_styled) (defBody s_law_styled) (defScope s_law_styled) .none kV doc pm an cdv ct) ⟨us, []⟩ = pure (ps_law_styled.zip us) := match us, h with | [_, _], _ => rfl
abbrev s_law_styled_font : Stmt := topS 109
abbrev N_law_styled_font : List Str := ["made", "glyphs", "row", "contour", "region"]
abbrev ps_law_styled_font : List Str := ["made"]
theorem sc_law_styled_font : FnScope N_law_styled_font ps_law_styled_font (defScope s_law_styled_font) := ⟨rfl, rfl, rfl, by decide +kernel, rfl, by decide +kernel, by decide +kernel⟩
theorem bd_law_styled_font (kV doc pm : Value) (an : Option Addr) (cdv ct : Value) (us : List Value) (h : us.length = ps_law_styled_font.length) : bindArgs (PySem.W.fnOf "_law_styled_font" "_law_styled_font" (defArgs s_law_styled_font) (defBody s_law_styled_font) (defScope s_law_styled_font) .none kV doc pm an cdv ct) ⟨us, []⟩ = pure (ps_law_styled_font.zip us) := match us, h with | [_], _ => rfl
abbrev s_law_instance : Stmt := topS 110
abbrev N_law_instance : List Str := ["font", "place", "e"]
abbrev ps_law_instance : List Str := ["font", "place"]
theorem sc_law_instance : FnScope N_law_instance ps_law_instance (defScope s_law_instance) := ⟨rfl, rfl, rfl, by decide +kernel, rfl, by decide +kernel, by decide +kernel⟩
theorem bd_law_instance (kV doc pm : Value) (an : Option Addr) (cdv ct : Value) (us : List Value) (h : us.length = ps_law_instance.length) : bindArgs (PySem.W.fnOf "_law_instance" "_law_instance" (defArgs s_law_instance) (defBody s_law_instance) (defScope s_law_instance) .none kV doc pm an cdv ct) ⟨us, []⟩ = pure (ps_law_instance.zip us) := match us, h with | [_, _], _ => rfl
abbrev s_same_font : Stmt := topS 72
abbrev N_same_font : List Str := ["font", "other"]
abbrev ps_same_font : List Str := ["font", "other"]
theorem sc_same_font : FnScope N_same_font ps_same_font (defScope s_same_font) := ⟨rfl, rfl, rfl, by decide +kernel, rfl, by decide +kernel, by decide +kernel⟩
theorem bd_same_font (kV doc pm : Value) (an : Option Addr) (cdv ct : Value) (us : List Value) (h : us.length = ps_same_font.length) : bindArgs (PySem.W.fnOf "same_font" "same_font" (defArgs s_same_font) (defBody s_same_font) (defScope s_same_font) .none kV doc pm an cdv ct) ⟨us, []⟩ = pure (ps_same_font.zip us) := match us, h with | [_, _], _ => rfl
abbrev s_contents_of_font : Stmt := topS 73
abbrev N_contents_of_font : List Str := ["font", "glyph", "lookup"]
abbrev ps_contents_of_font : List Str := ["font"]
theorem sc_contents_of_font : FnScope N_contents_of_font ps_contents_of_font (defScope s_contents_of_font) := ⟨rfl, rfl, rfl, by decide +kernel, rfl, by decide +kernel, by decide +kernel⟩
theorem bd_contents_of_font (kV doc pm : Value) (an : Option Addr) (cdv ct : Value) (us : List Value) (h : us.length = ps_contents_of_font.length) : bindArgs (PySem.W.fnOf "contents_of_font" "contents_of_font" (defArgs s_contents_of_font) (defBody s_contents_of_font) (defScope s_contents_of_font) .none kV doc pm an cdv ct) ⟨us, []⟩ = pure (ps_contents_of_font.zip us) := match us, h with | [_], _ => rfl
abbrev s_contents_of_glyph : Stmt := topS 74
abbrev N_contents_of_glyph : List Str := ["glyph"]
abbrev ps_contents_of_glyph : List Str := ["glyph"]
theorem sc_contents_of_glyph : FnScope N_contents_of_glyph ps_contents_of_glyph (defScope s_contents_of_glyph) := ⟨rfl, rfl, rfl, by decide +kernel, rfl, by decide +kernel, by decide +kernel⟩
theorem bd_contents_of_glyph (kV doc pm : Value) (an : Option Addr) (cdv ct : Value) (us : List Value) (h : us.length = ps_contents_of_glyph.length) : bindArgs (PySem.W.fnOf "contents_of_glyph" "contents_of_glyph" (defArgs s_contents_of_glyph) (defBody s_contents_of_glyph) (defScope s_contents_of_glyph) .none kV doc pm an cdv ct) ⟨us, []⟩ = pure (ps_contents_of_glyph.zip us) := match us, h with | [_], _ => rfl
abbrev s_contents_of_lookup : Stmt := topS 75
abbrev N_contents_of_lookup : List Str := ["lookup", "rule"]
abbrev ps_contents_of_lookup : List Str := ["lookup"]
theorem sc_contents_of_lookup : FnScope N_contents_of_lookup ps_contents_of_lookup (defScope s_contents_of_lookup) := ⟨rfl, rfl, rfl, by decide +kernel, rfl, by decide +kernel, by decide +kernel⟩
theorem bd_contents_of_lookup (kV doc pm : Value) (an : Option Addr) (cdv ct : Value) (us : List Value) (h : us.length = ps_contents_of_lookup.length) : bindArgs (PySem.W.fnOf "contents_of_lookup" "contents_of_lookup" (defArgs s_contents_of_lookup) (defBody s_contents_of_lookup) (defScope s_contents_of_lookup) .none kV doc pm an cdv ct) ⟨us, []⟩ = pure (ps_contents_of_lookup.zip us) := match us, h with | [_], _ => rfl
abbrev s_contents_of_rule : Stmt := topS 76
abbrev N_contents_of_rule : List Str := ["rule"]
abbrev ps_contents_of_rule : List Str := ["rule"]
theorem sc_contents_of_rule : FnScope N_contents_of_rule ps_contents_of_rule (defScope s_contents_of_rule) := ⟨rfl, rfl, rfl, by decide +kernel, rfl, by decide +kernel, by decide +kernel⟩
theorem bd_contents_of_rule (kV doc pm : Value) (an : Option Addr) (cdv ct : Value) (us : List Value) (h : us.length = ps_contents_of_rule.length) : bindArgs (PySem.W.fnOf "contents_of_rule" "contents_of_rule" (defArgs s_contents_of_rule) (defBody s_contents_of_rule) (defScope s_contents_of_rule) .none kV doc pm an cdv ct) ⟨us, []⟩ = pure (ps_contents_of_rule.zip us) := match us, h with | [_], _ => rfl
abbrev s_ZeroDivisor : Stmt := inClass (topS 9) 0
theorem sc_ZeroDivisor : FnScope ["self"] ["self"] (defScope s_ZeroDivisor) := ⟨rfl, rfl, rfl, by decide +kernel, rfl, by decide +kernel, by decide +kernel⟩
abbrev s_InvalidPlace : Stmt := inClass (topS 10) 0
theorem sc_InvalidPlace : FnScope ["self"] ["self"] (defScope s_InvalidPlace) := ⟨rfl, rfl, rfl, by decide +kernel, rfl, by decide +kernel, by decide +kernel⟩
abbrev s_OutOfRange : Stmt := inClass (topS 8) 0
abbrev ps_OutOfRange : List Str := ["self", "number"]
theorem sc_OutOfRange : FnScope ["self", "number"] ps_OutOfRange (defScope s_OutOfRange) := ⟨rfl, rfl, rfl, by decide +kernel, rfl, by decide +kernel, by decide +kernel⟩
abbrev kw_Glyph (e_parts e_anchors e_deltas e_hint : Addr) : List (Str × V) := [("parts", .ref e_parts), ("anchors", .ref e_anchors), ("mark", .bl false), ("deltas", .ref e_deltas), ("hint", .ref e_hint)]
abbrev fl_Glyph : List Str := ["advance", "outline", "parts", "anchors", "mark", "deltas", "hint"]
abbrev kw_Rule (e_back e_ahead e_out e_calls : Addr) : List (Str × V) := [("back", .ref e_back), ("ahead", .ref e_ahead), ("out", .ref e_out), ("calls", .ref e_calls), ("extra", .int 0)]
abbrev fl_Rule : List Str := ["inside", "back", "ahead", "out", "calls", "extra"]
abbrev kw_Lookup  : List (Str × V) := [("ignore", .bl false)]
abbrev fl_Lookup : List Str := ["kind", "rules", "ignore"]
abbrev kw_Font (e_chars e_lookups e_features e_axes e_regions e_functions e_presets : Addr) : List (Str × V) := [("chars", .ref e_chars), ("lookups", .ref e_lookups), ("features", .ref e_features), ("axes", .ref e_axes), ("regions", .ref e_regions), ("functions", .ref e_functions), ("presets", .ref e_presets)]
abbrev fl_Font : List Str := ["unit", "glyphs", "chars", "lookups", "features", "axes", "regions", "functions", "presets"]
structure Txt (K : PySem.W.Frag) (mg : Str → Option Value) : Prop where
  z_abs : mg "abs" = none
  z_all : mg "all" = none
  z_enumerate : mg "enumerate" = none
  z_int : mg "int" = none
  z_len : mg "len" = none
  z_list : mg "list" = none
  z_range : mg "range" = none
  z_set : mg "set" = none
  z_sorted : mg "sorted" = none
  z_sum : mg "sum" = none
  z_tuple : mg "tuple" = none
  z_zip : mg "zip" = none
  g_ADVANCE : ∃ u, mg "ADVANCE" = some u ∧ RelV (.int (-1)) u
  g_DEEPEST : ∃ u, mg "DEEPEST" = some u ∧ RelV (.int (4)) u
  g_FARTHEST : ∃ u, mg "FARTHEST" = some u ∧ RelV (.int (16384)) u
  g_GREATEST_NUMBER : ∃ u, mg "GREATEST_NUMBER" = some u ∧ RelV (.int (2147483647)) u
  g_LEAST_NUMBER : ∃ u, mg "LEAST_NUMBER" = some u ∧ RelV (.int (-2147483648)) u
  g_LEAST_OF_CONTOUR : ∃ u, mg "LEAST_OF_CONTOUR" = some u ∧ RelV (.int (2)) u
  g_MOST_CONTOURS : ∃ u, mg "MOST_CONTOURS" = some u ∧ RelV (.int (40)) u
  g_MOST_POINTS : ∃ u, mg "MOST_POINTS" = some u ∧ RelV (.int (200)) u
  g_WHOLE : ∃ u, mg "WHOLE" = some u ∧ RelV (.int (64)) u
  g_gcd : mg "gcd" = some (.builtin "math.gcd")
  d_tuples_of : DefIn K mg "tuples_of" s_tuples_of
  d_depths_of : DefIn K mg "depths_of" s_depths_of
  d_has_parts_in : DefIn K mg "has_parts_in" s_has_parts_in
  d_is_proper : DefIn K mg "is_proper" s_is_proper
  d_count_points : DefIn K mg "count_points" s_count_points
  d_is_rising : DefIn K mg "is_rising" s_is_rising
  d_is_instruction : DefIn K mg "is_instruction" s_is_instruction
  d_is_row_of_letters : DefIn K mg "is_row_of_letters" s_is_row_of_letters
  d_lookup_reason : DefIn K mg "lookup_reason" s_lookup_reason
  d_first_fault : DefIn K mg "first_fault" s_first_fault
  d_placed : DefIn K mg "placed" s_placed
  d_first_glyph_fault : DefIn K mg "first_glyph_fault" s_first_glyph_fault
  d_first_lookup_fault : DefIn K mg "first_lookup_fault" s_first_lookup_fault
  d_is_coordinate : DefIn K mg "is_coordinate" s_is_coordinate
  d_many_reason : DefIn K mg "many_reason" s_many_reason
  d_unit_reason : DefIn K mg "unit_reason" s_unit_reason
  d_glyph_reason : DefIn K mg "glyph_reason" s_glyph_reason
  d_is_part : DefIn K mg "is_part" s_is_part
  d_is_anchor : DefIn K mg "is_anchor" s_is_anchor
  d_is_delta : DefIn K mg "is_delta" s_is_delta
  d_parts_reason : DefIn K mg "parts_reason" s_parts_reason
  d_chars_reason : DefIn K mg "chars_reason" s_chars_reason
  d_features_reason : DefIn K mg "features_reason" s_features_reason
  d_axes_reason : DefIn K mg "axes_reason" s_axes_reason
  d_regions_reason : DefIn K mg "regions_reason" s_regions_reason
  d_is_tent : DefIn K mg "is_tent" s_is_tent
  d_functions_reason : DefIn K mg "functions_reason" s_functions_reason
  d_presets_reason : DefIn K mg "presets_reason" s_presets_reason
  d_copied_glyph : DefIn K mg "copied_glyph" s_copied_glyph
  d_copied_rule : DefIn K mg "copied_rule" s_copied_rule
  d_copied_lookup : DefIn K mg "copied_lookup" s_copied_lookup
  d_law_deck : DefIn K mg "_law_deck" s_law_deck
  d_law_draw : DefIn K mg "_law_draw" s_law_draw
  d_law : DefIn K mg "law" s_law
  d_ratio : DefInD K mg "ratio" s_ratio [.int 1]
  d_add : DefIn K mg "add" s_add
  d_subtract : DefIn K mg "subtract" s_subtract
  d_multiply : DefIn K mg "multiply" s_multiply
  d_divide : DefIn K mg "divide" s_divide
  d_compare : DefIn K mg "compare" s_compare
  d_nearest : DefIn K mg "nearest" s_nearest
  d_shares : DefIn K mg "shares" s_shares
  d_share_of : DefIn K mg "share_of" s_share_of
  d_factor : DefIn K mg "factor" s_factor
  d_factor_of_tent : DefIn K mg "factor_of_tent" s_factor_of_tent
  d_factors_of : DefIn K mg "factors_of" s_factors_of
  d_changed_glyph : DefIn K mg "changed_glyph" s_changed_glyph
  d_changes_of : DefIn K mg "changes_of" s_changes_of
  d_changed_outline : DefIn K mg "changed_outline" s_changed_outline
  d_is_near : DefIn K mg "is_near" s_is_near
  d_at_place : DefIn K mg "at_place" s_at_place
  d_law_axes : DefIn K mg "_law_axes" s_law_axes
  d_law_place : DefIn K mg "_law_place" s_law_place
  d_law_point : DefIn K mg "_law_point" s_law_point
  d_law_outline : DefIn K mg "_law_outline" s_law_outline
  d_law_tent : DefIn K mg "_law_tent" s_law_tent
  d_law_font_tent : DefIn K mg "_law_font_tent" s_law_font_tent
  d_law_deltas : DefIn K mg "_law_deltas" s_law_deltas
  d_law_styled : DefIn K mg "_law_styled" s_law_styled
  d_law_styled_font : DefIn K mg "_law_styled_font" s_law_styled_font
  d_law_instance : DefIn K mg "_law_instance" s_law_instance
  d_same_font : DefIn K mg "same_font" s_same_font
  d_contents_of_font : DefIn K mg "contents_of_font" s_contents_of_font
  d_contents_of_glyph : DefIn K mg "contents_of_glyph" s_contents_of_glyph
  d_contents_of_lookup : DefIn K mg "contents_of_lookup" s_contents_of_lookup
  d_contents_of_rule : DefIn K mg "contents_of_rule" s_contents_of_rule
  x_FleuronError : mg "FleuronError" = some (.ref (adr mg "FleuronError"))
  b_FleuronError : BaseC K (adr mg "FleuronError")
  mk_ZeroDivisor : ClsN K mg "ZeroDivisor" "ZeroDivisor.__init__" s_ZeroDivisor
  m_ZeroDivisor : PySem.W.exmOne K (.ref (adr mg "ZeroDivisor")) (.ref (adr mg "FleuronError")) = some true
  mk_InvalidPlace : ClsN K mg "InvalidPlace" "InvalidPlace.__init__" s_InvalidPlace
  m_InvalidPlace : PySem.W.exmOne K (.ref (adr mg "InvalidPlace")) (.ref (adr mg "FleuronError")) = some true
  mk_OutOfRange : ClsN1 K mg "OutOfRange" "OutOfRange.__init__" s_OutOfRange "number"
  ms_OutOfRange : PySem.W.exmOne K (.ref (adr mg "OutOfRange")) (.ref (adr mg "OutOfRange")) = some true
  c_Glyph : ∃ e_parts e_anchors e_deltas e_hint : Addr, EmT K e_parts ∧ EmT K e_anchors ∧ EmT K e_deltas ∧ EmT K e_hint ∧ ClsI K mg "Glyph" "Glyph.__init__" s_Glyph fl_Glyph (kw_Glyph e_parts e_anchors e_deltas e_hint)
  c_Rule : ∃ e_back e_ahead e_out e_calls : Addr, EmT K e_back ∧ EmT K e_ahead ∧ EmT K e_out ∧ EmT K e_calls ∧ ClsI K mg "Rule" "Rule.__init__" s_Rule fl_Rule (kw_Rule e_back e_ahead e_out e_calls)
  c_Lookup : ClsI K mg "Lookup" "Lookup.__init__" s_Lookup fl_Lookup kw_Lookup
  c_Font : ∃ e_chars e_lookups e_features e_axes e_regions e_functions e_presets : Addr, EmT K e_chars ∧ EmT K e_lookups ∧ EmT K e_features ∧ EmT K e_axes ∧ EmT K e_regions ∧ EmT K e_functions ∧ EmT K e_presets ∧ ClsI K mg "Font" "Font.__init__" s_Font fl_Font (kw_Font e_chars e_lookups e_features e_axes e_regions e_functions e_presets)
  gt_WITH_CONTEXT : mg "WITH_CONTEXT" = some (.ref (adr mg "WITH_CONTEXT"))
  gs_WITH_CONTEXT : ∀ H : Hp, SqT K H (adr mg "WITH_CONTEXT") [.str "chain", .str "reverse"]
  gt_WITH_OUT : mg "WITH_OUT" = some (.ref (adr mg "WITH_OUT"))
  gs_WITH_OUT : ∀ H : Hp, SqT K H (adr mg "WITH_OUT") [.str "single", .str "multiple", .str "ligature", .str "reverse"]
  gt_ANCHOR_KINDS : mg "ANCHOR_KINDS" = some (.ref (adr mg "ANCHOR_KINDS"))
  gs_ANCHOR_KINDS : ∀ H : Hp, SqT K H (adr mg "ANCHOR_KINDS") [.str "base", .str "mark", .str "entry", .str "exit"]

abbrev cs (mg : Str → Option Value) : Cs := ⟨adr mg "Glyph", adr mg "Rule", adr mg "Lookup", adr mg "Font"⟩
section
variable {P : Program} {w : World} {K : PySem.W.Frag} {mg : Str → Option Value} {base : Heap}
theorem ok_tuples_of (T : Txt K mg) : Has P w K mg base 1 "tuples_of" ps_tuples_of (spE K fTof) := by
  refine has_of T.d_tuples_of sc_tuples_of bd_tuples_of (fun vs H Q E h => ?_) (fun f cdv A outer s H vs Q E hr h => ?_)
  · obtain ⟨S, ds, d, hS, hd, ⟨r, L, rfl, _⟩, q⟩ := h
    obtain ⟨v, _, rfl, _, hd⟩ := hd.consE
    cases hd.nilE
    rfl
  · obtain ⟨S, ds, d, hS, hd, ⟨r, L, rfl, ⟨xs, hx, hm, hz⟩, rfl⟩, q⟩ := h
    obtain ⟨v, _, rfl, hv, hd⟩ := hd.consE
    cases hd.nilE
    have hl := sq2_len hm
    refine ⟨_, (pss_one (ps_ret (pe_lc (own := [("row", 1)]) rfl sc_tuples_of.nd (piS (K := K) rfl (pv 0)) (blkOk_by (by kernel_rfl)) (fun _ _ _ _ _ => (pg_name (i := 1) sc_tuples_of.nd rfl (.inl rfl))) (fun _ _ _ _ _ => pts_nil) (fun _ _ _ _ _ => (pe_callTy (clTupOf (K := K) rfl) (by rfl) T.z_tuple (by decide +kernel) (pa_cons (pv 1) pa_nil)))))), ?_⟩
    walk_at "fl.w"
    refine lcS (S := S) (fun i => (L[i]?).map .tuple) hS hv hx (by omega) (fun R h => ⟨_, rfl, h⟩) ?_ ?_
    · intro D i x e H2 hD he sm al hxe R N hR hN
      obtain ⟨l, hl1, hl2⟩ := sq2_at hm he
      refine g_name ⟨rfl, ?_⟩
      walk_at "fl.w"
      cases hxe with
      | lst n q r =>
        cases hl2
        refine ⟨_, _, rfl, .inl ⟨SqL.of q, fun p hp => ?_⟩⟩
        exact hR _ _ _ (by rw [hl1]; rfl) (Fl.Same.new hp) (Dq.newT al hp r)
      | tup n q r =>
        cases hl2
        refine ⟨_, _, rfl, .inr ⟨SqT.of q, ?_⟩⟩
        exact hR _ _ _ (by rw [hl1]; rfl) (L2.Same.refl _) (.tup n q r)
      | _ => cases hl2
    · intro D H2 sm hD hq
      rw [fm_ltA hl] at hq
      exact q _ _ sm hq
theorem ok_Glyph (T : Txt K mg) {e1 e2 e3 e4 : Addr} (c : ClsI K mg "Glyph" "Glyph.__init__" s_Glyph fl_Glyph (kw_Glyph e1 e2 e3 e4)) : InI P w K mg base 2 "Glyph" "Glyph.__init__" s_Glyph fl_Glyph (kw_Glyph e1 e2 e3 e4) ps_Glyph (spI K (adr mg "Glyph") fGl) := by
  have cl := c.cl
  have na := c.na
  have h_tuples_of := ok_tuples_of (P := P) (w := w) (base := base) T
  refine inI_of c sc_Glyph (fun vs H Q E h => ?_) (fun f cdv A outer s H vs Q E hr h => ?_)
  · obtain ⟨S, x, dx, ws, ds, fs, rfl, _, _, _, hd, ⟨o, p, n, d, hi, g, rfl, _⟩, q⟩ := h
    obtain ⟨v1, _, rfl, _, hd⟩ := hd.consE
    obtain ⟨v2, _, rfl, _, hd⟩ := hd.consE
    obtain ⟨v3, _, rfl, _, hd⟩ := hd.consE
    obtain ⟨v4, _, rfl, _, hd⟩ := hd.consE
    obtain ⟨v5, _, rfl, _, hd⟩ := hd.consE
    obtain ⟨v6, _, rfl, _, hd⟩ := hd.consE
    obtain ⟨v7, _, rfl, _, hd⟩ := hd.consE
    cases hd.nilE
    rfl
  · obtain ⟨S, x, dx, ws, ds, fs, rfl, hxS, hS, hx, hd, ⟨o, p, n, d, hi, g, rfl, gok, so, sp, sn, sd, sh, rfl⟩, q⟩ := h
    obtain ⟨v1, _, rfl, h1, hd⟩ := hd.consE
    obtain ⟨v2, _, rfl, h2, hd⟩ := hd.consE
    obtain ⟨v3, _, rfl, h3, hd⟩ := hd.consE
    obtain ⟨v4, _, rfl, h4, hd⟩ := hd.consE
    obtain ⟨v5, _, rfl, h5, hd⟩ := hd.consE
    obtain ⟨v6, _, rfl, h6, hd⟩ := hd.consE
    obtain ⟨v7, _, rfl, h7, hd⟩ := hd.consE
    cases hd.nilE
    have I0 := InitAt.start hx hS hxS
    refine ⟨_, (pss_cons (psFld (K := K) rfl (pv 0) (pv 1) rfl)
      (pss_cons (psFld (K := K) rfl (pv 0) (pe_lc (own := [("contour", 8)]) rfl sc_Glyph.nd (piS (K := K) rfl (pv 2)) (blkOk_by (by kernel_rfl)) (fun _ _ _ _ _ => (pg_name (i := 8) sc_Glyph.nd rfl (.inl rfl))) (fun _ _ _ _ _ => pts_nil) (fun _ _ _ _ _ => (pe_h h_tuples_of (hr.mono (by decide)) (pa_cons (pv 8) pa_nil)))) rfl)
      (pss_cons (psFld (K := K) rfl (pv 0) (pe_h h_tuples_of (hr.mono (by decide)) (pa_cons (pv 3) pa_nil)) rfl)
      (pss_cons (psFld (K := K) rfl (pv 0) (pe_h h_tuples_of (hr.mono (by decide)) (pa_cons (pv 4) pa_nil)) rfl)
      (pss_cons (psFld (K := K) rfl (pv 0) (pv 5) rfl)
      (pss_cons (psFld (K := K) rfl (pv 0) (pe_h h_tuples_of (hr.mono (by decide)) (pa_cons (pv 6) pa_nil)) rfl)
      (pss_one (psFld (K := K) rfl (pv 0) (pe_h h_tuples_of (hr.mono (by decide)) (pa_cons (pv 7) pa_nil)) rfl)))))))), ?_⟩
    walk_at "fl.w"
    have I1 := I0.put (I0.dqO (h1.dq gok.a)) "advance" rfl
    walk_at "fl.w"
    obtain ⟨xs, e1, e2, e3, e4⟩ := so
    refine lcS (S := S) (fun i => (g.outl[i]?).map ltD) I1.al (I1.deO h2) e1 (by omega) (fun R h => ⟨_, rfl, h⟩) ?_ ?_
    · intro D i x2 e H2 hD he sm al hxe R N hR hN
      obtain ⟨l, hl⟩ : ∃ l, g.outl[i]? = some l := by
        have := (List.getElem?_eq_some_iff.mp he).1
        exact ⟨g.outl[i]'(by omega), List.getElem?_eq_getElem _⟩
      refine g_name ⟨rfl, ?_⟩
      walk_at "fl.w"
      refine spE_app (D :: S) [e] (ltD l) al (.cons (.inl hxe) .nil) ⟨e, l, rfl, e3 i e l he hl, rfl⟩ (fun v H3 sm3 hv => ?_)
      exact hR _ _ _ (by rw [hl]; rfl) sm3 hv
    · intro D H2 sm2 hD hq2
      rw [fm_ltA e2] at hq2
      have I1s := I1.same sm2
      walk_at "fl.w"
      have I2 := I1s.put hq2 "outline" rfl
      walk_at "fl.w"
      refine spE_app S [p] (ltD g.parts) I2.al (.cons (I2.deO h3) .nil) ⟨p, _, rfl, sp, rfl⟩ (fun v H3 sm3 hv3 => ?_)
      have I2s := I2.same sm3
      walk_at "fl.w"
      have I3 := I2s.put hv3 "parts" rfl
      walk_at "fl.w"
      refine spE_app S [n] (ltD g.anch) I3.al (.cons (I3.deO h4) .nil) ⟨n, _, rfl, sn, rfl⟩ (fun v H4 sm4 hv4 => ?_)
      have I3s := I3.same sm4
      walk_at "fl.w"
      have I4 := I3s.put hv4 "anchors" rfl
      walk_at "fl.w"
      have I5 := I4.put (I4.dqO (h5.dq gok.m)) "mark" rfl
      walk_at "fl.w"
      refine spE_app S [d] (ltD g.deltas) I5.al (.cons (I5.deO h6) .nil) ⟨d, _, rfl, sd, rfl⟩ (fun v H6 sm6 hv6 => ?_)
      have I5s := I5.same sm6
      walk_at "fl.w"
      have I6 := I5s.put hv6 "deltas" rfl
      walk_at "fl.w"
      refine spE_app S [hi] (ltD g.hint) I6.al (.cons (I6.deO h7) .nil) ⟨hi, _, rfl, sh, rfl⟩ (fun v H7 sm7 hv7 => ?_)
      have I6s := I6.same sm7
      walk_at "fl.w"
      have I7 := I6s.put hv7 "hint" rfl
      walk_at "fl.w"
      exact q _ _ I7.fr I7.hx I7.dq
theorem ok_Rule (T : Txt K mg) {e1 e2 e3 e4 : Addr} (c : ClsI K mg "Rule" "Rule.__init__" s_Rule fl_Rule (kw_Rule e1 e2 e3 e4)) : InI P w K mg base 2 "Rule" "Rule.__init__" s_Rule fl_Rule (kw_Rule e1 e2 e3 e4) ps_Rule (spI K (adr mg "Rule") fRu) := by
  have cl := c.cl
  have na := c.na
  have h_tuples_of := ok_tuples_of (P := P) (w := w) (base := base) T
  refine inI_of c sc_Rule (fun vs H Q E h => ?_) (fun f cdv A outer s H vs Q E hr h => ?_)
  · obtain ⟨S, x, dx, ws, ds, fs, rfl, _, _, _, hd, ⟨i, b, a, o, ca, r, rfl, _⟩, q⟩ := h
    obtain ⟨v1, _, rfl, _, hd⟩ := hd.consE
    obtain ⟨v2, _, rfl, _, hd⟩ := hd.consE
    obtain ⟨v3, _, rfl, _, hd⟩ := hd.consE
    obtain ⟨v4, _, rfl, _, hd⟩ := hd.consE
    obtain ⟨v5, _, rfl, _, hd⟩ := hd.consE
    obtain ⟨v6, _, rfl, _, hd⟩ := hd.consE
    cases hd.nilE
    rfl
  · obtain ⟨S, x, dx, ws, ds, fs, rfl, hxS, hS, hx, hd, ⟨i, b, a, o, ca, r, rfl, rok, si, sb, sa, so, sc, rfl⟩, q⟩ := h
    obtain ⟨v1, _, rfl, h1, hd⟩ := hd.consE
    obtain ⟨v2, _, rfl, h2, hd⟩ := hd.consE
    obtain ⟨v3, _, rfl, h3, hd⟩ := hd.consE
    obtain ⟨v4, _, rfl, h4, hd⟩ := hd.consE
    obtain ⟨v5, _, rfl, h5, hd⟩ := hd.consE
    obtain ⟨v6, _, rfl, h6, hd⟩ := hd.consE
    cases hd.nilE
    have I0 := InitAt.start hx hS hxS
    refine ⟨_, (pss_cons (psFld (K := K) rfl (pv 0) (pe_lc (own := [("chosen", 7)]) rfl sc_Rule.nd (piS (K := K) rfl (pv 1)) (blkOk_by (by kernel_rfl)) (fun _ _ _ _ _ => (pg_name (i := 7) sc_Rule.nd rfl (.inl rfl))) (fun _ _ _ _ _ => pts_nil) (fun _ _ _ _ _ => (pe_callTy (clLstOf (K := K) rfl) (by rfl) T.z_list (by decide +kernel) (pa_cons (pv 7) pa_nil)))) rfl)
      (pss_cons (psFld (K := K) rfl (pv 0) (pe_lc (own := [("chosen", 7)]) rfl sc_Rule.nd (piS (K := K) rfl (pv 2)) (blkOk_by (by kernel_rfl)) (fun _ _ _ _ _ => (pg_name (i := 7) sc_Rule.nd rfl (.inl rfl))) (fun _ _ _ _ _ => pts_nil) (fun _ _ _ _ _ => (pe_callTy (clLstOf (K := K) rfl) (by rfl) T.z_list (by decide +kernel) (pa_cons (pv 7) pa_nil)))) rfl)
      (pss_cons (psFld (K := K) rfl (pv 0) (pe_lc (own := [("chosen", 7)]) rfl sc_Rule.nd (piS (K := K) rfl (pv 3)) (blkOk_by (by kernel_rfl)) (fun _ _ _ _ _ => (pg_name (i := 7) sc_Rule.nd rfl (.inl rfl))) (fun _ _ _ _ _ => pts_nil) (fun _ _ _ _ _ => (pe_callTy (clLstOf (K := K) rfl) (by rfl) T.z_list (by decide +kernel) (pa_cons (pv 7) pa_nil)))) rfl)
      (pss_cons (psFld (K := K) rfl (pv 0) (pe_callTy (clLstOf (K := K) rfl) (by rfl) T.z_list (by decide +kernel) (pa_cons (pv 4) pa_nil)) rfl)
      (pss_cons (psFld (K := K) rfl (pv 0) (pe_h h_tuples_of (hr.mono (by decide)) (pa_cons (pv 5) pa_nil)) rfl)
      (pss_one (psFld (K := K) rfl (pv 0) (pv 6) rfl))))))), ?_⟩
    walk_at "fl.w"
    obtain ⟨xs, e1, em, ez⟩ := si
    have el := sq2_len em
    refine lcS (S := S) (fun i => (r.inside[i]?).map .list) I0.al (I0.deO h1) e1 (by omega) (fun R h => ⟨_, rfl, h⟩) ?_ ?_
    · intro D i x2 e H2 hD he sm al hxe R N hR hN
      obtain ⟨l, hl1, hl2⟩ := sq2_at em he
      refine g_name ⟨rfl, ?_⟩
      walk_at "fl.w"
      exact lstOf_app al hxe hl2 fun l2 H3 sm3 hv => hR _ _ _ (by rw [hl1]; rfl) sm3 hv
    · intro D H2 sm2 hD hq2
      rw [fm_ltA el] at hq2
      have I1s := I0.same sm2
      walk_at "fl.w"
      have I1 := I1s.put hq2 "inside" rfl
      walk_at "fl.w"
      obtain ⟨xs, e1, em, ez⟩ := sb
      have el := sq2_len em
      refine lcS (S := S) (fun i => (r.back[i]?).map .list) I1.al (I1.deO h2) e1 (by omega) (fun R h => ⟨_, rfl, h⟩) ?_ ?_
      · intro D i x2 e H2 hD he sm al hxe R N hR hN
        obtain ⟨l, hl1, hl2⟩ := sq2_at em he
        refine g_name ⟨rfl, ?_⟩
        walk_at "fl.w"
        exact lstOf_app al hxe hl2 fun l2 H3 sm3 hv => hR _ _ _ (by rw [hl1]; rfl) sm3 hv
      · intro D H2 sm2 hD hq2
        rw [fm_ltA el] at hq2
        have I2s := I1.same sm2
        walk_at "fl.w"
        have I2 := I2s.put hq2 "back" rfl
        walk_at "fl.w"
        obtain ⟨xs, e1, em, ez⟩ := sa
        have el := sq2_len em
        refine lcS (S := S) (fun i => (r.ahead[i]?).map .list) I2.al (I2.deO h3) e1 (by omega) (fun R h => ⟨_, rfl, h⟩) ?_ ?_
        · intro D i x2 e H2 hD he sm al hxe R N hR hN
          obtain ⟨l, hl1, hl2⟩ := sq2_at em he
          refine g_name ⟨rfl, ?_⟩
          walk_at "fl.w"
          exact lstOf_app al hxe hl2 fun l2 H3 sm3 hv => hR _ _ _ (by rw [hl1]; rfl) sm3 hv
        · intro D H2 sm2 hD hq2
          rw [fm_ltA el] at hq2
          have I3s := I2.same sm2
          walk_at "fl.w"
          have I3 := I3s.put hq2 "ahead" rfl
          walk_at "fl.w"
          refine lstOf_de I3.al (I3.deO h4) so.1 fun v4 H4 sm4 hv4 => ?_
          have I4s := I3.same sm4
          walk_at "fl.w"
          have I4 := I4s.put hv4 "out" rfl
          walk_at "fl.w"
          refine spE_app S [ca] (ltD r.calls) I4.al (.cons (I4.deO h5) .nil) ⟨ca, _, rfl, sc, rfl⟩ (fun v H5 sm5 hv5 => ?_)
          have I5s := I4.same sm5
          walk_at "fl.w"
          have I5 := I5s.put hv5 "calls" rfl
          walk_at "fl.w"
          have I6 := I5.put (I5.dqO (h6.dq rok.e)) "extra" rfl
          walk_at "fl.w"
          exact q _ _ I6.fr I6.hx I6.dq
/-- Rule(inside, back=, ahead=, out=, calls=, extra=) -/
theorem mk_Rule_all {e1 e2 e3 e4 : Addr} {sp : Sp} (h : InI P w K mg base 2 "Rule" "Rule.__init__" s_Rule fl_Rule (kw_Rule e1 e2 e3 e4) ps_Rule sp) :
    MkI P w K mg base 2 "Rule" 1 ["back", "ahead", "out", "calls", "extra"] (fun vs zs => pick [0, 1, 2, 3, 4, 5, 6] (vs ++ ([] ++ zs))) sp :=
  h.make 1 ["back", "ahead", "out", "calls", "extra"] [] [0, 1, 2, 3, 4, 5, 6] (by simp) (fun q m => nomatch m) fun D doc pm an cdv ct us mv ws h1 h2 h3 => match us, h1, mv, h2, ws, h3 with | [_, _], _, [], _, [_, _, _, _, _], _ => rfl
/-- Glyph(advance, outline, parts=, anchors=, mark=, deltas=, hint=) -/
theorem mk_Glyph_all {e1 e2 e3 e4 : Addr} {sp : Sp} (h : InI P w K mg base 2 "Glyph" "Glyph.__init__" s_Glyph fl_Glyph (kw_Glyph e1 e2 e3 e4) ps_Glyph sp) :
    MkI P w K mg base 2 "Glyph" 2 ["parts", "anchors", "mark", "deltas", "hint"] (fun vs zs => pick [0, 1, 2, 3, 4, 5, 6, 7] (vs ++ ([] ++ zs))) sp :=
  h.make 2 ["parts", "anchors", "mark", "deltas", "hint"] [] [0, 1, 2, 3, 4, 5, 6, 7] (by simp) (fun q m => nomatch m) fun D doc pm an cdv ct us mv ws h1 h2 h3 => match us, h1, mv, h2, ws, h3 with | [_, _, _], _, [], _, [_, _, _, _, _], _ => rfl
theorem ok_copied_rule (T : Txt K mg) : Has P w K mg base 4 "copied_rule" ps_copied_rule (spD (fCr (adr mg "Rule"))) := by
  obtain ⟨e1, e2, e3, e4, m1, m2, m3, m4, c⟩ := T.c_Rule
  have cl := c.cl
  have na := c.na
  have mk_Rule_1_back_ahead_out_calls_extra := mk_Rule_all (ok_Rule (P := P) (w := w) (base := base) T c)
  refine has_of T.d_copied_rule sc_copied_rule bd_copied_rule (fun vs H Q E h => ?_) (fun f cdv A outer s H vs Q E hr h => ?_)
  · obtain ⟨S, ds, d, hS, hd, ⟨r, rok, rfl, rfl⟩, q⟩ := h
    obtain ⟨v, _, rfl, hv, hd⟩ := hd.consE
    cases hd.nilE
    rfl
  · obtain ⟨S, ds, d, hS, hd, ⟨r, rok, rfl, rfl⟩, q⟩ := h
    obtain ⟨v, _, rfl, hv, hd⟩ := hd.consE
    cases hd.nilE
    obtain ⟨a, dx, fs, rfl, ha, hA, hN⟩ := hv.insE
    obtain ⟨v1, fs, rfl, h1, hN⟩ := hN.consE
    obtain ⟨v2, fs, rfl, h2, hN⟩ := hN.consE
    obtain ⟨v3, fs, rfl, h3, hN⟩ := hN.consE
    obtain ⟨v4, fs, rfl, h4, hN⟩ := hN.consE
    obtain ⟨v5, fs, rfl, h5, hN⟩ := hN.consE
    obtain ⟨v6, fs, rfl, h6, hN⟩ := hN.consE
    cases hN.nilE
    refine ⟨_, (pss_one (ps_ret (pe_mk (mg := mg) rfl mk_Rule_1_back_ahead_out_calls_extra (hr.mono (by decide)) (pa_cons (peFld (K := K) rfl (pv 0) rfl) pa_nil) (pk_cons (peFld (K := K) rfl (pv 0) rfl) (pk_cons (peFld (K := K) rfl (pv 0) rfl) (pk_cons (peFld (K := K) rfl (pv 0) rfl) (pk_cons (peFld (K := K) rfl (pv 0) rfl) (pk_cons (peFld (K := K) rfl (pv 0) rfl) pk_nil)))))))), ?_⟩
    walk_at "fl.w"
    refine g_mk rfl rfl (mk_app (f := fRu) (ws := [v1, v2, v3, v4, v5, v6]) S [llD r.inside, llD r.back, llD r.ahead, .list r.out, ltD r.calls, r.extra] r.F (fun x => rfl) hS (.cons (.inl h1) (.cons (.inl h2) (.cons (.inl h3) (.cons (.inl h4) (.cons (.inl h5) (.cons (.inl h6) .nil))))))
      ⟨_, _, _, _, _, r, rfl, rok, .ll rok.i, .ll rok.b, .ll rok.a, .ls rok.o, .lt rok.c, rfl⟩ fun x H2 sm hv2 => q _ _ sm hv2)
theorem ok_copied_glyph (T : Txt K mg) : Has P w K mg base 4 "copied_glyph" ps_copied_glyph (spD (fCg (adr mg "Glyph"))) := by
  obtain ⟨e1, e2, e3, e4, m1, m2, m3, m4, c⟩ := T.c_Glyph
  have cl := c.cl
  have na := c.na
  have mk_Glyph_2_parts_anchors_mark_deltas_hint := mk_Glyph_all (ok_Glyph (P := P) (w := w) (base := base) T c)
  refine has_of T.d_copied_glyph sc_copied_glyph bd_copied_glyph (fun vs H Q E h => ?_) (fun f cdv A outer s H vs Q E hr h => ?_)
  · obtain ⟨S, ds, d, hS, hd, ⟨r, rok, rfl, rfl⟩, q⟩ := h
    obtain ⟨v, _, rfl, hv, hd⟩ := hd.consE
    cases hd.nilE
    rfl
  · obtain ⟨S, ds, d, hS, hd, ⟨r, rok, rfl, rfl⟩, q⟩ := h
    obtain ⟨v, _, rfl, hv, hd⟩ := hd.consE
    cases hd.nilE
    obtain ⟨a, dx, fs, rfl, ha, hA, hN⟩ := hv.insE
    obtain ⟨v1, fs, rfl, h1, hN⟩ := hN.consE
    obtain ⟨v2, fs, rfl, h2, hN⟩ := hN.consE
    obtain ⟨v3, fs, rfl, h3, hN⟩ := hN.consE
    obtain ⟨v4, fs, rfl, h4, hN⟩ := hN.consE
    obtain ⟨v5, fs, rfl, h5, hN⟩ := hN.consE
    obtain ⟨v6, fs, rfl, h6, hN⟩ := hN.consE
    obtain ⟨v7, fs, rfl, h7, hN⟩ := hN.consE
    cases hN.nilE
    refine ⟨_, (pss_one (ps_ret (pe_mk (mg := mg) rfl mk_Glyph_2_parts_anchors_mark_deltas_hint (hr.mono (by decide)) (pa_cons (peFld (K := K) rfl (pv 0) rfl) (pa_cons (peFld (K := K) rfl (pv 0) rfl) pa_nil)) (pk_cons (peFld (K := K) rfl (pv 0) rfl) (pk_cons (peFld (K := K) rfl (pv 0) rfl) (pk_cons (peFld (K := K) rfl (pv 0) rfl) (pk_cons (peFld (K := K) rfl (pv 0) rfl) (pk_cons (peFld (K := K) rfl (pv 0) rfl) pk_nil)))))))), ?_⟩
    walk_at "fl.w"
    refine g_mk rfl rfl (mk_app (f := fGl) (ws := [v1, v2, v3, v4, v5, v6, v7]) S [r.adv, ouD3 r.outl, ltD r.parts, ltD r.anch, r.mark, ltD r.deltas, ltD r.hint] r.F (fun x => rfl) hS (.cons (.inl h1) (.cons (.inl h2) (.cons (.inl h3) (.cons (.inl h4) (.cons (.inl h5) (.cons (.inl h6) (.cons (.inl h7) .nil)))))))
      ⟨_, _, _, _, _, r, rfl, rok, .ou rok.o rok.c, .lt rok.p, .lt rok.n, .lt rok.d, .lt rok.h, rfl⟩ fun x H2 sm hv2 => q _ _ sm hv2)
theorem ok_Lookup (T : Txt K mg) (c : ClsI K mg "Lookup" "Lookup.__init__" s_Lookup fl_Lookup kw_Lookup) : InI P w K mg base 5 "Lookup" "Lookup.__init__" s_Lookup fl_Lookup kw_Lookup ps_Lookup (spI K (adr mg "Lookup") (fLk (adr mg "Rule"))) := by
  have cl := c.cl
  have na := c.na
  have h_copied_rule := ok_copied_rule (P := P) (w := w) (base := base) T
  refine inI_of c sc_Lookup (fun vs H Q E h => ?_) (fun f cdv A outer s H vs Q E hr h => ?_)
  · obtain ⟨S, x, dx, ws, ds, fs, rfl, _, _, _, hd, ⟨k, rs, rfl, _⟩, q⟩ := h
    obtain ⟨v1, _, rfl, _, hd⟩ := hd.consE
    obtain ⟨v2, _, rfl, _, hd⟩ := hd.consE
    obtain ⟨v3, _, rfl, _, hd⟩ := hd.consE
    cases hd.nilE
    rfl
  · obtain ⟨S, x, dx, ws, ds, fs, rfl, hxS, hS, hx, hd, ⟨k, rs, rfl, kok, e1, rfl⟩, q⟩ := h
    obtain ⟨v1, _, rfl, h1, hd⟩ := hd.consE
    obtain ⟨v2, _, rfl, h2, hd⟩ := hd.consE
    obtain ⟨v3, _, rfl, h3, hd⟩ := hd.consE
    cases hd.nilE
    have I0 := InitAt.start hx hS hxS
    refine ⟨_, (pss_cons (psFld (K := K) rfl (pv 0) (pv 1) rfl)
      (pss_cons (psFld (K := K) rfl (pv 0) (pe_lc (own := [("rule", 4)]) rfl sc_Lookup.nd (piS (K := K) rfl (pv 2)) (blkOk_by (by kernel_rfl)) (fun _ _ _ _ _ => (pg_name (i := 4) sc_Lookup.nd rfl (.inl rfl))) (fun _ _ _ _ _ => pts_nil) (fun _ _ _ _ _ => (pe_h h_copied_rule (hr.mono (by decide)) (pa_cons (pv 4) pa_nil)))) rfl)
      (pss_one (psFld (K := K) rfl (pv 0) (pv 3) rfl)))), ?_⟩
    walk_at "fl.w"
    have I1 := I0.put (I0.dqO (h1.dq kok.k)) "kind" rfl
    walk_at "fl.w"
    refine lcS (S := S) (fun i => (k.rules[i]?).map fun r => insD (adr mg "Rule") r.F) I1.al (I1.deO h2) e1 (by rw [List.length_map]; exact kok.r) (fun R h => ⟨_, rfl, h⟩) ?_ ?_
    · intro D i x2 e H2 hD he sm al hxe R N hR hN
      obtain ⟨r, hr1, rfl⟩ := at_map he
      refine g_name ⟨rfl, ?_⟩
      walk_at "fl.w"
      refine spD_app (D :: S) [_] _ al (.cons hxe .nil) ⟨r, kok.ro r (List.mem_of_getElem? hr1), rfl, rfl⟩ (fun v H3 sm3 hv => ?_)
      exact hR _ _ _ (by rw [hr1]; rfl) sm3 hv
    · intro D H2 sm2 hD hq2
      rw [fm_ltA (by rw [List.length_map])] at hq2
      have I1s := I1.same sm2
      walk_at "fl.w"
      have I2 := I1s.put hq2 "rules" rfl
      walk_at "fl.w"
      have I3 := I2.put (I2.dqO (h3.dq kok.g)) "ignore" rfl
      walk_at "fl.w"
      exact q _ _ I3.fr I3.hx I3.dq
/-- Lookup(kind, rules, ignore=) -/
theorem mk_Lookup_all {sp : Sp} (h : InI P w K mg base 5 "Lookup" "Lookup.__init__" s_Lookup fl_Lookup kw_Lookup ps_Lookup sp) :
    MkI P w K mg base 5 "Lookup" 2 ["ignore"] (fun vs zs => pick [0, 1, 2, 3] (vs ++ ([] ++ zs))) sp :=
  h.make 2 ["ignore"] [] [0, 1, 2, 3] (by simp) (fun q m => nomatch m) fun D doc pm an cdv ct us mv ws h1 h2 h3 => match us, h1, mv, h2, ws, h3 with | [_, _, _], _, [], _, [_], _ => rfl
theorem ok_copied_lookup (T : Txt K mg) : Has P w K mg base 7 "copied_lookup" ps_copied_lookup (spD (fCl (adr mg "Rule") (adr mg "Lookup"))) := by
  have c := T.c_Lookup
  have cl := c.cl
  have na := c.na
  have mk_Lookup_2_ignore := mk_Lookup_all (ok_Lookup (P := P) (w := w) (base := base) T c)
  refine has_of T.d_copied_lookup sc_copied_lookup bd_copied_lookup (fun vs H Q E h => ?_) (fun f cdv A outer s H vs Q E hr h => ?_)
  · obtain ⟨S, ds, d, hS, hd, ⟨r, rok, rfl, rfl⟩, q⟩ := h
    obtain ⟨v, _, rfl, hv, hd⟩ := hd.consE
    cases hd.nilE
    rfl
  · obtain ⟨S, ds, d, hS, hd, ⟨k, kok, rfl, rfl⟩, q⟩ := h
    obtain ⟨v, _, rfl, hv, hd⟩ := hd.consE
    cases hd.nilE
    obtain ⟨a, dx, fs, rfl, ha, hA, hN⟩ := hv.insE
    obtain ⟨v1, fs, rfl, h1, hN⟩ := hN.consE
    obtain ⟨v2, fs, rfl, h2, hN⟩ := hN.consE
    obtain ⟨v3, fs, rfl, h3, hN⟩ := hN.consE
    cases hN.nilE
    refine ⟨_, (pss_one (ps_ret (pe_mk (mg := mg) rfl mk_Lookup_2_ignore (hr.mono (by decide)) (pa_cons (peFld (K := K) rfl (pv 0) rfl) (pa_cons (peFld (K := K) rfl (pv 0) rfl) pa_nil)) (pk_cons (peFld (K := K) rfl (pv 0) rfl) pk_nil)))), ?_⟩
    walk_at "fl.w"
    refine g_mk rfl rfl (mk_app (f := fLk (adr mg "Rule")) (ws := [v1, v2, v3]) S [k.kind, .list (k.rules.map fun r => insD (adr mg "Rule") r.F), k.ign] (k.F (adr mg "Rule")) (fun x => rfl) hS (.cons (.inl h1) (.cons (.inl h2) (.cons (.inl h3) .nil)))
      ⟨k, _, rfl, kok, rfl, rfl⟩ fun x H2 sm hv2 => q _ _ sm hv2)
end

section
end

/-! the end, by one kernel run -/
namespace He2
open He
abbrev R : PySem.W.OpenRow := PySem.W.OpenLaw.row PySem.Challenge.rw_fleuron_k43_whole_instances
abbrev qv : Program := PySem.W.view R.prog [0, 111]
def pls_0 : List Addr := [2, 3, 43, 46, 47, 48, 51, 52, 53, 60, 61, 62, 63, 66, 73, 75, 76, 78, 79, 80, 81, 82, 85, 92, 94, 95, 97, 98, 99, 100, 101, 104, 111, 113, 114, 116, 117, 118, 119, 120, 123, 130, 132, 133, 135, 136, 137, 138, 139, 142, 144, 145, 147, 148, 149, 152, 153, 154, 157, 158, 159, 162, 163, 164, 166, 167, 169, 170, 171, 172, 173, 174, 175, 176, 177, 178, 179, 180, 181, 182, 184, 185, 187, 188, 189, 192, 193, 194, 196, 197, 199, 200, 201, 204, 205, 206, 208, 209, 211, 212, 213, 215, 216, 218, 219, 220, 221, 222, 223, 224, 225, 226, 227, 228, 229, 230, 231, 232, 233, 234, 235, 236, 237, 239, 240, 241, 242, 243, 244, 245, 246, 247, 248, 249, 250, 251, 252, 253, 254, 255, 257, 258, 259, 260, 261, 262, 264, 265, 267, 268, 269, 270, 272, 273, 275, 276, 277, 279, 280, 282, 283, 284, 286, 287, 289, 290, 291, 293, 294, 296, 297, 298, 300, 301, 303, 304, 305, 307, 308, 310, 311, 312, 314, 315, 317, 318, 319, 322, 323, 324, 326, 327, 329, 330, 331, 333, 334, 336, 337, 338]
def pls_1 : List Addr := [340, 341, 343, 344, 345, 347, 348, 350, 351, 352, 354, 355, 357, 358, 359, 362, 363, 364, 366, 367, 369, 370, 371, 374, 375, 376, 378, 379, 381, 382, 383, 386, 387, 388, 391, 392, 400, 401, 402, 403, 404, 405, 408, 409, 410, 411, 412, 413, 414, 424, 425, 426, 427, 428, 429, 432, 433, 434, 435, 436, 437, 438, 448, 449, 452, 453, 454, 455, 456, 457, 458, 468, 469, 470, 471, 472, 473, 474, 475, 476, 479, 480, 481, 482, 483, 484, 485, 488, 490, 491, 493, 494, 495, 497, 498, 500, 501, 502, 504, 505, 507, 508, 509, 511, 512, 514, 515, 516, 519, 520, 521, 523, 524, 526, 527, 528, 531, 532, 533, 535, 536, 538, 539, 540, 541, 543, 544, 546, 547, 548, 550, 551, 553, 554, 555, 557, 558, 560, 561, 562, 564, 565, 567, 568, 569, 571, 572, 574, 575, 576, 578, 579, 581, 582, 583, 585, 586, 588, 589, 590, 593, 594, 595, 597, 598, 600, 601, 602, 604, 605, 607, 608, 609, 612, 613, 614, 617, 618, 619, 621, 622, 624, 625, 626, 629, 630, 631, 633, 634, 636, 637, 638, 641, 642, 643, 646, 647, 648, 650, 651]
def pls_2 : List Addr := [653, 654, 655, 657, 658, 660, 661, 662, 664, 665, 667, 668, 669, 672, 673, 674, 676, 677, 679, 680, 681, 683, 684, 686, 687, 688, 690, 691, 693, 694, 695, 697, 698, 700, 701, 702, 704, 705, 707, 708, 709, 712, 713, 714, 717, 718, 719, 721, 722, 724, 725, 726, 729, 730]
def pls : List Addr := pls_0 ++ (pls_1 ++ (pls_2))
def cks_0 : List Chk := [cFree "abs", cFree "all", cFree "enumerate", cFree "int", cFree "len", cFree "list", cFree "range", cFree "set", cFree "sorted", cFree "sum", cFree "tuple", cFree "zip", cInt "ADVANCE" (-1), cInt "DEEPEST" (4), cInt "FARTHEST" (16384), cInt "GREATEST_NUMBER" (2147483647), cInt "LEAST_NUMBER" (-2147483648), cInt "LEAST_OF_CONTOUR" (2), cInt "MOST_CONTOURS" (40), cInt "MOST_POINTS" (200), cInt "WHOLE" (64), cBlt "gcd" "math.gcd", cGlo "tuples_of", cGlo "depths_of", cGlo "has_parts_in", cGlo "is_proper", cGlo "count_points", cGlo "is_rising", cGlo "is_instruction", cGlo "is_row_of_letters"]
def cks_1 : List Chk := [cGlo "lookup_reason", cGlo "first_fault", cGlo "placed", cGlo "first_glyph_fault", cGlo "first_lookup_fault", cGlo "is_coordinate", cGlo "many_reason", cGlo "unit_reason", cGlo "glyph_reason", cGlo "is_part", cGlo "is_anchor", cGlo "is_delta", cGlo "parts_reason", cGlo "chars_reason", cGlo "features_reason", cGlo "axes_reason", cGlo "regions_reason", cGlo "is_tent", cGlo "functions_reason", cGlo "presets_reason", cGlo "copied_glyph", cGlo "copied_rule", cGlo "copied_lookup", cGlo "_law_deck", cGlo "_law_draw", cGlo "law", cGlo "ratio", cGlo "add", cGlo "subtract", cGlo "multiply"]
def cks_2 : List Chk := [cGlo "divide", cGlo "compare", cGlo "nearest", cGlo "shares", cGlo "share_of", cGlo "factor", cGlo "factor_of_tent", cGlo "factors_of", cGlo "changed_glyph", cGlo "changes_of", cGlo "changed_outline", cGlo "is_near", cGlo "at_place", cGlo "_law_axes", cGlo "_law_place", cGlo "_law_point", cGlo "_law_outline", cGlo "_law_tent", cGlo "_law_font_tent", cGlo "_law_deltas", cGlo "_law_styled", cGlo "_law_styled_font", cGlo "_law_instance", cGlo "same_font", cGlo "contents_of_font", cGlo "contents_of_glyph", cGlo "contents_of_lookup", cGlo "contents_of_rule", cGlo "FleuronError", baseB "FleuronError"]
def cks_3 : List Chk := [cGlo "ZeroDivisor", oexB "ZeroDivisor", excB "ZeroDivisor", iniB "ZeroDivisor", exmB "ZeroDivisor" "FleuronError" true, cGlo "InvalidPlace", oexB "InvalidPlace", excB "InvalidPlace", iniB "InvalidPlace", exmB "InvalidPlace" "FleuronError" true, cGlo "OutOfRange", oexB "OutOfRange", fldB "OutOfRange" "number", iniB "OutOfRange", exmB "OutOfRange" "OutOfRange" true, cGlo "Glyph", clsB "Glyph" fl_Glyph, fun K => emB K (kwAt "Glyph" "parts" K), fun K => emB K (kwAt "Glyph" "anchors" K), fun K => emB K (kwAt "Glyph" "deltas" K), fun K => emB K (kwAt "Glyph" "hint" K), cGlo "Rule", clsB "Rule" fl_Rule, fun K => emB K (kwAt "Rule" "back" K), fun K => emB K (kwAt "Rule" "ahead" K), fun K => emB K (kwAt "Rule" "out" K), fun K => emB K (kwAt "Rule" "calls" K), cGlo "Lookup", clsB "Lookup" fl_Lookup, cGlo "Font"]
def cks_4 : List Chk := [clsB "Font" fl_Font, fun K => emB K (kwAt "Font" "chars" K), fun K => emB K (kwAt "Font" "lookups" K), fun K => emB K (kwAt "Font" "features" K), fun K => emB K (kwAt "Font" "axes" K), fun K => emB K (kwAt "Font" "regions" K), fun K => emB K (kwAt "Font" "functions" K), fun K => emB K (kwAt "Font" "presets" K), cGlo "WITH_CONTEXT", fun K => tupB K "WITH_CONTEXT" [.str "chain", .str "reverse"], cGlo "WITH_OUT", fun K => tupB K "WITH_OUT" [.str "single", .str "multiple", .str "ligature", .str "reverse"], cGlo "ANCHOR_KINDS", fun K => tupB K "ANCHOR_KINDS" [.str "base", .str "mark", .str "entry", .str "exit"], entB "WORDS" "push" [.int (0), .int (1)], entB "WORDS" "size" [.int (0), .int (1)], entN "WORDS" "take", entB "WORDS" "jump" [.int (0), .int (0)], entB "WORDS" "jumpzero" [.int (1), .int (0)], entN "WORDS" "jumpsmall", entN "WORDS" "end", entB "WORDS" "drop" [.int (1), .int (0)], entB "WORDS" "copy" [.int (1), .int (2)], entB "WORDS" "swap" [.int (2), .int (2)], entB "WORDS" "add" [.int (2), .int (1)], entB "WORDS" "subtract" [.int (2), .int (1)], entB "WORDS" "multiply" [.int (2), .int (1)], entB "WORDS" "divide" [.int (2), .int (1)], entB "WORDS" "negate" [.int (1), .int (1)], entB "WORDS" "amount" [.int (1), .int (1)]]
def cks_5 : List Chk := [entB "WORDS" "lesser" [.int (2), .int (1)], entB "WORDS" "greater" [.int (2), .int (1)], entB "WORDS" "down" [.int (1), .int (1)], entB "WORDS" "up" [.int (1), .int (1)], entB "WORDS" "round" [.int (1), .int (1)], entB "WORDS" "less" [.int (2), .int (1)], entB "WORDS" "atmost" [.int (2), .int (1)], entB "WORDS" "equal" [.int (2), .int (1)], entB "WORDS" "not" [.int (1), .int (1)], entB "WORDS" "and" [.int (2), .int (1)], entB "WORDS" "or" [.int (2), .int (1)], entB "WORDS" "look" [.int (0), .int (0)], entB "WORDS" "go" [.int (0), .int (0)], entB "WORDS" "mode" [.int (0), .int (0)], entB "WORDS" "value" [.int (1), .int (1)], entB "WORDS" "load" [.int (1), .int (1)], entB "WORDS" "setvalue" [.int (2), .int (0)], entB "WORDS" "save" [.int (2), .int (0)], entB "WORDS" "get" [.int (1), .int (1)], entB "WORDS" "origin" [.int (1), .int (1)], entB "WORDS" "move" [.int (2), .int (0)], entB "WORDS" "set" [.int (2), .int (0)], entB "WORDS" "align" [.int (2), .int (0)], entB "WORDS" "between" [.int (0), .int (0)], entB "WORDS" "call" [.int (0), .int (0)], entB "WORDS" "repeat" [.int (1), .int (0)], entN "WORDS" "nothing", cGlo "WORDS"]
def cks : List Chk := cks_0 ++ (cks_1 ++ (cks_2 ++ (cks_3 ++ (cks_4 ++ (cks_5)))))
def dfs_0 : List DefD := [⟨("tuples_of", none), "tuples_of", "tuples_of", defArgs s_tuples_of, defBody s_tuples_of, defScope s_tuples_of, [], []⟩, ⟨("depths_of", none), "depths_of", "depths_of", defArgs s_depths_of, defBody s_depths_of, defScope s_depths_of, [], []⟩, ⟨("has_parts_in", none), "has_parts_in", "has_parts_in", defArgs s_has_parts_in, defBody s_has_parts_in, defScope s_has_parts_in, [], []⟩, ⟨("is_proper", none), "is_proper", "is_proper", defArgs s_is_proper, defBody s_is_proper, defScope s_is_proper, [], []⟩, ⟨("count_points", none), "count_points", "count_points", defArgs s_count_points, defBody s_count_points, defScope s_count_points, [], []⟩, ⟨("is_rising", none), "is_rising", "is_rising", defArgs s_is_rising, defBody s_is_rising, defScope s_is_rising, [], []⟩, ⟨("is_instruction", none), "is_instruction", "is_instruction", defArgs s_is_instruction, defBody s_is_instruction, defScope s_is_instruction, [], []⟩, ⟨("is_row_of_letters", none), "is_row_of_letters", "is_row_of_letters", defArgs s_is_row_of_letters, defBody s_is_row_of_letters, defScope s_is_row_of_letters, [], []⟩, ⟨("lookup_reason", none), "lookup_reason", "lookup_reason", defArgs s_lookup_reason, defBody s_lookup_reason, defScope s_lookup_reason, [], []⟩, ⟨("first_fault", none), "first_fault", "first_fault", defArgs s_first_fault, defBody s_first_fault, defScope s_first_fault, [], []⟩, ⟨("placed", none), "placed", "placed", defArgs s_placed, defBody s_placed, defScope s_placed, [], []⟩, ⟨("first_glyph_fault", none), "first_glyph_fault", "first_glyph_fault", defArgs s_first_glyph_fault, defBody s_first_glyph_fault, defScope s_first_glyph_fault, [], []⟩, ⟨("first_lookup_fault", none), "first_lookup_fault", "first_lookup_fault", defArgs s_first_lookup_fault, defBody s_first_lookup_fault, defScope s_first_lookup_fault, [], []⟩, ⟨("is_coordinate", none), "is_coordinate", "is_coordinate", defArgs s_is_coordinate, defBody s_is_coordinate, defScope s_is_coordinate, [], []⟩, ⟨("many_reason", none), "many_reason", "many_reason", defArgs s_many_reason, defBody s_many_reason, defScope s_many_reason, [], []⟩, ⟨("unit_reason", none), "unit_reason", "unit_reason", defArgs s_unit_reason, defBody s_unit_reason, defScope s_unit_reason, [], []⟩, ⟨("glyph_reason", none), "glyph_reason", "glyph_reason", defArgs s_glyph_reason, defBody s_glyph_reason, defScope s_glyph_reason, [], []⟩, ⟨("is_part", none), "is_part", "is_part", defArgs s_is_part, defBody s_is_part, defScope s_is_part, [], []⟩, ⟨("is_anchor", none), "is_anchor", "is_anchor", defArgs s_is_anchor, defBody s_is_anchor, defScope s_is_anchor, [], []⟩, ⟨("is_delta", none), "is_delta", "is_delta", defArgs s_is_delta, defBody s_is_delta, defScope s_is_delta, [], []⟩, ⟨("parts_reason", none), "parts_reason", "parts_reason", defArgs s_parts_reason, defBody s_parts_reason, defScope s_parts_reason, [], []⟩, ⟨("chars_reason", none), "chars_reason", "chars_reason", defArgs s_chars_reason, defBody s_chars_reason, defScope s_chars_reason, [], []⟩, ⟨("features_reason", none), "features_reason", "features_reason", defArgs s_features_reason, defBody s_features_reason, defScope s_features_reason, [], []⟩, ⟨("axes_reason", none), "axes_reason", "axes_reason", defArgs s_axes_reason, defBody s_axes_reason, defScope s_axes_reason, [], []⟩, ⟨("regions_reason", none), "regions_reason", "regions_reason", defArgs s_regions_reason, defBody s_regions_reason, defScope s_regions_reason, [], []⟩, ⟨("is_tent", none), "is_tent", "is_tent", defArgs s_is_tent, defBody s_is_tent, defScope s_is_tent, [], []⟩, ⟨("functions_reason", none), "functions_reason", "functions_reason", defArgs s_functions_reason, defBody s_functions_reason, defScope s_functions_reason, [], []⟩, ⟨("presets_reason", none), "presets_reason", "presets_reason", defArgs s_presets_reason, defBody s_presets_reason, defScope s_presets_reason, [], []⟩, ⟨("copied_glyph", none), "copied_glyph", "copied_glyph", defArgs s_copied_glyph, defBody s_copied_glyph, defScope s_copied_glyph, [], []⟩, ⟨("copied_rule", none), "copied_rule", "copied_rule", defArgs s_copied_rule, defBody s_copied_rule, defScope s_copied_rule, [], []⟩]
def dfs_1 : List DefD := [⟨("copied_lookup", none), "copied_lookup", "copied_lookup", defArgs s_copied_lookup, defBody s_copied_lookup, defScope s_copied_lookup, [], []⟩, ⟨("_law_deck", none), "_law_deck", "_law_deck", defArgs s_law_deck, defBody s_law_deck, defScope s_law_deck, [], []⟩, ⟨("_law_draw", none), "_law_draw", "_law_draw", defArgs s_law_draw, defBody s_law_draw, defScope s_law_draw, [], []⟩, ⟨("law", none), "law", "law", defArgs s_law, defBody s_law, defScope s_law, [], []⟩, ⟨("ratio", none), "ratio", "ratio", defArgs s_ratio, defBody s_ratio, defScope s_ratio, [.int 1], []⟩, ⟨("add", none), "add", "add", defArgs s_add, defBody s_add, defScope s_add, [], []⟩, ⟨("subtract", none), "subtract", "subtract", defArgs s_subtract, defBody s_subtract, defScope s_subtract, [], []⟩, ⟨("multiply", none), "multiply", "multiply", defArgs s_multiply, defBody s_multiply, defScope s_multiply, [], []⟩, ⟨("divide", none), "divide", "divide", defArgs s_divide, defBody s_divide, defScope s_divide, [], []⟩, ⟨("compare", none), "compare", "compare", defArgs s_compare, defBody s_compare, defScope s_compare, [], []⟩, ⟨("nearest", none), "nearest", "nearest", defArgs s_nearest, defBody s_nearest, defScope s_nearest, [], []⟩, ⟨("shares", none), "shares", "shares", defArgs s_shares, defBody s_shares, defScope s_shares, [], []⟩, ⟨("share_of", none), "share_of", "share_of", defArgs s_share_of, defBody s_share_of, defScope s_share_of, [], []⟩, ⟨("factor", none), "factor", "factor", defArgs s_factor, defBody s_factor, defScope s_factor, [], []⟩, ⟨("factor_of_tent", none), "factor_of_tent", "factor_of_tent", defArgs s_factor_of_tent, defBody s_factor_of_tent, defScope s_factor_of_tent, [], []⟩, ⟨("factors_of", none), "factors_of", "factors_of", defArgs s_factors_of, defBody s_factors_of, defScope s_factors_of, [], []⟩, ⟨("changed_glyph", none), "changed_glyph", "changed_glyph", defArgs s_changed_glyph, defBody s_changed_glyph, defScope s_changed_glyph, [], []⟩, ⟨("changes_of", none), "changes_of", "changes_of", defArgs s_changes_of, defBody s_changes_of, defScope s_changes_of, [], []⟩, ⟨("changed_outline", none), "changed_outline", "changed_outline", defArgs s_changed_outline, defBody s_changed_outline, defScope s_changed_outline, [], []⟩, ⟨("is_near", none), "is_near", "is_near", defArgs s_is_near, defBody s_is_near, defScope s_is_near, [], []⟩, ⟨("at_place", none), "at_place", "at_place", defArgs s_at_place, defBody s_at_place, defScope s_at_place, [], []⟩, ⟨("_law_axes", none), "_law_axes", "_law_axes", defArgs s_law_axes, defBody s_law_axes, defScope s_law_axes, [], []⟩, ⟨("_law_place", none), "_law_place", "_law_place", defArgs s_law_place, defBody s_law_place, defScope s_law_place, [], []⟩, ⟨("_law_point", none), "_law_point", "_law_point", defArgs s_law_point, defBody s_law_point, defScope s_law_point, [], []⟩, ⟨("_law_outline", none), "_law_outline", "_law_outline", defArgs s_law_outline, defBody s_law_outline, defScope s_law_outline, [], []⟩, ⟨("_law_tent", none), "_law_tent", "_law_tent", defArgs s_law_tent, defBody s_law_tent, defScope s_law_tent, [], []⟩, ⟨("_law_font_tent", none), "_law_font_tent", "_law_font_tent", defArgs s_law_font_tent, defBody s_law_font_tent, defScope s_law_font_tent, [], []⟩, ⟨("_law_deltas", none), "_law_deltas", "_law_deltas", defArgs s_law_deltas, defBody s_law_deltas, defScope s_law_deltas, [], []⟩, ⟨("_law_styled", none), "_law_styled", "_law_styled", defArgs s_law_styled, defBody s_law_styled, defScope s_law_styled, [], []⟩, ⟨("_law_styled_font", none), "_law_styled_font", "_law_styled_font", defArgs s_law_styled_font, defBody s_law_styled_font, defScope s_law_styled_font, [], []⟩]
def dfs_2 : List DefD := [⟨("_law_instance", none), "_law_instance", "_law_instance", defArgs s_law_instance, defBody s_law_instance, defScope s_law_instance, [], []⟩, ⟨("same_font", none), "same_font", "same_font", defArgs s_same_font, defBody s_same_font, defScope s_same_font, [], []⟩, ⟨("contents_of_font", none), "contents_of_font", "contents_of_font", defArgs s_contents_of_font, defBody s_contents_of_font, defScope s_contents_of_font, [], []⟩, ⟨("contents_of_glyph", none), "contents_of_glyph", "contents_of_glyph", defArgs s_contents_of_glyph, defBody s_contents_of_glyph, defScope s_contents_of_glyph, [], []⟩, ⟨("contents_of_lookup", none), "contents_of_lookup", "contents_of_lookup", defArgs s_contents_of_lookup, defBody s_contents_of_lookup, defScope s_contents_of_lookup, [], []⟩, ⟨("contents_of_rule", none), "contents_of_rule", "contents_of_rule", defArgs s_contents_of_rule, defBody s_contents_of_rule, defScope s_contents_of_rule, [], []⟩, ⟨("ZeroDivisor", some "__init__"), "__init__", "ZeroDivisor.__init__", defArgs s_ZeroDivisor, defBody s_ZeroDivisor, defScope s_ZeroDivisor, [], []⟩, ⟨("InvalidPlace", some "__init__"), "__init__", "InvalidPlace.__init__", defArgs s_InvalidPlace, defBody s_InvalidPlace, defScope s_InvalidPlace, [], []⟩, ⟨("OutOfRange", some "__init__"), "__init__", "OutOfRange.__init__", defArgs s_OutOfRange, defBody s_OutOfRange, defScope s_OutOfRange, [], []⟩, ⟨("Glyph", some "__init__"), "__init__", "Glyph.__init__", defArgs s_Glyph, defBody s_Glyph, defScope s_Glyph, [], [("parts", .adr (kwAt "Glyph" "parts")), ("anchors", .adr (kwAt "Glyph" "anchors")), ("mark", .bl false), ("deltas", .adr (kwAt "Glyph" "deltas")), ("hint", .adr (kwAt "Glyph" "hint"))]⟩, ⟨("Rule", some "__init__"), "__init__", "Rule.__init__", defArgs s_Rule, defBody s_Rule, defScope s_Rule, [], [("back", .adr (kwAt "Rule" "back")), ("ahead", .adr (kwAt "Rule" "ahead")), ("out", .adr (kwAt "Rule" "out")), ("calls", .adr (kwAt "Rule" "calls")), ("extra", .int 0)]⟩, ⟨("Lookup", some "__init__"), "__init__", "Lookup.__init__", defArgs s_Lookup, defBody s_Lookup, defScope s_Lookup, [], [("ignore", .bl false)]⟩, ⟨("Font", some "__init__"), "__init__", "Font.__init__", defArgs s_Font, defBody s_Font, defScope s_Font, [], [("chars", .adr (kwAt "Font" "chars")), ("lookups", .adr (kwAt "Font" "lookups")), ("features", .adr (kwAt "Font" "features")), ("axes", .adr (kwAt "Font" "axes")), ("regions", .adr (kwAt "Font" "regions")), ("functions", .adr (kwAt "Font" "functions")), ("presets", .adr (kwAt "Font" "presets"))]⟩]
def dfs : List DefD := dfs_0 ++ (dfs_1 ++ (dfs_2))
def tbs_0 : List Tab := [(fun K => ga K "WORDS", [PySem.Str.ofString "push", PySem.Str.ofString "drop", PySem.Str.ofString "copy", PySem.Str.ofString "swap", PySem.Str.ofString "add", PySem.Str.ofString "subtract", PySem.Str.ofString "multiply", PySem.Str.ofString "divide", PySem.Str.ofString "negate", PySem.Str.ofString "amount", PySem.Str.ofString "lesser", PySem.Str.ofString "greater", PySem.Str.ofString "down", PySem.Str.ofString "up", PySem.Str.ofString "round", PySem.Str.ofString "less", PySem.Str.ofString "atmost", PySem.Str.ofString "equal", PySem.Str.ofString "not", PySem.Str.ofString "and", PySem.Str.ofString "or", PySem.Str.ofString "look", PySem.Str.ofString "go", PySem.Str.ofString "mode", PySem.Str.ofString "value", PySem.Str.ofString "load", PySem.Str.ofString "setvalue", PySem.Str.ofString "save", PySem.Str.ofString "get", PySem.Str.ofString "origin", PySem.Str.ofString "move", PySem.Str.ofString "set", PySem.Str.ofString "align", PySem.Str.ofString "between", PySem.Str.ofString "jump", PySem.Str.ofString "jumpzero", PySem.Str.ofString "call", PySem.Str.ofString "repeat", PySem.Str.ofString "size"])]
def tbs : List Tab := tbs_0
def loo_0 : List PySem.Str := [PySem.Str.ofString "__name__", PySem.Str.ofString "DEEPEST", PySem.Str.ofString "depths_of", PySem.Str.ofString "has_parts_in", PySem.Str.ofString "FleuronError", PySem.Str.ofString "InvalidFont", PySem.Str.ofString "OutOfRange", PySem.Str.ofString "ZeroDivisor", PySem.Str.ofString "InvalidPlace", PySem.Str.ofString "MOST_CONTOURS", PySem.Str.ofString "LEAST_OF_CONTOUR", PySem.Str.ofString "MOST_POINTS", PySem.Str.ofString "FARTHEST", PySem.Str.ofString "is_proper", PySem.Str.ofString "count_points", PySem.Str.ofString "LETTERS", PySem.Str.ofString "is_row_of_letters", PySem.Str.ofString "tuples_of", PySem.Str.ofString "is_rising", PySem.Str.ofString "MOST_RULES", PySem.Str.ofString "MOST_AROUND", PySem.Str.ofString "MOST_OUT", PySem.Str.ofString "INSIDE", PySem.Str.ofString "WITH_CONTEXT", PySem.Str.ofString "WITH_OUT", PySem.Str.ofString "lookup_reason", PySem.Str.ofString "sets_reason", PySem.Str.ofString "is_set", PySem.Str.ofString "out_reason", PySem.Str.ofString "calls_reason", PySem.Str.ofString "extra_reason", PySem.Str.ofString "WORDS", PySem.Str.ofString "LEAST_NUMBER", PySem.Str.ofString "GREATEST_NUMBER", PySem.Str.ofString "is_instruction"]
def loo_1 : List PySem.Str := [PySem.Str.ofString "ANCHOR_KINDS", PySem.Str.ofString "LONGEST_FEATURE", PySem.Str.ofString "first_fault", PySem.Str.ofString "placed", PySem.Str.ofString "first_glyph_fault", PySem.Str.ofString "first_lookup_fault", PySem.Str.ofString "is_coordinate", PySem.Str.ofString "many_reason", PySem.Str.ofString "unit_reason", PySem.Str.ofString "glyph_reason", PySem.Str.ofString "is_part", PySem.Str.ofString "is_anchor", PySem.Str.ofString "is_delta", PySem.Str.ofString "parts_reason", PySem.Str.ofString "chars_reason", PySem.Str.ofString "features_reason", PySem.Str.ofString "axes_reason", PySem.Str.ofString "regions_reason", PySem.Str.ofString "is_tent", PySem.Str.ofString "functions_reason", PySem.Str.ofString "presets_reason", PySem.Str.ofString "Glyph", PySem.Str.ofString "Rule", PySem.Str.ofString "Lookup", PySem.Str.ofString "Font", PySem.Str.ofString "copied_glyph", PySem.Str.ofString "copied_rule", PySem.Str.ofString "copied_lookup", PySem.Str.ofString "same_font", PySem.Str.ofString "contents_of_font", PySem.Str.ofString "contents_of_glyph", PySem.Str.ofString "contents_of_lookup", PySem.Str.ofString "contents_of_rule", PySem.Str.ofString "ratio", PySem.Str.ofString "add"]
def loo_2 : List PySem.Str := [PySem.Str.ofString "subtract", PySem.Str.ofString "multiply", PySem.Str.ofString "divide", PySem.Str.ofString "compare", PySem.Str.ofString "nearest", PySem.Str.ofString "ADVANCE", PySem.Str.ofString "WHOLE", PySem.Str.ofString "shares", PySem.Str.ofString "share_of", PySem.Str.ofString "factor", PySem.Str.ofString "factor_of_tent", PySem.Str.ofString "factors_of", PySem.Str.ofString "changed_glyph", PySem.Str.ofString "changes_of", PySem.Str.ofString "changed_outline", PySem.Str.ofString "is_near", PySem.Str.ofString "at_place", PySem.Str.ofString "_law_deck", PySem.Str.ofString "_law_draw", PySem.Str.ofString "_law_point", PySem.Str.ofString "_law_outline", PySem.Str.ofString "_law_axes", PySem.Str.ofString "_law_tent", PySem.Str.ofString "_law_place", PySem.Str.ofString "_law_deltas", PySem.Str.ofString "_law_font_tent", PySem.Str.ofString "_law_styled", PySem.Str.ofString "_law_styled_font", PySem.Str.ofString "_law_instance"]
def loo : List PySem.Str := loo_0 ++ (loo_1 ++ (loo_2))
open PySem PySem.W HandSHeadRun in
theorem run_fa (w : World) : (wholeF (fun p => stepQ (denQ tabQ) p (w.withFollow "special-get-raises" false)) fenceQ 20000 R.prog).map (fun x => (looksF R.prog x.1.heap x.2.abs, seenQ qv loo (importedModules R.prog.main.body) (fun s => xlAt qv [] s && recOk R.toRowW.records s) x.2.abs)) = some (true, openGood qv loo) := by
  kernel_rfl
open PySem PySem.W HandSHeadRun in
theorem run_fo (w : World) : (wholeF (fun p => stepQ (denQ tabQ) p (w.withFollow "special-get-raises" false)) fenceQ 20000 R.prog).map (fun x => obC pls cks dfs tbs x.2) = some (valT dfs tbs (w.withFollow "special-get-raises" false)) := by
  kernel_rfl
theorem run_f (w : World) : HandSHeadRun.RunEqI R qv (hookC pls cks dfs tbs) (obC pls cks dfs tbs) 20000 loo (w.withFollow "special-get-raises" false) := by
  unfold HandSHeadRun.RunEqI
  exact map3 (run_fa w) (run_fo w)
open PySem PySem.W HandSHeadRun in
theorem run_ta (w : World) : (wholeF (fun p => stepQ (denQ tabQ) p (w.withFollow "special-get-raises" true)) fenceQ 20000 R.prog).map (fun x => (looksF R.prog x.1.heap x.2.abs, seenQ qv loo (importedModules R.prog.main.body) (fun s => xlAt qv [] s && recOk R.toRowW.records s) x.2.abs)) = some (true, openGood qv loo) := by
  kernel_rfl
open PySem PySem.W HandSHeadRun in
theorem run_to (w : World) : (wholeF (fun p => stepQ (denQ tabQ) p (w.withFollow "special-get-raises" true)) fenceQ 20000 R.prog).map (fun x => obC pls cks dfs tbs x.2) = some (valT dfs tbs (w.withFollow "special-get-raises" true)) := by
  kernel_rfl
theorem run_t (w : World) : HandSHeadRun.RunEqI R qv (hookC pls cks dfs tbs) (obC pls cks dfs tbs) 20000 loo (w.withFollow "special-get-raises" true) := by
  unfold HandSHeadRun.RunEqI
  exact map3 (run_ta w) (run_to w)
theorem run (w : World) : HandSHeadRun.RunEqI R qv (hookC pls cks dfs tbs) (obC pls cks dfs tbs) 20000 loo w :=
  PySem.W.byRow2 "special-get-raises" (P := fun w => HandSHeadRun.RunEqI R qv (hookC pls cks dfs tbs) (obC pls cks dfs tbs) 20000 loo w) run_f run_t w
end He2


section
variable {P : Program} {w : World} {K : PySem.W.Frag} {mg : Str → Option Value} {base : Heap}
theorem ok_Font (T : Txt K mg) (V : FoR → Prop) (h_first_fault : Has P w K mg base 7 "first_fault" ["font"] (spD (fFf (cs mg) V))) {e1 e2 e3 e4 e5 e6 e7 : Addr} (c : ClsI K mg "Font" "Font.__init__" s_Font fl_Font (kw_Font e1 e2 e3 e4 e5 e6 e7)) : InI P w K mg base 8 "Font" "Font.__init__" s_Font fl_Font (kw_Font e1 e2 e3 e4 e5 e6 e7) ps_Font (spI K (adr mg "Font") (fFo (cs mg) V)) := by
  have cl := c.cl
  have na := c.na
  have h_tuples_of := ok_tuples_of (P := P) (w := w) (base := base) T
  have h_copied_glyph := ok_copied_glyph (P := P) (w := w) (base := base) T
  have h_copied_lookup := ok_copied_lookup (P := P) (w := w) (base := base) T
  refine inI_of c sc_Font (fun vs H Q E h => ?_) (fun f cdv A outer s H vs Q E hr h => ?_)
  · obtain ⟨S, x, dx, ws, ds, fs, rfl, _, _, _, hd, ⟨gs, ch, ls, fe, ax, re, fn, pr, fo, rfl, _⟩, q⟩ := h
    obtain ⟨v1, _, rfl, _, hd⟩ := hd.consE
    obtain ⟨v2, _, rfl, _, hd⟩ := hd.consE
    obtain ⟨v3, _, rfl, _, hd⟩ := hd.consE
    obtain ⟨v4, _, rfl, _, hd⟩ := hd.consE
    obtain ⟨v5, _, rfl, _, hd⟩ := hd.consE
    obtain ⟨v6, _, rfl, _, hd⟩ := hd.consE
    obtain ⟨v7, _, rfl, _, hd⟩ := hd.consE
    obtain ⟨v8, _, rfl, _, hd⟩ := hd.consE
    obtain ⟨v9, _, rfl, _, hd⟩ := hd.consE
    cases hd.nilE
    rfl
  · obtain ⟨S, x, dx, ws, ds, fs, rfl, hxS, hS, hx, hd, ⟨gs, ch, ls, fe, ax, re, fn, pr, fo, rfl, fok, fV, sg, sc, sl, sf, sa, sr, sn, sp, rfl⟩, q⟩ := h
    obtain ⟨v1, _, rfl, h1, hd⟩ := hd.consE
    obtain ⟨v2, _, rfl, h2, hd⟩ := hd.consE
    obtain ⟨v3, _, rfl, h3, hd⟩ := hd.consE
    obtain ⟨v4, _, rfl, h4, hd⟩ := hd.consE
    obtain ⟨v5, _, rfl, h5, hd⟩ := hd.consE
    obtain ⟨v6, _, rfl, h6, hd⟩ := hd.consE
    obtain ⟨v7, _, rfl, h7, hd⟩ := hd.consE
    obtain ⟨v8, _, rfl, h8, hd⟩ := hd.consE
    obtain ⟨v9, _, rfl, h9, hd⟩ := hd.consE
    cases hd.nilE
    have I0 := InitAt.start hx hS hxS
    refine ⟨_, (pss_cons (psFld (K := K) rfl (pv 0) (pv 1) rfl)
      (pss_cons (psFld (K := K) rfl (pv 0) (pe_lc (own := [("glyph", 11)]) rfl sc_Font.nd (piS (K := K) rfl (pv 2)) (blkOk_by (by kernel_rfl)) (fun _ _ _ _ _ => (pg_name (i := 11) sc_Font.nd rfl (.inl rfl))) (fun _ _ _ _ _ => pts_nil) (fun _ _ _ _ _ => (pe_h h_copied_glyph (hr.mono (by decide)) (pa_cons (pv 11) pa_nil)))) rfl)
      (pss_cons (psFld (K := K) rfl (pv 0) (pe_h h_tuples_of (hr.mono (by decide)) (pa_cons (pv 3) pa_nil)) rfl)
      (pss_cons (psFld (K := K) rfl (pv 0) (pe_lc (own := [("lookup", 12)]) rfl sc_Font.nd (piS (K := K) rfl (pv 4)) (blkOk_by (by kernel_rfl)) (fun _ _ _ _ _ => (pg_name (i := 12) sc_Font.nd rfl (.inl rfl))) (fun _ _ _ _ _ => pts_nil) (fun _ _ _ _ _ => (pe_h h_copied_lookup (hr.mono (by decide)) (pa_cons (pv 12) pa_nil)))) rfl)
      (pss_cons (psFld (K := K) rfl (pv 0) (pe_lc (own := [("name", 13), ("numbers", 14)]) rfl sc_Font.nd (piS (K := K) rfl (pv 5)) (blkOk_by (by kernel_rfl)) (fun _ _ _ _ _ => (pgT (n := 2) (K := K) rfl (by rfl) (pgs_cons (pg_name (i := 13) sc_Font.nd rfl (.inl rfl)) (pgs_cons (pg_name (i := 14) sc_Font.nd rfl (.inl rfl)) pgs_nil)))) (fun _ _ _ _ _ => pts_nil) (fun _ _ _ _ _ => (pe_tup (pa_cons (pv 13) (pa_cons (pe_callTy (clLstOf (K := K) rfl) (by rfl) T.z_list (by decide +kernel) (pa_cons (pv 14) pa_nil)) pa_nil))))) rfl)
      (pss_cons (psFld (K := K) rfl (pv 0) (pe_h h_tuples_of (hr.mono (by decide)) (pa_cons (pv 6) pa_nil)) rfl)
      (pss_cons (psFld (K := K) rfl (pv 0) (pe_lc (own := [("region", 15)]) rfl sc_Font.nd (piS (K := K) rfl (pv 7)) (blkOk_by (by kernel_rfl)) (fun _ _ _ _ _ => (pg_name (i := 15) sc_Font.nd rfl (.inl rfl))) (fun _ _ _ _ _ => pts_nil) (fun _ _ _ _ _ => (pe_h h_tuples_of (hr.mono (by decide)) (pa_cons (pv 15) pa_nil)))) rfl)
      (pss_cons (psFld (K := K) rfl (pv 0) (pe_lc (own := [("function", 16)]) rfl sc_Font.nd (piS (K := K) rfl (pv 8)) (blkOk_by (by kernel_rfl)) (fun _ _ _ _ _ => (pg_name (i := 16) sc_Font.nd rfl (.inl rfl))) (fun _ _ _ _ _ => pts_nil) (fun _ _ _ _ _ => (pe_h h_tuples_of (hr.mono (by decide)) (pa_cons (pv 16) pa_nil)))) rfl)
      (pss_cons (psFld (K := K) rfl (pv 0) (pe_callTy (clLstOf (K := K) rfl) (by rfl) T.z_list (by decide +kernel) (pa_cons (pv 9) pa_nil)) rfl)
      (pss_cons (ps_set (i := 10) sc_Font.nd rfl (.inl rfl) (pe_h h_first_fault (hr.mono (by decide)) (pa_cons (pv 0) pa_nil)))
      (pss_one (ps_if (pt_cmpR op_notN (pv 10) pe_non (nomark _))
        pss_never
        pss_nil)))))))))))), ?_⟩
    walk_at "fl.w"
    have I1 := I0.put (I0.dqO (h1.dq fok.u)) "unit" rfl
    walk_at "fl.w"
    refine lcS (S := S) (fun i => (fo.glyphs[i]?).map (glD (cs mg))) I1.al (I1.deO h2) sg (by rw [List.length_map]; exact fok.g) (fun R h => ⟨_, rfl, h⟩) ?_ ?_
    · intro D i x2 e H2 hD he sm al hxe R N hR hN
      obtain ⟨r, hr1, rfl⟩ := at_map he
      refine g_name ⟨rfl, ?_⟩
      walk_at "fl.w"
      refine spD_app (D :: S) [_] _ al (.cons hxe .nil) ⟨r, fok.go r (List.mem_of_getElem? hr1), rfl, rfl⟩ (fun v H3 sm3 hv => ?_)
      exact hR _ _ _ (by rw [hr1]; rfl) sm3 hv
    intro D H2 sm2 hD hq2
    rw [fm_ltA (by rw [List.length_map])] at hq2
    have I1s := I1.same sm2
    walk_at "fl.w"
    have I2 := I1s.put hq2 "glyphs" rfl
    walk_at "fl.w"
    refine spE_app S [ch] (ltD fo.chars) I2.al (.cons (I2.deO h3) .nil) ⟨ch, _, rfl, sc, rfl⟩ (fun v H3 sm3 hv3 => ?_)
    have I2s := I2.same sm3
    walk_at "fl.w"
    have I3 := I2s.put hv3 "chars" rfl
    walk_at "fl.w"
    refine lcS (S := S) (fun i => (fo.lookups[i]?).map (lkD (cs mg))) I3.al (I3.deO h4) sl (by rw [List.length_map]; exact fok.l) (fun R h => ⟨_, rfl, h⟩) ?_ ?_
    · intro D i x2 e H2 hD he sm al hxe R N hR hN
      obtain ⟨r, hr1, rfl⟩ := at_map he
      refine g_name ⟨rfl, ?_⟩
      walk_at "fl.w"
      refine spD_app (D :: S) [_] _ al (.cons hxe .nil) ⟨r, fok.lo r (List.mem_of_getElem? hr1), rfl, rfl⟩ (fun v H3 sm3 hv => ?_)
      exact hR _ _ _ (by rw [hr1]; rfl) sm3 hv
    intro D4 H4 sm4 hD4 hq4
    rw [fm_ltA (by rw [List.length_map])] at hq4
    have I3s := I3.same sm4
    walk_at "fl.w"
    have I4 := I3s.put hq4 "lookups" rfl
    walk_at "fl.w"
    obtain ⟨xs, e1, e2, e3, e4⟩ := sf
    refine lcS (S := S) (fun i => (fo.features[i]?).map feD) I4.al (I4.deO h5) e1 (by omega) (fun R h => ⟨_, rfl, h⟩) ?_ ?_
    · intro D i x2 e H2 hD he sm al hxe R N hR hN
      obtain ⟨l, hl⟩ : ∃ l, fo.features[i]? = some l := by
        have := (List.getElem?_eq_some_iff.mp he).1
        exact ⟨fo.features[i]'(by omega), List.getElem?_eq_getElem _⟩
      obtain ⟨m, rfl, hm1, hm2⟩ := e3 i e l he hl
      obtain ⟨a, zs, rfl, na', ha, hA⟩ := hxe.tupE
      obtain ⟨n1, zs, rfl, hn1, hA⟩ := hA.consE
      obtain ⟨n2, zs, rfl, hn2, hA⟩ := hA.consE
      cases hA.nilE
      walk_at "fl.w"
      refine ⟨rfl, ?_⟩
      walk_at "fl.w"
      refine lstOf_app al hn2 hm1 fun p H3 sm3 hv => ?_
      have hn1' := hn1.same sm3
      walk_at "fl.w"
      rename_i t ht
      exact hR _ _ _ (by rw [hl]; rfl) (sm3.trans (Fl.Same.new ht)) (Dq.newT (al.same sm3) ht (.cons hn1' (.cons hv .nil)))
    intro D5 H5 sm5 hD5 hq5
    rw [fm_ltA e2] at hq5
    have I4s := I4.same sm5
    walk_at "fl.w"
    have I5 := I4s.put hq5 "features" rfl
    walk_at "fl.w"
    refine spE_app S [ax] (ltD fo.axes) I5.al (.cons (I5.deO h6) .nil) ⟨ax, _, rfl, sa, rfl⟩ (fun v H6 sm6 hv6 => ?_)
    have I5s := I5.same sm6
    walk_at "fl.w"
    have I6 := I5s.put hv6 "axes" rfl
    walk_at "fl.w"
    obtain ⟨xs, e1, e2, e3, e4⟩ := sr
    refine lcS (S := S) (fun i => (fo.regions[i]?).map ltD) I6.al (I6.deO h7) e1 (by omega) (fun R h => ⟨_, rfl, h⟩) ?_ ?_
    · intro D i x2 e H2 hD he sm al hxe R N hR hN
      obtain ⟨l, hl⟩ : ∃ l, fo.regions[i]? = some l := by
        have := (List.getElem?_eq_some_iff.mp he).1
        exact ⟨fo.regions[i]'(by omega), List.getElem?_eq_getElem _⟩
      refine g_name ⟨rfl, ?_⟩
      walk_at "fl.w"
      refine spE_app (D :: S) [e] (ltD l) al (.cons (.inl hxe) .nil) ⟨e, l, rfl, e3 i e l he hl, rfl⟩ (fun v H3 sm3 hv => ?_)
      exact hR _ _ _ (by rw [hl]; rfl) sm3 hv
    intro D7 H7 sm7 hD7 hq7
    rw [fm_ltA e2] at hq7
    have I6s := I6.same sm7
    walk_at "fl.w"
    have I7 := I6s.put hq7 "regions" rfl
    walk_at "fl.w"
    obtain ⟨xs, e1, e2, e3, e4⟩ := sn
    refine lcS (S := S) (fun i => (fo.functions[i]?).map ltD) I7.al (I7.deO h8) e1 (by omega) (fun R h => ⟨_, rfl, h⟩) ?_ ?_
    · intro D i x2 e H2 hD he sm al hxe R N hR hN
      obtain ⟨l, hl⟩ : ∃ l, fo.functions[i]? = some l := by
        have := (List.getElem?_eq_some_iff.mp he).1
        exact ⟨fo.functions[i]'(by omega), List.getElem?_eq_getElem _⟩
      refine g_name ⟨rfl, ?_⟩
      walk_at "fl.w"
      refine spE_app (D :: S) [e] (ltD l) al (.cons (.inl hxe) .nil) ⟨e, l, rfl, e3 i e l he hl, rfl⟩ (fun v H3 sm3 hv => ?_)
      exact hR _ _ _ (by rw [hl]; rfl) sm3 hv
    intro D8 H8 sm8 hD8 hq8
    rw [fm_ltA e2] at hq8
    have I7s := I7.same sm8
    walk_at "fl.w"
    have I8 := I7s.put hq8 "functions" rfl
    walk_at "fl.w"
    refine lstOf_de I8.al (I8.deO h9) sp.1 fun v9 H9 sm9 hv9 => ?_
    have I8s := I8.same sm9
    walk_at "fl.w"
    have I9 := I8s.put hv9 "presets" rfl
    walk_at "fl.w"
    have hF := I9.fin
    refine spD_app _ [foD (cs mg) fo] .none hF.1 (.cons hF.2 .nil) ⟨fo, fV, rfl, rfl⟩ (fun v H10 sm10 hv10 => ?_)
    cases hv10.nonE
    have I10 := I9.same sm10
    walk_at "fl.w"
    exact q _ _ I10.fr I10.hx I10.dq
end

section
variable {P : Program} {w : World} {K : PySem.W.Frag} {mg : Str → Option Value} {base : Heap}
theorem ok_count_points (T : Txt K mg) : Has P w K mg base 1 "count_points" ps_count_points (spD fCt) := by
  refine has_of T.d_count_points sc_count_points bd_count_points (fun vs H Q E h => ?_) (fun f cdv A outer s H vs Q E hr h => ?_)
  · obtain ⟨S, ds, d, _, hd, ⟨o, rfl, _⟩, _⟩ := h
    rw [hd.len]
    rfl
  · obtain ⟨S, ds, d, hS, hd, ⟨o, rfl, hz, rfl⟩, q⟩ := h
    obtain ⟨_, _, rfl, h1, hd⟩ := hd.consE
    cases hd.nilE
    obtain ⟨a, xs, rfl, na, hx, hA⟩ := h1.lstE
    refine ⟨_, (pss_one (ps_ret (pe_callB (clSum (K := K) rfl rfl) (by rfl) T.z_sum (by decide +kernel) (pa_cons (pe_lc (own := [("contour", 1)]) rfl sc_count_points.nd (piL (K := K) rfl (pv 0)) (blkOk_by (by kernel_rfl)) (fun _ _ _ _ _ => (pg_name (i := 1) sc_count_points.nd rfl (.inl rfl))) (fun _ _ _ _ _ => pts_nil) (fun _ _ _ _ _ => (pe_callB (clLen (K := K) rfl) (by rfl) T.z_len (by decide +kernel) (pa_cons (pv 1) pa_nil)))) pa_nil)))), ?_⟩
    walk_at "fl.w"
    refine lcL (S := S) (es := o.map ctD) (fun i => ((o.map fun c => (c.length : Int)).map PyData.int)[i]?) hS h1 (by rw [List.length_map]; omega) ?_ ?_
    · intro D i x e H2 hD he sm al hxe R N hR hN
      rw [List.getElem?_map] at he
      cases hc1 : o[i]? with
      | none => rw [hc1] at he; cases he
      | some c =>
        rw [hc1] at he
        cases he
        obtain ⟨b, ys, rfl, nb, hy, hB⟩ := hxe.lstE
        have hlb := hB.len
        rw [List.length_map] at hlb
        refine g_name ⟨rfl, ?_⟩
        walk_at "fl.w"
        exact hR (.int (c.length : Int)) _ _ (by rw [List.getElem?_map, List.getElem?_map, hc1]; rfl) (L2.Same.refl _) (by rw [hlb]; exact .int _)
    · intro D H2 sm hD hq
      rw [fm_all (by simp)] at hq
      obtain ⟨_, zs, e, nD, hzs, hZ⟩ := hq.lstE
      cases e
      obtain rfl := ints_of hZ
      walk_at "fl.w"
      exact q _ _ sm (.int _)
theorem ok_is_proper (T : Txt K mg) : Has P w K mg base 2 "is_proper" ps_is_proper (spD fPr) := by
  have h_count_points := ok_count_points (P := P) (w := w) (base := base) T
  refine has_of T.d_is_proper sc_is_proper bd_is_proper (fun vs H Q E h => ?_) (fun f cdv A outer s H vs Q E hr h => ?_)
  · obtain ⟨S, ds, d, _, hd, ⟨o, rfl, _⟩, _⟩ := h
    rw [hd.len]
    rfl
  · obtain ⟨S, ds, d, hS, hd, ⟨o, rfl, hz, hin, rfl⟩, q⟩ := h
    obtain ⟨_, _, rfl, h1, hd⟩ := hd.consE
    cases hd.nilE
    obtain ⟨a, xs, rfl, na, hx, hA⟩ := h1.lstE
    have hlx := hA.len
    rw [List.length_map] at hlx
    refine ⟨_, (pss_cons (ps_if (PW.pt (pw_or (pt_cmpR op_gt (pe_callB (clLen (K := K) rfl) (by rfl) T.z_len (by decide +kernel) (pa_cons (pv 0) pa_nil)) (pe_gv (by rfl) T.g_MOST_CONTOURS) (nomark _)) (pw_or1 (pt_cmpR op_gt (pe_h h_count_points (hr.mono (by decide)) (pa_cons (pv 0) pa_nil)) (pe_gv (by rfl) T.g_MOST_POINTS) (nomark _)))))
        (pss_one (ps_ret pe_bl))
        pss_nil)
      (pss_cons (ps_for PassesOwn.never rfl (piL (K := K) rfl (pv 0)) (pg_name (i := 1) sc_is_proper.nd rfl (.inl rfl))
        (pss_cons (ps_if (pt_cmpR op_lt (pe_callB (clLen (K := K) rfl) (by rfl) T.z_len (by decide +kernel) (pa_cons (pv 1) pa_nil)) (pe_gv (by rfl) T.g_LEAST_OF_CONTOUR) (nomark _))
        (pss_one (ps_ret pe_bl))
        pss_nil)
      (pss_one (ps_for PassesOwn.never rfl (piL (K := K) rfl (pv 1)) (pgT (n := 3) (K := K) rfl (by rfl) (pgs_cons (pg_name (i := 2) sc_is_proper.nd rfl (.inl rfl)) (pgs_cons (pg_name (i := 3) sc_is_proper.nd rfl (.inl rfl)) (pgs_cons (pg_name (i := 4) sc_is_proper.nd rfl (.inl rfl)) pgs_nil))))
        (pss_one (ps_if (PW.pt (pw_or (pt_cmpR op_gt (pe_callB call_abs' (by rfl) T.z_abs (by decide +kernel) (pa_cons (pv 2) pa_nil)) (pe_gv (by rfl) T.g_FARTHEST) (nomark _)) (pw_or1 (pt_cmpR op_gt (pe_callB call_abs' (by rfl) T.z_abs (by decide +kernel) (pa_cons (pv 3) pa_nil)) (pe_gv (by rfl) T.g_FARTHEST) (nomark _)))))
        (pss_one (ps_ret pe_bl))
        pss_nil))))))
      (pss_one (ps_ret pe_bl)))), ?_⟩
    walk_at "fl.w"
    refine g_ite (fun hm => ?_) (fun hm => ?_)
    · walk_at "fl.w"
      rw [prp_many (by omega)] at q
      exact q _ _ (L2.Same.refl _) (.bl _)
    · walk_at "fl.w"
      refine spD_app S [ouD o] (.int (cnt o)) hS (.cons h1 .nil) ⟨o, rfl, hz, rfl⟩ (fun v H1 sm hv => ?_)
      cases hv.intE
      have hx1 := sm _ _ hx
      have hA1 := hA.same sm
      walk_at "fl.w"
      refine g_ite (fun hm2 => ?_) (fun hm2 => ?_)
      · walk_at "fl.w"
        rw [prp_cnt (by omega)] at q
        exact q _ _ sm (.bl _)
      · walk_at "fl.w"
        refine forK_l (xs := xs) (fun i σ' H' => (∃ u1 u2 u3 u4, σ' = [some (.ref a), u1, u2, u3, u4]) ∧ H' = H1 ∧ ∀ c, c ∈ o.take i → okC c = true) ⟨⟨_, _, _, _, rfl⟩, rfl, fun _ m => nomatch m⟩ ?_ ?_ ?_
        · intro i σ' H' _ ⟨_, e, _⟩
          subst e
          exact SqL.of hx1
        · intro i x σ' H' hxi ⟨⟨u1, u2, u3, u4, e⟩, e2, hall⟩
          subst e e2
          obtain ⟨c, hc, dc⟩ := hA1.getM hxi
          obtain ⟨b, ys, rfl, nb, hb, hB⟩ := dc.lstE
          have hlb := hB.len
          rw [List.length_map] at hlb
          have mc := List.mem_of_getElem? hc
          walk_at "fl.w"
          refine g_ite (fun hm3 => ?_) (fun hm3 => ?_)
          · walk_at "fl.w"
            rw [prp_c mc (okC_few (by omega))] at q
            exact q _ _ sm (.bl _)
          · walk_at "fl.w"
            refine forK_l (xs := ys) (fun j σ' Hq => (∃ v2 v3 v4, σ' = [some (.ref a), some (.ref b), v2, v3, v4]) ∧ Hq = H' ∧ ∀ p, p ∈ c.take j → okP p = true) ⟨⟨_, _, _, rfl⟩, rfl, fun _ m => nomatch m⟩ ?_ ?_ ?_
            · intro j σ' Hq _ ⟨_, e, _⟩
              subst e
              exact SqL.of hb
            · intro j y σ' Hq hyj ⟨⟨v2, v3, v4, e⟩, e2, hallp⟩
              subst e e2
              obtain ⟨p, hp, dp⟩ := hB.getM hyj
              obtain ⟨a1, rfl, na1, hx1⟩ := ptE dp
              have mp := List.mem_of_getElem? hp
              walk_at "fl.w"
              refine g_ite (fun hm4 => ?_) (fun hm4 => ?_)
              · walk_at "fl.w"
                rw [prp_c mc (okC_p mp (okP_f (by split at hm4 <;> omega)))] at q
                exact q _ _ sm (.bl _)
              · walk_at "fl.w"
                refine g_ite (fun hm5 => ?_) (fun hm5 => ?_)
                · walk_at "fl.w"
                  rw [prp_c mc (okC_p mp (okP_f (by split at hm5 <;> omega)))] at q
                  exact q _ _ sm (.bl _)
                · walk_at "fl.w"
                  exact ⟨⟨_, _, _, rfl⟩, rfl, take_mem hp hallp (okP_t (by split at hm4 <;> split at hm5 <;> omega))⟩
            · intro σ' Hq ⟨⟨v2, v3, v4, e⟩, e2, hallp⟩
              subst e e2
              walk_at "fl.w"
              rw [List.take_of_length_le (by omega)] at hallp
              exact ⟨⟨_, _, _, _, rfl⟩, rfl, take_mem hc hall (okC_true (by omega) hallp)⟩
        · intro σ' H' ⟨⟨u1, u2, u3, u4, e⟩, e2, hall⟩
          subst e e2
          walk_at "fl.w"
          rw [List.take_of_length_le (by omega)] at hall
          rw [prp_true (by omega) (by omega) hall] at q
          exact q _ _ sm (.bl _)
end
section
variable {P : Program} {w : World} {K : PySem.W.Frag} {mg : Str → Option Value} {base : Heap}
local macro_rules | `(tactic| walk_at "fl.t") => `(tactic| (with_reducible refine g_chainW ?_))
local macro_rules | `(tactic| walk_at "fl.t") => `(tactic| (with_reducible refine g_ifE ?_))
local macro_rules | `(tactic| walk_at "fl.w") => `(tactic| repeat walk_at "fl.t")
def fCrd (ds : List PyData) (d : PyData) : Prop := ∃ n, ds = [.int n] ∧ Crd n ∧ d = .bool true
theorem ok_is_coordinate (T : Txt K mg) : Has P w K mg base 1 "is_coordinate" ps_is_coordinate (spD fCrd) := by
  refine has_of T.d_is_coordinate sc_is_coordinate bd_is_coordinate (fun vs H Q E h => ?_) (fun f cdv A outer s H vs Q E hr h => ?_)
  · obtain ⟨S, ds, d, _, hd, ⟨n, rfl, _⟩, _⟩ := h
    rw [hd.len]; rfl
  · obtain ⟨S, ds, d, hS, hd, ⟨n, rfl, ⟨n0, n1⟩, rfl⟩, q⟩ := h
    obtain ⟨v1, _, rfl, h1, hd⟩ := hd.consE
    cases hd.nilE
    cases h1.intE
    refine ⟨_, (pss_one (ps_ret (pe_chain op_le op_le (pe_un un_neg (pe_gv (by rfl) T.g_FARTHEST)) (pv 0) (pe_gv (by rfl) T.g_FARTHEST)))), ?_⟩
    walk_at "fl.w"
    refine g_yesB n0 ?_
    walk_at "fl.w"
    rw [decide_eq_true n1]
    exact q _ _ (L2.Same.refl _) (.bl _)
def fIp (c : Cs) (ds : List PyData) (d : PyData) : Prop := ∃ (f : FoR) (p : Int × Int × Int), ds = [foD c f, .tuple (i3 p)] ∧ 0 ≤ p.1 ∧ p.1 < f.glyphs.length ∧ Crd p.2.1 ∧ Crd p.2.2 ∧ d = .bool true
theorem ok_is_part (T : Txt K mg) : Has P w K mg base 2 "is_part" ps_is_part (spD (fIp (cs mg))) := by
  obtain ⟨_, _, _, _, _, _, _, _, _, _, _, _, _, _, cF⟩ := T.c_Font
  have clF := cF.cl
  have naF := cF.na
  have h_is_coordinate := ok_is_coordinate (P := P) (w := w) (base := base) T
  refine has_of T.d_is_part sc_is_part bd_is_part (fun vs H Q E h => ?_) (fun f cdv A outer s H vs Q E hr h => ?_)
  · obtain ⟨S, ds, d, _, hd, ⟨fo, p, rfl, _⟩, _⟩ := h
    rw [hd.len]; rfl
  · obtain ⟨S, ds, d, hS, hd, ⟨fo, p, rfl, p0, p1, px, py, rfl⟩, q⟩ := h
    obtain ⟨v1, _, rfl, h1, hd⟩ := hd.consE
    obtain ⟨v2, _, rfl, h2, hd⟩ := hd.consE
    cases hd.nilE
    obtain ⟨a, dx, w1, w2, w3, w4, w5, w6, w7, w8, w9, rfl, na, hA, k1, k2, k3, k4, k5, k6, k7, k8, k9⟩ := foE h1
    obtain ⟨b, gs, rfl, hb, hbl, _⟩ := lstN k2
    obtain ⟨t, ts, rfl, nt, ht, hT⟩ := h2.tupE
    obtain ⟨_, _, rfl, x1, hT⟩ := hT.consE
    obtain ⟨_, _, rfl, x2, hT⟩ := hT.consE
    obtain ⟨_, _, rfl, x3, hT⟩ := hT.consE
    cases hT.nilE
    cases x1.intE
    cases x2.intE
    cases x3.intE
    refine ⟨_, (pss_cons (ps_asg (pv 1) (pgT (n := 3) (K := K) rfl (by rfl) (pgs_cons (pg_name (i := 2) sc_is_part.nd rfl (.inl rfl)) (pgs_cons (pg_name (i := 3) sc_is_part.nd rfl (.inl rfl)) (pgs_cons (pg_name (i := 4) sc_is_part.nd rfl (.inl rfl)) pgs_nil)))))
      (pss_one (ps_ret (pe_and (pe_chain op_le op_lt pe_int (pv 2) (pe_callB (clLen (K := K) rfl) (by rfl) T.z_len (by decide +kernel) (pa_cons (peFld (K := K) rfl (pv 0) rfl) pa_nil))) (pe_and (pe_h h_is_coordinate (hr.mono (by decide)) (pa_cons (pv 3) pa_nil)) (pe_one (pe_h h_is_coordinate (hr.mono (by decide)) (pa_cons (pv 4) pa_nil)))))))), ?_⟩
    walk_at "fl.w"
    refine g_yesB p0 ?_
    walk_at "fl.w"
    refine g_yesB (show p.1 < (gs.length : Int) by omega) ?_
    walk_at "fl.w"
    refine spD_app S [.int p.2.1] (.bool true) hS (.cons (.int _) .nil) ⟨_, rfl, px, rfl⟩ (fun v H2 sm2 hv => ?_)
    cases hv.blE
    walk_at "fl.w"
    exact spD_app S [.int p.2.2] (.bool true) (hS.same sm2) (.cons (.int _) .nil) ⟨_, rfl, py, rfl⟩ (fun v H3 sm3 hv => q _ _ (sm2.trans sm3) hv)
def fIa (ds : List PyData) (d : PyData) : Prop := ∃ a : Str × Int × Int × Int, ds = [.tuple (s3i a)] ∧ a.1 ∈ (["base", "mark", "entry", "exit"] : List Str) ∧ 0 ≤ a.2.1 ∧ a.2.1 ≤ 9 ∧ Crd a.2.2.1 ∧ Crd a.2.2.2 ∧ d = .bool true
theorem ok_is_anchor (T : Txt K mg) : Has P w K mg base 2 "is_anchor" ps_is_anchor (spD fIa) := by
  have h_is_coordinate := ok_is_coordinate (P := P) (w := w) (base := base) T
  refine has_of T.d_is_anchor sc_is_anchor bd_is_anchor (fun vs H Q E h => ?_) (fun f cdv A outer s H vs Q E hr h => ?_)
  · obtain ⟨S, ds, d, _, hd, ⟨p, rfl, _⟩, _⟩ := h
    rw [hd.len]; rfl
  · obtain ⟨S, ds, d, hS, hd, ⟨p, rfl, hk, p0, p1, px, py, rfl⟩, q⟩ := h
    obtain ⟨v2, _, rfl, h2, hd⟩ := hd.consE
    cases hd.nilE
    obtain ⟨t, ts, rfl, nt, ht, hT⟩ := h2.tupE
    obtain ⟨_, _, rfl, x1, hT⟩ := hT.consE
    obtain ⟨_, _, rfl, x2, hT⟩ := hT.consE
    obtain ⟨_, _, rfl, x3, hT⟩ := hT.consE
    obtain ⟨_, _, rfl, x4, hT⟩ := hT.consE
    cases hT.nilE
    cases x1
    cases x2.intE
    cases x3.intE
    cases x4.intE
    have hgs := T.gs_ANCHOR_KINDS H
    refine ⟨_, (pss_cons (ps_asg (pv 0) (pgT (n := 4) (K := K) rfl (by rfl) (pgs_cons (pg_name (i := 1) sc_is_anchor.nd rfl (.inl rfl)) (pgs_cons (pg_name (i := 2) sc_is_anchor.nd rfl (.inl rfl)) (pgs_cons (pg_name (i := 3) sc_is_anchor.nd rfl (.inl rfl)) (pgs_cons (pg_name (i := 4) sc_is_anchor.nd rfl (.inl rfl)) pgs_nil))))))
      (pss_one (ps_ret (pe_and (pe_cmpR (opIn (K := K) rfl) (pv 1) (pe_glob (by rfl) T.gt_ANCHOR_KINDS (v := .ref (adr mg "ANCHOR_KINDS")) rfl) (by rfl)) (pe_and (pe_chain op_le op_le pe_int (pv 2) pe_int) (pe_and (pe_h h_is_coordinate (hr.mono (by decide)) (pa_cons (pv 3) pa_nil)) (pe_one (pe_h h_is_coordinate (hr.mono (by decide)) (pa_cons (pv 4) pa_nil))))))))), ?_⟩
    walk_at "fl.w"
    refine g_inT (b := true) hgs rfl rfl ?_ ?_
    · simp only [List.mem_cons, List.not_mem_nil, or_false] at hk
      rcases hk with e | e | e | e <;> (rw [e]; rfl)
    walk_at "fl.w"
    refine g_yesB p0 ?_
    walk_at "fl.w"
    refine g_yesB p1 ?_
    walk_at "fl.w"
    refine spD_app S [.int p.2.2.1] (.bool true) hS (.cons (.int _) .nil) ⟨_, rfl, px, rfl⟩ (fun v H2 sm2 hv => ?_)
    cases hv.blE
    walk_at "fl.w"
    exact spD_app S [.int p.2.2.2] (.bool true) (hS.same sm2) (.cons (.int _) .nil) ⟨_, rfl, py, rfl⟩ (fun v H3 sm3 hv => q _ _ (sm2.trans sm3) hv)
def fId (c : Cs) (ds : List PyData) (d : PyData) : Prop := ∃ (f : FoR) (g : GlG) (p : Int × Int × Int × Int), ds = [foD c f, glD c g.R, .tuple (i4 p)] ∧ g.outl.length ≤ 40 ∧ 0 ≤ p.1 ∧ p.1 < f.regions.length ∧ -1 ≤ p.2.1 ∧ p.2.1 < cnt g.outl ∧ Crd p.2.2.1 ∧ Crd p.2.2.2 ∧ d = .bool true
theorem ok_is_delta (T : Txt K mg) : Has P w K mg base 2 "is_delta" ps_is_delta (spD (fId (cs mg))) := by
  obtain ⟨_, _, _, _, _, _, _, _, _, _, _, _, _, _, cF⟩ := T.c_Font
  have clF := cF.cl
  have naF := cF.na
  obtain ⟨_, _, _, _, _, _, _, _, cG⟩ := T.c_Glyph
  have clG := cG.cl
  have naG := cG.na
  have h_is_coordinate := ok_is_coordinate (P := P) (w := w) (base := base) T
  have h_count_points := ok_count_points (P := P) (w := w) (base := base) T
  refine has_of T.d_is_delta sc_is_delta bd_is_delta (fun vs H Q E h => ?_) (fun f cdv A outer s H vs Q E hr h => ?_)
  · obtain ⟨S, ds, d, _, hd, ⟨fo, g, p, rfl, _⟩, _⟩ := h
    rw [hd.len]; rfl
  · obtain ⟨S, ds, d, hS, hd, ⟨fo, g, p, rfl, hoz, p0, p1, c0, c1, px, py, rfl⟩, q⟩ := h
    obtain ⟨v1, _, rfl, h1, hd⟩ := hd.consE
    obtain ⟨v3, _, rfl, h3, hd⟩ := hd.consE
    obtain ⟨v2, _, rfl, h2, hd⟩ := hd.consE
    cases hd.nilE
    obtain ⟨a, dx, w1, w2, w3, w4, w5, w6, w7, w8, w9, rfl, na, hA, k1, k2, k3, k4, k5, k6, k7, k8, k9⟩ := foE h1
    obtain ⟨b, gs, rfl, hb, hbl, _⟩ := lstN (f := ltD) (L := fo.regions) k7
    obtain ⟨ga, gdx, u1, u2, u3, u4, u5, u6, u7, rfl, gna, gA, m1, m2, m3, m4, m5, m6, m7⟩ := glE h3
    have m2' : Dq S H u2 (ouD g.outl) := ouD3_pt g.outl ▸ m2
    obtain ⟨t, ts, rfl, nt, ht, hT⟩ := h2.tupE
    obtain ⟨_, _, rfl, x1, hT⟩ := hT.consE
    obtain ⟨_, _, rfl, x2, hT⟩ := hT.consE
    obtain ⟨_, _, rfl, x3, hT⟩ := hT.consE
    obtain ⟨_, _, rfl, x4, hT⟩ := hT.consE
    cases hT.nilE
    cases x1.intE
    cases x2.intE
    cases x3.intE
    cases x4.intE
    refine ⟨_, (pss_cons (ps_asg (pv 2) (pgT (n := 4) (K := K) rfl (by rfl) (pgs_cons (pg_name (i := 3) sc_is_delta.nd rfl (.inl rfl)) (pgs_cons (pg_name (i := 4) sc_is_delta.nd rfl (.inl rfl)) (pgs_cons (pg_name (i := 5) sc_is_delta.nd rfl (.inl rfl)) (pgs_cons (pg_name (i := 6) sc_is_delta.nd rfl (.inl rfl)) pgs_nil))))))
      (pss_cons (ps_if (PW.pt (pw_or (pt_not (pt_chain op_le op_lt pe_int (pv 3) (pe_callB (clLen (K := K) rfl) (by rfl) T.z_len (by decide +kernel) (pa_cons (peFld (K := K) rfl (pv 0) rfl) pa_nil)))) (pw_or1 (pt_not (pt_chain op_le op_lt (pe_un un_neg pe_int) (pv 4) (pe_h h_count_points (hr.mono (by decide)) (pa_cons (peFld (K := K) rfl (pv 1) rfl) pa_nil)))))))
        (pss_one (ps_ret pe_bl))
        pss_nil)
      (pss_one (ps_ret (pe_and (pe_h h_is_coordinate (hr.mono (by decide)) (pa_cons (pv 5) pa_nil)) (pe_one (pe_h h_is_coordinate (hr.mono (by decide)) (pa_cons (pv 6) pa_nil)))))))), ?_⟩
    walk_at "fl.w"
    refine g_yesB p0 ?_
    walk_at "fl.w"
    refine g_nB (show p.1 < (gs.length : Int) by omega) ?_
    walk_at "fl.w"
    refine g_yesB c0 ?_
    walk_at "fl.w"
    refine spD_app S [ouD g.outl] (.int (cnt g.outl)) hS (.cons m2' .nil) ⟨_, rfl, by omega, rfl⟩ (fun v H1 sm1 hv => ?_)
    cases hv.intE
    walk_at "fl.w"
    refine g_nB c1 ?_
    walk_at "fl.w"
    refine spD_app S [.int p.2.2.1] (.bool true) (hS.same sm1) (.cons (.int _) .nil) ⟨_, rfl, px, rfl⟩ (fun v H2 sm2 hv => ?_)
    cases hv.blE
    walk_at "fl.w"
    exact spD_app S [.int p.2.2.2] (.bool true) ((hS.same sm1).same sm2) (.cons (.int _) .nil) ⟨_, rfl, py, rfl⟩ (fun v H3 sm3 hv => q _ _ ((sm1.trans sm2).trans sm3) hv)
def fIi (ds : List PyData) (d : PyData) : Prop := ∃ h : Str × Int, ds = [.tuple (s1i h)] ∧ InsV h ∧ d = .bool true
theorem g_kin' {K : PySem.W.Frag} {d : Addr} {H : Hp} {Q : VK} {z : Str} {r : Option Value} (h : PySem.W.nsIn K d z = some r) (q : Q (.bl r.isSome) H) : (fun x y H Q => ∃ (z : Str) (r : Option Value), x = .str z ∧ y = .ref d ∧ PySem.W.nsIn K d z = some r ∧ Q (.bl r.isSome) H : R2) (.str z) (.ref d) H Q := ⟨z, r, rfl, rfl, h, q⟩
theorem ok_is_instruction (T : Txt K mg) (I : WoK K w mg) : Has P w K mg base 1 "is_instruction" ps_is_instruction (spD fIi) := by
  have gd_WORDS := I.gW
  obtain ⟨esW, nW, kd_WORDS⟩ := I.kW
  refine has_of T.d_is_instruction sc_is_instruction bd_is_instruction (fun vs H Q E h => ?_) (fun f cdv A outer s H vs Q E hr h => ?_)
  · obtain ⟨S, ds, d, _, hd, ⟨p, rfl, _⟩, _⟩ := h
    rw [hd.len]; rfl
  · obtain ⟨S, ds, d, hS, hd, ⟨p, rfl, ⟨hw, hl, p0, p1⟩, rfl⟩, q⟩ := h
    obtain ⟨v2, _, rfl, h2, hd⟩ := hd.consE
    cases hd.nilE
    obtain ⟨t, ts, rfl, nt, ht, hT⟩ := h2.tupE
    obtain ⟨_, _, rfl, x1, hT⟩ := hT.consE
    obtain ⟨_, _, rfl, x2, hT⟩ := hT.consE
    cases hT.nilE
    cases x1
    cases x2.intE
    obtain ⟨rW, nW1, cW⟩ := I.fW p.1 hw
    have cW := cW _ rfl
    refine ⟨_, (pss_one (ps_ret (pe_and (pe_cmpR (op_in_kd kd_WORDS) (pe_ix (ixT (K := K) rfl) (pv 0) pe_int (fun _ _ => rfl)) (pe_glob (by rfl) gd_WORDS (v := .ref (adr mg "WORDS")) rfl) (by rfl)) (pe_one (pe_chain op_le op_le (pe_gv (by rfl) T.g_LEAST_NUMBER) (pe_ix (ixT (K := K) rfl) (pv 0) pe_int (fun _ _ => rfl)) (pe_gv (by rfl) T.g_GREATEST_NUMBER)))))), ?_⟩
    walk_at "fl.w"
    cases hk : tabW.lookup p.1 with
    | none => exact absurd hk hl
    | some ks =>
      rw [hk] at cW
      obtain ⟨tt, rfl, _⟩ := cW
      refine ⟨p.1, _, rfl, rfl, nW1, ?_⟩
      walk_at "fl.w"
      rw [if_pos (show (some (Value.ref tt)).isSome = true from rfl)]
      walk_at "fl.w"
      refine g_yesB p0 ?_
      walk_at "fl.w"
      rw [decide_eq_true p1]
      exact q _ _ (L2.Same.refl _) (.bl _)
end

section
variable {P : Program} {w : World} {K : PySem.W.Frag} {mg : Str → Option Value} {base : Heap}
local macro_rules | `(tactic| walk_at "fl.t") => `(tactic| (with_reducible refine g_chainW ?_))
local macro_rules | `(tactic| walk_at "fl.t") => `(tactic| (with_reducible refine g_ifE ?_))
local macro_rules | `(tactic| walk_at "fl.w") => `(tactic| repeat walk_at "fl.t")
def fGrG (c : Cs) (ds : List PyData) (d : PyData) : Prop := ∃ (f : FoR) (g : GlG), ds = [foD c f, glD c g.R] ∧ g.Ok f.glyphs.length f.regions.length ∧ d = .none
theorem ok_glyph_reason (T : Txt K mg) (I : WoK K w mg) : Has P w K mg base 3 "glyph_reason" ps_glyph_reason (spD (fGrG (cs mg))) := by
  obtain ⟨_, _, _, _, _, _, _, _, cG⟩ := T.c_Glyph
  have clG := cG.cl
  have naG := cG.na
  have h_is_proper := ok_is_proper (P := P) (w := w) (base := base) T
  have h_is_part := ok_is_part (P := P) (w := w) (base := base) T
  have h_is_anchor := ok_is_anchor (P := P) (w := w) (base := base) T
  have h_is_delta := ok_is_delta (P := P) (w := w) (base := base) T
  have h_is_instruction := ok_is_instruction (P := P) (w := w) (base := base) T I
  refine has_of T.d_glyph_reason sc_glyph_reason bd_glyph_reason (fun vs H Q E h => ?_) (fun f cdv A outer s H vs Q E hr h => ?_)
  · obtain ⟨S, ds, d, _, hd, ⟨fo, g, rfl, _⟩, _⟩ := h
    rw [hd.len]
    rfl
  · obtain ⟨S, ds, d, hS, hd, ⟨fo, g, rfl, ok, rfl⟩, q⟩ := h
    obtain ⟨v1, _, rfl, h1, hd⟩ := hd.consE
    obtain ⟨v2, _, rfl, h2, hd⟩ := hd.consE
    cases hd.nilE
    have h2' := h2
    obtain ⟨a, dx, u1, u2, u3, u4, u5, u6, u7, rfl, na, hA, k1, k2, k3, k4, k5, k6, k7⟩ := glE h2'
    have k1 : Dq S H u1 (.int g.adv) := k1
    cases k1
    have k2 : Dq S H u2 (ouD g.outl) := ouD3_pt g.outl ▸ k2
    have k3 : Dq S H u3 (.list (g.parts.map fun p => .tuple (i3 p))) := ltD_map i3 g.parts ▸ k3
    have k4 : Dq S H u4 (.list (g.anch.map fun p => .tuple (s3i p))) := ltD_map s3i g.anch ▸ k4
    have k6 : Dq S H u6 (.list (g.deltas.map fun p => .tuple (i4 p))) := ltD_map i4 g.deltas ▸ k6
    have k7 : Dq S H u7 (.list (g.hint.map fun p => .tuple (s1i p))) := ltD_map s1i g.hint ▸ k7
    obtain ⟨b3, _, rfl, _, hb3, _⟩ := k3.lstE
    obtain ⟨b4, _, rfl, _, hb4, _⟩ := k4.lstE
    obtain ⟨b6, _, rfl, _, hb6, _⟩ := k6.lstE
    obtain ⟨b7, _, rfl, _, hb7, _⟩ := k7.lstE
    refine ⟨_, (pss_cons (ps_if (pt_not (pt_chain op_le op_le pe_int (peFld (K := K) rfl (pv 1) rfl) (pe_gv (by rfl) T.g_FARTHEST)))
        pss_never
        pss_nil)
      (pss_cons (ps_if (pt_not (pt_val (pe_h h_is_proper (hr.mono (by decide)) (pa_cons (peFld (K := K) rfl (pv 1) rfl) pa_nil))))
        pss_never
        pss_nil)
      (pss_cons (ps_if (pt_not (pt_val (pe_callB (clAll (K := K) rfl rfl) (by rfl) T.z_all (by decide +kernel) (pa_cons (pe_lc (own := [("part", 2)]) rfl sc_glyph_reason.nd (piL (K := K) rfl (peFld (K := K) rfl (pv 1) rfl)) (blkOk_by (by kernel_rfl)) (fun _ _ _ _ _ => (pg_name (i := 2) sc_glyph_reason.nd rfl (.inl rfl))) (fun _ _ _ _ _ => pts_nil) (fun _ _ _ _ _ => (pe_h h_is_part (hr.mono (by decide)) (pa_cons (pv 0) (pa_cons (pv 2) pa_nil))))) pa_nil))))
        pss_never
        pss_nil)
      (pss_cons (ps_if (pt_not (pt_val (pe_callB (clAll (K := K) rfl rfl) (by rfl) T.z_all (by decide +kernel) (pa_cons (pe_lc (own := [("anchor", 3)]) rfl sc_glyph_reason.nd (piL (K := K) rfl (peFld (K := K) rfl (pv 1) rfl)) (blkOk_by (by kernel_rfl)) (fun _ _ _ _ _ => (pg_name (i := 3) sc_glyph_reason.nd rfl (.inl rfl))) (fun _ _ _ _ _ => pts_nil) (fun _ _ _ _ _ => (pe_h h_is_anchor (hr.mono (by decide)) (pa_cons (pv 3) pa_nil)))) pa_nil))))
        pss_never
        pss_nil)
      (pss_cons (ps_if (pt_not (pt_val (pe_callB (clAll (K := K) rfl rfl) (by rfl) T.z_all (by decide +kernel) (pa_cons (pe_lc (own := [("delta", 4)]) rfl sc_glyph_reason.nd (piL (K := K) rfl (peFld (K := K) rfl (pv 1) rfl)) (blkOk_by (by kernel_rfl)) (fun _ _ _ _ _ => (pg_name (i := 4) sc_glyph_reason.nd rfl (.inl rfl))) (fun _ _ _ _ _ => pts_nil) (fun _ _ _ _ _ => (pe_h h_is_delta (hr.mono (by decide)) (pa_cons (pv 0) (pa_cons (pv 1) (pa_cons (pv 4) pa_nil)))))) pa_nil))))
        pss_never
        pss_nil)
      (pss_cons (ps_if (pt_not (pt_val (pe_callB (clAll (K := K) rfl rfl) (by rfl) T.z_all (by decide +kernel) (pa_cons (pe_lc (own := [("step", 5)]) rfl sc_glyph_reason.nd (piL (K := K) rfl (peFld (K := K) rfl (pv 1) rfl)) (blkOk_by (by kernel_rfl)) (fun _ _ _ _ _ => (pg_name (i := 5) sc_glyph_reason.nd rfl (.inl rfl))) (fun _ _ _ _ _ => pts_nil) (fun _ _ _ _ _ => (pe_h h_is_instruction (hr.mono (by decide)) (pa_cons (pv 5) pa_nil)))) pa_nil))))
        pss_never
        pss_nil)
      (pss_one (ps_ret pe_non)))))))), ?_⟩
    walk_at "fl.w"
    refine g_yesB ok.av.1 ?_
    walk_at "fl.w"
    refine g_nB ok.av.2 ?_
    walk_at "fl.w"
    refine spD_app S [ouD g.outl] (.bool true) hS (.cons k2 .nil) ⟨g.outl, rfl, by have := ok.oz.1; omega, fun c m => by have := ok.oz.2 c m; omega, by rw [ok.ou]⟩ (fun v H2 sm2 hv => ?_)
    cases hv.blE
    have hA2 := sm2 _ _ hA
    have hb3' := sm2 _ _ hb3
    walk_at "fl.w"
    refine lcL (S := S) (fun i => (g.parts[i]?).map fun _ => .bool true) (hS.same sm2) (k3.same sm2) (by rw [List.length_map]; have := ok.pt.1; omega) ?_ ?_
    · intro D i x e G hD he sm al hxe R N hR hN
      obtain ⟨p, hp, rfl⟩ := at_map he
      obtain ⟨p0, p1, px, py⟩ := ok.pt.2 p (List.mem_of_getElem? hp)
      refine g_name ⟨rfl, ?_⟩
      walk_at "fl.w"
      exact spD_app (D :: S) [foD (cs mg) fo, .tuple (i3 p)] (.bool true) al (.cons (((h1.same sm2).new hD).same sm) (.cons hxe .nil)) ⟨fo, p, rfl, p0, p1, px, py, rfl⟩ (fun v H3 sm3 hv => hR _ _ _ (by rw [hp]; rfl) sm3 hv)
    intro D3 H3 sm3 hD3 hq3
    rw [fm_ltA (by rw [List.length_map])] at hq3
    refine allYes hq3 ?_
    have sm3 := sm2.trans sm3
    have hA3 := sm3 _ _ hA
    have hb4' := sm3 _ _ hb4
    walk_at "fl.w"
    refine lcL (S := S) (fun i => (g.anch[i]?).map fun _ => .bool true) (hS.same sm3) (k4.same sm3) (by rw [List.length_map]; have := ok.an.1; omega) ?_ ?_
    · intro D i x e G hD he sm al hxe R N hR hN
      obtain ⟨p, hp, rfl⟩ := at_map he
      obtain ⟨p0, p1, p2, px, py⟩ := ok.an.2 p (List.mem_of_getElem? hp)
      refine g_name ⟨rfl, ?_⟩
      walk_at "fl.w"
      exact spD_app (D :: S) [.tuple (s3i p)] (.bool true) al (.cons hxe .nil) ⟨p, rfl, p0, p1, p2, px, py, rfl⟩ (fun v H3 sm3 hv => hR _ _ _ (by rw [hp]; rfl) sm3 hv)
    intro D4 H4 sm4 hD4 hq4
    rw [fm_ltA (by rw [List.length_map])] at hq4
    refine allYes hq4 ?_
    have sm4 := sm3.trans sm4
    have hA4 := sm4 _ _ hA
    have hb6' := sm4 _ _ hb6
    walk_at "fl.w"
    refine lcL (S := S) (fun i => (g.deltas[i]?).map fun _ => .bool true) (hS.same sm4) (k6.same sm4) (by rw [List.length_map]; have := ok.de.1; omega) ?_ ?_
    · intro D i x e G hD he sm al hxe R N hR hN
      obtain ⟨p, hp, rfl⟩ := at_map he
      obtain ⟨p0, p1, p2, p3, px, py⟩ := ok.de.2 p (List.mem_of_getElem? hp)
      refine g_name ⟨rfl, ?_⟩
      walk_at "fl.w"
      exact spD_app (D :: S) [foD (cs mg) fo, glD (cs mg) g.R, .tuple (i4 p)] (.bool true) al (.cons (((h1.same sm4).new hD).same sm) (.cons (((h2.same sm4).new hD).same sm) (.cons hxe .nil))) ⟨fo, g, p, rfl, ok.oz.1, p0, p1, p2, p3, px, py, rfl⟩ (fun v H3 sm3 hv => hR _ _ _ (by rw [hp]; rfl) sm3 hv)
    intro D5 H5 sm5 hD5 hq5
    rw [fm_ltA (by rw [List.length_map])] at hq5
    refine allYes hq5 ?_
    have sm5 := sm4.trans sm5
    have hA5 := sm5 _ _ hA
    have hb7' := sm5 _ _ hb7
    walk_at "fl.w"
    refine lcL (S := S) (fun i => (g.hint[i]?).map fun _ => .bool true) (hS.same sm5) (k7.same sm5) (by rw [List.length_map]; have := ok.hi.1; omega) ?_ ?_
    · intro D i x e G hD he sm al hxe R N hR hN
      obtain ⟨p, hp, rfl⟩ := at_map he
      refine g_name ⟨rfl, ?_⟩
      walk_at "fl.w"
      exact spD_app (D :: S) [.tuple (s1i p)] (.bool true) al (.cons hxe .nil) ⟨p, rfl, ok.hi.2 p (List.mem_of_getElem? hp), rfl⟩ (fun v H3 sm3 hv => hR _ _ _ (by rw [hp]; rfl) sm3 hv)
    intro D6 H6 sm6 hD6 hq6
    rw [fm_ltA (by rw [List.length_map])] at hq6
    refine allYes hq6 ?_
    have sm6 := sm5.trans sm6
    walk_at "fl.w"
    exact q _ _ sm6 .non
/-- a check that a font passes -/
def fFvG (c : Cs) (VL : FoR → LkR → Prop) (ds : List PyData) (d : PyData) : Prop := ∃ f : FoG, f.Ok VL ∧ ds = [foD c f.R] ∧ d = .none
theorem ok_first_glyph_fault (T : Txt K mg) (I : WoK K w mg) (VL : FoR → LkR → Prop) : Has P w K mg base 4 "first_glyph_fault" ps_first_glyph_fault (spD (fFvG (cs mg) VL)) := by
  obtain ⟨_, _, _, _, _, _, _, _, _, _, _, _, _, _, cF⟩ := T.c_Font
  have clF := cF.cl
  have naF := cF.na
  have h_glyph_reason := ok_glyph_reason (P := P) (w := w) (base := base) T I
  refine has_of T.d_first_glyph_fault sc_first_glyph_fault bd_first_glyph_fault (fun vs H Q E h => ?_) (fun f cdv A outer s H vs Q E hr h => ?_)
  · obtain ⟨S, ds, d, _, hd, ⟨fo, fok, rfl, rfl⟩, _⟩ := h
    rw [hd.len]
    rfl
  · obtain ⟨S, ds, d, hS, hd, ⟨fo, fok, rfl, rfl⟩, q⟩ := h
    obtain ⟨v1, _, rfl, h1, hd⟩ := hd.consE
    cases hd.nilE
    have h1' := h1
    obtain ⟨fa, fdx, w1, w2, w3, w4, w5, w6, w7, w8, w9, rfl, fna, fA, j1, j2, j3, j4, j5, j6, j7, j8, j9⟩ := foE h1'
    obtain ⟨lb, ls, rfl, hlb, hll, hlD⟩ := lstN j2
    have hlD' : DqA S H ls (fo.glyphs.map fun k => glD (cs mg) k.R) := by
      simp only [FoG.R, List.map_map] at hlD
      exact hlD
    refine ⟨_, (pss_cons (ps_for PassesOwn.never rfl (piEnum (K := K) rfl (by rfl) T.z_enumerate (pa_cons (peFld (K := K) rfl (pv 0) rfl) pa_nil)) (pgT (n := 2) (K := K) rfl (by rfl) (pgs_cons (pg_name (i := 1) sc_first_glyph_fault.nd rfl (.inl rfl)) (pgs_cons (pg_name (i := 2) sc_first_glyph_fault.nd rfl (.inl rfl)) pgs_nil)))
        (pss_cons (ps_set (i := 3) sc_first_glyph_fault.nd rfl (.inl rfl) (pe_h h_glyph_reason (hr.mono (by decide)) (pa_cons (pv 0) (pa_cons (pv 2) pa_nil))))
      (pss_one (ps_if (pt_cmpR op_notN (pv 3) pe_non (nomark _))
        pss_never
        pss_nil))))
      (pss_one (ps_ret pe_non))), ?_⟩
    walk_at "fl.w"
    refine forK_e (xs := ls) (fun i σ' H' => (∃ u1 u2 u3, σ' = [some (.ref fa), u1, u2, u3]) ∧ Same H H') ⟨⟨_, _, _, rfl⟩, L2.Same.refl _⟩ ?_ ?_ ?_
    · intro i σ' H' _ ⟨_, e⟩
      exact SqL.of (e _ _ hlb)
    · intro i x t σ' H' hxi ⟨⟨u1, u2, u3, e1⟩, sm⟩ ht
      subst e1
      obtain ⟨k, hk1, hx⟩ := (hlD'.same sm).getM hxi
      have sm2 : Same H (upd H' t (.tup [.int (i : Int), x])) := L2.Same.trans sm (Fl.Same.new ht)
      have h1s := h1.same sm2
      have hxs := hx.same (Fl.Same.new ht (o := .tup [.int (i : Int), x]))
      have hS2 := hS.same sm2
      have hgk := fok.go k (List.mem_of_getElem? hk1)
      have hgk' : k.Ok fo.R.glyphs.length fo.R.regions.length := by
        show k.Ok (fo.glyphs.map GlG.R).length (fo.regs.map fun r => r.map i3).length
        rw [List.length_map, List.length_map]
        exact hgk
      refine g_gtup (SqT.of upd_same) rfl ?_
      walk_at "fl.w"
      refine spD_app S [foD (cs mg) fo.R, glD (cs mg) k.R] .none hS2 (.cons h1s (.cons hxs .nil)) ⟨_, k, rfl, hgk', rfl⟩ (fun v H3 sm3 hv => ?_)
      cases hv.nonE
      walk_at "fl.w"
      exact ⟨⟨_, _, _, rfl⟩, sm2.trans sm3⟩
    · intro σ' H' ⟨⟨u1, u2, u3, e1⟩, sm⟩
      subst e1
      walk_at "fl.w"
      exact q _ _ sm .non
end

section
variable {P : Program} {w : World} {K : PySem.W.Frag} {mg : Str → Option Value} {base : Heap}
local macro_rules | `(tactic| walk_at "fl.t") => `(tactic| (with_reducible refine g_chainW ?_))
local macro_rules | `(tactic| walk_at "fl.t") => `(tactic| (with_reducible refine g_ifE ?_))
local macro_rules | `(tactic| walk_at "fl.w") => `(tactic| repeat walk_at "fl.t")
/-- a dict of numbers: keys and values -/
def kvL (L : List (Nat × Int)) : List (Key × V) := L.map fun p => (.inl (p.1 : Int), .int p.2)
theorem kvL_len (L : List (Nat × Int)) : (kvL L).length = L.length := List.length_map _
theorem kvL_snoc (L : List (Nat × Int)) (k : Nat) (v : Int) : kvL L ++ [(.inl (k : Int), .int v)] = kvL (L ++ [(k, v)]) := by
  unfold kvL
  rw [List.map_append]
  rfl
theorem kvL_get (L : List (Nat × Int)) (k : Nat) : (valV (kvL L) (.inl (k : Int))).isSome = decide (k ∈ L.map Prod.fst) := by
  unfold valV kvL
  rw [Option.isSome_map, Bool.eq_iff_iff, List.find?_isSome, decide_eq_true_eq, List.mem_map]
  constructor
  · rintro ⟨x, hx, e⟩
    obtain ⟨p, hp, rfl⟩ := List.mem_map.mp hx
    refine ⟨p, hp, ?_⟩
    have : (p.1 : Int) = (k : Int) := by simpa using e
    omega
  · rintro ⟨p, hp, e⟩
    exact ⟨_, List.mem_map.mpr ⟨p, hp, rfl⟩, by rw [e]; simp⟩
theorem kvL_new {L : List (Nat × Int)} {k : Nat} (h : k ∉ L.map Prod.fst) : valV (kvL L) (.inl (k : Int)) = none := by
  have e := kvL_get L k
  rw [decide_eq_false h] at e
  cases hv : valV (kvL L) (.inl (k : Int)) with
  | none => rfl
  | some v => rw [hv] at e; cases e
theorem g_dyes {ty td : TE} {σ : L2.St} {H : Hp} {Q : VK} (h : ty σ H fun y H1 => td σ H1 fun x H2 => ∃ a o, x = .ref a ∧ DGet H2 a y o ∧ Q (.bl o.isSome) H2) : tDIn ty td σ H Q := h
def inKeys (L : List (Nat × Int)) (ps : List (Int × Int × Int)) : Bool := ps.all fun p => decide (p.1.toNat ∈ L.map Prod.fst)
def spHpG (c : Cs) : Sp := fun vs H Q _ => ∃ (S : List Addr) (v : V) (p : Addr) (g : GlG) (L : List (Nat × Int)), vs = [v, .ref p] ∧ Al S H ∧ p ∈ S ∧ Dq S H v (glD c g.R) ∧ H p = some (.dK (kvL L)) ∧ g.parts.length < 900 ∧ (∀ p, p ∈ g.parts → 0 ≤ p.1) ∧ ∀ H', Same H H' → Q (.bl (inKeys L g.parts)) H'
theorem ok_has_parts_in (T : Txt K mg) : Has P w K mg base 1 "has_parts_in" ps_has_parts_in (spHpG (cs mg)) := by
  obtain ⟨_, _, _, _, _, _, _, _, cG⟩ := T.c_Glyph
  have clG := cG.cl
  have naG := cG.na
  refine has_of T.d_has_parts_in sc_has_parts_in bd_has_parts_in (fun vs H Q E h => ?_) (fun f cdv A outer s H vs Q E hr h => ?_)
  · obtain ⟨S, v, y, g, L, rfl, _⟩ := h
    rfl
  · obtain ⟨S, v, pd, g, L, rfl, hS, hpS, h2, hpd, hz, h0, q⟩ := h
    obtain ⟨a, dx, u1, u2, u3, u4, u5, u6, u7, rfl, na, hA, k1, k2, k3, k4, k5, k6, k7⟩ := glE h2
    have k3 : Dq S H u3 (.list (g.parts.map fun p => .tuple (i3 p))) := ltD_map i3 g.parts ▸ k3
    obtain ⟨b3, xs, rfl, n3, hb3, hX⟩ := k3.lstE
    refine ⟨_, (pss_one (ps_ret (pe_callB (clAll (K := K) rfl rfl) (by rfl) T.z_all (by decide +kernel) (pa_cons (pe_lc (own := [("part", 2)]) rfl sc_has_parts_in.nd (piL (K := K) rfl (peFld (K := K) rfl (pv 0) rfl)) (blkOk_by (by kernel_rfl)) (fun _ _ _ _ _ => (pg_name (i := 2) sc_has_parts_in.nd rfl (.inl rfl))) (fun _ _ _ _ _ => pts_nil) (fun _ _ _ _ _ => (pe_cmp (pc_din (hu_of hr) (pe_ix (ixT (K := K) rfl) (pv 2) pe_int (fun _ _ => rfl)) (pv 1))))) pa_nil)))), ?_⟩
    walk_at "fl.w"
    refine lcL (S := S) (fun i => (g.parts[i]?).map fun p => .bool (decide (p.1.toNat ∈ L.map Prod.fst))) hS (.lst n3 hb3 hX) (by rw [List.length_map]; omega) ?_ ?_
    · intro D i x e G hD he sm al hxe R N hR hN
      obtain ⟨p, hp, rfl⟩ := at_map he
      have hp0 := h0 p (List.mem_of_getElem? hp)
      obtain ⟨t, ts, rfl, nt, ht, hT⟩ := hxe.tupE
      obtain ⟨_, _, rfl, x1, hT⟩ := hT.consE
      obtain ⟨_, _, rfl, x2, hT⟩ := hT.consE
      obtain ⟨_, _, rfl, x3, hT⟩ := hT.consE
      cases hT.nilE
      cases x1.intE
      have hpd' := sm _ _ hpd
      refine g_name ⟨rfl, ?_⟩
      walk_at "fl.w"
      refine g_dyes ?_
      walk_at "fl.w"
      have dg := DGet.k (k := .inl ((p.1.toNat : Nat) : Int)) hpd'
      rw [show ((p.1.toNat : Nat) : Int) = p.1 by omega] at dg
      refine ⟨pd, _, rfl, dg, ?_⟩
      have e1 := kvL_get L p.1.toNat
      rw [show ((p.1.toNat : Nat) : Int) = p.1 by omega] at e1
      rw [e1]
      exact hR _ _ _ (by rw [hp]; rfl) (L2.Same.refl _) (.bl _)
    · intro D G sm hD hq
      have em : (List.range (g.parts.map fun p => PyData.tuple (i3 p)).length).filterMap (fun i => (g.parts[i]?).map fun p => PyData.bool (decide (p.1.toNat ∈ L.map Prod.fst))) = (g.parts.map fun p => decide (p.1.toNat ∈ L.map Prod.fst)).map PyData.bool := by
        rw [List.length_map, fm_ltA rfl, List.map_map]
        rfl
      rw [em] at hq
      obtain ⟨_, ys, e, _, hb, hY⟩ := hq.lstE
      cases e
      have bools_of : ∀ (bs : List Bool) (ys : List V), DqA S G ys (bs.map PyData.bool) → ys = bs.map V.bl := by
        intro bs
        induction bs with
        | nil => intro ys h; cases h; rfl
        | cons b bs ih =>
          intro ys h
          rw [List.map_cons] at h
          obtain ⟨v, ws, rfl, hv, h2⟩ := h.consE
          cases hv.blE
          rw [ih ws h2]
          rfl
      rw [bools_of _ _ hY] at hb
      walk_at "fl.w"
      have e2 : ((g.parts.map fun p => decide (p.1.toNat ∈ L.map Prod.fst)).all id) = inKeys L g.parts := by
        unfold inKeys
        rw [List.all_map]
        rfl
      first
        | (rw [e2]; exact q _ sm)
        | (refine g_allL (SqL.of hb) ?_; rw [e2]; exact q _ sm)
/-- the keys that a level finds -/
def lev (gs : List GlG) (L : List (Nat × Int)) : List Nat := (List.range gs.length).filter fun k => !decide (k ∈ L.map Prod.fst) && match gs[k]? with
  | none => false
  | some g => inKeys L g.parts
/-- the keys before level i -/
def keysAt (gs : List GlG) : Nat → List (Nat × Int)
  | 0 => []
  | i + 1 => keysAt gs i ++ (lev gs (keysAt gs i)).map fun k => (k, (i : Int))
theorem keys_ok (gs : List GlG) : ∀ i, ((keysAt gs i).map Prod.fst).Nodup ∧ ∀ k, k ∈ (keysAt gs i).map Prod.fst → k < gs.length
  | 0 => ⟨List.nodup_nil, fun k m => nomatch m⟩
  | i + 1 => by
    obtain ⟨a, b⟩ := keys_ok gs i
    have e : (keysAt gs (i + 1)).map Prod.fst = (keysAt gs i).map Prod.fst ++ lev gs (keysAt gs i) := by
      show (keysAt gs i ++ (lev gs (keysAt gs i)).map fun k => (k, (i : Int))).map Prod.fst = _
      rw [List.map_append, List.map_map]
      congr 1
      exact List.map_id' _
    rw [e]
    refine ⟨List.nodup_append.mpr ⟨a, List.Nodup.sublist List.filter_sublist List.nodup_range, fun x hx y hy q => ?_⟩, fun k m => ?_⟩
    · subst q
      have := (List.mem_filter.mp hy).2
      rw [decide_eq_true hx] at this
      simp at this
    · rcases List.mem_append.mp m with m | m
      · exact b k m
      · exact List.mem_range.mp (List.mem_filter.mp m).1
theorem filt_add (p : Nat → Bool) : ∀ l : List Nat, l.length = (l.filter p).length + (l.filter fun k => !p k).length
  | [] => rfl
  | x :: l => by
    have ih := filt_add p l
    rw [List.filter_cons, List.filter_cons, List.length_cons]
    cases h : p x
    · simp
      omega
    · simp
      omega
theorem all_bound : ∀ (n : Nat) (l : List Nat), (∀ k, k < n → k ∈ l) → n ≤ l.length
  | 0, _, _ => Nat.zero_le _
  | n + 1, l, h => by
    have h2 := all_bound n (l.filter fun k => decide (k ≠ n)) (fun k hk => List.mem_filter.mpr ⟨h k (by omega), by simp; omega⟩)
    have h3 := filt_add (fun k => decide (k ≠ n)) l
    have h4 : 0 < (l.filter fun k => !decide (k ≠ n)).length := List.length_pos_of_mem (List.mem_filter.mpr ⟨h n (by omega), by simp⟩)
    omega
theorem nodup_bound : ∀ (n : Nat) (l : List Nat), l.Nodup → (∀ k, k ∈ l → k < n) → l.length ≤ n
  | 0, l, _, h => by
    cases l with
    | nil => exact Nat.le_refl _
    | cons k l => exact absurd (h k List.mem_cons_self) (Nat.not_lt_zero _)
  | n + 1, l, hd, h => by
    have h2 := nodup_bound n (l.filter fun k => decide (k ≠ n)) (List.Nodup.sublist List.filter_sublist hd) (fun k m => by
      obtain ⟨m1, m2⟩ := List.mem_filter.mp m
      have := h k m1
      simp at m2
      omega)
    have h3 := filt_add (fun k => decide (k ≠ n)) l
    have h4 : (l.filter fun k => !decide (k ≠ n)).length ≤ 1 := by
      have hn : (l.filter fun k => !decide (k ≠ n)).Nodup := List.Nodup.sublist List.filter_sublist hd
      have he : ∀ k, k ∈ (l.filter fun k => !decide (k ≠ n)) → k = n := fun k m => by
        have := (List.mem_filter.mp m).2
        simpa using this
      generalize (l.filter fun k => !decide (k ≠ n)) = m at hn he
      match m, hn, he with
      | [], _, _ => exact Nat.zero_le _
      | [_], _, _ => exact Nat.le_refl _
      | x :: y :: m, hn, he =>
        have e1 := he x List.mem_cons_self
        have e2 := he y (by simp)
        rw [e1, e2] at hn
        exact absurd hn (by simp)
    omega
theorem all_len {n : Nat} {l : List Nat} (hd : l.Nodup) (h : ∀ k, k ∈ l → k < n) (hall : ∀ k, k < n → k ∈ l) : l.length = n := by
  have h1 := nodup_bound n l hd h
  have h2 := all_bound n l hall
  omega
/-- every glyph is found: at level i all that are no deeper -/
theorem keys_all {gs : List GlG} {dep : Nat → Nat} (h : ∀ k g, gs[k]? = some g → dep k ≤ 4 ∧ ∀ p, p ∈ g.parts → dep p.1.toNat < dep k) (hp : ∀ (k : Nat) (g : GlG), gs[k]? = some g → ∀ p, p ∈ g.parts → p.1.toNat < gs.length) : ∀ i k, k < gs.length → dep k < i → k ∈ (keysAt gs i).map Prod.fst
  | 0, k, _, hd => absurd hd (Nat.not_lt_zero _)
  | i + 1, k, hk, hd => by
    have e : (keysAt gs (i + 1)).map Prod.fst = (keysAt gs i).map Prod.fst ++ lev gs (keysAt gs i) := by
      show (keysAt gs i ++ (lev gs (keysAt gs i)).map fun k => (k, (i : Int))).map Prod.fst = _
      rw [List.map_append, List.map_map]
      congr 1
      exact List.map_id' _
    rw [e]
    by_cases m : k ∈ (keysAt gs i).map Prod.fst
    · exact List.mem_append_left _ m
    · refine List.mem_append_right _ (List.mem_filter.mpr ⟨List.mem_range.mpr hk, ?_⟩)
      have hg : gs[k]? = some gs[k] := List.getElem?_eq_getElem hk
      rw [hg, decide_eq_false m]
      simp only [Bool.not_false, Bool.true_and]
      unfold inKeys
      refine List.all_eq_true.mpr fun p hpm => decide_eq_true ?_
      have h1 := (h k _ hg).2 p hpm
      exact keys_all h hp i _ (hp k _ hg p hpm) (by omega)
theorem keys_len {gs : List GlG} {dep : Nat → Nat} (h : ∀ k g, gs[k]? = some g → dep k ≤ 4 ∧ ∀ p, p ∈ g.parts → dep p.1.toNat < dep k) (hp : ∀ (k : Nat) (g : GlG), gs[k]? = some g → ∀ p, p ∈ g.parts → p.1.toNat < gs.length) : (keysAt gs 5).length = gs.length := by
  obtain ⟨a, b⟩ := keys_ok gs 5
  have := all_len a b fun k hk => keys_all h hp 5 k hk (by
    have := (h k _ (List.getElem?_eq_getElem hk)).1
    omega)
  rwa [List.length_map] at this
theorem fm_filter (f : Nat → PyData) (p : Nat → Bool) : ∀ n : Nat, (List.range n).filterMap (fun j => if p j = true then some (f j) else none) = ((List.range n).filter p).map f
  | 0 => rfl
  | n + 1 => by
    rw [List.range_succ, List.filterMap_append, List.filter_append, List.map_append, fm_filter f p n]
    congr 1
    cases h : p n
    · simp [h]
    · simp [h]
def spDepG (c : Cs) : Sp := fun vs H Q _ => ∃ (S : List Addr) (v : V) (gs : List GlG), vs = [v] ∧ Al S H ∧ Dq S H v (.list (gs.map fun g => glD c g.R)) ∧ gs.length ≤ 60 ∧ (∀ g, g ∈ gs → g.parts.length < 900 ∧ ∀ p, p ∈ g.parts → 0 ≤ p.1) ∧ ∀ p H', Same H H' → H' p = some (.dK (kvL (keysAt gs 5))) → Q (.ref p) H'
theorem ok_depths_of (T : Txt K mg) : Has P w K mg base 2 "depths_of" ps_depths_of (spDepG (cs mg)) := by
  have h_has_parts_in := ok_has_parts_in (P := P) (w := w) (base := base) T
  refine has_of T.d_depths_of sc_depths_of bd_depths_of (fun vs H Q E h => ?_) (fun f cdv A outer s H vs Q E hr h => ?_)
  · obtain ⟨S, v, gs, rfl, _⟩ := h
    rfl
  · obtain ⟨S, v, gs, rfl, hS, h1, hz, hpp, q⟩ := h
    obtain ⟨a, xs, rfl, ha, hl, hD⟩ := lstN h1
    refine ⟨_, (pss_cons (ps_set (i := 1) sc_depths_of.nd rfl (.inr rfl) pe_dnewK)
      (pss_cons (ps_for PassesOwn.never rfl (pi_range1 (by rfl) T.z_range (pa_cons (pe_op op_add (pe_gv (by rfl) T.g_DEEPEST) pe_int) pa_nil)) (pg_name (i := 2) sc_depths_of.nd rfl (.inl rfl))
        (pss_cons (ps_setLc (i := 4) (own := [("k", 3)]) rfl sc_depths_of.nd rfl rfl (sw_true rfl rfl rfl (by decide +kernel)) (pi_range1 (by rfl) T.z_range (pa_cons (pe_callB (clLen (K := K) rfl) (by rfl) T.z_len (by decide +kernel) (pa_cons (pv 0) pa_nil)) pa_nil)) (blkOk_by (by kernel_rfl)) (fun _ _ _ _ _ => (pg_name (i := 3) sc_depths_of.nd rfl (.inl rfl))) (fun _ _ _ _ _ => (pts_one (PW.pt (pw_and (pt_cmp (pc_dnotin (hu_of hr) (pv 3) (pv 1))) (pw_and1 (pt_val (pe_h h_has_parts_in (hr.mono (by decide)) (pa_cons (pe_ix (ixL (K := K) rfl) (pv 0) (pv 3) (fun _ _ => rfl)) (pa_cons (pv 1) pa_nil))))))))) (fun _ _ _ _ _ => (pv 3)))
      (pss_one (ps_for PassesOwn.never rfl (piL (K := K) rfl (pv 4)) (pg_name (i := 3) sc_depths_of.nd rfl (.inl rfl))
        (pss_one (ps_dput (hu_of hr) (pv 1) (pv 3) (pv 2) rfl))))))
      (pss_one (ps_ret (pv 1))))), ?_⟩
    walk_at "fl.w"
    unfold tDNewK
    intro p hp
    have hap : a ≠ p := fun e => by rw [e, hp] at ha; cases ha
    have alp : Al (p :: S) (upd H p (.dK [])) := .cons (by rw [upd_same]; simp) (hS.same (Fl.Same.new hp))
    have hDp : DqA (p :: S) (upd H p (.dK [])) xs (gs.map fun g => glD (cs mg) g.R) := (hD.new hp).same (Fl.Same.new hp)
    have hap0 : upd H p (.dK []) a = some (.lst xs) := by rw [upd_ne hap]; exact ha
    walk_at "fl.w"
    refine forK_r (fun i σ' H' => (∃ u2 u3 u4, σ' = [some (.ref a), some (.ref p), u2, u3, u4]) ∧ Fr [p] (upd H p (.dK [])) H' ∧ H' p = some (.dK (kvL (keysAt gs i)))) ⟨⟨_, _, _, rfl⟩, Fr.refl, upd_same⟩ ?_ ?_
    · intro i σ' H' hi ⟨⟨u2, u3, u4, e⟩, hf, hpk⟩
      subst e
      have al1 : Al (p :: S) H' := alp.fr hf (.cons (by rw [hpk]; simp) .nil)
      have hD1 : DqA (p :: S) H' xs (gs.map fun g => glD (cs mg) g.R) := hDp.fr (hf.mono fun b m => by rw [show b = p by simpa using m]; exact List.mem_cons_self)
      have ha1 : H' a = some (.lst xs) := hf a _ (by simpa using hap) hap0
      obtain ⟨kn, kb⟩ := keys_ok gs i
      have kl : (keysAt gs i).length ≤ gs.length := by
        have := nodup_bound gs.length _ kn kb
        rwa [List.length_map] at this
      walk_at "fl.w"
      refine lcR (S := p :: S) (fun j => if (!decide (j ∈ (keysAt gs i).map Prod.fst) && match gs[j]? with | none => false | some g => inKeys (keysAt gs i) g.parts) = true then some (.int (j : Int)) else none) al1 (by omega) ?_ ?_
      · intro D j H2 hDn hj sm al R N hR hN
        have hj' : j < xs.length := by omega
        obtain ⟨g, hg⟩ : ∃ g, gs[j]? = some g := ⟨_, List.getElem?_eq_getElem (by omega)⟩
        obtain ⟨x, hx, hxD⟩ := (hD1.same sm).getD (i := j) (by rw [List.getElem?_map, hg]; rfl)
        have hat : atI xs (j : Int) = some x := atI_nat (j := j) hx
        have ha2 := sm _ _ ha1
        have hp2 := sm _ _ hpk
        obtain ⟨gz, g0⟩ := hpp g (List.mem_of_getElem? hg)
        rw [Int.zero_add]
        refine g_name ⟨rfl, ?_⟩
        walk_at "fl.w"
        refine g_tB (g_dn ?_)
        walk_at "fl.w"
        refine ⟨p, _, rfl, DGet.k (k := .inl (j : Int)) hp2, ?_⟩
        rw [kvL_get]
        by_cases hk : j ∈ (keysAt gs i).map Prod.fst
        · rw [decide_eq_true hk]
          simp only [Bool.not_true]
          walk_at "fl.w"
          exact hN (by rw [decide_eq_true hk]; simp) _ (L2.Same.refl _)
        · rw [decide_eq_false hk]
          simp only [Bool.not_false]
          walk_at "fl.w"
          refine ⟨p :: S, _, _, g, keysAt gs i, rfl, al1.same sm, by simp, hxD, hp2, gz, g0, fun H3 sm3 => ?_⟩
          by_cases hin : inKeys (keysAt gs i) g.parts = true
          · rw [hin]
            walk_at "fl.w"
            exact hR _ _ _ (by rw [decide_eq_false hk, hg]; simp [hin]) sm3 (.int _)
          · rw [show inKeys (keysAt gs i) g.parts = false by simpa using hin]
            walk_at "fl.w"
            exact hN (by rw [decide_eq_false hk, hg]; simp [hin]) _ sm3
      · intro D H2 sm hDn hq
        rw [fm_filter (fun j => .int (j : Int))] at hq
        have hp2 := sm _ _ hpk
        obtain ⟨_, ys, e, _, hy, hY⟩ := hq.lstE
        cases e
        have hDp' : D ≠ p := fun e => by rw [e, hpk] at hDn; cases hDn
        walk_at "fl.w"
        have hlx : (xs.length : Int).toNat = gs.length := by omega
        rw [hlx] at hY
        have hY : DqA (p :: S) H2 ys ((lev gs (keysAt gs i)).map fun j : Nat => PyData.int (j : Int)) := hY
        obtain ⟨Fl', hFl⟩ : ∃ L, L = lev gs (keysAt gs i) := ⟨_, rfl⟩
        rw [← hFl] at hY
        have hnd : ((keysAt gs i).map Prod.fst ++ Fl').Nodup := by
          have := (keys_ok gs (i + 1)).1
          rw [show (keysAt gs (i + 1)).map Prod.fst = (keysAt gs i).map Prod.fst ++ Fl' by
            show (keysAt gs i ++ (lev gs (keysAt gs i)).map fun k => (k, (i : Int))).map Prod.fst = _
            rw [List.map_append, List.map_map, ← hFl]
            congr 1
            exact List.map_id' _] at this
          exact this
        have hkb : Fl'.length ≤ gs.length := nodup_bound gs.length _ (List.nodup_append.mp hnd).2.1 (fun k m => by
          rw [hFl] at m
          exact List.mem_range.mp (List.mem_filter.mp m).1)
        have hly : ys.length = Fl'.length := by rw [hY.len, List.length_map]
        refine forK_l (xs := ys) (fun j σ' Hq => (∃ u3, σ' = [some (.ref a), some (.ref p), some (.int (0 + (i : Int))), u3, some (.ref D)]) ∧ Fr [p] H2 Hq ∧ Hq p = some (.dK (kvL (keysAt gs i ++ (Fl'.take j).map fun k => (k, (i : Int)))))) ⟨⟨_, rfl⟩, Fr.refl, by rw [List.take_zero, List.map_nil, List.append_nil]; exact hp2⟩ ?_ ?_ ?_
        · intro j σ' Hq _ ⟨_, f2, _⟩
          exact SqL.of (f2 _ _ (by simpa using hDp') hy)
        · intro j x σ' Hq hx ⟨⟨u3, e⟩, f2, hk⟩
          subst e
          have hjl : j < Fl'.length := by
            have := (List.getElem?_eq_some_iff.mp hx).1
            omega
          have hFj : Fl'[j]? = some Fl'[j] := List.getElem?_eq_getElem hjl
          obtain ⟨d, hd1, hd2⟩ := hY.get hx
          rw [List.getElem?_map, hFj] at hd1
          cases hd1
          cases hd2.intE
          have hnew : Fl'[j] ∉ (keysAt gs i ++ (Fl'.take j).map fun k => (k, (i : Int))).map Prod.fst := by
            intro m
            rw [List.map_append, List.map_map] at m
            rcases List.mem_append.mp m with m | m
            · exact (List.nodup_append.mp hnd).2.2 _ m _ (List.getElem_mem hjl) rfl
            · have m : Fl'[j] ∈ Fl'.take j := by
                obtain ⟨y, hy, e⟩ := List.mem_map.mp m
                rw [← e]; exact hy
              have hn2 := (List.nodup_append.mp hnd).2.1
              obtain ⟨i2, hi2, e⟩ := List.getElem_of_mem m
              rw [List.length_take] at hi2
              rw [List.getElem_take] at e
              exact List.pairwise_iff_getElem.mp hn2 i2 j (by omega) hjl (by omega) e
          walk_at "fl.w"
          refine g_dp ?_
          walk_at "fl.w"
          refine ⟨p, _, rfl, DPut.k (k := .inl (Fl'[j] : Int)) hk (by
            rw [kvL_len, List.length_append, List.length_map, List.length_take]
            have : (1000 : Nat) ≤ sizeLine := by decide
            omega), ?_⟩
          refine ⟨⟨_, rfl⟩, f2.trans (Fr.upd (by simp)), ?_⟩
          rw [upd_same, putK_new _ (kvL_new hnew), show (0 : Int) + (i : Int) = (i : Int) by omega, kvL_snoc, List.append_assoc]
          have : (Fl'.take j).map (fun k => (k, (i : Int))) ++ [(Fl'[j], (i : Int))] = (Fl'.take (j + 1)).map fun k => (k, (i : Int)) := by
            rw [List.take_succ, hFj, List.map_append]
            rfl
          rw [this]
        · intro σ' Hq ⟨⟨u3, e⟩, f2, hk⟩
          subst e
          refine ⟨⟨_, _, _, rfl⟩, (hf.trans (Fr.same sm)).trans f2, ?_⟩
          rw [hk, List.take_of_length_le (by omega), hFl]
          rfl
    · intro σ' H' ⟨⟨u2, u3, u4, e⟩, hf, hpk⟩
      subst e
      walk_at "fl.w"
      exact q p H' (sm_of hp (by exact fun b o n e => hf b o n (by rw [upd_ne (by simpa using n)]; exact e))) hpk
theorem ok_parts_reason (T : Txt K mg) (VL : FoR → LkR → Prop) : Has P w K mg base 3 "parts_reason" ps_parts_reason (spD (fFvG (cs mg) VL)) := by
  obtain ⟨_, _, _, _, _, _, _, _, _, _, _, _, _, _, cF⟩ := T.c_Font
  have clF := cF.cl
  have naF := cF.na
  have h_depths_of := ok_depths_of (P := P) (w := w) (base := base) T
  refine has_of T.d_parts_reason sc_parts_reason bd_parts_reason (fun vs H Q E h => ?_) (fun f cdv A outer s H vs Q E hr h => ?_)
  · obtain ⟨S, ds, d, _, hd, ⟨fo, fok, rfl, rfl⟩, _⟩ := h
    rw [hd.len]
    rfl
  · obtain ⟨S, ds, d, hS, hd, ⟨fo, fok, rfl, rfl⟩, q⟩ := h
    obtain ⟨v1, _, rfl, h1, hd⟩ := hd.consE
    cases hd.nilE
    obtain ⟨fa, fdx, w1, w2, w3, w4, w5, w6, w7, w8, w9, rfl, fna, fA, j1, j2, j3, j4, j5, j6, j7, j8, j9⟩ := foE h1
    have j2' : Dq S H w2 (.list (fo.glyphs.map fun g => glD (cs mg) g.R)) := by
      simp only [FoG.R, List.map_map] at j2
      exact j2
    obtain ⟨b, xs, rfl, hb, hl, _⟩ := lstN j2'
    obtain ⟨dep, hdep⟩ := fok.dp
    refine ⟨_, (pss_cons (ps_if (pt_cmpR op_lt (pe_callB call_lenD (by rfl) T.z_len (by decide +kernel) (pa_cons (pe_h h_depths_of (hr.mono (by decide)) (pa_cons (peFld (K := K) rfl (pv 0) rfl) pa_nil)) pa_nil)) (pe_callB (clLen (K := K) rfl) (by rfl) T.z_len (by decide +kernel) (pa_cons (peFld (K := K) rfl (pv 0) rfl) pa_nil)) (nomark _))
        pss_never
        pss_nil)
      (pss_one (ps_ret pe_non))), ?_⟩
    walk_at "fl.w"
    refine ⟨S, _, fo.glyphs, rfl, hS, j2', fok.gl.2, fun g m => ⟨(fok.go g m).pt.1, fun p mp => ((fok.go g m).pt.2 p mp).1⟩, fun p H2 sm hp => ?_⟩
    have hk := keys_len hdep (fun k g hg p mp => by
      have := (fok.go g (List.mem_of_getElem? hg)).pt.2 p mp
      omega)
    have fA2 := sm _ _ fA
    have hb2 := sm _ _ hb
    walk_at "fl.w"
    refine ⟨p, _, rfl, hp, ?_⟩
    walk_at "fl.w"
    refine g_noB (by rw [kvL_len]; omega) ?_
    walk_at "fl.w"
    exact q _ _ sm .non
end

section
variable {P : Program} {w : World} {K : PySem.W.Frag} {mg : Str → Option Value} {base : Heap}
local macro_rules | `(tactic| walk_at "fl.t") => `(tactic| (with_reducible refine g_chainW ?_))
local macro_rules | `(tactic| walk_at "fl.t") => `(tactic| (with_reducible refine g_ifE ?_))
local macro_rules | `(tactic| walk_at "fl.w") => `(tactic| repeat walk_at "fl.t")
def fMr (ds : List PyData) (d : PyData) : Prop := ∃ (L : List PyData) (lo hi : Int), ds = [.list L, .int lo, .int hi] ∧ lo ≤ L.length ∧ (L.length : Int) ≤ hi ∧ d = .none
def fPl (ds : List PyData) (d : PyData) : Prop := ∃ x : Str, ds = [.str x, .none] ∧ d = .none
theorem ok_many_reason (T : Txt K mg) : Has P w K mg base 1 "many_reason" ps_many_reason (spD fMr) := by
  refine has_of T.d_many_reason sc_many_reason bd_many_reason (fun vs H Q E h => ?_) (fun f cdv A outer s H vs Q E hr h => ?_)
  · obtain ⟨S, ds, d, _, hd, ⟨L, lo, hi, rfl, _⟩, _⟩ := h
    rw [hd.len]
    rfl
  · obtain ⟨S, ds, d, hS, hd, ⟨L, lo, hi, rfl, z1, z2, rfl⟩, q⟩ := h
    obtain ⟨v1, _, rfl, h1, hd⟩ := hd.consE
    obtain ⟨v2, _, rfl, h2, hd⟩ := hd.consE
    obtain ⟨v3, _, rfl, h3, hd⟩ := hd.consE
    cases hd.nilE
    cases h2.intE
    cases h3.intE
    obtain ⟨b, xs, rfl, _, hb, hD⟩ := h1.lstE
    have hl := hD.len
    refine ⟨_, (pss_cons (ps_if (pt_not (pt_chain op_le op_le (pv 1) (pe_callB (clLen (K := K) rfl) (by rfl) T.z_len (by decide +kernel) (pa_cons (pv 0) pa_nil)) (pv 2)))
        pss_never
        pss_nil)
      (pss_one (ps_ret pe_non))), ?_⟩
    walk_at "fl.w"
    refine g_yesB (by rw [hl]; exact z1) ?_
    walk_at "fl.w"
    refine g_nB (by rw [hl]; exact z2) ?_
    walk_at "fl.w"
    exact q _ _ (L2.Same.refl _) .non
theorem ok_placed (T : Txt K mg) : Has P w K mg base 1 "placed" ps_placed (spD fPl) := by
  refine has_of T.d_placed sc_placed bd_placed (fun vs H Q E h => ?_) (fun f cdv A outer s H vs Q E hr h => ?_)
  · obtain ⟨S, ds, d, _, hd, ⟨x, rfl, rfl⟩, _⟩ := h
    rw [hd.len]
    rfl
  · obtain ⟨S, ds, d, hS, hd, ⟨x, rfl, rfl⟩, q⟩ := h
    obtain ⟨v1, _, rfl, h1, hd⟩ := hd.consE
    obtain ⟨v2, _, rfl, h2, hd⟩ := hd.consE
    cases hd.nilE
    cases h2.nonE
    refine ⟨_, (pss_cons (ps_if (pt_cmpR op_isN (pv 1) pe_non (nomark _))
        (pss_one (ps_ret pe_non))
        pss_nil)
      (pss_one (ps_ret (pe_tup (pa_cons (pv 0) (pa_cons (pv 1) pa_nil)))))), ?_⟩
    walk_at "fl.w"
    exact q _ _ (L2.Same.refl _) .non
theorem ok_unit_reason (T : Txt K mg) (VL : FoR → LkR → Prop) : Has P w K mg base 1 "unit_reason" ps_unit_reason (spD (fFvG (cs mg) VL)) := by
  obtain ⟨_, _, _, _, _, _, _, _, _, _, _, _, _, _, cF⟩ := T.c_Font
  have clF := cF.cl
  have naF := cF.na
  refine has_of T.d_unit_reason sc_unit_reason bd_unit_reason (fun vs H Q E h => ?_) (fun f cdv A outer s H vs Q E hr h => ?_)
  · obtain ⟨S, ds, d, _, hd, ⟨fo, fok, rfl, rfl⟩, _⟩ := h
    rw [hd.len]
    rfl
  · obtain ⟨S, ds, d, hS, hd, ⟨fo, fok, rfl, rfl⟩, q⟩ := h
    obtain ⟨v1, _, rfl, h1, hd⟩ := hd.consE
    cases hd.nilE
    obtain ⟨fa, fdx, w1, w2, w3, w4, w5, w6, w7, w8, w9, rfl, fna, fA, j1, j2, j3, j4, j5, j6, j7, j8, j9⟩ := foE h1
    have j1 : Dq S H w1 (.int fo.unit) := j1
    cases j1.intE
    have hu := fok.un
    refine ⟨_, (pss_cons (ps_if (pt_not (pt_chain op_le op_le pe_int (peFld (K := K) rfl (pv 0) rfl) (pe_gv (by rfl) T.g_FARTHEST)))
        pss_never
        pss_nil)
      (pss_one (ps_ret pe_non))), ?_⟩
    walk_at "fl.w"
    refine g_yesB hu.1 ?_
    walk_at "fl.w"
    refine g_nB hu.2 ?_
    walk_at "fl.w"
    exact q _ _ (L2.Same.refl _) .non
theorem ok_chars_reason (T : Txt K mg) (VL : FoR → LkR → Prop) : Has P w K mg base 1 "chars_reason" ps_chars_reason (spD (fFvG (cs mg) VL)) := by
  obtain ⟨_, _, _, _, _, _, _, _, _, _, _, _, _, _, cF⟩ := T.c_Font
  have clF := cF.cl
  have naF := cF.na
  refine has_of T.d_chars_reason sc_chars_reason bd_chars_reason (fun vs H Q E h => ?_) (fun f cdv A outer s H vs Q E hr h => ?_)
  · obtain ⟨S, ds, d, _, hd, ⟨fo, fok, rfl, rfl⟩, _⟩ := h
    rw [hd.len]
    rfl
  · obtain ⟨S, ds, d, hS, hd, ⟨fo, fok, rfl, rfl⟩, q⟩ := h
    obtain ⟨v1, _, rfl, h1, hd⟩ := hd.consE
    cases hd.nilE
    obtain ⟨fa, fdx, w1, w2, w3, w4, w5, w6, w7, w8, w9, rfl, fna, fA, j1, j2, j3, j4, j5, j6, j7, j8, j9⟩ := foE h1
    have j3 : Dq S H w3 (.list (fo.chars.map fun p => .tuple (i2 p))) := ltD_map i2 fo.chars ▸ j3
    obtain ⟨b, xs, rfl, _, hb, hD⟩ := j3.lstE
    obtain ⟨gb, gs, rfl, hgb, hgl, _⟩ := lstN j2
    have hgl : gs.length = fo.glyphs.length := by rw [hgl]; exact List.length_map _
    refine ⟨_, (pss_cons (ps_set (i := 1) sc_chars_reason.nd rfl (.inl rfl) (pe_un un_neg pe_int))
      (pss_cons (ps_for PassesOwn.never rfl (piL (K := K) rfl (peFld (K := K) rfl (pv 0) rfl)) (pgT (n := 2) (K := K) rfl (by rfl) (pgs_cons (pg_name (i := 2) sc_chars_reason.nd rfl (.inl rfl)) (pgs_cons (pg_name (i := 3) sc_chars_reason.nd rfl (.inl rfl)) pgs_nil)))
        (pss_cons (ps_if (pt_not (pt_chain op_lt op_le (pv 1) (pv 2) pe_int))
        pss_never
        pss_nil)
      (pss_cons (ps_if (pt_not (pt_chain op_le op_lt pe_int (pv 3) (pe_callB (clLen (K := K) rfl) (by rfl) T.z_len (by decide +kernel) (pa_cons (peFld (K := K) rfl (pv 0) rfl) pa_nil))))
        pss_never
        pss_nil)
      (pss_one (ps_set (i := 1) sc_chars_reason.nd rfl (.inl rfl) (pv 2))))))
      (pss_one (ps_ret pe_non)))), ?_⟩
    walk_at "fl.w"
    refine forK_l (xs := xs) (fun i σ' H' => (∃ u2 u3, σ' = [some (.ref fa), some (.int (prv (fo.chars.map Prod.fst) i)), u2, u3]) ∧ H' = H) ⟨⟨_, _, rfl⟩, rfl⟩ (fun i σ' H' _ ⟨_, e⟩ => by subst e; exact SqL.of hb) ?_ ?_
    · intro i x σ' H' hx ⟨⟨u2, u3, e⟩, e2⟩
      subst e e2
      obtain ⟨c, hc, dx⟩ := hD.getM hx
      obtain ⟨t, ts, rfl, nt, ht, hT⟩ := dx.tupE
      obtain ⟨_, _, rfl, x1, hT⟩ := hT.consE
      obtain ⟨_, _, rfl, x2, hT⟩ := hT.consE
      cases hT.nilE
      cases x1.intE
      cases x2.intE
      obtain ⟨c1, c2, c3, c4⟩ := fok.ch.2 i c hc
      refine g_gtup (SqT.of ht) rfl ?_
      walk_at "fl.w"
      refine g_yesB c1 ?_
      walk_at "fl.w"
      refine g_nB c2 ?_
      walk_at "fl.w"
      refine g_yesB c3 ?_
      walk_at "fl.w"
      refine g_nB (show c.2 < (gs.length : Int) by omega) ?_
      walk_at "fl.w"
      refine ⟨⟨_, _, by simp only [prv, List.getElem?_map, hc, Option.map_some, Option.getD_some]; rfl⟩, rfl⟩
    · intro σ' H' ⟨⟨u2, u3, e⟩, e2⟩
      subst e e2
      walk_at "fl.w"
      exact q _ _ (L2.Same.refl _) .non
theorem ok_functions_reason (T : Txt K mg) (I : WoK K w mg) (VL : FoR → LkR → Prop) : Has P w K mg base 2 "functions_reason" ps_functions_reason (spD (fFvG (cs mg) VL)) := by
  obtain ⟨_, _, _, _, _, _, _, _, _, _, _, _, _, _, cF⟩ := T.c_Font
  have clF := cF.cl
  have naF := cF.na
  have h_many_reason := ok_many_reason (P := P) (w := w) (base := base) T
  have h_is_instruction := ok_is_instruction (P := P) (w := w) (base := base) T I
  refine has_of T.d_functions_reason sc_functions_reason bd_functions_reason (fun vs H Q E h => ?_) (fun f cdv A outer s H vs Q E hr h => ?_)
  · obtain ⟨S, ds, d, _, hd, ⟨fo, fok, rfl, rfl⟩, _⟩ := h
    rw [hd.len]
    rfl
  · obtain ⟨S, ds, d, hS, hd, ⟨fo, fok, rfl, rfl⟩, q⟩ := h
    obtain ⟨v1, _, rfl, h1, hd⟩ := hd.consE
    cases hd.nilE
    obtain ⟨fa, fdx, w1, w2, w3, w4, w5, w6, w7, w8, w9, rfl, fna, fA, j1, j2, j3, j4, j5, j6, j7, j8, j9⟩ := foE h1
    have j8' := j8
    have e8 : ouD3 fo.R.functions = .list (fo.fns.map fun c => .list (c.map fun h => .tuple (s1i h))) := by
      show ouD3 (fo.fns.map fun c => c.map s1i) = _
      unfold ouD3
      rw [List.map_map]
      congr 1
      exact List.map_congr_left fun c _ => ltD_map s1i c
    rw [e8] at j8'
    have j8'' := j8'
    obtain ⟨b, xs, rfl, _, hb, hD⟩ := j8'.lstE
    refine ⟨_, (pss_cons (ps_for PassesOwn.never rfl (piL (K := K) rfl (peFld (K := K) rfl (pv 0) rfl)) (pg_name (i := 1) sc_functions_reason.nd rfl (.inl rfl))
        (pss_one (ps_if (pt_not (pt_val (pe_callB (clAll (K := K) rfl rfl) (by rfl) T.z_all (by decide +kernel) (pa_cons (pe_lc (own := [("step", 2)]) rfl sc_functions_reason.nd (piL (K := K) rfl (pv 1)) (blkOk_by (by kernel_rfl)) (fun _ _ _ _ _ => (pg_name (i := 2) sc_functions_reason.nd rfl (.inl rfl))) (fun _ _ _ _ _ => pts_nil) (fun _ _ _ _ _ => (pe_h h_is_instruction (hr.mono (by decide)) (pa_cons (pv 2) pa_nil)))) pa_nil))))
        pss_never
        pss_nil)))
      (pss_one (ps_ret (pe_h h_many_reason (hr.mono (by decide)) (pa_cons (peFld (K := K) rfl (pv 0) rfl) (pa_cons pe_int (pa_cons pe_int pa_nil))))))), ?_⟩
    walk_at "fl.w"
    refine forK_l (xs := xs) (fun i σ' H' => (∃ u1 u2, σ' = [some (.ref fa), u1, u2]) ∧ Same H H') ⟨⟨_, _, rfl⟩, L2.Same.refl _⟩ (fun i σ' H' _ ⟨_, e⟩ => SqL.of (e _ _ hb)) ?_ ?_
    · intro i x σ' H' hx ⟨⟨u1, u2, e⟩, sm⟩
      subst e
      obtain ⟨c, hc, dx⟩ := (hD.same sm).getM hx
      obtain ⟨cz, ck⟩ := fok.fn.2 c (List.mem_of_getElem? hc)
      have dx0 := dx
      obtain ⟨t, ts, rfl, nt, ht, hT⟩ := dx.lstE
      walk_at "fl.w"
      refine lcL (S := S) (fun i => (c[i]?).map fun _ => .bool true) (hS.same sm) dx0 (by rw [List.length_map]; omega) ?_ ?_
      · intro D j y e G hD he smG al hye R N hR hN
        obtain ⟨p, hp, rfl⟩ := at_map he
        refine g_name ⟨rfl, ?_⟩
        walk_at "fl.w"
        exact spD_app (D :: S) [.tuple (s1i p)] (.bool true) al (.cons hye .nil) ⟨p, rfl, ck p (List.mem_of_getElem? hp), rfl⟩ (fun v H3 sm3 hv => hR _ _ _ (by rw [hp]; rfl) sm3 hv)
      intro D3 H3 sm3 hD3 hq3
      rw [fm_ltA (by rw [List.length_map])] at hq3
      refine allYes hq3 ?_
      walk_at "fl.w"
      exact ⟨⟨_, _, rfl⟩, sm.trans sm3⟩
    · intro σ' H' ⟨⟨u1, u2, e⟩, sm⟩
      subst e
      have fA2 := sm _ _ fA
      walk_at "fl.w"
      exact spD_app S [_, .int 0, .int 12] .none (hS.same sm) (.cons (j8''.same sm) (.cons (.int _) (.cons (.int _) .nil))) ⟨_, _, _, rfl, by omega, by rw [List.length_map]; have := fok.fn.1; omega, rfl⟩ (fun v H3 sm3 hv => by cases hv.nonE; exact q _ _ (sm.trans sm3) .non)
theorem ok_presets_reason (T : Txt K mg) (VL : FoR → LkR → Prop) : Has P w K mg base 2 "presets_reason" ps_presets_reason (spD (fFvG (cs mg) VL)) := by
  obtain ⟨_, _, _, _, _, _, _, _, _, _, _, _, _, _, cF⟩ := T.c_Font
  have clF := cF.cl
  have naF := cF.na
  have h_many_reason := ok_many_reason (P := P) (w := w) (base := base) T
  refine has_of T.d_presets_reason sc_presets_reason bd_presets_reason (fun vs H Q E h => ?_) (fun f cdv A outer s H vs Q E hr h => ?_)
  · obtain ⟨S, ds, d, _, hd, ⟨fo, fok, rfl, rfl⟩, _⟩ := h
    rw [hd.len]
    rfl
  · obtain ⟨S, ds, d, hS, hd, ⟨fo, fok, rfl, rfl⟩, q⟩ := h
    obtain ⟨v1, _, rfl, h1, hd⟩ := hd.consE
    cases hd.nilE
    obtain ⟨fa, fdx, w1, w2, w3, w4, w5, w6, w7, w8, w9, rfl, fna, fA, j1, j2, j3, j4, j5, j6, j7, j8, j9⟩ := foE h1
    have j9 : Dq S H w9 (.list (fo.pres.map PyData.int)) := j9
    have j9' := j9
    obtain ⟨b, xs, rfl, _, hb, hD⟩ := j9'.lstE
    refine ⟨_, (pss_cons (ps_if (pt_not (pt_val (pe_callB (clAll (K := K) rfl rfl) (by rfl) T.z_all (by decide +kernel) (pa_cons (pe_lc (own := [("preset", 1)]) rfl sc_presets_reason.nd (piL (K := K) rfl (peFld (K := K) rfl (pv 0) rfl)) (blkOk_by (by kernel_rfl)) (fun _ _ _ _ _ => (pg_name (i := 1) sc_presets_reason.nd rfl (.inl rfl))) (fun _ _ _ _ _ => pts_nil) (fun _ _ _ _ _ => (pe_chain op_le op_le (pe_un un_neg pe_int) (pv 1) pe_int))) pa_nil))))
        pss_never
        pss_nil)
      (pss_one (ps_ret (pe_h h_many_reason (hr.mono (by decide)) (pa_cons (peFld (K := K) rfl (pv 0) rfl) (pa_cons pe_int (pa_cons pe_int pa_nil))))))), ?_⟩
    walk_at "fl.w"
    refine lcL (S := S) (fun i => (fo.pres[i]?).map fun _ => .bool true) hS j9 (by rw [List.length_map]; have := fok.ps.1; omega) ?_ ?_
    · intro D j y e G hD he smG al hye R N hR hN
      obtain ⟨p, hp, rfl⟩ := at_map he
      cases hye.intE
      obtain ⟨p0, p1⟩ := fok.ps.2 p (List.mem_of_getElem? hp)
      refine g_name ⟨rfl, ?_⟩
      walk_at "fl.w"
      refine g_yesB p0 ?_
      walk_at "fl.w"
      rw [decide_eq_true p1]
      exact hR _ _ _ (by rw [hp]; rfl) (L2.Same.refl _) (.bl _)
    intro D3 H3 sm3 hD3 hq3
    rw [fm_ltA (by rw [List.length_map])] at hq3
    refine allYes hq3 ?_
    have fA2 := sm3 _ _ fA
    walk_at "fl.w"
    exact spD_app S [_, .int 0, .int 32] .none (hS.same sm3) (.cons (j9.same sm3) (.cons (.int _) (.cons (.int _) .nil))) ⟨_, _, _, rfl, by omega, by rw [List.length_map]; have := fok.ps.1; omega, rfl⟩ (fun v H4 sm4 hv => by cases hv.nonE; exact q _ _ (sm3.trans sm4) .non)
end

section
variable {P : Program} {w : World} {K : PySem.W.Frag} {mg : Str → Option Value} {base : Heap}
local macro_rules | `(tactic| walk_at "fl.t") => `(tactic| (with_reducible refine g_chainW ?_))
local macro_rules | `(tactic| walk_at "fl.t") => `(tactic| (with_reducible refine g_ifE ?_))
local macro_rules | `(tactic| walk_at "fl.w") => `(tactic| repeat walk_at "fl.t")
/-- a font without features, axes, regions -/
def FoG.Bare (f : FoG) : Prop := f.feats = [] ∧ f.axes = [] ∧ f.regs = []
def fFvB (c : Cs) (VL : FoR → LkR → Prop) (ds : List PyData) (d : PyData) : Prop := ∃ f : FoG, f.Ok VL ∧ FoG.Bare f ∧ ds = [foD c f.R] ∧ d = .none
def fLkr (c : Cs) (VL : FoR → LkR → Prop) (ds : List PyData) (d : PyData) : Prop := ∃ (f : FoR) (k : LkR), ds = [foD c f, lkD c k] ∧ VL f k ∧ d = .none
theorem ok_first_lookup_fault (T : Txt K mg) (VL : FoR → LkR → Prop) (h_lookup_reason : Has P w K mg base 4 "lookup_reason" ps_lookup_reason (spD (fLkr (cs mg) VL))) : Has P w K mg base 5 "first_lookup_fault" ps_first_lookup_fault (spD (fFvG (cs mg) VL)) := by
  obtain ⟨_, _, _, _, _, _, _, _, _, _, _, _, _, _, cF⟩ := T.c_Font
  have clF := cF.cl
  have naF := cF.na
  refine has_of T.d_first_lookup_fault sc_first_lookup_fault bd_first_lookup_fault (fun vs H Q E h => ?_) (fun f cdv A outer s H vs Q E hr h => ?_)
  · obtain ⟨S, ds, d, _, hd, ⟨fo, fok, rfl, rfl⟩, _⟩ := h
    rw [hd.len]
    rfl
  · obtain ⟨S, ds, d, hS, hd, ⟨fo, fok, rfl, rfl⟩, q⟩ := h
    obtain ⟨v1, _, rfl, h1, hd⟩ := hd.consE
    cases hd.nilE
    have h1' := h1
    obtain ⟨fa, fdx, w1, w2, w3, w4, w5, w6, w7, w8, w9, rfl, fna, fA, j1, j2, j3, j4, j5, j6, j7, j8, j9⟩ := foE h1'
    have j4 : Dq S H w4 (.list (fo.lks.map (lkD (cs mg)))) := j4
    obtain ⟨lb, ls, rfl, hlb, hll, hlD⟩ := lstN j4
    refine ⟨_, (pss_cons (ps_for PassesOwn.never rfl (piEnum (K := K) rfl (by rfl) T.z_enumerate (pa_cons (peFld (K := K) rfl (pv 0) rfl) pa_nil)) (pgT (n := 2) (K := K) rfl (by rfl) (pgs_cons (pg_name (i := 1) sc_first_lookup_fault.nd rfl (.inl rfl)) (pgs_cons (pg_name (i := 2) sc_first_lookup_fault.nd rfl (.inl rfl)) pgs_nil)))
        (pss_cons (ps_set (i := 3) sc_first_lookup_fault.nd rfl (.inl rfl) (pe_h h_lookup_reason (hr.mono (by decide)) (pa_cons (pv 0) (pa_cons (pv 2) pa_nil))))
      (pss_one (ps_if (pt_cmpR op_notN (pv 3) pe_non (nomark _))
        pss_never
        pss_nil))))
      (pss_one (ps_ret pe_non))), ?_⟩
    walk_at "fl.w"
    refine forK_e (xs := ls) (fun i σ' H' => (∃ u1 u2 u3, σ' = [some (.ref fa), u1, u2, u3]) ∧ Same H H') ⟨⟨_, _, _, rfl⟩, L2.Same.refl _⟩ ?_ ?_ ?_
    · intro i σ' H' _ ⟨_, e⟩
      exact SqL.of (e _ _ hlb)
    · intro i x t σ' H' hxi ⟨⟨u1, u2, u3, e1⟩, sm⟩ ht
      subst e1
      obtain ⟨k, hk1, hx⟩ := (hlD.same sm).getM hxi
      have sm2 : Same H (upd H' t (.tup [.int (i : Int), x])) := L2.Same.trans sm (Fl.Same.new ht)
      have h1s := h1.same sm2
      have hxs := hx.same (Fl.Same.new ht (o := .tup [.int (i : Int), x]))
      have hS2 := hS.same sm2
      refine g_gtup (SqT.of upd_same) rfl ?_
      walk_at "fl.w"
      refine spD_app S [foD (cs mg) fo.R, lkD (cs mg) k] .none hS2 (.cons h1s (.cons hxs .nil)) ⟨_, k, rfl, fok.lo k (List.mem_of_getElem? hk1), rfl⟩ (fun v H3 sm3 hv => ?_)
      cases hv.nonE
      walk_at "fl.w"
      exact ⟨⟨_, _, _, rfl⟩, sm2.trans sm3⟩
    · intro σ' H' ⟨⟨u1, u2, u3, e1⟩, sm⟩
      subst e1
      walk_at "fl.w"
      exact q _ _ sm .non
theorem ok_features_reason (T : Txt K mg) (VL : FoR → LkR → Prop) : Has P w K mg base 2 "features_reason" ps_features_reason (spD (fFvB (cs mg) VL)) := by
  obtain ⟨_, _, _, _, _, _, _, _, _, _, _, _, _, _, cF⟩ := T.c_Font
  have clF := cF.cl
  have naF := cF.na
  have h_many_reason := ok_many_reason (P := P) (w := w) (base := base) T
  have h_is_row_of_letters := no_has (P := P) (w := w) (base := base) T.d_is_row_of_letters sc_is_row_of_letters bd_is_row_of_letters
  have h_is_rising := no_has (P := P) (w := w) (base := base) T.d_is_rising sc_is_rising bd_is_rising
  refine has_of T.d_features_reason sc_features_reason bd_features_reason (fun vs H Q E h => ?_) (fun f cdv A outer s H vs Q E hr h => ?_)
  · obtain ⟨S, ds, d, _, hd, ⟨fo, fok, fb, rfl, rfl⟩, _⟩ := h
    rw [hd.len]
    rfl
  · obtain ⟨S, ds, d, hS, hd, ⟨fo, fok, ⟨fb1, fb2, fb3⟩, rfl, rfl⟩, q⟩ := h
    obtain ⟨v1, _, rfl, h1, hd⟩ := hd.consE
    cases hd.nilE
    obtain ⟨fa, fdx, w1, w2, w3, w4, w5, w6, w7, w8, w9, rfl, fna, fA, j1, j2, j3, j4, j5, j6, j7, j8, j9⟩ := foE h1
    have j5 : Dq S H w5 (.list []) := by
      have e : (FoG.R fo).features = [] := by show fo.feats.map _ = []; rw [fb1]; rfl
      rw [e] at j5
      exact j5
    have j6 : Dq S H w6 (.list []) := by
      have e : (FoG.R fo).axes = [] := by show fo.axes.map _ = []; rw [fb2]; rfl
      rw [e] at j6
      exact j6
    have j7 : Dq S H w7 (.list []) := by
      have e : (FoG.R fo).regions = [] := by show fo.regs.map _ = []; rw [fb3]; rfl
      rw [e] at j7
      exact j7
    have j5' := j5
    obtain ⟨b, xs, rfl, _, hb, hD⟩ := j5'.lstE
    cases hD.nilE
    refine ⟨_, (pss_cons (ps_setLc (i := 2) (own := [("name", 1), ("_", 4)]) rfl sc_features_reason.nd rfl rfl (sw_true rfl rfl rfl (by decide +kernel)) (piL (K := K) rfl (peFld (K := K) rfl (pv 0) rfl)) (blkOk_by (by kernel_rfl)) (fun _ _ _ _ _ => (pgT (n := 2) (K := K) rfl (by rfl) (pgs_cons (pg_name (i := 1) sc_features_reason.nd rfl (.inl rfl)) (pgs_cons (pg_name (i := 4) sc_features_reason.nd rfl (.inl rfl)) pgs_nil)))) (fun _ _ _ _ _ => pts_nil) (fun _ _ _ _ _ => (pv 1)))
      (pss_cons (ps_if (pt_cmpR op_lt (RZ.pe_lenSetI (by rfl) T.z_len (by rfl) T.z_set (pv 2)) (pe_callB (clLen (K := K) rfl) (by rfl) T.z_len (by decide +kernel) (pa_cons (pv 2) pa_nil)) (nomark _))
        pss_never
        pss_nil)
      (pss_cons (ps_for PassesOwn.never rfl (piL (K := K) rfl (peFld (K := K) rfl (pv 0) rfl)) (pgT (n := 2) (K := K) rfl (by rfl) (pgs_cons (pg_name (i := 1) sc_features_reason.nd rfl (.inl rfl)) (pgs_cons (pg_name (i := 3) sc_features_reason.nd rfl (.inl rfl)) pgs_nil)))
        pss_never)
      (pss_one (ps_ret (pe_h h_many_reason (hr.mono (by decide)) (pa_cons (peFld (K := K) rfl (pv 0) rfl) (pa_cons pe_int (pa_cons pe_int pa_nil))))))))), ?_⟩
    walk_at "fl.w"
    refine lcNil hS j5 (fun D H2 sm hq => ?_)
    have fA2 := sm _ _ fA
    have hb2 := sm _ _ hb
    have j52 := j5.same sm
    have hS2 := hS.same sm
    obtain ⟨b2, ys, e, _, hb3, hD2⟩ := hq.lstE
    cases e
    cases hD2.nilE
    walk_at "fl.w"
    unfold RZ.tLenSetI
    walk_at "fl.w"
    refine ⟨D, [], rfl, SqL.of hb3, .nil, by decide, ?_⟩
    walk_at "fl.w"
    refine g_noB (by decide) ?_
    walk_at "fl.w"
    refine forK_l (xs := []) (fun i σ' H' => σ' = (L2.start N_features_reason [.ref fa]).set 2 (some (.ref D)) ∧ H' = H2) ⟨rfl, rfl⟩ (fun i σ' H' _ e => by rw [e.2]; exact SqL.of hb2) (fun i x σ' H' hx => by simp at hx) (fun σ' H' e => ?_)
    obtain ⟨e, e2⟩ := e
    subst e e2
    walk_at "fl.w"
    exact spD_app S [.list [], .int 0, .int 12] .none hS2 (.cons j52 (.cons (.int _) (.cons (.int _) .nil))) ⟨_, _, _, rfl, by decide, by decide, rfl⟩ (fun v H3 sm3 hv => by cases hv.nonE; exact q _ _ (sm.trans sm3) .non)
theorem ok_axes_reason (T : Txt K mg) (VL : FoR → LkR → Prop) : Has P w K mg base 2 "axes_reason" ps_axes_reason (spD (fFvB (cs mg) VL)) := by
  obtain ⟨_, _, _, _, _, _, _, _, _, _, _, _, _, _, cF⟩ := T.c_Font
  have clF := cF.cl
  have naF := cF.na
  have h_many_reason := ok_many_reason (P := P) (w := w) (base := base) T
  refine has_of T.d_axes_reason sc_axes_reason bd_axes_reason (fun vs H Q E h => ?_) (fun f cdv A outer s H vs Q E hr h => ?_)
  · obtain ⟨S, ds, d, _, hd, ⟨fo, fok, fb, rfl, rfl⟩, _⟩ := h
    rw [hd.len]
    rfl
  · obtain ⟨S, ds, d, hS, hd, ⟨fo, fok, ⟨fb1, fb2, fb3⟩, rfl, rfl⟩, q⟩ := h
    obtain ⟨v1, _, rfl, h1, hd⟩ := hd.consE
    cases hd.nilE
    obtain ⟨fa, fdx, w1, w2, w3, w4, w5, w6, w7, w8, w9, rfl, fna, fA, j1, j2, j3, j4, j5, j6, j7, j8, j9⟩ := foE h1
    have j5 : Dq S H w5 (.list []) := by
      have e : (FoG.R fo).features = [] := by show fo.feats.map _ = []; rw [fb1]; rfl
      rw [e] at j5
      exact j5
    have j6 : Dq S H w6 (.list []) := by
      have e : (FoG.R fo).axes = [] := by show fo.axes.map _ = []; rw [fb2]; rfl
      rw [e] at j6
      exact j6
    have j7 : Dq S H w7 (.list []) := by
      have e : (FoG.R fo).regions = [] := by show fo.regs.map _ = []; rw [fb3]; rfl
      rw [e] at j7
      exact j7
    have jj := j6
    obtain ⟨b, xs, rfl, _, hb, hD⟩ := j6.lstE
    cases hD.nilE
    refine ⟨_, (pss_cons (ps_for PassesOwn.never rfl (piL (K := K) rfl (peFld (K := K) rfl (pv 0) rfl)) (pgT (n := 3) (K := K) rfl (by rfl) (pgs_cons (pg_name (i := 1) sc_axes_reason.nd rfl (.inl rfl)) (pgs_cons (pg_name (i := 2) sc_axes_reason.nd rfl (.inl rfl)) (pgs_cons (pg_name (i := 3) sc_axes_reason.nd rfl (.inl rfl)) pgs_nil))))
        pss_never)
      (pss_one (ps_ret (pe_h h_many_reason (hr.mono (by decide)) (pa_cons (peFld (K := K) rfl (pv 0) rfl) (pa_cons pe_int (pa_cons pe_int pa_nil))))))), ?_⟩
    walk_at "fl.w"
    refine forK_l (xs := []) (fun i σ' H' => σ' = L2.start N_axes_reason [.ref fa] ∧ H' = H) ⟨rfl, rfl⟩ (fun i σ' H' _ e => by rw [e.2]; exact SqL.of hb) (fun i x σ' H' hx => by simp at hx) (fun σ' H' e => ?_)
    obtain ⟨e, e2⟩ := e
    subst e e2
    walk_at "fl.w"
    exact spD_app S [.list [], .int 0, .int 3] .none hS (.cons jj (.cons (.int _) (.cons (.int _) .nil))) ⟨_, _, _, rfl, by decide, by decide, rfl⟩ (fun v H3 sm3 hv => by cases hv.nonE; exact q _ _ sm3 .non)
theorem ok_regions_reason (T : Txt K mg) (VL : FoR → LkR → Prop) : Has P w K mg base 2 "regions_reason" ps_regions_reason (spD (fFvB (cs mg) VL)) := by
  obtain ⟨_, _, _, _, _, _, _, _, _, _, _, _, _, _, cF⟩ := T.c_Font
  have clF := cF.cl
  have naF := cF.na
  have h_many_reason := ok_many_reason (P := P) (w := w) (base := base) T
  have h_is_tent := no_has (P := P) (w := w) (base := base) T.d_is_tent sc_is_tent bd_is_tent
  refine has_of T.d_regions_reason sc_regions_reason bd_regions_reason (fun vs H Q E h => ?_) (fun f cdv A outer s H vs Q E hr h => ?_)
  · obtain ⟨S, ds, d, _, hd, ⟨fo, fok, fb, rfl, rfl⟩, _⟩ := h
    rw [hd.len]
    rfl
  · obtain ⟨S, ds, d, hS, hd, ⟨fo, fok, ⟨fb1, fb2, fb3⟩, rfl, rfl⟩, q⟩ := h
    obtain ⟨v1, _, rfl, h1, hd⟩ := hd.consE
    cases hd.nilE
    obtain ⟨fa, fdx, w1, w2, w3, w4, w5, w6, w7, w8, w9, rfl, fna, fA, j1, j2, j3, j4, j5, j6, j7, j8, j9⟩ := foE h1
    have j5 : Dq S H w5 (.list []) := by
      have e : (FoG.R fo).features = [] := by show fo.feats.map _ = []; rw [fb1]; rfl
      rw [e] at j5
      exact j5
    have j6 : Dq S H w6 (.list []) := by
      have e : (FoG.R fo).axes = [] := by show fo.axes.map _ = []; rw [fb2]; rfl
      rw [e] at j6
      exact j6
    have j7 : Dq S H w7 (.list []) := by
      have e : (FoG.R fo).regions = [] := by show fo.regs.map _ = []; rw [fb3]; rfl
      rw [e] at j7
      exact j7
    have jj := j7
    obtain ⟨b, xs, rfl, _, hb, hD⟩ := j7.lstE
    cases hD.nilE
    refine ⟨_, (pss_cons (ps_for PassesOwn.never rfl (piL (K := K) rfl (peFld (K := K) rfl (pv 0) rfl)) (pg_name (i := 1) sc_regions_reason.nd rfl (.inl rfl))
        pss_never)
      (pss_one (ps_ret (pe_h h_many_reason (hr.mono (by decide)) (pa_cons (peFld (K := K) rfl (pv 0) rfl) (pa_cons pe_int (pa_cons pe_int pa_nil))))))), ?_⟩
    walk_at "fl.w"
    refine forK_l (xs := []) (fun i σ' H' => σ' = L2.start N_regions_reason [.ref fa] ∧ H' = H) ⟨rfl, rfl⟩ (fun i σ' H' _ e => by rw [e.2]; exact SqL.of hb) (fun i x σ' H' hx => by simp at hx) (fun σ' H' e => ?_)
    obtain ⟨e, e2⟩ := e
    subst e e2
    walk_at "fl.w"
    exact spD_app S [.list [], .int 0, .int 8] .none hS (.cons jj (.cons (.int _) (.cons (.int _) .nil))) ⟨_, _, _, rfl, by decide, by decide, rfl⟩ (fun v H3 sm3 hv => by cases hv.nonE; exact q _ _ sm3 .non)
end

section
variable {P : Program} {w : World} {K : PySem.W.Frag} {mg : Str → Option Value} {base : Heap}
local macro_rules | `(tactic| walk_at "fl.t") => `(tactic| (with_reducible refine g_chainW ?_))
local macro_rules | `(tactic| walk_at "fl.t") => `(tactic| (with_reducible refine g_link1 ?_))
local macro_rules | `(tactic| walk_at "fl.t") => `(tactic| (with_reducible refine g_linkS ?_))
local macro_rules | `(tactic| walk_at "fl.t") => `(tactic| (with_reducible refine g_links ?_))
local macro_rules | `(tactic| walk_at "fl.t") => `(tactic| (with_reducible refine g_ifE ?_))
local macro_rules | `(tactic| walk_at "fl.w") => `(tactic| repeat walk_at "fl.t")
theorem i3E {S : List Addr} {H : Hp} {v : V} {t : Int × Int × Int} (h : Dq S H v (.tuple (i3 t))) : ∃ a, v = .ref a ∧ a ∉ S ∧ H a = some (.tup [.int t.1, .int t.2.1, .int t.2.2]) := by
  obtain ⟨a, xs, rfl, n, q, r⟩ := h.tupE
  obtain ⟨x1, w1, rfl, h1, r⟩ := r.consE
  obtain ⟨x2, w2, rfl, h2, r⟩ := r.consE
  obtain ⟨x3, w3, rfl, h3, r⟩ := r.consE
  cases r.nilE
  cases h1.intE
  cases h2.intE
  cases h3.intE
  exact ⟨a, rfl, n, q⟩
theorem ok_axes_reasonG (T : Txt K mg) (VL : FoR → LkR → Prop) : Has P w K mg base 2 "axes_reason" ps_axes_reason (spD (fFvG (cs mg) VL)) := by
  obtain ⟨_, _, _, _, _, _, _, _, _, _, _, _, _, _, cF⟩ := T.c_Font
  have clF := cF.cl
  have naF := cF.na
  have h_many_reason := ok_many_reason (P := P) (w := w) (base := base) T
  refine has_of T.d_axes_reason sc_axes_reason bd_axes_reason (fun vs H Q E h => ?_) (fun f cdv A outer s H vs Q E hr h => ?_)
  · obtain ⟨S, ds, d, _, hd, ⟨fo, fok, rfl, rfl⟩, _⟩ := h
    rw [hd.len]
    rfl
  · obtain ⟨S, ds, d, hS, hd, ⟨fo, fok, rfl, rfl⟩, q⟩ := h
    obtain ⟨v1, _, rfl, h1, hd⟩ := hd.consE
    cases hd.nilE
    obtain ⟨fa, fdx, w1, w2, w3, w4, w5, w6, w7, w8, w9, rfl, fna, fA, j1, j2, j3, j4, j5, j6, j7, j8, j9⟩ := foE h1
    have j6 : Dq S H w6 (.list (fo.axes.map fun t => .tuple (i3 t))) := by
      rw [← ltD_map]; exact j6
    have jj := j6
    obtain ⟨hz, hx⟩ := fok.ax
    obtain ⟨b, xs, rfl, _, hb, hD⟩ := j6.lstE
    refine ⟨_, (pss_cons (ps_for PassesOwn.never rfl (piL (K := K) rfl (peFld (K := K) rfl (pv 0) rfl)) (pgT (n := 3) (K := K) rfl (by rfl) (pgs_cons (pg_name (i := 1) sc_axes_reason.nd rfl (.inl rfl)) (pgs_cons (pg_name (i := 2) sc_axes_reason.nd rfl (.inl rfl)) (pgs_cons (pg_name (i := 3) sc_axes_reason.nd rfl (.inl rfl)) pgs_nil))))
        (pss_one (ps_if (pt_not (pt_links (pe_un un_neg (pe_gv (by rfl) T.g_FARTHEST)) (linkS op_le (pv 1) (linkS op_le (pv 2) (linkS op_le (pv 3) (link1 op_le (pe_gv (by rfl) T.g_FARTHEST)))))))
        pss_never
        pss_nil)))
      (pss_one (ps_ret (pe_h h_many_reason (hr.mono (by decide)) (pa_cons (peFld (K := K) rfl (pv 0) rfl) (pa_cons pe_int (pa_cons pe_int pa_nil))))))), ?_⟩
    walk_at "fl.w"
    refine forK_l (xs := xs) (fun i σ' H' => (∃ u1 u2 u3, σ' = [some (.ref fa), u1, u2, u3]) ∧ H' = H) ⟨⟨_, _, _, rfl⟩, rfl⟩ (fun i σ' H' _ e => by rw [e.2]; exact SqL.of hb) (fun i x σ' H' hxi e => ?_) (fun σ' H' e => ?_)
    · obtain ⟨⟨u1, u2, u3, e⟩, e2⟩ := e
      subst e e2
      obtain ⟨t, ht, dx⟩ := hD.getM hxi
      obtain ⟨p, rfl, np, hp⟩ := i3E dx
      obtain ⟨t1, t2, t3, t4⟩ := hx t (List.mem_of_getElem? ht)
      refine g_gtup (SqT.of hp) rfl ?_
      walk_at "fl.w"
      refine g_yesB t1 ?_
      walk_at "fl.w"
      refine g_yesB t2 ?_
      walk_at "fl.w"
      refine g_yesB t3 ?_
      walk_at "fl.w"
      rw [decide_eq_true t4]
      walk_at "fl.w"
      exact ⟨⟨_, _, _, rfl⟩, rfl⟩
    · obtain ⟨⟨u1, u2, u3, e⟩, e2⟩ := e
      subst e e2
      walk_at "fl.w"
      exact spD_app S [.list (fo.axes.map fun t => .tuple (i3 t)), .int 0, .int 3] .none hS (.cons jj (.cons (.int _) (.cons (.int _) .nil))) ⟨_, _, _, rfl, by rw [List.length_map]; omega, by rw [List.length_map]; omega, rfl⟩ (fun v H3 sm3 hv => by cases hv.nonE; exact q _ _ sm3 .non)
def fTe (ds : List PyData) (d : PyData) : Prop := ∃ t : Int × Int × Int, ds = [.tuple (i3 t)] ∧ tentOk t ∧ d = .bool true
theorem ok_is_tent (T : Txt K mg) : Has P w K mg base 1 "is_tent" ps_is_tent (spD fTe) := by
  refine has_of T.d_is_tent sc_is_tent bd_is_tent (fun vs H Q E h => ?_) (fun f cdv A outer s H vs Q E hr h => ?_)
  · obtain ⟨S, ds, d, _, hd, ⟨t, rfl, _⟩, _⟩ := h
    rw [hd.len]
    rfl
  · obtain ⟨S, ds, d, hS, hd, ⟨t, rfl, ⟨t1, t2, t3, t4, t5⟩, rfl⟩, q⟩ := h
    obtain ⟨v1, _, rfl, h1, hd⟩ := hd.consE
    cases hd.nilE
    obtain ⟨p, rfl, np, hp⟩ := i3E h1
    refine ⟨_, (pss_cons (ps_asg (pv 0) (pgT (n := 3) (K := K) rfl (by rfl) (pgs_cons (pg_name (i := 1) sc_is_tent.nd rfl (.inl rfl)) (pgs_cons (pg_name (i := 2) sc_is_tent.nd rfl (.inl rfl)) (pgs_cons (pg_name (i := 3) sc_is_tent.nd rfl (.inl rfl)) pgs_nil)))))
      (pss_cons (ps_if (pt_not (pt_links (pe_un un_neg pe_int) (linkS op_le (pv 1) (linkS op_le (pv 2) (linkS op_le (pv 3) (link1 op_le pe_int))))))
        (pss_one (ps_ret pe_bl))
        pss_nil)
      (pss_one (ps_ret (pe_or (pe_cmpR op_eq (pv 2) pe_int (nomark _)) (pe_or (pe_cmpR op_ge (pv 1) pe_int (nomark _)) (pe_one (pe_cmpR op_le (pv 3) pe_int (nomark _))))))))), ?_⟩
    walk_at "fl.w"
    refine g_yesB t1 ?_
    walk_at "fl.w"
    refine g_yesB t2 ?_
    walk_at "fl.w"
    refine g_yesB t3 ?_
    walk_at "fl.w"
    rw [decide_eq_true t4]
    walk_at "fl.w"
    by_cases z : t.2.1 = 0
    · rw [if_pos (decide_eq_true z)]
      exact q _ _ (L2.Same.refl _) (.bl _)
    rw [if_neg (fun e => z (of_decide_eq_true e))]
    walk_at "fl.w"
    by_cases z2 : 0 ≤ t.1
    · rw [if_pos (decide_eq_true z2)]
      exact q _ _ (L2.Same.refl _) (.bl _)
    rw [if_neg (fun e => z2 (of_decide_eq_true e))]
    walk_at "fl.w"
    rw [decide_eq_true (show t.2.2 ≤ 0 by omega)]
    exact q _ _ (L2.Same.refl _) (.bl _)
theorem ok_regions_reasonG (T : Txt K mg) (VL : FoR → LkR → Prop) : Has P w K mg base 2 "regions_reason" ps_regions_reason (spD (fFvG (cs mg) VL)) := by
  obtain ⟨_, _, _, _, _, _, _, _, _, _, _, _, _, _, cF⟩ := T.c_Font
  have clF := cF.cl
  have naF := cF.na
  have h_many_reason := ok_many_reason (P := P) (w := w) (base := base) T
  have h_is_tent := ok_is_tent (P := P) (w := w) (base := base) T
  refine has_of T.d_regions_reason sc_regions_reason bd_regions_reason (fun vs H Q E h => ?_) (fun f cdv A outer s H vs Q E hr h => ?_)
  · obtain ⟨S, ds, d, _, hd, ⟨fo, fok, rfl, rfl⟩, _⟩ := h
    rw [hd.len]
    rfl
  · obtain ⟨S, ds, d, hS, hd, ⟨fo, fok, rfl, rfl⟩, q⟩ := h
    obtain ⟨v1, _, rfl, h1, hd⟩ := hd.consE
    cases hd.nilE
    obtain ⟨fa, fdx, w1, w2, w3, w4, w5, w6, w7, w8, w9, rfl, fna, fA, j1, j2, j3, j4, j5, j6, j7, j8, j9⟩ := foE h1
    have j6 : Dq S H w6 (.list (fo.axes.map fun t => .tuple (i3 t))) := by
      rw [← ltD_map]; exact j6
    have j7 : Dq S H w7 (.list (fo.regs.map fun r => .list (r.map fun t => .tuple (i3 t)))) := by
      have e : PyData.list (fo.regs.map fun r => .list (r.map fun t => .tuple (i3 t))) = ouD3 (FoG.R fo).regions := by
        show _ = ouD3 (fo.regs.map fun r => r.map i3)
        unfold ouD3
        rw [List.map_map]
        congr 1
        apply List.map_congr_left
        intro r _
        exact (ltD_map i3 r).symm
      rw [e]
      exact j7
    have jj := j7
    obtain ⟨hz, hx⟩ := fok.re
    have hax := fok.ax.1
    obtain ⟨bx, ys, rfl, _, hbx, hX⟩ := j6.lstE
    have lX := hX.len
    rw [List.length_map] at lX
    obtain ⟨b, xs, rfl, _, hb, hD⟩ := j7.lstE
    refine ⟨_, (pss_cons (ps_for PassesOwn.never rfl (piL (K := K) rfl (peFld (K := K) rfl (pv 0) rfl)) (pg_name (i := 1) sc_regions_reason.nd rfl (.inl rfl))
        (pss_cons (ps_if (pt_cmpR op_ne (pe_callB (clLen (K := K) rfl) (by rfl) T.z_len (by decide +kernel) (pa_cons (pv 1) pa_nil)) (pe_callB (clLen (K := K) rfl) (by rfl) T.z_len (by decide +kernel) (pa_cons (peFld (K := K) rfl (pv 0) rfl) pa_nil)) (nomark _))
        pss_never
        pss_nil)
      (pss_one (ps_if (pt_not (pt_val (pe_callB (clAll (K := K) rfl rfl) (by rfl) T.z_all (by decide +kernel) (pa_cons (pe_lc (own := [("tent", 2)]) rfl sc_regions_reason.nd (piL (K := K) rfl (pv 1)) (blkOk_by (by kernel_rfl)) (fun _ _ _ _ _ => (pg_name (i := 2) sc_regions_reason.nd rfl (.inl rfl))) (fun _ _ _ _ _ => pts_nil) (fun _ _ _ _ _ => (pe_h h_is_tent (hr.mono (by decide)) (pa_cons (pv 2) pa_nil)))) pa_nil))))
        pss_never
        pss_nil))))
      (pss_one (ps_ret (pe_h h_many_reason (hr.mono (by decide)) (pa_cons (peFld (K := K) rfl (pv 0) rfl) (pa_cons pe_int (pa_cons pe_int pa_nil))))))), ?_⟩
    walk_at "fl.w"
    refine forK_l (xs := xs) (fun i σ' H' => (∃ u1, σ' = [some (.ref fa), u1, none]) ∧ Same H H') ⟨⟨_, rfl⟩, L2.Same.refl _⟩ (fun i σ' H' _ e => SqL.of (e.2 _ _ hb)) (fun i x σ' H' hxi e => ?_) (fun σ' H' e => ?_)
    · obtain ⟨⟨u1, e⟩, sm⟩ := e
      subst e
      obtain ⟨r, hr', dx⟩ := hD.getM hxi
      obtain ⟨rl, rt⟩ := hx r (List.mem_of_getElem? hr')
      have dx := dx.same sm
      have dx' := dx
      obtain ⟨ra, rs, rfl, nr, hra, hR⟩ := dx.lstE
      have lr := hR.len
      rw [List.length_map] at lr
      have fA2 := sm _ _ fA
      have hbx2 := sm _ _ hbx
      walk_at "fl.w"
      refine g_iteN (fun h => absurd (show ((rs.length : Nat) : Int) = (ys.length : Nat) by omega) h) (fun _ => ?_)
      walk_at "fl.w"
      refine lcL (S := S) (fun i => (r[i]?).map fun _ => .bool true) (hS.same sm) dx' (by rw [List.length_map]; omega) ?_ ?_
      · intro D j y e G hD he smg al hye R N hR hN
        obtain ⟨t, ht, rfl⟩ := at_map he
        refine g_name ⟨rfl, ?_⟩
        walk_at "fl.w"
        refine spD_app (D :: S) [.tuple (i3 t)] (.bool true) al (.cons hye .nil) ⟨t, rfl, rt t (List.mem_of_getElem? ht), rfl⟩ (fun v G2 sm2 hv => ?_)
        exact hR _ _ _ (by rw [ht]; rfl) sm2 hv
      · intro D G smg hD dq
        rw [List.length_map, fm_ltA rfl] at dq
        walk_at "fl.w"
        refine allYes dq ?_
        walk_at "fl.w"
        exact ⟨⟨_, rfl⟩, sm.trans smg⟩
    · obtain ⟨⟨u1, e⟩, sm⟩ := e
      subst e
      have jj2 := jj.same sm
      have fA2 := sm _ _ fA
      walk_at "fl.w"
      exact spD_app S [.list (fo.regs.map fun r => .list (r.map fun t => .tuple (i3 t))), .int 0, .int 8] .none (hS.same sm) (.cons jj2 (.cons (.int _) (.cons (.int _) .nil))) ⟨_, _, _, rfl, by rw [List.length_map]; omega, by rw [List.length_map]; omega, rfl⟩ (fun v H3 sm3 hv => by cases hv.nonE; exact q _ _ (sm.trans sm3) .non)
end

section
variable {P : Program} {w : World} {K : PySem.W.Frag} {mg : Str → Option Value} {base : Heap}
local macro_rules | `(tactic| walk_at "fl.t") => `(tactic| (with_reducible refine g_chainW ?_))
local macro_rules | `(tactic| walk_at "fl.t") => `(tactic| (with_reducible refine g_ifE ?_))
local macro_rules | `(tactic| walk_at "fl.w") => `(tactic| repeat walk_at "fl.t")
def fFvC (c : Cs) (VL : FoR → LkR → Prop) (ds : List PyData) (d : PyData) : Prop := ∃ f : FoG, f.Ok VL ∧ f.feats = [] ∧ ds = [foD c f.R] ∧ d = .none
theorem ok_features_reasonC (T : Txt K mg) (VL : FoR → LkR → Prop) : Has P w K mg base 2 "features_reason" ps_features_reason (spD (fFvC (cs mg) VL)) := by
  obtain ⟨_, _, _, _, _, _, _, _, _, _, _, _, _, _, cF⟩ := T.c_Font
  have clF := cF.cl
  have naF := cF.na
  have h_many_reason := ok_many_reason (P := P) (w := w) (base := base) T
  have h_is_row_of_letters := no_has (P := P) (w := w) (base := base) T.d_is_row_of_letters sc_is_row_of_letters bd_is_row_of_letters
  have h_is_rising := no_has (P := P) (w := w) (base := base) T.d_is_rising sc_is_rising bd_is_rising
  refine has_of T.d_features_reason sc_features_reason bd_features_reason (fun vs H Q E h => ?_) (fun f cdv A outer s H vs Q E hr h => ?_)
  · obtain ⟨S, ds, d, _, hd, ⟨fo, fok, fb, rfl, rfl⟩, _⟩ := h
    rw [hd.len]
    rfl
  · obtain ⟨S, ds, d, hS, hd, ⟨fo, fok, fb1, rfl, rfl⟩, q⟩ := h
    obtain ⟨v1, _, rfl, h1, hd⟩ := hd.consE
    cases hd.nilE
    obtain ⟨fa, fdx, w1, w2, w3, w4, w5, w6, w7, w8, w9, rfl, fna, fA, j1, j2, j3, j4, j5, j6, j7, j8, j9⟩ := foE h1
    have j5 : Dq S H w5 (.list []) := by
      have e : (FoG.R fo).features = [] := by show fo.feats.map _ = []; rw [fb1]; rfl
      rw [e] at j5
      exact j5
    have j5' := j5
    obtain ⟨b, xs, rfl, _, hb, hD⟩ := j5'.lstE
    cases hD.nilE
    refine ⟨_, (pss_cons (ps_setLc (i := 2) (own := [("name", 1), ("_", 4)]) rfl sc_features_reason.nd rfl rfl (sw_true rfl rfl rfl (by decide +kernel)) (piL (K := K) rfl (peFld (K := K) rfl (pv 0) rfl)) (blkOk_by (by kernel_rfl)) (fun _ _ _ _ _ => (pgT (n := 2) (K := K) rfl (by rfl) (pgs_cons (pg_name (i := 1) sc_features_reason.nd rfl (.inl rfl)) (pgs_cons (pg_name (i := 4) sc_features_reason.nd rfl (.inl rfl)) pgs_nil)))) (fun _ _ _ _ _ => pts_nil) (fun _ _ _ _ _ => (pv 1)))
      (pss_cons (ps_if (pt_cmpR op_lt (RZ.pe_lenSetI (by rfl) T.z_len (by rfl) T.z_set (pv 2)) (pe_callB (clLen (K := K) rfl) (by rfl) T.z_len (by decide +kernel) (pa_cons (pv 2) pa_nil)) (nomark _))
        pss_never
        pss_nil)
      (pss_cons (ps_for PassesOwn.never rfl (piL (K := K) rfl (peFld (K := K) rfl (pv 0) rfl)) (pgT (n := 2) (K := K) rfl (by rfl) (pgs_cons (pg_name (i := 1) sc_features_reason.nd rfl (.inl rfl)) (pgs_cons (pg_name (i := 3) sc_features_reason.nd rfl (.inl rfl)) pgs_nil)))
        pss_never)
      (pss_one (ps_ret (pe_h h_many_reason (hr.mono (by decide)) (pa_cons (peFld (K := K) rfl (pv 0) rfl) (pa_cons pe_int (pa_cons pe_int pa_nil))))))))), ?_⟩
    walk_at "fl.w"
    refine lcNil hS j5 (fun D H2 sm hq => ?_)
    have fA2 := sm _ _ fA
    have hb2 := sm _ _ hb
    have j52 := j5.same sm
    have hS2 := hS.same sm
    obtain ⟨b2, ys, e, _, hb3, hD2⟩ := hq.lstE
    cases e
    cases hD2.nilE
    walk_at "fl.w"
    unfold RZ.tLenSetI
    walk_at "fl.w"
    refine ⟨D, [], rfl, SqL.of hb3, .nil, by decide, ?_⟩
    walk_at "fl.w"
    refine g_noB (by decide) ?_
    walk_at "fl.w"
    refine forK_l (xs := []) (fun i σ' H' => σ' = (L2.start N_features_reason [.ref fa]).set 2 (some (.ref D)) ∧ H' = H2) ⟨rfl, rfl⟩ (fun i σ' H' _ e => by rw [e.2]; exact SqL.of hb2) (fun i x σ' H' hx => by simp at hx) (fun σ' H' e => ?_)
    obtain ⟨e, e2⟩ := e
    subst e e2
    walk_at "fl.w"
    exact spD_app S [.list [], .int 0, .int 12] .none hS2 (.cons j52 (.cons (.int _) (.cons (.int _) .nil))) ⟨_, _, _, rfl, by decide, by decide, rfl⟩ (fun v H3 sm3 hv => by cases hv.nonE; exact q _ _ (sm.trans sm3) .non)
theorem ok_first_faultC (T : Txt K mg) (I : WoK K w mg) (VL : FoR → LkR → Prop) (h_lookup_reason : Has P w K mg base 4 "lookup_reason" ps_lookup_reason (spD (fLkr (cs mg) VL))) : Has P w K mg base 6 "first_fault" ps_first_fault (spD (fFvC (cs mg) VL)) := by
  obtain ⟨_, _, _, _, _, _, _, _, _, _, _, _, _, _, cF⟩ := T.c_Font
  have clF := cF.cl
  have naF := cF.na
  have h_unit_reason := ok_unit_reason (P := P) (w := w) (base := base) T VL
  have h_placed := ok_placed (P := P) (w := w) (base := base) T
  have h_many_reason := ok_many_reason (P := P) (w := w) (base := base) T
  have h_first_glyph_fault := ok_first_glyph_fault (P := P) (w := w) (base := base) T I VL
  have h_parts_reason := ok_parts_reason (P := P) (w := w) (base := base) T VL
  have h_chars_reason := ok_chars_reason (P := P) (w := w) (base := base) T VL
  have h_first_lookup_fault := ok_first_lookup_fault (P := P) (base := base) T VL h_lookup_reason
  have h_features_reason := ok_features_reasonC (P := P) (w := w) (base := base) T VL
  have h_axes_reason := ok_axes_reasonG (P := P) (w := w) (base := base) T VL
  have h_regions_reason := ok_regions_reasonG (P := P) (w := w) (base := base) T VL
  have h_functions_reason := ok_functions_reason (P := P) (w := w) (base := base) T I VL
  have h_presets_reason := ok_presets_reason (P := P) (w := w) (base := base) T VL
  refine has_of T.d_first_fault sc_first_fault bd_first_fault (fun vs H Q E h => ?_) (fun f cdv A outer s H vs Q E hr h => ?_)
  · obtain ⟨S, ds, d, _, hd, ⟨fo, fok, fb, rfl, rfl⟩, _⟩ := h
    rw [hd.len]
    rfl
  · obtain ⟨S, ds, d, hS_0, hd, ⟨fo, fok, fb, rfl, rfl⟩, q⟩ := h
    obtain ⟨v1, _, rfl, h1_0, hd⟩ := hd.consE
    cases hd.nilE
    obtain ⟨fa, fdx, w1, w2, w3, w4, w5, w6, w7, w8, w9, rfl, fna, fA_0, j1, j2, j3, j4, j5, j6, j7, j8, j9⟩ := foE h1_0
    refine ⟨_, (pss_one (ps_ret (peOrT (K := K) rfl (pe_h h_placed (hr.mono (by decide)) (pa_cons pe_str (pa_cons (pe_h h_unit_reason (hr.mono (by decide)) (pa_cons (pv 0) pa_nil)) pa_nil))) (peOrT (K := K) rfl (pe_h h_placed (hr.mono (by decide)) (pa_cons pe_str (pa_cons (pe_h h_many_reason (hr.mono (by decide)) (pa_cons (peFld (K := K) rfl (pv 0) rfl) (pa_cons pe_int (pa_cons pe_int pa_nil)))) pa_nil))) (peOrT (K := K) rfl (pe_h h_first_glyph_fault (hr.mono (by decide)) (pa_cons (pv 0) pa_nil)) (peOrT (K := K) rfl (pe_h h_placed (hr.mono (by decide)) (pa_cons pe_str (pa_cons (pe_h h_parts_reason (hr.mono (by decide)) (pa_cons (pv 0) pa_nil)) pa_nil))) (peOrT (K := K) rfl (pe_h h_placed (hr.mono (by decide)) (pa_cons pe_str (pa_cons (pe_h h_chars_reason (hr.mono (by decide)) (pa_cons (pv 0) pa_nil)) pa_nil))) (peOrT (K := K) rfl (pe_h h_placed (hr.mono (by decide)) (pa_cons pe_str (pa_cons (pe_h h_many_reason (hr.mono (by decide)) (pa_cons (peFld (K := K) rfl (pv 0) rfl) (pa_cons pe_int (pa_cons pe_int pa_nil)))) pa_nil))) (peOrT (K := K) rfl (pe_h h_first_lookup_fault (hr.mono (by decide)) (pa_cons (pv 0) pa_nil)) (peOrT (K := K) rfl (pe_h h_placed (hr.mono (by decide)) (pa_cons pe_str (pa_cons (pe_h h_features_reason (hr.mono (by decide)) (pa_cons (pv 0) pa_nil)) pa_nil))) (peOrT (K := K) rfl (pe_h h_placed (hr.mono (by decide)) (pa_cons pe_str (pa_cons (pe_h h_axes_reason (hr.mono (by decide)) (pa_cons (pv 0) pa_nil)) pa_nil))) (peOrT (K := K) rfl (pe_h h_placed (hr.mono (by decide)) (pa_cons pe_str (pa_cons (pe_h h_regions_reason (hr.mono (by decide)) (pa_cons (pv 0) pa_nil)) pa_nil))) (peOrT (K := K) rfl (pe_h h_placed (hr.mono (by decide)) (pa_cons pe_str (pa_cons (pe_h h_functions_reason (hr.mono (by decide)) (pa_cons (pv 0) pa_nil)) pa_nil))) (pe_one (pe_h h_placed (hr.mono (by decide)) (pa_cons pe_str (pa_cons (pe_h h_presets_reason (hr.mono (by decide)) (pa_cons (pv 0) pa_nil)) pa_nil))))))))))))))))), ?_⟩
    walk_at "fl.w"
    refine spD_app S [foD (cs mg) fo.R] .none hS_0 (.cons h1_0 .nil) ⟨fo, fok, rfl, rfl⟩ (fun v G1 sm1 hv => ?_)
    cases hv.nonE
    have smA_1 : Same H G1 := sm1
    have h1_1 := h1_0.same sm1
    have hS_1 := hS_0.same sm1
    have fA_1 := sm1 _ _ fA_0
    walk_at "fl.w"
    refine spD_app S [.str _, .none] .none hS_1 (.cons (.str _) (.cons .non .nil)) ⟨_, rfl, rfl⟩ (fun v G2 sm2 hv => ?_)
    cases hv.nonE
    have smA_2 : Same H G2 := smA_1.trans sm2
    have h1_2 := h1_1.same sm2
    have hS_2 := hS_1.same sm2
    have fA_2 := sm2 _ _ fA_1
    walk_at "fl.w"
    have j2_2 := j2.same smA_2
    refine spD_app S [.list ((fo.glyphs.map GlG.R).map (glD (cs mg))), .int 1, .int 60] .none hS_2 (.cons j2_2 (.cons (.int _) (.cons (.int _) .nil))) ⟨_, _, _, rfl, by rw [List.length_map, List.length_map]; have := fok.gl; omega, by rw [List.length_map, List.length_map]; have := fok.gl; omega, rfl⟩ (fun v G3 sm3 hv => ?_)
    cases hv.nonE
    have smA_3 : Same H G3 := smA_2.trans sm3
    have h1_3 := h1_2.same sm3
    have hS_3 := hS_2.same sm3
    have fA_3 := sm3 _ _ fA_2
    walk_at "fl.w"
    refine spD_app S [.str _, .none] .none hS_3 (.cons (.str _) (.cons .non .nil)) ⟨_, rfl, rfl⟩ (fun v G4 sm4 hv => ?_)
    cases hv.nonE
    have smA_4 : Same H G4 := smA_3.trans sm4
    have h1_4 := h1_3.same sm4
    have hS_4 := hS_3.same sm4
    have fA_4 := sm4 _ _ fA_3
    walk_at "fl.w"
    refine spD_app S [foD (cs mg) fo.R] .none hS_4 (.cons h1_4 .nil) ⟨fo, fok, rfl, rfl⟩ (fun v G5 sm5 hv => ?_)
    cases hv.nonE
    have smA_5 : Same H G5 := smA_4.trans sm5
    have h1_5 := h1_4.same sm5
    have hS_5 := hS_4.same sm5
    have fA_5 := sm5 _ _ fA_4
    walk_at "fl.w"
    refine spD_app S [foD (cs mg) fo.R] .none hS_5 (.cons h1_5 .nil) ⟨fo, fok, rfl, rfl⟩ (fun v G6 sm6 hv => ?_)
    cases hv.nonE
    have smA_6 : Same H G6 := smA_5.trans sm6
    have h1_6 := h1_5.same sm6
    have hS_6 := hS_5.same sm6
    have fA_6 := sm6 _ _ fA_5
    walk_at "fl.w"
    refine spD_app S [.str _, .none] .none hS_6 (.cons (.str _) (.cons .non .nil)) ⟨_, rfl, rfl⟩ (fun v G7 sm7 hv => ?_)
    cases hv.nonE
    have smA_7 : Same H G7 := smA_6.trans sm7
    have h1_7 := h1_6.same sm7
    have hS_7 := hS_6.same sm7
    have fA_7 := sm7 _ _ fA_6
    walk_at "fl.w"
    refine spD_app S [foD (cs mg) fo.R] .none hS_7 (.cons h1_7 .nil) ⟨fo, fok, rfl, rfl⟩ (fun v G8 sm8 hv => ?_)
    cases hv.nonE
    have smA_8 : Same H G8 := smA_7.trans sm8
    have h1_8 := h1_7.same sm8
    have hS_8 := hS_7.same sm8
    have fA_8 := sm8 _ _ fA_7
    walk_at "fl.w"
    refine spD_app S [.str _, .none] .none hS_8 (.cons (.str _) (.cons .non .nil)) ⟨_, rfl, rfl⟩ (fun v G9 sm9 hv => ?_)
    cases hv.nonE
    have smA_9 : Same H G9 := smA_8.trans sm9
    have h1_9 := h1_8.same sm9
    have hS_9 := hS_8.same sm9
    have fA_9 := sm9 _ _ fA_8
    walk_at "fl.w"
    have j4_9 := j4.same smA_9
    refine spD_app S [.list (fo.lks.map (lkD (cs mg))), .int 0, .int 20] .none hS_9 (.cons j4_9 (.cons (.int _) (.cons (.int _) .nil))) ⟨_, _, _, rfl, by omega, by rw [List.length_map]; have := fok.lz; omega, rfl⟩ (fun v G10 sm10 hv => ?_)
    cases hv.nonE
    have smA_10 : Same H G10 := smA_9.trans sm10
    have h1_10 := h1_9.same sm10
    have hS_10 := hS_9.same sm10
    have fA_10 := sm10 _ _ fA_9
    walk_at "fl.w"
    refine spD_app S [.str _, .none] .none hS_10 (.cons (.str _) (.cons .non .nil)) ⟨_, rfl, rfl⟩ (fun v G11 sm11 hv => ?_)
    cases hv.nonE
    have smA_11 : Same H G11 := smA_10.trans sm11
    have h1_11 := h1_10.same sm11
    have hS_11 := hS_10.same sm11
    have fA_11 := sm11 _ _ fA_10
    walk_at "fl.w"
    refine spD_app S [foD (cs mg) fo.R] .none hS_11 (.cons h1_11 .nil) ⟨fo, fok, rfl, rfl⟩ (fun v G12 sm12 hv => ?_)
    cases hv.nonE
    have smA_12 : Same H G12 := smA_11.trans sm12
    have h1_12 := h1_11.same sm12
    have hS_12 := hS_11.same sm12
    have fA_12 := sm12 _ _ fA_11
    walk_at "fl.w"
    refine spD_app S [foD (cs mg) fo.R] .none hS_12 (.cons h1_12 .nil) ⟨fo, fok, fb, rfl, rfl⟩ (fun v G13 sm13 hv => ?_)
    cases hv.nonE
    have smA_13 : Same H G13 := smA_12.trans sm13
    have h1_13 := h1_12.same sm13
    have hS_13 := hS_12.same sm13
    have fA_13 := sm13 _ _ fA_12
    walk_at "fl.w"
    refine spD_app S [.str _, .none] .none hS_13 (.cons (.str _) (.cons .non .nil)) ⟨_, rfl, rfl⟩ (fun v G14 sm14 hv => ?_)
    cases hv.nonE
    have smA_14 : Same H G14 := smA_13.trans sm14
    have h1_14 := h1_13.same sm14
    have hS_14 := hS_13.same sm14
    have fA_14 := sm14 _ _ fA_13
    walk_at "fl.w"
    refine spD_app S [foD (cs mg) fo.R] .none hS_14 (.cons h1_14 .nil) ⟨fo, fok, rfl, rfl⟩ (fun v G15 sm15 hv => ?_)
    cases hv.nonE
    have smA_15 : Same H G15 := smA_14.trans sm15
    have h1_15 := h1_14.same sm15
    have hS_15 := hS_14.same sm15
    have fA_15 := sm15 _ _ fA_14
    walk_at "fl.w"
    refine spD_app S [.str _, .none] .none hS_15 (.cons (.str _) (.cons .non .nil)) ⟨_, rfl, rfl⟩ (fun v G16 sm16 hv => ?_)
    cases hv.nonE
    have smA_16 : Same H G16 := smA_15.trans sm16
    have h1_16 := h1_15.same sm16
    have hS_16 := hS_15.same sm16
    have fA_16 := sm16 _ _ fA_15
    walk_at "fl.w"
    refine spD_app S [foD (cs mg) fo.R] .none hS_16 (.cons h1_16 .nil) ⟨fo, fok, rfl, rfl⟩ (fun v G17 sm17 hv => ?_)
    cases hv.nonE
    have smA_17 : Same H G17 := smA_16.trans sm17
    have h1_17 := h1_16.same sm17
    have hS_17 := hS_16.same sm17
    have fA_17 := sm17 _ _ fA_16
    walk_at "fl.w"
    refine spD_app S [.str _, .none] .none hS_17 (.cons (.str _) (.cons .non .nil)) ⟨_, rfl, rfl⟩ (fun v G18 sm18 hv => ?_)
    cases hv.nonE
    have smA_18 : Same H G18 := smA_17.trans sm18
    have h1_18 := h1_17.same sm18
    have hS_18 := hS_17.same sm18
    have fA_18 := sm18 _ _ fA_17
    walk_at "fl.w"
    refine spD_app S [foD (cs mg) fo.R] .none hS_18 (.cons h1_18 .nil) ⟨fo, fok, rfl, rfl⟩ (fun v G19 sm19 hv => ?_)
    cases hv.nonE
    have smA_19 : Same H G19 := smA_18.trans sm19
    have h1_19 := h1_18.same sm19
    have hS_19 := hS_18.same sm19
    have fA_19 := sm19 _ _ fA_18
    walk_at "fl.w"
    refine spD_app S [.str _, .none] .none hS_19 (.cons (.str _) (.cons .non .nil)) ⟨_, rfl, rfl⟩ (fun v G20 sm20 hv => ?_)
    cases hv.nonE
    have smA_20 : Same H G20 := smA_19.trans sm20
    have h1_20 := h1_19.same sm20
    have hS_20 := hS_19.same sm20
    have fA_20 := sm20 _ _ fA_19
    walk_at "fl.w"
    refine spD_app S [foD (cs mg) fo.R] .none hS_20 (.cons h1_20 .nil) ⟨fo, fok, rfl, rfl⟩ (fun v G21 sm21 hv => ?_)
    cases hv.nonE
    have smA_21 : Same H G21 := smA_20.trans sm21
    have h1_21 := h1_20.same sm21
    have hS_21 := hS_20.same sm21
    have fA_21 := sm21 _ _ fA_20
    walk_at "fl.w"
    refine spD_app S [.str _, .none] .none hS_21 (.cons (.str _) (.cons .non .nil)) ⟨_, rfl, rfl⟩ (fun v G22 sm22 hv => ?_)
    cases hv.nonE
    have smA_22 : Same H G22 := smA_21.trans sm22
    have h1_22 := h1_21.same sm22
    have hS_22 := hS_21.same sm22
    have fA_22 := sm22 _ _ fA_21
    walk_at "fl.w"
    exact q _ _ smA_22 .non
end

section
variable {P : Program} {w : World} {K : PySem.W.Frag} {mg : Str → Option Value} {base : Heap}
theorem g_gsubQ {ta tb : TE} {v : V} {σ : L2.St} {H : Hp} {Q : L2.St → Hp → Prop} (h : ta σ H fun o H2 => tb σ H2 fun i H3 => rSetL o i v H3 fun H4 => Q σ H4) : gSub ta tb rSetL v σ H Q := h
local macro_rules | `(tactic| walk_at "fl.t") => `(tactic| (with_reducible refine g_gsubQ ?_))
local macro_rules | `(tactic| walk_at "fl.w") => `(tactic| repeat walk_at "fl.t")
theorem ok_law_deck (T : Txt K mg) : Has P w K mg base 1 "_law_deck" ps_law_deck (spDk K) := by
  refine has_of T.d_law_deck sc_law_deck bd_law_deck (fun vs H Q E h => ?_) (fun f cdv A outer s H vs Q E hr h => ?_)
  · obtain ⟨a, ns, rfl, _⟩ := h
    rfl
  · obtain ⟨a, ns, rfl, hS, q⟩ := h
    refine ⟨_, (pss_one (ps_ret (pe_lst (pa_cons (pe_callTy (clList (K := K) rfl) (by rfl) T.z_list (by decide +kernel) (pa_cons (pv 0) pa_nil)) (pa_cons pe_int (pa_cons pe_int (pa_cons pe_int pa_nil))))))), ?_⟩
    walk_at "fl.go"
    rename_i l hl d hd
    have hd' : H d = none := Same.free (Fl.Same.new hl) hd
    have hne : l ≠ d := fun e => by
      rw [← e, upd_same] at hd
      cases hd
    exact q d l _ ((Fl.Same.new hl).trans (Fl.Same.new hd)) ⟨hne, raw_new hd upd_same, 0, 0, 7, upd_same, Int.le_refl 0⟩
theorem ok_law_draw (T : Txt K mg) : Has P w K mg base 1 "_law_draw" ps_law_draw spDr := by
  refine has_of T.d_law_draw sc_law_draw bd_law_draw (fun vs H Q E h => ?_) (fun f cdv A outer s H vs Q E hr h => ?_)
  · obtain ⟨d, s, ns, m, rfl, _⟩ := h
    rfl
  · obtain ⟨d, sa, ns, m, rfl, ⟨hne, hs, pos, rest, seed, hd, hpos⟩, hm, hm2, q⟩ := h
    refine ⟨_, (pss_cons (ps_if (pt_cmpR op_ge (pe_ix (ixL (K := K) rfl) (pv 0) pe_int (fun _ _ => rfl)) (pv 1) (nomark _))
        (pss_cons (ps_set (i := 2) sc_law_draw.nd rfl (.inl rfl) (pe_op op_mod (pe_callTy call_int' (by rfl) T.z_int (by decide +kernel) (pa_cons (pe_ix (ixL (K := K) rfl) (pv 0) pe_int (fun _ _ => rfl)) pa_nil)) (pv 1)))
      (pss_cons (ps_asg (pe_op op_fdivW (pe_ix (ixL (K := K) rfl) (pv 0) pe_int (fun _ _ => rfl)) (pv 1)) (pg_sub (pv 0) pe_int set_list))
      (pss_one (ps_ret (pv 2)))))
        pss_nil)
      (pss_cons (ps_set (i := 3) sc_law_draw.nd rfl (.inl rfl) pe_int)
      (pss_cons (ps_if (pt_cmpR op_lt (pe_ix (ixL (K := K) rfl) (pv 0) pe_int (fun _ _ => rfl)) (pe_callB (clLen (K := K) rfl) (by rfl) T.z_len (by decide +kernel) (pa_cons (pe_ix (ixL (K := K) rfl) (pv 0) pe_int (fun _ _ => rfl)) pa_nil)) (nomark _))
        (pss_one (ps_set (i := 3) sc_law_draw.nd rfl (.inl rfl) (pe_ix (ixL (K := K) rfl) (pe_ix (ixL (K := K) rfl) (pv 0) pe_int (fun _ _ => rfl)) (pe_ix (ixL (K := K) rfl) (pv 0) pe_int (fun _ _ => rfl)) (fun _ _ => rfl))))
        pss_nil)
      (pss_cons (ps_asg (pe_op op_add (pe_ix (ixL (K := K) rfl) (pv 0) pe_int (fun _ _ => rfl)) pe_int) (pg_sub (pv 0) pe_int set_list))
      (pss_cons (ps_asg pe_int (pg_sub (pv 0) pe_int set_list))
      (pss_cons (ps_if (pt_cmpR op_ge (pv 3) (pe_powc (r := 1000000000000000000) (by decide) (by decide +kernel)) (nomark _))
        (pss_cons (ps_asg (pe_op op_fdivW (pv 3) (pv 1)) (pg_sub (pv 0) pe_int set_list))
      (pss_one (ps_ret (pe_op op_mod (pe_callTy call_int' (by rfl) T.z_int (by decide +kernel) (pa_cons (pv 3) pa_nil)) (pv 1)))))
        pss_nil)
      (pss_cons (ps_asg (pe_op op_mod (pe_callTy call_int' (by rfl) T.z_int (by decide +kernel) (pa_cons (pe_op op_add (pe_op op_add (pe_op op_mul (pe_ix (ixL (K := K) rfl) (pv 0) pe_int (fun _ _ => rfl)) pe_int) (pe_op op_mul (pv 3) pe_int)) (pe_op op_mul (pe_ix (ixL (K := K) rfl) (pv 0) pe_int (fun _ _ => rfl)) pe_int)) pa_nil)) pe_int) (pg_sub (pv 0) pe_int set_list))
      (pss_cons (ps_asg (pe_op op_mod (pe_callTy call_int' (by rfl) T.z_int (by decide +kernel) (pa_cons (pe_op op_add (pe_op op_mul (pe_ix (ixL (K := K) rfl) (pv 0) pe_int (fun _ _ => rfl)) pe_int) pe_int) pa_nil)) pe_int) (pg_sub (pv 0) pe_int set_list))
      (pss_one (ps_ret (pe_op op_mod (pe_callTy call_int' (by rfl) T.z_int (by decide +kernel) (pa_cons (pe_op op_fdivW (pe_ix (ixL (K := K) rfl) (pv 0) pe_int (fun _ _ => rfl)) pe_int) pa_nil)) (pv 1)))))))))))), ?_⟩
    have hlen : (ns.map V.int).length = ns.length := List.length_map _
    have fin : ∀ (x p r z : Int) (H' : Hp), H' d = some (.lst [.ref sa, .int p, .int r, .int z]) → 0 ≤ p → On d H H' → Q (.int (x % m)) H' := fun x p r z H' e hp ho =>
      q _ _ (Int.emod_nonneg _ (by omega)) (Int.emod_lt_of_pos _ hm) ⟨hne, raw_on ho hne hs, p, r, z, e, hp⟩ ho
    rcases (by omega : pos < ns.length ∨ ¬ pos < ns.length) with hp | hp
    · obtain ⟨n, hn⟩ := at_int hpos hp
      walk_at "fl.wr"
      all_goals first
        | (exfalso; omega)
        | exact fin _ _ _ _ _ upd_same (by omega) (by intro b hb; simp only [upd_ne hb])
    · walk_at "fl.wr"
      all_goals first
        | (exfalso; omega)
        | exact fin _ _ _ _ _ upd_same (by omega) (by intro b hb; simp only [upd_ne hb])
theorem body_ratio (T : Txt K mg) (f : Addr) (cdv : Value) (A : Around) (outer : List Env) (s : Shared) (H : Hp) (vs : List V) (Q : VK) (E : XK)
    (hr : Room 0 (A.deeper (envOfC "ratio" (defScope s_ratio) s.heap.objs.size f cdv))) (h : spRatq K vs H Q E) :
      ∃ t, PSs (bx P w K mg base N_ratio "ratio" s_ratio f cdv A outer s H E) (defBody s_ratio) t ∧ t { nx := fun _ H' => Q .non H', rt := Q } (start N_ratio vs) H := by
  obtain ⟨p, q, rfl, hq, h1, h2, k⟩ := h
  refine ⟨_, (pss_cons (ps_if (pt_cmpR op_eq (pv 1) pe_int (nomark _))
        pss_never
        pss_nil)
      (pss_cons (ps_set (i := 2) sc_ratio.nd rfl (.inl rfl) (pe_callBfun cr_gcd (by rfl) T.g_gcd (pa_cons (pv 0) (pa_cons (pv 1) pa_nil))))
      (pss_cons (ps_if (pt_cmpR op_lt (pv 1) pe_int (nomark _))
        (pss_one (ps_set (i := 2) sc_ratio.nd rfl (.inl rfl) (pe_un un_neg (pv 2))))
        pss_nil)
      (pss_one (ps_ret (pe_tup (pa_cons (pe_op op_fdivS (pv 0) (pv 2)) (pa_cons (pe_op op_fdivS (pv 1) (pv 2)) pa_nil)))))))), ?_⟩
  have hg0 := gg_pos (p := p) hq
  have hg1 : (gg p q).natAbs < 2 ^ 4000 := by
    have := Nat.gcd_le_right p.natAbs (show 0 < q.natAbs by omega)
    have e : (2 : Nat) ^ 1900 < 2 ^ 4000 := by decide +kernel
    have hg : gg p q = ((Nat.gcd p.natAbs q.natAbs : Nat) : Int) := rfl
    omega
  have hn0 : gg p q ≠ 0 := by omega
  have hn1 : -(gg p q) ≠ 0 := by omega
  have hn2 : (-(gg p q)).natAbs < 2 ^ 4000 := by omega
  have e1 := rp_num (p := p) hq
  have e2 := rq_den (p := p) hq
  unfold rp at e1
  unfold rq at e2
  walk_at "fl.go"
  refine g_ite (fun z => absurd z hq) (fun _ => ?_)
  walk_at "fl.go"
  refine g_ite (fun hlt => ?_) (fun hlt => ?_)
  · rw [if_pos hlt] at e1 e2
    change ((Nat.gcd p.natAbs q.natAbs : Nat) : Int) ≠ 0 at hn0
    walk_at "fl.go"
    rename_i t ht
    refine k t _ ht (Fl.Same.new ht) ?_
    unfold RV
    rw [← e1, ← e2, ← fdiv_neg_exact hg0 (gg_dvd_l p q), ← fdiv_neg_exact hg0 (gg_dvd_r p q)]
    exact SqT.of upd_same
  · rw [if_neg hlt] at e1 e2
    walk_at "fl.go"
    rename_i t ht
    refine k t _ ht (Fl.Same.new ht) ?_
    unfold RV
    rw [← e1, ← e2, ← fdiv_pos_exact hg0, ← fdiv_pos_exact hg0]
    exact SqT.of upd_same
theorem ok_add (T : Txt K mg) : Has P w K mg base 2 "add" ps_add (spBin K (fun x y => x + y) (fun x y => True)) := by
  have h_ratio_2 : HasD P w K mg base 1 "ratio" ps_ratio [] (spRatq K) := hasD_of T.d_ratio sc_ratio 2 1 (by decide) rfl bd_ratio_2 (fun vs H Q E h => by obtain ⟨_, _, rfl, _⟩ := h; rfl) (body_ratio T)
  refine has_of T.d_add sc_add bd_add (fun vs H Q E h => ?_) (fun f cdv A outer s H vs Q E hr h => ?_)
  · obtain ⟨a, b, x, y, rfl, _⟩ := h
    rfl
  · obtain ⟨a, b, x, y, rfl, ha, hb, mx, my, hp, k⟩ := h
    refine ⟨_, (pss_one (ps_ret (pe_hD h_ratio_2 (hr.mono (by decide)) (pa_cons (pe_op op_add (pe_op op_mulW (pe_ix (ixT (K := K) rfl) (pv 0) pe_int (fun _ _ => rfl)) (pe_ix (ixT (K := K) rfl) (pv 1) pe_int (fun _ _ => rfl))) (pe_op op_mulW (pe_ix (ixT (K := K) rfl) (pv 1) pe_int (fun _ _ => rfl)) (pe_ix (ixT (K := K) rfl) (pv 0) pe_int (fun _ _ => rfl)))) (pa_cons (pe_op op_mulW (pe_ix (ixT (K := K) rfl) (pv 0) pe_int (fun _ _ => rfl)) (pe_ix (ixT (K := K) rfl) (pv 1) pe_int (fun _ _ => rfl))) pa_nil))))), ?_⟩
    have ha' := ha.sq
    have hb' := hb.sq
    obtain ⟨x1, x2⟩ := mx.big
    obtain ⟨y1, y2⟩ := my.big
    obtain ⟨c1, c2, c3, c4, c5, c6⟩ := md_cross mx my
    have z0 : (x.den : Int) * y.den ≠ 0 := Int.mul_ne_zero (den0 x) (den0 y)
    walk_at "fl.go"
    rename_i t H' ht hs hv
    rw [add_div] at hv
    exact k t H' ht hs hv
theorem ok_subtract (T : Txt K mg) : Has P w K mg base 2 "subtract" ps_subtract (spBin K (fun x y => x - y) (fun x y => True)) := by
  have h_ratio_2 : HasD P w K mg base 1 "ratio" ps_ratio [] (spRatq K) := hasD_of T.d_ratio sc_ratio 2 1 (by decide) rfl bd_ratio_2 (fun vs H Q E h => by obtain ⟨_, _, rfl, _⟩ := h; rfl) (body_ratio T)
  refine has_of T.d_subtract sc_subtract bd_subtract (fun vs H Q E h => ?_) (fun f cdv A outer s H vs Q E hr h => ?_)
  · obtain ⟨a, b, x, y, rfl, _⟩ := h
    rfl
  · obtain ⟨a, b, x, y, rfl, ha, hb, mx, my, hp, k⟩ := h
    refine ⟨_, (pss_one (ps_ret (pe_hD h_ratio_2 (hr.mono (by decide)) (pa_cons (pe_op op_sub (pe_op op_mulW (pe_ix (ixT (K := K) rfl) (pv 0) pe_int (fun _ _ => rfl)) (pe_ix (ixT (K := K) rfl) (pv 1) pe_int (fun _ _ => rfl))) (pe_op op_mulW (pe_ix (ixT (K := K) rfl) (pv 1) pe_int (fun _ _ => rfl)) (pe_ix (ixT (K := K) rfl) (pv 0) pe_int (fun _ _ => rfl)))) (pa_cons (pe_op op_mulW (pe_ix (ixT (K := K) rfl) (pv 0) pe_int (fun _ _ => rfl)) (pe_ix (ixT (K := K) rfl) (pv 1) pe_int (fun _ _ => rfl))) pa_nil))))), ?_⟩
    have ha' := ha.sq
    have hb' := hb.sq
    obtain ⟨x1, x2⟩ := mx.big
    obtain ⟨y1, y2⟩ := my.big
    obtain ⟨c1, c2, c3, c4, c5, c6⟩ := md_cross mx my
    have z0 : (x.den : Int) * y.den ≠ 0 := Int.mul_ne_zero (den0 x) (den0 y)
    walk_at "fl.go"
    rename_i t H' ht hs hv
    rw [sub_div] at hv
    exact k t H' ht hs hv
theorem ok_multiply (T : Txt K mg) : Has P w K mg base 2 "multiply" ps_multiply (spBin K (fun x y => x * y) (fun x y => True)) := by
  have h_ratio_2 : HasD P w K mg base 1 "ratio" ps_ratio [] (spRatq K) := hasD_of T.d_ratio sc_ratio 2 1 (by decide) rfl bd_ratio_2 (fun vs H Q E h => by obtain ⟨_, _, rfl, _⟩ := h; rfl) (body_ratio T)
  refine has_of T.d_multiply sc_multiply bd_multiply (fun vs H Q E h => ?_) (fun f cdv A outer s H vs Q E hr h => ?_)
  · obtain ⟨a, b, x, y, rfl, _⟩ := h
    rfl
  · obtain ⟨a, b, x, y, rfl, ha, hb, mx, my, hp, k⟩ := h
    refine ⟨_, (pss_one (ps_ret (pe_hD h_ratio_2 (hr.mono (by decide)) (pa_cons (pe_op op_mulW (pe_ix (ixT (K := K) rfl) (pv 0) pe_int (fun _ _ => rfl)) (pe_ix (ixT (K := K) rfl) (pv 1) pe_int (fun _ _ => rfl))) (pa_cons (pe_op op_mulW (pe_ix (ixT (K := K) rfl) (pv 0) pe_int (fun _ _ => rfl)) (pe_ix (ixT (K := K) rfl) (pv 1) pe_int (fun _ _ => rfl))) pa_nil))))), ?_⟩
    have ha' := ha.sq
    have hb' := hb.sq
    obtain ⟨x1, x2⟩ := mx.big
    obtain ⟨y1, y2⟩ := my.big
    obtain ⟨c1, c2, c3, c4, c5, c6⟩ := md_cross mx my
    have z0 : (x.den : Int) * y.den ≠ 0 := Int.mul_ne_zero (den0 x) (den0 y)
    walk_at "fl.go"
    rename_i t H' ht hs hv
    rw [mul_div'] at hv
    exact k t H' ht hs hv
theorem ok_divide (T : Txt K mg) : Has P w K mg base 2 "divide" ps_divide (spBin K (fun x y => x / y) (fun x y => y ≠ 0)) := by
  have h_ratio_2 : HasD P w K mg base 1 "ratio" ps_ratio [] (spRatq K) := hasD_of T.d_ratio sc_ratio 2 1 (by decide) rfl bd_ratio_2 (fun vs H Q E h => by obtain ⟨_, _, rfl, _⟩ := h; rfl) (body_ratio T)
  refine has_of T.d_divide sc_divide bd_divide (fun vs H Q E h => ?_) (fun f cdv A outer s H vs Q E hr h => ?_)
  · obtain ⟨a, b, x, y, rfl, _⟩ := h
    rfl
  · obtain ⟨a, b, x, y, rfl, ha, hb, mx, my, hp, k⟩ := h
    refine ⟨_, (pss_one (ps_ret (pe_hD h_ratio_2 (hr.mono (by decide)) (pa_cons (pe_op op_mulW (pe_ix (ixT (K := K) rfl) (pv 0) pe_int (fun _ _ => rfl)) (pe_ix (ixT (K := K) rfl) (pv 1) pe_int (fun _ _ => rfl))) (pa_cons (pe_op op_mulW (pe_ix (ixT (K := K) rfl) (pv 0) pe_int (fun _ _ => rfl)) (pe_ix (ixT (K := K) rfl) (pv 1) pe_int (fun _ _ => rfl))) pa_nil))))), ?_⟩
    have ha' := ha.sq
    have hb' := hb.sq
    obtain ⟨x1, x2⟩ := mx.big
    obtain ⟨y1, y2⟩ := my.big
    obtain ⟨c1, c2, c3, c4, c5, c6⟩ := md_cross mx my
    have z0 : (x.den : Int) * y.num ≠ 0 := Int.mul_ne_zero (den0 x) (num0 hp)
    walk_at "fl.go"
    rename_i t H' ht hs hv
    rw [div_div'] at hv
    exact k t H' ht hs hv
theorem ok_compare (T : Txt K mg) : Has P w K mg base 1 "compare" ps_compare (spCq K) := by
  refine has_of T.d_compare sc_compare bd_compare (fun vs H Q E h => ?_) (fun f cdv A outer s H vs Q E hr h => ?_)
  · obtain ⟨a, b, x, y, rfl, _⟩ := h
    rfl
  · obtain ⟨a, b, x, y, rfl, ha, hb, mx, my, q⟩ := h
    refine ⟨_, (pss_cons (ps_set (i := 2) sc_compare.nd rfl (.inl rfl) (pe_op op_mulW (pe_ix (ixT (K := K) rfl) (pv 0) pe_int (fun _ _ => rfl)) (pe_ix (ixT (K := K) rfl) (pv 1) pe_int (fun _ _ => rfl))))
      (pss_cons (ps_set (i := 3) sc_compare.nd rfl (.inl rfl) (pe_op op_mulW (pe_ix (ixT (K := K) rfl) (pv 1) pe_int (fun _ _ => rfl)) (pe_ix (ixT (K := K) rfl) (pv 0) pe_int (fun _ _ => rfl))))
      (pss_cons (ps_if (pt_cmpR op_lt (pv 2) (pv 3) (nomark _))
        (pss_one (ps_ret (pe_un un_neg pe_int)))
        pss_nil)
      (pss_cons (ps_if (pt_cmpR op_gt (pv 2) (pv 3) (nomark _))
        (pss_one (ps_ret pe_int))
        pss_nil)
      (pss_one (ps_ret pe_int)))))), ?_⟩
    have ha' := ha.sq
    have hb' := hb.sq
    obtain ⟨x1, x2⟩ := mx.big
    obtain ⟨y1, y2⟩ := my.big
    unfold cq at q
    simp only [Rat.lt_iff] at q
    walk_at "fl.run"
    · rw [if_pos (by assumption)] at q
      exact q
    · rw [if_neg (by assumption), if_pos (by assumption)] at q
      exact q
    · rw [if_neg (by assumption), if_neg (by assumption)] at q
      exact q
theorem ok_nearest (T : Txt K mg) : Has P w K mg base 1 "nearest" ps_nearest (spNr K) := by
  refine has_of T.d_nearest sc_nearest bd_nearest (fun vs H Q E h => ?_) (fun f cdv A outer s H vs Q E hr h => ?_)
  · obtain ⟨a, x, rfl, _⟩ := h
    rfl
  · obtain ⟨a, x, rfl, ha, mx, q⟩ := h
    refine ⟨_, (pss_one (ps_ret (pe_op op_fdivW (pe_op op_add (pe_op op_mul pe_int (pe_ix (ixT (K := K) rfl) (pv 0) pe_int (fun _ _ => rfl))) (pe_ix (ixT (K := K) rfl) (pv 0) pe_int (fun _ _ => rfl))) (pe_op op_mul pe_int (pe_ix (ixT (K := K) rfl) (pv 0) pe_int (fun _ _ => rfl)))))), ?_⟩
    have ha' := ha.sq
    have hp2 : 0 < 2 * (x.den : Int) := by
      have := x.den_pos
      omega
    have hp3 : (2 * (x.den : Int)).natAbs < 2 ^ 4000 := by
      have h2 := mx.d
      have e : 2 * (2 : Nat) ^ 900 < 2 ^ 4000 := by decide +kernel
      omega
    walk_at "fl.run"
    exact q
end

section
variable {P : Program} {w : World} {K : PySem.W.Frag} {mg : Str → Option Value} {base : Heap}
local macro_rules | `(tactic| walk_at "fl.t") => `(tactic| (with_reducible refine g_chainW ?_))
local macro_rules | `(tactic| walk_at "fl.t") => `(tactic| (with_reducible refine g_ifE ?_))
local macro_rules | `(tactic| walk_at "fl.w") => `(tactic| repeat walk_at "fl.t")
/-- ratio, its pair a tuple that stands there -/
def spRatP : Sp := fun vs H Q _ => ∃ (p q : Int), vs = [.int p, .int q] ∧ q ≠ 0 ∧ p.natAbs < 2 ^ 1900 ∧ q.natAbs < 2 ^ 1900 ∧ ∀ t H', H t = none → Same H H' → H' t = some (.tup [.int (Rat.divInt p q).num, .int ((Rat.divInt p q).den : Int)]) → Q (.ref t) H'
theorem body_ratioP (T : Txt K mg) (f : Addr) (cdv : Value) (A : Around) (outer : List Env) (s : Shared) (H : Hp) (vs : List V) (Q : VK) (E : XK)
    (hr : Room 0 (A.deeper (envOfC "ratio" (defScope s_ratio) s.heap.objs.size f cdv))) (h : spRatP vs H Q E) :
      ∃ t, PSs (bx P w K mg base N_ratio "ratio" s_ratio f cdv A outer s H E) (defBody s_ratio) t ∧ t { nx := fun _ H' => Q .non H', rt := Q } (start N_ratio vs) H := by
  obtain ⟨p, q, rfl, hq, h1, h2, k⟩ := h
  refine ⟨_, (pss_cons (ps_if (pt_cmpR op_eq (pv 1) pe_int (nomark _))
        pss_never
        pss_nil)
      (pss_cons (ps_set (i := 2) sc_ratio.nd rfl (.inl rfl) (pe_callBfun cr_gcd (by rfl) T.g_gcd (pa_cons (pv 0) (pa_cons (pv 1) pa_nil))))
      (pss_cons (ps_if (pt_cmpR op_lt (pv 1) pe_int (nomark _))
        (pss_one (ps_set (i := 2) sc_ratio.nd rfl (.inl rfl) (pe_un un_neg (pv 2))))
        pss_nil)
      (pss_one (ps_ret (pe_tup (pa_cons (pe_op op_fdivS (pv 0) (pv 2)) (pa_cons (pe_op op_fdivS (pv 1) (pv 2)) pa_nil)))))))), ?_⟩
  have hg0 := gg_pos (p := p) hq
  have hg1 : (gg p q).natAbs < 2 ^ 4000 := by
    have := Nat.gcd_le_right p.natAbs (show 0 < q.natAbs by omega)
    have e : (2 : Nat) ^ 1900 < 2 ^ 4000 := by decide +kernel
    have hg : gg p q = ((Nat.gcd p.natAbs q.natAbs : Nat) : Int) := rfl
    omega
  have hn0 : gg p q ≠ 0 := by omega
  have hn1 : -(gg p q) ≠ 0 := by omega
  have hn2 : (-(gg p q)).natAbs < 2 ^ 4000 := by omega
  have e1 := rp_num (p := p) hq
  have e2 := rq_den (p := p) hq
  unfold rp at e1
  unfold rq at e2
  walk_at "fl.go"
  refine g_ite (fun z => absurd z hq) (fun _ => ?_)
  walk_at "fl.go"
  refine g_ite (fun hlt => ?_) (fun hlt => ?_)
  · rw [if_pos hlt] at e1 e2
    change ((Nat.gcd p.natAbs q.natAbs : Nat) : Int) ≠ 0 at hn0
    walk_at "fl.go"
    rename_i t ht
    refine k t _ ht (Fl.Same.new ht) ?_
    rw [← e1, ← e2, ← fdiv_neg_exact hg0 (gg_dvd_l p q), ← fdiv_neg_exact hg0 (gg_dvd_r p q)]
    exact upd_same
  · rw [if_neg hlt] at e1 e2
    walk_at "fl.go"
    rename_i t ht
    refine k t _ ht (Fl.Same.new ht) ?_
    rw [← e1, ← e2, ← fdiv_pos_exact hg0, ← fdiv_pos_exact hg0]
    exact upd_same

/-- the share of an axis at one of its numbers -/
def shq (t : Int × Int × Int) (n : Int) : Rat := if n > t.2.1 then Rat.divInt (n - t.2.1) (t.2.2 - t.2.1) else if n < t.2.1 then Rat.divInt (n - t.2.1) (t.2.1 - t.1) else Rat.divInt 0 1
def fSh (ds : List PyData) (d : PyData) : Prop := ∃ (t : Int × Int × Int) (n : Int), ds = [.tuple (i3 t), .int n] ∧ -16384 ≤ t.1 ∧ t.1 ≤ t.2.1 ∧ t.2.1 ≤ t.2.2 ∧ t.2.2 ≤ 16384 ∧ t.1 ≤ n ∧ n ≤ t.2.2 ∧ d = fqD (shq t n)
theorem big_lt {n : Int} (h : n.natAbs ≤ 100000) : n.natAbs < 2 ^ 1900 := Nat.lt_of_le_of_lt h (by decide +kernel)
theorem ok_share_of (T : Txt K mg) : Has P w K mg base 2 "share_of" ps_share_of (spD fSh) := by
  have h_ratio_1 : HasD P w K mg base 1 "ratio" ps_ratio [.int 1] spRatP := hasD_of T.d_ratio sc_ratio 1 0 (by decide) rfl bd_ratio_1 (fun vs H Q E h => by obtain ⟨_, _, rfl, _⟩ := h; rfl) (body_ratioP T)
  have h_ratio_2 : HasD P w K mg base 1 "ratio" ps_ratio [] spRatP := hasD_of T.d_ratio sc_ratio 2 1 (by decide) rfl bd_ratio_2 (fun vs H Q E h => by obtain ⟨_, _, rfl, _⟩ := h; rfl) (body_ratioP T)
  refine has_of T.d_share_of sc_share_of bd_share_of (fun vs H Q E h => ?_) (fun f cdv A outer s H vs Q E hr h => ?_)
  · obtain ⟨S, ds, d, _, hd, ⟨t, n, rfl, _⟩, _⟩ := h
    rw [hd.len]
    rfl
  · obtain ⟨S, ds, d, hS, hd, ⟨t, n, rfl, t1, t2, t3, t4, n1, n2, rfl⟩, q⟩ := h
    obtain ⟨v1, _, rfl, h1, hd⟩ := hd.consE
    obtain ⟨v2, _, rfl, h2, hd⟩ := hd.consE
    cases hd.nilE
    cases h2.intE
    obtain ⟨p, rfl, np, hp⟩ := i3E h1
    refine ⟨_, (pss_cons (ps_asg (pv 0) (pgT (n := 3) (K := K) rfl (by rfl) (pgs_cons (pg_name (i := 2) sc_share_of.nd rfl (.inl rfl)) (pgs_cons (pg_name (i := 3) sc_share_of.nd rfl (.inl rfl)) (pgs_cons (pg_name (i := 4) sc_share_of.nd rfl (.inl rfl)) pgs_nil)))))
      (pss_cons (ps_if (pt_cmpR op_gt (pv 1) (pv 3) (nomark _))
        (pss_one (ps_ret (pe_hD h_ratio_2 (hr.mono (by decide)) (pa_cons (pe_op op_sub (pv 1) (pv 3)) (pa_cons (pe_op op_sub (pv 4) (pv 3)) pa_nil)))))
        pss_nil)
      (pss_cons (ps_if (pt_cmpR op_lt (pv 1) (pv 3) (nomark _))
        (pss_one (ps_ret (pe_hD h_ratio_2 (hr.mono (by decide)) (pa_cons (pe_op op_sub (pv 1) (pv 3)) (pa_cons (pe_op op_sub (pv 3) (pv 2)) pa_nil)))))
        pss_nil)
      (pss_one (ps_ret (pe_hD h_ratio_1 (hr.mono (by decide)) (pa_cons pe_int pa_nil))))))), ?_⟩
    walk_at "fl.w"
    refine g_ite (fun c => ?_) (fun c => ?_)
    · walk_at "fl.w"
      refine ⟨_, _, rfl, by omega, big_lt (by omega), big_lt (by omega), fun a H' ha sm e => ?_⟩
      refine q _ _ sm (fqI (hS.ni ha) ?_)
      rw [e, shq, if_pos c]
    · walk_at "fl.w"
      refine g_ite (fun c2 => ?_) (fun c2 => ?_)
      · walk_at "fl.w"
        refine ⟨_, _, rfl, by omega, big_lt (by omega), big_lt (by omega), fun a H' ha sm e => ?_⟩
        refine q _ _ sm (fqI (hS.ni ha) ?_)
        rw [e, shq, if_neg c, if_pos c2]
      · walk_at "fl.w"
        refine ⟨_, _, rfl, by decide, big_lt (by decide), big_lt (by decide), fun a H' ha sm e => ?_⟩
        refine q _ _ sm (fqI (hS.ni ha) ?_)
        rw [e, shq, if_neg c, if_neg c2]
def spRatV : Sp := spRat
end

section
variable {S : List Addr} {H1 : Hp} {K : PySem.W.Frag} {g : TG} {tt : TT} {te : TE} {vs : List Nat} {σ : L2.St} {Q : VK}
/-- [elt for x, y in zip(list, list) if test], nothing changed -/
theorem lcZ {a b : Addr} {xs ys : List V} (f : Nat → Option PyData) (hS : Al S H1) (ha : H1 a = some (.lst xs)) (hb : H1 b = some (.lst ys)) (hl : xs.length = ys.length) (hz : xs.length < 1000)
    (step : ∀ (D : Addr) (i : Nat) (x y : V) (T : Addr) (H : Hp), H1 D = none → xs[i]? = some x → ys[i]? = some y → Same H1 H → Al (D :: S) H → H T = none →
      ∀ (R : V → Hp → Prop) (N : Hp → Prop), (∀ r z H4, f i = some r → Same (upd H T (.tup [x, y])) H4 → Dq (D :: S) H4 z r → R z H4) → (f i = none → ∀ H4, Same (upd H T (.tup [x, y])) H4 → N H4) →
      g (.ref T) (wipe σ vs) (upd H T (.tup [x, y])) fun σ2 H2 => wipe σ2 vs = wipe σ vs ∧ tt σ2 H2 fun b H3 => if b = true then te σ2 H3 R else N H3)
    (q : ∀ (D : Addr) (H : Hp), Same H1 H → H1 D = none → Dq S H (.ref D) (.list ((List.range xs.length).filterMap f)) → Q (.ref D) H) :
    lcK (Itz K a b) g tt te vs σ H1 Q := by
  unfold lcK
  intro D hD
  have hDa : a ≠ D := fun e => by rw [e, hD] at ha; cases ha
  have hDb : b ≠ D := fun e => by rw [e, hD] at hb; cases hb
  refine lc_it (walk_zip (xs := xs) (ys := ys) (n := xs.length) (by omega)) (CompAt S H1 D f) (CompAt.zero hD) ?_ ?_ ?_
  · intro i H _ h
    exact ⟨SqL.of (h.fr a _ (by simpa using hDa) ha), SqL.of (h.fr b _ (by simpa using hDb) hb)⟩
  · intro i x H H' hi h ⟨T, y, z, e1, hT, e2, e3, e4⟩
    subst e1 e2
    have hsm : Same H1 H := sm_of hD h.fr
    exact step D i y z T H hD e3 e4 hsm (h.al hS hD) hT _ _ (fun r y H4 er s d => h.put (by omega) er ((Fl.Same.new hT).trans s) d) fun en H4 s => (h.same ((Fl.Same.new hT).trans s)).skip en
  · intro H h
    exact q D H (sm_of hD h.fr) hD (h.fin hS hD)
end
section
variable {P : Program} {w : World} {K : PySem.W.Frag} {mg : Str → Option Value} {base : Heap}
local macro_rules | `(tactic| walk_at "fl.t") => `(tactic| (with_reducible refine g_chainW ?_))
local macro_rules | `(tactic| walk_at "fl.t") => `(tactic| (with_reducible refine g_ifE ?_))
local macro_rules | `(tactic| walk_at "fl.w") => `(tactic| repeat walk_at "fl.t")
theorem fm_c {x : PyData} (n : Nat) : (List.range n).filterMap (fun _ => some x) = (List.range n).map fun _ => x := by
  rw [← List.filterMap_eq_map]
  rfl
/-- a place on axes -/
structure PlOk (ax : List (Int × Int × Int)) (pl : List Int) : Prop where
  l : pl.length = ax.length
  r : ∀ (i : Nat) t n, ax[i]? = some t → pl[i]? = some n → t.1 ≤ n ∧ n ≤ t.2.2
def shF (ax : List (Int × Int × Int)) (pl : List Int) (i : Nat) : Option PyData := match ax[i]?, pl[i]? with
  | some t, some n => some (fqD (shq t n))
  | _, _ => none
def shsD (ax : List (Int × Int × Int)) (pl : List Int) : PyData := .list ((List.range ax.length).filterMap (shF ax pl))
def fShs (c : Cs) (VL : FoR → LkR → Prop) (ds : List PyData) (d : PyData) : Prop := ∃ (f : FoG) (pl : List Int), ds = [foD c f.R, .list (pl.map PyData.int)] ∧ f.Ok VL ∧ PlOk f.axes pl ∧ d = shsD f.axes pl
theorem ok_shares (T : Txt K mg) (VL : FoR → LkR → Prop) : Has P w K mg base 3 "shares" ps_shares (spD (fShs (cs mg) VL)) := by
  obtain ⟨_, _, _, _, _, _, _, _, _, _, _, _, _, _, cF⟩ := T.c_Font
  have clF := cF.cl
  have naF := cF.na
  have h_share_of := ok_share_of (P := P) (w := w) (base := base) T
  refine has_of T.d_shares sc_shares bd_shares (fun vs H Q E h => ?_) (fun f cdv A outer s H vs Q E hr h => ?_)
  · obtain ⟨S, ds, d, _, hd, ⟨fo, pl, rfl, _⟩, _⟩ := h
    rw [hd.len]
    rfl
  · obtain ⟨S, ds, d, hS, hd, ⟨fo, pl, rfl, fok, pok, rfl⟩, q⟩ := h
    obtain ⟨v1, _, rfl, h1, hd⟩ := hd.consE
    obtain ⟨v2, _, rfl, h2, hd⟩ := hd.consE
    cases hd.nilE
    obtain ⟨fa, fdx, w1, w2, w3, w4, w5, w6, w7, w8, w9, rfl, fna, fA, j1, j2, j3, j4, j5, j6, j7, j8, j9⟩ := foE h1
    have j6 : Dq S H w6 (.list (fo.axes.map fun t => .tuple (i3 t))) := by
      rw [← ltD_map]; exact j6
    obtain ⟨hz, hx⟩ := fok.ax
    obtain ⟨b, xs, rfl, nb, hb, hX⟩ := j6.lstE
    obtain ⟨c, ys, rfl, nc, hc, hY⟩ := h2.lstE
    have lx := hX.len
    have ly := hY.len
    rw [List.length_map] at lx ly
    have lp := pok.l
    refine ⟨_, (pss_cons (ps_if (pt_cmpR op_ne (pe_callB (clLen (K := K) rfl) (by rfl) T.z_len (by decide +kernel) (pa_cons (pv 1) pa_nil)) (pe_callB (clLen (K := K) rfl) (by rfl) T.z_len (by decide +kernel) (pa_cons (peFld (K := K) rfl (pv 0) rfl) pa_nil)) (nomark _))
        pss_never
        pss_nil)
      (pss_cons (ps_if (pt_not (pt_val (pe_callB (clAll (K := K) rfl rfl) (by rfl) T.z_all (by decide +kernel) (pa_cons (pe_lc (own := [("at", 3), ("least", 4), ("_", 5), ("greatest", 6)]) rfl sc_shares.nd (pi_zip (by rfl) T.z_zip (pa_cons (pv 1) (pa_cons (peFld (K := K) rfl (pv 0) rfl) pa_nil))) (blkOk_by (by kernel_rfl)) (fun _ _ _ _ _ => (pgT (n := 2) (K := K) rfl (by rfl) (pgs_cons (pg_name (i := 3) sc_shares.nd rfl (.inl rfl)) (pgs_cons (pgT (n := 3) (K := K) rfl (by rfl) (pgs_cons (pg_name (i := 4) sc_shares.nd rfl (.inl rfl)) (pgs_cons (pg_name (i := 5) sc_shares.nd rfl (.inl rfl)) (pgs_cons (pg_name (i := 6) sc_shares.nd rfl (.inl rfl)) pgs_nil)))) pgs_nil)))) (fun _ _ _ _ _ => pts_nil) (fun _ _ _ _ _ => (pe_chain op_le op_le (pv 4) (pv 3) (pv 6)))) pa_nil))))
        pss_never
        pss_nil)
      (pss_one (ps_ret (pe_lc (own := [("axis", 2), ("at", 3)]) rfl sc_shares.nd (pi_zip (by rfl) T.z_zip (pa_cons (peFld (K := K) rfl (pv 0) rfl) (pa_cons (pv 1) pa_nil))) (blkOk_by (by kernel_rfl)) (fun _ _ _ _ _ => (pgT (n := 2) (K := K) rfl (by rfl) (pgs_cons (pg_name (i := 2) sc_shares.nd rfl (.inl rfl)) (pgs_cons (pg_name (i := 3) sc_shares.nd rfl (.inl rfl)) pgs_nil)))) (fun _ _ _ _ _ => pts_nil) (fun _ _ _ _ _ => (pe_h h_share_of (hr.mono (by decide)) (pa_cons (pv 2) (pa_cons (pv 3) pa_nil))))))))), ?_⟩
    walk_at "fl.w"
    refine g_iteN (fun h => absurd (show ((ys.length : Nat) : Int) = (xs.length : Nat) by omega) h) (fun _ => ?_)
    walk_at "fl.w"
    refine lcZ (S := S) (fun _ => some (.bool true)) hS hc hb (by omega) (by omega) ?_ ?_
    · intro D i y x T2 H2 hD hy hxx sm al hT R N hR hN
      obtain ⟨n, hn, hyd⟩ := hY.getM hy
      obtain ⟨t, ht, hxd⟩ := hX.getM hxx
      cases hyd.intE
      obtain ⟨p, rfl, np, hp⟩ := i3E hxd
      have smT : Same H (upd H2 T2 (.tup [V.int n, V.ref p])) := sm.trans (Fl.Same.new hT)
      have hp2 := smT _ _ hp
      obtain ⟨n1, n2⟩ := pok.r i t n ht hn
      walk_at "fl.w"
      refine ⟨rfl, ?_⟩
      walk_at "fl.w"
      refine g_yesB n1 ?_
      walk_at "fl.w"
      rw [decide_eq_true n2]
      exact hR _ _ _ rfl (L2.Same.refl _) (.bl _)
    intro D H2 sm hD dq
    rw [fm_c] at dq
    have fA2 := sm _ _ fA
    have hb2 := sm _ _ hb
    have hc2 := sm _ _ hc
    walk_at "fl.w"
    refine allYes dq ?_
    walk_at "fl.w"
    refine lcZ (S := S) (shF fo.axes pl) (hS.same sm) hb2 hc2 (by omega) (by omega) ?_ ?_
    · intro D' i x y T2 H3 hD' hxx hy sm3 al hT R N hR hN
      obtain ⟨n, hn, hyd⟩ := hY.getM hy
      obtain ⟨t, ht, hxd⟩ := hX.getM hxx
      cases hyd.intE
      have hxd' := hxd
      obtain ⟨p, rfl, np, hp⟩ := i3E hxd
      obtain ⟨n1, n2⟩ := pok.r i t n ht hn
      obtain ⟨t1, t2, t3, t4⟩ := hx t (List.mem_of_getElem? ht)
      walk_at "fl.w"
      refine ⟨rfl, ?_⟩
      walk_at "fl.w"
      have hxn := (((hxd'.same sm).new hD').same sm3).same (Fl.Same.new (o := .tup [V.ref p, V.int n]) hT)
      refine spD_app (D' :: S) [.tuple (i3 t), .int n] (fqD (shq t n)) (al.newH hT) (.cons hxn (.cons (.int _) .nil)) ⟨t, n, rfl, t1, t2, t3, t4, n1, n2, rfl⟩ (fun v G sm4 hv => ?_)
      exact hR _ _ _ (by unfold shF; rw [ht, hn]) sm4 hv
    intro D' H3 sm3 hD' dq3
    rw [lx] at dq3
    exact q _ _ (sm.trans sm3) dq3
end

section
variable {P : Program} {w : World} {K : PySem.W.Frag} {mg : Str → Option Value} {base : Heap}
abbrev Tn := Int × Int × Int
def tnD (t : Tn) : PyData := .tuple [.int t.1, .int t.2.1, .int t.2.2]
def TnOk (t : Tn) : Prop := -64 ≤ t.1 ∧ t.1 ≤ t.2.1 ∧ t.2.1 ≤ t.2.2 ∧ t.2.2 ≤ 64
theorem tnok {a b c : Int} (h1 : -64 ≤ a) (h2 : a ≤ b) (h3 : b ≤ c) (h4 : c ≤ 64) : TnOk (a, b, c) := ⟨h1, h2, h3, h4⟩
theorem tnE {S : List Addr} {H : Hp} {v : V} {p : Tn} (h : Dq S H v (tnD p)) : ∃ a, v = .ref a ∧ a ∉ S ∧ H a = some (.tup [.int p.1, .int p.2.1, .int p.2.2]) := by
  obtain ⟨a, xs, rfl, na, hx, hd⟩ := h.tupE
  obtain ⟨_, _, rfl, h1, hd⟩ := hd.consE
  obtain ⟨_, _, rfl, h2, hd⟩ := hd.consE
  obtain ⟨_, _, rfl, h3, hd⟩ := hd.consE
  cases hd.nilE
  cases h1.intE
  cases h2.intE
  cases h3.intE
  exact ⟨a, rfl, na, hx⟩
theorem tnI {S : List Addr} {H : Hp} {a : Addr} {x y z : Int} (n : a ∉ S) (q : H a = some (.tup [.int x, .int y, .int z])) : Dq S H (.ref a) (tnD (x, y, z)) := .tup n q (.cons (.int _) (.cons (.int _) (.cons (.int _) .nil)))
def spTn : Sp := fun vs H Q _ => ∃ (d s : Addr) (ns : List Int), vs = [.ref d] ∧ Dk d s ns H ∧ ∀ t H' (p : Tn), Fr [d] H H' → Dk d s ns H' → H t = none → H' t = some (.tup [.int p.1, .int p.2.1, .int p.2.2]) → TnOk p → Q (.ref t) H'
theorem ok_law_tent (T : Txt K mg) : Has P w K mg base 2 "_law_tent" ps_law_tent spTn := by
  have h_law_draw := ok_law_draw (P := P) (w := w) (base := base) T
  refine has_of T.d_law_tent sc_law_tent bd_law_tent (fun vs H Q E h => ?_) (fun f cdv A outer s H vs Q E hr h => ?_)
  · obtain ⟨d, sa, ns, rfl, _⟩ := h
    rfl
  · obtain ⟨d, sa, ns, rfl, hk, q⟩ := h
    have fin : ∀ (t : Addr) (H' : Hp) (a b c : Int), Fr [d] H H' → Dk d sa ns H' → H' t = none → TnOk (a, b, c) → Q (.ref t) (upd H' t (.tup [.int a, .int b, .int c])) := fun t H' a b c f k e ok =>
      q t _ (a, b, c) (f.trans (Fr.new e)) (k.newH e) (by
        cases h0 : H t with
        | none => rfl
        | some u =>
          exfalso
          by_cases m : t = d
          · subst m; exact k.hd e
          · have := f t u (by simpa using m) h0
            rw [e] at this; cases this) upd_same ok
    refine ⟨_, (pss_cons (ps_set (i := 1) sc_law_tent.nd rfl (.inl rfl) (pe_h h_law_draw (hr.mono (by decide)) (pa_cons (pv 0) (pa_cons pe_int pa_nil))))
      (pss_cons (ps_if (pt_cmpR op_eq (pv 1) pe_int (nomark _))
        (pss_one (ps_ret (pe_tup (pa_cons (pe_un un_neg (pe_h h_law_draw (hr.mono (by decide)) (pa_cons (pv 0) (pa_cons pe_int pa_nil)))) (pa_cons pe_int (pa_cons (pe_h h_law_draw (hr.mono (by decide)) (pa_cons (pv 0) (pa_cons pe_int pa_nil))) pa_nil))))))
        pss_nil)
      (pss_cons (ps_set (i := 2) sc_law_tent.nd rfl (.inl rfl) (pe_lst (pa_cons (pe_h h_law_draw (hr.mono (by decide)) (pa_cons (pv 0) (pa_cons pe_int pa_nil))) (pa_cons (pe_h h_law_draw (hr.mono (by decide)) (pa_cons (pv 0) (pa_cons pe_int pa_nil))) (pa_cons (pe_h h_law_draw (hr.mono (by decide)) (pa_cons (pv 0) (pa_cons pe_int pa_nil))) pa_nil)))))
      (pss_cons (ps_if (pt_cmpR op_eq (pv 1) pe_int (nomark _))
        (pss_one (ps_set (i := 2) sc_law_tent.nd rfl (.inl rfl) (pe_lst (pa_cons (pe_op op_sub (pe_h h_law_draw (hr.mono (by decide)) (pa_cons (pv 0) (pa_cons pe_int pa_nil))) pe_int) (pa_cons (pe_op op_sub (pe_h h_law_draw (hr.mono (by decide)) (pa_cons (pv 0) (pa_cons pe_int pa_nil))) pe_int) (pa_cons (pe_op op_sub (pe_h h_law_draw (hr.mono (by decide)) (pa_cons (pv 0) (pa_cons pe_int pa_nil))) pe_int) pa_nil))))))
        pss_nil)
      (pss_cons (ps_set (i := 2) sc_law_tent.nd rfl (.inl rfl) (pe_callB (clSort (K := K) rfl) (by rfl) T.z_sorted (by decide +kernel) (pa_cons (pv 2) pa_nil)))
      (pss_cons (ps_if (pt_cmpR op_eq (pv 1) pe_int (nomark _))
        (pss_one (ps_ret (pe_tup (pa_cons (pe_un un_neg (pe_ix (ixL (K := K) rfl) (pv 2) pe_int (fun _ _ => rfl))) (pa_cons (pe_un un_neg (pe_ix (ixL (K := K) rfl) (pv 2) pe_int (fun _ _ => rfl))) (pa_cons (pe_un un_neg (pe_ix (ixL (K := K) rfl) (pv 2) pe_int (fun _ _ => rfl))) pa_nil))))))
        pss_nil)
      (pss_cons (ps_if (pt_cmpR op_eq (pv 1) pe_int (nomark _))
        (pss_one (ps_ret (pe_tup (pa_cons pe_int (pa_cons (pe_ix (ixL (K := K) rfl) (pv 2) pe_int (fun _ _ => rfl)) (pa_cons (pe_ix (ixL (K := K) rfl) (pv 2) pe_int (fun _ _ => rfl)) pa_nil))))))
        pss_nil)
      (pss_one (ps_ret (pe_tup (pa_cons (pe_ix (ixL (K := K) rfl) (pv 2) pe_int (fun _ _ => rfl)) (pa_cons (pe_ix (ixL (K := K) rfl) (pv 2) pe_int (fun _ _ => rfl)) (pa_cons (pe_ix (ixL (K := K) rfl) (pv 2) pe_int (fun _ _ => rfl)) pa_nil))))))))))))), ?_⟩
    walk_at "fl.w"
    refine g_ite (fun _ => ?_) (fun _ => ?_)
    · walk_at "fl.w"
      exact fin _ _ _ _ _ (by walk_at "fl.frd") (by walk_at "fl.dk") (by assumption) (tnok (by omega) (by omega) (by omega) (by omega))
    · walk_at "fl.w"
      rename_i v0 _ _ _ _ _ v1 _ _ _ _ _ v2 _ _ _ _ _ v3 H3 _ _ hk3 _ p1 hp1
      refine g_ite (fun h1 => ?_) (fun h1 => ?_)
      · walk_at "fl.w"
        rename_i v4 _ _ _ _ _ v5 _ _ _ _ _ v6 H6 _ _ hk6 _ p2 hp2
        refine g_sort (ns := [v4 - 64, v5 - 64, v6 - 64]) (SqL.of upd_same) (by simp) (fun xs p3 hp hs hp3 => ?_)
        obtain ⟨x, y, z, rfl, g1, g2, g3, g4⟩ := sort3 (lo := -64) (hi := 64) hp hs ⟨by omega, by omega⟩ ⟨by omega, by omega⟩ ⟨by omega, by omega⟩
        simp only [List.map_cons, List.map_nil]
        walk_at "fl.w"
        refine g_ite (fun h2 => absurd h2 (by omega)) (fun _ => ?_)
        walk_at "fl.w"
        refine g_ite (fun h2 => absurd h2 (by omega)) (fun _ => ?_)
        walk_at "fl.w"
        exact fin _ _ _ _ _ (by walk_at "fl.frd") (by walk_at "fl.dk") (by assumption) (tnok (by omega) (by omega) (by omega) (by omega))
      · walk_at "fl.w"
        refine g_sort (ns := [v1, v2, v3]) (SqL.of upd_same) (by simp) (fun xs p3 hp hs hp3 => ?_)
        obtain ⟨x, y, z, rfl, g1, g2, g3, g4⟩ := sort3 (lo := 0) (hi := 64) hp hs ⟨by omega, by omega⟩ ⟨by omega, by omega⟩ ⟨by omega, by omega⟩
        simp only [List.map_cons, List.map_nil]
        walk_at "fl.w"
        refine g_ite (fun h2 => ?_) (fun _ => ?_)
        · walk_at "fl.w"
          exact fin _ _ _ _ _ (by walk_at "fl.frd") (by walk_at "fl.dk") (by assumption) (tnok (by omega) (by omega) (by omega) (by omega))
        walk_at "fl.w"
        refine g_ite (fun h2 => ?_) (fun _ => ?_)
        · walk_at "fl.w"
          exact fin _ _ _ _ _ (by walk_at "fl.frd") (by walk_at "fl.dk") (by assumption) (tnok (by omega) (by omega) (by omega) (by omega))
        walk_at "fl.w"
        exact fin _ _ _ _ _ (by walk_at "fl.frd") (by walk_at "fl.dk") (by assumption) (tnok (by omega) (by omega) (by omega) (by omega))
end

section
variable {P : Program} {w : World} {K : PySem.W.Frag} {mg : Str → Option Value} {base : Heap}
local macro_rules | `(tactic| walk_at "fl.s") => `(tactic| ((with_reducible apply bin_app); (focus walk_at "fl.look"); (focus walk_at "fl.look"); (focus walk_at "fl.md"); (focus walk_at "fl.md"); (focus first | trivial | assumption); intro _ _ _ _ _))
def spTf (K : PySem.W.Frag) : Sp := fun vs H Q _ => ∃ (t a : Addr) (p : Int × Int × Int) (x : Rat), vs = [.ref t, .ref a] ∧ H t = some (.tup [.int p.1, .int p.2.1, .int p.2.2]) ∧ RV K H a x ∧ Szq 10 x ∧ p.1.natAbs < 2 ^ 8 ∧ p.2.1.natAbs < 2 ^ 8 ∧ p.2.2.natAbs < 2 ^ 8 ∧
  ∀ r H', H r = none → Same H H' → RV K H' r (tf p x) → Q (.ref r) H'
theorem tf_app {K : PySem.W.Frag} {t a : Addr} {p : Int × Int × Int} {x : Rat} {H : Hp} {Q : VK} {E : XK} (ht : H t = some (.tup [.int p.1, .int p.2.1, .int p.2.2])) (ha : RV K H a x) (hz : Szq 10 x) (h1 : p.1.natAbs < 2 ^ 8) (h2 : p.2.1.natAbs < 2 ^ 8) (h3 : p.2.2.natAbs < 2 ^ 8)
    (q : ∀ r H', H r = none → Same H H' → RV K H' r (tf p x) → Q (.ref r) H') : spTf K [.ref t, .ref a] H Q E := ⟨t, a, p, x, rfl, ht, ha, hz, h1, h2, h3, q⟩
theorem g_asgG {te : TE} {g : TG} {D : Ends} {σ : L2.St} {H : Hp} (h : te σ H fun x H1 => g x σ H1 D.nx) : tAsg te g D σ H := h
theorem g_itup {K : PySem.W.Frag} {te : TE} {σ : L2.St} {H : Hp} {R : It → Hp → Prop} (h : te σ H fun x H1 => ∃ a, x = .ref a ∧ (∃ xs, SqT K H1 a xs) ∧ R (Itt K a) H1) : iTup K te σ H R := h
theorem ok_factor_of_tent (T : Txt K mg) : Has P w K mg base 3 "factor_of_tent" ps_factor_of_tent (spTf K) := by
  have h_ratio_1 : HasD P w K mg base 1 "ratio" ps_ratio [.int 1] (spRatq K) := hasD_of T.d_ratio sc_ratio 1 0 (by decide) rfl bd_ratio_1 (fun vs H Q E h => by obtain ⟨_, _, rfl, _⟩ := h; rfl) (body_ratio T)
  have h_subtract := ok_subtract (P := P) (w := w) (base := base) T
  have h_multiply := ok_multiply (P := P) (w := w) (base := base) T
  have h_divide := ok_divide (P := P) (w := w) (base := base) T
  have h_compare := ok_compare (P := P) (w := w) (base := base) T
  refine has_of T.d_factor_of_tent sc_factor_of_tent bd_factor_of_tent (fun vs H Q E h => ?_) (fun f cdv A outer s H vs Q E hr h => ?_)
  · obtain ⟨t, a, p, x, rfl, _⟩ := h
    rfl
  · obtain ⟨t, a, ⟨pa, pb, pc⟩, x, rfl, ht, ha, hz, z1, z2, z3, q⟩ := h
    refine ⟨_, (pss_cons (ps_asg (pe_lc (own := [("n", 6)]) rfl sc_factor_of_tent.nd (piT (K := K) rfl (pv 0)) (blkOk_by (by kernel_rfl)) (fun _ _ _ _ _ => (pg_name (i := 6) sc_factor_of_tent.nd rfl (.inl rfl))) (fun _ _ _ _ _ => pts_nil) (fun _ _ _ _ _ => (pe_hD h_ratio_1 (hr.mono (by decide)) (pa_cons (pv 6) pa_nil)))) (pgL (n := 3) (K := K) rfl (by rfl) (pgs_cons (pg_name (i := 2) sc_factor_of_tent.nd rfl (.inl rfl)) (pgs_cons (pg_name (i := 3) sc_factor_of_tent.nd rfl (.inl rfl)) (pgs_cons (pg_name (i := 4) sc_factor_of_tent.nd rfl (.inl rfl)) pgs_nil)))))
      (pss_cons (ps_set (i := 5) sc_factor_of_tent.nd rfl (.inl rfl) (pe_h h_multiply (hr.mono (by decide)) (pa_cons (pv 1) (pa_cons (pe_hD h_ratio_1 (hr.mono (by decide)) (pa_cons (pe_gv (by rfl) T.g_WHOLE) pa_nil)) pa_nil))))
      (pss_cons (ps_if (PW.pt (pw_or (pt_cmpR op_eq (pe_ix (ixT (K := K) rfl) (pv 0) pe_int (fun _ _ => rfl)) pe_int (nomark _)) (pw_or1 (pt_cmpR (opEqD (K := K) rfl hr.units) (pv 5) (pv 3) (nomark _)))))
        (pss_one (ps_ret (pe_hD h_ratio_1 (hr.mono (by decide)) (pa_cons pe_int pa_nil))))
        pss_nil)
      (pss_cons (ps_if (PW.pt (pw_or (pt_cmpR op_le (pe_h h_compare (hr.mono (by decide)) (pa_cons (pv 5) (pa_cons (pv 2) pa_nil))) pe_int (nomark _)) (pw_or1 (pt_cmpR op_ge (pe_h h_compare (hr.mono (by decide)) (pa_cons (pv 5) (pa_cons (pv 4) pa_nil))) pe_int (nomark _)))))
        (pss_one (ps_ret (pe_hD h_ratio_1 (hr.mono (by decide)) (pa_cons pe_int pa_nil))))
        pss_nil)
      (pss_cons (ps_if (pt_cmpR op_lt (pe_h h_compare (hr.mono (by decide)) (pa_cons (pv 5) (pa_cons (pv 3) pa_nil))) pe_int (nomark _))
        (pss_one (ps_ret (pe_h h_divide (hr.mono (by decide)) (pa_cons (pe_h h_subtract (hr.mono (by decide)) (pa_cons (pv 5) (pa_cons (pv 2) pa_nil))) (pa_cons (pe_h h_subtract (hr.mono (by decide)) (pa_cons (pv 3) (pa_cons (pv 2) pa_nil))) pa_nil)))))
        pss_nil)
      (pss_one (ps_ret (pe_h h_divide (hr.mono (by decide)) (pa_cons (pe_h h_subtract (hr.mono (by decide)) (pa_cons (pv 4) (pa_cons (pv 5) pa_nil))) (pa_cons (pe_h h_subtract (hr.mono (by decide)) (pa_cons (pv 4) (pa_cons (pv 3) pa_nil))) pa_nil)))))))))), ?_⟩
    have hst : SqT K H t ([pa, pb, pc].map V.int) := SqT.of ht
    have b1 : (1 : Int).natAbs < 2 ^ 1900 := by decide +kernel
    have b0 : (0 : Int).natAbs < 2 ^ 1900 := by decide +kernel
    have b64 : (64 : Int).natAbs < 2 ^ 1900 := by decide +kernel
    have s_x : Szq (10 + 8) (x * iq 64) := hz.mul (iq_sz 64 (by decide))
    have s_a : Szq 8 (iq pa) := iq_sz _ z1
    have s_b : Szq 8 (iq pb) := iq_sz _ z2
    have s_c : Szq 8 (iq pc) := iq_sz _ z3
    have m_x : Md (x * iq 64) := s_x.md (by decide)
    have m_a : Md (iq pa) := s_a.md (by decide)
    have m_b : Md (iq pb) := s_b.md (by decide)
    have m_c : Md (iq pc) := s_c.md (by decide)
    have fin : ∀ (G H' : Hp) (r : Addr) (y : Rat), Same H G → G r = none → Same G H' → RV K H' r y → y = tf (pa, pb, pc) x → Q (.ref r) H' := fun G H' r y sm hr sm2 rv e => by
      subst e
      exact q r H' (Same.free sm hr) (sm.trans sm2) rv
    have et : tf (pa, pb, pc) x = if pb = 0 ∨ x * iq 64 = iq pb then iq 1 else
      if cq (x * iq 64) (iq pa) ≤ 0 ∨ 0 ≤ cq (x * iq 64) (iq pc) then iq 0 else
        if cq (x * iq 64) (iq pb) < 0 then (x * iq 64 - iq pa) / (iq pb - iq pa) else (iq pc - x * iq 64) / (iq pc - iq pb) := rfl
    walk_at "fl.w"
    refine g_itup ?_
    walk_at "fl.w"
    refine ⟨t, rfl, ⟨_, hst⟩, ?_⟩
    refine lcT (ns := [pa, pb, pc]) hst (by simp) (fun D i n H2 hD hi sm R hR => ⟨rfl, ?_⟩) (fun D H2 ts sm hD hl hr => ?_)
    · have hn : n.natAbs < 2 ^ 1900 := by
        have hm := List.mem_of_getElem? hi
        have e : (2 : Nat) ^ 8 < 2 ^ 1900 := by decide +kernel
        simp only [List.mem_cons, List.mem_nil_iff, or_false] at hm
        simp only at z1 z2 z3
        rcases hm with rfl | rfl | rfl <;> omega
      walk_at "fl.w"
      exact hR _ _ (by assumption) (by assumption) (by assumption)
    match ts, hl with
    | [t0, t1, t2], _ =>
    have r0 : RV K H2 t0 (iq pa) := hr 0 t0 pa rfl rfl
    have r1 : RV K H2 t1 (iq pb) := hr 1 t1 pb rfl rfl
    have r2 : RV K H2 t2 (iq pc) := hr 2 t2 pc rfl rfl
    have ha2 := ha.same sm
    have hst2 : SqT K H2 t [.int pa, .int pb, .int pc] := Fl.Same.t sm hst
    clear hr ha hst
    refine g_glst (SqL.of hD) rfl ?_
    simp only [List.map_cons, List.map_nil]
    walk_at "fl.w"
    rename_i t3 H3 ht3 sm3 rv3 t4 H4 ht4 sm4 rv4
    have rv4 : RV K H4 t4 (x * iq 64) := rv4
    have sm04 : Same H H4 := (sm.trans sm3).trans sm4
    have sm24 : Same H2 H4 := sm3.trans sm4
    have r04 := r0.same sm24
    have r14 := r1.same sm24
    have r24 := r2.same sm24
    clear r0 r1 r2 rv3 ha2
    refine g_ite (fun hb => ?_) (fun hb => ?_)
    · walk_at "fl.w"
      rename_i t6 H6 ht6 sm6 rv6
      exact fin _ _ _ (iq 1) sm04 ht6 sm6 rv6 (by rw [et, if_pos (.inl hb)])
    walk_at "fl.w"
    refine eqf_app (x := x * iq 64) (y := iq pb) rv4 r14 ?_
    walk_at "fl.w"
    refine g_ite (fun hb2 => ?_) (fun hb2 => ?_)
    · walk_at "fl.w"
      rename_i t6 H6 ht6 sm6 rv6
      exact fin _ _ _ (iq 1) sm04 ht6 sm6 rv6 (by rw [et, if_pos (.inr hb2)])
    have hor : ¬ (pb = 0 ∨ x * iq 64 = iq pb) := fun h => h.elim hb hb2
    walk_at "fl.w"
    refine g_ite (fun h1 => ?_) (fun h1 => ?_)
    · walk_at "fl.w"
      rename_i t6 H6 ht6 sm6 rv6
      exact fin _ _ _ (iq 0) sm04 ht6 sm6 rv6 (by rw [et, if_neg hor, if_pos (.inl h1)])
    walk_at "fl.w"
    refine g_ite (fun h2 => ?_) (fun h2 => ?_)
    · walk_at "fl.w"
      rename_i t6 H6 ht6 sm6 rv6
      exact fin _ _ _ (iq 0) sm04 ht6 sm6 rv6 (by rw [et, if_neg hor, if_pos (.inr h2)])
    have hor2 : ¬ (cq (x * iq 64) (iq pa) ≤ 0 ∨ 0 ≤ cq (x * iq 64) (iq pc)) := fun h => h.elim h1 h2
    walk_at "fl.w"
    refine g_ite (fun h3 => ?_) (fun h3 => ?_)
    · have hlt := tf_b1 (t := (pa, pb, pc)) h1 h3
      have n_ba : iq pb - iq pa ≠ 0 := fun e => by
        rw [iq_sub] at e
        have := iq_inj (e.trans (iq_cast 0).symm)
        simp only at hlt
        omega
      walk_at "fl.w"
      rename_i u1 G1 hu1 su1 ru1 u2 G2 hu2 su2 ru2 u3 G3 hu3 su3 ru3
      exact fin _ _ _ _ ((sm04.trans su1).trans su2) hu3 su3 ru3 (by rw [et, if_neg hor, if_neg hor2, if_pos h3])
    · have hlt := tf_b2 (t := (pa, pb, pc)) h2 h3
      have n_ba : iq pc - iq pb ≠ 0 := fun e => by
        rw [iq_sub] at e
        have := iq_inj (e.trans (iq_cast 0).symm)
        simp only at hlt
        omega
      walk_at "fl.w"
      rename_i u1 G1 hu1 su1 ru1 u2 G2 hu2 su2 ru2 u3 G3 hu3 su3 ru3
      exact fin _ _ _ _ ((sm04.trans su1).trans su2) hu3 su3 ru3 (by rw [et, if_neg hor, if_neg hor2, if_neg h3])
end

section
variable {P : Program} {w : World} {K : PySem.W.Frag} {mg : Str → Option Value} {base : Heap}
local macro_rules | `(tactic| walk_at "fl.s") => `(tactic| ((with_reducible apply bin_app); (focus walk_at "fl.look"); (focus walk_at "fl.look"); (focus walk_at "fl.md"); (focus walk_at "fl.md"); (focus first | trivial | assumption); intro _ _ _ _ _))
def spFa (K : PySem.W.Frag) : Sp := fun vs H Q _ => ∃ (S : List Addr) (r s : Addr) (ps : List Tn) (qs : List Rat), vs = [.ref r, .ref s] ∧ Dq S H (.ref r) (.list (ps.map tnD)) ∧ Dq S H (.ref s) (.list (qs.map fqD)) ∧ ps.length = qs.length ∧ ps.length ≤ 3 ∧ (∀ p, p ∈ ps → TnOk p) ∧ (∀ x, x ∈ qs → Szq 10 x) ∧
  ∀ t H', H t = none → Same H H' → RV K H' t (fa (ps.zip qs)) → Q (.ref t) H'
theorem fa_app {K : PySem.W.Frag} {r s : Addr} {H : Hp} {Q : VK} {E : XK} (S : List Addr) (ps : List Tn) (qs : List Rat) (hr : Dq S H (.ref r) (.list (ps.map tnD))) (hs : Dq S H (.ref s) (.list (qs.map fqD))) (hl : ps.length = qs.length) (h3 : ps.length ≤ 3) (hp : ∀ p, p ∈ ps → TnOk p) (hq : ∀ x, x ∈ qs → Szq 10 x)
    (q : ∀ t H', H t = none → Same H H' → RV K H' t (fa (ps.zip qs)) → Q (.ref t) H') : spFa K [.ref r, .ref s] H Q E := ⟨S, r, s, ps, qs, rfl, hr, hs, hl, h3, hp, hq, q⟩
theorem tn_ab {p : Tn} (h : TnOk p) : p.1.natAbs < 2 ^ 8 ∧ p.2.1.natAbs < 2 ^ 8 ∧ p.2.2.natAbs < 2 ^ 8 := by
  obtain ⟨h1, h2, h3, h4⟩ := h
  omega
theorem fa_sz_aux : ∀ (l : List (Tn × Rat)) (k : Nat) (r : Rat), (∀ q, q ∈ l → TnOk q.1 ∧ Szq 10 q.2) → Szq k r → Szq (k + 50 * l.length) (l.foldl (fun r q => r * tf q.1 q.2) r)
  | [], k, r, _, h => h.mono (by simp)
  | q :: l, k, r, h, hr => by
    have hq := h q (by simp)
    obtain ⟨z1, z2, z3⟩ := tn_ab hq.1
    have := fa_sz_aux l (k + 50) (r * tf q.1 q.2) (fun p m => h p (by simp [m])) (hr.mul (tf_sz hq.2 z1 z2 z3))
    exact this.mono (by simp; omega)
theorem fa_sz (l : List (Tn × Rat)) (h : ∀ q, q ∈ l → TnOk q.1 ∧ Szq 10 q.2) : Szq (8 + 50 * l.length) (fa l) := fa_sz_aux l 8 (iq 1) h (iq_sz 1 (by decide))
theorem fa_step {ps : List Tn} {qs : List Rat} {i : Nat} {p : Tn} {x : Rat} (h1 : ps[i]? = some p) (h2 : qs[i]? = some x) : fa ((ps.zip qs).take (i + 1)) = fa ((ps.zip qs).take i) * tf p x := by
  rw [take_zip h1 h2, fa_snoc]
theorem fa_mem {ps : List Tn} {qs : List Rat} {i : Nat} (hp : ∀ p, p ∈ ps → TnOk p) (hq : ∀ x, x ∈ qs → Szq 10 x) : ∀ q, q ∈ (ps.zip qs).take i → TnOk q.1 ∧ Szq 10 q.2 := fun q m => by
  have := List.of_mem_zip (List.mem_of_mem_take m)
  exact ⟨hp _ this.1, hq _ this.2⟩
theorem fa_md {ps : List Tn} {qs : List Rat} {i : Nat} (h3 : ps.length ≤ 3) (hp : ∀ p, p ∈ ps → TnOk p) (hq : ∀ x, x ∈ qs → Szq 10 x) : Md (fa ((ps.zip qs).take i)) := by
  refine (fa_sz _ (fa_mem hp hq)).md ?_
  have := List.length_take_le' i (ps.zip qs)
  have h2 : (ps.zip qs).length ≤ ps.length := by rw [List.length_zip]; omega
  omega
theorem ok_factor (T : Txt K mg) : Has P w K mg base 4 "factor" ps_factor (spFa K) := by
  have h_ratio_1 : HasD P w K mg base 1 "ratio" ps_ratio [.int 1] (spRatq K) := hasD_of T.d_ratio sc_ratio 1 0 (by decide) rfl bd_ratio_1 (fun vs H Q E h => by obtain ⟨_, _, rfl, _⟩ := h; rfl) (body_ratio T)
  have h_multiply := ok_multiply (P := P) (w := w) (base := base) T
  have h_factor_of_tent := ok_factor_of_tent (P := P) (w := w) (base := base) T
  refine has_of T.d_factor sc_factor bd_factor (fun vs H Q E h => ?_) (fun f cdv A outer s H vs Q E hr h => ?_)
  · obtain ⟨S, r, s, ps, qs, rfl, _⟩ := h
    rfl
  · obtain ⟨S, r, s, ps, qs, rfl, hR, hS, hl, h3, hp, hq, q⟩ := h
    refine ⟨_, (pss_cons (ps_set (i := 2) sc_factor.nd rfl (.inl rfl) (pe_hD h_ratio_1 (hr.mono (by decide)) (pa_cons pe_int pa_nil)))
      (pss_cons (ps_for PassesOwn.never rfl (pi_zip (by rfl) T.z_zip (pa_cons (pv 0) (pa_cons (pv 1) pa_nil))) (pgT (n := 2) (K := K) rfl (by rfl) (pgs_cons (pg_name (i := 3) sc_factor.nd rfl (.inl rfl)) (pgs_cons (pg_name (i := 4) sc_factor.nd rfl (.inl rfl)) pgs_nil)))
        (pss_one (ps_set (i := 2) sc_factor.nd rfl (.inl rfl) (pe_h h_multiply (hr.mono (by decide)) (pa_cons (pv 2) (pa_cons (pe_h h_factor_of_tent (hr.mono (by decide)) (pa_cons (pv 3) (pa_cons (pv 4) pa_nil))) pa_nil))))))
      (pss_one (ps_ret (pv 2))))), ?_⟩
    have b1 : (1 : Int).natAbs < 2 ^ 1900 := by decide +kernel
    obtain ⟨_, xs, e, nr, hrx, hX⟩ := hR.lstE
    cases e
    obtain ⟨_, ys, e, ns, hsx, hY⟩ := hS.lstE
    cases e
    have lx := hX.len
    have ly := hY.len
    rw [List.length_map] at lx ly
    walk_at "fl.w"
    rename_i t0 H0 ht0 sm0 rv0
    refine forK_z (xs := xs) (ys := ys) (by omega) (fun i σ' H' => (∃ u3 u4 t, σ' = [some (.ref r), some (.ref s), some (.ref t), u3, u4] ∧ RV K H' t (fa ((ps.zip qs).take i)) ∧ H t = none) ∧ Same H H') ⟨⟨_, _, _, rfl, rv0, ht0⟩, sm0⟩ ?_ ?_ ?_
    · intro i σ' H' ⟨_, sm⟩
      exact ⟨SqL.of (sm _ _ hrx), SqL.of (sm _ _ hsx)⟩
    · intro i x y t9 σ' H' hx hy ⟨⟨u3, u4, t, e, rv, hnt⟩, sm⟩ ht9
      subst e
      obtain ⟨p, hp1, dp⟩ := (hX.same sm).getM hx
      obtain ⟨z, hz1, dz⟩ := (hY.same sm).getM hy
      obtain ⟨ap, rfl, _, rp⟩ := tnE dp
      obtain ⟨az, rfl, _, rz⟩ := fqE dz
      have okp := hp p (List.mem_of_getElem? hp1)
      have okz := hq z (List.mem_of_getElem? hz1)
      obtain ⟨z1, z2, z3⟩ := tn_ab okp
      refine g_gtup (SqT.of upd_same) rfl ?_
      walk_at "fl.w"
      refine tf_app (p := p) (x := z) (raw_new ht9 rp) (RV.same (Fl.Same.new ht9) (SqT.of rz)) okz z1 z2 z3 (fun t2 H2 h2 s2 rv2 => ?_)
      walk_at "fl.w"
      have s3 : Same H' H2 := (Fl.Same.new ht9).trans s2
      refine bin_app (x := fa ((ps.zip qs).take i)) (y := tf p z) (rv.same s3) rv2 (fa_md h3 hp hq) ((tf_sz okz z1 z2 z3).md (by decide)) trivial (fun t4 H4 h4 s4 rv4 => ?_)
      walk_at "fl.w"
      exact ⟨⟨_, _, _, rfl, by rw [fa_step hp1 hz1]; exact rv4, Same.free (sm.trans s3) h4⟩, (sm.trans s3).trans s4⟩
    · intro σ' H' ⟨⟨u3, u4, t, e, rv, hnt⟩, sm⟩
      subst e
      walk_at "fl.w"
      rw [List.take_of_length_le (by rw [List.length_zip]; omega)] at rv
      exact q _ _ hnt sm rv
end

section
variable {S : List Addr} {H1 : Hp} {K : PySem.W.Frag}
/-- [fraction of x for x in a list], the fractions new -/
theorem lcQ {a : Addr} {xs : List V} {fx : Nat → Rat} {g : TG} {te : TE} {vs : List Nat} {σ : L2.St} {Q : VK} (ha : H1 a = some (.lst xs)) (hz : xs.length < 1000)
    (step : ∀ (D : Addr) (i : Nat) (x : V) (H : Hp), H1 D = none → xs[i]? = some x → Same H1 H →
      ∀ (R : V → Hp → Prop), (∀ t H', H t = none → Same H H' → RV K H' t (fx i) → R (.ref t) H') → g x (wipe σ vs) H fun σ2 H2 => wipe σ2 vs = wipe σ vs ∧ te σ2 H2 R)
    (q : ∀ (D : Addr) (H : Hp) (ts : List Addr), Same H1 H → H1 D = none → H D = some (.lst (ts.map V.ref)) → ts.length = xs.length → (∀ (k : Nat) (t : Addr), ts[k]? = some t → RV K H t (fx k)) → Q (.ref D) H) :
    lcK (Itl K a) g tYes te vs σ H1 Q := by
  unfold lcK
  intro D hD
  have haD : a ≠ D := fun e => by rw [e, hD] at ha; cases ha
  refine lc_it (walk_list (xs := xs)) (fun i H => (∃ ts : List Addr, H D = some (.lst (ts.map V.ref)) ∧ ts.length = i ∧ ∀ (k : Nat) (t : Addr), ts[k]? = some t → t ≠ D ∧ RV K H t (fx k)) ∧ Fr [D] H1 H) ⟨⟨[], upd_same, rfl, fun k t h => by simp at h⟩, Fr.same (Fl.Same.new hD)⟩ ?_ ?_ ?_
  · intro i H _ ⟨_, hf⟩
    exact SqL.of (hf a _ (by simpa using haD) ha)
  · intro i x H H' hi ⟨⟨ts, hts, hl, hr⟩, hf⟩ ⟨e, hx⟩
    subst e
    refine (step D i x H' hD hx (sm_of hD hf) (fun y H4 => ∃ acc, H4 D = some (.lst acc) ∧ acc.length < sizeLine ∧ ((∃ ts : List Addr, (upd H4 D (.lst (acc ++ [y]))) D = some (.lst (ts.map V.ref)) ∧ ts.length = i + 1 ∧ ∀ (k : Nat) (t : Addr), ts[k]? = some t → t ≠ D ∧ RV K (upd H4 D (.lst (acc ++ [y]))) t (fx k)) ∧ Fr [D] H1 (upd H4 D (.lst (acc ++ [y]))))) ?_)
    · intro t H4 ht sm rv
      have htD : t ≠ D := fun e => by rw [e, hts] at ht; cases ht
      refine ⟨ts.map V.ref, sm _ _ hts, ?_, ⟨ts ++ [t], ?_, ?_, ?_⟩, ?_⟩
      · have : (1000 : Nat) ≤ sizeLine := by decide
        rw [List.length_map]
        omega
      · rw [upd_same, List.map_append]
        rfl
      · rw [List.length_append, hl]
        rfl
      · intro k u hk
        by_cases hki : k < ts.length
        · rw [List.getElem?_append_left hki] at hk
          obtain ⟨g1, g2⟩ := hr k u hk
          exact ⟨g1, RV.ex1 Ex1.upd g1 (g2.same sm)⟩
        · have hk2 := (List.getElem?_eq_some_iff.mp hk).1
          rw [List.length_append, List.length_singleton] at hk2
          have ek : k = i := by omega
          subst ek
          rw [← hl, List.getElem?_append_right (Nat.le_refl _), Nat.sub_self] at hk
          cases hk
          exact ⟨htD, RV.ex1 Ex1.upd htD rv⟩
      · exact (hf.trans (Fr.same sm)).trans (Fr.upd (by simp))
  · intro H ⟨⟨ts, hts, hl, hr⟩, hf⟩
    exact q D H ts (sm_of hD hf) hD hts hl fun k t hk => (hr k t hk).2
end
section
variable {P : Program} {w : World} {K : PySem.W.Frag} {mg : Str → Option Value} {base : Heap}
local macro_rules | `(tactic| walk_at "fl.t") => `(tactic| (with_reducible refine g_chainW ?_))
local macro_rules | `(tactic| walk_at "fl.t") => `(tactic| (with_reducible refine g_callS ?_))
local macro_rules | `(tactic| walk_at "fl.t") => `(tactic| (with_reducible refine g_ifE ?_))
local macro_rules | `(tactic| walk_at "fl.w") => `(tactic| repeat walk_at "fl.t")
def VL0 : FoR → LkR → Prop := fun _ _ => False
/-- the shares at a place -/
def shl (ax : List (Int × Int × Int)) (pl : List Int) : List Rat := List.zipWith shq ax pl
theorem shs_eq {ax : List (Int × Int × Int)} {pl : List Int} (h : pl.length = ax.length) : shsD ax pl = .list ((shl ax pl).map fqD) := by
  unfold shsD shl
  congr 1
  rw [← fm_ltA (L := List.zipWith shq ax pl) (f := fqD) (n := ax.length) (by rw [List.length_zipWith, h]; simp)]
  have e : shF ax pl = fun i => ((List.zipWith shq ax pl)[i]?).map fqD := funext fun i => by
    unfold shF
    rw [List.getElem?_zipWith]
    cases ax[i]? <;> cases pl[i]? <;> rfl
  rw [e]
def AxB (ax : List (Int × Int × Int)) : Prop := ∀ t, t ∈ ax → t.1 ≤ t.2.1 ∧ t.2.1 ≤ t.2.2 ∧ t.2.1 - t.1 ≤ 1000 ∧ t.2.2 - t.2.1 ≤ 1000
theorem shq_sz {t : Int × Int × Int} {n : Int} (h1 : t.2.1 - t.1 ≤ 1000) (h2 : t.2.2 - t.2.1 ≤ 1000) (n1 : t.1 ≤ n) (n2 : n ≤ t.2.2) : Szq 10 (shq t n) := by
  unfold shq
  split
  · exact szq_div (by omega) (by show _ < 1024; omega) (by show _ < 1024; omega)
  · split
    · exact szq_div (by omega) (by show _ < 1024; omega) (by show _ < 1024; omega)
    · exact szq_div (by decide) (by decide) (by decide)
theorem shl_sz {ax : List (Int × Int × Int)} {pl : List Int} (hb : AxB ax) (hp : PlOk ax pl) : ∀ x, x ∈ shl ax pl → Szq 10 x := fun x m => by
  obtain ⟨i, hi⟩ := List.mem_iff_getElem?.mp m
  unfold shl at hi
  rw [List.getElem?_zipWith] at hi
  cases ha : ax[i]? with
  | none => rw [ha] at hi; cases hi
  | some t =>
    cases hb2 : pl[i]? with
    | none => rw [ha, hb2] at hi; cases hi
    | some n =>
      rw [ha, hb2] at hi
      cases hi
      obtain ⟨h1, h2, h3, h4⟩ := hb t (List.mem_of_getElem? ha)
      obtain ⟨n1, n2⟩ := hp.r i t n ha hb2
      exact shq_sz h3 h4 n1 n2
theorem shl_len {ax : List (Int × Int × Int)} {pl : List Int} (h : pl.length = ax.length) : (shl ax pl).length = ax.length := by
  unfold shl
  rw [List.length_zipWith, h]
  simp
/-- the factors of regions -/
def facs (rs : List (List (Int × Int × Int))) (qs : List Rat) : List Rat := rs.map fun r => fa (r.zip qs)
def RvA (K : PySem.W.Frag) (H : Hp) (ts : List Addr) (W : List Rat) : Prop := ts.length = W.length ∧ ∀ (k : Nat) t x, ts[k]? = some t → W[k]? = some x → RV K H t x
theorem RvA.same {H H' : Hp} {ts : List Addr} {W : List Rat} (h : RvA K H ts W) (s : Same H H') : RvA K H' ts W := ⟨h.1, fun k t x a b => (h.2 k t x a b).same s⟩
def spFac (K : PySem.W.Frag) (mg : Str → Option Value) : Sp := fun vs H Q _ => ∃ (S : List Addr) (v1 v2 : V) (f : FoG) (pl : List Int), vs = [v1, v2] ∧ Al S H ∧ Dq S H v1 (foD (cs mg) f.R) ∧ Dq S H v2 (.list (pl.map PyData.int)) ∧ f.Ok VL0 ∧ AxB f.axes ∧ PlOk f.axes pl ∧
  ∀ D H' ts, Same H H' → H' D = some (.lst (ts.map V.ref)) → RvA K H' ts (facs f.regs (shl f.axes pl)) → Q (.ref D) H'
theorem ok_factors_of (T : Txt K mg) : Has P w K mg base 5 "factors_of" ps_factors_of (spFac K mg) := by
  obtain ⟨_, _, _, _, _, _, _, _, _, _, _, _, _, _, cF⟩ := T.c_Font
  have clF := cF.cl
  have naF := cF.na
  have h_shares := ok_shares (P := P) (w := w) (base := base) T VL0
  have h_factor := ok_factor (P := P) (w := w) (base := base) T
  refine has_of T.d_factors_of sc_factors_of bd_factors_of (fun vs H Q E h => ?_) (fun f cdv A outer s H vs Q E hr h => ?_)
  · obtain ⟨S, v1, v2, f, pl, rfl, _⟩ := h
    rfl
  · obtain ⟨S, v1, v2, fo, pl, rfl, hS, h1, h2, fok, hb, pok, q⟩ := h
    have h1' := h1
    obtain ⟨fa, fdx, w1, w2, w3, w4, w5, w6, w7, w8, w9, rfl, fna, fA, j1, j2, j3, j4, j5, j6, j7, j8, j9⟩ := foE h1'
    have j7 : Dq S H w7 (.list (fo.regs.map fun r => .list (r.map tnD))) := by
      have e : ouD3 fo.R.regions = .list (fo.regs.map fun r => .list (r.map tnD)) := by
        show ouD3 (fo.regs.map fun r => r.map i3) = _
        unfold ouD3
        rw [List.map_map]
        congr 1
        apply List.map_congr_left
        intro r _
        exact ltD_map i3 r
      rw [← e]; exact j7
    have rz := fok.re.1
    refine ⟨_, (pss_cons (ps_set (i := 2) sc_factors_of.nd rfl (.inr rfl) (pe_h h_shares (hr.mono (by decide)) (pa_cons (pv 0) (pa_cons (pv 1) pa_nil))))
      (pss_one (ps_ret (pe_lc (own := [("region", 3)]) rfl sc_factors_of.nd (piL (K := K) rfl (peFld (K := K) rfl (pv 0) rfl)) (blkOk_by (by kernel_rfl)) (fun _ _ _ _ _ => (pg_name (i := 3) sc_factors_of.nd rfl (.inl rfl))) (fun _ _ _ _ _ => pts_nil) (fun _ _ _ _ _ => (pe_h h_factor (hr.mono (by decide)) (pa_cons (pv 3) (pa_cons (pv 2) pa_nil)))))))), ?_⟩
    walk_at "fl.w"
    refine spD_app S [foD (cs mg) fo.R, .list (pl.map PyData.int)] (shsD fo.axes pl) hS (.cons h1 (.cons h2 .nil)) ⟨fo, pl, rfl, fok, pok, rfl⟩ (fun v H2 sm hv => ?_)
    rw [shs_eq pok.l] at hv
    have fA2 := sm _ _ fA
    have j7' := j7.same sm
    obtain ⟨b, xs, rfl, nb, hb7, hX⟩ := j7'.lstE
    have lx : xs.length = fo.regs.length := by rw [hX.len, List.length_map]
    obtain ⟨sv, ss, rfl, ns, hsv, hSv⟩ := hv.lstE
    walk_at "fl.w"
    refine lcQ (fx := fun i => ((facs fo.regs (shl fo.axes pl))[i]?).getD 0) hb7 (by omega) ?_ ?_
    · intro D i x H3 hD hx sm3 R hR
      obtain ⟨r, hr', dr⟩ := hX.getM hx
      have dr' := dr
      obtain ⟨ra, rs, rfl, nr, rr, hrs⟩ := dr'.lstE
      obtain ⟨h3, htn⟩ := fok.re.2 r (List.mem_of_getElem? hr')
      refine g_name ⟨rfl, ?_⟩
      walk_at "fl.w"
      refine fa_app S r (shl fo.axes pl) (dr.same sm3) ((Dq.lst ns hsv hSv).same sm3) (by rw [shl_len pok.l, h3]) (by have := fok.ax.1; omega) (fun p m => by obtain ⟨t1, t2, t3, t4, _⟩ := htn p m; exact ⟨t1, t2, t3, t4⟩) (shl_sz hb pok) (fun t H4 ht s4 rv => ?_)
      refine hR t H4 ht s4 ?_
      unfold facs
      rw [List.getElem?_map, hr']
      exact rv
    · intro D H3 ts sm3 hD hts hl hrv
      refine q D H3 ts (sm.trans sm3) hts ⟨by unfold facs; rw [List.length_map]; omega, fun k t x hk hx => ?_⟩
      have := hrv k t hk
      rw [hx] at this
      exact this
end

section
/-- the weight of a delta -/
def wAt (W : List Rat) (i : Int) : Rat := (W[i.toNat]?).getD 0
abbrev D4 := Int × Int × Int × Int
def sStep (W : List Rat) (s : Rat × Rat) (d : D4) : Rat × Rat := (s.1 + iq d.2.2.1 * wAt W d.1, s.2 + iq d.2.2.2 * wAt W d.1)
/-- the sums of a point's deltas -/
def smP (W : List Rat) (ds : List D4) (k : Int) : Rat × Rat := (ds.filter fun d => decide (d.2.1 = k)).foldl (sStep W) (iq 0, iq 0)
theorem smP_snoc (W : List Rat) (ds : List D4) (d : D4) (k : Int) : smP W (ds ++ [d]) k = if k = d.2.1 then sStep W (smP W ds k) d else smP W ds k := by
  unfold smP
  rw [List.filter_append, List.foldl_append]
  by_cases h : d.2.1 = k
  · rw [if_pos h.symm]
    simp [h]
  · rw [if_neg (fun e => h e.symm)]
    simp [h]
theorem szq0 : Szq 158 (0 : Rat) := ⟨by decide +kernel, by decide +kernel⟩
theorem iq_sz15 {n : Int} (h : n.natAbs ≤ 16384) : Szq 15 (iq n) := ⟨by rw [iq_num]; show _ < 32768; omega, by rw [iq_den]; decide⟩
theorem wAt_sz {W : List Rat} (h : ∀ x, x ∈ W → Szq 158 x) (i : Int) : Szq 158 (wAt W i) := by
  unfold wAt
  cases e : W[i.toNat]? with
  | none => exact szq0
  | some x => exact h x (List.mem_of_getElem? e)
theorem sm_aux {W : List Rat} (h : ∀ x, x ∈ W → Szq 158 x) : ∀ (l : List D4) (k : Nat) (s : Rat × Rat), (∀ d, d ∈ l → d.2.2.1.natAbs ≤ 16384 ∧ d.2.2.2.natAbs ≤ 16384) → Szq k s.1 → Szq k s.2 → Szq (k + 174 * l.length) (l.foldl (sStep W) s).1 ∧ Szq (k + 174 * l.length) (l.foldl (sStep W) s).2
  | [], k, s, _, h1, h2 => ⟨h1.mono (by simp), h2.mono (by simp)⟩
  | d :: l, k, s, hd, h1, h2 => by
    obtain ⟨d1, d2⟩ := hd d List.mem_cons_self
    have e1 : Szq (k + 174) (s.1 + iq d.2.2.1 * wAt W d.1) := (h1.add ((iq_sz15 d1).mul (wAt_sz h d.1))).mono (by omega)
    have e2 : Szq (k + 174) (s.2 + iq d.2.2.2 * wAt W d.1) := (h2.add ((iq_sz15 d2).mul (wAt_sz h d.1))).mono (by omega)
    obtain ⟨r1, r2⟩ := sm_aux h l (k + 174) (sStep W s d) (fun d m => hd d (List.mem_cons_of_mem _ m)) e1 e2
    exact ⟨r1.mono (by rw [List.length_cons]; omega), r2.mono (by rw [List.length_cons]; omega)⟩
structure DsOk (W : List Rat) (ds : List D4) : Prop where
  w : ∀ x, x ∈ W → Szq 158 x
  z : ds.length ≤ 5
  wz : W.length ≤ 8
  d : ∀ d, d ∈ ds → d.2.2.1.natAbs ≤ 16384 ∧ d.2.2.2.natAbs ≤ 16384
  r : ∀ d, d ∈ ds → 0 ≤ d.1 ∧ d.1 < W.length
theorem sm_md {W : List Rat} {ds : List D4} (h : DsOk W ds) (i : Nat) (k : Int) : Md (smP W (ds.take i) k).1 ∧ Md (smP W (ds.take i) k).2 := by
  have hl : ((ds.take i).filter fun d => decide (d.2.1 = k)).length ≤ 5 := by
    have h1 := List.length_filter_le (fun d : D4 => decide (d.2.1 = k)) (ds.take i)
    have h2 := List.length_take_le i ds
    have h3 := List.length_take_le' i ds
    have := h.z
    omega
  have := sm_aux h.w ((ds.take i).filter fun d => decide (d.2.1 = k)) 1 (iq 0, iq 0) (fun d m => h.d d (List.mem_of_mem_take (List.mem_filter.mp m).1)) ⟨by rw [iq_num]; decide, by rw [iq_den]; decide⟩ ⟨by rw [iq_num]; decide, by rw [iq_den]; decide⟩
  exact ⟨this.1.md (by omega), this.2.md (by omega)⟩
theorem take_snoc' {ds : List D4} {i : Nat} {d : D4} (h : ds[i]? = some d) : ds.take (i + 1) = ds.take i ++ [d] := by
  rw [List.take_add_one, h]
  rfl
end
section
variable {K : PySem.W.Frag}
/-- the dict of sums under way -/
structure SmAt (K : PySem.W.Frag) (H0 : Hp) (D : Addr) (s : Int → Rat × Rat) (n : Nat) (H : Hp) : Prop where
  ex : ∃ kvs : List (Key × V), H D = some (.dK kvs) ∧ kvs.length ≤ n ∧ (kvs.map (·.1)).Nodup ∧ (∀ p, p ∈ kvs → ∃ k : Int, p.1 = .inl k) ∧
    ∀ k : Int, (valV kvs (.inl k) = none ∧ s k = (iq 0, iq 0)) ∨ ∃ t a b, valV kvs (.inl k) = some (.ref t) ∧ t ≠ D ∧ a ≠ D ∧ b ≠ D ∧ H t = some (.tup [.ref a, .ref b]) ∧ RV K H a (s k).1 ∧ RV K H b (s k).2
  fr : Fr [D] H0 H
theorem SmAt.same {H0 H H' : Hp} {D : Addr} {s : Int → Rat × Rat} {n : Nat} (h : SmAt K H0 D s n H) (e : Same H H') : SmAt K H0 D s n H' := by
  obtain ⟨⟨kvs, h1, h2, h3, h4, h5⟩, f⟩ := h
  refine ⟨⟨kvs, e _ _ h1, h2, h3, h4, fun k => ?_⟩, f.trans (Fr.same e)⟩
  rcases h5 k with h | ⟨t, a, b, r1, r2, r3, r4, r5, r6, r7⟩
  · exact .inl h
  · exact .inr ⟨t, a, b, r1, r2, r3, r4, e _ _ r5, r6.same e, r7.same e⟩
theorem nd_putK' {kvs : List (Key × V)} {k : Key} (v : V) (hn : (kvs.map (·.1)).Nodup) : ((putK kvs k v).map (·.1)).Nodup := by
  cases hv : valV kvs k with
  | none => exact nd_putK v hn hv
  | some x =>
    unfold putK
    rw [if_pos (by rw [valV_any, hv]; rfl)]
    rw [List.map_map]
    rw [show ((fun kv : Key × V => kv.1) ∘ fun kv : Key × V => if kv.1 = k then (kv.1, v) else kv) = fun kv => kv.1 from funext fun kv => by
      show (if kv.1 = k then (kv.1, v) else kv).1 = kv.1
      split <;> rfl]
    exact hn
theorem mem_putK {kvs : List (Key × V)} {k : Key} {v : V} {p : Key × V} (m : p ∈ putK kvs k v) : p.1 = k ∨ ∃ q, q ∈ kvs ∧ p.1 = q.1 := by
  unfold putK at m
  split at m
  · obtain ⟨q, hq, rfl⟩ := List.mem_map.mp m
    refine .inr ⟨q, hq, ?_⟩
    split <;> rfl
  · rcases List.mem_append.mp m with m | m
    · exact .inr ⟨p, m, rfl⟩
    · rw [List.mem_singleton.mp m]
      exact .inl rfl
theorem SmAt.put {H0 H : Hp} {D t a b : Addr} {s s' : Int → Rat × Rat} {n : Nat} {k : Int} {x y : Rat} {kvs : List (Key × V)} (h : SmAt K H0 D s n H) (hk : H D = some (.dK kvs)) (tD : t ≠ D) (aD : a ≠ D) (bD : b ≠ D) (ht : H t = some (.tup [.ref a, .ref b])) (ra : RV K H a x) (rb : RV K H b y)
    (hs : ∀ j, s' j = if j = k then (x, y) else s j) : SmAt K H0 D s' (n + 1) (upd H D (.dK (putK kvs (.inl k) (.ref t)))) := by
  obtain ⟨⟨kvs', h1, h2, h3, h4, h5⟩, f⟩ := h
  rw [hk] at h1
  cases h1
  refine ⟨⟨_, upd_same, ?_, nd_putK' _ h3, fun p m => ?_, fun j => ?_⟩, f.trans (Fr.upd (by simp))⟩
  · have := length_putK kvs (.inl k) (.ref t)
    omega
  · rcases mem_putK m with e | ⟨q, mq, e⟩
    · exact ⟨k, e⟩
    · rw [e]; exact h4 q mq
  · rw [valV_put, hs j]
    by_cases e : j = k
    · subst e
      rw [if_pos rfl, if_pos rfl]
      exact .inr ⟨t, a, b, rfl, tD, aD, bD, by rw [upd_ne tD]; exact ht, RV.ex1 Ex1.upd aD ra, RV.ex1 Ex1.upd bD rb⟩
    · rw [if_neg (fun h => e (by cases h; rfl)), if_neg e]
      rcases h5 j with h | ⟨t', a', b', r1, r2, r3, r4, r5, r6, r7⟩
      · exact .inl h
      · exact .inr ⟨t', a', b', r1, r2, r3, r4, by rw [upd_ne r2]; exact r5, RV.ex1 Ex1.upd r3 r6, RV.ex1 Ex1.upd r4 r7⟩
/-- the dict of changes -/
def ChAt (H : Hp) (D : Addr) (m : Int → Int × Int) : Prop := ∃ kvs : List (Key × V), H D = some (.dK kvs) ∧ ∀ k : Int, (valV kvs (.inl k) = none ∧ m k = (0, 0)) ∨ ∃ t, valV kvs (.inl k) = some (.ref t) ∧ H t = some (.tup [.int (m k).1, .int (m k).2])
theorem ChAt.same {H H' : Hp} {D : Addr} {m : Int → Int × Int} (h : ChAt H D m) (e : Same H H') : ChAt H' D m := by
  obtain ⟨kvs, h1, h2⟩ := h
  refine ⟨kvs, e _ _ h1, fun k => ?_⟩
  rcases h2 k with h | ⟨t, r1, r2⟩
  · exact .inl h
  · exact .inr ⟨t, r1, e _ _ r2⟩
end
section
variable {H1 : Hp} {K : PySem.W.Frag}
theorem nd_take {α : Type} {l : List α} {i : Nat} {x : α} (h : l.Nodup) (hi : l[i]? = some x) : x ∉ l.take i := fun m => by
  have e : l.take i ++ l.drop i = l := List.take_append_drop i l
  rw [← e, List.nodup_append] at h
  have hm : x ∈ l.drop i := by
    have : (l.drop i)[0]? = some x := by rw [List.getElem?_drop, Nat.add_zero]; exact hi
    exact List.mem_of_getElem? this
  exact h.2.2 x m x hm rfl
/-- {k: v for k, (..) in d.items()} -/
theorem dcIt {d : Addr} {od : Obj} {kvs : List (Key × V)} {g : TG} {tk tv : TE} {td : TE} {vs : List Nat} {σ : L2.St} {Q : VK} (Pr : Nat → Addr → Hp → Prop) (htd : ∀ R : V → Hp → Prop, R (.ref d) H1 → td σ H1 R) (hd : H1 d = some (.frz od (.dK kvs))) (hz : kvs.length < 1000) (hn : (kvs.map (·.1)).Nodup)
    (hsame : ∀ i t H H', Pr i t H → Same H H' → Pr i t H') (hupd : ∀ i t D u H, Pr i t H → t ≠ D → Pr i t (upd H D u))
    (step : ∀ (D : Addr) (i : Nat) (k : Key) (x : V) (T : Addr) (H : Hp), H1 D = none → kvs[i]? = some (k, x) → Same H1 H → H T = none → H D ≠ none →
      ∀ (R : V → V → Hp → Prop), (∀ t H', H t = none → Same H H' → Pr i t H' → R (kV k) (.ref t) H') →
      g (.ref T) (wipe σ vs) (upd H T (.tup [kV k, x])) fun σ2 H2 => wipe σ2 vs = wipe σ vs ∧ tk σ2 H2 fun y H4 => tv σ2 H4 fun z H5 => R y z H5)
    (q : ∀ D H kvs2, Same H1 H → H1 D = none → H D = some (.dK kvs2) → kvs2.map (·.1) = kvs.map (·.1) → (∀ i p, kvs2[i]? = some p → ∃ t, p.2 = .ref t ∧ Pr i t H) → Q (.ref D) H) : tDc (iItems td) g tYes tk tv vs σ H1 Q := by
  refine htd _ ⟨d, od, kvs, rfl, hd, fun D hD => ?_⟩
  have hdD : d ≠ D := fun e => by rw [e, hD] at hd; cases hd
  refine ⟨fun i m H => m = kvs.length - i ∧ i ≤ kvs.length ∧ (∃ kvs2 : List (Key × V), H D = some (.dK kvs2) ∧ kvs2.map (·.1) = (kvs.take i).map (·.1) ∧ ∀ j p, kvs2[j]? = some p → ∃ t, p.2 = .ref t ∧ t ≠ D ∧ Pr j t H) ∧ Fr [D] H1 H, ⟨_, rfl, Nat.zero_le _, ⟨[], upd_same, rfl, fun j p e => by simp at e⟩, Fr.same (Fl.Same.new hD)⟩, ?_⟩
  rintro i m H ⟨rfl, hi, ⟨kvs2, h1, h2, h3⟩, hf⟩
  have hl2 : kvs2.length = i := by
    have := congrArg List.length h2
    rw [List.length_map, List.length_map, List.length_take] at this
    omega
  have hd2 : H d = some (.frz od (.dK kvs)) := hf d _ (by simpa using hdD) hd
  by_cases hlt : i < kvs.length
  · refine .inr ⟨⟨hd2, hlt⟩, fun H' => ∃ m', m' < kvs.length - i ∧ (m' = kvs.length - (i + 1) ∧ i + 1 ≤ kvs.length ∧ (∃ kvs2 : List (Key × V), H' D = some (.dK kvs2) ∧ kvs2.map (·.1) = (kvs.take (i + 1)).map (·.1) ∧ ∀ j p, kvs2[j]? = some p → ∃ t, p.2 = .ref t ∧ t ≠ D ∧ Pr j t H') ∧ Fr [D] H1 H'), fun H' p => p, ?_⟩
    rintro x H' ⟨T, k, v, hk, rfl, hT, rfl⟩
    refine step D i k v T H hD hk (sm_of hD hf) hT (by rw [h1]; simp) (fun y z H5 => ∃ (kvs3 : List (Key × V)) (k' : Key), y = kV k' ∧ H5 D = some (.dK kvs3) ∧ kvs3.length < sizeLine ∧ ∃ m', m' < kvs.length - i ∧ (m' = kvs.length - (i + 1) ∧ i + 1 ≤ kvs.length ∧ (∃ kvs2 : List (Key × V), (upd H5 D (.dK (putK kvs3 k' z))) D = some (.dK kvs2) ∧ kvs2.map (·.1) = (kvs.take (i + 1)).map (·.1) ∧ ∀ j p, kvs2[j]? = some p → ∃ t, p.2 = .ref t ∧ t ≠ D ∧ Pr j t (upd H5 D (.dK (putK kvs3 k' z)))) ∧ Fr [D] H1 (upd H5 D (.dK (putK kvs3 k' z))))) ?_
    intro t H5 ht sm pr
    have htD : t ≠ D := fun e => by rw [e, h1] at ht; cases ht
    have hnone : valV kvs2 k = none := by
      cases e : valV kvs2 k with
      | none => rfl
      | some x =>
        have m := valV_in e
        rw [h2, List.map_take] at m
        exact absurd m (nd_take hn (by rw [List.getElem?_map, hk]; rfl))
    refine ⟨kvs2, k, rfl, sm _ _ h1, ?_, _, ?_, rfl, hlt, ⟨_, upd_same, ?_, ?_⟩, (hf.trans (Fr.same sm)).trans (Fr.upd (by simp))⟩
    · have : (1000 : Nat) ≤ sizeLine := by decide
      omega
    · omega
    · rw [putK_new _ hnone, List.map_append, h2, List.take_add_one, hk, List.map_append]
      rfl
    · intro j p e
      rw [putK_new _ hnone] at e
      by_cases hj : j < kvs2.length
      · rw [List.getElem?_append_left hj] at e
        obtain ⟨t', r1, r2, r3⟩ := h3 j p e
        exact ⟨t', r1, r2, hupd _ _ _ _ _ (hsame _ _ _ _ r3 sm) r2⟩
      · have hj2 := (List.getElem?_eq_some_iff.mp e).1
        rw [List.length_append, List.length_singleton] at hj2
        have ej : j = i := by omega
        subst ej
        rw [← hl2, List.getElem?_append_right (Nat.le_refl _), Nat.sub_self] at e
        cases e
        exact ⟨t, rfl, htD, hupd _ _ _ _ _ pr htD⟩
  · have ei : i = kvs.length := by omega
    subst ei
    refine .inl ⟨⟨hd2, Nat.le_refl _⟩, ?_⟩
    refine q D H kvs2 (sm_of hD hf) hD h1 (by rw [h2, List.take_of_length_le (Nat.le_refl _)]) fun j p e => ?_
    obtain ⟨t, r1, _, r2⟩ := h3 j p e
    exact ⟨t, r1, r2⟩
end

section
variable {P : Program} {w : World} {K : PySem.W.Frag} {mg : Str → Option Value} {base : Heap}
local macro_rules | `(tactic| walk_at "fl.s") => `(tactic| ((with_reducible apply bin_app); (focus walk_at "fl.look"); (focus walk_at "fl.look"); (focus walk_at "fl.md"); (focus walk_at "fl.md"); (focus first | trivial | assumption); intro _ _ _ _ _))
local macro_rules | `(tactic| walk_at "fl.t") => `(tactic| (with_reducible refine g_chainW ?_))
local macro_rules | `(tactic| walk_at "fl.t") => `(tactic| (with_reducible refine g_callS ?_))
local macro_rules | `(tactic| walk_at "fl.t") => `(tactic| (with_reducible refine g_ifE ?_))
local macro_rules | `(tactic| walk_at "fl.w") => `(tactic| repeat walk_at "fl.t")
theorem g_dg2 {td ty tx : TE} {σ : L2.St} {H : Hp} {Q : VK} (h : td σ H fun x H1 => ∃ a, x = .ref a ∧ IsD H1 a ∧ ty σ H1 fun y H2 => tx σ H2 fun z H3 => ∃ o, DGet H3 a y o ∧ Q (o.getD z) H3) : tDGet2 td ty tx σ H Q := h
def d4D (d : D4) : PyData := .tuple (i4 d)
theorem d4E {S : List Addr} {H : Hp} {v : V} {d : D4} (h : Dq S H v (d4D d)) : ∃ a, v = .ref a ∧ a ∉ S ∧ H a = some (.tup [.int d.1, .int d.2.1, .int d.2.2.1, .int d.2.2.2]) := by
  obtain ⟨a, xs, rfl, na, hx, hd⟩ := h.tupE
  obtain ⟨_, _, rfl, h1, hd⟩ := hd.consE
  obtain ⟨_, _, rfl, h2, hd⟩ := hd.consE
  obtain ⟨_, _, rfl, h3, hd⟩ := hd.consE
  obtain ⟨_, _, rfl, h4, hd⟩ := hd.consE
  cases hd.nilE
  cases h1.intE
  cases h2.intE
  cases h3.intE
  cases h4.intE
  exact ⟨a, rfl, na, hx⟩
def mvP (W : List Rat) (ds : List D4) (k : Int) : Int × Int := (nr (smP W ds k).1, nr (smP W ds k).2)
def spChs (K : PySem.W.Frag) : Sp := fun vs H Q _ => ∃ (S : List Addr) (a fs : Addr) (ts : List Addr) (W : List Rat) (ds : List D4), vs = [.ref a, .ref fs] ∧ Al S H ∧ Dq S H (.ref a) (.list (ds.map d4D)) ∧ H fs = some (.lst (ts.map V.ref)) ∧ RvA K H ts W ∧ DsOk W ds ∧ ∀ D H', Same H H' → ChAt H' D (mvP W ds) → Q (.ref D) H'
theorem ok_changes_of (T : Txt K mg) : Has P w K mg base 4 "changes_of" ps_changes_of (spChs K) := by
  have h_ratio_1 : HasD P w K mg base 1 "ratio" ps_ratio [.int 1] (spRatq K) := hasD_of T.d_ratio sc_ratio 1 0 (by decide) rfl bd_ratio_1 (fun vs H Q E h => by obtain ⟨_, _, rfl, _⟩ := h; rfl) (body_ratio T)
  have h_add := ok_add (P := P) (w := w) (base := base) T
  have h_multiply := ok_multiply (P := P) (w := w) (base := base) T
  have h_nearest := ok_nearest (P := P) (w := w) (base := base) T
  refine has_of T.d_changes_of sc_changes_of bd_changes_of (fun vs H Q E h => ?_) (fun f cdv A outer s H vs Q E hr h => ?_)
  · obtain ⟨S, a, fs, ts, W, ds, rfl, _⟩ := h
    rfl
  · obtain ⟨S, a, fs, ts, W, ds, rfl, hS, ha, hfs, rva, dok, q⟩ := h
    obtain ⟨_, xs, e, na, hb, hX⟩ := ha.lstE
    cases e
    have lx : xs.length = ds.length := by rw [hX.len, List.length_map]
    have dz := dok.z
    refine ⟨_, (pss_cons (ps_set (i := 2) sc_changes_of.nd rfl (.inl rfl) pe_dnewK)
      (pss_cons (ps_for PassesOwn.never rfl (piL (K := K) rfl (pv 0)) (pgT (n := 4) (K := K) rfl (by rfl) (pgs_cons (pg_name (i := 3) sc_changes_of.nd rfl (.inl rfl)) (pgs_cons (pg_name (i := 4) sc_changes_of.nd rfl (.inl rfl)) (pgs_cons (pg_name (i := 5) sc_changes_of.nd rfl (.inl rfl)) (pgs_cons (pg_name (i := 6) sc_changes_of.nd rfl (.inl rfl)) pgs_nil)))))
        (pss_cons (ps_asg (pe_dget2 (hu_of hr) (pv 2) (pv 4) (pe_tup (pa_cons (pe_hD h_ratio_1 (hr.mono (by decide)) (pa_cons pe_int pa_nil)) (pa_cons (pe_hD h_ratio_1 (hr.mono (by decide)) (pa_cons pe_int pa_nil)) pa_nil))) ⟨by rfl, by rfl, by rfl, by rfl⟩) (pgT (n := 2) (K := K) rfl (by rfl) (pgs_cons (pg_name (i := 7) sc_changes_of.nd rfl (.inl rfl)) (pgs_cons (pg_name (i := 8) sc_changes_of.nd rfl (.inl rfl)) pgs_nil))))
      (pss_cons (ps_set (i := 7) sc_changes_of.nd rfl (.inl rfl) (pe_h h_add (hr.mono (by decide)) (pa_cons (pv 7) (pa_cons (pe_h h_multiply (hr.mono (by decide)) (pa_cons (pe_hD h_ratio_1 (hr.mono (by decide)) (pa_cons (pv 5) pa_nil)) (pa_cons (pe_ix (ixL (K := K) rfl) (pv 1) (pv 3) (fun _ _ => rfl)) pa_nil))) pa_nil))))
      (pss_cons (ps_set (i := 8) sc_changes_of.nd rfl (.inl rfl) (pe_h h_add (hr.mono (by decide)) (pa_cons (pv 8) (pa_cons (pe_h h_multiply (hr.mono (by decide)) (pa_cons (pe_hD h_ratio_1 (hr.mono (by decide)) (pa_cons (pv 6) pa_nil)) (pa_cons (pe_ix (ixL (K := K) rfl) (pv 1) (pv 3) (fun _ _ => rfl)) pa_nil))) pa_nil))))
      (pss_one (ps_dput (hu_of hr) (pv 2) (pv 4) (pe_tup (pa_cons (pv 7) (pa_cons (pv 8) pa_nil))) rfl))))))
      (pss_one (ps_ret (pe_lock (pe_dc (own := [("point", 4), ("sum_x", 7), ("sum_y", 8)]) rfl sc_changes_of.nd (pi_items (pv 2)) (blkOk_by (by kernel_rfl)) (fun _ _ _ _ _ => (pgT (n := 2) (K := K) rfl (by rfl) (pgs_cons (pg_name (i := 4) sc_changes_of.nd rfl (.inl rfl)) (pgs_cons (pgT (n := 2) (K := K) rfl (by rfl) (pgs_cons (pg_name (i := 7) sc_changes_of.nd rfl (.inl rfl)) (pgs_cons (pg_name (i := 8) sc_changes_of.nd rfl (.inl rfl)) pgs_nil))) pgs_nil)))) (fun _ _ _ _ _ => pts_nil) (fun _ _ _ _ _ => (pv 4)) (fun _ _ _ _ _ => (pe_tup (pa_cons (pe_h h_nearest (hr.mono (by decide)) (pa_cons (pv 7) pa_nil)) (pa_cons (pe_h h_nearest (hr.mono (by decide)) (pa_cons (pv 8) pa_nil)) pa_nil)))))))))), ?_⟩
    walk_at "fl.w"
    intro D hD
    walk_at "fl.w"
    refine forK_l (xs := xs) (fun i σ' H' => (∃ u3 u4 u5 u6 u7 u8, σ' = [some (.ref a), some (.ref fs), some (.ref D), u3, u4, u5, u6, u7, u8]) ∧ SmAt K H D (smP W (ds.take i)) i H') ⟨⟨_, _, _, _, _, _, rfl⟩, ⟨⟨[], upd_same, Nat.le_refl _, List.nodup_nil, fun p m => (nomatch m), fun k => .inl ⟨rfl, rfl⟩⟩, Fr.same (Fl.Same.new hD)⟩⟩ (fun i σ' H' _ e => SqL.of (sm_of hD e.2.fr _ _ hb)) ?_ ?_
    · intro i x σ' H' hxi ⟨⟨u3, u4, u5, u6, u7, u8, e⟩, sa⟩
      subst e
      obtain ⟨dl, hdl, dx⟩ := hX.getM hxi
      obtain ⟨xa, rfl, nxa, rxa⟩ := d4E dx
      have smH := sm_of hD sa.fr
      have rx2 := smH _ _ rxa
      have hfs2 := smH _ _ hfs
      have rva2 := rva.same smH
      obtain ⟨r0, r1⟩ := dok.r dl (List.mem_of_getElem? hdl)
      obtain ⟨d1, d2⟩ := dok.d dl (List.mem_of_getElem? hdl)
      obtain ⟨⟨kvs, hk, hkl, hkn, hki, hkv⟩, hkf⟩ := id sa
      have hilt := (List.getElem?_eq_some_iff.mp hdl).1
      have hkz : kvs.length < 1000 := by omega
      have b0 : (0 : Int).natAbs < 2 ^ 1900 := by decide +kernel
      have e15 : (16384 : Nat) < 2 ^ 1900 := by decide +kernel
      have bx : dl.2.2.1.natAbs < 2 ^ 1900 := by omega
      have by' : dl.2.2.2.natAbs < 2 ^ 1900 := by omega
      obtain ⟨m_s1, m_s2⟩ := sm_md dok i dl.2.1
      have z_w := wAt_sz dok.w dl.1
      have m_w : Md (wAt W dl.1) := z_w.md (by decide)
      have m_x : Md (Rat.divInt dl.2.2.1 1) := (iq_sz15 d1).md (by decide)
      have m_y : Md (Rat.divInt dl.2.2.2 1) := (iq_sz15 d2).md (by decide)
      have m_px : Md (Rat.divInt dl.2.2.1 1 * wAt W dl.1) := ((iq_sz15 d1).mul z_w).md (by decide)
      have m_py : Md (Rat.divInt dl.2.2.2 1 * wAt W dl.1) := ((iq_sz15 d2).mul z_w).md (by decide)
      have htr : dl.1.toNat < ts.length := by rw [rva.1]; omega
      have hW : W[dl.1.toNat]? = some (wAt W dl.1) := by
        unfold wAt
        rw [List.getElem?_eq_getElem (show dl.1.toNat < W.length by omega)]
        rfl
      have htk : ts[dl.1.toNat]? = some ts[dl.1.toNat] := List.getElem?_eq_getElem htr
      generalize ts[dl.1.toNat] = tr at htk
      have rvw : RV K H' tr (wAt W dl.1) := rva2.2 _ _ _ htk hW
      have atr : atI (ts.map V.ref) dl.1 = some (.ref tr) := by
        have : atI (ts.map V.ref) (dl.1.toNat : Int) = some (.ref tr) := atI_nat (by rw [List.getElem?_map, htk]; rfl)
        rw [show (dl.1.toNat : Int) = dl.1 from by omega] at this
        exact this
      have lts : (ts.map V.ref).length < 1000 := by
        rw [List.length_map, rva.1]
        have := dok.wz
        omega
      walk_at "fl.w"
      refine g_dg2 ?_
      walk_at "fl.w"
      refine ⟨D, rfl, .inl ⟨_, .inl hk⟩, ?_⟩
      walk_at "fl.w"
      rename_i t0 G0 ht0 s0 rv0 t1 G1 ht1 s1 rv1 tp htp
      have s2 : Same H' (upd G1 tp (.tup [.ref t0, .ref t1])) := (s0.trans s1).trans (Fl.Same.new htp)
      have t0D : t0 ≠ D := fun e => by rw [e, hk] at ht0; cases ht0
      have t1D : t1 ≠ D := fun e => by rw [e, s0 _ _ hk] at ht1; cases ht1
      have key : ∃ t' a' b', (valV kvs (.inl dl.2.1)).getD (.ref tp) = .ref t' ∧ (upd G1 tp (.tup [.ref t0, .ref t1])) t' = some (.tup [.ref a', .ref b']) ∧ RV K (upd G1 tp (.tup [.ref t0, .ref t1])) a' (smP W (ds.take i) dl.2.1).1 ∧ RV K (upd G1 tp (.tup [.ref t0, .ref t1])) b' (smP W (ds.take i) dl.2.1).2 := by
        rcases hkv dl.2.1 with ⟨e1, e2⟩ | ⟨t', a', b', e1, _, _, _, e5, e6, e7⟩
        · rw [e1, e2]
          exact ⟨tp, t0, t1, rfl, upd_same, (rv0.same s1).same (Fl.Same.new htp), rv1.same (Fl.Same.new htp)⟩
        · rw [e1]
          exact ⟨t', a', b', rfl, s2 _ _ e5, e6.same s2, e7.same s2⟩
      refine ⟨valV kvs (.inl dl.2.1), .inl ⟨kvs, .inl dl.2.1, .inl (s2 _ _ hk), rfl, rfl⟩, ?_⟩
      obtain ⟨t', a', b', ev, rt', ra', rb'⟩ := key
      rw [ev]
      have sa2 := sa.same s2
      have hk2 := s2 _ _ hk
      have hfs3 := s2 _ _ hfs2
      have rvw2 := rvw.same s2
      generalize upd G1 tp (.tup [.ref t0, .ref t1]) = G2 at s2 rt' ra' rb' sa2 hk2 hfs3 rvw2
      clear ht0 ht1 htp s0 s1 rv0 rv1 t0D t1D rvw hfs2 rva2 rx2
      walk_at "fl.w"
      rename_i q0 A0 hq0 c0 v0 q1 A1 hq1 c1 v1 q2 A2 hq2 c2 v2 q3 A3 hq3 c3 v3 q4 A4 hq4 c4 v4 q5 A5 hq5 c5 v5

      with_reducible refine g_dp ?_
      walk_at "fl.w"
      rename_i tq htq
      have s02 := (c0.trans c1)
      have s05 := ((((c0.trans c1).trans c2).trans c3).trans c4).trans c5
      have s25 := (c3.trans c4).trans c5
      have sq : Same A5 (upd A5 tq (.tup [.ref q2, .ref q5])) := Fl.Same.new htq
      have q2D : q2 ≠ D := fun e => by rw [e, s02 _ _ hk2] at hq2; cases hq2
      have q5D : q5 ≠ D := fun e => by rw [e, ((((c0.trans c1).trans c2).trans c3).trans c4) _ _ hk2] at hq5; cases hq5
      have tqD : tq ≠ D := fun e => by rw [e, s05 _ _ hk2] at htq; cases htq
      have hk6 := (s05.trans sq) _ _ hk2
      refine ⟨D, _, rfl, .inl ⟨kvs, .inl dl.2.1, hk6, rfl, by have : (1000 : Nat) ≤ sizeLine := (by decide); omega, rfl⟩, ?_⟩
      refine ⟨⟨_, _, _, _, _, _, rfl⟩, (sa2.same (s05.trans sq)).put hk6 tqD q2D q5D upd_same ((v2.same s25).same sq) (v5.same sq) fun j => ?_⟩
      rw [take_snoc' hdl, smP_snoc]
      by_cases e : j = dl.2.1
      · subst e
        rw [if_pos rfl, if_pos rfl]
        rfl
      · rw [if_neg e, if_neg e]
    · intro σ' H' ⟨⟨u3, u4, u5, u6, u7, u8, e⟩, sa⟩
      subst e
      walk_at "fl.w"
      have smH := sm_of hD sa.fr
      have etk : ds.take xs.length = ds := List.take_of_length_le (by omega)
      obtain ⟨⟨kvs, hk, hkl, hkn, hki, hkv⟩, hkf⟩ := sa
      have hmd := fun k => sm_md dok xs.length k
      rw [etk] at hkv hmd
      refine g_lockE hk trivial (fun od => ?_)
      refine dcIt (d := D) (kvs := kvs) (fun i t G => ∃ k x, kvs[i]? = some (.inl k, x) ∧ G t = some (.tup [.int (mvP W ds k).1, .int (mvP W ds k).2])) (fun R r => ⟨_, rfl, r⟩) upd_same (by omega) hkn (fun i t G G' ⟨k, x, r1, r2⟩ s => ⟨k, x, r1, s _ _ r2⟩) (fun i t B u G ⟨k, x, r1, r2⟩ n => ⟨k, x, r1, by rw [upd_ne n]; exact r2⟩) ?_ ?_
      · intro D2 i k x T Hc hD2 hki2 smc hT hDn R hR
        obtain ⟨kk, rfl⟩ : ∃ kk : Int, k = .inl kk := hki _ (List.mem_of_getElem? hki2)
        have hv := val_nodup hkn (.inl kk, x) (List.mem_of_getElem? hki2)
        rcases hkv kk with ⟨e1, _⟩ | ⟨t, a', b', e1, tD, aD, bD, e5, e6, e7⟩
        · rw [e1] at hv; cases hv
        · rw [e1] at hv
          cases hv
          have r5 : (upd H' D (.frz od (.dK kvs))) t = some (.tup [.ref a', .ref b']) := by rw [upd_ne tD]; exact e5
          have r6 : RV K (upd H' D (.frz od (.dK kvs))) a' (smP W ds kk).1 := RV.ex1 Ex1.upd aD e6
          have r7 : RV K (upd H' D (.frz od (.dK kvs))) b' (smP W ds kk).2 := RV.ex1 Ex1.upd bD e7
          have r5 := Fl.Same.new (o := .tup [kV (.inl kk), .ref t]) hT _ _ (smc _ _ r5)
          have r6 := (r6.same smc).same (Fl.Same.new (o := .tup [kV (.inl kk), .ref t]) hT)
          have r7 := (r7.same smc).same (Fl.Same.new (o := .tup [kV (.inl kk), .ref t]) hT)
          have rT : (upd Hc T (.tup [kV (.inl kk), .ref t])) T = some (.tup [.int kk, .ref t]) := upd_same
          have sT : Same Hc (upd Hc T (.tup [kV (.inl kk), .ref t])) := Fl.Same.new hT
          generalize upd Hc T (.tup [kV (.inl kk), .ref t]) = Hd at r5 r6 r7 rT sT
          obtain ⟨m1, m2⟩ := hmd kk
          walk_at "fl.w"
          refine ⟨rfl, ?_⟩
          walk_at "fl.w"
          rename_i pz hpz
          exact hR pz _ (Same.free sT hpz) (sT.trans (Fl.Same.new hpz)) ⟨kk, _, hki2, upd_same⟩
      · intro D2 G kvs2 smG hD2 hG hkeys hvals
        have hGD := smG _ _ upd_same
        have nD : D2 ≠ D := fun e => by rw [e, upd_same] at hD2; cases hD2
        refine ⟨hGD, ?_⟩
        have hkn2 : (kvs2.map (·.1)).Nodup := by rw [hkeys]; exact hkn
        refine q _ _ (smH.trans (same_lock hk smG)) ⟨kvs2, by rw [upd_ne nD]; exact hG, fun k => ?_⟩
        cases e : valV kvs2 (.inl k) with
        | none =>
          refine .inl ⟨rfl, ?_⟩
          have e2 : valV kvs (.inl k) = none := by
            cases e3 : valV kvs (.inl k) with
            | none => rfl
            | some x =>
              have m := valV_in e3
              rw [← hkeys] at m
              obtain ⟨p, mp, ep⟩ := List.mem_map.mp m
              have := val_nodup hkn2 p mp
              rw [ep, e] at this
              cases this
          rcases hkv k with ⟨_, e4⟩ | ⟨_, _, _, e4, _⟩
          · unfold mvP
            rw [e4]
            decide +kernel
          · rw [e2] at e4; cases e4
        | some v =>
          obtain ⟨p, hp, rfl⟩ := Option.map_eq_some_iff.mp (show (kvs2.find? fun kv => decide (kv.1 = .inl k)).map (·.2) = some v from e)
          have mp := List.mem_of_find?_eq_some hp
          have kp : p.1 = .inl k := by simpa using List.find?_some hp
          obtain ⟨i, hi⟩ := List.mem_iff_getElem?.mp mp
          obtain ⟨t, et, k', x', hk', ht⟩ := hvals i p hi
          have ek : k' = k := by
            have h1 : (kvs2.map (·.1))[i]? = some p.1 := by rw [List.getElem?_map, hi]; rfl
            have h2 : (kvs.map (·.1))[i]? = some (.inl k') := by rw [List.getElem?_map, hk']; rfl
            rw [hkeys, h2, kp] at h1
            cases h1
            rfl
          subst ek
          have ntD : t ≠ D := fun e => by rw [e, hGD] at ht; cases ht
          exact .inr ⟨t, by rw [et], by rw [upd_ne ntD]; exact ht⟩
end

section
def chC (m : Int → Int × Int) (n : Nat) : List Pt → List Pt
  | [] => []
  | p :: c => (p.1 + (m n).1, p.2.1 + (m n).2, p.2.2) :: chC m (n + 1) c
def chO (m : Int → Int × Int) (n : Nat) : List (List Pt) → List (List Pt)
  | [] => []
  | c :: o => chC m n c :: chO m (n + c.length) o
theorem chC_len (m : Int → Int × Int) : ∀ (c : List Pt) (n : Nat), (chC m n c).length = c.length
  | [], _ => rfl
  | p :: c, n => by
    show (chC m (n + 1) c).length + 1 = c.length + 1
    rw [chC_len m c]
theorem chC_snoc (m : Int → Int × Int) (p : Pt) : ∀ (c : List Pt) (n : Nat), chC m n (c ++ [p]) = chC m n c ++ [(p.1 + (m ((n + c.length : Nat) : Int)).1, p.2.1 + (m ((n + c.length : Nat) : Int)).2, p.2.2)]
  | [], _ => rfl
  | q :: c, n => by
    show _ :: chC m (n + 1) (c ++ [p]) = _ :: chC m (n + 1) c ++ _
    rw [chC_snoc m p c (n + 1), show n + 1 + c.length = n + (q :: c).length from by rw [List.length_cons]; omega]
    rfl
theorem chO_snoc (m : Int → Int × Int) (c : List Pt) : ∀ (o : List (List Pt)) (n : Nat), chO m n (o ++ [c]) = chO m n o ++ [chC m (n + (o.map List.length).sum) c]
  | [], n => by
    show [chC m n c] = [chC m (n + 0) c]
    rw [Nat.add_zero]
  | q :: o, n => by
    show _ :: chO m (n + q.length) (o ++ [c]) = _ :: chO m (n + q.length) o ++ _
    rw [chO_snoc m c o (n + q.length), List.map_cons, List.sum_cons, Nat.add_assoc]
    rfl
theorem chO_len (m : Int → Int × Int) : ∀ (o : List (List Pt)) (n : Nat), (chO m n o).length = o.length
  | [], _ => rfl
  | c :: o, n => by
    show (chO m (n + c.length) o).length + 1 = o.length + 1
    rw [chO_len m o]
def pn (o : List (List Pt)) : Nat := (o.map List.length).sum
theorem pn_snoc (o : List (List Pt)) (c : List Pt) : pn (o ++ [c]) = pn o + c.length := by
  unfold pn
  rw [List.map_append, List.sum_append]
  simp
theorem ChAt.get {H : Hp} {D : Addr} {m : Int → Int × Int} (h : ChAt H D m) (k : Int) {tp : Addr} (ht : H tp = some (.tup [.int 0, .int 0])) : ∃ kvs t, H D = some (.dK kvs) ∧ (valV kvs (.inl k)).getD (.ref tp) = .ref t ∧ H t = some (.tup [.int (m k).1, .int (m k).2]) := by
  obtain ⟨kvs, h1, h2⟩ := h
  rcases h2 k with ⟨e1, e2⟩ | ⟨t, e1, e2⟩
  · exact ⟨kvs, tp, h1, by rw [e1]; rfl, by rw [e2]; exact ht⟩
  · exact ⟨kvs, t, h1, by rw [e1]; rfl, e2⟩
theorem ptE' {S : List Addr} {H : Hp} {v : V} {p : Pt} (h : Dq S H v (ptD p)) : ∃ a, v = .ref a ∧ a ∉ S ∧ H a = some (.tup [.int p.1, .int p.2.1, .bl p.2.2]) := by
  obtain ⟨a, xs, rfl, na, hx, hd⟩ := h.tupE
  obtain ⟨_, _, rfl, h1, hd⟩ := hd.consE
  obtain ⟨_, _, rfl, h2, hd⟩ := hd.consE
  obtain ⟨_, _, rfl, h3, hd⟩ := hd.consE
  cases hd.nilE
  cases h1.intE
  cases h2.intE
  cases h3.blE
  exact ⟨a, rfl, na, hx⟩
end
section
variable {P : Program} {w : World} {K : PySem.W.Frag} {mg : Str → Option Value} {base : Heap}
local macro_rules | `(tactic| walk_at "fl.t") => `(tactic| (with_reducible refine g_chainW ?_))
local macro_rules | `(tactic| walk_at "fl.t") => `(tactic| (with_reducible refine g_callS ?_))
local macro_rules | `(tactic| walk_at "fl.t") => `(tactic| (with_reducible refine g_ifE ?_))
local macro_rules | `(tactic| walk_at "fl.w") => `(tactic| repeat walk_at "fl.t")
def spCho : Sp := fun vs H Q _ => ∃ (S : List Addr) (a b : Addr) (o : List (List Pt)) (m : Int → Int × Int), vs = [.ref a, .ref b] ∧ Al S H ∧ Dq S H (.ref a) (ouD o) ∧ ChAt H b m ∧ o.length ≤ 40 ∧ (∀ c, c ∈ o → c.length ≤ 200) ∧ ∀ v H', Same H H' → Dq S H' v (ouD (chO m 0 o)) → Q v H'
theorem ok_changed_outline (T : Txt K mg) : Has P w K mg base 2 "changed_outline" ps_changed_outline spCho := by
  refine has_of T.d_changed_outline sc_changed_outline bd_changed_outline (fun vs H Q E h => ?_) (fun f cdv A outer s H vs Q E hr h => ?_)
  · obtain ⟨S, a, b, o, m, rfl, _⟩ := h
    rfl
  · obtain ⟨S, a, b, o, m, rfl, hS, ha, hch, ho, hc, q⟩ := h
    obtain ⟨_, xs, e, na, hb, hX⟩ := ha.lstE
    cases e
    have lx : xs.length = o.length := by rw [hX.len, List.length_map]
    refine ⟨_, (pss_cons (ps_set (i := 2) sc_changed_outline.nd rfl (.inl rfl) (pe_lst pa_nil))
      (pss_cons (ps_set (i := 3) sc_changed_outline.nd rfl (.inl rfl) pe_int)
      (pss_cons (ps_for PassesOwn.never rfl (piL (K := K) rfl (pv 0)) (pg_name (i := 4) sc_changed_outline.nd rfl (.inl rfl))
        (pss_cons (ps_set (i := 5) sc_changed_outline.nd rfl (.inl rfl) (pe_lst pa_nil))
      (pss_cons (ps_for PassesOwn.never rfl (piL (K := K) rfl (pv 4)) (pgT (n := 3) (K := K) rfl (by rfl) (pgs_cons (pg_name (i := 6) sc_changed_outline.nd rfl (.inl rfl)) (pgs_cons (pg_name (i := 7) sc_changed_outline.nd rfl (.inl rfl)) (pgs_cons (pg_name (i := 8) sc_changed_outline.nd rfl (.inl rfl)) pgs_nil))))
        (pss_cons (ps_asg (pe_dget2 (hu_of hr) (pv 1) (pv 3) (pe_tup (pa_cons pe_int (pa_cons pe_int pa_nil))) ⟨by rfl, by rfl, by rfl, by rfl⟩) (pgT (n := 2) (K := K) rfl (by rfl) (pgs_cons (pg_name (i := 9) sc_changed_outline.nd rfl (.inl rfl)) (pgs_cons (pg_name (i := 10) sc_changed_outline.nd rfl (.inl rfl)) pgs_nil))))
      (pss_cons (ps_expr (pe_bm PySem.F.plainAttrs_list PySem.F.slot_list_append PySem.F.type_list_append mt_append (pv 5) (pa_cons (pe_tup (pa_cons (pe_op op_add (pv 6) (pv 9)) (pa_cons (pe_op op_add (pv 7) (pv 10)) (pa_cons (pv 8) pa_nil)))) pa_nil)))
      (pss_one (ps_aug (i := 3) sc_changed_outline.nd rfl (.inl rfl) pe_int ip_add)))))
      (pss_one (ps_expr (pe_bm PySem.F.plainAttrs_list PySem.F.slot_list_append PySem.F.type_list_append mt_append (pv 2) (pa_cons (pv 5) pa_nil)))))))
      (pss_one (ps_ret (pv 2)))))), ?_⟩
    walk_at "fl.w"
    rename_i D hD
    refine forK_l (xs := xs) (fun i σ' H' => (∃ u4 u5 u6 u7 u8 u9 u10, σ' = [some (.ref a), some (.ref b), some (.ref D), some (.int (pn (o.take i) : Nat)), u4, u5, u6, u7, u8, u9, u10]) ∧ (∃ acc, H' D = some (.lst acc) ∧ DqA (D :: S) H' acc ((chO m 0 (o.take i)).map ctD)) ∧ Fr [D] H H') ⟨⟨_, _, _, _, _, _, _, rfl⟩, ⟨[], upd_same, .nil⟩, Fr.same (Fl.Same.new hD)⟩ (fun i σ' H' _ e => SqL.of (sm_of hD e.2.2 _ _ hb)) ?_ ?_
    · intro i x σ' H' hxi ⟨⟨u4, u5, u6, u7, u8, u9, u10, e⟩, ⟨acc, hacc, hA⟩, hf⟩
      subst e
      have smH := sm_of hD hf
      obtain ⟨c, hci, dx⟩ := hX.getM hxi
      have hilt := (List.getElem?_eq_some_iff.mp hci).1
      obtain ⟨xa, ys, rfl, nxa, rxa, hY⟩ := dx.lstE
      have hcl := hc c (List.mem_of_getElem? hci)
      have ly : ys.length = c.length := by rw [hY.len, List.length_map]
      have rx2 := smH _ _ rxa
      have hY2 := hY.same smH
      have hch2 := hch.same smH
      have lacc : acc.length = i := by
        rw [hA.len, List.length_map, chO_len, List.length_take]
        omega
      have hDn : H' D ≠ none := by rw [hacc]; simp
      walk_at "fl.w"
      rename_i B hB
      have hBD : B ≠ D := fun e => hDn (by rw [← e]; exact hB)
      refine forK_l (xs := ys) (fun j σ2 H2 => (∃ u6 u7 u8 u9 u10, σ2 = [some (.ref a), some (.ref b), some (.ref D), some (.int ((pn (o.take i) + j : Nat) : Int)), some (.ref xa), some (.ref B), u6, u7, u8, u9, u10]) ∧ (∃ bcc, H2 B = some (.lst bcc) ∧ DqA (B :: D :: S) H2 bcc ((chC m (pn (o.take i)) (c.take j)).map ptD)) ∧ Fr [B] H' H2) ⟨⟨_, _, _, _, _, rfl⟩, ⟨[], upd_same, .nil⟩, Fr.same (Fl.Same.new hB)⟩ (fun j σ2 H2 _ e => SqL.of (sm_of hB e.2.2 _ _ rx2)) ?_ ?_
      · intro j x σ2 H2 hxj ⟨⟨u6, u7, u8, u9, u10, e⟩, ⟨bcc, hbcc, hBA⟩, hf2⟩
        subst e
        have sm2 := sm_of hB hf2
        obtain ⟨p, hpj, dp⟩ := hY2.getM hxj
        have hjlt := (List.getElem?_eq_some_iff.mp hpj).1
        obtain ⟨pa, rfl, npa, rpa⟩ := ptE' dp
        have rp2 := sm2 _ _ rpa
        have hch3 := hch2.same sm2
        have lbcc : bcc.length = j := by
          rw [hBA.len, List.length_map, chC_len, List.length_take]
          omega
        walk_at "fl.w"
        refine g_dg2 ?_
        walk_at "fl.w"
        obtain ⟨kv0, hk0, _⟩ := id hch3
        refine ⟨b, rfl, .inl ⟨_, .inl hk0⟩, ?_⟩
        walk_at "fl.w"
        rename_i tp htp
        have s3 : Same H2 (upd H2 tp (.tup [.int 0, .int 0])) := Fl.Same.new htp
        obtain ⟨kvs, t, hk, ev, rt⟩ := (hch3.same s3).get ((pn (o.take i) + j : Nat) : Int) upd_same
        refine ⟨valV kvs (.inl ((pn (o.take i) + j : Nat) : Int)), .inl ⟨kvs, .inl _, .inl hk, rfl, rfl⟩, ?_⟩
        rw [ev]
        have hbcc3 := s3 _ _ hbcc
        have rp3 := s3 _ _ rp2
        have hBA3 := hBA.same s3
        have hf3 := hf2.trans (Fr.same s3)
        generalize upd H2 tp (.tup [.int 0, .int 0]) = H3 at s3 rt hk hbcc3 rp3 hBA3 hf3
        clear hbcc rp2 hBA hf2 htp hk0
        walk_at "fl.w"
        rename_i tq htq
        have s4 : Same H3 (upd H3 tq (.tup [.int (p.1 + (m ((pn (o.take i) + j : Nat) : Int)).1), .int (p.2.1 + (m ((pn (o.take i) + j : Nat) : Int)).2), .bl p.2.2])) := Fl.Same.new htq
        have al4 : Al (B :: D :: S) H3 := .cons (by rw [hbcc3]; simp) (.cons (hf3 D _ (by simpa using fun e : D = B => hBD e.symm) hacc ▸ by simp) ((hS.same smH).same (sm_of hB hf3)))
        refine ⟨⟨_, _, _, _, _, by rw [show ((pn (o.take i) + j : Nat) : Int) + 1 = ((pn (o.take i) + (j + 1) : Nat) : Int) from by omega]; rfl⟩, ⟨_, upd_same, ?_⟩, (hf3.trans (Fr.same s4)).trans (Fr.upd (by simp))⟩
        rw [List.take_add_one, hpj, Option.toList_some, chC_snoc, List.map_append]
        refine ((hBA3.same s4).app (.one ?_)).fr (Fr.upd (by simp))
        rw [List.length_take, Nat.min_eq_left (by omega)]
        exact .tup (al4.ni htq) upd_same (.cons (.int _) (.cons (.int _) (.cons (.bl _) .nil)))
      · intro σ2 H2 ⟨⟨u6, u7, u8, u9, u10, e⟩, ⟨bcc, hbcc, hBA⟩, hf2⟩
        subst e
        have sm2 := sm_of hB hf2
        have hacc2 := sm2 _ _ hacc
        walk_at "fl.w"
        rw [show c.take ys.length = c from List.take_of_length_le (by omega)] at hBA
        refine ⟨⟨_, _, _, _, _, _, _, by rw [List.take_add_one, hci, Option.toList_some, pn_snoc, ← ly] <;> rfl⟩, ⟨_, upd_same, ?_⟩, (hf.trans (Fr.same sm2)).trans (Fr.upd (by simp))⟩
        rw [List.take_add_one, hci, Option.toList_some, chO_snoc, List.map_append]
        refine ((hA.same sm2).app (.one ?_)).fr (Fr.upd (by simp))
        have nB : B ∉ D :: S := fun m => by
          rcases List.mem_cons.mp m with e | m
          · exact hBD e
          · exact (hS.same smH).ni hB m
        rw [Nat.zero_add]
        exact (show Dq (D :: S) H2 (.ref B) (ctD (chC m (pn (o.take i)) c)) from .lst nB hbcc hBA.tail)
    · intro σ' H' ⟨⟨u4, u5, u6, u7, u8, u9, u10, e⟩, ⟨acc, hacc, hA⟩, hf⟩
      subst e
      walk_at "fl.w"
      rw [List.take_of_length_le (by omega)] at hA
      exact q _ _ (sm_of hD hf) (.lst (hS.ni hD) hacc hA.tail)
end

section
variable {P : Program} {w : World} {K : PySem.W.Frag} {mg : Str → Option Value} {base : Heap}
local macro_rules | `(tactic| walk_at "fl.t") => `(tactic| (with_reducible refine g_chainW ?_))
local macro_rules | `(tactic| walk_at "fl.t") => `(tactic| (with_reducible refine g_callS ?_))
local macro_rules | `(tactic| walk_at "fl.t") => `(tactic| (with_reducible refine g_ifE ?_))
local macro_rules | `(tactic| walk_at "fl.w") => `(tactic| repeat walk_at "fl.t")
theorem log_small {i : Int} (h : i.natAbs < 10000) : i.natAbs.log2 < 1920 := by
  by_cases z : i.natAbs = 0
  · rw [z]; decide
  · have := (Nat.log2_lt (k := 14) z).mpr (by omega)
    omega
theorem int_len {i : Int} (h : i.natAbs < 10000) : (Str.ofString (toString i)).cps.size ≤ 1921 := PyProof.Rows.int_text_len_1921 (log_small h)
/-- Glyph(advance, outline, parts=, anchors=, mark=, hint=) -/
theorem mk_GlC {e1 e2 e3 e4 : Addr} {sp : Sp} (h : InI P w K mg base 2 "Glyph" "Glyph.__init__" s_Glyph fl_Glyph (kw_Glyph e1 e2 e3 e4) ps_Glyph sp) :
    MkI P w K mg base 2 "Glyph" 2 ["parts", "anchors", "mark", "hint"] (fun vs zs => pick [0, 1, 2, 4, 5, 6, 3, 7] (vs ++ ([.ref e3] ++ zs))) sp :=
  h.make 2 ["parts", "anchors", "mark", "hint"] [("deltas", .ref e3)] [0, 1, 2, 4, 5, 6, 3, 7] (by simp) (by simp [kw_Glyph]) fun D doc pm an cdv ct us mv ws h1 h2 h3 => match us, h1, mv, h2, ws, h3 with | [_, _, _], _, [_], _, [_, _, _, _], _ => ⟨_, _, _, _, _, _, rfl, rfl, rfl⟩
theorem mk_OR (T : Txt K mg) : MkN1 P w K mg base 1 "OutOfRange" "number" ps_OutOfRange :=
  mkN1_of T.mk_OutOfRange rfl sc_OutOfRange (fun kV doc pm an cdv ct us h => match us, h with | [_, _], _ => rfl) (fun fa cdv A outer s H a i Q E hr hi h q => by
    refine ⟨_, pss_cons (ps_expr (pe_binit (by rfl) T.x_FleuronError T.b_FleuronError (pa_cons (pv 0) (pa_cons (pe_joined (.cons pe_str (.cons (pe_fmt (pv 1)) (.cons pe_str .nil)))) pa_nil)))) (pss_one (ps_ost (pv 0) (pv 1))), ?_⟩
    have hz : (6000 : Nat) ≤ sizeLine := by decide
    have li := int_len hi
    have h0 : (Str.empty.cps).size = 0 := rfl
    have h1 : (Str.ofString "glyph ").cps.size ≤ 40 := by decide
    have h2 : (Str.ofString " does not exist at the place").cps.size ≤ 60 := by decide
    refine ⟨.ref a, rfl, ⟨_, rfl, ?_, .int i, rfl, .inr ⟨i, rfl, log_small hi, ⟨_, rfl, ?_, _, rfl, ?_, ?_⟩⟩⟩⟩
    · show (Str.empty.cps ++ (Str.ofString "glyph ").cps).size ≤ sizeLine
      rw [Array.size_append]
      omega
    · show (Str.empty.cps ++ (Str.ofString "glyph ").cps ++ (Str.ofString (toString i)).cps).size ≤ sizeLine
      rw [Array.size_append, Array.size_append]
      omega
    · show (Str.empty.cps ++ (Str.ofString "glyph ").cps ++ (Str.ofString (toString i)).cps ++ (Str.ofString " does not exist at the place").cps).size ≤ sizeLine
      rw [Array.size_append, Array.size_append, Array.size_append]
      omega
    · exact ⟨a, adr mg "OutOfRange", [_], rfl, by simp, T.mk_OutOfRange.o, h, .int i, rfl, .ref a, rfl, a, adr mg "OutOfRange", rfl, T.mk_OutOfRange.o, T.mk_OutOfRange.n, .inl ⟨h, fun dx hd hne => q dx hd hne⟩⟩)
theorem abs_le {x : Int} : (if x < 0 then -x else x) ≤ 16384 ↔ (-16384 ≤ x ∧ x ≤ 16384) := by
  split <;> omega
def nearD : PyData → PyData
  | .tuple [.int x, .int y, _] => .bool (decide (-16384 ≤ x ∧ x ≤ 16384 ∧ -16384 ≤ y ∧ y ≤ 16384))
  | _ => .bool true
def nearO (o : List (List Pt)) : Bool := o.flatten.all okP
def fNr (ds : List PyData) (d : PyData) : Prop := ∃ o : List (List Pt), ds = [ouD o] ∧ o.flatten.length < 900 ∧ d = .bool (nearO o)
theorem ok_is_near (T : Txt K mg) : Has P w K mg base 1 "is_near" ps_is_near (spD fNr) := by
  refine has_of T.d_is_near sc_is_near bd_is_near (fun vs H Q E h => ?_) (fun f cdv A outer s H vs Q E hr h => ?_)
  · obtain ⟨S, ds, d, _, hd, ⟨o, rfl, _⟩, _⟩ := h
    rw [hd.len]
    rfl
  · obtain ⟨S, ds, d, hS, hd, ⟨o, rfl, hz, rfl⟩, q⟩ := h
    obtain ⟨v1, _, rfl, h1, hd⟩ := hd.consE
    cases hd.nilE
    have ef : (o.map fun c => c.map ptD).flatten = o.flatten.map ptD := by rw [List.map_flatten]
    have h1' : Dq S H v1 (.list ((o.map fun c => c.map ptD).map PyData.list)) := by rw [List.map_map]; exact h1
    obtain ⟨a, xs, rfl, na, hb, hX⟩ := id h1'.lstE
    refine ⟨_, (pss_one (ps_ret (pe_callB (clAll (K := K) rfl rfl) (by rfl) T.z_all (by decide +kernel) (pa_cons (pe_lc2 (own := [("contour", 1), ("x", 2), ("y", 3), ("_", 4)]) (vs1 := [2, 3, 4]) rfl sc_is_near.nd (piL (K := K) rfl (pv 0)) (blkOk_by (by kernel_rfl)) (by decide) (fun _ _ _ _ _ => (pg_name (i := 1) sc_is_near.nd rfl (.inl rfl))) (fun _ _ _ _ _ => pts_nil) (fun _ _ _ _ _ => (piL (K := K) rfl (pv 1))) (fun _ _ _ _ _ => (pgT (n := 3) (K := K) rfl (by rfl) (pgs_cons (pg_name (i := 2) sc_is_near.nd rfl (.inl rfl)) (pgs_cons (pg_name (i := 3) sc_is_near.nd rfl (.inl rfl)) (pgs_cons (pg_name (i := 4) sc_is_near.nd rfl (.inl rfl)) pgs_nil))))) (fun _ _ _ _ _ => pts_nil) (fun _ _ _ _ _ => (pe_and (pe_cmpR op_le (pe_callB call_abs' (by rfl) T.z_abs (by decide +kernel) (pa_cons (pv 2) pa_nil)) (pe_gv (by rfl) T.g_FARTHEST) (nomark _)) (pe_one (pe_cmpR op_le (pe_callB call_abs' (by rfl) T.z_abs (by decide +kernel) (pa_cons (pv 3) pa_nil)) (pe_gv (by rfl) T.g_FARTHEST) (nomark _)))))) pa_nil)))), ?_⟩
    walk_at "fl.w"
    refine g_lc2 ?_
    walk_at "fl.w"
    refine lcLM (i0 := 1) (f := nearD) hS h1' (by rw [ef, List.length_map]; omega) (fun x => rfl) (fun x => rfl) ?_ ?_
    · intro D e x x2 H2 hD hm sm al dx R hR
      rw [ef] at hm
      obtain ⟨p, _, rfl⟩ := List.mem_map.mp hm
      obtain ⟨pa, rfl, npa, rpa⟩ := ptE' dx
      walk_at "fl.w"
      refine ⟨rfl, ?_⟩
      walk_at "fl.w"
      by_cases hx : (if p.1 < 0 then -p.1 else p.1) ≤ 16384
      · refine g_yesB hx ?_
        walk_at "fl.w"
        refine hR _ _ (L2.Same.refl _) ?_
        have ex := abs_le.mp hx
        rw [show nearD (ptD p) = .bool (decide ((if p.2.1 < 0 then -p.2.1 else p.2.1) ≤ 16384)) from by
          show PyData.bool _ = PyData.bool _
          congr 1
          exact decide_eq_decide.mpr ⟨fun h => abs_le.mpr ⟨h.2.2.1, h.2.2.2⟩, fun h => ⟨ex.1, ex.2, (abs_le.mp h).1, (abs_le.mp h).2⟩⟩]
        exact .bl _
      · refine g_noB hx ?_
        refine hR _ _ (L2.Same.refl _) ?_
        rw [show nearD (ptD p) = .bool false from by
          show PyData.bool _ = PyData.bool _
          congr 1
          exact decide_eq_false fun h => hx (abs_le.mpr ⟨h.1, h.2.1⟩)]
        exact .bl _
    · intro D H2 sm hD dq
      rw [ef, List.map_map] at dq
      obtain ⟨_, ys, e, nD, hys, hY⟩ := dq.lstE
      cases e
      have ey := boolsL (p := fun p : Pt => okP p) (L := o.flatten) hY
      rw [ey] at hys
      walk_at "fl.w"
      refine q _ _ sm ?_
      rw [List.all_map]
      exact .bl _
end

section
structure StG (g : GlG) : Prop where
  p : g.parts = []
  a : g.anch = []
  m : g.mark = false
  h : g.hint = []
/-- a glyph at a place -/
def vGl (W : List Rat) (g : GlG) : GlG := ⟨g.adv + (mvP W g.deltas (-1)).1, chO (mvP W g.deltas) 0 g.outl, [], [], false, [], []⟩
def vGo (W : List Rat) (g : GlG) : Prop := 0 ≤ (vGl W g).adv ∧ (vGl W g).adv ≤ 16384 ∧ nearO (vGl W g).outl = true
theorem chO_mem (m : Int → Int × Int) : ∀ (o : List (List Pt)) (n : Nat) c', c' ∈ chO m n o → ∃ c, c ∈ o ∧ c'.length = c.length
  | [], _, _, h => (nomatch h)
  | c :: o, n, c', h => by
    rcases List.mem_cons.mp (show c' ∈ chC m n c :: chO m (n + c.length) o from h) with rfl | h
    · exact ⟨c, List.mem_cons_self, chC_len m c n⟩
    · obtain ⟨d, h1, h2⟩ := chO_mem m o _ c' h
      exact ⟨d, List.mem_cons_of_mem _ h1, h2⟩
theorem chO_flat (m : Int → Int × Int) : ∀ (o : List (List Pt)) (n : Nat), (chO m n o).flatten.length = o.flatten.length
  | [], _ => rfl
  | c :: o, n => by
    show (chC m n c :: chO m (n + c.length) o).flatten.length = _
    rw [List.flatten_cons, List.flatten_cons, List.length_append, List.length_append, chC_len, chO_flat m o]
theorem prp_ch {m : Int → Int × Int} {o : List (List Pt)} (h : prp o = true) (hn : nearO (chO m 0 o) = true) : prp (chO m 0 o) = true := by
  unfold prp at h ⊢
  rw [Bool.and_eq_true, Bool.and_eq_true] at h ⊢
  obtain ⟨⟨h1, h2⟩, h3⟩ := h
  refine ⟨⟨by rw [chO_len]; exact h1, by rw [cnt_flat, chO_flat, ← cnt_flat]; exact h2⟩, List.all_eq_true.mpr fun c' mc => ?_⟩
  obtain ⟨c, hc, hl⟩ := chO_mem m o 0 c' mc
  have h4 := List.all_eq_true.mp h3 c hc
  unfold okC at h4 ⊢
  rw [Bool.and_eq_true] at h4 ⊢
  refine ⟨by rw [hl]; exact h4.1, List.all_eq_true.mpr fun p mp => ?_⟩
  exact List.all_eq_true.mp hn p (List.mem_flatten.mpr ⟨c', mc, mp⟩)
theorem vG_ok {W : List Rat} {g : GlG} {n m n' m' : Nat} (h : g.Ok n m) (hv : vGo W g) : (vGl W g).Ok n' m' := by
  obtain ⟨h1, h2, h3⟩ := hv
  refine ⟨⟨h1, h2⟩, prp_ch h.ou h3, ⟨by show (chO _ 0 g.outl).length ≤ 40; rw [chO_len]; exact h.oz.1, fun c' mc => ?_⟩, ⟨by show 0 < 900; decide, fun p m => (nomatch m)⟩, ⟨by show 0 < 900; decide, fun p m => (nomatch m)⟩, ⟨by show 0 < 900; decide, fun p m => (nomatch m)⟩, ⟨by show 0 < 900; decide, fun p m => (nomatch m)⟩⟩
  obtain ⟨c, hc, hl⟩ := chO_mem _ g.outl 0 c' mc
  rw [hl]
  exact h.oz.2 c hc
theorem flat_prp {o : List (List Pt)} (h : prp o = true) : o.flatten.length ≤ 200 := by
  unfold prp at h
  rw [Bool.and_eq_true, Bool.and_eq_true, cnt_flat] at h
  have := of_decide_eq_true h.1.2
  omega
end
section
variable {P : Program} {w : World} {K : PySem.W.Frag} {mg : Str → Option Value} {base : Heap}
local macro_rules | `(tactic| walk_at "fl.t") => `(tactic| (with_reducible refine g_chainW ?_))
local macro_rules | `(tactic| walk_at "fl.t") => `(tactic| (with_reducible refine g_callS ?_))
local macro_rules | `(tactic| walk_at "fl.t") => `(tactic| (with_reducible refine g_ifE ?_))
local macro_rules | `(tactic| walk_at "fl.w") => `(tactic| repeat walk_at "fl.t")
def CgIn (K : PySem.W.Frag) (mg : Str → Option Value) (S : List Addr) (vs : List V) (H : Hp) (W : List Rat) (n : Nat) (g : GlG) : Prop := ∃ (v1 : V) (fs : Addr) (ts : List Addr) (f : FoG) (N M : Nat), vs = [v1, .int n, .ref fs] ∧ Al S H ∧ Dq S H v1 (foD (cs mg) f.R) ∧ f.glyphs[n]? = some g ∧ f.glyphs.length ≤ 60 ∧ StG g ∧ g.Ok N M ∧ H fs = some (.lst (ts.map V.ref)) ∧ RvA K H ts W ∧ DsOk W g.deltas
def spCg (K : PySem.W.Frag) (mg : Str → Option Value) : Sp := fun vs H Q _ => ∃ S W n g, CgIn K mg S vs H W n g ∧ vGo W g ∧ ∀ v H', Same H H' → Dq S H' v (glD (cs mg) (vGl W g).R) → Q v H'
def spCgX (K : PySem.W.Frag) (mg : Str → Option Value) : Sp := fun vs H Q E => ∃ S W n g, CgIn K mg S vs H W n g ∧ (vGo W g → ∀ v H', Same H H' → Dq S H' v (glD (cs mg) (vGl W g).R) → Q v H') ∧ (¬ vGo W g → ∀ H' dx, Same H H' → H' dx = none → E (.ref (adr mg "OutOfRange")) (some dx) (upd H' dx (.xd [("number", .int n)])))
theorem CgIn.len {S : List Addr} {vs : List V} {H : Hp} {W : List Rat} {n : Nat} {g : GlG} (h : CgIn K mg S vs H W n g) : vs.length = 3 := by
  obtain ⟨v1, fs, ts, f, N, M, rfl, _⟩ := h
  rfl
theorem ok_changed_glyph (T : Txt K mg) : Has P w K mg base 5 "changed_glyph" ps_changed_glyph (spCg K mg) := by
  obtain ⟨_, _, _, _, _, _, _, _, _, _, _, _, _, _, cF⟩ := T.c_Font
  have clF := cF.cl
  have naF := cF.na
  obtain ⟨g1', g2', g3', g4', o1, o2, o3, o4, cG⟩ := T.c_Glyph
  have clG := cG.cl
  have naG := cG.na
  have mk_Glyph_2_parts_anchors_mark_hint := mk_GlC (ok_Glyph (P := P) (w := w) (base := base) T cG)
  have h_changes_of := ok_changes_of (P := P) (w := w) (base := base) T
  have h_changed_outline := ok_changed_outline (P := P) (w := w) (base := base) T
  have h_is_near := ok_is_near (P := P) (w := w) (base := base) T
  refine has_of T.d_changed_glyph sc_changed_glyph bd_changed_glyph (fun vs H Q E h => ?_) (fun f cdv A outer s H vs Q E hr h => ?_)
  · obtain ⟨S, W, n, g, h, _⟩ := h
    exact h.len
  · obtain ⟨S, W, n, g, ⟨v1, fs, ts, fo, N, M, rfl, hS, h1, hg, hgl, sg, gok, hfs, rva, dok⟩, hv, q⟩ := h
    obtain ⟨fa, fdx, w1, w2, w3, w4, w5, w6, w7, w8, w9, rfl, fna, fA, j1, j2, j3, j4, j5, j6, j7, j8, j9⟩ := foE h1
    have j2' : Dq S H w2 (.list (fo.glyphs.map fun g => glD (cs mg) g.R)) := by
      simp only [FoG.R, List.map_map] at j2
      exact j2
    obtain ⟨b, gs, rfl, hb, hbl, hG⟩ := lstN j2'
    obtain ⟨x, hx, dx⟩ := hG.getD (i := n) (d := glD (cs mg) g.R) (by rw [List.getElem?_map, hg]; rfl)
    have ax : atI gs (n : Int) = some x := atI_nat hx
    have hn : n < fo.glyphs.length := (List.getElem?_eq_some_iff.mp hg).1
    have lgs : gs.length < 1000 := by omega
    obtain ⟨ga, gdx, u1, u2, u3, u4, u5, u6, u7, rfl, gna, gA, m1, m2, m3, m4, m5, m6, m7⟩ := glE dx
    have m1 : Dq S H u1 (.int g.adv) := m1
    have m2 : Dq S H u2 (ouD g.outl) := by rw [← ouD3_pt]; exact m2
    have m3 : Dq S H u3 (.list []) := by
      have m3 : Dq S H u3 (ltD (g.parts.map i3)) := m3
      rw [sg.p] at m3
      exact m3
    have m4 : Dq S H u4 (.list []) := by
      have m4 : Dq S H u4 (ltD (g.anch.map s3i)) := m4
      rw [sg.a] at m4
      exact m4
    have m5 : Dq S H u5 (.bool false) := by
      have m5 : Dq S H u5 (.bool g.mark) := m5
      rw [sg.m] at m5
      exact m5
    have m6 : Dq S H u6 (.list (g.deltas.map d4D)) := by
      have m6 : Dq S H u6 (ltD (g.deltas.map i4)) := m6
      rw [ltD_map] at m6
      exact m6
    have m7 : Dq S H u7 (.list []) := by
      have m7 : Dq S H u7 (ltD (g.hint.map s1i)) := m7
      rw [sg.h] at m7
      exact m7
    cases m1.intE
    cases m5.blE
    refine ⟨_, (pss_cons (ps_set (i := 3) sc_changed_glyph.nd rfl (.inl rfl) (pe_ix (ixL (K := K) rfl) (peFld (K := K) rfl (pv 0) rfl) (pv 1) (fun _ _ => rfl)))
      (pss_cons (ps_set (i := 4) sc_changed_glyph.nd rfl (.inl rfl) (pe_h h_changes_of (hr.mono (by decide)) (pa_cons (peFld (K := K) rfl (pv 3) rfl) (pa_cons (pv 2) pa_nil))))
      (pss_cons (ps_set (i := 5) sc_changed_glyph.nd rfl (.inl rfl) (pe_op op_add (peFld (K := K) rfl (pv 3) rfl) (pe_ix (ixT (K := K) rfl) (pe_dget2 (hu_of hr) (pv 4) (pe_gv (by rfl) T.g_ADVANCE) (pe_tup (pa_cons pe_int (pa_cons pe_int pa_nil))) ⟨by rfl, by rfl, by rfl, by rfl⟩) pe_int (fun _ _ => rfl))))
      (pss_cons (ps_set (i := 6) sc_changed_glyph.nd rfl (.inl rfl) (pe_h h_changed_outline (hr.mono (by decide)) (pa_cons (peFld (K := K) rfl (pv 3) rfl) (pa_cons (pv 4) pa_nil))))
      (pss_cons (ps_if (PW.pt (pw_or (pt_not (pt_chain op_le op_le pe_int (pv 5) (pe_gv (by rfl) T.g_FARTHEST))) (pw_or1 (pt_not (pt_val (pe_h h_is_near (hr.mono (by decide)) (pa_cons (pv 6) pa_nil)))))))
        pss_never
        pss_nil)
      (pss_one (ps_ret (pe_mk (mg := mg) rfl mk_Glyph_2_parts_anchors_mark_hint (hr.mono (by decide)) (pa_cons (pv 5) (pa_cons (pv 6) pa_nil)) (pk_cons (peFld (K := K) rfl (pv 3) rfl) (pk_cons (peFld (K := K) rfl (pv 3) rfl) (pk_cons (peFld (K := K) rfl (pv 3) rfl) (pk_cons (peFld (K := K) rfl (pv 3) rfl) pk_nil)))))))))))), ?_⟩
    walk_at "fl.w"
    obtain ⟨b6, ys6, rfl, n6, hb6, hY6⟩ := id m6.lstE
    refine ⟨S, b6, fs, ts, W, g.deltas, rfl, hS, m6, hfs, rva, dok, fun D H2 sm hch => ?_⟩
    have gA2 := sm _ _ gA
    walk_at "fl.w"
    refine g_dg2 ?_
    walk_at "fl.w"
    obtain ⟨kv0, hk0, _⟩ := id hch
    refine ⟨D, rfl, .inl ⟨_, .inl hk0⟩, ?_⟩
    walk_at "fl.w"
    rename_i tp htp
    have s3 : Same H2 (upd H2 tp (.tup [.int 0, .int 0])) := Fl.Same.new htp
    obtain ⟨kvs, t, hk, ev, rt⟩ := (hch.same s3).get (-1) upd_same
    refine ⟨valV kvs (.inl (-1)), .inl ⟨kvs, .inl _, .inl hk, rfl, rfl⟩, ?_⟩
    rw [ev]
    have hch3 := hch.same s3
    have sm2 := sm.trans s3
    generalize upd H2 tp (.tup [.int 0, .int 0]) = H3 at s3 rt hk hch3 sm2
    have gA3 := sm2 _ _ gA
    walk_at "fl.w"
    obtain ⟨b2, ys2, rfl, n2, hb2, hY2⟩ := (show Dq S H u2 (.list (g.outl.map ctD)) from m2).lstE
    refine ⟨S, b2, D, g.outl, mvP W g.deltas, rfl, hS.same sm2, m2.same sm2, hch3, gok.oz.1, gok.oz.2, fun v6 H4 sm4 hv6 => ?_⟩
    have gA4 := sm4 _ _ gA3
    have al4 := (hS.same sm2).same sm4
    obtain ⟨hv1, hv2, hv3⟩ := hv
    walk_at "fl.w"
    refine g_yesB (show (0 : Int) ≤ g.adv + (mvP W g.deltas (-1)).1 from hv1) ?_
    walk_at "fl.w"
    refine g_nB (show g.adv + (mvP W g.deltas (-1)).1 ≤ 16384 from hv2) ?_
    walk_at "fl.w"
    refine spD_app S [ouD (chO (mvP W g.deltas) 0 g.outl)] (.bool (nearO (chO (mvP W g.deltas) 0 g.outl))) al4 (.cons hv6 .nil) ⟨_, rfl, by rw [chO_flat]; have := flat_prp gok.ou; omega, rfl⟩ (fun v G sm5 hv' => ?_)
    rw [show nearO (chO (mvP W g.deltas) 0 g.outl) = true from hv3] at hv'
    cases hv'.blE
    have gA5 := sm5 _ _ gA4
    have al5 := al4.same sm5
    have smG := (sm2.trans sm4).trans sm5
    have m3 := m3.same smG
    have m4 := m4.same smG
    have m7 := m7.same smG
    have hv6 := hv6.same sm5
    walk_at "fl.w"
    refine g_mk rfl rfl (mk_app (f := fGl) (ws := [.int (g.adv + (mvP W g.deltas (-1)).1), v6, u3, u4, .bl false, .ref g3', u7]) S [.int (g.adv + (mvP W g.deltas (-1)).1), ouD (chO (mvP W g.deltas) 0 g.outl), .list [], .list [], .bool false, .tuple [], .list []] (vGl W g).R.F (fun x => rfl) al5 (.cons (.inl (.int _)) (.cons (.inl hv6) (.cons (.inl m3) (.cons (.inl m4) (.cons (.inl (.bl _)) (.cons (.inr ⟨rfl, _, rfl, o3⟩) (.cons (.inl m7) .nil)))))))
      ⟨_, _, _, _, _, (vGl W g).R, rfl, GlG.rok (vG_ok (n' := 1) (m' := 0) gok ⟨hv1, hv2, hv3⟩), ?_, .le, .le, .e, .le, rfl⟩ fun xa HD smD da => ?_)
    · rw [← ouD3_pt]
      refine .ou ?_ ?_
      · rw [List.length_map, chO_len]
        have := gok.oz.1
        omega
      · intro c m
        obtain ⟨c', m', rfl⟩ := List.mem_map.mp m
        rw [List.length_map]
        obtain ⟨c0, h0, hl⟩ := chO_mem _ _ _ c' m'
        have := gok.oz.2 c0 h0
        omega
    · exact q _ _ (smG.trans smD) da
theorem ok_changed_glyphX (T : Txt K mg) : HasXN P w K mg base 5 "changed_glyph" ps_changed_glyph (spCgX K mg) := by
  have hM_OutOfRange := mk_OR (P := P) (w := w) (base := base) T
  obtain ⟨_, _, _, _, _, _, _, _, _, _, _, _, _, _, cF⟩ := T.c_Font
  have clF := cF.cl
  have naF := cF.na
  obtain ⟨g1', g2', g3', g4', o1, o2, o3, o4, cG⟩ := T.c_Glyph
  have clG := cG.cl
  have naG := cG.na
  have mk_Glyph_2_parts_anchors_mark_hint := mk_GlC (ok_Glyph (P := P) (w := w) (base := base) T cG)
  have h_changes_of := ok_changes_of (P := P) (w := w) (base := base) T
  have h_changed_outline := ok_changed_outline (P := P) (w := w) (base := base) T
  have h_is_near := ok_is_near (P := P) (w := w) (base := base) T
  refine hasXN_of T.d_changed_glyph sc_changed_glyph bd_changed_glyph (fun vs H Q E h => ?_) (fun f cdv A outer s H vs Q E hr h => ?_)
  · obtain ⟨S, W, n, g, h, _⟩ := h
    exact h.len
  · obtain ⟨S, W, n, g, ⟨v1, fs, ts, fo, N, M, rfl, hS, h1, hg, hgl, sg, gok, hfs, rva, dok⟩, qok, q⟩ := h
    obtain ⟨fa, fdx, w1, w2, w3, w4, w5, w6, w7, w8, w9, rfl, fna, fA, j1, j2, j3, j4, j5, j6, j7, j8, j9⟩ := foE h1
    have j2' : Dq S H w2 (.list (fo.glyphs.map fun g => glD (cs mg) g.R)) := by
      simp only [FoG.R, List.map_map] at j2
      exact j2
    obtain ⟨b, gs, rfl, hb, hbl, hG⟩ := lstN j2'
    obtain ⟨x, hx, dx⟩ := hG.getD (i := n) (d := glD (cs mg) g.R) (by rw [List.getElem?_map, hg]; rfl)
    have ax : atI gs (n : Int) = some x := atI_nat hx
    have hn : n < fo.glyphs.length := (List.getElem?_eq_some_iff.mp hg).1
    have lgs : gs.length < 1000 := by omega
    obtain ⟨ga, gdx, u1, u2, u3, u4, u5, u6, u7, rfl, gna, gA, m1, m2, m3, m4, m5, m6, m7⟩ := glE dx
    have m1 : Dq S H u1 (.int g.adv) := m1
    have m2 : Dq S H u2 (ouD g.outl) := by rw [← ouD3_pt]; exact m2
    have m3 : Dq S H u3 (.list []) := by
      have m3 : Dq S H u3 (ltD (g.parts.map i3)) := m3
      rw [sg.p] at m3
      exact m3
    have m4 : Dq S H u4 (.list []) := by
      have m4 : Dq S H u4 (ltD (g.anch.map s3i)) := m4
      rw [sg.a] at m4
      exact m4
    have m5 : Dq S H u5 (.bool false) := by
      have m5 : Dq S H u5 (.bool g.mark) := m5
      rw [sg.m] at m5
      exact m5
    have m6 : Dq S H u6 (.list (g.deltas.map d4D)) := by
      have m6 : Dq S H u6 (ltD (g.deltas.map i4)) := m6
      rw [ltD_map] at m6
      exact m6
    have m7 : Dq S H u7 (.list []) := by
      have m7 : Dq S H u7 (ltD (g.hint.map s1i)) := m7
      rw [sg.h] at m7
      exact m7
    cases m1.intE
    cases m5.blE
    refine ⟨_, (pss_cons (ps_set (i := 3) sc_changed_glyph.nd rfl (.inl rfl) (pe_ix (ixL (K := K) rfl) (peFld (K := K) rfl (pv 0) rfl) (pv 1) (fun _ _ => rfl)))
      (pss_cons (ps_set (i := 4) sc_changed_glyph.nd rfl (.inl rfl) (pe_h h_changes_of (hr.mono (by decide)) (pa_cons (peFld (K := K) rfl (pv 3) rfl) (pa_cons (pv 2) pa_nil))))
      (pss_cons (ps_set (i := 5) sc_changed_glyph.nd rfl (.inl rfl) (pe_op op_add (peFld (K := K) rfl (pv 3) rfl) (pe_ix (ixT (K := K) rfl) (pe_dget2 (hu_of hr) (pv 4) (pe_gv (by rfl) T.g_ADVANCE) (pe_tup (pa_cons pe_int (pa_cons pe_int pa_nil))) ⟨by rfl, by rfl, by rfl, by rfl⟩) pe_int (fun _ _ => rfl))))
      (pss_cons (ps_set (i := 6) sc_changed_glyph.nd rfl (.inl rfl) (pe_h h_changed_outline (hr.mono (by decide)) (pa_cons (peFld (K := K) rfl (pv 3) rfl) (pa_cons (pv 4) pa_nil))))
      (pss_cons (ps_if (PW.pt (pw_or (pt_not (pt_chain op_le op_le pe_int (pv 5) (pe_gv (by rfl) T.g_FARTHEST))) (pw_or1 (pt_not (pt_val (pe_h h_is_near (hr.mono (by decide)) (pa_cons (pv 6) pa_nil)))))))
        (pss_one (ps_raiseN1N hM_OutOfRange rfl (hr.mono (by decide)) (L2N.takes_of rfl rfl rfl rfl) (pa_cons (pv 1) pa_nil)))
        pss_nil)
      (pss_one (ps_ret (pe_mk (mg := mg) rfl mk_Glyph_2_parts_anchors_mark_hint (hr.mono (by decide)) (pa_cons (pv 5) (pa_cons (pv 6) pa_nil)) (pk_cons (peFld (K := K) rfl (pv 3) rfl) (pk_cons (peFld (K := K) rfl (pv 3) rfl) (pk_cons (peFld (K := K) rfl (pv 3) rfl) (pk_cons (peFld (K := K) rfl (pv 3) rfl) pk_nil)))))))))))), ?_⟩
    walk_at "fl.w"
    obtain ⟨b6, ys6, rfl, n6, hb6, hY6⟩ := id m6.lstE
    refine ⟨S, b6, fs, ts, W, g.deltas, rfl, hS, m6, hfs, rva, dok, fun D H2 sm hch => ?_⟩
    have gA2 := sm _ _ gA
    walk_at "fl.w"
    refine g_dg2 ?_
    walk_at "fl.w"
    obtain ⟨kv0, hk0, _⟩ := id hch
    refine ⟨D, rfl, .inl ⟨_, .inl hk0⟩, ?_⟩
    walk_at "fl.w"
    rename_i tp htp
    have s3 : Same H2 (upd H2 tp (.tup [.int 0, .int 0])) := Fl.Same.new htp
    obtain ⟨kvs, t, hk, ev, rt⟩ := (hch.same s3).get (-1) upd_same
    refine ⟨valV kvs (.inl (-1)), .inl ⟨kvs, .inl _, .inl hk, rfl, rfl⟩, ?_⟩
    rw [ev]
    have hch3 := hch.same s3
    have sm2 := sm.trans s3
    generalize upd H2 tp (.tup [.int 0, .int 0]) = H3 at s3 rt hk hch3 sm2
    have gA3 := sm2 _ _ gA
    walk_at "fl.w"
    obtain ⟨b2, ys2, rfl, n2, hb2, hY2⟩ := (show Dq S H u2 (.list (g.outl.map ctD)) from m2).lstE
    refine ⟨S, b2, D, g.outl, mvP W g.deltas, rfl, hS.same sm2, m2.same sm2, hch3, gok.oz.1, gok.oz.2, fun v6 H4 sm4 hv6 => ?_⟩
    have gA4 := sm4 _ _ gA3
    have al4 := (hS.same sm2).same sm4
    have sm6 := sm2.trans sm4
    have nz : (n : Int).natAbs < 10000 := by omega
    walk_at "fl.w"
    by_cases c1 : (0 : Int) ≤ g.adv + (mvP W g.deltas (-1)).1
    · refine g_yesB c1 ?_
      walk_at "fl.w"
      by_cases c2 : g.adv + (mvP W g.deltas (-1)).1 ≤ 16384
      · refine g_nB c2 ?_
        walk_at "fl.w"
        refine spD_app S [ouD (chO (mvP W g.deltas) 0 g.outl)] (.bool (nearO (chO (mvP W g.deltas) 0 g.outl))) al4 (.cons hv6 .nil) ⟨_, rfl, by rw [chO_flat]; have := flat_prp gok.ou; omega, rfl⟩ (fun v G sm5 hv' => ?_)
        cases e : nearO (chO (mvP W g.deltas) 0 g.outl) with
        | false =>
          rw [e] at hv'
          cases hv'.blE
          walk_at "fl.w"
          exact g_raiseN1 (i := (n : Int)) (fun R r => ⟨_, rfl, r⟩) nz (fun dx hdx => q (fun h => by have h3 := h.2.2; rw [show nearO (vGl W g).outl = false from e] at h3; cases h3) _ dx (sm6.trans sm5) hdx)
        | true =>
          rw [e] at hv'
          cases hv'.blE
          have hv : vGo W g := ⟨c1, c2, e⟩
          have qo := qok hv
          have gA5 := sm5 _ _ gA4
          have al5 := al4.same sm5
          have smG := (sm2.trans sm4).trans sm5
          have m3 := m3.same smG
          have m4 := m4.same smG
          have m7 := m7.same smG
          have hv6 := hv6.same sm5
          walk_at "fl.w"
          refine g_mk rfl rfl (mk_app (f := fGl) (ws := [.int (g.adv + (mvP W g.deltas (-1)).1), v6, u3, u4, .bl false, .ref g3', u7]) S [.int (g.adv + (mvP W g.deltas (-1)).1), ouD (chO (mvP W g.deltas) 0 g.outl), .list [], .list [], .bool false, .tuple [], .list []] (vGl W g).R.F (fun x => rfl) al5 (.cons (.inl (.int _)) (.cons (.inl hv6) (.cons (.inl m3) (.cons (.inl m4) (.cons (.inl (.bl _)) (.cons (.inr ⟨rfl, _, rfl, o3⟩) (.cons (.inl m7) .nil)))))))
            ⟨_, _, _, _, _, (vGl W g).R, rfl, GlG.rok (vG_ok (n' := 1) (m' := 0) gok hv), ?_, .le, .le, .e, .le, rfl⟩ fun xa HD smD da => ?_)
          · rw [← ouD3_pt]
            refine .ou ?_ ?_
            · rw [List.length_map, chO_len]
              have := gok.oz.1
              omega
            · intro c m
              obtain ⟨c', m', rfl⟩ := List.mem_map.mp m
              rw [List.length_map]
              obtain ⟨c0, h0, hl⟩ := chO_mem _ _ _ c' m'
              have := gok.oz.2 c0 h0
              omega
          · exact qo _ _ (smG.trans smD) da
      · refine g_noNB c2 ?_
        walk_at "fl.w"
        exact g_raiseN1 (i := (n : Int)) (fun R r => ⟨_, rfl, r⟩) nz (fun dx hdx => q (fun h => c2 h.2.1) _ dx sm6 hdx)
    · refine g_noB c1 ?_
      walk_at "fl.w"
      exact g_raiseN1 (i := (n : Int)) (fun R r => ⟨_, rfl, r⟩) nz (fun dx hdx => q (fun h => c1 h.1) _ dx sm6 hdx)
end

section
variable {S : List Addr} {H1 : Hp} {Q : VK}
/-- a comprehension over a range some turn of which may end it otherwise -/
theorem lcRI {lo : Int} {n : Nat} {g : TG} {te : TE} {vs : List Nat} {σ : L2.St} (f : Nat → PyData) (ok : Nat → Prop) (hS : Al S H1) (hz : n < 1000)
    (step : ∀ (D : Addr) (i : Nat) (H : Hp), H1 D = none → i < n → Same H1 H → Al (D :: S) H → ∀ (R : V → Hp → Prop), (ok i → ∀ y H4, Same H H4 → Dq (D :: S) H4 y (f i) → R y H4) →
      g (.int (lo + i)) (wipe σ vs) H fun σ2 H2 => wipe σ2 vs = wipe σ vs ∧ te σ2 H2 R)
    (q : (∀ i, i < n → ok i) → ∀ (D : Addr) (H : Hp), Same H1 H → H1 D = none → Dq S H (.ref D) (.list ((List.range n).map f)) → Q (.ref D) H) : lcK (Itr lo n) g tYes te vs σ H1 Q := by
  unfold lcK
  intro D hD
  refine lc_range (fun i H => CompAt S H1 D (fun i => some (f i)) i H ∧ ∀ j, j < i → ok j) ⟨CompAt.zero hD, fun j h => absurd h (Nat.not_lt_zero _)⟩ ?_ ?_
  · intro i H hlt ⟨h, ho⟩
    refine step D i H hD hlt (sm_of hD h.fr) (h.al hS hD) _ (fun hi y H4 s d => ?_)
    obtain ⟨acc, a1, a2, a3⟩ := h.put (by omega) rfl s d
    exact ⟨acc, a1, a2, a3, fun j hj => (Nat.lt_succ_iff_lt_or_eq.mp hj).elim (ho j) fun e => e ▸ hi⟩
  · intro H ⟨h, ho⟩
    have := h.fin hS hD
    rw [show (fun i => some (f i)) = some ∘ f from rfl, List.filterMap_eq_map] at this
    exact q ho D H (sm_of hD h.fr) hD this
end
section
theorem rng_map {α : Type} {L : List α} {f : α → PyData} {n : Nat} (h : n = L.length) : (List.range n).map (fun i => ((L[i]?).map f).getD .none) = L.map f := by
  subst h
  apply List.ext_getElem (by simp)
  intro i h1 h2
  have h3 : i < L.length := by simpa using h2
  simp [h3]
/-- a font with axes, regions, outlines and deltas alone -/
structure Sty (f : FoG) : Prop where
  ok : f.Ok VL0
  ch : f.chars = []
  lk : f.lks = []
  fe : f.feats = []
  fn : f.fns = []
  ps : f.pres = []
  gl : ∀ g, g ∈ f.glyphs → StG g ∧ g.deltas.length ≤ 5
  ab : AxB f.axes
def wgt (f : FoG) (pl : List Int) : List Rat := facs f.regs (shl f.axes pl)
def inst (f : FoG) (pl : List Int) : FoG := ⟨f.unit, f.glyphs.map (vGl (wgt f pl)), [], [], [], [], [], [], []⟩
def instO (f : FoG) (pl : List Int) : Prop := ∀ g, g ∈ f.glyphs → vGo (wgt f pl) g
theorem sty_ds {f : FoG} {pl : List Int} (h : Sty f) (hp : PlOk f.axes pl) {g : GlG} (hg : g ∈ f.glyphs) : DsOk (wgt f pl) g.deltas := by
  have ok := h.ok
  have gok := ok.go g hg
  refine ⟨fun x m => ?_, (h.gl g hg).2, ?_, fun d m => ?_, fun d m => ?_⟩
  · obtain ⟨r, hr, rfl⟩ := List.mem_map.mp (show x ∈ f.regs.map fun r => fa (r.zip (shl f.axes pl)) from m)
    obtain ⟨h3, htn⟩ := ok.re.2 r hr
    refine (fa_sz _ fun q mq => ?_).mono ?_
    · have := List.of_mem_zip mq
      obtain ⟨t1, t2, t3, t4, _⟩ := htn _ this.1
      exact ⟨⟨t1, t2, t3, t4⟩, shl_sz h.ab hp _ this.2⟩
    · have h1 : (r.zip (shl f.axes pl)).length ≤ r.length := by rw [List.length_zip]; omega
      have := ok.ax.1
      omega
  · show (f.regs.map _).length ≤ 8
    rw [List.length_map]
    exact ok.re.1
  · obtain ⟨_, _, _, _, c1, c2⟩ := gok.de.2 d m
    unfold Crd at c1 c2
    omega
  · obtain ⟨d0, d1, _⟩ := gok.de.2 d m
    refine ⟨d0, ?_⟩
    show d.1 < ((f.regs.map _).length : Nat)
    rw [List.length_map]
    exact d1
theorem inst_ok {f : FoG} {pl : List Int} (h : Sty f) (ho : instO f pl) : (inst f pl).Ok VL0 := by
  have ok := h.ok
  refine ⟨ok.un, ⟨by show 1 ≤ (f.glyphs.map _).length; rw [List.length_map]; exact ok.gl.1, by show (f.glyphs.map _).length ≤ 60; rw [List.length_map]; exact ok.gl.2⟩, fun g m => ?_, ⟨fun _ => 0, fun k g hg => ⟨Nat.zero_le _, fun p m => ?_⟩⟩, ⟨by show 0 < 900; decide, fun i c e => by cases e⟩, by show 0 ≤ 20; decide, fun k m => (nomatch m), fun k m => (nomatch m), ⟨by show 0 ≤ 12; decide, by show ([] : List Str).Nodup; exact List.nodup_nil, fun p m => (nomatch m)⟩, ⟨by show 0 ≤ 3; decide, fun t m => (nomatch m)⟩, ⟨by show 0 ≤ 8; decide, fun r m => (nomatch m)⟩, ⟨by show 0 ≤ 12; decide, fun c m => (nomatch m)⟩, ⟨by show 0 ≤ 32; decide, fun p m => (nomatch m)⟩⟩
  · obtain ⟨g0, m0, rfl⟩ := List.mem_map.mp (show g ∈ f.glyphs.map (vGl (wgt f pl)) from m)
    exact vG_ok (ok.go g0 m0) (ho g0 m0)
  · obtain ⟨g0, m0, rfl⟩ := List.mem_map.mp (show g ∈ f.glyphs.map (vGl (wgt f pl)) from List.mem_of_getElem? hg)
    exact (nomatch m)
theorem inst_sty {f : FoG} {pl : List Int} (h : Sty f) (ho : instO f pl) : Sty (inst f pl) := by
  refine ⟨inst_ok h ho, rfl, rfl, rfl, rfl, rfl, fun g m => ?_, fun t m => (nomatch m)⟩
  obtain ⟨g0, m0, rfl⟩ := List.mem_map.mp (show g ∈ f.glyphs.map (vGl (wgt f pl)) from m)
  exact ⟨⟨rfl, rfl, rfl, rfl⟩, Nat.zero_le _⟩
end
section
variable {P : Program} {w : World} {K : PySem.W.Frag} {mg : Str → Option Value} {base : Heap}
local macro_rules | `(tactic| walk_at "fl.t") => `(tactic| (with_reducible refine g_chainW ?_))
local macro_rules | `(tactic| walk_at "fl.t") => `(tactic| (with_reducible refine g_callS ?_))
local macro_rules | `(tactic| walk_at "fl.t") => `(tactic| (with_reducible refine g_ifE ?_))
local macro_rules | `(tactic| walk_at "fl.w") => `(tactic| repeat walk_at "fl.t")
/-- Font(unit, glyphs, axes=, regions=) -/
theorem mk_FoX {e1 e2 e3 e4 e5 e6 e7 : Addr} {sp : Sp} (h : InI P w K mg base 8 "Font" "Font.__init__" s_Font fl_Font (kw_Font e1 e2 e3 e4 e5 e6 e7) ps_Font sp) :
    MkI P w K mg base 8 "Font" 2 ["axes", "regions"] (fun vs zs => pick [0, 1, 2, 3, 4, 5, 8, 9, 6, 7] (vs ++ ([.ref e1, .ref e2, .ref e3, .ref e6, .ref e7] ++ zs))) sp :=
  h.make 2 ["axes", "regions"] [("chars", .ref e1), ("lookups", .ref e2), ("features", .ref e3), ("functions", .ref e6), ("presets", .ref e7)] [0, 1, 2, 3, 4, 5, 8, 9, 6, 7] (by simp) (by simp [kw_Font]) fun D doc pm an cdv ct us mv ws h1 h2 h3 => match us, h1, mv, h2, ws, h3 with | [_, _, _], _, [_, _, _, _, _], _, [_, _], _ => ⟨_, _, _, _, _, _, rfl, rfl, ⟨_, _, _, _, _, _, rfl, rfl, ⟨_, _, _, _, _, _, rfl, rfl, ⟨_, _, _, _, _, _, rfl, rfl, ⟨_, _, _, _, _, _, rfl, rfl, rfl⟩⟩⟩⟩⟩
/-- Font(unit, glyphs, chars=, lookups=, features=, functions=, presets=) -/
theorem mk_FoA {e1 e2 e3 e4 e5 e6 e7 : Addr} {sp : Sp} (h : InI P w K mg base 8 "Font" "Font.__init__" s_Font fl_Font (kw_Font e1 e2 e3 e4 e5 e6 e7) ps_Font sp) :
    MkI P w K mg base 8 "Font" 2 ["chars", "lookups", "features", "functions", "presets"] (fun vs zs => pick [0, 1, 2, 5, 6, 7, 3, 4, 8, 9] (vs ++ ([.ref e4, .ref e5] ++ zs))) sp :=
  h.make 2 ["chars", "lookups", "features", "functions", "presets"] [("axes", .ref e4), ("regions", .ref e5)] [0, 1, 2, 5, 6, 7, 3, 4, 8, 9] (by simp) (by simp [kw_Font]) fun D doc pm an cdv ct us mv ws h1 h2 h3 => match us, h1, mv, h2, ws, h3 with | [_, _, _], _, [_, _], _, [_, _, _, _, _], _ => ⟨_, _, _, _, _, _, rfl, rfl, ⟨_, _, _, _, _, _, rfl, rfl, rfl⟩⟩
def VF (fo : FoR) : Prop := ∃ f : FoG, f.Ok VL0 ∧ f.feats = [] ∧ fo = f.R
theorem font_K43 (T : Txt K mg) (I : WoK K w mg) {e1 e2 e3 e4 e5 e6 e7 : Addr} (c : ClsI K mg "Font" "Font.__init__" s_Font fl_Font (kw_Font e1 e2 e3 e4 e5 e6 e7)) : InI P w K mg base 8 "Font" "Font.__init__" s_Font fl_Font (kw_Font e1 e2 e3 e4 e5 e6 e7) ps_Font (spI K (adr mg "Font") (fFo (cs mg) VF)) := by
  have h_ff := ok_first_faultC (P := P) (base := base) T I VL0 ((no_has (P := P) (w := w) (base := base) T.d_lookup_reason sc_lookup_reason bd_lookup_reason).mono (k := 4) (by decide) |>.imp fun vs H Q E h => by
    obtain ⟨S, ds, d, _, _, ⟨_, _, _, h, _⟩, _⟩ := h
    exact h)
  exact ok_Font (P := P) (w := w) (base := base) T VF (by
    obtain ⟨f, fd, a, b, c, d⟩ := (h_ff.mono (k := 7) (by decide)).ex
    refine ⟨f, fd, ?_, b, c, d⟩
    exact fnok_weak a fun vs H Q E h => by
      obtain ⟨S, ds, d, hS, hd, ⟨fo, ⟨f, fok, fb, rfl⟩, rfl, rfl⟩, q⟩ := h
      exact ⟨S, _, _, hS, hd, ⟨f, fok, fb, rfl, rfl⟩, q⟩) c

def spAp (mg : Str → Option Value) : Sp := fun vs H Q _ => ∃ (S : List Addr) (v1 v2 : V) (f : FoG) (pl : List Int), vs = [v1, v2] ∧ Al S H ∧ Dq S H v1 (foD (cs mg) f.R) ∧ Dq S H v2 (.list (pl.map PyData.int)) ∧ Sty f ∧ PlOk f.axes pl ∧ instO f pl ∧ ∀ v H', Same H H' → Dq S H' v (foD (cs mg) (inst f pl).R) → Q v H'
def spApX (mg : Str → Option Value) : Sp := fun vs H _ E => ∃ (S : List Addr) (v1 v2 : V) (f : FoG) (pl : List Int), vs = [v1, v2] ∧ Al S H ∧ Dq S H v1 (foD (cs mg) f.R) ∧ Dq S H v2 (.list (pl.map PyData.int)) ∧ Sty f ∧ PlOk f.axes pl ∧ ¬ instO f pl ∧ ∀ (n : Nat) H' dx, Same H H' → H' dx = none → E (.ref (adr mg "OutOfRange")) (some dx) (upd H' dx (.xd [("number", .int n)]))
theorem ok_at_place (T : Txt K mg) (I : WoK K w mg) : Has P w K mg base 10 "at_place" ps_at_place (spAp mg) := by
  obtain ⟨e1, e2, e3, e4, e5, e6, e7, n1, n2, n3, n4, n5, n6, n7, cF⟩ := T.c_Font
  have clF := cF.cl
  have naF := cF.na
  have mk_Font_2_chars_lookups_features_functions_presets := mk_FoA (font_K43 (P := P) (base := base) T I cF)
  have h_changed_glyph := ok_changed_glyph (P := P) (w := w) (base := base) T
  have h_factors_of := ok_factors_of (P := P) (w := w) (base := base) T
  refine has_of T.d_at_place sc_at_place bd_at_place (fun vs H Q E h => ?_) (fun f cdv A outer s H vs Q E hr h => ?_)
  · obtain ⟨S, v1, v2, f, pl, rfl, _⟩ := h
    rfl
  · obtain ⟨S, v1, v2, fo, pl, rfl, hS, h1, h2, sty, pok, ho, q⟩ := h
    have fok := sty.ok
    have h1' := h1
    obtain ⟨fa, fdx, w1, w2, w3, w4, w5, w6, w7, w8, w9, rfl, fna, fA, j1, j2, j3, j4, j5, j6, j7, j8, j9⟩ := foE h1'
    have j1 : Dq S H w1 (.int fo.unit) := j1
    have j2 : Dq S H w2 (.list (fo.glyphs.map fun g => glD (cs mg) g.R)) := by
      simp only [FoG.R, List.map_map] at j2
      exact j2
    have j3 : Dq S H w3 (.list []) := by
      have : Dq S H w3 (ltD (fo.chars.map i2)) := j3
      rw [sty.ch] at this; exact this
    have j4 : Dq S H w4 (.list []) := by
      have : Dq S H w4 (.list (fo.lks.map (lkD (cs mg)))) := j4
      rw [sty.lk] at this; exact this
    have j5 : Dq S H w5 (.list []) := by
      have : Dq S H w5 (.list (fo.R.features.map feD)) := j5
      rw [show fo.R.features = fo.feats.map fun p => (.str p.1, iD p.2) from rfl, sty.fe] at this; exact this
    have j8 : Dq S H w8 (.list []) := by
      have : Dq S H w8 (ouD3 (fo.fns.map fun c => c.map s1i)) := j8
      rw [sty.fn] at this; exact this
    have j9 : Dq S H w9 (.list []) := by
      have : Dq S H w9 (.list (iD fo.pres)) := j9
      rw [sty.ps] at this; exact this
    cases j1.intE
    obtain ⟨b, gs, rfl, hb, hbl, hG⟩ := lstN j2
    have hgz := fok.gl.2
    refine ⟨_, (pss_cons (ps_set (i := 2) sc_at_place.nd rfl (.inr rfl) (pe_h h_factors_of (hr.mono (by decide)) (pa_cons (pv 0) (pa_cons (pv 1) pa_nil))))
      (pss_one (ps_ret (pe_mk (mg := mg) rfl mk_Font_2_chars_lookups_features_functions_presets (hr.mono (by decide)) (pa_cons (peFld (K := K) rfl (pv 0) rfl) (pa_cons (pe_lc (own := [("number", 3)]) rfl sc_at_place.nd (pi_range1 (by rfl) T.z_range (pa_cons (pe_callB (clLen (K := K) rfl) (by rfl) T.z_len (by decide +kernel) (pa_cons (peFld (K := K) rfl (pv 0) rfl) pa_nil)) pa_nil)) (blkOk_by (by kernel_rfl)) (fun _ _ _ _ _ => (pg_name (i := 3) sc_at_place.nd rfl (.inl rfl))) (fun _ _ _ _ _ => pts_nil) (fun _ _ _ _ _ => (pe_h h_changed_glyph (hr.mono (by decide)) (pa_cons (pv 0) (pa_cons (pv 3) (pa_cons (pv 2) pa_nil)))))) pa_nil)) (pk_cons (peFld (K := K) rfl (pv 0) rfl) (pk_cons (peFld (K := K) rfl (pv 0) rfl) (pk_cons (peFld (K := K) rfl (pv 0) rfl) (pk_cons (peFld (K := K) rfl (pv 0) rfl) (pk_cons (peFld (K := K) rfl (pv 0) rfl) pk_nil))))))))), ?_⟩
    walk_at "fl.w"
    refine ⟨S, _, v2, fo, pl, rfl, hS, h1, h2, fok, sty.ab, pok, fun FS H2 ts sm hfs rva => ?_⟩
    have fA2 := sm _ _ fA
    have hb2 := sm _ _ hb
    walk_at "fl.w"
    refine lcRI (S := S) (fun i => ((fo.glyphs[i]?).map fun g => glD (cs mg) (vGl (wgt fo pl) g).R).getD .none) (fun _ => True) (hS.same sm) (by omega) ?_ ?_
    · intro D i H3 hD hi sm3 al R hR
      have hil : i < fo.glyphs.length := by omega
      have hgi : fo.glyphs[i]? = some fo.glyphs[i] := List.getElem?_eq_getElem hil
      generalize fo.glyphs[i] = g at hgi
      have hgm := List.mem_of_getElem? hgi
      refine g_name ⟨rfl, ?_⟩
      rw [Int.zero_add]
      walk_at "fl.w"
      refine ⟨D :: S, wgt fo pl, i, g, ⟨_, FS, ts, fo, _, _, rfl, al, ((h1.same sm).new hD).same sm3, hgi, hgz, (sty.gl g hgm).1, fok.go g hgm, sm3 _ _ hfs, rva.same sm3, sty_ds sty pok hgm⟩, ho g hgm, fun v H4 sm4 hv => ?_⟩
      refine hR trivial _ _ sm4 ?_
      rw [hgi]
      exact hv
    intro _ D H3 sm3 hD dg
    have dg : Dq S H3 (.ref D) (.list ((fo.glyphs.map (vGl (wgt fo pl))).map fun g => glD (cs mg) g.R)) := by
      rw [List.map_map]
      have e := rng_map (L := fo.glyphs) (f := fun g => glD (cs mg) (vGl (wgt fo pl) g).R) (n := (((gs.length : Nat) : Int)).toNat) (by omega)
      rw [e] at dg
      exact dg
    have s3 := sm.trans sm3
    have al3 := hS.same s3
    have fA3 := s3 _ _ fA
    have j3 := j3.same s3
    have j4 := j4.same s3
    have j5 := j5.same s3
    have j8 := j8.same s3
    have j9 := j9.same s3
    walk_at "fl.w"
    have iok := inst_ok sty ho
    refine g_mk rfl rfl (mk_app (f := fFo (cs mg) VF) (ws := [.int fo.unit, .ref D, w3, w4, w5, .ref e4, .ref e5, w8, w9]) S [.int fo.unit, .list ((fo.glyphs.map (vGl (wgt fo pl))).map fun g => glD (cs mg) g.R), .list [], .list [], .list [], .tuple [], .tuple [], .list [], .list []] ((inst fo pl).R.F (cs mg)) (fun x => rfl) al3 (.cons (.inl (.int _)) (.cons (.inl dg) (.cons (.inl j3) (.cons (.inl j4) (.cons (.inl j5) (.cons (.inr ⟨rfl, _, rfl, n4⟩) (.cons (.inr ⟨rfl, _, rfl, n5⟩) (.cons (.inl j8) (.cons (.inl j9) .nil)))))))))
      ⟨_, _, _, _, _, _, _, _, (inst fo pl).R, rfl, FoG.rok iok, ⟨_, iok, rfl, rfl⟩, ?_, .le, rfl, ⟨[], rfl, rfl, fun i x l e1 _ => by simp at e1, by show 0 < 1000; decide⟩, .e, .e, .le, .ls (by show 0 < 1000; decide), rfl⟩ fun xf HF smF df => ?_)
    · show sqI (.list ((fo.glyphs.map (vGl (wgt fo pl))).map fun g => glD (cs mg) g.R)) = some (((fo.glyphs.map (vGl (wgt fo pl))).map GlG.R).map (glD (cs mg)))
      rw [List.map_map (f := GlG.R)]
      rfl
    · exact q _ _ (s3.trans smF) df
theorem ok_at_placeX (T : Txt K mg) (I : WoK K w mg) : HasXN P w K mg base 10 "at_place" ps_at_place (spApX mg) := by
  obtain ⟨e1, e2, e3, e4, e5, e6, e7, n1, n2, n3, n4, n5, n6, n7, cF⟩ := T.c_Font
  have clF := cF.cl
  have naF := cF.na
  have mk_Font_2_chars_lookups_features_functions_presets := mk_FoA (font_K43 (P := P) (base := base) T I cF)
  have hX_changed_glyph := ok_changed_glyphX (P := P) (w := w) (base := base) T
  have h_factors_of := ok_factors_of (P := P) (w := w) (base := base) T
  refine hasXN_of T.d_at_place sc_at_place bd_at_place (fun vs H Q E h => ?_) (fun f cdv A outer s H vs Q E hr h => ?_)
  · obtain ⟨S, v1, v2, f, pl, rfl, _⟩ := h
    rfl
  · obtain ⟨S, v1, v2, fo, pl, rfl, hS, h1, h2, sty, pok, ho, q⟩ := h
    have fok := sty.ok
    have h1' := h1
    obtain ⟨fa, fdx, w1, w2, w3, w4, w5, w6, w7, w8, w9, rfl, fna, fA, j1, j2, j3, j4, j5, j6, j7, j8, j9⟩ := foE h1'
    have j1 : Dq S H w1 (.int fo.unit) := j1
    have j2 : Dq S H w2 (.list (fo.glyphs.map fun g => glD (cs mg) g.R)) := by
      simp only [FoG.R, List.map_map] at j2
      exact j2
    have j3 : Dq S H w3 (.list []) := by
      have : Dq S H w3 (ltD (fo.chars.map i2)) := j3
      rw [sty.ch] at this; exact this
    have j4 : Dq S H w4 (.list []) := by
      have : Dq S H w4 (.list (fo.lks.map (lkD (cs mg)))) := j4
      rw [sty.lk] at this; exact this
    have j5 : Dq S H w5 (.list []) := by
      have : Dq S H w5 (.list (fo.R.features.map feD)) := j5
      rw [show fo.R.features = fo.feats.map fun p => (.str p.1, iD p.2) from rfl, sty.fe] at this; exact this
    have j8 : Dq S H w8 (.list []) := by
      have : Dq S H w8 (ouD3 (fo.fns.map fun c => c.map s1i)) := j8
      rw [sty.fn] at this; exact this
    have j9 : Dq S H w9 (.list []) := by
      have : Dq S H w9 (.list (iD fo.pres)) := j9
      rw [sty.ps] at this; exact this
    cases j1.intE
    obtain ⟨b, gs, rfl, hb, hbl, hG⟩ := lstN j2
    have hgz := fok.gl.2
    refine ⟨_, (pss_cons (ps_set (i := 2) sc_at_place.nd rfl (.inr rfl) (pe_h h_factors_of (hr.mono (by decide)) (pa_cons (pv 0) (pa_cons (pv 1) pa_nil))))
      (pss_one (ps_ret (pe_mk (mg := mg) rfl mk_Font_2_chars_lookups_features_functions_presets (hr.mono (by decide)) (pa_cons (peFld (K := K) rfl (pv 0) rfl) (pa_cons (pe_lcN rfl rfl (takes_ofN rfl rfl rfl rfl) (own := [("number", 3)]) rfl sc_at_place.nd (pi_range1 (by rfl) T.z_range (pa_cons (pe_callB (clLen (K := K) rfl) (by rfl) T.z_len (by decide +kernel) (pa_cons (peFld (K := K) rfl (pv 0) rfl) pa_nil)) pa_nil)) (blkOk_by (by kernel_rfl)) (fun _ _ _ _ _ => (pg_name (i := 3) sc_at_place.nd rfl (.inl rfl))) (fun _ _ _ _ _ => pts_nil) (fun _ _ _ _ _ => (pe_hXB hX_changed_glyph (hr.mono (by decide)) (pa_cons (pv 0) (pa_cons (pv 3) (pa_cons (pv 2) pa_nil)))))) pa_nil)) (pk_cons (peFld (K := K) rfl (pv 0) rfl) (pk_cons (peFld (K := K) rfl (pv 0) rfl) (pk_cons (peFld (K := K) rfl (pv 0) rfl) (pk_cons (peFld (K := K) rfl (pv 0) rfl) (pk_cons (peFld (K := K) rfl (pv 0) rfl) pk_nil))))))))), ?_⟩
    walk_at "fl.w"
    refine ⟨S, _, v2, fo, pl, rfl, hS, h1, h2, fok, sty.ab, pok, fun FS H2 ts sm hfs rva => ?_⟩
    have fA2 := sm _ _ fA
    have hb2 := sm _ _ hb
    walk_at "fl.w"
    refine lcRI (S := S) (fun i => ((fo.glyphs[i]?).map fun g => glD (cs mg) (vGl (wgt fo pl) g).R).getD .none) (fun i => ∀ g, fo.glyphs[i]? = some g → vGo (wgt fo pl) g) (hS.same sm) (by omega) ?_ ?_
    · intro D i H3 hD hi sm3 al R hR
      have hil : i < fo.glyphs.length := by omega
      have hgi : fo.glyphs[i]? = some fo.glyphs[i] := List.getElem?_eq_getElem hil
      generalize fo.glyphs[i] = g at hgi
      have hgm := List.mem_of_getElem? hgi
      refine g_name ⟨rfl, ?_⟩
      rw [Int.zero_add]
      walk_at "fl.w"
      refine ⟨D :: S, wgt fo pl, i, g, ⟨_, FS, ts, fo, _, _, rfl, al, ((h1.same sm).new hD).same sm3, hgi, hgz, (sty.gl g hgm).1, fok.go g hgm, sm3 _ _ hfs, rva.same sm3, sty_ds sty pok hgm⟩, fun hgo v H4 sm4 hv => ?_, fun _ H4 dx sm4 hdx => q i H4 dx ((sm.trans sm3).trans sm4) hdx⟩
      refine hR (fun g' e => by rw [hgi] at e; cases e; exact hgo) _ _ sm4 ?_
      rw [hgi]
      exact hv
    intro hall
    refine absurd (fun g m => ?_) ho
    obtain ⟨i, hi⟩ := List.mem_iff_getElem?.mp m
    exact hall i (by have := (List.getElem?_eq_some_iff.mp hi).1; omega) g hi
end

section
/-- a glyph with an outline alone -/
structure BarG (g : GlG) : Prop where
  s : StG g
  d : g.deltas = []
def cgD (g : GlG) : PyData := .list [.int g.adv, ouD g.outl, .list [], .list [], .bool false, .list [], .list []]
/-- a font with outlines alone -/
structure Bar (f : FoG) : Prop where
  s : Sty f
  a : f.axes = []
  r : f.regs = []
  g : ∀ g, g ∈ f.glyphs → BarG g
def cfD (f : FoG) : PyData := .list [.int f.unit, .list (f.glyphs.map cgD), .list [], .list [], .list [], .list [], .list [], .list [], .list []]
theorem inst_bar {f : FoG} {pl : List Int} (h : Sty f) (ho : instO f pl) : Bar (inst f pl) := by
  refine ⟨inst_sty h ho, rfl, rfl, fun g m => ?_⟩
  obtain ⟨g0, m0, rfl⟩ := List.mem_map.mp (show g ∈ f.glyphs.map (vGl (wgt f pl)) from m)
  exact ⟨⟨rfl, rfl, rfl, rfl⟩, rfl⟩
theorem ly_ou (o : List (List Pt)) : (ouD o).canLay0 = true ∧ (ouD o).depth ≤ 3 := sh_tu (n := 2) (fun d m => by
  obtain ⟨c, _, rfl⟩ := List.mem_map.mp m
  exact sh_tu (n := 1) (fun d m => by
    obtain ⟨p, _, rfl⟩ := List.mem_map.mp m
    exact pt_lay p) (by decide)) (by decide)
theorem ly_nil (n : Nat) (h : 1 ≤ n) : (PyData.list []).canLay0 = true ∧ (PyData.list []).depth ≤ n := by
  have := sh_tu (ds := []) (n := 0) (fun d m => nomatch m) (by decide)
  exact ⟨this.1, Nat.le_trans this.2 h⟩
theorem ly_int (i : Int) (n : Nat) : (PyData.int i).canLay0 = true ∧ (PyData.int i).depth ≤ n := ⟨by simp [PyData.canLay0], by simp [PyData.depth]⟩
theorem ly_bool (i : Bool) (n : Nat) : (PyData.bool i).canLay0 = true ∧ (PyData.bool i).depth ≤ n := ⟨by simp [PyData.canLay0], by simp [PyData.depth]⟩
theorem ly_le {d : PyData} {m n : Nat} (h : d.canLay0 = true ∧ d.depth ≤ m) (k : m ≤ n) : d.canLay0 = true ∧ d.depth ≤ n := ⟨h.1, Nat.le_trans h.2 k⟩
theorem ly_cg (g : GlG) : (cgD g).canLay0 = true ∧ (cgD g).depth ≤ 4 := sh_tu (n := 3) (fun d m => by
  simp only [List.mem_cons, List.not_mem_nil, or_false] at m
  rcases m with rfl | rfl | rfl | rfl | rfl | rfl | rfl
  · exact ly_int _ _
  · exact ly_ou _
  · exact ly_nil _ (by decide)
  · exact ly_nil _ (by decide)
  · exact ly_bool _ _
  · exact ly_nil _ (by decide)
  · exact ly_nil _ (by decide)) (by decide)
theorem sh_cf (f : FoG) : SeqAt.shaped (cfD f) = true := sh_list (n := 5) (fun d m => by
  simp only [List.mem_cons, List.not_mem_nil, or_false] at m
  rcases m with rfl | rfl | rfl | rfl | rfl | rfl | rfl | rfl | rfl
  · exact ly_int _ _
  · exact sh_tu (n := 4) (fun d m => by
      obtain ⟨g, _, rfl⟩ := List.mem_map.mp m
      exact ly_cg g) (by decide)
  all_goals exact ly_nil _ (by decide)) (by decide)
end
section
variable {P : Program} {w : World} {K : PySem.W.Frag} {mg : Str → Option Value} {base : Heap}
local macro_rules | `(tactic| walk_at "fl.t") => `(tactic| (with_reducible refine g_chainW ?_))
local macro_rules | `(tactic| walk_at "fl.t") => `(tactic| (with_reducible refine g_callS ?_))
local macro_rules | `(tactic| walk_at "fl.t") => `(tactic| (with_reducible refine g_ifE ?_))
local macro_rules | `(tactic| walk_at "fl.w") => `(tactic| repeat walk_at "fl.t")
def fCg (c : Cs) (ds : List PyData) (d : PyData) : Prop := ∃ g : GlG, ds = [glD c g.R] ∧ BarG g ∧ d = cgD g
theorem ok_contents_of_glyph (T : Txt K mg) : Has P w K mg base 1 "contents_of_glyph" ps_contents_of_glyph (spD (fCg (cs mg))) := by
  obtain ⟨g1', g2', g3', g4', o1, o2, o3, o4, cG⟩ := T.c_Glyph
  have clG := cG.cl
  have naG := cG.na
  refine has_of T.d_contents_of_glyph sc_contents_of_glyph bd_contents_of_glyph (fun vs H Q E h => ?_) (fun f cdv A outer s H vs Q E hr h => ?_)
  · obtain ⟨S, ds, d, _, hd, ⟨g, rfl, _⟩, _⟩ := h
    rw [hd.len]
    rfl
  · obtain ⟨S, ds, d, hS, hd, ⟨g, rfl, bg, rfl⟩, q⟩ := h
    obtain ⟨v1, _, rfl, dx, hd⟩ := hd.consE
    cases hd.nilE
    obtain ⟨ga, gdx, u1, u2, u3, u4, u5, u6, u7, rfl, gna, gA, m1, m2, m3, m4, m5, m6, m7⟩ := glE dx
    have m1 : Dq S H u1 (.int g.adv) := m1
    have m2 : Dq S H u2 (ouD g.outl) := by rw [← ouD3_pt]; exact m2
    have m3 : Dq S H u3 (.list []) := by
      have m3 : Dq S H u3 (ltD (g.parts.map i3)) := m3
      rw [bg.s.p] at m3
      exact m3
    have m4 : Dq S H u4 (.list []) := by
      have m4 : Dq S H u4 (ltD (g.anch.map s3i)) := m4
      rw [bg.s.a] at m4
      exact m4
    have m5 : Dq S H u5 (.bool false) := by
      have m5 : Dq S H u5 (.bool g.mark) := m5
      rw [bg.s.m] at m5
      exact m5
    have m6 : Dq S H u6 (.list []) := by
      have m6 : Dq S H u6 (ltD (g.deltas.map i4)) := m6
      rw [bg.d] at m6
      exact m6
    have m7 : Dq S H u7 (.list []) := by
      have m7 : Dq S H u7 (ltD (g.hint.map s1i)) := m7
      rw [bg.s.h] at m7
      exact m7
    refine ⟨_, (pss_one (ps_ret (pe_lst (pa_cons (peFld (K := K) rfl (pv 0) rfl) (pa_cons (peFld (K := K) rfl (pv 0) rfl) (pa_cons (peFld (K := K) rfl (pv 0) rfl) (pa_cons (peFld (K := K) rfl (pv 0) rfl) (pa_cons (peFld (K := K) rfl (pv 0) rfl) (pa_cons (peFld (K := K) rfl (pv 0) rfl) (pa_cons (peFld (K := K) rfl (pv 0) rfl) pa_nil)))))))))), ?_⟩
    walk_at "fl.w"
    rename_i D hD
    have z : DqA S (upd H D (.lst [u1, u2, u3, u4, u5, u6, u7])) [u1, u2, u3, u4, u5, u6, u7] [.int g.adv, ouD g.outl, .list [], .list [], .bool false, .list [], .list []] :=
      (DqA.cons m1 (.cons m2 (.cons m3 (.cons m4 (.cons m5 (.cons m6 (.cons m7 .nil))))))).same (Fl.Same.new hD)
    exact q _ _ (Fl.Same.new hD) (.lst (hS.ni hD) upd_same z)
def fCf (c : Cs) (ds : List PyData) (d : PyData) : Prop := ∃ f : FoG, ds = [foD c f.R] ∧ Bar f ∧ d = cfD f
theorem ok_contents_of_font (T : Txt K mg) : Has P w K mg base 2 "contents_of_font" ps_contents_of_font (spD (fCf (cs mg))) := by
  obtain ⟨e1, e2, e3, e4, e5, e6, e7, n1, n2, n3, n4, n5, n6, n7, cF⟩ := T.c_Font
  have clF := cF.cl
  have naF := cF.na
  have h_contents_of_glyph := ok_contents_of_glyph (P := P) (w := w) (base := base) T
  have h_contents_of_lookup := no_has (P := P) (w := w) (base := base) T.d_contents_of_lookup sc_contents_of_lookup bd_contents_of_lookup
  refine has_of T.d_contents_of_font sc_contents_of_font bd_contents_of_font (fun vs H Q E h => ?_) (fun f cdv A outer s H vs Q E hr h => ?_)
  · obtain ⟨S, ds, d, _, hd, ⟨g, rfl, _⟩, _⟩ := h
    rw [hd.len]
    rfl
  · obtain ⟨S, ds, d, hS, hd, ⟨fo, rfl, br, rfl⟩, q⟩ := h
    obtain ⟨v1, _, rfl, h1, hd⟩ := hd.consE
    cases hd.nilE
    have sty := br.s
    have fok := sty.ok
    obtain ⟨fa, fdx, w1, w2, w3, w4, w5, w6, w7, w8, w9, rfl, fna, fA, j1, j2, j3, j4, j5, j6, j7, j8, j9⟩ := foE h1
    have j1 : Dq S H w1 (.int fo.unit) := j1
    have j2 : Dq S H w2 (.list (fo.glyphs.map fun g => glD (cs mg) g.R)) := by
      simp only [FoG.R, List.map_map] at j2
      exact j2
    have j3 : Dq S H w3 (.list []) := by
      have : Dq S H w3 (ltD (fo.chars.map i2)) := j3
      rw [sty.ch] at this; exact this
    have j4 : Dq S H w4 (.list []) := by
      have : Dq S H w4 (.list (fo.lks.map (lkD (cs mg)))) := j4
      rw [sty.lk] at this; exact this
    have j5 : Dq S H w5 (.list []) := by
      have : Dq S H w5 (.list (fo.R.features.map feD)) := j5
      rw [show fo.R.features = fo.feats.map fun p => (.str p.1, iD p.2) from rfl, sty.fe] at this; exact this
    have j6 : Dq S H w6 (.list []) := by
      have : Dq S H w6 (ltD (fo.axes.map i3)) := j6
      rw [br.a] at this; exact this
    have j7 : Dq S H w7 (.list []) := by
      have : Dq S H w7 (ouD3 (fo.regs.map fun r => r.map i3)) := j7
      rw [br.r] at this; exact this
    have j8 : Dq S H w8 (.list []) := by
      have : Dq S H w8 (ouD3 (fo.fns.map fun c => c.map s1i)) := j8
      rw [sty.fn] at this; exact this
    have j9 : Dq S H w9 (.list []) := by
      have : Dq S H w9 (.list (iD fo.pres)) := j9
      rw [sty.ps] at this; exact this
    cases j1.intE
    obtain ⟨b, gs, rfl, hb, hbl, hG⟩ := lstN j2
    obtain ⟨b4, gs4, rfl, hb4, hbl4, hG4⟩ := j4.lstE
    cases hG4
    have hgz := fok.gl.2
    refine ⟨_, (pss_one (ps_ret (pe_lst (pa_cons (peFld (K := K) rfl (pv 0) rfl) (pa_cons (pe_lc (own := [("glyph", 1)]) rfl sc_contents_of_font.nd (piL (K := K) rfl (peFld (K := K) rfl (pv 0) rfl)) (blkOk_by (by kernel_rfl)) (fun _ _ _ _ _ => (pg_name (i := 1) sc_contents_of_font.nd rfl (.inl rfl))) (fun _ _ _ _ _ => pts_nil) (fun _ _ _ _ _ => (pe_h h_contents_of_glyph (hr.mono (by decide)) (pa_cons (pv 1) pa_nil)))) (pa_cons (peFld (K := K) rfl (pv 0) rfl) (pa_cons (pe_lc (own := [("lookup", 2)]) rfl sc_contents_of_font.nd (piL (K := K) rfl (peFld (K := K) rfl (pv 0) rfl)) (blkOk_by (by kernel_rfl)) (fun _ _ _ _ _ => (pg_name (i := 2) sc_contents_of_font.nd rfl (.inl rfl))) (fun _ _ _ _ _ => pts_nil) (fun _ _ _ _ _ => (pe_h h_contents_of_lookup (hr.mono (by decide)) (pa_cons (pv 2) pa_nil)))) (pa_cons (peFld (K := K) rfl (pv 0) rfl) (pa_cons (peFld (K := K) rfl (pv 0) rfl) (pa_cons (peFld (K := K) rfl (pv 0) rfl) (pa_cons (peFld (K := K) rfl (pv 0) rfl) (pa_cons (peFld (K := K) rfl (pv 0) rfl) pa_nil)))))))))))), ?_⟩
    walk_at "fl.w"
    refine lcL (S := S) (fun i => some (((fo.glyphs[i]?).map cgD).getD .none)) hS j2 (by rw [List.length_map]; omega) ?_ ?_
    · intro D i x e H3 hD he sm al dx R N hR _
      refine g_name ⟨rfl, ?_⟩
      rw [List.getElem?_map] at he
      cases hg : fo.glyphs[i]? with
      | none => rw [hg] at he; cases he
      | some g =>
        rw [hg] at he
        cases he
        walk_at "fl.w"
        refine spD_app (D :: S) [glD (cs mg) g.R] (cgD g) al (.cons dx .nil) ⟨g, rfl, br.g g (List.mem_of_getElem? hg), rfl⟩ (fun v G sm4 hv => ?_)
        exact hR _ _ _ (by rw [hg]; rfl) sm4 hv
    intro D H2 sm hD dq
    have dq : Dq S H2 (.ref D) (.list (fo.glyphs.map cgD)) := by
      rw [show (fun i => some (((fo.glyphs[i]?).map cgD).getD .none)) = some ∘ (fun i => ((fo.glyphs[i]?).map cgD).getD .none) from rfl, List.filterMap_eq_map, rng_map (by rw [List.length_map])] at dq
      exact dq
    have fA2 := sm _ _ fA
    walk_at "fl.w"
    refine lcNil (S := S) (hS.same sm) (j4.same sm) fun D4 H4 sm4 dq4 => ?_
    have fA4 := sm4 _ _ fA2
    have s4 := sm.trans sm4
    walk_at "fl.w"
    rename_i L hL
    have s5 := s4.trans (Fl.Same.new (o := .lst [V.int fo.unit, .ref D, w3, .ref D4, w5, w6, w7, w8, w9]) hL)
    refine q _ _ s5 (.lst ((hS.same s4).ni hL) upd_same (.cons (.int _) (.cons ((dq.same sm4).same (Fl.Same.new hL)) (.cons (j3.same s5) (.cons (dq4.same (Fl.Same.new hL)) (.cons (j5.same s5) (.cons (j6.same s5) (.cons (j7.same s5) (.cons (j8.same s5) (.cons (j9.same s5) .nil))))))))))
def spSf (mg : Str → Option Value) : Sp := fun vs H Q _ => ∃ (S : List Addr) (v1 v2 : V) (f : FoG), vs = [v1, v2] ∧ Al S H ∧ Dq S H v1 (foD (cs mg) f.R) ∧ Dq S H v2 (foD (cs mg) f.R) ∧ Bar f ∧ ∀ H', Same H H' → Q (.bl true) H'
theorem ok_same_font (T : Txt K mg) : Has P w K mg base 3 "same_font" ps_same_font (spSf mg) := by
  have h_contents_of_font := ok_contents_of_font (P := P) (w := w) (base := base) T
  refine has_of T.d_same_font sc_same_font bd_same_font (fun vs H Q E h => ?_) (fun f cdv A outer s H vs Q E hr h => ?_)
  · obtain ⟨S, v1, v2, f, rfl, _⟩ := h
    rfl
  · obtain ⟨S, v1, v2, fo, rfl, hS, h1, h2, br, q⟩ := h
    refine ⟨_, (pss_one (ps_ret (pe_cmpR (opEqD (K := K) rfl hr.units) (pe_h h_contents_of_font (hr.mono (by decide)) (pa_cons (pv 0) pa_nil)) (pe_h h_contents_of_font (hr.mono (by decide)) (pa_cons (pv 1) pa_nil)) (nomark _)))), ?_⟩
    walk_at "fl.w"
    refine spD_app S [foD (cs mg) fo.R] (cfD fo) hS (.cons h1 .nil) ⟨fo, rfl, br, rfl⟩ (fun v G sm hv => ?_)
    walk_at "fl.w"
    refine spD_app S [foD (cs mg) fo.R] (cfD fo) (hS.same sm) (.cons (h2.same sm) .nil) ⟨fo, rfl, br, rfl⟩ (fun v2 G2 sm2 hv2 => ?_)
    walk_at "fl.w"
    refine g_eqD (hv.same sm2) hv2 (sh_cf fo) (sh_cf fo) ?_
    rw [eqv_self (sh_cf fo)]
    exact q _ (sm.trans sm2)
end

section
variable {P : Program} {w : World} {K : PySem.W.Frag} {mg : Str → Option Value} {base : Heap}
local macro_rules | `(tactic| walk_at "fl.t") => `(tactic| (with_reducible refine g_chainW ?_))
local macro_rules | `(tactic| walk_at "fl.t") => `(tactic| (with_reducible refine g_callS ?_))
local macro_rules | `(tactic| walk_at "fl.t") => `(tactic| (with_reducible refine g_ifE ?_))
local macro_rules | `(tactic| walk_at "fl.w") => `(tactic| repeat walk_at "fl.t")
theorem ok_law_point (T : Txt K mg) : Has P w K mg base 2 "_law_point" ps_law_point spPt := by
  have h_law_draw := ok_law_draw (P := P) (w := w) (base := base) T
  refine has_of T.d_law_point sc_law_point bd_law_point (fun vs H Q E h => ?_) (fun f cdv A outer s H vs Q E hr h => ?_)
  · obtain ⟨S, d, s, ns, far, rfl, _⟩ := h
    rfl
  · obtain ⟨S, d, sa, ns, far, rfl, hdS, hS, hk, hf1, hf2, q⟩ := h
    refine ⟨_, (pss_cons (ps_set (i := 2) sc_law_point.nd rfl (.inl rfl) (pe_ix (ixL (K := K) rfl) (pe_lst (pa_cons pe_int (pa_cons pe_int (pa_cons (pv 1) pa_nil)))) (pe_h h_law_draw (hr.mono (by decide)) (pa_cons (pv 0) (pa_cons pe_int pa_nil))) (fun _ _ => rfl)))
      (pss_cons (ps_set (i := 3) sc_law_point.nd rfl (.inl rfl) (pe_op op_sub (pe_h h_law_draw (hr.mono (by decide)) (pa_cons (pv 0) (pa_cons (pe_op op_add (pe_op op_mul pe_int (pv 2)) pe_int) pa_nil))) (pv 2)))
      (pss_one (ps_ret (pe_tup (pa_cons (pv 3) (pa_cons (pe_op op_sub (pe_h h_law_draw (hr.mono (by decide)) (pa_cons (pv 0) (pa_cons (pe_op op_add (pe_op op_mul pe_int (pv 2)) pe_int) pa_nil))) (pv 2)) (pa_cons (pe_cmpR op_eq (pe_h h_law_draw (hr.mono (by decide)) (pa_cons (pv 0) (pa_cons pe_int pa_nil))) pe_int (nomark _)) pa_nil)))))))), ?_⟩
    walk_at "fl.w"
    rename_i l hl v H1 hv0 hv1 hk1 ho1
    obtain ⟨sp, hsp, hs0, hs1⟩ := spread_at hv0 hv1 hf1
    walk_at "fl.w"
    rename_i x H2 hx0 hx1 hk2 ho2 y H3 hy0 hy1 hk3 ho3 z H4 hz0 hz1 hk4 ho4 t ht
    have al : Al S H4 := by walk_at "fl.al"
    exact q t _ (x - sp, y - sp, decide (z = 0)) (by walk_at "fl.frd") (by walk_at "fl.dk") (ptI (al.ni ht) upd_same) ⟨by show _ ≤ x - sp; omega, by show x - sp ≤ _; omega, by show _ ≤ y - sp; omega, by show y - sp ≤ _; omega⟩
/-- an outline drawn, apart from S -/
def spOuS : Sp := fun vs H Q _ => ∃ (S : List Addr) (d s : Addr) (ns : List Int) (least : Nat) (far : Int), vs = [.ref d, .int (least : Int), .int far] ∧ d ∈ S ∧ Al S H ∧ Dk d s ns H ∧ least ≤ 2 ∧ 130 ≤ far ∧ far ≤ 10 ^ 6 ∧
  ∀ t H' o, Fr [d] H H' → Dk d s ns H' → Dq S H' (.ref t) (ouD o) → OuIn least far o → Q (.ref t) H'
theorem ok_law_outline (T : Txt K mg) : Has P w K mg base 3 "_law_outline" ps_law_outline spOuS := by
  have h_law_draw := ok_law_draw (P := P) (w := w) (base := base) T
  have h_law_point := ok_law_point (P := P) (w := w) (base := base) T
  refine has_of T.d_law_outline sc_law_outline bd_law_outline (fun vs H Q E h => ?_) (fun f cdv A outer s H vs Q E hr h => ?_)
  · obtain ⟨S, d, s, ns, least, far, rfl, _⟩ := h
    rfl
  · obtain ⟨S, d, sa, ns, least, far, rfl, hdS, hS, hk, hle, hf1, hf2, q⟩ := h
    refine ⟨_, (pss_cons (ps_set (i := 3) sc_law_outline.nd rfl (.inl rfl) (pe_lst pa_nil))
      (pss_cons (ps_for PassesOwn.never rfl (pi_range1 (by rfl) T.z_range (pa_cons (pe_h h_law_draw (hr.mono (by decide)) (pa_cons (pv 0) (pa_cons pe_int pa_nil))) pa_nil)) (pg_name (i := 4) sc_law_outline.nd rfl (.inl rfl))
        (pss_one (ps_expr (pe_bm PySem.F.plainAttrs_list PySem.F.slot_list_append PySem.F.type_list_append mt_append (pv 3) (pa_cons (pe_lc (own := [("j", 5)]) rfl sc_law_outline.nd (pi_range1 (by rfl) T.z_range (pa_cons (pe_op op_add (pv 1) (pe_h h_law_draw (hr.mono (by decide)) (pa_cons (pv 0) (pa_cons pe_int pa_nil)))) pa_nil)) (blkOk_by (by kernel_rfl)) (fun _ _ _ _ _ => (pg_name (i := 5) sc_law_outline.nd rfl (.inl rfl))) (fun _ _ _ _ _ => pts_nil) (fun _ _ _ _ _ => (pe_h h_law_point (hr.mono (by decide)) (pa_cons (pv 0) (pa_cons (pv 2) pa_nil))))) pa_nil)))))
      (pss_one (ps_ret (pv 3))))), ?_⟩
    walk_at "fl.w"
    rename_i L hL v H1 hv0 hv1 hk1 ho1
    have hLd : L ≠ d := hk.ned hL
    have hLs : L ≠ sa := hk.nes hL
    have sub : ∀ b, b ∈ [d] → b ∈ L :: S := fun b m => by rw [show b = d by simpa using m]; exact List.mem_cons_of_mem _ hdS
    refine forK_r (fun i σ' H' => ∃ (acc : List V) (o : List (List Pt)) (u1 u2 : Option V), σ' = [some (.ref d), some (.int (least : Int)), some (.int far), some (.ref L), u1, u2] ∧ H' L = some (.lst acc) ∧
      DqA (L :: S) H' acc (o.map ctD) ∧ o.length = i ∧ (∀ c, c ∈ o → least ≤ c.length ∧ c.length ≤ least + 5 ∧ ∀ p, p ∈ c → PtIn far p) ∧ Fl.Fr [L, d] H H' ∧ Dk d sa ns H') ?_ ?_ ?_
    · exact ⟨[], [], none, none, rfl, by rw [ho1 L hLd]; exact upd_same, .nil, rfl, fun _ m => (nomatch m), (Fl.Fr.new hL).trans (ho1.frS (by simp)), hk1⟩
    · intro i σ' H' hi ⟨acc, o, u1, u2, e, hacc, hA, hl, hc, hf, hk'⟩
      subst e
      have hol : acc.length = i := by rw [hA.len, List.length_map]; exact hl
      have hAl : Al (L :: S) H' := .cons (by rw [hacc]; simp) (hS.fr hf (.cons (by rw [hacc]; simp) (.cons hk'.hd .nil)))
      walk_at "fl.w"
      rename_i n H2 hn0 hn1 hk2 ho2
      have hL2 : H2 L = some (.lst acc) := by rw [ho2 L hLd]; exact hacc
      refine lcDk (n := ((least : Int) + n).toNat) (S := L :: S) (far := far) (hAl.ond ho2 hk2) (List.mem_cons_of_mem _ hdS) hk2 (by omega) ?_ ?_ (fun x σ' H' Q1 Q2 h q => h _ _ q)
      · intro B j H3 hA3 hk3 R hR
        refine g_name ⟨rfl, ?_⟩
        walk_at "fl.w"
        exact pt_app (B :: L :: S) (List.mem_cons_of_mem _ (List.mem_cons_of_mem _ hdS)) hA3 hk3 hf1 hf2 hR
      · intro B H3 c hf3 hk3 hB hcl hcp
        have hL3 : H3 L = some (.lst acc) := hf3 L _ (by simpa using hLd) hL2
        walk_at "fl.w"
        refine ⟨acc ++ [.ref B], o ++ [c], _, _, rfl, upd_same, ?_, by rw [List.length_append, hl]; rfl, ?_, ?_, hk3.put hLd hLs⟩
        · rw [List.map_append]
          exact (((hA.fr (ho2.frS (List.mem_cons_of_mem _ hdS))).fr (hf3.mono sub)).app (.one hB)).fr (Fl.Fr.upd (by simp))
        · intro c' m
          rcases List.mem_append.mp m with m | m
          · exact hc c' m
          · rw [show c' = c by simpa using m]
            exact ⟨by omega, by omega, hcp⟩
        · exact ((hf.trans (ho2.frS (by simp))).trans (hf3.mono fun b m => by simpa using Or.inr (show b = d by simpa using m))).trans (Fl.Fr.upd (by simp))
    · intro σ' H' ⟨acc, o, u1, u2, e, hacc, hA, hl, hc, hf, hk'⟩
      subst e
      walk_at "fl.w"
      refine q L H' o (fun b u n z => hf b u (fun m => ?_) z) hk' (.lst (hS.ni hL) hacc hA.tail) ⟨by omega, hc⟩
      rcases List.mem_cons.mp m with rfl | m
      · rw [hL] at z; cases z
      · exact n m
theorem t3_at {S : List Addr} {p : Tn} : ∃ xs, xs = [V.int p.1, .int p.2.1, .int p.2.2] := ⟨_, rfl⟩
def spTnF : Sp := fun vs H Q _ => ∃ (d s : Addr) (ns : List Int), vs = [.ref d] ∧ Dk d s ns H ∧ ∀ t H' (p : Tn), Fr [d] H H' → Dk d s ns H' → H t = none → H' t = some (.tup [.int p.1, .int p.2.1, .int p.2.2]) → tentOk p → Q (.ref t) H'
theorem ok_law_font_tent (T : Txt K mg) : Has P w K mg base 3 "_law_font_tent" ps_law_font_tent spTnF := by
  have h_law_tent := ok_law_tent (P := P) (w := w) (base := base) T
  refine has_of T.d_law_font_tent sc_law_font_tent bd_law_font_tent (fun vs H Q E h => ?_) (fun f cdv A outer s H vs Q E hr h => ?_)
  · obtain ⟨d, sa, ns, rfl, _⟩ := h
    rfl
  · obtain ⟨d, sa, ns, rfl, hk, q⟩ := h
    refine ⟨_, (pss_cons (ps_set (i := 1) sc_law_font_tent.nd rfl (.inl rfl) (pe_h h_law_tent (hr.mono (by decide)) (pa_cons (pv 0) pa_nil)))
      (pss_cons (ps_if (PW.pt (pw_and (pt_cmpR op_lt (pe_ix (ixT (K := K) rfl) (pv 1) pe_int (fun _ _ => rfl)) pe_int (nomark _)) (pw_and1 (pt_cmpR op_gt (pe_ix (ixT (K := K) rfl) (pv 1) pe_int (fun _ _ => rfl)) pe_int (nomark _)))))
        (pss_one (ps_ret (pe_tup (pa_cons (pe_ix (ixT (K := K) rfl) (pv 1) pe_int (fun _ _ => rfl)) (pa_cons pe_int (pa_cons (pe_ix (ixT (K := K) rfl) (pv 1) pe_int (fun _ _ => rfl)) pa_nil))))))
        pss_nil)
      (pss_one (ps_ret (pv 1))))), ?_⟩
    walk_at "fl.w"
    refine ⟨d, sa, ns, rfl, hk, fun t H1 p f1 k1 ht e1 ok => ?_⟩
    obtain ⟨a, b, c⟩ := p
    obtain ⟨o1, o2, o3, o4⟩ := ok
    have e1 : H1 t = some (.tup [.int a, .int b, .int c]) := e1
    have o1 : -64 ≤ a := o1
    have o2 : a ≤ b := o2
    have o3 : b ≤ c := o3
    have o4 : c ≤ 64 := o4
    have fin : ∀ (p : Addr) (x y z : Int), H1 p = none → tentOk (x, y, z) → Q (.ref p) (upd H1 p (.tup [.int x, .int y, .int z])) := fun p x y z hp ok2 =>
      q p _ (x, y, z) (f1.trans (Fr.new hp)) (k1.newH hp) (by
        cases h0 : H p with
        | none => rfl
        | some u =>
          exfalso
          by_cases m : p = d
          · subst m; exact k1.hd hp
          · have := f1 p u (by simpa using m) h0
            rw [hp] at this; cases this) upd_same ok2
    walk_at "fl.w"
    by_cases h1 : a < 0
    · refine g_yesB h1 ?_
      walk_at "fl.w"
      by_cases h2 : 0 < c
      · refine g_yesB h2 ?_
        walk_at "fl.w"
        exact fin _ _ _ _ (by assumption) ⟨by show -64 ≤ a; omega, by show a ≤ 0; omega, by show 0 ≤ c; omega, by show c ≤ 64; omega, .inl rfl⟩
      · refine g_noB h2 ?_
        walk_at "fl.w"
        exact q t H1 (a, b, c) f1 k1 ht e1 ⟨o1, o2, o3, o4, .inr (.inr (by show c ≤ 0; omega))⟩
    · refine g_noB h1 ?_
      walk_at "fl.w"
      exact q t H1 (a, b, c) f1 k1 ht e1 ⟨o1, o2, o3, o4, .inr (.inl (by show 0 ≤ a; omega))⟩
end

section
variable {P : Program} {w : World} {K : PySem.W.Frag} {mg : Str → Option Value} {base : Heap}
local macro_rules | `(tactic| walk_at "fl.t") => `(tactic| (with_reducible refine g_chainW ?_))
local macro_rules | `(tactic| walk_at "fl.t") => `(tactic| (with_reducible refine g_callS ?_))
local macro_rules | `(tactic| walk_at "fl.t") => `(tactic| (with_reducible refine g_ifE ?_))
local macro_rules | `(tactic| walk_at "fl.w") => `(tactic| repeat walk_at "fl.t")
def axD (t : Int × Int × Int) : PyData := .tuple (i3 t)
/-- an axis as the law draws it -/
def AxR (t : Int × Int × Int) : Prop := -200 ≤ t.1 ∧ t.1 ≤ 199 ∧ t.1 ≤ t.2.1 ∧ t.2.1 ≤ t.1 + 238 ∧ t.2.1 ≤ t.2.2 ∧ t.2.2 ≤ t.2.1 + 238
theorem mul_b {a b : Int} {m n : Int} (h0 : 0 ≤ a) (h1 : a ≤ m) (k0 : 0 ≤ b) (k1 : b ≤ n) : 0 ≤ a * b ∧ a * b ≤ m * n := ⟨Int.mul_nonneg h0 k0, Int.mul_le_mul h1 k1 k0 (by omega)⟩
def spAxs : Sp := fun vs H Q _ => ∃ (d sa : Addr) (ns : List Int) (l : Nat), vs = [.ref d, .int (l : Int)] ∧ Dk d sa ns H ∧ l ≤ 1 ∧ ∀ L H' (ax : List (Int × Int × Int)), Fr [d] H H' → Dk d sa ns H' → Dq [d] H' (.ref L) (.list (ax.map axD)) → l ≤ ax.length → ax.length ≤ l + 2 → (∀ t, t ∈ ax → AxR t) → Q (.ref L) H'
theorem ok_law_axes (T : Txt K mg) : Has P w K mg base 2 "_law_axes" ps_law_axes spAxs := by
  have h_law_draw := ok_law_draw (P := P) (w := w) (base := base) T
  refine has_of T.d_law_axes sc_law_axes bd_law_axes (fun vs H Q E h => ?_) (fun f cdv A outer s H vs Q E hr h => ?_)
  · obtain ⟨d, s, ns, l, rfl, _⟩ := h
    rfl
  · obtain ⟨d, sa, ns, l, rfl, hk, hl1, q⟩ := h
    refine ⟨_, (pss_cons (ps_set (i := 2) sc_law_axes.nd rfl (.inl rfl) (pe_lst pa_nil))
      (pss_cons (ps_for PassesOwn.never rfl (pi_range1 (by rfl) T.z_range (pa_cons (pe_op op_add (pv 1) (pe_h h_law_draw (hr.mono (by decide)) (pa_cons (pv 0) (pa_cons pe_int pa_nil)))) pa_nil)) (pg_name (i := 3) sc_law_axes.nd rfl (.inl rfl))
        (pss_cons (ps_set (i := 4) sc_law_axes.nd rfl (.inl rfl) (pe_op op_sub (pe_h h_law_draw (hr.mono (by decide)) (pa_cons (pv 0) (pa_cons pe_int pa_nil))) pe_int))
      (pss_cons (ps_set (i := 5) sc_law_axes.nd rfl (.inl rfl) (pe_op op_add (pv 4) (pe_op op_mulW (pe_h h_law_draw (hr.mono (by decide)) (pa_cons (pv 0) (pa_cons pe_int pa_nil))) (pe_h h_law_draw (hr.mono (by decide)) (pa_cons (pv 0) (pa_cons pe_int pa_nil))))))
      (pss_one (ps_expr (pe_bm PySem.F.plainAttrs_list PySem.F.slot_list_append PySem.F.type_list_append mt_append (pv 2) (pa_cons (pe_tup (pa_cons (pv 4) (pa_cons (pv 5) (pa_cons (pe_op op_add (pv 5) (pe_op op_mulW (pe_h h_law_draw (hr.mono (by decide)) (pa_cons (pv 0) (pa_cons pe_int pa_nil))) (pe_h h_law_draw (hr.mono (by decide)) (pa_cons (pv 0) (pa_cons pe_int pa_nil))))) pa_nil)))) pa_nil)))))))
      (pss_one (ps_ret (pv 2))))), ?_⟩
    walk_at "fl.w"
    rename_i L hL v H1 hv0 hv1 hk1 ho1
    have hLd : L ≠ d := hk.ned hL
    have hLs : L ≠ sa := hk.nes hL
    refine forK_r (fun i σ' H' => ∃ (acc : List V) (ax : List (Int × Int × Int)) (u1 u2 u3 : Option V), σ' = [some (.ref d), some (.int (l : Int)), some (.ref L), u1, u2, u3] ∧ H' L = some (.lst acc) ∧
      DqA [L, d] H' acc (ax.map axD) ∧ ax.length = i ∧ (∀ t, t ∈ ax → AxR t) ∧ Fl.Fr [L, d] H H' ∧ Dk d sa ns H') ?_ ?_ ?_
    · exact ⟨[], [], none, none, none, rfl, by rw [ho1 L hLd]; exact upd_same, .nil, rfl, fun _ m => (nomatch m), (Fl.Fr.new hL).trans (ho1.frS (by simp)), hk1⟩
    · intro i σ' H' hi ⟨acc, ax, u1, u2, u3, e, hacc, hA, hl, hc, hf, hk'⟩
      subst e
      have hol : acc.length = i := by rw [hA.len, List.length_map]; exact hl
      have hAl : Al [L, d] H' := .cons (by rw [hacc]; simp) (.cons hk'.hd .nil)
      walk_at "fl.w"
      rename_i w0 G0 a00 a01 k0 o0 w1 G1 a10 a11 k1 o1 w2 G2 a20 a21 k2 o2 w3 G3 a30 a31 k3 o3 w4 G4 a40 a41 k4 o4 p hp
      have m1 := mul_b (m := 2) (n := 119) a10 (by omega) a20 (by omega)
      have m2 := mul_b (m := 2) (n := 119) a30 (by omega) a40 (by omega)
      have fr : Fr [d] H' (upd G4 p (.tup [.int (w0 - 200), .int (w0 - 200 + w1 * w2), .int (w0 - 200 + w1 * w2 + w3 * w4)])) := ((((o0.frS (by simp)).trans (o1.frS (by simp))).trans (o2.frS (by simp))).trans ((o3.frS (by simp)).trans (o4.frS (by simp)))).trans (Fr.same (Fl.Same.new hp))
      have fr2 : Fr [L, d] H' (upd G4 p (.tup [.int (w0 - 200), .int (w0 - 200 + w1 * w2), .int (w0 - 200 + w1 * w2 + w3 * w4)])) := fr.mono fun b m => by simpa using Or.inr (show b = d by simpa using m)
      have hpL : p ≠ L := fun e => by
        have f4 : Fr [d] H' G4 := (((o0.frS (by simp)).trans (o1.frS (by simp))).trans (o2.frS (by simp))).trans ((o3.frS (by simp)).trans (o4.frS (by simp)))
        have z := f4 L _ (by simpa using hLd) hacc
        rw [← e, hp] at z
        cases z
      refine ⟨acc ++ [.ref p], ax ++ [(w0 - 200, w0 - 200 + w1 * w2, w0 - 200 + w1 * w2 + w3 * w4)], _, _, _, rfl, upd_same, ?_, by rw [List.length_append, hl]; rfl, ?_, (hf.trans fr2).trans (Fl.Fr.upd (by simp)), (k4.newH hp).put hLd hLs⟩
      · rw [List.map_append]
        refine ((hA.fr fr2).app (.one ?_)).fr (Fl.Fr.upd (by simp))
        exact .tup (fun m => by
          rcases List.mem_cons.mp m with e | m
          · exact hpL e
          · have e : p = d := by simpa using m
            exact k4.hd (by rw [← e]; exact hp)) upd_same (.cons (.int _) (.cons (.int _) (.cons (.int _) .nil)))
      · intro t m
        rcases List.mem_append.mp m with m | m
        · exact hc t m
        · rw [show t = _ by simpa using m]
          exact ⟨by show -200 ≤ w0 - 200; omega, by show w0 - 200 ≤ 199; omega, by show w0 - 200 ≤ w0 - 200 + w1 * w2; omega, by show w0 - 200 + w1 * w2 ≤ w0 - 200 + 238; omega, by show w0 - 200 + w1 * w2 ≤ w0 - 200 + w1 * w2 + w3 * w4; omega, by show w0 - 200 + w1 * w2 + w3 * w4 ≤ w0 - 200 + w1 * w2 + 238; omega⟩
    · intro σ' H' ⟨acc, ax, u1, u2, u3, e, hacc, hA, hl, hc, hf, hk'⟩
      subst e
      walk_at "fl.w"
      refine q L H' ax (fun b u n z => hf b u (fun m => ?_) z) hk' (.lst (by simpa using hLd) hacc hA.tail) (by omega) (by omega) hc
      rcases List.mem_cons.mp m with rfl | m
      · rw [hL] at z; cases z
      · exact n m
theorem ax3 {t : Int × Int × Int} {v : Int} (h0 : 0 ≤ v) (h1 : v < 3) : ∃ m : Int, atI [V.int t.1, .int t.2.1, .int t.2.2] v = some (.int m) ∧ (m = t.1 ∨ m = t.2.1 ∨ m = t.2.2) := by
  rcases (by omega : v = 0 ∨ v = 1 ∨ v = 2) with rfl | rfl | rfl
  · exact ⟨t.1, rfl, .inl rfl⟩
  · exact ⟨t.2.1, rfl, .inr (.inl rfl)⟩
  · exact ⟨t.2.2, rfl, .inr (.inr rfl)⟩
def spPlc : Sp := fun vs H Q _ => ∃ (d sa X : Addr) (ns : List Int) (ax : List (Int × Int × Int)), vs = [.ref d, .ref X] ∧ Dk d sa ns H ∧ Dq [d] H (.ref X) (.list (ax.map axD)) ∧ ax.length ≤ 3 ∧ (∀ t, t ∈ ax → AxR t) ∧
  ∀ L H' (pl : List Int), Fr [d] H H' → Dk d sa ns H' → Dq [d] H' (.ref L) (.list (pl.map PyData.int)) → pl.length = ax.length → (∀ (i : Nat) t n, ax[i]? = some t → pl[i]? = some n → t.1 ≤ n ∧ n ≤ t.2.2) → Q (.ref L) H'
theorem ok_law_place (T : Txt K mg) : Has P w K mg base 2 "_law_place" ps_law_place spPlc := by
  have h_law_draw := ok_law_draw (P := P) (w := w) (base := base) T
  refine has_of T.d_law_place sc_law_place bd_law_place (fun vs H Q E h => ?_) (fun f cdv A outer s H vs Q E hr h => ?_)
  · obtain ⟨d, s, X, ns, ax, rfl, _⟩ := h
    rfl
  · obtain ⟨d, sa, X, ns, ax, rfl, hk, hX, hz, hR, q⟩ := h
    refine ⟨_, (pss_cons (ps_set (i := 2) sc_law_place.nd rfl (.inl rfl) (pe_lst pa_nil))
      (pss_cons (ps_for PassesOwn.never rfl (piL (K := K) rfl (pv 1)) (pg_name (i := 3) sc_law_place.nd rfl (.inl rfl))
        (pss_cons (ps_set (i := 4) sc_law_place.nd rfl (.inl rfl) (pe_h h_law_draw (hr.mono (by decide)) (pa_cons (pv 0) (pa_cons pe_int pa_nil))))
      (pss_cons (ps_set (i := 5) sc_law_place.nd rfl (.inl rfl) (pe_op op_add (pe_ix (ixT (K := K) rfl) (pv 3) pe_int (fun _ _ => rfl)) (pe_h h_law_draw (hr.mono (by decide)) (pa_cons (pv 0) (pa_cons (pe_op op_add (pe_op op_sub (pe_ix (ixT (K := K) rfl) (pv 3) pe_int (fun _ _ => rfl)) (pe_ix (ixT (K := K) rfl) (pv 3) pe_int (fun _ _ => rfl))) pe_int) pa_nil)))))
      (pss_cons (ps_if (pt_cmpR op_lt (pv 4) pe_int (nomark _))
        (pss_one (ps_set (i := 5) sc_law_place.nd rfl (.inl rfl) (pe_ix (ixT (K := K) rfl) (pv 3) (pv 4) (fun _ _ => rfl))))
        pss_nil)
      (pss_one (ps_expr (pe_bm PySem.F.plainAttrs_list PySem.F.slot_list_append PySem.F.type_list_append mt_append (pv 2) (pa_cons (pv 5) pa_nil))))))))
      (pss_one (ps_ret (pv 2))))), ?_⟩
    obtain ⟨_, xs, e, nX, rX, hXs⟩ := hX.lstE
    cases e
    have lx := hXs.len
    rw [List.length_map] at lx
    have hXd : X ≠ d := fun e => nX (by rw [e]; simp)
    walk_at "fl.w"
    rename_i L hL
    have hLd : L ≠ d := hk.ned hL
    have hLs : L ≠ sa := hk.nes hL
    have hXL : X ≠ L := fun e => by rw [e, hL] at rX; cases rX
    refine forK_l (xs := xs) (fun i σ' H' => ∃ (acc : List V) (pl : List Int) (u1 u2 u3 : Option V), σ' = [some (.ref d), some (.ref X), some (.ref L), u1, u2, u3] ∧ H' L = some (.lst acc) ∧
      DqA [L, d] H' acc (pl.map PyData.int) ∧ pl.length = i ∧ (∀ (j : Nat) t n, ax[j]? = some t → pl[j]? = some n → t.1 ≤ n ∧ n ≤ t.2.2) ∧ Fl.Fr [L, d] H H' ∧ Dk d sa ns H') ?_ ?_ ?_ ?_
    · exact ⟨[], [], none, none, none, rfl, upd_same, .nil, rfl, fun j t n _ e => by simp at e, Fl.Fr.new hL, hk.newH hL⟩
    · intro i σ' H' _ ⟨acc, pl, u1, u2, u3, e, hacc, hA, hl, hc, hf, hk'⟩
      exact SqL.of (hf X _ (by simp [hXL, hXd]) rX)
    · intro i x σ' H' hxi ⟨acc, pl, u1, u2, u3, e, hacc, hA, hl, hc, hf, hk'⟩
      subst e
      have hol : acc.length = i := by rw [hA.len, List.length_map]; exact hl
      have hAl : Al [L, d] H' := .cons (by rw [hacc]; simp) (.cons hk'.hd .nil)
      obtain ⟨t, ht, hx⟩ := hXs.getM hxi
      obtain ⟨p, rfl, np, hp⟩ := i3E hx
      have hpL : p ≠ L := fun e => by rw [e, hL] at hp; cases hp
      have hpd : p ≠ d := fun e => np (by rw [e]; simp)
      have hp1 := hf p _ (by simp [hpL, hpd]) hp
      obtain ⟨t1, t2, t3, t4, t5, t6⟩ := hR t (List.mem_of_getElem? ht)
      walk_at "fl.w"
      rename_i w0 G0 a00 a01 k0 o0 w1 G1 a10 a11 k1 o1
      have fr : Fr [d] H' G1 := (o0.frS (by simp)).trans (o1.frS (by simp))
      have fr2 : Fr [L, d] H' G1 := fr.mono fun b m => by simpa using Or.inr (show b = d by simpa using m)
      have hp2 := fr p _ (by simpa using hpd) hp1
      have hacc2 := fr L _ (by simpa using hLd) hacc
      have hi2 : acc.length < 100 := by
        have := (List.getElem?_eq_some_iff.mp hxi).1
        omega
      have fin : ∀ (n : Int) (u1 u2 u3 : Option V), t.1 ≤ n → n ≤ t.2.2 → ∃ (acc' : List V) (pl : List Int) (v1 v2 v3 : Option V), [some (.ref d), some (.ref X), some (.ref L), u1, u2, u3] = [some (.ref d), some (.ref X), some (.ref L), v1, v2, v3] ∧ (upd G1 L (.lst (acc ++ [.int n]))) L = some (.lst acc') ∧
          DqA [L, d] (upd G1 L (.lst (acc ++ [.int n]))) acc' (pl.map PyData.int) ∧ pl.length = i + 1 ∧ (∀ (j : Nat) t n, ax[j]? = some t → pl[j]? = some n → t.1 ≤ n ∧ n ≤ t.2.2) ∧ Fl.Fr [L, d] H (upd G1 L (.lst (acc ++ [.int n]))) ∧ Dk d sa ns (upd G1 L (.lst (acc ++ [.int n]))) := by
        intro n u1 u2 u3 n0 n1
        refine ⟨acc ++ [.int n], pl ++ [n], _, _, _, rfl, upd_same, ?_, by rw [List.length_append, hl]; rfl, ?_, (hf.trans fr2).trans (Fl.Fr.upd (by simp)), k1.put hLd hLs⟩
        · rw [List.map_append]
          exact ((hA.fr fr2).app (.one (.int _))).fr (Fl.Fr.upd (by simp))
        · intro j t' n' ht' hn'
          by_cases hj : j < pl.length
          · rw [List.getElem?_append_left hj] at hn'
            exact hc j t' n' ht' hn'
          · have hj2 := (List.getElem?_eq_some_iff.mp hn').1
            rw [List.length_append, List.length_singleton] at hj2
            have ej : j = i := by omega
            subst ej
            rw [← hl, List.getElem?_append_right (Nat.le_refl _), Nat.sub_self] at hn'
            cases hn'
            rw [ht] at ht'
            cases ht'
            exact ⟨n0, n1⟩
      by_cases hk3 : w0 < 3
      · refine g_yesB hk3 ?_
        obtain ⟨m, hm, hm2⟩ := ax3 (t := t) a00 hk3
        walk_at "fl.w"
        exact fin m _ _ _ (by omega) (by omega)
      · refine g_noB hk3 ?_
        walk_at "fl.w"
        exact fin _ _ _ _ (by omega) (by omega)
    · intro σ' H' ⟨acc, pl, u1, u2, u3, e, hacc, hA, hl, hc, hf, hk'⟩
      subst e
      walk_at "fl.w"
      refine q L H' pl (fun b u n z => hf b u (fun m => ?_) z) hk' (.lst (by simpa using hLd) hacc hA.tail) (by omega) hc
      rcases List.mem_cons.mp m with rfl | m
      · rw [hL] at z; cases z
      · exact n m
/-- a delta as the law draws it -/
def DlR (rg ct : Int) (x : Int × Int × Int × Int) : Prop := 0 ≤ x.1 ∧ x.1 < rg ∧ -1 ≤ x.2.1 ∧ x.2.1 < ct ∧ Crd x.2.2.1 ∧ Crd x.2.2.2
theorem far3 {v : Int} (h0 : 0 ≤ v) (h1 : v < 3) : ∃ sp : Int, atI [V.int 12, V.int 300, V.int 16384] v = some (.int sp) ∧ 12 ≤ sp ∧ sp ≤ 16384 := by
  rcases (by omega : v = 0 ∨ v = 1 ∨ v = 2) with rfl | rfl | rfl
  · exact ⟨12, rfl, by omega, by omega⟩
  · exact ⟨300, rfl, by omega, by omega⟩
  · exact ⟨16384, rfl, by omega, by omega⟩
def spDls : Sp := fun vs H Q _ => ∃ (S : List Addr) (d sa : Addr) (ns : List Int) (ct rg : Int), vs = [.ref d, .int ct, .int rg] ∧ d ∈ S ∧ Al S H ∧ Dk d sa ns H ∧ 0 ≤ ct ∧ ct ≤ 10000 ∧ 0 < rg ∧ rg ≤ 8 ∧
  ∀ t H' (L : List (Int × Int × Int × Int)), Fr [d] H H' → Dk d sa ns H' → Dq S H' (.ref t) (.list (L.map d4D)) → L.length ≤ 5 → (∀ x, x ∈ L → DlR rg ct x) → Q (.ref t) H'
theorem ok_law_deltas (T : Txt K mg) : Has P w K mg base 2 "_law_deltas" ps_law_deltas spDls := by
  have h_law_draw := ok_law_draw (P := P) (w := w) (base := base) T
  refine has_of T.d_law_deltas sc_law_deltas bd_law_deltas (fun vs H Q E h => ?_) (fun f cdv A outer s H vs Q E hr h => ?_)
  · obtain ⟨S, d, s, ns, ct, rg, rfl, _⟩ := h
    rfl
  · obtain ⟨S, d, sa, ns, ct, rg, rfl, hdS, hS, hk, c0, c1, r0, r1, q⟩ := h
    refine ⟨_, (pss_cons (ps_set (i := 3) sc_law_deltas.nd rfl (.inl rfl) (pe_lst pa_nil))
      (pss_cons (ps_for PassesOwn.never rfl (pi_range1 (by rfl) T.z_range (pa_cons (pe_h h_law_draw (hr.mono (by decide)) (pa_cons (pv 0) (pa_cons pe_int pa_nil))) pa_nil)) (pg_name (i := 4) sc_law_deltas.nd rfl (.inl rfl))
        (pss_cons (ps_set (i := 5) sc_law_deltas.nd rfl (.inl rfl) (pe_ix (ixL (K := K) rfl) (pe_lst (pa_cons pe_int (pa_cons pe_int (pa_cons pe_int pa_nil)))) (pe_h h_law_draw (hr.mono (by decide)) (pa_cons (pv 0) (pa_cons pe_int pa_nil))) (fun _ _ => rfl)))
      (pss_cons (ps_set (i := 6) sc_law_deltas.nd rfl (.inl rfl) (pe_op op_sub (pe_h h_law_draw (hr.mono (by decide)) (pa_cons (pv 0) (pa_cons (pe_op op_add (pe_op op_mul pe_int (pv 5)) pe_int) pa_nil))) (pv 5)))
      (pss_one (ps_expr (pe_bm PySem.F.plainAttrs_list PySem.F.slot_list_append PySem.F.type_list_append mt_append (pv 3) (pa_cons (pe_tup (pa_cons (pe_h h_law_draw (hr.mono (by decide)) (pa_cons (pv 0) (pa_cons (pv 2) pa_nil))) (pa_cons (pe_op op_sub (pe_h h_law_draw (hr.mono (by decide)) (pa_cons (pv 0) (pa_cons (pe_op op_add (pv 1) pe_int) pa_nil))) pe_int) (pa_cons (pv 6) (pa_cons (pe_op op_sub (pe_h h_law_draw (hr.mono (by decide)) (pa_cons (pv 0) (pa_cons (pe_op op_add (pe_op op_mul pe_int (pv 5)) pe_int) pa_nil))) (pv 5)) pa_nil))))) pa_nil)))))))
      (pss_one (ps_ret (pv 3))))), ?_⟩
    walk_at "fl.w"
    rename_i L hL v H1 hv0 hv1 hk1 ho1
    have hLd : L ≠ d := hk.ned hL
    have hLs : L ≠ sa := hk.nes hL
    have sub : ∀ b, b ∈ [d] → b ∈ L :: S := fun b m => by rw [show b = d by simpa using m]; exact List.mem_cons_of_mem _ hdS
    refine forK_r (fun i σ' H' => ∃ (acc : List V) (o : List (Int × Int × Int × Int)) (u1 u2 u3 : Option V), σ' = [some (.ref d), some (.int ct), some (.int rg), some (.ref L), u1, u2, u3] ∧ H' L = some (.lst acc) ∧
      DqA (L :: S) H' acc (o.map d4D) ∧ o.length = i ∧ (∀ x, x ∈ o → DlR rg ct x) ∧ Fl.Fr [L, d] H H' ∧ Dk d sa ns H') ?_ ?_ ?_
    · exact ⟨[], [], none, none, none, rfl, by rw [ho1 L hLd]; exact upd_same, .nil, rfl, fun _ m => (nomatch m), (Fl.Fr.new hL).trans (ho1.frS (by simp)), hk1⟩
    · intro i σ' H' hi ⟨acc, o, u1, u2, u3, e, hacc, hA, hl, hc, hf, hk'⟩
      subst e
      have hol : acc.length = i := by rw [hA.len, List.length_map]; exact hl
      have hAl : Al (L :: S) H' := .cons (by rw [hacc]; simp) (hS.fr hf (.cons (by rw [hacc]; simp) (.cons hk'.hd .nil)))
      walk_at "fl.w"
      rename_i l0 hl0 w0 G0 a00 a01 k0 o0
      obtain ⟨sp, hsp, hs0, hs1⟩ := far3 a00 a01
      walk_at "fl.w"
      rename_i w1 G1 a10 a11 k1 o1 w2 G2 a20 a21 k2 o2 w3 G3 a30 a31 k3 o3 w4 G4 a40 a41 k4 o4 p hp
      have f4 : Fr [d] H' G4 := (((Fr.new hl0).trans (o0.frS (by simp))).trans (o1.frS (by simp))).trans (((o2.frS (by simp)).trans (o3.frS (by simp))).trans (o4.frS (by simp)))
      have fr : Fr [d] H' (upd G4 p (.tup [.int w2, .int (w3 - 1), .int (w1 - sp), .int (w4 - sp)])) := f4.trans (Fr.same (Fl.Same.new hp))
      have fr2 : Fr [L, d] H' (upd G4 p (.tup [.int w2, .int (w3 - 1), .int (w1 - sp), .int (w4 - sp)])) := fr.mono fun b m => by simpa using Or.inr (show b = d by simpa using m)
      have al4 : Al (L :: S) G4 := hAl.fr (f4.mono fun b m => by simpa using Or.inr (show b = d by simpa using m)) (.cons (by rw [f4 L _ (by simpa using hLd) hacc]; simp) (.cons k4.hd .nil))
      have hpL : p ≠ L := fun e => by
        have z := f4 L _ (by simpa using hLd) hacc
        rw [← e, hp] at z
        cases z
      refine ⟨acc ++ [.ref p], o ++ [(w2, w3 - 1, w1 - sp, w4 - sp)], _, _, _, rfl, upd_same, ?_, by rw [List.length_append, hl]; rfl, ?_, (hf.trans fr2).trans (Fl.Fr.upd (by simp)), (k4.newH hp).put hLd hLs⟩
      · rw [List.map_append]
        refine ((hA.fr (fr.mono sub)).app (.one ?_)).fr (Fl.Fr.upd (by simp))
        exact .tup (al4.ni hp) upd_same (.cons (.int _) (.cons (.int _) (.cons (.int _) (.cons (.int _) .nil))))
      · intro x m
        rcases List.mem_append.mp m with m | m
        · exact hc x m
        · rw [show x = _ by simpa using m]
          exact ⟨by show 0 ≤ w2; omega, by show w2 < rg; omega, by show -1 ≤ w3 - 1; omega, by show w3 - 1 < ct; omega, ⟨by show -16384 ≤ w1 - sp; omega, by show w1 - sp ≤ 16384; omega⟩, ⟨by show -16384 ≤ w4 - sp; omega, by show w4 - sp ≤ 16384; omega⟩⟩
    · intro σ' H' ⟨acc, o, u1, u2, u3, e, hacc, hA, hl, hc, hf, hk'⟩
      subst e
      walk_at "fl.w"
      refine q L H' o (fun b u n z => hf b u (fun m => ?_) z) hk' (.lst (hS.ni hL) hacc hA.tail) (by omega) hc
      rcases List.mem_cons.mp m with rfl | m
      · rw [hL] at z; cases z
      · exact n m
end

section
variable {S : List Addr} {H1 : Hp} {K : PySem.W.Frag} {d sa : Addr} {ns : List Int}
/-- [a tent drawn for x in a list] -/
theorem lcTn {a : Addr} {xs : List V} {g : TG} {te : TE} {vs : List Nat} {σ : L2.St} {Q : VK} (hS : Al S H1) (hd : d ∈ S) (hk : Dk d sa ns H1) (ha : H1 a = some (.lst xs)) (had : a ≠ d) (hz : xs.length < 1000)
    (step : ∀ (D : Addr) (i : Nat) (x : V) (H : Hp), H1 D = none → xs[i]? = some x → Dk d sa ns H →
      ∀ (R : V → Hp → Prop), (∀ t H' (p : Tn), Fr [d] H H' → Dk d sa ns H' → H t = none → H' t = some (.tup [.int p.1, .int p.2.1, .int p.2.2]) → tentOk p → R (.ref t) H') → g x (wipe σ vs) H fun σ2 H2 => wipe σ2 vs = wipe σ vs ∧ te σ2 H2 R)
    (q : ∀ (D : Addr) (H : Hp) (ws : List V) (r : List Tn), Fr [d] H1 H → Dk d sa ns H → H1 D = none → H D = some (.lst ws) → DqA (D :: S) H ws (r.map tnD) → r.length = xs.length → (∀ t, t ∈ r → tentOk t) → Q (.ref D) H) :
    lcK (Itl K a) g tYes te vs σ H1 Q := by
  unfold lcK
  intro D hD
  have haD : a ≠ D := fun e => by rw [e, hD] at ha; cases ha
  have hDd : D ≠ d := hk.ned hD
  have hDs : D ≠ sa := hk.nes hD
  have sub : ∀ b, b ∈ [d] → b ∈ D :: S := fun b m => by rw [show b = d by simpa using m]; exact List.mem_cons_of_mem _ hd
  refine lc_it (walk_list (xs := xs)) (fun i H => (∃ (ws : List V) (r : List Tn), H D = some (.lst ws) ∧ DqA (D :: S) H ws (r.map tnD) ∧ r.length = i ∧ ∀ t, t ∈ r → tentOk t) ∧ Fr [D, d] H1 H ∧ Dk d sa ns H) ⟨⟨[], [], upd_same, .nil, rfl, fun _ m => nomatch m⟩, Fr.same (Fl.Same.new hD), hk.put hDd hDs⟩ ?_ ?_ ?_
  · intro i H _ ⟨_, hf, _⟩
    exact SqL.of (hf a _ (by simp [haD, had]) ha)
  · intro i x H H' hi ⟨⟨ws, r, hws, hA, hl, hr⟩, hf, hk'⟩ ⟨e, hx⟩
    subst e
    refine step D i x H' hD hx hk' (fun y H4 => ∃ acc, H4 D = some (.lst acc) ∧ acc.length < sizeLine ∧ ((∃ (ws : List V) (r : List Tn), (upd H4 D (.lst (acc ++ [y]))) D = some (.lst ws) ∧ DqA (D :: S) (upd H4 D (.lst (acc ++ [y]))) ws (r.map tnD) ∧ r.length = i + 1 ∧ ∀ t, t ∈ r → tentOk t) ∧ Fr [D, d] H1 (upd H4 D (.lst (acc ++ [y]))) ∧ Dk d sa ns (upd H4 D (.lst (acc ++ [y]))))) ?_
    intro t H4 p f4 k4 ht e4 ok
    have hlw : ws.length = i := by rw [hA.len, List.length_map]; exact hl
    have hAl : Al (D :: S) H' := .cons (by rw [hws]; simp) (hS.fr hf (.cons (by rw [hws]; simp) (.cons hk'.hd .nil)))
    refine ⟨ws, f4 D _ (by simpa using hDd) hws, ?_, ⟨ws ++ [.ref t], r ++ [p], upd_same, ?_, by rw [List.length_append, hl]; rfl, ?_⟩, ?_, k4.put hDd hDs⟩
    · have := (List.getElem?_eq_some_iff.mp hx).1
      have : (1000 : Nat) ≤ sizeLine := by decide
      omega
    · rw [List.map_append]
      exact ((hA.fr (f4.mono sub)).app (.one (tnI (hAl.ni ht) e4))).fr (Fr.upd (by simp))
    · intro t' m
      rcases List.mem_append.mp m with m | m
      · exact hr t' m
      · rw [show t' = p by simpa using m]; exact ok
    · exact (hf.trans (f4.mono fun b m => by simpa using Or.inr (show b = d by simpa using m))).trans (Fr.upd (by simp))
  · intro H ⟨⟨ws, r, hws, hA, hl, hr⟩, hf, hk'⟩
    refine q D H ws r (fun b u n z => hf b u (fun m => ?_) z) hk' hD hws hA hl hr
    rcases List.mem_cons.mp m with rfl | m
    · rw [hD] at z; cases z
    · exact n m
/-- lists of tents, each at an address of its own; S besides -/
structure RgA (S : List Addr) (H : Hp) (ras : List Addr) (rg : List (List Tn)) : Prop where
  l : ras.length = rg.length
  n : ras.Nodup
  s : ∀ a, a ∈ ras → a ∉ S
  d : ∀ (i : Nat) a r, ras[i]? = some a → rg[i]? = some r → ∃ ws, H a = some (.lst ws) ∧ DqA (ras ++ S) H ws (r.map tnD)
theorem RgA.al {H : Hp} {ras : List Addr} {rg : List (List Tn)} (h : RgA S H ras rg) (k : Al S H) : Al (ras ++ S) H := fun b m e => by
  rcases List.mem_append.mp m with m | m
  · obtain ⟨i, hi⟩ := List.mem_iff_getElem?.mp m
    have hil := (List.getElem?_eq_some_iff.mp hi).1
    rw [h.l] at hil
    obtain ⟨ws, z, _⟩ := h.d i b rg[i] hi (List.getElem?_eq_getElem hil)
    rw [z] at e; cases e
  · exact k b m e
theorem RgA.fr {H H' : Hp} {ras X : List Addr} {rg : List (List Tn)} (h : RgA S H ras rg) (f : Fr X H H') (hX : ∀ b, b ∈ X → b ∈ S) : RgA S H' ras rg :=
  ⟨h.l, h.n, h.s, fun i a r h1 h2 => by
    obtain ⟨ws, z, dq⟩ := h.d i a r h1 h2
    exact ⟨ws, f a _ (fun m => h.s a (List.mem_of_getElem? h1) (hX a m)) z, dq.fr (f.mono fun b m => List.mem_append_right _ (hX b m))⟩⟩
/-- [[..] for k in range(n)] -/
theorem lcRg {lo : Int} {n m : Nat} {g : TG} {te : TE} {vs : List Nat} {σ : L2.St} {Q : VK} (hS : Al S H1) (hd : d ∈ S) (hk : Dk d sa ns H1) (hz : n < 1000)
    (step : ∀ (S' : List Addr) (D : Addr) (i : Nat) (H : Hp), H1 D = none → (∀ b, b ∈ S → b ∈ S') → Al S' H → Dk d sa ns H → Fr [D, d] H1 H →
      ∀ (R : V → Hp → Prop), (∀ L H' ws (r : List Tn), Fr [d] H H' → Dk d sa ns H' → H L = none → H' L = some (.lst ws) → DqA (L :: S') H' ws (r.map tnD) → r.length = m → (∀ t, t ∈ r → tentOk t) → R (.ref L) H') → g (.int (lo + i)) (wipe σ vs) H fun σ2 H2 => wipe σ2 vs = wipe σ vs ∧ te σ2 H2 R)
    (q : ∀ (D : Addr) (H : Hp) (ras : List Addr) (rg : List (List Tn)), Fr [d] H1 H → Dk d sa ns H → H1 D = none → D ∉ ras ++ S → H D = some (.lst (ras.map V.ref)) → RgA S H ras rg → rg.length = n → (∀ r, r ∈ rg → r.length = m ∧ ∀ t, t ∈ r → tentOk t) → (∀ a, a ∈ ras → H1 a = none) → Q (.ref D) H) :
    lcK (Itr lo n) g tYes te vs σ H1 Q := by
  unfold lcK
  intro D hD
  have hDd : D ≠ d := hk.ned hD
  have hDs : D ≠ sa := hk.nes hD
  have sub : ∀ b, b ∈ [d] → b ∈ D :: S := fun b m => by rw [show b = d by simpa using m]; exact List.mem_cons_of_mem _ hd
  refine lc_range (fun i H => (∃ (ras : List Addr) (rg : List (List Tn)), H D = some (.lst (ras.map V.ref)) ∧ RgA (D :: S) H ras rg ∧ rg.length = i ∧ (∀ r, r ∈ rg → r.length = m ∧ ∀ t, t ∈ r → tentOk t) ∧ ∀ a, a ∈ ras → H1 a = none) ∧ Fr [D, d] H1 H ∧ Dk d sa ns H)
    ⟨⟨[], [], upd_same, ⟨rfl, List.nodup_nil, fun _ m => (nomatch m), fun i a r h _ => by simp at h⟩, rfl, ⟨fun _ m => (nomatch m), fun _ m => (nomatch m)⟩⟩, Fr.same (Fl.Same.new hD), hk.put hDd hDs⟩ ?_ ?_
  · intro i H hlt ⟨⟨ras, rg, hras, hA, hl, hr, hn⟩, hf, hk'⟩
    have hAl0 : Al (D :: S) H := .cons (by rw [hras]; simp) (hS.fr hf (.cons (by rw [hras]; simp) (.cons hk'.hd .nil)))
    have hAl := hA.al hAl0
    refine step (ras ++ D :: S) D i H hD (fun b m => List.mem_append_right _ (List.mem_cons_of_mem _ m)) hAl hk' hf (fun y H4 => ∃ acc, H4 D = some (.lst acc) ∧ acc.length < sizeLine ∧ ((∃ (ras : List Addr) (rg : List (List Tn)), (upd H4 D (.lst (acc ++ [y]))) D = some (.lst (ras.map V.ref)) ∧ RgA (D :: S) (upd H4 D (.lst (acc ++ [y]))) ras rg ∧ rg.length = i + 1 ∧ (∀ r, r ∈ rg → r.length = m ∧ ∀ t, t ∈ r → tentOk t) ∧ ∀ a, a ∈ ras → H1 a = none) ∧ Fr [D, d] H1 (upd H4 D (.lst (acc ++ [y]))) ∧ Dk d sa ns (upd H4 D (.lst (acc ++ [y]))))) ?_
    intro L H4 ws r f4 k4 hL eL dL lr okr
    have hLS : L ∉ ras ++ D :: S := hAl.ni hL
    have lras : ras.length = i := hA.l.trans hl
    refine ⟨ras.map V.ref, f4 D _ (by simpa using hDd) hras, ?_, ⟨ras ++ [L], rg ++ [r], by rw [upd_same, List.map_append]; rfl, ⟨?_, ?_, ?_, ?_⟩, by rw [List.length_append, hl]; rfl, ?_, ?_⟩, ?_, k4.put hDd hDs⟩
    · rw [List.length_map]
      have : (1000 : Nat) ≤ sizeLine := by decide
      omega
    · rw [List.length_append, List.length_append, hA.l]; rfl
    · refine List.nodup_append.mpr ⟨hA.n, List.nodup_cons.mpr ⟨List.not_mem_nil, List.nodup_nil⟩, fun a ma b mb e => ?_⟩
      rw [show b = L by simpa using mb] at e
      exact hLS (List.mem_append_left _ (e ▸ ma))
    · intro a ma
      rcases List.mem_append.mp ma with ma | ma
      · exact hA.s a ma
      · rw [show a = L by simpa using ma]
        exact fun z => hLS (List.mem_append_right _ z)
    · intro j a r' hj hr'
      by_cases hjl : j < ras.length
      · rw [List.getElem?_append_left hjl] at hj
        rw [List.getElem?_append_left (by rw [← hA.l]; exact hjl)] at hr'
        obtain ⟨ws', z, dq⟩ := hA.d j a r' hj hr'
        have aD : a ≠ D := fun e => hA.s a (List.mem_of_getElem? hj) (e ▸ List.mem_cons_self)
        have ad : a ≠ d := fun e => hA.s a (List.mem_of_getElem? hj) (e ▸ List.mem_cons_of_mem _ hd)
        refine ⟨ws', by rw [upd_ne aD]; exact f4 a _ (by simpa using ad) z, (((dq.new hL).fr (f4.mono fun b mb => List.mem_cons_of_mem _ (List.mem_append_right _ (sub b mb)))).mono fun b mb => ?_).fr (Fr.upd (by simp))⟩
        rcases List.mem_append.mp mb with mb | mb
        · rcases List.mem_append.mp mb with mb | mb
          · exact List.mem_cons_of_mem _ (List.mem_append_left _ mb)
          · rw [show b = L by simpa using mb]; exact List.mem_cons_self
        · exact List.mem_cons_of_mem _ (List.mem_append_right _ mb)
      · have hj2 := (List.getElem?_eq_some_iff.mp hj).1
        rw [List.length_append, List.length_singleton] at hj2
        have ej : j = ras.length := by omega
        subst ej
        rw [List.getElem?_append_right (Nat.le_refl _), Nat.sub_self] at hj
        rw [hA.l, List.getElem?_append_right (Nat.le_refl _), Nat.sub_self] at hr'
        cases hj
        cases hr'
        refine ⟨ws, by rw [upd_ne (show L ≠ D from fun e => hLS (List.mem_append_right _ (by rw [e]; exact List.mem_cons_self)))]; exact eL, (dL.mono fun b mb => ?_).fr (Fr.upd (by simp))⟩
        rcases List.mem_append.mp mb with mb | mb
        · rcases List.mem_append.mp mb with mb | mb
          · exact List.mem_cons_of_mem _ (List.mem_append_left _ mb)
          · rw [show b = L by simpa using mb]; exact List.mem_cons_self
        · exact List.mem_cons_of_mem _ (List.mem_append_right _ mb)
    · intro r' m'
      rcases List.mem_append.mp m' with m' | m'
      · exact hr r' m'
      · rw [show r' = r by simpa using m']; exact ⟨lr, okr⟩
    · intro a ma
      rcases List.mem_append.mp ma with ma | ma
      · exact hn a ma
      · rw [show a = L by simpa using ma]
        cases h0 : H1 L with
        | none => rfl
        | some u =>
          exfalso
          by_cases m1 : L = D
          · rw [m1, hD] at h0; cases h0
          · by_cases m2 : L = d
            · subst m2; exact hk'.hd hL
            · have := hf L u (by simp [m1, m2]) h0
              rw [hL] at this; cases this
    · exact (hf.trans (f4.mono fun b mb => by simpa using Or.inr (show b = d by simpa using mb))).trans (Fr.upd (by simp))
  · intro H ⟨⟨ras, rg, hras, hA, hl, hr, hn⟩, hf, hk'⟩
    have hDr : D ∉ ras := fun mD => hA.s D mD List.mem_cons_self
    refine q D H ras rg (fun b u nb z => hf b u (fun mb => ?_) z) hk' hD (fun mD => ?_) hras ⟨hA.l, hA.n, fun a ma z => hA.s a ma (List.mem_cons_of_mem _ z), fun j a r h1 h2 => ?_⟩ hl hr hn
    · rcases List.mem_cons.mp mb with rfl | mb
      · rw [hD] at z; cases z
      · exact nb mb
    · rcases List.mem_append.mp mD with mD | mD
      · exact hDr mD
      · exact hS.ni hD mD
    · obtain ⟨ws, z, dq⟩ := hA.d j a r h1 h2
      refine ⟨ws, z, dq.mono fun b mb => ?_⟩
      rcases List.mem_append.mp mb with mb | mb
      · exact List.mem_append_left _ mb
      · exact List.mem_append_right _ (List.mem_cons_of_mem _ mb)
end
section
variable {P : Program} {w : World} {K : PySem.W.Frag} {mg : Str → Option Value} {base : Heap}
local macro_rules | `(tactic| walk_at "fl.t") => `(tactic| (with_reducible refine g_chainW ?_))
local macro_rules | `(tactic| walk_at "fl.t") => `(tactic| (with_reducible refine g_callS ?_))
local macro_rules | `(tactic| walk_at "fl.t") => `(tactic| (with_reducible refine g_ifE ?_))
local macro_rules | `(tactic| walk_at "fl.w") => `(tactic| repeat walk_at "fl.t")
abbrev D4s := List (Int × Int × Int × Int)
theorem Dq_news {S ras : List Addr} {H : Hp} {v : V} {x : PyData} (h : Dq S H v x) (n : ∀ a, a ∈ ras → H a = none) : Dq (ras ++ S) H v x := h.to fun a o ns q => ⟨fun m => by
  rcases List.mem_append.mp m with m | m
  · rw [n a m] at q; cases q
  · exact ns m, q⟩
/-- what a glyph is made of -/
abbrev Row := Int × List (List Pt) × D4s
def rowD (r : Row) : PyData := .list [.int r.1, ouD r.2.1, .list (r.2.2.map d4D)]
def RowR (rg : Nat) (r : Row) : Prop := 0 ≤ r.1 ∧ r.1 ≤ 16384 ∧ OuIn 2 16384 r.2.1 ∧ r.2.2.length ≤ 5 ∧ ∀ x, x ∈ r.2.2 → DlR rg (cnt r.2.1) x
/-- what a font is made of -/
structure Styl where
  ax : List (Int × Int × Int)
  rg : List (List Tn)
  rw : List Row
structure StylR (s : Styl) : Prop where
  al : 1 ≤ s.ax.length ∧ s.ax.length ≤ 3
  ar : ∀ t, t ∈ s.ax → AxR t
  rl : 1 ≤ s.rg.length ∧ s.rg.length ≤ 4
  rr : ∀ r, r ∈ s.rg → r.length = s.ax.length ∧ ∀ t, t ∈ r → tentOk t
  wl : 1 ≤ s.rw.length ∧ s.rw.length ≤ 3
  wr : ∀ r, r ∈ s.rw → RowR s.rg.length r
/-- how it stands there: the lists of tents at addresses of their own -/
structure StylA (d : Addr) (H : Hp) (M : Addr) (AX RG RW : Addr) (ras : List Addr) (s : Styl) : Prop where
  m : H M = some (.lst [.ref AX, .ref RG, .ref RW]) ∧ M ∉ ras ++ [d]
  g : H RG = some (.lst (ras.map V.ref)) ∧ RG ∉ ras ++ [d]
  r : RgA [d] H ras s.rg
  a : Dq (ras ++ [d]) H (.ref AX) (.list (s.ax.map axD))
  w : Dq (ras ++ [d]) H (.ref RW) (.list (s.rw.map rowD))
theorem cnt_b {o : List (List Pt)} (h : OuIn 2 16384 o) : 0 ≤ cnt o ∧ cnt o ≤ 21 := by
  obtain ⟨h1, h2⟩ := h
  match o, h1, h2 with
  | [], _, _ => exact ⟨by decide, by decide⟩
  | [a], _, h2 => have := h2 a (by simp); rw [cnt_flat]; simp; omega
  | [a, b], _, h2 => have h3 := h2 a (by simp); have h4 := h2 b (by simp); rw [cnt_flat]; simp; omega
  | [a, b, c], _, h2 => have h3 := h2 a (by simp); have h4 := h2 b (by simp); have h5 := h2 c (by simp); rw [cnt_flat]; simp; omega
  | a :: b :: c :: e :: l, h1, _ => simp at h1
def spSty : Sp := fun vs H Q _ => ∃ (d sa : Addr) (ns : List Int), vs = [.ref d, .int 1] ∧ Dk d sa ns H ∧ ∀ M AX RG RW ras H' (s : Styl), Fr [d] H H' → Dk d sa ns H' → StylA d H' M AX RG RW ras s → StylR s → (∀ a, a ∈ ras → H a = none) → Q (.ref M) H'
theorem ok_law_styled (T : Txt K mg) : Has P w K mg base 4 "_law_styled" ps_law_styled spSty := by
  have h_law_draw := ok_law_draw (P := P) (w := w) (base := base) T
  have h_law_axes := ok_law_axes (P := P) (w := w) (base := base) T
  have h_law_font_tent := ok_law_font_tent (P := P) (w := w) (base := base) T
  have h_law_outline := ok_law_outline (P := P) (w := w) (base := base) T
  have h_law_deltas := ok_law_deltas (P := P) (w := w) (base := base) T
  refine has_of T.d_law_styled sc_law_styled bd_law_styled (fun vs H Q E h => ?_) (fun f cdv A outer s H vs Q E hr h => ?_)
  · obtain ⟨d, s, ns, rfl, _⟩ := h
    rfl
  · obtain ⟨d, sa, ns, rfl, hk, q⟩ := h
    refine ⟨_, (pss_cons (ps_set (i := 2) sc_law_styled.nd rfl (.inr rfl) (pe_h h_law_axes (hr.mono (by decide)) (pa_cons (pv 0) (pa_cons (pv 1) pa_nil))))
      (pss_cons (ps_setLc (i := 4) (own := [("k", 3)]) rfl sc_law_styled.nd rfl rfl (sw_true rfl rfl rfl (by decide +kernel)) (pi_range1 (by rfl) T.z_range (pa_cons (pe_op op_add pe_int (pe_h h_law_draw (hr.mono (by decide)) (pa_cons (pv 0) (pa_cons pe_int pa_nil)))) pa_nil)) (blkOk_by (by kernel_rfl)) (fun _ _ _ _ _ => (pg_name (i := 3) sc_law_styled.nd rfl (.inl rfl))) (fun _ _ _ _ _ => pts_nil) (fun _ _ _ _ _ => (pe_lc (own := [("axis", 8)]) rfl sc_law_styled.nd (piL (K := K) rfl (pv 2)) (blkOk_by (by kernel_rfl)) (fun _ _ _ _ _ => (pg_name (i := 8) sc_law_styled.nd rfl (.inl rfl))) (fun _ _ _ _ _ => pts_nil) (fun _ _ _ _ _ => (pe_h h_law_font_tent (hr.mono (by decide)) (pa_cons (pv 0) pa_nil))))))
      (pss_cons (ps_set (i := 5) sc_law_styled.nd rfl (.inl rfl) (pe_lst pa_nil))
      (pss_cons (ps_for PassesOwn.never rfl (pi_range1 (by rfl) T.z_range (pa_cons (pe_op op_add pe_int (pe_h h_law_draw (hr.mono (by decide)) (pa_cons (pv 0) (pa_cons pe_int pa_nil)))) pa_nil)) (pg_name (i := 3) sc_law_styled.nd rfl (.inl rfl))
        (pss_cons (ps_set (i := 6) sc_law_styled.nd rfl (.inl rfl) (pe_h h_law_outline (hr.mono (by decide)) (pa_cons (pv 0) (pa_cons pe_int (pa_cons pe_int pa_nil)))))
      (pss_cons (ps_set (i := 7) sc_law_styled.nd rfl (.inl rfl) (pe_callB (clSum (K := K) rfl rfl) (by rfl) T.z_sum (by decide +kernel) (pa_cons (pe_lc (own := [("contour", 9)]) rfl sc_law_styled.nd (piL (K := K) rfl (pv 6)) (blkOk_by (by kernel_rfl)) (fun _ _ _ _ _ => (pg_name (i := 9) sc_law_styled.nd rfl (.inl rfl))) (fun _ _ _ _ _ => pts_nil) (fun _ _ _ _ _ => (pe_callB (clLen (K := K) rfl) (by rfl) T.z_len (by decide +kernel) (pa_cons (pv 9) pa_nil)))) pa_nil)))
      (pss_one (ps_expr (pe_bm PySem.F.plainAttrs_list PySem.F.slot_list_append PySem.F.type_list_append mt_append (pv 5) (pa_cons (pe_lst (pa_cons (pe_h h_law_draw (hr.mono (by decide)) (pa_cons (pv 0) (pa_cons pe_int pa_nil))) (pa_cons (pv 6) (pa_cons (pe_h h_law_deltas (hr.mono (by decide)) (pa_cons (pv 0) (pa_cons (pv 7) (pa_cons (pe_callB (clLen (K := K) rfl) (by rfl) T.z_len (by decide +kernel) (pa_cons (pv 4) pa_nil)) pa_nil)))) pa_nil)))) pa_nil)))))))
      (pss_one (ps_ret (pe_lst (pa_cons (pv 2) (pa_cons (pv 4) (pa_cons (pv 5) pa_nil)))))))))), ?_⟩
    walk_at "fl.w"
    refine ⟨d, sa, ns, 1, rfl, hk, by omega, fun AX H1 ax f1 k1 dax al1 al2 ar => ?_⟩
    obtain ⟨_, xs, e, nAX, rAX, hXs⟩ := dax.lstE
    cases e
    have lx : xs.length = ax.length := by rw [hXs.len, List.length_map]
    have hAXd : AX ≠ d := fun e => nAX (by rw [e]; simp)
    walk_at "fl.w"
    rename_i v0 H2 v00 v01 k2 o2
    refine lcRg (S := [d]) (m := ax.length) (.cons k2.hd .nil) (by simp) k2 (by omega) ?_ ?_
    · intro S' D i H3 hD sS al3 k3 f3 R hR
      refine g_name ⟨rfl, ?_⟩
      have rAX3 : H3 AX = some (.lst xs) := by
        have z : H2 AX = some (.lst xs) := by rw [o2 AX hAXd]; exact rAX
        exact f3 AX _ (by
          have : AX ≠ D := fun e => by rw [e, hD] at z; cases z
          simp [this, hAXd]) z
      walk_at "fl.w"
      refine lcTn (S := S') al3 (sS d (by simp)) k3 rAX3 hAXd (by omega) ?_ ?_
      · intro D4 j x H4 hD4 hx k4 R4 hR4
        refine g_name ⟨rfl, ?_⟩
        walk_at "fl.w"
        exact ⟨d, sa, ns, rfl, k4, hR4⟩
      · intro L H4 ws r f4 k4 hL eL dL lr okr
        exact hR L H4 ws r f4 k4 hL eL dL (by omega) okr
    intro RG H3 ras rg f3 k3 hRG nRG eRG hA lrg rr nw
    have f13 : Fr [d] H1 H3 := (o2.frS (by simp)).trans f3
    have nwH : ∀ a, a ∈ ras → H a = none := fun a ma => by
      have z : H1 a = none := by
        have z2 := nw a ma
        rw [o2 a (fun e => hA.s a ma (by simp [e]))] at z2
        exact z2
      cases h0 : H a with
      | none => rfl
      | some u =>
        have := f1 a u (by simpa using fun e => hA.s a ma (by simp [e])) h0
        rw [z] at this; cases this
    have dax3 : Dq (ras ++ [d]) H3 (.ref AX) (.list (ax.map axD)) := (Dq_news (dax.fr (o2.frS (by simp))) nw).fr (f3.mono fun b m => List.mem_append_right _ m)
    have lras : ras.length = rg.length := hA.l
    walk_at "fl.w"
    rename_i RW hRW v1 H4 v10 v11 k4 o4
    have hRWd : RW ≠ d := k3.ned hRW
    have hRWs : RW ≠ sa := k3.nes hRW
    have al3 : Al (ras ++ [d]) H3 := hA.al (.cons k3.hd .nil)
    have nRW : RW ∉ ras ++ [d] := al3.ni hRW
    have hRGd : RG ≠ d := fun e => nRG (by simp [e])
    have hRGW : RG ≠ RW := fun e => by rw [e, hRW] at eRG; cases eRG
    have sub : ∀ b, b ∈ [d] → b ∈ RW :: (ras ++ [d]) := fun b m => List.mem_cons_of_mem _ (List.mem_append_right _ m)
    have dS : d ∈ RW :: (ras ++ [d]) := sub d (by simp)
    have sub2 : ∀ b, b ∈ [RW, d] → b ∈ RW :: (ras ++ [d]) := fun b m => by
      rcases List.mem_cons.mp m with rfl | m
      · exact List.mem_cons_self
      · exact sub b m
    refine forK_r (fun i σ' H' => ∃ (acc : List V) (rw : List Row) (u3 u6 u7 u8 u9 : Option V), σ' = [some (.ref d), some (.int 1), some (.ref AX), u3, some (.ref RG), some (.ref RW), u6, u7, u8, u9] ∧ H' RW = some (.lst acc) ∧
      DqA (RW :: (ras ++ [d])) H' acc (rw.map rowD) ∧ rw.length = i ∧ (∀ r, r ∈ rw → RowR rg.length r) ∧ Fl.Fr [RW, d] H3 H' ∧ Dk d sa ns H') ?_ ?_ ?_
    · exact ⟨[], [], none, none, none, none, none, rfl, by rw [o4 RW hRWd]; exact upd_same, .nil, rfl, fun _ m => (nomatch m), (Fl.Fr.new hRW).trans (o4.frS (by simp)), k4⟩
    · intro i σ' H' hi ⟨acc, rw, u3, u6, u7, u8, u9, e, hacc, hB, hl, hc, hf, hk'⟩
      subst e
      have hol : acc.length = i := by rw [hB.len, List.length_map]; exact hl
      have hAl : Al (RW :: (ras ++ [d])) H' := .cons (by rw [hacc]; simp) (al3.fr hf (.cons (by rw [hacc]; simp) (.cons hk'.hd .nil)))
      walk_at "fl.w"
      refine ⟨RW :: (ras ++ [d]), d, sa, ns, 2, 16384, rfl, dS, hAl, hk', by omega, by omega, by omega, fun OU H5 o f5 k5 dou oin => ?_⟩
      have hacc5 := f5 RW _ (by simpa using hRWd) hacc
      have al5 : Al (RW :: (ras ++ [d])) H5 := hAl.fr f5 (.cons k5.hd .nil)
      obtain ⟨_, os, e, nOU, rOU, hOs⟩ := id dou.lstE
      cases e
      have los : os.length = o.length := by rw [hOs.len, List.length_map]
      have lo3 := oin.1
      walk_at "fl.w"
      refine lcL (S := RW :: (ras ++ [d])) (es := o.map ctD) (fun i => ((o.map fun c => (c.length : Int)).map PyData.int)[i]?) al5 dou (by rw [List.length_map]; omega) ?_ ?_
      · intro D i x e H2 hD he sm al hxe R N hR hN
        rw [List.getElem?_map] at he
        cases hc1 : o[i]? with
        | none => rw [hc1] at he; cases he
        | some c =>
          rw [hc1] at he
          cases he
          obtain ⟨b, ys, rfl, nb, hy, hB⟩ := hxe.lstE
          have hlb := hB.len
          rw [List.length_map] at hlb
          refine g_name ⟨rfl, ?_⟩
          walk_at "fl.w"
          exact hR (.int (c.length : Int)) _ _ (by rw [List.getElem?_map, List.getElem?_map, hc1]; rfl) (L2.Same.refl _) (by rw [hlb]; exact .int _)
      intro D H6 sm6 hD hq
      rw [fm_all (by simp)] at hq
      obtain ⟨_, zs, e, nD, hzs, hZ⟩ := hq.lstE
      cases e
      obtain rfl := ints_of hZ
      have k6 := k5.same sm6
      have hacc6 := sm6 _ _ hacc5
      have dou6 := dou.same sm6
      have al6 := al5.same sm6
      obtain ⟨cb0, cb1⟩ := cnt_b oin
      have eRG6 : H6 RG = some (.lst (ras.map V.ref)) := sm6 _ _ (f5 RG _ (by simpa using hRGd) (hf RG _ (by simp [hRGW, hRGd]) eRG))
      walk_at "fl.w"
      rename_i a7 H7 a70 a71 k7 o7
      have f7 : Fr [d] H6 H7 := o7.frS (by simp)
      have hacc7 := f7 RW _ (by simpa using hRWd) hacc6
      have eRG7 := f7 RG _ (by simpa using hRGd) eRG6
      have al7 : Al (RW :: (ras ++ [d])) H7 := al6.fr f7 (.cons k7.hd .nil)
      have lmap : ((ras.map V.ref).length : Int) = (rg.length : Nat) := by rw [List.length_map, lras]
      walk_at "fl.w"
      refine ⟨RW :: (ras ++ [d]), d, sa, ns, cnt o, (rg.length : Nat), by rw [← lmap]; rfl, dS, al7, k7, cb0, by omega, by omega, by omega, fun DL H8 dl f8 k8 ddl dl5 dlr => ?_⟩
      have hacc8 := f8 RW _ (by simpa using hRWd) hacc7
      have al8 : Al (RW :: (ras ++ [d])) H8 := al7.fr f8 (.cons k8.hd .nil)
      walk_at "fl.w"
      rename_i p hp
      have hpW : p ≠ RW := fun e => by rw [e, hacc8] at hp; cases hp
      have f68 : Fr [d] H6 H8 := f7.trans f8
      have fH8 : Fr [d] H' H8 := (f5.trans (Fr.same sm6)).trans f68
      have dr : Dq (RW :: (ras ++ [d])) (upd H8 p (.lst [.int a7, .ref OU, .ref DL])) (.ref p) (rowD (a7, o, dl)) := .lst (al8.ni hp) upd_same (.cons (.int _) (.cons (((dou6.fr (f68.mono sub))).same (Fl.Same.new hp)) (.cons (ddl.same (Fl.Same.new hp)) .nil)))
      refine ⟨acc ++ [.ref p], rw ++ [(a7, o, dl)], _, _, _, _, _, rfl, upd_same, ?_, by rw [List.length_append, hl]; rfl, ?_, ?_, (k8.newH hp).put hRWd hRWs⟩
      · rw [List.map_append]
        exact ((((hB.fr (fH8.mono sub)).same (Fl.Same.new hp)).app (.one dr))).fr (Fl.Fr.upd (by simp))
      · intro r m
        rcases List.mem_append.mp m with m | m
        · exact hc r m
        · rw [show r = _ by simpa using m]
          exact ⟨by show 0 ≤ a7; omega, by show a7 ≤ 16384; omega, oin, dl5, dlr⟩
      · exact ((hf.trans (fH8.mono fun b m => by simpa using Or.inr (show b = d by simpa using m))).trans (Fr.new hp)).trans (Fl.Fr.upd (by simp))
    · intro σ' H' ⟨acc, rw, u3, u6, u7, u8, u9, e, hacc, hB, hl, hc, hf, hk'⟩
      subst e
      walk_at "fl.w"
      rename_i M hM
      have hfd : Fr [d] H3 H' := fun b u n z => hf b u (fun m => by
        rcases List.mem_cons.mp m with rfl | m
        · rw [hRW] at z; cases z
        · exact n m) z
      have al' : Al (ras ++ [d]) H' := al3.fr hfd (.cons hk'.hd .nil)
      have smM : Same H' (upd H' M (.lst [.ref AX, .ref RG, .ref RW])) := Fl.Same.new hM
      refine q M AX RG RW ras _ ⟨ax, rg, rw⟩ ((f1.trans f13).trans (hfd.trans (Fr.same smM))) (hk'.newH hM) ⟨⟨upd_same, al'.ni hM⟩, ⟨smM _ _ (hf RG _ (by simp [hRGW, hRGd]) eRG), nRG⟩, (hA.fr hfd (fun b m => m)).fr (X := []) (Fr.same smM) (fun b m => nomatch m), (dax3.fr (hfd.mono fun b m => List.mem_append_right _ m)).same smM, ?_⟩ ⟨⟨al1, al2⟩, ar, ⟨by show 1 ≤ rg.length; omega, by show rg.length ≤ 4; omega⟩, rr, ⟨by show 1 ≤ rw.length; omega, by show rw.length ≤ 3; omega⟩, hc⟩ nwH
      exact (Dq.lst nRW hacc hB.tail).same smM
end

section
/-- the font made of it -/
def rowG (r : Row) : GlG := ⟨r.1, r.2.1, [], [], false, r.2.2, []⟩
def fntS (s : Styl) : FoG := ⟨100, s.rw.map rowG, [], [], [], s.ax, s.rg, [], []⟩
def rgD (r : List Tn) : PyData := .list (r.map tnD)
def mdD (s : Styl) : PyData := .list [.list (s.ax.map axD), .list (s.rg.map rgD), .list (s.rw.map rowD)]
structure FntR (s : Styl) : Prop where
  al : 1 ≤ s.ax.length ∧ s.ax.length ≤ 3
  ar : ∀ t, t ∈ s.ax → -16384 ≤ t.1 ∧ t.1 ≤ t.2.1 ∧ t.2.1 ≤ t.2.2 ∧ t.2.2 ≤ 16384 ∧ t.2.1 - t.1 ≤ 1000 ∧ t.2.2 - t.2.1 ≤ 1000
  rl : 1 ≤ s.rg.length ∧ s.rg.length ≤ 4
  rr : ∀ r, r ∈ s.rg → r.length = s.ax.length ∧ ∀ t, t ∈ r → tentOk t
  wl : 1 ≤ s.rw.length ∧ s.rw.length ≤ 3
  wr : ∀ r, r ∈ s.rw → RowR s.rg.length r
theorem StylR.f {s : Styl} (h : StylR s) : FntR s := ⟨h.al, fun t m => by obtain ⟨t1, t2, t3, t4, t5, t6⟩ := h.ar t m; omega, h.rl, h.rr, h.wl, h.wr⟩
theorem flat_le : ∀ (o : List (List Pt)) (n : Nat), (∀ c, c ∈ o → c.length ≤ n) → o.flatten.length ≤ n * o.length
  | [], _, _ => by simp
  | c :: o, n, h => by
    have h1 := h c List.mem_cons_self
    have h2 := flat_le o n fun c m => h c (List.mem_cons_of_mem _ m)
    rw [List.flatten_cons, List.length_append, List.length_cons, Nat.mul_succ]
    omega
theorem prp_in {o : List (List Pt)} (h : OuIn 2 16384 o) : prp o = true := by
  have hf := flat_le o 7 fun c m => by have := (h.2 c m).2.1; omega
  have hz := h.1
  unfold prp
  rw [Bool.and_eq_true, Bool.and_eq_true]
  refine ⟨⟨decide_eq_true (by omega), decide_eq_true (by rw [cnt_flat]; omega)⟩, List.all_eq_true.mpr fun c m => ?_⟩
  obtain ⟨h1, _, h3⟩ := h.2 c m
  unfold okC
  rw [Bool.and_eq_true]
  refine ⟨decide_eq_true h1, List.all_eq_true.mpr fun p m => ?_⟩
  have := h3 p m
  exact decide_eq_true ⟨this.1, this.2.1, this.2.2.1, this.2.2.2⟩
theorem rowG_ok {r : Row} {n m : Nat} (h : RowR m r) : (rowG r).Ok n m := by
  obtain ⟨h1, h2, h3, h4, h5⟩ := h
  have hz := h3.1
  exact ⟨⟨h1, h2⟩, prp_in h3, ⟨by show r.2.1.length ≤ 40; omega, fun c m => by have := (h3.2 c m).2.1; omega⟩, ⟨by show 0 < 900; decide, fun p m => (nomatch m)⟩, ⟨by show 0 < 900; decide, fun p m => (nomatch m)⟩, ⟨by show r.2.2.length < 900; omega, fun x mx => h5 x mx⟩, ⟨by show 0 < 900; decide, fun p m => (nomatch m)⟩⟩
theorem fntS_sty {s : Styl} (h : FntR s) : Sty (fntS s) := by
  have l1 := h.al
  have l2 := h.rl
  have l3 := h.wl
  refine ⟨⟨⟨by show (16 : Int) ≤ 100; decide, by show (100 : Int) ≤ 16384; decide⟩, ⟨by show 1 ≤ (s.rw.map rowG).length; rw [List.length_map]; omega, by show (s.rw.map rowG).length ≤ 60; rw [List.length_map]; omega⟩, fun g m => ?_, ⟨fun _ => 0, fun k g hg => ⟨Nat.zero_le _, fun p m => ?_⟩⟩, ⟨by show 0 < 900; decide, fun i c e => by cases e⟩, by show 0 ≤ 20; decide, fun k m => (nomatch m), fun k m => (nomatch m), ⟨by show 0 ≤ 12; decide, by show ([] : List Str).Nodup; exact List.nodup_nil, fun p m => (nomatch m)⟩, ⟨by show s.ax.length ≤ 3; omega, fun t m => ?_⟩, ⟨by show s.rg.length ≤ 8; omega, fun r m => h.rr r m⟩, ⟨by show 0 ≤ 12; decide, fun c m => (nomatch m)⟩, ⟨by show 0 ≤ 32; decide, fun p m => (nomatch m)⟩⟩, rfl, rfl, rfl, rfl, rfl, fun g m => ?_, fun t m => ?_⟩
  · obtain ⟨r, mr, rfl⟩ := List.mem_map.mp (show g ∈ s.rw.map rowG from m)
    exact rowG_ok (h.wr r mr)
  · obtain ⟨r, mr, rfl⟩ := List.mem_map.mp (show g ∈ s.rw.map rowG from List.mem_of_getElem? hg)
    exact (nomatch m)
  · have := h.ar t m; omega
  · obtain ⟨r, mr, rfl⟩ := List.mem_map.mp (show g ∈ s.rw.map rowG from m)
    exact ⟨⟨rfl, rfl, rfl, rfl⟩, (h.wr r mr).2.2.2.1⟩
  · have := h.ar t m; omega
end
section
variable {P : Program} {w : World} {K : PySem.W.Frag} {mg : Str → Option Value} {base : Heap}
local macro_rules | `(tactic| walk_at "fl.t") => `(tactic| (with_reducible refine g_chainW ?_))
local macro_rules | `(tactic| walk_at "fl.t") => `(tactic| (with_reducible refine g_callS ?_))
local macro_rules | `(tactic| walk_at "fl.t") => `(tactic| (with_reducible refine g_ifE ?_))
local macro_rules | `(tactic| walk_at "fl.w") => `(tactic| repeat walk_at "fl.t")
/-- Glyph(advance, outline, deltas=) -/
theorem mk_GlD {e1 e2 e3 e4 : Addr} {sp : Sp} (h : InI P w K mg base 2 "Glyph" "Glyph.__init__" s_Glyph fl_Glyph (kw_Glyph e1 e2 e3 e4) ps_Glyph sp) :
    MkI P w K mg base 2 "Glyph" 2 ["deltas"] (fun vs zs => pick [0, 1, 2, 3, 4, 5, 7, 6] (vs ++ ([.ref e1, .ref e2, .bl false, .ref e4] ++ zs))) sp :=
  h.make 2 ["deltas"] [("parts", .ref e1), ("anchors", .ref e2), ("mark", .bl false), ("hint", .ref e4)] [0, 1, 2, 3, 4, 5, 7, 6] (by simp) (by simp [kw_Glyph]) fun D doc pm an cdv ct us mv ws h1 h2 h3 => match us, h1, mv, h2, ws, h3 with | [_, _, _], _, [_, _, _, _], _, [_], _ => ⟨_, _, _, _, _, _, rfl, rfl, ⟨_, _, _, _, _, _, rfl, rfl, ⟨_, _, _, _, _, _, rfl, rfl, ⟨_, _, _, _, _, _, rfl, rfl, rfl⟩⟩⟩⟩
def spSF (mg : Str → Option Value) : Sp := fun vs H Q _ => ∃ (S : List Addr) (v : V) (s : Styl), vs = [v] ∧ Al S H ∧ Dq S H v (mdD s) ∧ FntR s ∧ ∀ v' H', Same H H' → Dq S H' v' (foD (cs mg) (fntS s).R) → Q v' H'
theorem ok_law_styled_font (T : Txt K mg) (I : WoK K w mg) : Has P w K mg base 10 "_law_styled_font" ps_law_styled_font (spSF mg) := by
  obtain ⟨e1, e2, e3, e4, e5, e6, e7, n1, n2, n3, n4, n5, n6, n7, cF⟩ := T.c_Font
  obtain ⟨g1', g2', g3', g4', o1, o2, o3, o4, cG⟩ := T.c_Glyph
  have mk_Glyph_2_deltas := mk_GlD (ok_Glyph (P := P) (w := w) (base := base) T cG)
  have mk_Font_2_axes_regions := mk_FoX (font_K43 (P := P) (base := base) T I cF)
  refine has_of T.d_law_styled_font sc_law_styled_font bd_law_styled_font (fun vs H Q E h => ?_) (fun f cdv A outer s H vs Q E hr h => ?_)
  · obtain ⟨S, v, s, rfl, _⟩ := h
    rfl
  · obtain ⟨S, v, st, rfl, hS, hv, hst, q⟩ := h
    have l1 := hst.al
    have l2 := hst.rl
    have l3 := hst.wl
    obtain ⟨M, xs, rfl, nM, rM, hM⟩ := hv.lstE
    obtain ⟨x1, _, rfl, da, hM⟩ := hM.consE
    obtain ⟨x2, _, rfl, dg, hM⟩ := hM.consE
    obtain ⟨x3, _, rfl, dw, hM⟩ := hM.consE
    cases hM.nilE
    obtain ⟨AX, axs, rfl, nAX, rAX, hAX⟩ := id da.lstE
    obtain ⟨RG, rgs, rfl, nRG, rRG, hRG⟩ := id dg.lstE
    obtain ⟨RW, rws, rfl, nRW, rRW, hRW⟩ := id dw.lstE
    refine ⟨_, (pss_cons (ps_setLc (i := 1) (own := [("row", 2)]) rfl sc_law_styled_font.nd rfl rfl (sw_true rfl rfl rfl (by decide +kernel)) (piL (K := K) rfl (pe_ix (ixL (K := K) rfl) (pv 0) pe_int (fun _ _ => rfl))) (blkOk_by (by kernel_rfl)) (fun _ _ _ _ _ => (pg_name (i := 2) sc_law_styled_font.nd rfl (.inl rfl))) (fun _ _ _ _ _ => pts_nil) (fun _ _ _ _ _ => (pe_mk (mg := mg) rfl mk_Glyph_2_deltas (hr.mono (by decide)) (pa_cons (pe_ix (ixL (K := K) rfl) (pv 2) pe_int (fun _ _ => rfl)) (pa_cons (pe_lc (own := [("contour", 3)]) rfl sc_law_styled_font.nd (piL (K := K) rfl (pe_ix (ixL (K := K) rfl) (pv 2) pe_int (fun _ _ => rfl))) (blkOk_by (by kernel_rfl)) (fun _ _ _ _ _ => (pg_name (i := 3) sc_law_styled_font.nd rfl (.inl rfl))) (fun _ _ _ _ _ => pts_nil) (fun _ _ _ _ _ => (pe_callTy (clList (K := K) rfl) (by rfl) T.z_list (by decide +kernel) (pa_cons (pv 3) pa_nil)))) pa_nil)) (pk_cons (pe_callTy (clList (K := K) rfl) (by rfl) T.z_list (by decide +kernel) (pa_cons (pe_ix (ixL (K := K) rfl) (pv 2) pe_int (fun _ _ => rfl)) pa_nil)) pk_nil))))
      (pss_one (ps_ret (pe_mk (mg := mg) rfl mk_Font_2_axes_regions (hr.mono (by decide)) (pa_cons pe_int (pa_cons (pv 1) pa_nil)) (pk_cons (pe_callTy (clList (K := K) rfl) (by rfl) T.z_list (by decide +kernel) (pa_cons (pe_ix (ixL (K := K) rfl) (pv 0) pe_int (fun _ _ => rfl)) pa_nil)) (pk_cons (pe_lc (own := [("region", 4)]) rfl sc_law_styled_font.nd (piL (K := K) rfl (pe_ix (ixL (K := K) rfl) (pv 0) pe_int (fun _ _ => rfl))) (blkOk_by (by kernel_rfl)) (fun _ _ _ _ _ => (pg_name (i := 4) sc_law_styled_font.nd rfl (.inl rfl))) (fun _ _ _ _ _ => pts_nil) (fun _ _ _ _ _ => (pe_callTy (clList (K := K) rfl) (by rfl) T.z_list (by decide +kernel) (pa_cons (pv 4) pa_nil)))) pk_nil)))))), ?_⟩
    clear cF cG
    walk_at "fl.w"
    refine lcL (S := S) (es := st.rw.map rowD) (fun i => some (((st.rw[i]?).map fun r => glD (cs mg) (rowG r).R).getD .none)) hS dw (by rw [List.length_map]; omega) ?_ ?_
    · intro D i x e H2 hD he sm al dx R N hR _
      refine g_name ⟨rfl, ?_⟩
      rw [List.getElem?_map] at he
      cases hg : st.rw[i]? with
      | none => rw [hg] at he; cases he
      | some r =>
        rw [hg] at he
        cases he
        have rr := hst.wr r (List.mem_of_getElem? hg)
        have oin := rr.2.2.1
        have lo := oin.1
        obtain ⟨rp, ys, rfl, nrp, rrp, hY⟩ := dx.lstE
        obtain ⟨y1, _, rfl, dy1, hY⟩ := hY.consE
        obtain ⟨y2, _, rfl, dy2, hY⟩ := hY.consE
        obtain ⟨y3, _, rfl, dy3, hY⟩ := hY.consE
        cases hY.nilE
        cases dy1.intE
        obtain ⟨OU, ous, rfl, nOU, rOU, hOU⟩ := id dy2.lstE
        obtain ⟨DL, dls, rfl, nDL, rDL, hDL⟩ := id dy3.lstE
        walk_at "fl.w"
        refine lcL (S := D :: S) (es := r.2.1.map ctD) (fun j => (r.2.1.map ctD)[j]?) al dy2 (by rw [List.length_map]; omega) ?_ ?_
        · intro D2 j y e2 H3 hD2 he2 sm3 al3 dy R2 N2 hR2 _
          refine g_name ⟨rfl, ?_⟩
          rw [List.getElem?_map] at he2
          cases hc : r.2.1[j]? with
          | none => rw [hc] at he2; cases he2
          | some c =>
            rw [hc] at he2
            cases he2
            obtain ⟨cb, cs', rfl, ncb, rcb, hC⟩ := dy.lstE
            walk_at "fl.w"
            rename_i p hp
            exact hR2 (ctD c) _ _ (by rw [List.getElem?_map, hc]; rfl) (Fl.Same.new hp) (Dq.newL al3 hp hC)
        intro D2 H3 sm3 hD2 dq3
        rw [fm_all (by simp)] at dq3
        have rrp3 := sm3 _ _ rrp
        have rDL3 := sm3 _ _ rDL
        have al3 := al.same sm3
        walk_at "fl.w"
        rename_i p hp
        have s4 : Same H3 (upd H3 p (.lst dls)) := Fl.Same.new hp
        have dd : Dq (D :: S) (upd H3 p (.lst dls)) (.ref p) (ltD (r.2.2.map i4)) := by
          rw [ltD_map]
          exact Dq.newL al3 hp (hDL.same sm3)
        refine g_mk rfl rfl (mk_app (f := fGl) (ws := [.int r.1, .ref D2, .ref g1', .ref g2', .bl false, .ref p, .ref g4']) (D :: S) [.int r.1, ouD r.2.1, .tuple [], .tuple [], .bool false, ltD (r.2.2.map i4), .tuple []] (rowG r).R.F (fun x => rfl) (al3.same s4) (.cons (.inl (.int _)) (.cons (.inl (dq3.same s4)) (.cons (.inr ⟨rfl, _, rfl, o1⟩) (.cons (.inr ⟨rfl, _, rfl, o2⟩) (.cons (.inl (.bl _)) (.cons (.inl dd) (.cons (.inr ⟨rfl, _, rfl, o4⟩) .nil)))))))
          ⟨_, _, _, _, _, (rowG r).R, rfl, GlG.rok (rowG_ok (n := 1) rr), ?_, .e, .e, .lt ?_, .e, rfl⟩ fun xa HD smD da => ?_)
        · rw [← ouD3_pt]
          refine .ou ?_ ?_
          · rw [List.length_map]; omega
          · intro c m
            obtain ⟨c', m', rfl⟩ := List.mem_map.mp m
            rw [List.length_map]
            have := (oin.2 c' m').2.1
            omega
        · rw [List.length_map]
          have := rr.2.2.2.1
          omega
        · exact hR _ _ _ (by rw [hg]; rfl) ((sm3.trans s4).trans smD) da
    intro D H2 sm hD dq
    have dq : Dq S H2 (.ref D) (.list ((fntS st).glyphs.map fun g => glD (cs mg) g.R)) := by
      rw [show (fun i => some (((st.rw[i]?).map fun r => glD (cs mg) (rowG r).R).getD .none)) = some ∘ (fun i => ((st.rw[i]?).map fun r => glD (cs mg) (rowG r).R).getD .none) from rfl, List.filterMap_eq_map, rng_map (by rw [List.length_map])] at dq
      show Dq S H2 (.ref D) (.list ((st.rw.map rowG).map fun g => glD (cs mg) g.R))
      rw [List.map_map]
      exact dq
    have rM2 := sm _ _ rM
    have rAX2 := sm _ _ rAX
    have al2 := hS.same sm
    walk_at "fl.w"
    rename_i p hp
    have s3 : Same H2 (upd H2 p (.lst axs)) := Fl.Same.new hp
    have dxs : Dq S (upd H2 p (.lst axs)) (.ref p) (.list (st.ax.map axD)) := Dq.newL al2 hp (hAX.same sm)
    have al3 := al2.same s3
    refine lcL (S := S) (es := st.rg.map rgD) (fun j => (st.rg.map rgD)[j]?) al3 ((dg.same sm).same s3) (by rw [List.length_map]; omega) ?_ ?_
    · intro D2 j y e2 H3 hD2 he2 sm3 al3 dy R2 N2 hR2 _
      refine g_name ⟨rfl, ?_⟩
      rw [List.getElem?_map] at he2
      cases hc : st.rg[j]? with
      | none => rw [hc] at he2; cases he2
      | some c =>
        rw [hc] at he2
        cases he2
        obtain ⟨cb, cs', rfl, ncb, rcb, hC⟩ := dy.lstE
        walk_at "fl.w"
        rename_i p hp
        exact hR2 (rgD c) _ _ (by rw [List.getElem?_map, hc]; rfl) (Fl.Same.new hp) (Dq.newL al3 hp hC)
    intro D4 H4 sm4 hD4 dq4
    rw [fm_all (by simp)] at dq4
    have al4 := al3.same sm4
    have dq := (dq.same s3).same sm4
    have dxs := dxs.same sm4
    have fok := (fntS_sty hst).ok
    walk_at "fl.w"
    have dre : Dq S H4 (.ref D4) (ouD3 (st.rg.map fun r => r.map i3)) := by
      have e : ouD3 (st.rg.map fun r => r.map i3) = .list (st.rg.map rgD) := by
        unfold ouD3
        rw [List.map_map]
        congr 1
        apply List.map_congr_left
        intro r _
        exact ltD_map i3 r
      rw [e]; exact dq4
    refine g_mk rfl rfl (mk_app (f := fFo (cs mg) VF) (ws := [.int 100, .ref D, .ref e1, .ref e2, .ref e3, .ref p, .ref D4, .ref e6, .ref e7]) S [.int 100, .list ((fntS st).glyphs.map fun g => glD (cs mg) g.R), .tuple [], .tuple [], .tuple [], .list (st.ax.map axD), ouD3 (st.rg.map fun r => r.map i3), .tuple [], .tuple []] ((fntS st).R.F (cs mg)) (fun x => rfl) al4 (.cons (.inl (.int _)) (.cons (.inl dq) (.cons (.inr ⟨rfl, _, rfl, n1⟩) (.cons (.inr ⟨rfl, _, rfl, n2⟩) (.cons (.inr ⟨rfl, _, rfl, n3⟩) (.cons (.inl dxs) (.cons (.inl dre) (.cons (.inr ⟨rfl, _, rfl, n6⟩) (.cons (.inr ⟨rfl, _, rfl, n7⟩) .nil)))))))))
      ⟨_, _, _, _, _, _, _, _, (fntS st).R, rfl, FoG.rok fok, ⟨_, fok, rfl, rfl⟩, ?_, .e, rfl, .e, ?_, ?_, .e, .e, rfl⟩ fun xf H5 sm5 df => ?_)
    · show sqI (.list ((fntS st).glyphs.map fun g => glD (cs mg) g.R)) = some (((fntS st).glyphs.map GlG.R).map (glD (cs mg)))
      rw [List.map_map]
      rfl
    · show Sq2 (.list (st.ax.map axD)) (st.ax.map i3)
      rw [show PyData.list (st.ax.map axD) = ltD (st.ax.map i3) from (ltD_map i3 st.ax).symm]
      exact .lt (by rw [List.length_map]; omega)
    · refine .ou ?_ ?_
      · rw [List.length_map]; omega
      · intro c m
        obtain ⟨c', m', rfl⟩ := List.mem_map.mp m
        rw [List.length_map]
        have := (hst.rr c' m').1
        omega
    · exact q _ _ (((sm.trans s3).trans sm4).trans sm5) df
end

section
variable {P : Program} {w : World} {K : PySem.W.Frag} {mg : Str → Option Value} {base : Heap}
local macro_rules | `(tactic| walk_at "fl.t") => `(tactic| (with_reducible refine g_chainW ?_))
local macro_rules | `(tactic| walk_at "fl.t") => `(tactic| (with_reducible refine g_callS ?_))
local macro_rules | `(tactic| walk_at "fl.t") => `(tactic| (with_reducible refine g_ifE ?_))
local macro_rules | `(tactic| walk_at "fl.w") => `(tactic| repeat walk_at "fl.t")
def spIns (mg : Str → Option Value) : Sp := fun vs H Q _ => ∃ (S : List Addr) (v1 v2 : V) (f : FoG) (pl : List Int), vs = [v1, v2] ∧ Al S H ∧ Dq S H v1 (foD (cs mg) f.R) ∧ Dq S H v2 (.list (pl.map PyData.int)) ∧ Sty f ∧ PlOk f.axes pl ∧
  (instO f pl → ∀ v H', Same H H' → Dq S H' v (foD (cs mg) (inst f pl).R) → Q v H') ∧ (¬ instO f pl → ∀ H', Same H H' → Q .non H')
theorem ok_law_instance (T : Txt K mg) (I : WoK K w mg) : Has P w K mg base 11 "_law_instance" ps_law_instance (spIns mg) := by
  have h_at_place := ok_at_place (P := P) (w := w) (base := base) T I
  have hX_at_place := ok_at_placeX (P := P) (w := w) (base := base) T I
  refine has_of T.d_law_instance sc_law_instance bd_law_instance (fun vs H Q E h => ?_) (fun f cdv A outer s H vs Q E hr h => ?_)
  · obtain ⟨S, v1, v2, f, pl, rfl, _⟩ := h
    rfl
  · obtain ⟨S, v1, v2, fo, pl, rfl, hS, h1, h2, sty, pok, q1, q2⟩ := h
    by_cases ho : instO fo pl
    · refine ⟨_, (pss_one (L2N.ps_try_as (i := 2) rfl rfl sc_law_instance.nd rfl rfl ⟨rfl, by decide, .inl T.mk_OutOfRange.g⟩ takes0N
        (fun W pn xe tk _ => (pss_one (ps_ret (pe_h h_at_place (hr.mono (by decide)) (pa_cons (pv 0) (pa_cons (pv 1) pa_nil))))))
        (fun a oe cls d pn hz hf => (pss_one (ps_ret pe_non))))), ?_⟩
      walk_at "fl.w"
      refine ⟨S, v1, v2, fo, pl, rfl, hS, h1, h2, sty, pok, ho, fun v H' sm hv => ?_⟩
      exact q1 ho v H' sm hv
    · refine ⟨_, (pss_one (L2N.ps_try_as (i := 2) rfl rfl sc_law_instance.nd rfl rfl ⟨rfl, by decide, .inl T.mk_OutOfRange.g⟩ takes0N
        (fun W pn xe tk _ => (pss_one (ps_ret (pe_hXN hX_at_place (hr.mono (by decide)) tk (pa_cons (pv 0) (pa_cons (pv 1) pa_nil))))))
        (fun a oe cls d pn hz hf => (pss_one (ps_ret pe_non))))), ?_⟩
      walk_at "fl.w"
      refine ⟨S, v1, v2, fo, pl, rfl, hS, h1, h2, sty, pok, ho, fun n H' dx sm hdx => wAs_yes T.ms_OutOfRange fun b hb => ?_⟩
      walk_at "fl.w"
      exact q2 ho _ (sm.trans (Fl.Same.new hdx))
end

section
def nrm (ax : List (Int × Int × Int)) : List Int := ax.map fun t => t.2.1
theorem iq0 : iq 0 = 0 := by unfold iq; rfl
theorem shq_n (t : Int × Int × Int) : shq t t.2.1 = 0 := by
  unfold shq
  rw [if_neg (by omega), if_neg (by omega)]
  rfl
theorem shl_n : ∀ ax : List (Int × Int × Int), shl ax (nrm ax) = ax.map fun _ => 0
  | [] => rfl
  | t :: ax => by
    show shq t t.2.1 :: shl ax (nrm ax) = _
    rw [shq_n, shl_n ax]
    rfl
theorem pl_n {ax : List (Int × Int × Int)} (h : ∀ t, t ∈ ax → t.1 ≤ t.2.1 ∧ t.2.1 ≤ t.2.2) : PlOk ax (nrm ax) := ⟨by unfold nrm; rw [List.length_map], fun i t n h1 h2 => by
  unfold nrm at h2
  rw [List.getElem?_map, h1] at h2
  cases h2
  exact h t (List.mem_of_getElem? h1)⟩
/-- a region that is nothing at the normal place -/
def Kill (r : List Tn) : Prop := ∃ t, t ∈ r ∧ 0 ≤ t.1 ∧ 1 ≤ t.2.1
theorem iq_le {a b : Int} (h : a ≤ b) : iq a ≤ iq b := by
  rw [iq_cast, iq_cast]
  exact Rat.intCast_le_intCast.mpr h
theorem tf_0 {t : Tn} (h1 : 0 ≤ t.1) (h2 : 1 ≤ t.2.1) : tf t 0 = 0 := by
  unfold tf
  have hz : ¬ (t.2.1 = 0 ∨ 0 * iq 64 = iq t.2.1) := by
    rw [Rat.zero_mul]
    rintro (h | h)
    · omega
    · have := iq_inj (iq0.trans h)
      omega
  rw [if_neg hz, if_pos]
  · exact iq0
  · left
    rw [Rat.zero_mul]
    have : (0 : Rat) ≤ iq t.1 := by rw [← iq0]; exact iq_le h1
    unfold cq
    split
    · decide
    · split
      · rename_i b
        exact absurd b (Rat.not_lt.mpr this)
      · decide
theorem fa_z : ∀ (l : List (Tn × Rat)) (x : Rat), (x = 0 ∨ ∃ q, q ∈ l ∧ tf q.1 q.2 = 0) → l.foldl (fun r q => r * tf q.1 q.2) x = 0
  | [], x, h => by
    rcases h with h | ⟨q, m, _⟩
    · exact h
    · exact (nomatch m)
  | p :: l, x, h => by
    show l.foldl _ (x * tf p.1 p.2) = 0
    refine fa_z l _ ?_
    rcases h with h | ⟨q, m, e⟩
    · exact .inl (by rw [h, Rat.zero_mul])
    · rcases List.mem_cons.mp m with rfl | m
      · exact .inl (by rw [e, Rat.mul_zero])
      · exact .inr ⟨q, m, e⟩
theorem fa_kill {r : List Tn} {ax : List (Int × Int × Int)} (hl : r.length = ax.length) (h : Kill r) : fa (r.zip (shl ax (nrm ax))) = 0 := by
  obtain ⟨t, m, h1, h2⟩ := h
  refine fa_z _ _ (.inr ⟨(t, 0), ?_, tf_0 h1 h2⟩)
  obtain ⟨i, hi⟩ := List.mem_iff_getElem?.mp m
  have hil := (List.getElem?_eq_some_iff.mp hi).1
  rw [shl_n]
  refine List.mem_of_getElem? (i := i) ?_
  rw [List.getElem?_zip_eq_some]
  exact ⟨hi, by rw [List.getElem?_map, List.getElem?_eq_getElem (by omega)]; rfl⟩
theorem wgt_n {s : Styl} (h : FntR s) (k : ∀ r, r ∈ s.rg → Kill r) : ∀ x, x ∈ wgt (fntS s) (nrm s.ax) → x = 0 := fun x m => by
  obtain ⟨r, mr, rfl⟩ := List.mem_map.mp (show x ∈ s.rg.map fun r => fa (r.zip (shl s.ax (nrm s.ax))) from m)
  exact fa_kill (h.rr r mr).1 (k r mr)
theorem foldl_z {W : List Rat} (hW : ∀ x, x ∈ W → x = 0) : ∀ (ds : List D4) (x : Rat × Rat), x = (0, 0) → ds.foldl (sStep W) x = (0, 0)
  | [], x, h => h
  | d :: ds, x, h => by
    show ds.foldl _ (sStep W x d) = _
    refine foldl_z hW ds _ ?_
    subst h
    unfold sStep
    have e : wAt W d.1 = 0 := by
      unfold wAt
      cases h : W[d.1.toNat]? with
      | none => rfl
      | some x => exact hW x (List.mem_of_getElem? h)
    simp [e, Rat.mul_zero, Rat.add_zero]
theorem mvP_z {W : List Rat} (hW : ∀ x, x ∈ W → x = 0) (ds : List D4) (k : Int) : mvP W ds k = (0, 0) := by
  unfold mvP smP
  rw [foldl_z hW _ _ (by rw [iq0])]
  rfl
theorem mvP_e (W : List Rat) (k : Int) : mvP W [] k = (0, 0) := by
  unfold mvP smP
  show (nr (iq 0), nr (iq 0)) = _
  rw [iq0]
  rfl
theorem chC_z {m : Int → Int × Int} (h : ∀ k, m k = (0, 0)) : ∀ (c : List Pt) (n : Nat), chC m n c = c
  | [], _ => rfl
  | p :: c, n => by
    show (p.1 + (m n).1, p.2.1 + (m n).2, p.2.2) :: chC m (n + 1) c = _
    rw [h, chC_z h c]
    simp
theorem chO_z {m : Int → Int × Int} (h : ∀ k, m k = (0, 0)) : ∀ (o : List (List Pt)) (n : Nat), chO m n o = o
  | [], _ => rfl
  | c :: o, n => by
    show chC m n c :: chO m (n + c.length) o = _
    rw [chC_z h, chO_z h o]
theorem near_prp {o : List (List Pt)} (h : prp o = true) : nearO o = true := by
  unfold prp at h
  rw [Bool.and_eq_true] at h
  refine List.all_eq_true.mpr fun p m => ?_
  obtain ⟨c, mc, mp⟩ := List.mem_flatten.mp m
  have h4 := List.all_eq_true.mp h.2 c mc
  unfold okC at h4
  rw [Bool.and_eq_true] at h4
  exact List.all_eq_true.mp h4.2 p mp
/-- what nothing changes -/
theorem vGl_z {W : List Rat} {g : GlG} (h : ∀ k, mvP W g.deltas k = (0, 0)) : vGl W g = ⟨g.adv, g.outl, [], [], false, [], []⟩ := by
  unfold vGl
  rw [h, chO_z h]
  simp
theorem vGo_z {W : List Rat} {g : GlG} {n m : Nat} (ok : g.Ok n m) (h : ∀ k, mvP W g.deltas k = (0, 0)) : vGo W g := by
  unfold vGo
  rw [vGl_z h]
  exact ⟨ok.av.1, ok.av.2, near_prp ok.ou⟩
def nrmF (s : Styl) : FoG := ⟨100, s.rw.map fun r => ⟨r.1, r.2.1, [], [], false, [], []⟩, [], [], [], [], [], [], []⟩
theorem inst_n {s : Styl} (h : FntR s) (k : ∀ r, r ∈ s.rg → Kill r) : inst (fntS s) (nrm s.ax) = nrmF s := by
  have hw := wgt_n h k
  unfold inst nrmF
  have e : (fntS s).glyphs.map (vGl (wgt (fntS s) (nrm s.ax))) = s.rw.map fun r => ⟨r.1, r.2.1, [], [], false, [], []⟩ := by
    show (s.rw.map rowG).map _ = _
    rw [List.map_map]
    refine List.map_congr_left fun r _ => ?_
    exact vGl_z (g := rowG r) fun k => mvP_z hw _ k
  rw [e]
  rfl
theorem instO_n {s : Styl} (h : FntR s) (k : ∀ r, r ∈ s.rg → Kill r) : instO (fntS s) (nrm s.ax) := fun g m => by
  exact vGo_z ((fntS_sty h).ok.go g m) fun k' => mvP_z (wgt_n h k) _ k'
theorem wgt_bar {f : FoG} (b : Bar f) : wgt f [] = [] := by
  unfold wgt facs
  rw [b.r]
  rfl
theorem inst_e {f : FoG} (b : Bar f) : inst f [] = f := by
  obtain ⟨u, gl, ch, lk, fe, ax, re, fn, pr⟩ := f
  have h1 := b.a
  have h2 := b.r
  have h3 := b.s.ch
  have h4 := b.s.lk
  have h5 := b.s.fe
  have h6 := b.s.fn
  have h7 := b.s.ps
  dsimp only at h1 h2 h3 h4 h5 h6 h7
  subst h1 h2 h3 h4 h5 h6 h7
  unfold inst
  congr 1
  refine (List.map_congr_left (g := id) fun g m => ?_).trans (List.map_id gl)
  have bg := b.g g m
  rw [vGl_z fun k => by rw [bg.d]; exact mvP_e _ k]
  obtain ⟨a, o, p, n, mk, d, hi⟩ := g
  have k1 := bg.s.p
  have k2 := bg.s.a
  have k3 := bg.s.m
  have k4 := bg.s.h
  have k5 := bg.d
  dsimp only at k1 k2 k3 k4 k5
  subst k1 k2 k3 k4 k5
  rfl
theorem instO_e {f : FoG} (b : Bar f) : instO f [] := fun g m => by
  have bg := b.g g m
  exact vGo_z (b.s.ok.go g m) fun k => by rw [bg.d]; exact mvP_e _ k
theorem pl_e {f : FoG} (b : Bar f) : PlOk f.axes [] := ⟨by rw [b.a]; rfl, fun i t n _ h => by simp at h⟩
/-- the axes twice as wide, the place twice as far -/
def wdA (t : Int × Int × Int) : Int × Int × Int := (t.2.1 + 2 * (t.1 - t.2.1), t.2.1, t.2.1 + 2 * (t.2.2 - t.2.1))
def frP (ax : List (Int × Int × Int)) (pl : List Int) : List Int := List.zipWith (fun t n => t.2.1 + 2 * (n - t.2.1)) ax pl
theorem div2 {a b : Int} (h : b ≠ 0) : Rat.divInt (2 * a) (2 * b) = Rat.divInt a b := Rat.divInt_mul_left (by decide)
theorem shq_w {t : Int × Int × Int} {n : Int} : shq (wdA t) (t.2.1 + 2 * (n - t.2.1)) = shq t n := by
  have e1 : (t.2.1 + 2 * (n - t.2.1)) - t.2.1 = 2 * (n - t.2.1) := by omega
  have e2 : (t.2.1 + 2 * (t.2.2 - t.2.1)) - t.2.1 = 2 * (t.2.2 - t.2.1) := by omega
  have e3 : t.2.1 - (t.2.1 + 2 * (t.1 - t.2.1)) = 2 * (t.2.1 - t.1) := by omega
  unfold shq wdA
  dsimp only
  by_cases h1 : n > t.2.1
  · rw [if_pos h1, if_pos (by omega), e1, e2]
    exact Rat.divInt_mul_left (by decide)
  · rw [if_neg h1, if_neg (by omega)]
    by_cases h2 : n < t.2.1
    · rw [if_pos h2, if_pos (by omega), e1, e3]
      exact Rat.divInt_mul_left (by decide)
    · rw [if_neg h2, if_neg (by omega)]
theorem shl_w : ∀ (ax : List (Int × Int × Int)) (pl : List Int), shl (ax.map wdA) (frP ax pl) = shl ax pl
  | [], _ => rfl
  | _ :: _, [] => rfl
  | t :: ax, n :: pl => by
    show shq (wdA t) _ :: shl (ax.map wdA) (frP ax pl) = shq t n :: shl ax pl
    rw [shq_w, shl_w ax pl]
theorem pl_w {ax : List (Int × Int × Int)} {pl : List Int} (h : PlOk ax pl) : PlOk (ax.map wdA) (frP ax pl) := ⟨by unfold frP; rw [List.length_zipWith, List.length_map, h.l]; simp, fun i t n h1 h2 => by
  rw [List.getElem?_map] at h1
  unfold frP at h2
  rw [List.getElem?_zipWith] at h2
  cases ha : ax[i]? with
  | none => rw [ha] at h1; cases h1
  | some t0 =>
    cases hp : pl[i]? with
    | none => rw [ha, hp] at h2; cases h2
    | some n0 =>
      rw [ha] at h1
      rw [ha, hp] at h2
      cases h1
      cases h2
      have := h.r i t0 n0 ha hp
      show t0.2.1 + 2 * (t0.1 - t0.2.1) ≤ t0.2.1 + 2 * (n0 - t0.2.1) ∧ t0.2.1 + 2 * (n0 - t0.2.1) ≤ t0.2.1 + 2 * (t0.2.2 - t0.2.1)
      omega⟩
def wdS (s : Styl) : Styl := ⟨s.ax.map wdA, s.rg, s.rw⟩
theorem wdS_r {s : Styl} (h : StylR s) : FntR (wdS s) := ⟨by show 1 ≤ (s.ax.map wdA).length ∧ (s.ax.map wdA).length ≤ 3; rw [List.length_map]; exact h.al, fun t m => by
  obtain ⟨t0, m0, rfl⟩ := List.mem_map.mp (show t ∈ s.ax.map wdA from m)
  obtain ⟨t1, t2, t3, t4, t5, t6⟩ := h.ar t0 m0
  show -16384 ≤ t0.2.1 + 2 * (t0.1 - t0.2.1) ∧ t0.2.1 + 2 * (t0.1 - t0.2.1) ≤ t0.2.1 ∧ t0.2.1 ≤ t0.2.1 + 2 * (t0.2.2 - t0.2.1) ∧ t0.2.1 + 2 * (t0.2.2 - t0.2.1) ≤ 16384 ∧ t0.2.1 - (t0.2.1 + 2 * (t0.1 - t0.2.1)) ≤ 1000 ∧ t0.2.1 + 2 * (t0.2.2 - t0.2.1) - t0.2.1 ≤ 1000
  omega, h.rl, fun r m => by
    obtain ⟨h1, h2⟩ := h.rr r m
    exact ⟨by show r.length = (s.ax.map wdA).length; rw [List.length_map]; exact h1, h2⟩, h.wl, h.wr⟩
theorem wgt_w {s : Styl} {pl : List Int} : wgt (fntS (wdS s)) (frP s.ax pl) = wgt (fntS s) pl := by
  show facs s.rg (shl (s.ax.map wdA) (frP s.ax pl)) = facs s.rg (shl s.ax pl)
  rw [shl_w]
theorem inst_w {s : Styl} {pl : List Int} : inst (fntS (wdS s)) (frP s.ax pl) = inst (fntS s) pl := by
  unfold inst
  rw [wgt_w]
  rfl
theorem instO_w {s : Styl} {pl : List Int} (h : instO (fntS s) pl) : instO (fntS (wdS s)) (frP s.ax pl) := by
  unfold instO
  rw [wgt_w]
  exact h
end

section
variable {d M AX RG RW : Addr} {ras : List Addr} {H H' : Hp} {s : Styl}
theorem DqA_set {S : List Addr} {v : V} {e : PyData} (k : Dq S H v e) : ∀ {vs : List V} {ds : List PyData} (j : Nat), DqA S H vs ds → DqA S H (vs.set j v) (ds.set j e)
  | _, _, _, .nil => .nil
  | _, _, 0, .cons _ r => .cons k r
  | _, _, j + 1, .cons h r => .cons h (DqA_set k j r)
theorem StylA.fr (A : StylA d H M AX RG RW ras s) (f : Fr [d] H H') : StylA d H' M AX RG RW ras s := by
  have sub : ∀ b, b ∈ [d] → b ∈ ras ++ [d] := fun b m => List.mem_append_right _ m
  exact ⟨⟨f M _ (fun m => A.m.2 (sub _ m)) A.m.1, A.m.2⟩, ⟨f RG _ (fun m => A.g.2 (sub _ m)) A.g.1, A.g.2⟩, A.r.fr f fun b m => m, A.a.fr (f.mono sub), A.w.fr (f.mono sub)⟩
theorem nodup_at {α : Type} : ∀ {l : List α} {i j : Nat} {a : α}, l.Nodup → l[i]? = some a → l[j]? = some a → i = j
  | [], _, _, _, _, h, _ => by simp at h
  | x :: l, 0, 0, _, _, _, _ => rfl
  | x :: l, 0, j + 1, a, h, h1, h2 => by
    have e : x = a := by simpa using h1
    subst e
    exact absurd (List.mem_of_getElem? (by simpa using h2)) (List.nodup_cons.mp h).1
  | x :: l, i + 1, 0, a, h, h1, h2 => by
    have e : x = a := by simpa using h2
    subst e
    exact absurd (List.mem_of_getElem? (by simpa using h1)) (List.nodup_cons.mp h).1
  | x :: l, i + 1, j + 1, a, h, h1, h2 => by
    have := nodup_at (List.nodup_cons.mp h).2 (i := i) (j := j) (a := a) (by simpa using h1) (by simpa using h2)
    omega
theorem StylA.set (A : StylA d H M AX RG RW ras s) {i j : Nat} {ra p : Addr} {r0 : List Tn} {ws : List V} {t : Tn} (hra : ras[i]? = some ra) (hrg : s.rg[i]? = some r0) (hws : H ra = some (.lst ws)) (dws : DqA (ras ++ [d]) H ws (r0.map tnD)) (hp : Dq (ras ++ [d]) H (.ref p) (tnD t)) :
    StylA d (upd H ra (.lst (ws.set j (.ref p)))) M AX RG RW ras ⟨s.ax, s.rg.set i (r0.set j t), s.rw⟩ := by
  have mra : ra ∈ ras ++ [d] := List.mem_append_left _ (List.mem_of_getElem? hra)
  have fu : Fr (ras ++ [d]) H (upd H ra (.lst (ws.set j (.ref p)))) := Fr.upd mra
  refine ⟨⟨fu M _ A.m.2 A.m.1, A.m.2⟩, ⟨fu RG _ A.g.2 A.g.1, A.g.2⟩, ⟨by rw [List.length_set]; exact A.r.l, A.r.n, A.r.s, fun k a r h1 h2 => ?_⟩, A.a.fr fu, A.w.fr fu⟩
  by_cases hk : i = k
  · subst hk
    rw [hra] at h1
    cases h1
    have hil := (List.getElem?_eq_some_iff.mp hrg).1
    rw [List.getElem?_set_self hil] at h2
    cases h2
    refine ⟨_, upd_same, ?_⟩
    rw [List.map_set]
    exact (DqA_set hp j dws).fr fu
  · rw [List.getElem?_set_ne hk] at h2
    obtain ⟨ws', z, dq⟩ := A.r.d k a r h1 h2
    have hne : a ≠ ra := fun e => hk (nodup_at A.r.n hra (by rw [← e]; exact h1))
    exact ⟨ws', by rw [upd_ne hne]; exact z, dq.fr fu⟩
theorem StylA.rgs (A : StylA d H M AX RG RW ras s) : Dq [d] H (.ref RG) (.list (s.rg.map rgD)) := by
  have go : ∀ (l : List Addr) (rg : List (List Tn)), l.length = rg.length → (∀ (i : Nat) a r, l[i]? = some a → rg[i]? = some r → Dq [d] H (.ref a) (rgD r)) → DqA [d] H (l.map V.ref) (rg.map rgD) := by
    intro l
    induction l with
    | nil => intro rg h _; match rg, h with | [], _ => exact .nil
    | cons a l ih =>
      intro rg h k
      match rg, h with
      | r :: rg, h => exact .cons (k 0 a r rfl rfl) (ih rg (by simpa using h) fun i a r h1 h2 => k (i + 1) a r (by simpa using h1) (by simpa using h2))
  refine .lst (fun m => A.g.2 (List.mem_append_right _ m)) A.g.1 (go ras s.rg A.r.l fun i a r h1 h2 => ?_)
  obtain ⟨ws, z, dq⟩ := A.r.d i a r h1 h2
  exact .lst (A.r.s a (List.mem_of_getElem? h1)) z (dq.mono fun b m => List.mem_append_right _ m)
theorem StylA.plain (A : StylA d H M AX RG RW ras s) : Dq [d] H (.ref M) (mdD s) :=
  .lst (fun m => A.m.2 (List.mem_append_right _ m)) A.m.1 (.cons (A.a.mono fun b m => List.mem_append_right _ m) (.cons A.rgs (.cons (A.w.mono fun b m => List.mem_append_right _ m) .nil)))
theorem StylR.set {i j : Nat} {r0 : List Tn} {t : Tn} (h : StylR s) (hrg : s.rg[i]? = some r0) (ht : tentOk t) : StylR ⟨s.ax, s.rg.set i (r0.set j t), s.rw⟩ := by
  obtain ⟨l0, t0⟩ := h.rr r0 (List.mem_of_getElem? hrg)
  refine ⟨h.al, h.ar, by show 1 ≤ (s.rg.set i _).length ∧ (s.rg.set i _).length ≤ 4; rw [List.length_set]; exact h.rl, fun r m => ?_, h.wl, fun r m => by show RowR (s.rg.set i _).length r; rw [List.length_set]; exact h.wr r m⟩
  rcases List.mem_or_eq_of_mem_set (show r ∈ s.rg.set i (r0.set j t) from m) with m | rfl
  · exact h.rr r m
  · refine ⟨by rw [List.length_set]; exact l0, fun t' m' => ?_⟩
    rcases List.mem_or_eq_of_mem_set m' with m' | rfl
    · exact t0 t' m'
    · exact ht
theorem kill_set {i : Nat} {r0 : List Tn} {t : Tn} {j : Nat} {rg : List (List Tn)} (hi : i < rg.length) (hj : j < r0.length) (h1 : 0 ≤ t.1) (h2 : 1 ≤ t.2.1) (k : ∀ (n : Nat) r, n < i → rg[n]? = some r → Kill r) : ∀ (n : Nat) r, n < i + 1 → (rg.set i (r0.set j t))[n]? = some r → Kill r := by
  intro n r hn hr
  by_cases e : i = n
  · subst e
    rw [List.getElem?_set_self hi] at hr
    cases hr
    exact ⟨t, List.mem_of_getElem? (List.getElem?_set_self hj), h1, h2⟩
  · rw [List.getElem?_set_ne e] at hr
    exact k n r (by omega) hr
theorem ix_int {n : Nat} {v : Int} (h0 : 0 ≤ v) (h1 : v < n) : ixN n v = some v.toNat := by
  unfold ixN
  rw [if_pos h0, if_pos h1]
end

section
theorem sh_ou (o : List (List Pt)) : SeqAt.shaped (ouD o) = true := sh_list (n := 2) (fun d m => by
  obtain ⟨c, _, rfl⟩ := List.mem_map.mp m
  exact sh_tu (n := 1) (fun d m => by
    obtain ⟨p, _, rfl⟩ := List.mem_map.mp m
    exact pt_lay p) (by decide)) (by decide)
end
section
variable {P : Program} {w : World} {K : PySem.W.Frag} {mg : Str → Option Value} {base : Heap}
local macro_rules | `(tactic| walk_at "fl.t") => `(tactic| (with_reducible refine g_chainW ?_))
local macro_rules | `(tactic| walk_at "fl.t") => `(tactic| (with_reducible refine g_callS ?_))
local macro_rules | `(tactic| walk_at "fl.t") => `(tactic| (with_reducible refine g_ifE ?_))
local macro_rules | `(tactic| walk_at "fl.w") => `(tactic| repeat walk_at "fl.t")
theorem ok_law (T : Txt K mg) (I : WoK K w mg) {f : Addr} {fd : FuncData} (F : Fun K "law" "law" s_law f fd) : FnOk P w K mg base CX0 14 f fd ps_law (spLaw K) := by
  obtain ⟨e1, e2, e3, e4, e5, e6, e7, n1, n2, n3, n4, n5, n6, n7, cF⟩ := T.c_Font
  obtain ⟨g1', g2', g3', g4', o1, o2, o3, o4, cG⟩ := T.c_Glyph
  have clF := cF.cl
  have naF := cF.na
  have clG := cG.cl
  have naG := cG.na
  have h_law_deck := ok_law_deck (P := P) (w := w) (base := base) T
  have h_law_draw := ok_law_draw (P := P) (w := w) (base := base) T
  have h_law_styled := ok_law_styled (P := P) (w := w) (base := base) T
  have h_law_styled_font := ok_law_styled_font (P := P) (w := w) (base := base) T I
  have h_law_instance := ok_law_instance (P := P) (w := w) (base := base) T I
  have h_at_place := ok_at_place (P := P) (w := w) (base := base) T I
  have h_same_font := ok_same_font (P := P) (w := w) (base := base) T
  have h_law_place := ok_law_place (P := P) (w := w) (base := base) T
  have h_shares := ok_shares (P := P) (w := w) (base := base) T VL0
  refine fnok_of F sc_law (fun vs H Q E h => ?_) (fun f cdv A outer s H vs Q E hr h => ?_)
  · obtain ⟨a, ns, rfl, _⟩ := h
    rfl
  obtain ⟨a, ns, rfl, hS, hlen, q⟩ := h
  refine ⟨_, (pss_cons (ps_set (i := 1) sc_law.nd rfl (.inl rfl) (pe_h h_law_deck (hr.mono (by decide)) (pa_cons (pv 0) pa_nil)))
      (pss_cons (ps_set (i := 2) sc_law.nd rfl (.inl rfl) (pe_h h_law_styled (hr.mono (by decide)) (pa_cons (pv 1) (pa_cons pe_int pa_nil))))
      (pss_cons (ps_for PassesOwn.never rfl (piL (K := K) rfl (pe_ix (ixL (K := K) rfl) (pv 2) pe_int (fun _ _ => rfl))) (pg_name (i := 3) sc_law.nd rfl (.inl rfl))
        (pss_cons (ps_set (i := 4) sc_law.nd rfl (.inl rfl) (pe_op op_add pe_int (pe_h h_law_draw (hr.mono (by decide)) (pa_cons (pv 1) (pa_cons pe_int pa_nil)))))
      (pss_one (ps_asg (pe_tup (pa_cons (pe_h h_law_draw (hr.mono (by decide)) (pa_cons (pv 1) (pa_cons (pe_op op_add (pv 4) pe_int) pa_nil))) (pa_cons (pv 4) (pa_cons pe_int pa_nil)))) (pg_sub (pv 3) (pe_h h_law_draw (hr.mono (by decide)) (pa_cons (pv 1) (pa_cons (pe_callB (clLen (K := K) rfl) (by rfl) T.z_len (by decide +kernel) (pa_cons (pv 3) pa_nil)) pa_nil))) set_list)))))
      (pss_cons (ps_set (i := 5) sc_law.nd rfl (.inl rfl) (pe_h h_law_styled_font (hr.mono (by decide)) (pa_cons (pv 2) pa_nil)))
      (pss_cons (ps_set (i := 6) sc_law.nd rfl (.inl rfl) (pe_h h_law_instance (hr.mono (by decide)) (pa_cons (pv 5) (pa_cons (pe_lc (own := [("axis", 13)]) rfl sc_law.nd (piL (K := K) rfl (pe_ix (ixL (K := K) rfl) (pv 2) pe_int (fun _ _ => rfl))) (blkOk_by (by kernel_rfl)) (fun _ _ _ _ _ => (pg_name (i := 13) sc_law.nd rfl (.inl rfl))) (fun _ _ _ _ _ => pts_nil) (fun _ _ _ _ _ => (pe_ix (ixT (K := K) rfl) (pv 13) pe_int (fun _ _ => rfl)))) pa_nil))))
      (pss_cons (ps_if (pt_cmpR op_isN (pv 6) pe_non (nomark _))
        (pss_one (ps_ret pe_bl))
        pss_nil)
      (pss_cons (ps_for PassesOwn.never rfl (pi_range1 (by rfl) T.z_range (pa_cons (pe_callB (clLen (K := K) rfl) (by rfl) T.z_len (by decide +kernel) (pa_cons (pe_ix (ixL (K := K) rfl) (pv 2) pe_int (fun _ _ => rfl)) pa_nil)) pa_nil)) (pg_name (i := 7) sc_law.nd rfl (.inl rfl))
        (pss_one (ps_if (PW.pt (pw_or (pt_cmpR (opNeD (K := K) rfl hr.units) (peFld (K := K) rfl (pe_ix (ixL (K := K) rfl) (peFld (K := K) rfl (pv 6) rfl) (pv 7) (fun _ _ => rfl)) rfl) (pe_ix (ixL (K := K) rfl) (pe_ix (ixL (K := K) rfl) (pe_ix (ixL (K := K) rfl) (pv 2) pe_int (fun _ _ => rfl)) (pv 7) (fun _ _ => rfl)) pe_int (fun _ _ => rfl)) (nomark _)) (pw_or1 (pt_cmpR op_ne (peFld (K := K) rfl (pe_ix (ixL (K := K) rfl) (peFld (K := K) rfl (pv 6) rfl) (pv 7) (fun _ _ => rfl)) rfl) (pe_ix (ixL (K := K) rfl) (pe_ix (ixL (K := K) rfl) (pe_ix (ixL (K := K) rfl) (pv 2) pe_int (fun _ _ => rfl)) (pv 7) (fun _ _ => rfl)) pe_int (fun _ _ => rfl)) (nomark _)))))
        (pss_one (ps_ret pe_bl))
        pss_nil)))
      (pss_cons (ps_if (pt_not (pt_val (pe_h h_same_font (hr.mono (by decide)) (pa_cons (pe_h h_at_place (hr.mono (by decide)) (pa_cons (pv 6) (pa_cons (pe_lst pa_nil) pa_nil))) (pa_cons (pv 6) pa_nil)))))
        (pss_one (ps_ret pe_bl))
        pss_nil)
      (pss_cons (ps_set (i := 8) sc_law.nd rfl (.inr rfl) (pe_h h_law_place (hr.mono (by decide)) (pa_cons (pv 1) (pa_cons (pe_ix (ixL (K := K) rfl) (pv 2) pe_int (fun _ _ => rfl)) pa_nil))))
      (pss_cons (ps_set (i := 9) sc_law.nd rfl (.inl rfl) (pe_h h_law_instance (hr.mono (by decide)) (pa_cons (pv 5) (pa_cons (pv 8) pa_nil))))
      (pss_cons (ps_if (pt_cmpR op_isN (pv 9) pe_non (nomark _))
        (pss_one (ps_ret pe_bl))
        pss_nil)
      (pss_cons (ps_if (pt_not (pt_val (pe_h h_same_font (hr.mono (by decide)) (pa_cons (pe_h h_at_place (hr.mono (by decide)) (pa_cons (pv 9) (pa_cons (pe_lst pa_nil) pa_nil))) (pa_cons (pv 9) pa_nil)))))
        (pss_one (ps_ret pe_bl))
        pss_nil)
      (pss_cons (ps_setLc (i := 10) (own := [("axis", 13)]) rfl sc_law.nd rfl rfl (sw_true rfl rfl rfl (by decide +kernel)) (piL (K := K) rfl (pe_ix (ixL (K := K) rfl) (pv 2) pe_int (fun _ _ => rfl))) (blkOk_by (by kernel_rfl)) (fun _ _ _ _ _ => (pg_name (i := 13) sc_law.nd rfl (.inl rfl))) (fun _ _ _ _ _ => pts_nil) (fun _ _ _ _ _ => (pe_tup (pa_cons (pe_op op_add (pe_ix (ixT (K := K) rfl) (pv 13) pe_int (fun _ _ => rfl)) (pe_op op_mul pe_int (pe_op op_sub (pe_ix (ixT (K := K) rfl) (pv 13) pe_int (fun _ _ => rfl)) (pe_ix (ixT (K := K) rfl) (pv 13) pe_int (fun _ _ => rfl))))) (pa_cons (pe_ix (ixT (K := K) rfl) (pv 13) pe_int (fun _ _ => rfl)) (pa_cons (pe_op op_add (pe_ix (ixT (K := K) rfl) (pv 13) pe_int (fun _ _ => rfl)) (pe_op op_mul pe_int (pe_op op_sub (pe_ix (ixT (K := K) rfl) (pv 13) pe_int (fun _ _ => rfl)) (pe_ix (ixT (K := K) rfl) (pv 13) pe_int (fun _ _ => rfl))))) pa_nil))))))
      (pss_cons (ps_set (i := 11) sc_law.nd rfl (.inl rfl) (pe_h h_law_styled_font (hr.mono (by decide)) (pa_cons (pe_lst (pa_cons (pv 10) (pa_cons (pe_ix (ixL (K := K) rfl) (pv 2) pe_int (fun _ _ => rfl)) (pa_cons (pe_ix (ixL (K := K) rfl) (pv 2) pe_int (fun _ _ => rfl)) pa_nil)))) pa_nil)))
      (pss_cons (ps_setLc (i := 12) (own := [("k", 7), ("axis", 13)]) rfl sc_law.nd rfl rfl (sw_true rfl rfl rfl (by decide +kernel)) (piEnum (K := K) rfl (by rfl) T.z_enumerate (pa_cons (pe_ix (ixL (K := K) rfl) (pv 2) pe_int (fun _ _ => rfl)) pa_nil)) (blkOk_by (by kernel_rfl)) (fun _ _ _ _ _ => (pgT (n := 2) (K := K) rfl (by rfl) (pgs_cons (pg_name (i := 7) sc_law.nd rfl (.inl rfl)) (pgs_cons (pg_name (i := 13) sc_law.nd rfl (.inl rfl)) pgs_nil)))) (fun _ _ _ _ _ => pts_nil) (fun _ _ _ _ _ => (pe_op op_add (pe_ix (ixT (K := K) rfl) (pv 13) pe_int (fun _ _ => rfl)) (pe_op op_mul pe_int (pe_op op_sub (pe_ix (ixL (K := K) rfl) (pv 8) (pv 7) (fun _ _ => rfl)) (pe_ix (ixT (K := K) rfl) (pv 13) pe_int (fun _ _ => rfl)))))))
      (pss_one (ps_ret (pe_and (pe_cmpR (opEqD (K := K) rfl hr.units) (pe_h h_shares (hr.mono (by decide)) (pa_cons (pv 11) (pa_cons (pv 12) pa_nil))) (pe_h h_shares (hr.mono (by decide)) (pa_cons (pv 5) (pa_cons (pv 8) pa_nil))) (nomark _)) (pe_one (pe_h h_same_font (hr.mono (by decide)) (pa_cons (pe_h h_law_instance (hr.mono (by decide)) (pa_cons (pv 11) (pa_cons (pv 12) pa_nil))) (pa_cons (pv 9) pa_nil)))))))))))))))))))))), ?_⟩
  clear cF cG
  walk_at "fl.w"
  rename_i d sa H1 sm1 hk1
  refine ⟨d, sa, ns, rfl, hk1, fun M AX RG RW ras H2 st fr2 hk2 A2 sr nw => ?_⟩
  have nsa : sa ∉ ras := fun m => by
    have z := hk1.2.1
    rw [nw sa m] at z; cases z
  clear fr2 hk1 sm1 nw
  obtain ⟨hM2, nM⟩ := A2.m
  obtain ⟨hRG2, nRG⟩ := A2.g
  walk_at "fl.w"
  refine forK_l (xs := ras.map V.ref) (fun i σ' H' => ∃ (rg : List (List Tn)) (u3 u4 : Option V), σ' = [some (.ref a), some (.ref d), some (.ref M), u3, u4, none, none, none, none, none, none, none, none, none] ∧ StylA d H' M AX RG RW ras ⟨st.ax, rg, st.rw⟩ ∧ StylR ⟨st.ax, rg, st.rw⟩ ∧
    (∀ (j : Nat) r, j < i → rg[j]? = some r → Kill r) ∧ Dk d sa ns H') ?_ ?_ ?_ ?_
  · exact ⟨st.rg, none, none, rfl, A2, sr, fun j r h _ => absurd h (Nat.not_lt_zero _), hk2⟩
  · intro i σ' H' _ ⟨rg, u3, u4, e, A3, _, _, _⟩
    exact SqL.of A3.g.1
  · intro i x σ' H' hxi ⟨rg, u3, u4, e, A3, sr3, kl, hk3⟩
    subst e
    rw [List.getElem?_map] at hxi
    cases hra : ras[i]? with
    | none => rw [hra] at hxi; cases hxi
    | some ra =>
      rw [hra] at hxi
      cases hxi
      have hil := (List.getElem?_eq_some_iff.mp hra).1
      have hl3 : ras.length = rg.length := A3.r.l
      have hrg : rg[i]? = some rg[i] := List.getElem?_eq_getElem (by omega)
      generalize rg[i] = r0 at hrg
      obtain ⟨ws, hws, dws⟩ := A3.r.d i ra r0 hra hrg
      obtain ⟨lr0, tr0⟩ := sr3.rr r0 (List.mem_of_getElem? hrg)
      have lr0 : r0.length = st.ax.length := lr0
      have lws : ws.length = r0.length := by rw [dws.len, List.length_map]
      have lax := sr3.al
      have lax1 : 1 ≤ st.ax.length := lax.1
      have lax2 : st.ax.length ≤ 3 := lax.2
      have had : ra ≠ d := fun e => A3.r.s ra (List.mem_of_getElem? hra) (by simp [e])
      walk_at "fl.w"
      rename_i v0 G0 v00 v01 k0 oo0 v1 G1 v10 v11 k1 oo1 p hp
      have f1 : Fr [d] H' G1 := (oo0.frS (by simp)).trans (oo1.frS (by simp))
      have hws1 : G1 ra = some (.lst ws) := f1 ra _ (by simpa using had) hws
      have hra1 : (upd G1 p (.tup [V.int v1, V.int (1 + v0), V.int 64])) ra = some (.lst ws) := by
        rw [upd_ne fun e => by rw [← e, hws1] at hp; cases hp]; exact hws1
      have smp : Same G1 (upd G1 p (.tup [V.int v1, V.int (1 + v0), V.int 64])) := Fl.Same.new hp
      have dp : Dq (ras ++ [d]) (upd G1 p (.tup [V.int v1, V.int (1 + v0), V.int 64])) (.ref p) (tnD (v1, 1 + v0, 64)) := by
        have al1 : Al (ras ++ [d]) G1 := (A3.r.fr f1 fun b m => m).al (.cons k1.hd .nil)
        exact tnI (al1.ni hp) upd_same
      have f1p := f1.trans (Fr.same smp)
      have k1p := k1.same smp
      generalize upd G1 p (.tup [V.int v1, V.int (1 + v0), V.int 64]) = G2 at hra1 smp dp f1p k1p ⊢
      refine g_gsubQ ?_
      walk_at "fl.w"
      rename_i v2 G3 v20 v21 k3 oo3
      have f3 : Fr [d] G2 G3 := oo3.frS (by simp)
      have f13 : Fr [d] H' G3 := f1p.trans f3
      have hra3 : G3 ra = some (.lst ws) := f3 ra _ (by simpa using had) hra1
      have hv2 : v2 < (ws.length : Nat) := v21
      refine g_setL hra3 (ix_int v20 hv2) ?_
      refine ⟨rg.set i (r0.set v2.toNat (v1, 1 + v0, 64)), _, _, rfl, ?_, ?_, ?_, ?_⟩
      · exact (A3.fr f13).set hra hrg hra3 (dws.fr (f13.mono fun b m => List.mem_append_right _ m)) (dp.fr (f3.mono fun b m => List.mem_append_right _ m))
      · exact sr3.set hrg ⟨by show -64 ≤ v1; omega, by show v1 ≤ 1 + v0; omega, by show 1 + v0 ≤ 64; omega, by show (64 : Int) ≤ 64; omega, .inr (.inl (by show 0 ≤ v1; omega))⟩
      · exact kill_set (by omega) (by omega) (by show 0 ≤ v1; omega) (by show 1 ≤ 1 + v0; omega) kl
      · exact k3.put had fun e => nsa (e ▸ List.mem_of_getElem? hra)
  intro σ' H3 ⟨rg, u3, u4, e, A3, sr3, kl, hk3⟩
  subst e
  rw [List.length_map] at kl
  have hl3 : ras.length = rg.length := A3.r.l
  generalize hst : (⟨st.ax, rg, st.rw⟩ : Styl) = s at A3 sr3
  have hrgs : s.rg = rg := by rw [← hst]
  have kil : ∀ r, r ∈ s.rg → Kill r := fun r m => by
    rw [hrgs] at m
    obtain ⟨i, hi⟩ := List.mem_iff_getElem?.mp m
    exact kl i r (by have := (List.getElem?_eq_some_iff.mp hi).1; omega) hi
  clear kl hl3 hrgs hst sr A2 hM2 nM hRG2 nRG hk2
  have hM3 := A3.m.1
  have dM := A3.plain
  have dAX : Dq [d] H3 (.ref AX) (.list (s.ax.map axD)) := A3.a.mono fun b m => List.mem_append_right _ m
  have dRG := A3.rgs
  have dRW : Dq [d] H3 (.ref RW) (.list (s.rw.map rowD)) := A3.w.mono fun b m => List.mem_append_right _ m
  have nMd : M ≠ d := fun e => A3.m.2 (by simp [e])
  have nAXd : AX ≠ d := by
    obtain ⟨_, _, e, n, _⟩ := dAX.lstE
    cases e
    exact fun z => n (by simp [z])
  clear A3
  have al3 : Al [d] H3 := .cons hk3.hd .nil
  have fr := sr3.f
  have l1 := fr.al
  have l2 := fr.rl
  have l3 := fr.wl
  walk_at "fl.w"
  refine ⟨[d], .ref M, s, rfl, al3, dM, fr, fun vf H4 sm4 df => ?_⟩
  have hk4 := hk3.same sm4
  have al4 := al3.same sm4
  have hM4 := sm4 _ _ hM3
  have dAX4 := dAX.same sm4
  have dRG4 := dRG.same sm4
  have dRW4 := dRW.same sm4
  clear dM hM3 dAX dRG dRW hk3 al3 sm4
  obtain ⟨_, axs, e, nAX, rAX, hAX⟩ := id dAX4.lstE
  cases e
  walk_at "fl.w"
  refine lcL (S := [d]) (es := s.ax.map axD) (fun i => ((nrm s.ax).map PyData.int)[i]?) al4 dAX4 (by rw [List.length_map]; omega) ?_ ?_
  · intro D i x e H5 hD he sm al dx R N hR _
    refine g_name ⟨rfl, ?_⟩
    rw [List.getElem?_map] at he
    cases ht : s.ax[i]? with
    | none => rw [ht] at he; cases he
    | some t =>
      rw [ht] at he
      cases he
      obtain ⟨pt, rfl, npt, hpt⟩ := i3E dx
      walk_at "fl.w"
      exact hR (.int t.2.1) _ _ (by unfold nrm; rw [List.getElem?_map, List.getElem?_map, ht]; rfl) (L2.Same.refl _) (.int _)
  intro D5 H5 sm5 hD5 dn
  rw [fm_all (by unfold nrm; simp)] at dn
  have al5 := al4.same sm5
  walk_at "fl.w"
  have sty := fntS_sty fr
  refine ⟨[d], vf, .ref D5, fntS s, nrm s.ax, rfl, al5, df.same sm5, dn, sty, pl_n fun t m => by have := fr.ar t m; omega, fun _ vn H6 sm6 hn => ?_, fun h => absurd (instO_n fr kil) h⟩
  rw [inst_n fr kil] at hn
  have s6 := sm5.trans sm6
  have hk6 := hk4.same s6
  have al6 := al4.same s6
  have hM6 := s6 _ _ hM4
  have dAX6 := dAX4.same s6
  have dRG6 := dRG4.same s6
  have dRW6 := dRW4.same s6
  have df6 := df.same s6
  clear hk4 al4 hM4 dAX4 dRG4 dRW4 df s6 sm5 sm6 dn al5 hAX rAX hD5
  obtain ⟨na, ndx, w1, w2, w3, w4, w5, w6, w7, w8, w9, rfl, nna, nA, j1, j2, j3, j4, j5, j6, j7, j8, j9⟩ := id (foE hn)
  walk_at "fl.w"
  refine g_ite (fun h => by cases h) (fun _ => ?_)
  have j2 : Dq [d] H6 w2 (.list ((nrmF s).glyphs.map fun g => glD (cs mg) g.R)) := by
    simp only [FoG.R, List.map_map] at j2
    exact j2
  obtain ⟨gb, gs, rfl, hgb, rgb, hG⟩ := id j2.lstE
  obtain ⟨_, rws, e, nRW, rRW, hRW⟩ := id dRW6.lstE
  cases e
  have lrw : rws.length = s.rw.length := by rw [hRW.len, List.length_map]
  have lgs : gs.length = s.rw.length := by rw [hG.len, List.length_map]; show (s.rw.map _).length = _; rw [List.length_map]
  walk_at "fl.w"
  refine forK_r (fun i σ' H' => (∃ u7, σ' = [some (.ref a), some (.ref d), some (.ref M), u3, u4, some vf, some (.ref na), u7, none, none, none, none, none, none]) ∧ H' = H6) ⟨⟨_, rfl⟩, rfl⟩ ?_ ?_
  · intro i σ' H' hi ⟨⟨u7, e⟩, e2⟩
    subst e e2
    have hi2 : i < s.rw.length := by omega
    have hr : s.rw[i]? = some s.rw[i] := List.getElem?_eq_getElem hi2
    generalize s.rw[i] = r at hr
    have rr := fr.wr r (List.mem_of_getElem? hr)
    obtain ⟨x, hx, dx⟩ := hG.getD (i := i) (d := glD (cs mg) (⟨r.1, r.2.1, [], [], false, [], []⟩ : GlG).R) (by rw [List.getElem?_map]; show ((s.rw.map _)[i]?).map _ = _; rw [List.getElem?_map, hr]; rfl)
    obtain ⟨y, hy, dy⟩ := hRW.getD (i := i) (d := rowD r) (by rw [List.getElem?_map, hr]; rfl)
    have ax : atI gs (i : Int) = some x := atI_nat hx
    have ay : atI rws (i : Int) = some y := atI_nat hy
    obtain ⟨ga, gdx, t1, t2, t3, t4, t5, t6, t7, rfl, gna, gA, m1, m2, m3, m4, m5, m6, m7⟩ := glE dx
    have m1 : Dq [d] H' t1 (.int r.1) := m1
    have m2 : Dq [d] H' t2 (ouD r.2.1) := by rw [← ouD3_pt]; exact m2
    cases m1.intE
    obtain ⟨yp, ys, rfl, nyp, hyp, hY⟩ := dy.lstE
    obtain ⟨y1, _, rfl, dy1, hY⟩ := hY.consE
    obtain ⟨y2, _, rfl, dy2, hY⟩ := hY.consE
    obtain ⟨y3, _, rfl, dy3, hY⟩ := hY.consE
    cases hY.nilE
    cases dy1.intE
    rw [Int.zero_add]
    walk_at "fl.w"
    refine g_neD' m2 dy2 (sh_ou _) (sh_ou _) ?_
    rw [eqv_self (sh_ou r.2.1)]
    refine ⟨_, rfl, ?_⟩
    rw [Bool.not_true, if_neg Bool.false_ne_true]
    walk_at "fl.w"
    first
    | refine g_ite (fun h => absurd rfl h) (fun _ => ?_)
    | refine g_iteN (fun h => absurd rfl h) (fun _ => ?_)
    | trace_state
    walk_at "fl.w"
    exact ⟨⟨_, rfl⟩, rfl⟩
  intro σ' H' ⟨⟨u7, e⟩, e2⟩
  subst e e2
  have brN : Bar (nrmF s) := by
    have := inst_bar sty (instO_n fr kil)
    rw [inst_n fr kil] at this
    exact this
  walk_at "fl.w"
  rename_i p7 hp7
  have s7 : Same H' (upd H' p7 (.lst [])) := Fl.Same.new hp7
  refine ⟨[d], .ref na, .ref p7, nrmF s, [], rfl, al6.same s7, hn.same s7, Dq.newL al6 hp7 .nil, brN.s, pl_e brN, instO_e brN, fun v8 H8 sm8 h8 => ?_⟩
  rw [inst_e brN] at h8
  have s8 := s7.trans sm8
  walk_at "fl.w"
  refine ⟨[d], v8, .ref na, nrmF s, rfl, al6.same s8, h8, hn.same s8, brN, fun H9 sm9 => ?_⟩
  have s9 := s8.trans sm9
  have hk9 := hk6.same s9
  have al9 := al6.same s9
  have hM9 := s9 _ _ hM6
  have dAX9 := dAX6.same s9
  have dRG9 := dRG6.same s9
  have dRW9 := dRW6.same s9
  have df9 := df6.same s9
  clear hk6 al6 hM6 dAX6 dRG6 dRW6 df6 s9 s8 sm9 h8 sm8 s7 hp7 hn brN j1 j2 j3 j4 j5 j6 j7 j8 j9 hG hgb rgb rRW hRW nRW lrw lgs nA nna kil
  walk_at "fl.w"
  refine ⟨d, sa, AX, ns, s.ax, rfl, hk9, dAX9, l1.2, sr3.ar, fun PL H10 pl f10 hk10 dpl lpl rpl => ?_⟩
  have pok : PlOk s.ax pl := ⟨lpl, rpl⟩
  have al10 : Al [d] H10 := .cons hk10.hd .nil
  have hM10 := f10 M _ (by simpa using nMd) hM9
  have dAX10 := dAX9.fr f10
  have dRG10 := dRG9.fr f10
  have dRW10 := dRW9.fr f10
  have df10 := df9.fr f10
  clear hk9 al9 hM9 dAX9 dRG9 dRW9 df9 f10
  walk_at "fl.w"
  refine ⟨[d], vf, .ref PL, fntS s, pl, rfl, al10, df10, dpl, sty, pok, fun ho v11 H11 sm11 h11 => ?_, fun ho H11 sm11 => ?_⟩
  case refine_2 =>
    walk_at "fl.w"
    exact q _
  have brF := inst_bar sty ho
  obtain ⟨na', ndx', z1, z2, z3, z4, z5, z6, z7, z8, z9, rfl, nna', nA', y1, y2, y3, y4, y5, y6, y7, y8, y9⟩ := id (foE h11)
  clear y1 y2 y3 y4 y5 y6 y7 y8 y9 nA'
  have al11 := al10.same sm11
  walk_at "fl.w"
  refine g_ite (fun h => by cases h) (fun _ => ?_)
  walk_at "fl.w"
  rename_i p12 hp12
  have s12 : Same H11 (upd H11 p12 (.lst [])) := Fl.Same.new hp12
  refine ⟨[d], .ref na', .ref p12, inst (fntS s) pl, [], rfl, al11.same s12, h11.same s12, Dq.newL al11 hp12 .nil, brF.s, pl_e brF, instO_e brF, fun v13 H13 sm13 h13 => ?_⟩
  rw [inst_e brF] at h13
  have s13 := s12.trans sm13
  walk_at "fl.w"
  refine ⟨[d], v13, .ref na', inst (fntS s) pl, rfl, al11.same s13, h13, h11.same s13, brF, fun H14 sm14 => ?_⟩
  have s11 := s13.trans sm14
  have s14 := sm11.trans s11
  have al14 := al11.same s11
  have hM14 := s14 _ _ hM10
  have dAX14 := dAX10.same s14
  have dRG14 := dRG10.same s14
  have dRW14 := dRW10.same s14
  have df14 := df10.same s14
  have dpl14 := dpl.same s14
  have h14 := h11.same s11
  clear s11 s14 sm14 s13 sm13 s12 hp12 h13 sm11 h11 al11 al10 hM10 dAX10 dRG10 dRW10 df10 dpl hk10
  obtain ⟨_, axs3, e, nAX3, rAX3, hAX3⟩ := id dAX14.lstE
  cases e
  walk_at "fl.w"
  refine lcL (S := [d]) (es := s.ax.map axD) (fun i => ((s.ax.map wdA).map axD)[i]?) al14 dAX14 (by rw [List.length_map]; omega) ?_ ?_
  · intro D i x e H5 hD he sm al dx R N hR _
    refine g_name ⟨rfl, ?_⟩
    rw [List.getElem?_map] at he
    cases ht : s.ax[i]? with
    | none => rw [ht] at he; cases he
    | some t =>
      rw [ht] at he
      cases he
      obtain ⟨pt, rfl, npt, hpt⟩ := i3E dx
      walk_at "fl.w"
      rename_i p hp
      exact hR (axD (wdA t)) _ _ (by rw [List.getElem?_map, List.getElem?_map, ht]; rfl) (Fl.Same.new hp) (Dq.newT al hp (.cons (.int _) (.cons (.int _) (.cons (.int _) .nil))))
  intro D15 H15 sm15 hD15 dw15
  rw [fm_all (by simp)] at dw15
  have hM15 := sm15 _ _ hM14
  have al15 := al14.same sm15
  walk_at "fl.w"
  rename_i p16 hp16
  have s16 : Same H15 (upd H15 p16 (.lst [.ref D15, .ref RG, .ref RW])) := Fl.Same.new hp16
  have dm16 : Dq [d] (upd H15 p16 (.lst [.ref D15, .ref RG, .ref RW])) (.ref p16) (mdD (wdS s)) := Dq.newL al15 hp16 (.cons dw15 (.cons (dRG14.same sm15) (.cons (dRW14.same sm15) .nil)))
  refine ⟨[d], .ref p16, wdS s, rfl, al15.same s16, dm16, wdS_r sr3, fun vo H17 sm17 do17 => ?_⟩
  have s17 := (sm15.trans s16).trans sm17
  have al17 := al14.same s17
  have hM17 := s17 _ _ hM14
  have dAX17 := dAX14.same s17
  have df17 := df14.same s17
  have dpl17 := dpl14.same s17
  have h17 := h14.same s17
  clear s17 sm17 dm16 s16 hp16 al15 hM15 dw15 hD15 sm15 al14 hM14 dAX14 dRG14 dRW14 df14 dpl14 h14
  have styW := fntS_sty (wdS_r sr3)
  obtain ⟨_, axs2, e, nAX2, rAX2, hAX2⟩ := id dAX17.lstE
  cases e
  obtain ⟨_, pls, e, nPL, rPL, hPL⟩ := id dpl17.lstE
  cases e
  have lax2 : axs2.length = s.ax.length := by rw [hAX2.len, List.length_map]
  walk_at "fl.w"
  refine lcE (S := [d]) (fun i => ((frP s.ax pl).map PyData.int)[i]?) al17 rAX2 (by omega) ?_ ?_
  · intro D i x T2 H18 hD hx sm18 al hT R N hR hN
    obtain ⟨t, ht, hxd⟩ := hAX2.getM hx
    obtain ⟨p, rfl, np, hp⟩ := i3E hxd
    have hil := (List.getElem?_eq_some_iff.mp ht).1
    have hpn : pl[i]? = some pl[i] := List.getElem?_eq_getElem (by omega)
    generalize pl[i] = n at hpn
    obtain ⟨y, hy, dy⟩ := hPL.getD (i := i) (d := .int n) (by rw [List.getElem?_map, hpn]; rfl)
    cases dy.intE
    have ay : atI pls (i : Int) = some (.int n) := atI_nat hy
    have smT : Same H17 (upd H18 T2 (.tup [V.int (i : Nat), V.ref p])) := sm18.trans (Fl.Same.new hT)
    have hp2 := smT _ _ hp
    have rPL2 := smT _ _ rPL
    walk_at "fl.w"
    refine ⟨rfl, ?_⟩
    walk_at "fl.w"
    exact hR (.int (t.2.1 + 2 * (n - t.2.1))) _ _ (by unfold frP; rw [List.getElem?_map, List.getElem?_zipWith, ht, hpn]; rfl) (L2.Same.refl _) (.int _)
  intro D19 H19 sm19 hD19 dfar
  rw [fm_all (by unfold frP; rw [List.length_map, List.length_zipWith]; omega)] at dfar
  have al19 := al17.same sm19
  have do19 := do17.same sm19
  have df19 := df17.same sm19
  have dpl19 := dpl17.same sm19
  have h19 := h17.same sm19
  clear sm19 al17 do17 df17 dpl17 h17 hPL hAX2 rPL rAX2 nPL nAX2 hD19
  have pw := pl_w pok
  walk_at "fl.w"
  refine spD_app [d] [foD (cs mg) (fntS (wdS s)).R, .list ((frP s.ax pl).map PyData.int)] (shsD (s.ax.map wdA) (frP s.ax pl)) al19 (.cons do19 (.cons dfar .nil)) ⟨fntS (wdS s), frP s.ax pl, rfl, styW.ok, pw, rfl⟩ (fun v20 H20 sm20 h20 => ?_)
  walk_at "fl.w"
  refine spD_app [d] [foD (cs mg) (fntS s).R, .list (pl.map PyData.int)] (shsD s.ax pl) (al19.same sm20) (.cons (df19.same sm20) (.cons (dpl19.same sm20) .nil)) ⟨fntS s, pl, rfl, sty.ok, pok, rfl⟩ (fun v21 H21 sm21 h21 => ?_)
  have s21 := sm20.trans sm21
  rw [shs_eq pw.l, shl_w] at h20
  rw [shs_eq pok.l] at h21
  walk_at "fl.w"
  have sh : SeqAt.shaped (.list ((shl s.ax pl).map fqD)) = true := sh_list (n := 1) (fun d m => by
    obtain ⟨x, _, rfl⟩ := List.mem_map.mp m
    unfold fqD
    simp [PyData.canLay0, PyData.canLayAll0, PyData.depth, PyData.depthAll]) (by decide)
  refine g_eqD (h20.same sm21) h21 sh sh ?_
  rw [eqv_self sh]
  walk_at "fl.w"
  refine ⟨[d], vo, .ref D19, fntS (wdS s), frP s.ax pl, rfl, al19.same s21, do19.same s21, dfar.same s21, styW, pw, fun _ v22 H22 sm22 h22 => ?_, fun h => absurd (instO_w ho) h⟩
  rw [inst_w] at h22
  have s22 := s21.trans sm22
  walk_at "fl.w"
  refine ⟨[d], v22, .ref na', inst (fntS s) pl, rfl, al19.same s22, h22, h19.same s22, brF, fun H23 sm23 => ?_⟩
  walk_at "fl.w"
  exact q _
end

section
variable {P : Program} {w : World} {K : PySem.W.Frag} {mg : Str → Option Value} {base : Heap}
end
abbrev spLaw (K : PySem.W.Frag) : Sp := Fl.spLaw K
namespace He2
open He
theorem facts {l : PySem.W.OpenLaw} {w : World} {K : PySem.W.Frag} {h : Heap} {mg : Str → Option Value} {fa : Addr} (X : K.In h) (G : h.Ns mainGlobals mg) (hfa : mg "law" = some (.ref fa)) (c : obsC cks dfs tbs K = valT dfs tbs w) :
    ∃ fd : FuncData, (∀ (s : Shared) (v : Value), BindsTo s fd ⟨[v], []⟩ [("script", v)]) ∧ ∀ base : Heap, K.In base → base.Ns mainGlobals mg → FnOk l.prog w K mg base CX0 14 fa fd ["script"] (spLaw K) := by
  have T : Txt K mg := ⟨free_g X G (saysC_chk c 0 rfl),
    free_g X G (saysC_chk c 1 rfl),
    free_g X G (saysC_chk c 2 rfl),
    free_g X G (saysC_chk c 3 rfl),
    free_g X G (saysC_chk c 4 rfl),
    free_g X G (saysC_chk c 5 rfl),
    free_g X G (saysC_chk c 6 rfl),
    free_g X G (saysC_chk c 7 rfl),
    free_g X G (saysC_chk c 8 rfl),
    free_g X G (saysC_chk c 9 rfl),
    free_g X G (saysC_chk c 10 rfl),
    free_g X G (saysC_chk c 11 rfl),
    int_g X G (saysC_chk c 12 rfl),
    int_g X G (saysC_chk c 13 rfl),
    int_g X G (saysC_chk c 14 rfl),
    int_g X G (saysC_chk c 15 rfl),
    int_g X G (saysC_chk c 16 rfl),
    int_g X G (saysC_chk c 17 rfl),
    int_g X G (saysC_chk c 18 rfl),
    int_g X G (saysC_chk c 19 rfl),
    int_g X G (saysC_chk c 20 rfl),
    blt_g X G (saysC_chk c 21 rfl),
    defIn_of (He.glo_ok X G (saysC_chk c 22 rfl)) (saysC_def c 0 rfl),
    defIn_of (He.glo_ok X G (saysC_chk c 23 rfl)) (saysC_def c 1 rfl),
    defIn_of (He.glo_ok X G (saysC_chk c 24 rfl)) (saysC_def c 2 rfl),
    defIn_of (He.glo_ok X G (saysC_chk c 25 rfl)) (saysC_def c 3 rfl),
    defIn_of (He.glo_ok X G (saysC_chk c 26 rfl)) (saysC_def c 4 rfl),
    defIn_of (He.glo_ok X G (saysC_chk c 27 rfl)) (saysC_def c 5 rfl),
    defIn_of (He.glo_ok X G (saysC_chk c 28 rfl)) (saysC_def c 6 rfl),
    defIn_of (He.glo_ok X G (saysC_chk c 29 rfl)) (saysC_def c 7 rfl),
    defIn_of (He.glo_ok X G (saysC_chk c 30 rfl)) (saysC_def c 8 rfl),
    defIn_of (He.glo_ok X G (saysC_chk c 31 rfl)) (saysC_def c 9 rfl),
    defIn_of (He.glo_ok X G (saysC_chk c 32 rfl)) (saysC_def c 10 rfl),
    defIn_of (He.glo_ok X G (saysC_chk c 33 rfl)) (saysC_def c 11 rfl),
    defIn_of (He.glo_ok X G (saysC_chk c 34 rfl)) (saysC_def c 12 rfl),
    defIn_of (He.glo_ok X G (saysC_chk c 35 rfl)) (saysC_def c 13 rfl),
    defIn_of (He.glo_ok X G (saysC_chk c 36 rfl)) (saysC_def c 14 rfl),
    defIn_of (He.glo_ok X G (saysC_chk c 37 rfl)) (saysC_def c 15 rfl),
    defIn_of (He.glo_ok X G (saysC_chk c 38 rfl)) (saysC_def c 16 rfl),
    defIn_of (He.glo_ok X G (saysC_chk c 39 rfl)) (saysC_def c 17 rfl),
    defIn_of (He.glo_ok X G (saysC_chk c 40 rfl)) (saysC_def c 18 rfl),
    defIn_of (He.glo_ok X G (saysC_chk c 41 rfl)) (saysC_def c 19 rfl),
    defIn_of (He.glo_ok X G (saysC_chk c 42 rfl)) (saysC_def c 20 rfl),
    defIn_of (He.glo_ok X G (saysC_chk c 43 rfl)) (saysC_def c 21 rfl),
    defIn_of (He.glo_ok X G (saysC_chk c 44 rfl)) (saysC_def c 22 rfl),
    defIn_of (He.glo_ok X G (saysC_chk c 45 rfl)) (saysC_def c 23 rfl),
    defIn_of (He.glo_ok X G (saysC_chk c 46 rfl)) (saysC_def c 24 rfl),
    defIn_of (He.glo_ok X G (saysC_chk c 47 rfl)) (saysC_def c 25 rfl),
    defIn_of (He.glo_ok X G (saysC_chk c 48 rfl)) (saysC_def c 26 rfl),
    defIn_of (He.glo_ok X G (saysC_chk c 49 rfl)) (saysC_def c 27 rfl),
    defIn_of (He.glo_ok X G (saysC_chk c 50 rfl)) (saysC_def c 28 rfl),
    defIn_of (He.glo_ok X G (saysC_chk c 51 rfl)) (saysC_def c 29 rfl),
    defIn_of (He.glo_ok X G (saysC_chk c 52 rfl)) (saysC_def c 30 rfl),
    defIn_of (He.glo_ok X G (saysC_chk c 53 rfl)) (saysC_def c 31 rfl),
    defIn_of (He.glo_ok X G (saysC_chk c 54 rfl)) (saysC_def c 32 rfl),
    defIn_of (He.glo_ok X G (saysC_chk c 55 rfl)) (saysC_def c 33 rfl),
    defInD_of (He.glo_ok X G (saysC_chk c 56 rfl)) (saysC_def c 34 rfl),
    defIn_of (He.glo_ok X G (saysC_chk c 57 rfl)) (saysC_def c 35 rfl),
    defIn_of (He.glo_ok X G (saysC_chk c 58 rfl)) (saysC_def c 36 rfl),
    defIn_of (He.glo_ok X G (saysC_chk c 59 rfl)) (saysC_def c 37 rfl),
    defIn_of (He.glo_ok X G (saysC_chk c 60 rfl)) (saysC_def c 38 rfl),
    defIn_of (He.glo_ok X G (saysC_chk c 61 rfl)) (saysC_def c 39 rfl),
    defIn_of (He.glo_ok X G (saysC_chk c 62 rfl)) (saysC_def c 40 rfl),
    defIn_of (He.glo_ok X G (saysC_chk c 63 rfl)) (saysC_def c 41 rfl),
    defIn_of (He.glo_ok X G (saysC_chk c 64 rfl)) (saysC_def c 42 rfl),
    defIn_of (He.glo_ok X G (saysC_chk c 65 rfl)) (saysC_def c 43 rfl),
    defIn_of (He.glo_ok X G (saysC_chk c 66 rfl)) (saysC_def c 44 rfl),
    defIn_of (He.glo_ok X G (saysC_chk c 67 rfl)) (saysC_def c 45 rfl),
    defIn_of (He.glo_ok X G (saysC_chk c 68 rfl)) (saysC_def c 46 rfl),
    defIn_of (He.glo_ok X G (saysC_chk c 69 rfl)) (saysC_def c 47 rfl),
    defIn_of (He.glo_ok X G (saysC_chk c 70 rfl)) (saysC_def c 48 rfl),
    defIn_of (He.glo_ok X G (saysC_chk c 71 rfl)) (saysC_def c 49 rfl),
    defIn_of (He.glo_ok X G (saysC_chk c 72 rfl)) (saysC_def c 50 rfl),
    defIn_of (He.glo_ok X G (saysC_chk c 73 rfl)) (saysC_def c 51 rfl),
    defIn_of (He.glo_ok X G (saysC_chk c 74 rfl)) (saysC_def c 52 rfl),
    defIn_of (He.glo_ok X G (saysC_chk c 75 rfl)) (saysC_def c 53 rfl),
    defIn_of (He.glo_ok X G (saysC_chk c 76 rfl)) (saysC_def c 54 rfl),
    defIn_of (He.glo_ok X G (saysC_chk c 77 rfl)) (saysC_def c 55 rfl),
    defIn_of (He.glo_ok X G (saysC_chk c 78 rfl)) (saysC_def c 56 rfl),
    defIn_of (He.glo_ok X G (saysC_chk c 79 rfl)) (saysC_def c 57 rfl),
    defIn_of (He.glo_ok X G (saysC_chk c 80 rfl)) (saysC_def c 58 rfl),
    defIn_of (He.glo_ok X G (saysC_chk c 81 rfl)) (saysC_def c 59 rfl),
    defIn_of (He.glo_ok X G (saysC_chk c 82 rfl)) (saysC_def c 60 rfl),
    defIn_of (He.glo_ok X G (saysC_chk c 83 rfl)) (saysC_def c 61 rfl),
    defIn_of (He.glo_ok X G (saysC_chk c 84 rfl)) (saysC_def c 62 rfl),
    defIn_of (He.glo_ok X G (saysC_chk c 85 rfl)) (saysC_def c 63 rfl),
    defIn_of (He.glo_ok X G (saysC_chk c 86 rfl)) (saysC_def c 64 rfl),
    defIn_of (He.glo_ok X G (saysC_chk c 87 rfl)) (saysC_def c 65 rfl),
    glo_g X G (saysC_chk c 88 rfl),
    base_ok X G (saysC_chk c 88 rfl) (saysC_chk c 89 rfl),
    clsN_ok X G (saysC_chk c 90 rfl) (saysC_chk c 91 rfl) (saysC_chk c 92 rfl) (saysC_chk c 93 rfl) (saysC_def c 66 rfl),
    exm_a X G (saysC_chk c 90 rfl) (saysC_chk c 88 rfl) (saysC_chk c 94 rfl),
    clsN_ok X G (saysC_chk c 95 rfl) (saysC_chk c 96 rfl) (saysC_chk c 97 rfl) (saysC_chk c 98 rfl) (saysC_def c 67 rfl),
    exm_a X G (saysC_chk c 95 rfl) (saysC_chk c 88 rfl) (saysC_chk c 99 rfl),
    clsN1_ok X G (saysC_chk c 100 rfl) (saysC_chk c 101 rfl) (saysC_chk c 102 rfl) (saysC_chk c 103 rfl) (saysC_def c 68 rfl),
    exm_a X G (saysC_chk c 100 rfl) (saysC_chk c 100 rfl) (saysC_chk c 104 rfl),
    ⟨kwAt "Glyph" "parts" K, kwAt "Glyph" "anchors" K, kwAt "Glyph" "deltas" K, kwAt "Glyph" "hint" K, em_ok (saysC_chk c 107 rfl), em_ok (saysC_chk c 108 rfl), em_ok (saysC_chk c 109 rfl), em_ok (saysC_chk c 110 rfl), clsI_ok X G (saysC_chk c 105 rfl) (saysC_chk c 106 rfl) (saysC_def c 69 rfl)⟩,
    ⟨kwAt "Rule" "back" K, kwAt "Rule" "ahead" K, kwAt "Rule" "out" K, kwAt "Rule" "calls" K, em_ok (saysC_chk c 113 rfl), em_ok (saysC_chk c 114 rfl), em_ok (saysC_chk c 115 rfl), em_ok (saysC_chk c 116 rfl), clsI_ok X G (saysC_chk c 111 rfl) (saysC_chk c 112 rfl) (saysC_def c 70 rfl)⟩,
    clsI_ok X G (saysC_chk c 117 rfl) (saysC_chk c 118 rfl) (saysC_def c 71 rfl),
    ⟨kwAt "Font" "chars" K, kwAt "Font" "lookups" K, kwAt "Font" "features" K, kwAt "Font" "axes" K, kwAt "Font" "regions" K, kwAt "Font" "functions" K, kwAt "Font" "presets" K, em_ok (saysC_chk c 121 rfl), em_ok (saysC_chk c 122 rfl), em_ok (saysC_chk c 123 rfl), em_ok (saysC_chk c 124 rfl), em_ok (saysC_chk c 125 rfl), em_ok (saysC_chk c 126 rfl), em_ok (saysC_chk c 127 rfl), clsI_ok X G (saysC_chk c 119 rfl) (saysC_chk c 120 rfl) (saysC_def c 72 rfl)⟩,
    glo_g X G (saysC_chk c 128 rfl),
    fun H => tup_a X G (saysC_chk c 128 rfl) (saysC_chk c 129 rfl) H,
    glo_g X G (saysC_chk c 130 rfl),
    fun H => tup_a X G (saysC_chk c 130 rfl) (saysC_chk c 131 rfl) H,
    glo_g X G (saysC_chk c 132 rfl),
    fun H => tup_a X G (saysC_chk c 132 rfl) (saysC_chk c 133 rfl) H⟩
  have I : WoK K w mg := ⟨glo_g X G (saysC_chk c 177 rfl), (by rw [glo_a X G (saysC_chk c 177 rfl)]; exact saysC_tab c 0 rfl), (by rw [glo_a X G (saysC_chk c 177 rfl)]; exact (List.forall_mem_cons.mpr ⟨(by obtain ⟨t, e, hs⟩ := ent_ok (saysC_chk c 134 rfl); exact ⟨_, e, fun _ h => by subst h; exact ⟨t, rfl, hs⟩⟩), (List.forall_mem_cons.mpr ⟨(by obtain ⟨t, e, hs⟩ := ent_ok (saysC_chk c 135 rfl); exact ⟨_, e, fun _ h => by subst h; exact ⟨t, rfl, hs⟩⟩), (List.forall_mem_cons.mpr ⟨⟨_, He.eqO_ok (saysC_chk c 136 rfl), fun _ h => by subst h; rfl⟩, (List.forall_mem_cons.mpr ⟨(by obtain ⟨t, e, hs⟩ := ent_ok (saysC_chk c 137 rfl); exact ⟨_, e, fun _ h => by subst h; exact ⟨t, rfl, hs⟩⟩), (List.forall_mem_cons.mpr ⟨(by obtain ⟨t, e, hs⟩ := ent_ok (saysC_chk c 138 rfl); exact ⟨_, e, fun _ h => by subst h; exact ⟨t, rfl, hs⟩⟩), (List.forall_mem_cons.mpr ⟨⟨_, He.eqO_ok (saysC_chk c 139 rfl), fun _ h => by subst h; rfl⟩, (List.forall_mem_cons.mpr ⟨⟨_, He.eqO_ok (saysC_chk c 140 rfl), fun _ h => by subst h; rfl⟩, (List.forall_mem_cons.mpr ⟨(by obtain ⟨t, e, hs⟩ := ent_ok (saysC_chk c 141 rfl); exact ⟨_, e, fun _ h => by subst h; exact ⟨t, rfl, hs⟩⟩), (List.forall_mem_cons.mpr ⟨(by obtain ⟨t, e, hs⟩ := ent_ok (saysC_chk c 142 rfl); exact ⟨_, e, fun _ h => by subst h; exact ⟨t, rfl, hs⟩⟩), (List.forall_mem_cons.mpr ⟨(by obtain ⟨t, e, hs⟩ := ent_ok (saysC_chk c 143 rfl); exact ⟨_, e, fun _ h => by subst h; exact ⟨t, rfl, hs⟩⟩), (List.forall_mem_cons.mpr ⟨(by obtain ⟨t, e, hs⟩ := ent_ok (saysC_chk c 144 rfl); exact ⟨_, e, fun _ h => by subst h; exact ⟨t, rfl, hs⟩⟩), (List.forall_mem_cons.mpr ⟨(by obtain ⟨t, e, hs⟩ := ent_ok (saysC_chk c 145 rfl); exact ⟨_, e, fun _ h => by subst h; exact ⟨t, rfl, hs⟩⟩), (List.forall_mem_cons.mpr ⟨(by obtain ⟨t, e, hs⟩ := ent_ok (saysC_chk c 146 rfl); exact ⟨_, e, fun _ h => by subst h; exact ⟨t, rfl, hs⟩⟩), (List.forall_mem_cons.mpr ⟨(by obtain ⟨t, e, hs⟩ := ent_ok (saysC_chk c 147 rfl); exact ⟨_, e, fun _ h => by subst h; exact ⟨t, rfl, hs⟩⟩), (List.forall_mem_cons.mpr ⟨(by obtain ⟨t, e, hs⟩ := ent_ok (saysC_chk c 148 rfl); exact ⟨_, e, fun _ h => by subst h; exact ⟨t, rfl, hs⟩⟩), (List.forall_mem_cons.mpr ⟨(by obtain ⟨t, e, hs⟩ := ent_ok (saysC_chk c 149 rfl); exact ⟨_, e, fun _ h => by subst h; exact ⟨t, rfl, hs⟩⟩), (List.forall_mem_cons.mpr ⟨(by obtain ⟨t, e, hs⟩ := ent_ok (saysC_chk c 150 rfl); exact ⟨_, e, fun _ h => by subst h; exact ⟨t, rfl, hs⟩⟩), (List.forall_mem_cons.mpr ⟨(by obtain ⟨t, e, hs⟩ := ent_ok (saysC_chk c 151 rfl); exact ⟨_, e, fun _ h => by subst h; exact ⟨t, rfl, hs⟩⟩), (List.forall_mem_cons.mpr ⟨(by obtain ⟨t, e, hs⟩ := ent_ok (saysC_chk c 152 rfl); exact ⟨_, e, fun _ h => by subst h; exact ⟨t, rfl, hs⟩⟩), (List.forall_mem_cons.mpr ⟨(by obtain ⟨t, e, hs⟩ := ent_ok (saysC_chk c 153 rfl); exact ⟨_, e, fun _ h => by subst h; exact ⟨t, rfl, hs⟩⟩), (List.forall_mem_cons.mpr ⟨(by obtain ⟨t, e, hs⟩ := ent_ok (saysC_chk c 154 rfl); exact ⟨_, e, fun _ h => by subst h; exact ⟨t, rfl, hs⟩⟩), (List.forall_mem_cons.mpr ⟨(by obtain ⟨t, e, hs⟩ := ent_ok (saysC_chk c 155 rfl); exact ⟨_, e, fun _ h => by subst h; exact ⟨t, rfl, hs⟩⟩), (List.forall_mem_cons.mpr ⟨(by obtain ⟨t, e, hs⟩ := ent_ok (saysC_chk c 156 rfl); exact ⟨_, e, fun _ h => by subst h; exact ⟨t, rfl, hs⟩⟩), (List.forall_mem_cons.mpr ⟨(by obtain ⟨t, e, hs⟩ := ent_ok (saysC_chk c 157 rfl); exact ⟨_, e, fun _ h => by subst h; exact ⟨t, rfl, hs⟩⟩), (List.forall_mem_cons.mpr ⟨(by obtain ⟨t, e, hs⟩ := ent_ok (saysC_chk c 158 rfl); exact ⟨_, e, fun _ h => by subst h; exact ⟨t, rfl, hs⟩⟩), (List.forall_mem_cons.mpr ⟨(by obtain ⟨t, e, hs⟩ := ent_ok (saysC_chk c 159 rfl); exact ⟨_, e, fun _ h => by subst h; exact ⟨t, rfl, hs⟩⟩), (List.forall_mem_cons.mpr ⟨(by obtain ⟨t, e, hs⟩ := ent_ok (saysC_chk c 160 rfl); exact ⟨_, e, fun _ h => by subst h; exact ⟨t, rfl, hs⟩⟩), (List.forall_mem_cons.mpr ⟨(by obtain ⟨t, e, hs⟩ := ent_ok (saysC_chk c 161 rfl); exact ⟨_, e, fun _ h => by subst h; exact ⟨t, rfl, hs⟩⟩), (List.forall_mem_cons.mpr ⟨(by obtain ⟨t, e, hs⟩ := ent_ok (saysC_chk c 162 rfl); exact ⟨_, e, fun _ h => by subst h; exact ⟨t, rfl, hs⟩⟩), (List.forall_mem_cons.mpr ⟨(by obtain ⟨t, e, hs⟩ := ent_ok (saysC_chk c 163 rfl); exact ⟨_, e, fun _ h => by subst h; exact ⟨t, rfl, hs⟩⟩), (List.forall_mem_cons.mpr ⟨(by obtain ⟨t, e, hs⟩ := ent_ok (saysC_chk c 164 rfl); exact ⟨_, e, fun _ h => by subst h; exact ⟨t, rfl, hs⟩⟩), (List.forall_mem_cons.mpr ⟨(by obtain ⟨t, e, hs⟩ := ent_ok (saysC_chk c 165 rfl); exact ⟨_, e, fun _ h => by subst h; exact ⟨t, rfl, hs⟩⟩), (List.forall_mem_cons.mpr ⟨(by obtain ⟨t, e, hs⟩ := ent_ok (saysC_chk c 166 rfl); exact ⟨_, e, fun _ h => by subst h; exact ⟨t, rfl, hs⟩⟩), (List.forall_mem_cons.mpr ⟨(by obtain ⟨t, e, hs⟩ := ent_ok (saysC_chk c 167 rfl); exact ⟨_, e, fun _ h => by subst h; exact ⟨t, rfl, hs⟩⟩), (List.forall_mem_cons.mpr ⟨(by obtain ⟨t, e, hs⟩ := ent_ok (saysC_chk c 168 rfl); exact ⟨_, e, fun _ h => by subst h; exact ⟨t, rfl, hs⟩⟩), (List.forall_mem_cons.mpr ⟨(by obtain ⟨t, e, hs⟩ := ent_ok (saysC_chk c 169 rfl); exact ⟨_, e, fun _ h => by subst h; exact ⟨t, rfl, hs⟩⟩), (List.forall_mem_cons.mpr ⟨(by obtain ⟨t, e, hs⟩ := ent_ok (saysC_chk c 170 rfl); exact ⟨_, e, fun _ h => by subst h; exact ⟨t, rfl, hs⟩⟩), (List.forall_mem_cons.mpr ⟨(by obtain ⟨t, e, hs⟩ := ent_ok (saysC_chk c 171 rfl); exact ⟨_, e, fun _ h => by subst h; exact ⟨t, rfl, hs⟩⟩), (List.forall_mem_cons.mpr ⟨(by obtain ⟨t, e, hs⟩ := ent_ok (saysC_chk c 172 rfl); exact ⟨_, e, fun _ h => by subst h; exact ⟨t, rfl, hs⟩⟩), (List.forall_mem_cons.mpr ⟨(by obtain ⟨t, e, hs⟩ := ent_ok (saysC_chk c 173 rfl); exact ⟨_, e, fun _ h => by subst h; exact ⟨t, rfl, hs⟩⟩), (List.forall_mem_cons.mpr ⟨(by obtain ⟨t, e, hs⟩ := ent_ok (saysC_chk c 174 rfl); exact ⟨_, e, fun _ h => by subst h; exact ⟨t, rfl, hs⟩⟩), (List.forall_mem_cons.mpr ⟨(by obtain ⟨t, e, hs⟩ := ent_ok (saysC_chk c 175 rfl); exact ⟨_, e, fun _ h => by subst h; exact ⟨t, rfl, hs⟩⟩), (List.forall_mem_cons.mpr ⟨⟨_, He.eqO_ok (saysC_chk c 176 rfl), fun _ h => by subst h; rfl⟩, (List.forall_mem_nil _)⟩)⟩)⟩)⟩)⟩)⟩)⟩)⟩)⟩)⟩)⟩)⟩)⟩)⟩)⟩)⟩)⟩)⟩)⟩)⟩)⟩)⟩)⟩)⟩)⟩)⟩)⟩)⟩)⟩)⟩)⟩)⟩)⟩)⟩)⟩)⟩)⟩)⟩)⟩)⟩)⟩)⟩)⟩))⟩
  obtain ⟨fd, F⟩ := (saysC_def c 33 rfl)
  have e := hfa.symm.trans (He.glo_ok X G (saysC_chk c 55 rfl))
  cases e
  have b := FunD.bindsA (ps := ["script"]) F fun _ _ _ _ _ _ us hl => match us, hl with | [_], _ => rfl
  exact ⟨fd, fun s v => b s [v] rfl, fun base _ _ => ok_law T I (fun_of F)⟩
end He2
end K43
open PySem PySem.W PyProof.Rows
set_option maxHeartbeats 0 in
theorem PySem.Challenge.cw_fleuron_k43_whole_instances_holds : PySem.Challenge.rw_fleuron_k43_whole_instances.Holds := by
  w_on; o_law
  refine HandSHeadRun.head_imp (r := OpenLaw.row PySem.Challenge.rw_fleuron_k43_whole_instances) (q := K43.He2.qv) (H := Fl.hookC K43.He2.pls K43.He2.cks K43.He2.dfs K43.He2.tbs) (ob := Fl.obC K43.He2.pls K43.He2.cks K43.He2.dfs K43.He2.tbs) (M := 20000) (loose := K43.He2.loo) (d := HandSHeadRun.topDef (OpenLaw.row PySem.Challenge.rw_fleuron_k43_whole_instances).prog 111) (kwd := []) Fl.obC_eq
    K43.He2.run (by kernel_rfl) (by kernel_rfl) (by kernel_rfl) (by rfl) (by first | assumption | decide +kernel) (by decide +kernel) ⟨rfl, rfl, rfl, rfl, rfl, by decide +kernel⟩ ?hw ?hc
  case hw => w_witness2
  case hc =>
    refine L2.walk_ofE (l := PySem.Challenge.rw_fleuron_k43_whole_instances) (n := 63) (k := 14) (x := "script") (CX := L2.CX0) rfl (by decide) (by kernel_rfl) ⟨rfl, by decide, by decide⟩ ?F (fun _ _ _ _ z => z)
    intro w mg fa h Y G hmg0
    obtain ⟨K, KX, c⟩ := Y
    have hmg : mg ("law" : PySem.Str) = some (.ref fa) := by
      have e : (HandSHeadRun.topDef (OpenLaw.row PySem.Challenge.rw_fleuron_k43_whole_instances).prog 111).name = ("law" : PySem.Str) := by kernel_rfl
      rw [← e]
      exact hmg0
    obtain ⟨fd, hb, hF⟩ := K43.He2.facts (l := PySem.Challenge.rw_fleuron_k43_whole_instances) (w := w) KX G hmg c
    exact ⟨K, fd, K43.spLaw K, KX, hb, fun H a ns hl _ hS => ⟨a, ns, rfl, hS, hl, fun _ => rfl⟩, hF⟩

