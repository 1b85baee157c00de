import PyProof.Rows.All
import Wide.All
import OpenK.AllK
import Wide.FinOn
import HandS.ForMost
import HandS.Wide
import HandS.IsInst
import HandS.Gcd
import HandS.Defaults
import HandS.Comp
import HandS.Zip
import HandS.Iter
import HandS.Style
import PyProof.ReprRoads
import PyProof.ReprLen
import HandS.Rev
import HandS.ForExc
import HandS.ExcInit
import HandS.ExcIs
import HandS.TryMany
import HandS.MakeKwOnly
import HandS.Flow
import HandS.More
import HandS.Dict
import HandS.FStr
import HandS.ExcField
import HandS.TryOnly
import HandS.Walk
import HandS.TupSets
import HandS.Flt
import HandS.ExcCtx
import HandS.HotCalls
import HandS.DictComp
import HandS.WordsDict
import PySem.Challenge.RW_fleuron_k40_places_and_shares
set_option Elab.async false
set_option linter.all false
set_option maxRecDepth 100000
set_option maxHeartbeats 4000000
namespace Fl
open PySem PySem.Spec PyProof.Rows L2
structure DefIn (K : PySem.W.Frag) (mg : Str → Option Value) (x : Str) (st : Stmt) : Prop where
  ex : ∃ (f : Addr) (fd : FuncData), Fun K x x st f fd ∧ mg x = some (.ref f)
structure Has (P : Program) (w : World) (K : PySem.W.Frag) (mg : Str → Option Value) (base : Heap) (k : Nat) (x : Str) (ps : List Str) (sp : Sp) : Prop where
  ex : ∃ (f : Addr) (fd : FuncData), FnOk P w K mg base CX0 k f fd ps sp ∧ mg x = some (.ref f) ∧ PySem.W.keepIn K (.ref f) = true ∧ Binds K fd ps []
section
variable {P : Program} {w : World} {K : PySem.W.Frag} {mg : Str → Option Value} {base : Heap}
theorem Has.mono {j k : Nat} {x : Str} {ps : List Str} {sp : Sp} (h : Has P w K mg base j x ps sp) (e : j ≤ k) : Has P w K mg base k x ps sp := by
  obtain ⟨f, fd, a, b, c, d⟩ := h.ex
  exact ⟨f, fd, a.mono e, b, c, d⟩
/-- the context of a def's body -/
abbrev bx (P : Program) (w : World) (K : PySem.W.Frag) (mg : Str → Option Value) (base : Heap) (N : List Str) (x : Str) (st : Stmt) (f : Addr) (cdv : Value) (A : Around) (outer : List Env) (s : Shared) (H : Hp) (E : XK) : Cx :=
  (cxOf CX0 P w K mg base N x (defScope st) f cdv A outer s H E).nox
theorem fnok_of {x : Str} {st : Stmt} {N ps : List Str} {k : Nat} {sp : Sp} {f : Addr} {fd : FuncData} (F : Fun K x x st f fd) (S : FnScope N ps (defScope st))
    (len : ∀ vs H Q E, sp vs H Q E → vs.length = ps.length)
    (hbody : ∀ (f : Addr) (cdv : Value) (A : Around) (outer : List Env) (s : Shared) (H : Hp) (vs : List V) (Q : VK) (E : XK), Room k (A.deeper (envOfC x (defScope st) s.heap.objs.size f cdv)) → sp vs H Q E →
      ∃ t, PSs (bx P w K mg base N x st f cdv A outer s H E) (defBody st) t ∧ t { nx := fun _ H' => Q .non H', rt := Q } (start N vs) H) : FnOk P w K mg base CX0 (k + 1) f fd ps sp :=
  F.ok S len fun cdv A outer s H vs Q E hr h => hbody f cdv A outer s H vs Q E hr h
theorem has_of {x : Str} {st : Stmt} {N ps : List Str} {k : Nat} {sp : Sp} (D : DefIn K mg x st) (S : FnScope N ps (defScope st))
    (hb : ∀ (kV doc pm : Value) (an : Option Addr) (cdv ct : Value) (us : List Value), us.length = ps.length → bindArgs (PySem.W.fnOf x x (defArgs st) (defBody st) (defScope st) .none kV doc pm an cdv ct) ⟨us, []⟩ = pure (ps.zip us))
    (len : ∀ vs H Q E, sp vs H Q E → vs.length = ps.length)
    (hbody : ∀ (f : Addr) (cdv : Value) (A : Around) (outer : List Env) (s : Shared) (H : Hp) (vs : List V) (Q : VK) (E : XK), Room k (A.deeper (envOfC x (defScope st) s.heap.objs.size f cdv)) → sp vs H Q E →
      ∃ t, PSs (bx P w K mg base N x st f cdv A outer s H E) (defBody st) t ∧ t { nx := fun _ H' => Q .non H', rt := Q } (start N vs) H) : Has P w K mg base (k + 1) x ps sp := by
  obtain ⟨f, fd, F, m⟩ := D.ex
  exact ⟨f, fd, fnok_of F S len hbody, m, F.kp, F.binds hb⟩
end
section
variable {X : Cx}
theorem pe_h {k : Nat} {x : Str} {ps : List Str} {sp : Sp} {e : Expr} {es : List Expr} {t : TA} {p pos : Pos} (h : Has X.prog X.w X.K X.mg X.base k x ps sp) (hr : Room k X.A) (ha : PA X (e :: es) t) (hg : Gl X x := by rfl)
    (hdb : (x == ("__debug__" : Str)) = false := by decide) (he : starEach (e :: es) X.env = (false, eval e X.env) :: starEach es X.env := by rfl) (hpl : (backTo pos (starEach es X.env)).any (·.1) = false := by rfl) :
    PE X (.Call (.Name x p) (e :: es) [] pos) (tCall sp [] E0 t) := by
  obtain ⟨f, fd, a, b, c, d⟩ := h.ex
  exact pe_call a hr hg b c d .nil pass0 ha hdb he hpl
end
def Ex1 (d : Addr) (H H' : Hp) : Prop := ∀ a o, a ≠ d → H a = some o → H' a = some o
theorem Ex1.refl {d : Addr} {H : Hp} : Ex1 d H H := fun _ _ _ h => h
theorem Ex1.trans {d : Addr} {H H1 H2 : Hp} (a : Ex1 d H H1) (b : Ex1 d H1 H2) : Ex1 d H H2 := fun x o n h => b x o n (a x o n h)
theorem Ex1.upd {d : Addr} {H : Hp} {o : HO} : Ex1 d H (upd H d o) := fun a u n h => by rw [upd_ne n]; exact h
theorem Ex1.of {d : Addr} {H H' : Hp} (h : Same H H') : Ex1 d H H' := fun a o _ e => h a o e
theorem Ex1.rd {d : Addr} {H H' : Hp} {a : Addr} {u : HO} (e : Ex1 d H H') (n : a ≠ d) (h : Rd H a u) : Rd H' a u := by
  rcases h with h | ⟨o, h⟩
  · exact Or.inl (e a _ n h)
  · exact Or.inr ⟨o, e a _ n h⟩
theorem Ex1.l {K : PySem.W.Frag} {d : Addr} {H H' : Hp} {a : Addr} {xs : List V} (e : Ex1 d H H') (n : a ≠ d) (h : SqL K H a xs) : SqL K H' a xs := by
  rcases h with h | h
  · exact Or.inl (e.rd n h)
  · exact Or.inr h
theorem Ex1.t {K : PySem.W.Frag} {d : Addr} {H H' : Hp} {a : Addr} {xs : List V} (e : Ex1 d H H') (n : a ≠ d) (h : SqT K H a xs) : SqT K H' a xs := by
  rcases h with h | h
  · exact Or.inl (e.rd n h)
  · exact Or.inr h
def DeckAt (K : PySem.W.Frag) (H : Hp) (d : Addr) : Prop := ∃ (s : Addr) (ns : List Int) (pos rest seed : Int), H d = some (.lst [.ref s, .int pos, .int rest, .int seed]) ∧ SqL K H s (ns.map V.int) ∧ s ≠ d ∧ 0 ≤ pos
theorem DeckAt.same {K : PySem.W.Frag} {H H' : Hp} {d : Addr} (h : DeckAt K H d) (e : Same H H') : DeckAt K H' d := by
  obtain ⟨s, ns, p, r, q, h1, h2, h3, h4⟩ := h
  exact ⟨s, ns, p, r, q, e _ _ h1, e.seq h2, h3, h4⟩
theorem Same.new {H : Hp} {p : Addr} {o : HO} (h : H p = none) : Same H (upd H p o) := fun a u e => by
  rw [upd_ne (ne_of_none e h)]
  exact e
def spDraw (K : PySem.W.Frag) : Sp := fun vs H Q _ => ∃ (d : Addr) (m : Int), vs = [.ref d, .int m] ∧ DeckAt K H d ∧ 0 < m ∧ m < 10 ^ 62 ∧ ∀ v H', 0 ≤ v → v < m → DeckAt K H' d → Ex1 d H H' → Q (.int v) H'
def spDeck (K : PySem.W.Frag) : Sp := fun vs H Q _ => ∃ (a : Addr) (ns : List Int), vs = [.ref a] ∧ SqL K H a (ns.map V.int) ∧ ∀ d H', H d = none → DeckAt K H' d → Same H H' → Q (.ref d) H'
theorem div62 {i m : Int} (h : 0 < m) (h1 : m < 10 ^ 62) : CDivW i m := by
  have e : (10 : Int) ^ 62 < 2 ^ 250 := by decide
  refine wide_div (b := 250) h ?_ (by decide) (by decide)
  have e1 : (10 : Nat) ^ 62 < 2 ^ 250 := by decide
  have e2 : m.natAbs < 10 ^ 62 := by omega
  omega
section
variable {σ : L2.St} {H : Hp} {Q : VK} {v x y : V} {ta tb tc te : TE} {K : PySem.W.Frag} {D : Ends} {t u : TS}
theorem g_var {i : Nat} (h : σ[i]? = some (some v)) (q : Q v H) : tVar i σ H Q := ⟨v, h, q⟩
theorem g_c (q : Q v H) : tC v σ H Q := q
theorem g_op {r : R2} (h : ta σ H fun x H1 => tb σ H1 fun y H2 => r x y H2 Q) : tOp r ta tb σ H Q := h
theorem g_un {r : V → Hp → VK → Prop} (h : ta σ H fun x H1 => r x H1 Q) : tUn r ta σ H Q := h
theorem g_I0 {g : Int → Int → V} {i j : Int} (q : Q (g i j) H) : rI0 g (.int i) (.int j) H Q := ⟨i, j, rfl, rfl, q⟩
theorem g_I {C : Int → Int → Prop} {g : Int → Int → V} {i j : Int} (c : C i j) (q : Q (g i j) H) : rI C g (.int i) (.int j) H Q := ⟨i, j, rfl, rfl, c, q⟩
theorem g_U {g : Int → V} {i : Int} (q : Q (g i) H) : rU g (.int i) H Q := ⟨i, rfl, q⟩
theorem g_ixL {p : Addr} {xs : List V} {i : Int} (h : SqL K H p xs) (a : atI xs i = some v) (q : Q v H) : rIxL K (.ref p) (.int i) H Q := ⟨p, xs, i, v, rfl, rfl, h, a, q⟩
theorem g_ixT {p : Addr} {xs : List V} {i : Int} (h : SqT K H p xs) (a : atI xs i = some v) (q : Q v H) : rIxT K (.ref p) (.int i) H Q := ⟨p, xs, i, v, rfl, rfl, h, a, q⟩
theorem g_eqI {i j : Int} (q : Q (.bl (decide (i = j))) H) : rEq (.int i) (.int j) H Q := ⟨rfl, by
  have e : decide (V.int i = V.int j) = decide (i = j) := by simp
  rw [e]; exact q⟩
theorem g_neI {i j : Int} (q : Q (.bl (!decide (i = j))) H) : rNe (.int i) (.int j) H Q := ⟨rfl, by
  have e : decide (V.int i = V.int j) = decide (i = j) := by simp
  rw [e]; exact q⟩
theorem g_eqB {i j : Bool} (q : Q (.bl (decide (i = j))) H) : rEq (.bl i) (.bl j) H Q := ⟨rfl, by
  have e : decide (V.bl i = V.bl j) = decide (i = j) := by simp
  rw [e]; exact q⟩
def rInt : List V → Hp → VK → Prop := fun xs H Q => ∃ i, xs = [.int i] ∧ Q (.int i) H
def rIntB : List V → Hp → VK → Prop := fun xs H Q => ∃ k, xs = [.bl k] ∧ Q (.int (if k then 1 else 0)) H
def rAbs : List V → Hp → VK → Prop := fun xs H Q => ∃ i, xs = [.int i] ∧ Q (.int (if i < 0 then -i else i)) H
def rMax : List V → Hp → VK → Prop := fun xs H Q => ∃ i j, xs = [.int i, .int j] ∧ Q (.int (if j > i then j else i)) H
def rMin : List V → Hp → VK → Prop := fun xs H Q => ∃ i j, xs = [.int i, .int j] ∧ Q (.int (if j < i then j else i)) H
def rLen (K : PySem.W.Frag) : List V → Hp → VK → Prop := fun xs H Q => ∃ p ys, xs = [.ref p] ∧ (SqL K H p ys ∨ SqT K H p ys) ∧ Q (.int (ys.length : Int)) H
def rList (K : PySem.W.Frag) : List V → Hp → VK → Prop := fun xs H Q => ∃ p ys, xs = [.ref p] ∧ (SqL K H p ys ∨ SqT K H p ys) ∧ ∀ l, H l = none → Q (.ref l) (upd H l (.lst ys))
theorem g_cb1 {r : List V → Hp → VK → Prop} (h : ta σ H fun x H1 => r [x] H1 Q) : tCB r (tCons ta tNil) σ H Q := h
theorem g_cb2 {r : List V → Hp → VK → Prop} (h : ta σ H fun x H1 => tb σ H1 fun y H2 => r [x, y] H2 Q) : tCB r (tCons ta (tCons tb tNil)) σ H Q := h
theorem g_int {i : Int} (q : Q (.int i) H) : rInt [.int i] H Q := ⟨i, rfl, q⟩
theorem g_intB {k : Bool} (q : Q (.int (if k then 1 else 0)) H) : rIntB [.bl k] H Q := ⟨k, rfl, q⟩
theorem g_abs {i : Int} (q : Q (.int (if i < 0 then -i else i)) H) : rAbs [.int i] H Q := ⟨i, rfl, q⟩
theorem g_max {i j : Int} (q : Q (.int (if j > i then j else i)) H) : rMax [.int i, .int j] H Q := ⟨i, j, rfl, q⟩
theorem g_min {i j : Int} (q : Q (.int (if j < i then j else i)) H) : rMin [.int i, .int j] H Q := ⟨i, j, rfl, q⟩
theorem g_lenL {p : Addr} {ys : List V} (h : SqL K H p ys) (q : Q (.int (ys.length : Int)) H) : rLen K [.ref p] H Q := ⟨p, ys, rfl, .inl h, q⟩
theorem g_lenT {p : Addr} {ys : List V} (h : SqT K H p ys) (q : Q (.int (ys.length : Int)) H) : rLen K [.ref p] H Q := ⟨p, ys, rfl, .inr h, q⟩
theorem g_listL {p : Addr} {ys : List V} (h : SqL K H p ys) (q : ∀ l, H l = none → Q (.ref l) (upd H l (.lst ys))) : rList K [.ref p] H Q := ⟨p, ys, rfl, .inl h, q⟩
theorem g_gcd {a b : Int} (q : Q (.int ((Nat.gcd a.natAbs b.natAbs : Nat) : Int)) H) : rGcd [.int a, .int b] H Q := ⟨a, b, rfl, q⟩
/-- isinstance(x, T), T a built-in type's name, x of the built-in type n -/
theorem g_isiT {n m : String} {b : Bool} (ht : TyX K H x (.type n)) (e : kitB n m = some b) (q : Q (.bl b) H) : rIsi K [x, .ty m] H Q := ⟨x, .ty m, .type n, .type m, b, rfl, .ty m, ht, kit_ty e, q⟩
theorem g_tup2 (h : ta σ H fun x H1 => tb σ H1 fun y H2 => ∀ p, H2 p = none → Q (.ref p) (upd H2 p (.tup [x, y]))) : tTup (tCons ta (tCons tb tNil)) σ H Q := by
  show ta σ H fun x H1 => tb σ H1 fun y H2 => 2 ≤ sizeLine ∧ ∀ p, H2 p = none → Q (.ref p) (upd H2 p (.tup [x, y]))
  simpa [show (2 : Nat) ≤ sizeLine by decide] using h
theorem g_tupN {ta : TA} (h : ta σ H fun xs H1 => xs.length ≤ sizeLine ∧ ∀ p, H1 p = none → Q (.ref p) (upd H1 p (.tup xs))) : tTup ta σ H Q := h
theorem g_lstN {ta : TA} (h : ta σ H fun xs H1 => xs.length ≤ sizeLine ∧ ∀ p, H1 p = none → Q (.ref p) (upd H1 p (.lst xs))) : tLst ta σ H Q := h
theorem g_nil {Q : List V → Hp → Prop} (q : Q [] H) : tNil σ H Q := q
theorem g_cons {tr : TA} {Q : List V → Hp → Prop} (h : ta σ H fun x H1 => tr σ H1 fun xs H2 => Q (x :: xs) H2) : tCons ta tr σ H Q := h
theorem g_new {n : Nat} {Q : Addr → Hp → Prop} {f : Addr → Hp} (hn : n ≤ 1000) (h : ∀ p, H p = none → Q p (f p)) : n ≤ sizeLine ∧ ∀ p, H p = none → Q p (f p) := ⟨Nat.le_trans hn (by decide), h⟩
variable {QB : Bool → Hp → Prop} {tt tu : TT}
theorem g_test (h : te σ H fun x H1 => ∃ k, x = .bl k ∧ QB k H1) : tTest te σ H QB := h
theorem g_B (h : te σ H fun x H1 => ∃ k, x = .bl k ∧ QB k H1) : tB te σ H QB := h
theorem g_bl {b : Bool} (q : QB b H) : ∃ k, V.bl b = .bl k ∧ QB k H := ⟨b, rfl, q⟩
theorem g_not (h : tt σ H fun b H1 => QB (!b) H1) : tNot tt σ H QB := h
theorem g_and (h : tt σ H fun b H1 => if b = true then tu σ H1 QB else QB false H1) : tAnd tt tu σ H QB := h
theorem g_or (h : tt σ H fun b H1 => if b = true then QB true H1 else tu σ H1 QB) : tOr tt tu σ H QB := h
theorem g_andV (h : ta σ H fun x H1 => ∃ c, x = .bl c ∧ if c = true then tb σ H1 Q else Q (.bl false) H1) : tAndV ta tb σ H Q := h
theorem g_orV (h : ta σ H fun x H1 => ∃ c, x = .bl c ∧ if c = true then Q (.bl true) H1 else tb σ H1 Q) : tOrV ta tb σ H Q := h
theorem g_notV (h : ta σ H fun x H1 => ∃ c, x = .bl c ∧ Q (.bl (!c)) H1) : tNotV ta σ H Q := h
theorem g_ex {b : Bool} {P : Bool → Prop} (q : P b) : ∃ c, V.bl b = .bl c ∧ P c := ⟨b, rfl, q⟩
theorem g_ite {p : Prop} [Decidable p] {A B : Prop} (h1 : p → A) (h2 : ¬ p → B) : if decide p = true then A else B := by
  by_cases h : p
  · rw [decide_eq_true h, if_pos rfl]; exact h1 h
  · rw [decide_eq_false h, if_neg Bool.false_ne_true]; exact h2 h
theorem g_iteN {p : Prop} [Decidable p] {A B : Prop} (h1 : ¬ p → A) (h2 : p → B) : if (!decide p) = true then A else B := by
  by_cases h : p
  · rw [decide_eq_true h, if_neg (by decide)]; exact h2 h
  · rw [decide_eq_false h, if_pos (by decide)]; exact h1 h
theorem g_iteT {A B : Prop} (h : A) : if true = true then A else B := by rw [if_pos rfl]; exact h
theorem g_iteF {A B : Prop} (h : B) : if false = true then A else B := by rw [if_neg Bool.false_ne_true]; exact h
theorem g_iteNT {A B : Prop} (h : B) : if (!true) = true then A else B := by rw [if_neg (by decide)]; exact h
theorem g_iteNF {A B : Prop} (h : A) : if (!false) = true then A else B := by rw [if_pos (by decide)]; exact h
variable {g : TG}
theorem g_seq (h : t { D with nx := u D } σ H) : tSeq t u D σ H := h
theorem g_next (q : D.nx σ H) : tNext D σ H := q
theorem g_ret (h : te σ H D.rt) : tRet te D σ H := h
theorem g_if {c : TT} (h : c σ H fun b H1 => if b = true then t D σ H1 else u D σ H1) : tIfS c t u D σ H := h
theorem g_set {i : Nat} (h : te σ H fun x H1 => D.nx (σ.set i (some x)) H1) : tAsg te (gName i) D σ H := h
theorem g_setS (h : te σ H fun x H1 => ta σ H1 fun o H2 => tb σ H2 fun i H3 => rSetL o i x H3 fun H4 => D.nx σ H4) : tAsg te (gSub ta tb rSetL) D σ H := h
theorem g_setL {p : Addr} {xs : List V} {k : Int} {j : Nat} {Q : Hp → Prop} (h : H p = some (.lst xs)) (e : ixN xs.length k = some j) (q : Q (upd H p (.lst (xs.set j v)))) : rSetL (.ref p) (.int k) v H Q := ⟨p, xs, k, j, rfl, rfl, h, e, q⟩
theorem g_drop (h : te σ H fun _ H1 => D.nx σ H1) : tDrop te D σ H := h
theorem g_aug {i : Nat} {r : TIp} (hx : σ[i]? = some (some x)) (h : te σ H fun y H1 => r x y H1 fun z H2 => D.nx (σ.set i (some z)) H2) : tAug i te r D σ H := ⟨x, hx, h⟩
theorem g_ipI {f : Int → Int → Int} {i j : Int} (q : Q (.int (f i j)) H) : ipI f (.int i) (.int j) H Q := ⟨i, j, rfl, rfl, q⟩
theorem g_call {sp : Sp} {E : XK} {ta : TA} (h : ta σ H fun vs H1 => sp vs H1 Q E) : tCall sp [] E ta σ H Q := by
  show ta σ H fun vs H1 => sp (vs ++ []) H1 Q E
  simpa using h
end
section
variable {X : Cx}
theorem pe_powc {a b r : Int} {j1 j2 : Nat} {p1 p2 pos : Pos} (h : 0 ≤ b ∧ b ≤ 1000000 ∧ a.natAbs < 2 ^ 64) (e : a ^ b.toNat = r) : PE X (.BinOp (.Constant (.int a) j1 p1) .Pow (.Constant (.int b) j2 p2) pos) (tC (.int r)) :=
  ⟨fun pins s σ H Q I q => (pe_op op_pow pe_int pe_int).run pins s σ H Q I ⟨a, b, rfl, rfl, h, by subst e; exact q⟩⟩
theorem call_int' : CallR X (.type "int") rInt := fun pins s σ H xs us Q I r h => call_int1 pins s σ H xs us Q I r (.inl h)
theorem call_abs' : CallR X (.builtin "abs") rAbs := call_abs
theorem call_len' : CallR X (.builtin "len") (rLen X.K) := call_len_seq
theorem call_list' : CallR X (.type "list") (rList X.K) := call_list_of
end
theorem kit_int_int : kitB "int" "int" = some true := by decide +kernel
theorem kit_int_bool : kitB "int" "bool" = some false := by decide +kernel
theorem kit_int_tuple : kitB "int" "tuple" = some false := by decide +kernel
theorem kit_int_str : kitB "int" "str" = some false := by decide +kernel
theorem kit_int_list : kitB "int" "list" = some false := by decide +kernel
theorem kit_int_dict : kitB "int" "dict" = some false := by decide +kernel
theorem kit_bool_int : kitB "bool" "int" = some true := by decide +kernel
theorem kit_bool_bool : kitB "bool" "bool" = some true := by decide +kernel
theorem kit_bool_tuple : kitB "bool" "tuple" = some false := by decide +kernel
theorem kit_bool_str : kitB "bool" "str" = some false := by decide +kernel
theorem kit_bool_list : kitB "bool" "list" = some false := by decide +kernel
theorem kit_bool_dict : kitB "bool" "dict" = some false := by decide +kernel
theorem kit_tuple_int : kitB "tuple" "int" = some false := by decide +kernel
theorem kit_tuple_bool : kitB "tuple" "bool" = some false := by decide +kernel
theorem kit_tuple_tuple : kitB "tuple" "tuple" = some true := by decide +kernel
theorem kit_tuple_str : kitB "tuple" "str" = some false := by decide +kernel
theorem kit_tuple_list : kitB "tuple" "list" = some false := by decide +kernel
theorem kit_tuple_dict : kitB "tuple" "dict" = some false := by decide +kernel
theorem kit_str_int : kitB "str" "int" = some false := by decide +kernel
theorem kit_str_bool : kitB "str" "bool" = some false := by decide +kernel
theorem kit_str_tuple : kitB "str" "tuple" = some false := by decide +kernel
theorem kit_str_str : kitB "str" "str" = some true := by decide +kernel
theorem kit_str_list : kitB "str" "list" = some false := by decide +kernel
theorem kit_str_dict : kitB "str" "dict" = some false := by decide +kernel
theorem kit_list_int : kitB "list" "int" = some false := by decide +kernel
theorem kit_list_bool : kitB "list" "bool" = some false := by decide +kernel
theorem kit_list_tuple : kitB "list" "tuple" = some false := by decide +kernel
theorem kit_list_str : kitB "list" "str" = some false := by decide +kernel
theorem kit_list_list : kitB "list" "list" = some true := by decide +kernel
theorem kit_list_dict : kitB "list" "dict" = some false := by decide +kernel
theorem kit_NoneType_int : kitB "NoneType" "int" = some false := by decide +kernel
theorem kit_NoneType_bool : kitB "NoneType" "bool" = some false := by decide +kernel
theorem kit_NoneType_tuple : kitB "NoneType" "tuple" = some false := by decide +kernel
theorem kit_NoneType_str : kitB "NoneType" "str" = some false := by decide +kernel
theorem kit_NoneType_list : kitB "NoneType" "list" = some false := by decide +kernel
theorem kit_NoneType_dict : kitB "NoneType" "dict" = some false := by decide +kernel
theorem kit_dict_int : kitB "dict" "int" = some false := by decide +kernel
theorem kit_dict_bool : kitB "dict" "bool" = some false := by decide +kernel
theorem kit_dict_tuple : kitB "dict" "tuple" = some false := by decide +kernel
theorem kit_dict_str : kitB "dict" "str" = some false := by decide +kernel
theorem kit_dict_list : kitB "dict" "list" = some false := by decide +kernel
theorem kit_dict_dict : kitB "dict" "dict" = some true := by decide +kernel
structure DefInD (K : PySem.W.Frag) (mg : Str → Option Value) (x : Str) (st : Stmt) (dvs : List V) : Prop where
  ex : ∃ (f : Addr) (fd : FuncData), FunD K x x (defArgs st) (defBody st) (defScope st) dvs [] f fd ∧ mg x = some (.ref f)
structure HasD (P : Program) (w : World) (K : PySem.W.Frag) (mg : Str → Option Value) (base : Heap) (k : Nat) (x : Str) (ps : List Str) (dvs : List V) (sp : Sp) : Prop where
  ex : ∃ (f : Addr) (fd : FuncData) (ds : List Value), FnOk P w K mg base CX0 k f fd ps sp ∧ mg x = some (.ref f) ∧ PySem.W.keepIn K (.ref f) = true ∧ Vals dvs ds ∧ Binds K fd ps ds
section
variable {P : Program} {w : World} {K : PySem.W.Frag} {mg : Str → Option Value} {base : Heap}
/-- the def's promise; its calls with n values written, the defaults behind the first j filling up -/
theorem hasD_of {x : Str} {st : Stmt} {N ps : List Str} {k : Nat} {sp : Sp} {dvs : List V} (D : DefInD K mg x st dvs) (S : FnScope N ps (defScope st)) (n j : Nat) (hd : dvs ≠ []) (hn : n + (dvs.length - j) = ps.length)
    (hb : ∀ (T : Addr) (kV doc pm : Value) (an : Option Addr) (cdv ct : Value) (us its : List Value), us.length = n → its.length = dvs.length →
      ∃ k, bindArgs (PySem.W.fnOf x x (defArgs st) (defBody st) (defScope st) (.ref T) kV doc pm an cdv ct) ⟨us, []⟩ = seqItems? (.ref T) >>= k ∧ k (some its.toArray) = pure (ps.zip (us ++ its.drop j)))
    (len : ∀ vs H Q E, sp vs H Q E → vs.length = ps.length)
    (hbody : ∀ (f : Addr) (cdv : Value) (A : Around) (outer : List Env) (s : Shared) (H : Hp) (vs : List V) (Q : VK) (E : XK), Room k (A.deeper (envOfC x (defScope st) s.heap.objs.size f cdv)) → sp vs H Q E →
      ∃ t, PSs (bx P w K mg base N x st f cdv A outer s H E) (defBody st) t ∧ t { nx := fun _ H' => Q .non H', rt := Q } (start N vs) H) : HasD P w K mg base (k + 1) x ps (dvs.drop j) sp := by
  obtain ⟨f, fd, F, m⟩ := D.ex
  obtain ⟨ds, r, b⟩ := F.binds1 n j hd hn hb
  refine ⟨f, fd, ds, F.ok S len fun cdv A outer s H vs Q E hr h => ?_, m, F.kp, r, b⟩
  obtain ⟨t, ht, q⟩ := hbody f cdv A outer s H vs Q E hr h
  exact ⟨t, ht.nox, q⟩
end
theorem pe_hD {X : Cx} {k : Nat} {x : Str} {ps : List Str} {dvs : List V} {sp : Sp} {e : Expr} {es : List Expr} {t : TA} {p pos : Pos} (h : HasD X.prog X.w X.K X.mg X.base k x ps dvs sp) (hr : Room k X.A) (ha : PA X (e :: es) t) (hg : Gl X x := by rfl)
    (hdb : (x == ("__debug__" : Str)) = false := by decide) (he : starEach (e :: es) X.env = (false, eval e X.env) :: starEach es X.env := by rfl) (hpl : (backTo pos (starEach es X.env)).any (·.1) = false := by rfl) :
    PE X (.Call (.Name x p) (e :: es) [] pos) (tCall sp dvs E0 t) := by
  obtain ⟨f, fd, ds, a, b, c, r, d⟩ := h.ex
  exact pe_call a hr hg b c d r pass0 ha hdb he hpl
theorem g_callD {sp : Sp} {dvs : List V} {E : XK} {ta : TA} {σ : L2.St} {H : Hp} {Q : VK} (h : ta σ H fun vs H1 => sp (vs ++ dvs) H1 Q E) : tCall sp dvs E ta σ H Q := h
end Fl
set_option Elab.async false
set_option linter.all false
set_option maxRecDepth 100000
set_option maxHeartbeats 4000000
set_option exponentiation.threshold 20000
namespace Fl
open PySem PySem.Spec PyProof.Rows L2
def gg (p q : Int) : Int := ((Nat.gcd p.natAbs q.natAbs : Nat) : Int)
def rp (p q : Int) : Int := if q < 0 then -(p / gg p q) else p / gg p q
def rq (p q : Int) : Int := if q < 0 then -(q / gg p q) else q / gg p q
theorem gg_pos {p q : Int} (h : q ≠ 0) : 0 < gg p q := by
  have : 0 < Nat.gcd p.natAbs q.natAbs := Nat.gcd_pos_of_pos_right _ (by omega)
  unfold gg; omega
theorem gg_dvd_l (p q : Int) : gg p q ∣ p := by
  unfold gg
  exact Int.ofNat_dvd_left.mpr (Nat.gcd_dvd_left _ _)
theorem gg_dvd_r (p q : Int) : gg p q ∣ q := by
  unfold gg
  exact Int.ofNat_dvd_left.mpr (Nat.gcd_dvd_right _ _)
theorem abs_div_le {p g : Int} (hg : 0 < g) : (p / g).natAbs ≤ p.natAbs := by
  have h := Int.natAbs_ediv_le_natAbs p g
  exact h
theorem fdiv_neg_exact {p g : Int} (hg : 0 < g) (hd : g ∣ p) : Int.fdiv p (-g) = -(p / g) := by
  obtain ⟨k, rfl⟩ := hd
  have h1 : g * k / g = k := Int.mul_ediv_cancel_left k (by omega)
  rw [h1]
  have h2 : g * k = (-g) * (-k) := by rw [Int.neg_mul_neg]
  rw [h2]
  exact Int.mul_fdiv_cancel_left (-k) (by omega)
theorem fdiv_pos_exact {p g : Int} (hg : 0 < g) : Int.fdiv p g = p / g := Int.fdiv_eq_ediv_of_nonneg p (by omega)
theorem rp_abs (p q : Int) (h : q ≠ 0) : (rp p q).natAbs ≤ p.natAbs := by
  have := abs_div_le (p := p) (gg_pos (p := p) h)
  unfold rp
  split <;> omega
theorem rq_abs (p q : Int) (h : q ≠ 0) : (rq p q).natAbs ≤ q.natAbs := by
  have := abs_div_le (p := q) (gg_pos (p := p) h)
  unfold rq
  split <;> omega
theorem rq_pos (p q : Int) (h : q ≠ 0) : 0 < rq p q := by
  have hg := gg_pos (p := p) h
  obtain ⟨k, hk⟩ := gg_dvd_r p q
  have e : q / gg p q = k := Int.ediv_eq_of_eq_mul_right (by omega) hk
  unfold rq
  rw [e]
  by_cases hq : q < 0
  · rw [if_pos hq]
    have : k < 0 := by
      rcases (by omega : k < 0 ∨ 0 ≤ k) with h1 | h1
      · exact h1
      · have : 0 ≤ gg p q * k := Int.mul_nonneg (by omega) h1
        omega
    omega
  · rw [if_neg hq]
    rcases (by omega : 0 < k ∨ k ≤ 0) with h1 | h1
    · exact h1
    · have h2 : gg p q * k ≤ 0 := Int.mul_nonpos_of_nonneg_of_nonpos (by omega) h1
      omega
theorem euclid_step {m n : Nat} (hn : 0 < n) : Nat.gcd n (m % n) = Nat.gcd m n := by
  rw [Nat.gcd_comm n (m % n), Nat.gcd_comm m n]
  exact (Nat.gcd_rec n m).symm
structure Eu (g B i m n : Nat) : Prop where
  gcd : Nat.gcd m n = g
  lt : (i = 0 ∧ m * n ≤ B) ∨ n < m
  le : m * n * 2 ^ i ≤ 2 * B
theorem Eu.start {m n B : Nat} (h : m * n ≤ B) : Eu (Nat.gcd m n) B 0 m n := ⟨rfl, .inl ⟨rfl, h⟩, by simp; omega⟩
theorem Eu.step {g B i m n : Nat} (h : Eu g B i m n) (hn : 0 < n) : Eu g B (i + 1) n (m % n) := by
  refine ⟨(euclid_step hn).trans h.gcd, .inr (Nat.mod_lt _ hn), ?_⟩
  have hle := h.le
  rcases h.lt with e | e
  · obtain ⟨e, e'⟩ := e
    subst e
    have h1 : m % n ≤ m := Nat.mod_le _ _
    have h2 : n * (m % n) ≤ n * m := Nat.mul_le_mul_left _ h1
    have h3 : n * m = m * n := Nat.mul_comm _ _
    rw [Nat.zero_add, Nat.pow_one]
    omega
  · have h1 : 2 * (m % n) ≤ m := by
      have q1 := Nat.div_add_mod m n
      have q2 : m % n < n := Nat.mod_lt _ hn
      have q3 : 1 ≤ m / n := (Nat.le_div_iff_mul_le hn).mpr (by omega)
      have q4 : n * 1 ≤ n * (m / n) := Nat.mul_le_mul_left _ q3
      omega
    have h2 : n * (m % n) * 2 ^ (i + 1) = n * (2 * (m % n)) * 2 ^ i := by
      rw [Nat.pow_succ]
      simp only [Nat.mul_assoc, Nat.mul_comm, Nat.mul_left_comm]
    have h3 : n * (2 * (m % n)) ≤ n * m := Nat.mul_le_mul_left _ h1
    have h4 : n * (2 * (m % n)) * 2 ^ i ≤ n * m * 2 ^ i := Nat.mul_le_mul_right _ h3
    rw [h2, Nat.mul_comm n m] at *
    omega
theorem Eu.fin {g B m n : Nat} (h : Eu g B 5000 m n) (hB : B < 2 ^ 4990) : m = g := by
  have h0 : n = 0 := by
    rcases Nat.eq_zero_or_pos n with e | e
    · exact e
    · exfalso
      have hm : n < m := by
        rcases h.lt with q | q
        · cases q.1
        · exact q
      have h1 : 1 * 1 ≤ m * n := Nat.mul_le_mul (by omega) e
      have h2 : 1 * 2 ^ 5000 ≤ m * n * 2 ^ 5000 := Nat.mul_le_mul_right _ (by omega)
      have h3 := h.le
      have h4 : 2 * 2 ^ 4990 ≤ 1 * 2 ^ 5000 := by decide +kernel
      omega
  have := h.gcd
  rw [h0, Nat.gcd_zero_right] at this
  exact this
theorem Eu.done {g B i m : Nat} (h : Eu g B i m 0) : m = g := by
  have := h.gcd
  rw [Nat.gcd_zero_right] at this
  exact this
theorem mulW {i j : Int} (hi : i.natAbs < 2 ^ 4000) (hj : j.natAbs < 2 ^ 4000) : CMulW i j := wide_mul hi hj (by decide) (by decide) (by decide)
theorem divW {i j : Int} (h : 0 < j) (hj : j.natAbs < 2 ^ 4000) : CDivW i j := wide_div h hj (by decide) (by decide)
/-- // by a divisor of either sign -/
def CDivS (_ j : Int) : Prop := j ≠ 0 ∧ j.natAbs.log2 < 9000
theorem op_fdivS {X : Cx} : OpR X (binaryOp .FloorDiv) (rI CDivS fun i j => .int (i.fdiv j)) := opI fun i j _ _ _ _ _ hc q =>
  floordiv_int hc.1 q (.inl (PyProof.noPylong_of_log2 hc.2))
theorem divS {i j : Int} (h : j ≠ 0) (hj : j.natAbs < 2 ^ 4000) : CDivS i j := ⟨h, Nat.lt_of_lt_of_le (PySem.Flt.log2_lt_of (by decide) hj) (by decide)⟩
section
variable {σ : L2.St} {H : Hp} {te : TE} {D : Ends} {g : TG} {tb : TS}
theorem g_forR (n : Int) (Pv : Nat → L2.St → Hp → Prop) (h : te σ H fun x H1 => x = .int n ∧ -(2 ^ 62) ≤ n ∧ n < 2 ^ 62 ∧ Pv 0 σ H1)
    (hs : ∀ (i : Nat) σ' H', (i : Int) < n → Pv i σ' H' → g (.int (i : Int)) σ' H' fun σ2 H2 => tb { D with nx := Pv (i + 1), ct := Pv (i + 1), bk := D.nx } σ2 H2)
    (hd : ∀ σ' H', Pv n.toNat σ' H' → D.nx σ' H') (mono : ∀ Q Q' : VK, (∀ x H1, Q x H1 → Q' x H1) → te σ H Q → te σ H Q') : tFor (iRng1 (tCons te tNil)) g tb D σ H := by
  refine mono _ _ (fun x H1 q => ?_) h
  obtain ⟨rfl, h1, h2, p⟩ := q
  show ∃ j : Int, [V.int n] = [V.int j] ∧ _
  refine ⟨n, rfl, h1, h2, for_range Pv p (fun i σ' H' hi p' => ?_) hd⟩
  have e0 : (0 : Int) + (i : Int) = (i : Int) := Int.zero_add _
  rw [e0]
  exact hs i σ' H' (by omega) p'
end
/-- the frame: what stood stands -/
def spGcd : Sp := fun vs H Q _ => ∃ (m n : Nat), vs = [.int (m : Int), .int (n : Int)] ∧ m * n < 2 ^ 4990 ∧ Q (.int ((Nat.gcd m n : Nat) : Int)) H
def spRat : Sp := fun vs H Q _ => ∃ (p q : Int), vs = [.int p, .int q] ∧ q ≠ 0 ∧ p.natAbs < 2 ^ 2000 ∧ q.natAbs < 2 ^ 2000 ∧ ∀ t, H t = none → Q (.ref t) (upd H t (.tup [.int (rp p q), .int (rq p q)]))
theorem rat_app {p q : Int} {H : Hp} {Q : VK} {E : XK} (h : q ≠ 0) (h1 : p.natAbs < 2 ^ 2000) (h2 : q.natAbs < 2 ^ 2000) (k : ∀ t, H t = none → Q (.ref t) (upd H t (.tup [.int (rp p q), .int (rq p q)]))) : spRat [.int p, .int q] H Q E :=
  ⟨p, q, rfl, h, h1, h2, k⟩
theorem draw_app {K : PySem.W.Frag} {d : Addr} {m : Int} {H : Hp} {Q : VK} {E : XK} (h : DeckAt K H d) (h1 : 0 < m) (h2 : m < 10 ^ 62) (k : ∀ v H', 0 ≤ v → v < m → DeckAt K H' d → Ex1 d H H' → Q (.int v) H') : spDraw K [.ref d, .int m] H Q E :=
  ⟨d, m, rfl, h, h1, h2, k⟩
theorem deck_app {K : PySem.W.Frag} {a : Addr} {ns : List Int} {H : Hp} {Q : VK} {E : XK} (h : SqL K H a (ns.map V.int)) (k : ∀ d H', H d = none → DeckAt K H' d → Same H H' → Q (.ref d) H') : spDeck K [.ref a] H Q E :=
  ⟨a, ns, rfl, h, k⟩
theorem DeckAt.ne {K : PySem.W.Frag} {H : Hp} {d p : Addr} (h : DeckAt K H d) (hp : H p = none) : p ≠ d := by
  obtain ⟨s, ns, a, b, c, h1, _⟩ := h
  exact fun e => by rw [e, h1] at hp; cases hp
theorem Same.t {K : PySem.W.Frag} {H H' : Hp} {a : Addr} {xs : List V} (e : Same H H') (h : SqT K H a xs) : SqT K H' a xs := by
  rcases h with (h | ⟨o, h⟩) | h
  · exact .inl (.inl (e _ _ h))
  · exact .inl (.inr ⟨o, e _ _ h⟩)
  · exact .inr h
theorem at_int {ns : List Int} {i : Int} (h0 : 0 ≤ i) (h : i < ns.length) : ∃ n, atI (ns.map V.int) i = some (.int n) := by
  obtain ⟨k, rfl⟩ : ∃ k : Nat, i = (k : Int) := ⟨i.toNat, by omega⟩
  have hk : k < ns.length := by omega
  refine ⟨ns[k], atI_nat ?_⟩
  rw [List.getElem?_map, List.getElem?_eq_getElem hk]
  rfl
theorem natAbs_ediv_of_dvd {p g : Int} (hg : 0 < g) (hd : g ∣ p) : (p / g).natAbs = p.natAbs / g.natAbs := by
  obtain ⟨k, rfl⟩ := hd
  rw [Int.mul_ediv_cancel_left k (by omega), Int.natAbs_mul, Nat.mul_div_cancel_left _ (by omega)]
theorem rat_cop (p q : Int) (h : q ≠ 0) : Nat.gcd (rp p q).natAbs (rq p q).natAbs = 1 := by
  have hg := gg_pos (p := p) h
  have e : (gg p q).natAbs = Nat.gcd p.natAbs q.natAbs := rfl
  have h0 : 0 < Nat.gcd p.natAbs q.natAbs := by omega
  have key : Nat.gcd (p / gg p q).natAbs (q / gg p q).natAbs = 1 := by
    rw [natAbs_ediv_of_dvd hg (gg_dvd_l p q), natAbs_ediv_of_dvd hg (gg_dvd_r p q), e]
    exact Nat.gcd_div_gcd_div_gcd_of_pos_right (by omega)
  unfold rp rq
  split
  · rw [Int.natAbs_neg, Int.natAbs_neg]
    exact key
  · exact key
/-- a drawn fraction -/
structure Fra (n e : Int) : Prop where
  pos : 0 < e
  bn : n.natAbs ≤ 10 ^ 12
  be : e.natAbs ≤ 10 ^ 12
  cop : Nat.gcd n.natAbs e.natAbs = 1
theorem big12 {x : Int} (h : x.natAbs ≤ 10 ^ 12) : x.natAbs < 2 ^ 2000 := by
  have : (10 : Nat) ^ 12 < 2 ^ 2000 := by decide +kernel
  omega
theorem big40 {x : Int} (h : x.natAbs < 2 ^ 2000) : x.natAbs < 2 ^ 4000 := by
  have : (2 : Nat) ^ 2000 < 2 ^ 4000 := by decide +kernel
  omega
theorem Fra.int {n : Int} (h : n.natAbs ≤ 10 ^ 12) : Fra n 1 := ⟨by decide, h, by decide, Nat.gcd_one_right _⟩
theorem Fra.rat {p q : Int} (h : q ≠ 0) (h1 : p.natAbs ≤ 10 ^ 12) (h2 : q.natAbs ≤ 10 ^ 12) : Fra (rp p q) (rq p q) :=
  ⟨rq_pos p q h, Nat.le_trans (rp_abs p q h) h1, Nat.le_trans (rq_abs p q h) h2, rat_cop p q h⟩
def spBig (K : PySem.W.Frag) : Sp := fun vs H Q _ => ∃ (d : Addr), vs = [.ref d] ∧ DeckAt K H d ∧ ∀ t H' n e, DeckAt K H' d → Ex1 d H H' → t ≠ d → SqT K H' t [.int n, .int e] → Fra n e → Q (.ref t) H'
theorem big_app {K : PySem.W.Frag} {d : Addr} {H : Hp} {Q : VK} {E : XK} (h : DeckAt K H d) (k : ∀ t H' n e, DeckAt K H' d → Ex1 d H H' → t ≠ d → SqT K H' t [.int n, .int e] → Fra n e → Q (.ref t) H') : spBig K [.ref d] H Q E := ⟨d, rfl, h, k⟩
def sg (x : Int) : Int := if 0 < x then 1 else if x < 0 then -1 else 0
def spCmp (K : PySem.W.Frag) : Sp := fun vs H Q _ => ∃ (a b : Addr) (n e m k : Int), vs = [.ref a, .ref b] ∧ SqT K H a [.int n, .int e] ∧ SqT K H b [.int m, .int k] ∧
  n.natAbs < 2 ^ 4000 ∧ e.natAbs < 2 ^ 4000 ∧ m.natAbs < 2 ^ 4000 ∧ k.natAbs < 2 ^ 4000 ∧ Q (.int (sg (n * k - m * e))) H
theorem cmp_app {K : PySem.W.Frag} {a b : Addr} {n e m k : Int} {H : Hp} {Q : VK} {E : XK} (h1 : SqT K H a [.int n, .int e]) (h2 : SqT K H b [.int m, .int k])
  (f1 : Fra n e) (f2 : Fra m k) (q : Q (.int (sg (n * k - m * e))) H) : spCmp K [.ref a, .ref b] H Q E :=
  ⟨a, b, n, e, m, k, rfl, h1, h2, big40 (big12 f1.bn), big40 (big12 f1.be), big40 (big12 f2.bn), big40 (big12 f2.be), q⟩
def spDown (K : PySem.W.Frag) : Sp := fun vs H Q _ => ∃ (a : Addr) (n e : Int), vs = [.ref a] ∧ SqT K H a [.int n, .int e] ∧ 0 < e ∧ e.natAbs < 2 ^ 4000 ∧ Q (.int (n / e)) H
def spNear (K : PySem.W.Frag) : Sp := fun vs H Q _ => ∃ (a : Addr) (n e : Int), vs = [.ref a] ∧ SqT K H a [.int n, .int e] ∧ 0 < e ∧ (2 * e).natAbs < 2 ^ 4000 ∧ Q (.int ((2 * n + e) / (2 * e))) H
theorem down_app {K : PySem.W.Frag} {a : Addr} {n e : Int} {H : Hp} {Q : VK} {E : XK} (h1 : SqT K H a [.int n, .int e]) (f1 : Fra n e) (q : Q (.int (n / e)) H) : spDown K [.ref a] H Q E := ⟨a, n, e, rfl, h1, f1.pos, big40 (big12 f1.be), q⟩
theorem near_app {K : PySem.W.Frag} {a : Addr} {n e : Int} {H : Hp} {Q : VK} {E : XK} (h1 : SqT K H a [.int n, .int e]) (f1 : Fra n e) (q : Q (.int ((2 * n + e) / (2 * e))) H) : spNear K [.ref a] H Q E :=
  ⟨a, n, e, rfl, h1, f1.pos, by
    have h2 := f1.be
    have h3 : (2 : Nat) * 10 ^ 12 < 2 ^ 4000 := by decide +kernel
    omega, q⟩
def spIsInt : Sp := fun vs H Q _ => ∃ (i : Int), vs = [.int i] ∧ Q (.bl true) H
theorem isint_app {i : Int} {H : Hp} {Q : VK} {E : XK} (q : Q (.bl true) H) : spIsInt [.int i] H Q E := ⟨i, rfl, q⟩
def spSameI : Sp := fun vs H Q _ => ∃ (i j : Int), vs = [.int i, .int j] ∧ Q (.bl (decide (i = j))) H
theorem sameI_app {i j : Int} {H : Hp} {Q : VK} {E : XK} (q : Q (.bl (decide (i = j))) H) : spSameI [.int i, .int j] H Q E := ⟨i, j, rfl, q⟩
theorem fra_app {p q : Int} {H : Hp} {Q : VK} {E : XK} (h : q ≠ 0) (h1 : p.natAbs ≤ 10 ^ 12) (h2 : q.natAbs ≤ 10 ^ 12) (k : ∀ t n e, H t = none → Fra n e → Q (.ref t) (upd H t (.tup [.int n, .int e]))) : spRat [.int p, .int q] H Q E :=
  rat_app h (big12 h1) (big12 h2) fun t ht => k t _ _ ht (Fra.rat h h1 h2)
theorem down2_app {K : PySem.W.Frag} {a : Addr} {n e : Int} {H : Hp} {Q : VK} {E : XK} (h1 : SqT K H a [.int n, .int e]) (f1 : Fra n e)
    (q : ∀ v, v.natAbs < 2 ^ 4000 → (v + 1).natAbs < 2 ^ 4000 → e.natAbs < 2 ^ 4000 → v * e ≤ n → n < (v + 1) * e → Q (.int v) H) : spDown K [.ref a] H Q E := by
  have hp := f1.pos
  have b1 := f1.bn
  have b2 := f1.be
  have big : (10 : Nat) ^ 12 + 1 < 2 ^ 4000 := by decide +kernel
  have b3 : (n / e).natAbs ≤ n.natAbs := Int.natAbs_ediv_le_natAbs n e
  refine down_app h1 f1 (q _ (by omega) (by omega) (by omega) ?_ ?_)
  · exact Int.ediv_mul_le n (by omega)
  · exact Int.lt_ediv_add_one_mul_self n hp
theorem near2_app {K : PySem.W.Frag} {a : Addr} {n e : Int} {H : Hp} {Q : VK} {E : XK} (h1 : SqT K H a [.int n, .int e]) (f1 : Fra n e)
    (q : ∀ v, (2 * v).natAbs < 2 ^ 4000 → e.natAbs < 2 ^ 4000 → 2 * v * e ≤ 2 * n + e → 2 * n - e < 2 * v * e → Q (.int v) H) : spNear K [.ref a] H Q E := by
  have hp := f1.pos
  have b1 := f1.bn
  have b2 := f1.be
  have big : (10 : Nat) ^ 14 < 2 ^ 4000 := by decide +kernel
  have b3 : ((2 * n + e) / (2 * e)).natAbs ≤ (2 * n + e).natAbs := Int.natAbs_ediv_le_natAbs _ _
  have c1 := Int.ediv_mul_le (2 * n + e) (b := 2 * e) (by omega)
  have c2 := Int.lt_ediv_add_one_mul_self (2 * n + e) (b := 2 * e) (by omega)
  generalize hv : (2 * n + e) / (2 * e) = v at *
  have e1 : v * (2 * e) = 2 * v * e := by rw [Int.mul_left_comm, Int.mul_assoc]
  have e2 : (v + 1) * (2 * e) = 2 * v * e + 2 * e := by rw [Int.add_mul, e1, Int.one_mul]
  refine near_app h1 f1 ?_
  rw [hv]
  exact q v (by omega) (by omega) (by omega) (by omega)
theorem DeckAt.ne' {K : PySem.W.Frag} {H : Hp} {d p : Addr} (hp : H p = none) (h : DeckAt K H d) : p ≠ d := h.ne hp
end Fl
set_option Elab.async false
set_option linter.all false
set_option maxRecDepth 100000
set_option maxHeartbeats 4000000
set_option exponentiation.threshold 20000
namespace Fl
open PySem PySem.Spec PyProof.Rows L2
theorem gg_comm (p q : Int) : gg p q = ((Int.gcd q p : Nat) : Int) := by
  unfold gg Int.gcd
  rw [Nat.gcd_comm]
theorem rp_num {p q : Int} (h : q ≠ 0) : rp p q = (Rat.divInt p q).num := by
  rw [Rat.num_divInt, ← gg_comm]
  have hg := gg_pos (p := p) h
  obtain ⟨k, hk⟩ := gg_dvd_l p q
  have e : p / gg p q = k := Int.ediv_eq_of_eq_mul_right (by omega) hk
  unfold rp
  rw [e]
  split
  · rename_i hq
    rw [Int.sign_eq_neg_one_of_neg hq]
    refine (Int.ediv_eq_of_eq_mul_right (by omega) ?_).symm
    rw [Int.mul_neg, ← hk, Int.neg_mul, Int.one_mul]
  · rw [Int.sign_eq_one_of_pos (by omega), Int.one_mul, e]
theorem rq_den {p q : Int} (h : q ≠ 0) : rq p q = ((Rat.divInt p q).den : Int) := by
  rw [Rat.den_divInt, if_neg h]
  have hg := gg_pos (p := p) h
  obtain ⟨k, hk⟩ := gg_dvd_r p q
  have e : q / gg p q = k := Int.ediv_eq_of_eq_mul_right (by omega) hk
  have e2 : ((q.natAbs / Int.gcd q p : Nat) : Int) = (q.natAbs : Int) / gg p q := by
    rw [gg_comm]
    exact Int.natCast_ediv _ _
  rw [e2]
  unfold rq
  rw [e]
  split
  · rename_i hq
    refine (Int.ediv_eq_of_eq_mul_right (by omega) ?_).symm
    rw [Int.mul_neg, ← hk]
    omega
  · refine (Int.ediv_eq_of_eq_mul_right (by omega) ?_).symm
    rw [← hk]
    omega
/-- the fraction x stands at a -/
def RV (K : PySem.W.Frag) (H : Hp) (a : Addr) (x : Rat) : Prop := SqT K H a [.int x.num, .int (x.den : Int)]
theorem RV.ex1 {K : PySem.W.Frag} {d : Addr} {H H' : Hp} {a : Addr} {x : Rat} (e : Ex1 d H H') (n : a ≠ d) (h : RV K H a x) : RV K H' a x := Ex1.t e n h
theorem RV.same {K : PySem.W.Frag} {H H' : Hp} {a : Addr} {x : Rat} (e : Same H H') (h : RV K H a x) : RV K H' a x := Same.t e h
theorem RV.sq {K : PySem.W.Frag} {H : Hp} {a : Addr} {x : Rat} (h : RV K H a x) : SqT K H a [.int x.num, .int (x.den : Int)] := h
/-- of moderate size -/
structure Md (x : Rat) : Prop where
  n : x.num.natAbs < 2 ^ 900
  d : x.den < 2 ^ 900
structure Szq (k : Nat) (x : Rat) : Prop where
  n : x.num.natAbs < 2 ^ k
  d : x.den < 2 ^ k
theorem Szq.md {k : Nat} {x : Rat} (h : Szq k x) (hk : k ≤ 900) : Md x :=
  ⟨Nat.lt_of_lt_of_le h.n (Nat.pow_le_pow_right (by decide) hk), Nat.lt_of_lt_of_le h.d (Nat.pow_le_pow_right (by decide) hk)⟩
theorem szq_div {p q : Int} {k : Nat} (h : q ≠ 0) (h1 : p.natAbs < 2 ^ k) (h2 : q.natAbs < 2 ^ k) : Szq k (Rat.divInt p q) := by
  have e1 := rp_abs p q h
  have e2 := rq_abs p q h
  rw [rp_num h] at e1
  rw [rq_den h] at e2
  exact ⟨by omega, by omega⟩
theorem pw_add {a b j k : Nat} (ha : a < 2 ^ j) (hb : b < 2 ^ k) : a * b < 2 ^ (j + k) := by
  rw [Nat.pow_add]
  exact Nat.mul_lt_mul'' ha hb
theorem add_div (x y : Rat) : Rat.divInt (x.num * y.den + y.num * x.den) ((x.den : Int) * y.den) = x + y := by
  rw [Rat.add_def', ← Rat.divInt_ofNat, Int.natCast_mul]
theorem sub_div (x y : Rat) : Rat.divInt (x.num * y.den - y.num * x.den) ((x.den : Int) * y.den) = x - y := by
  rw [Rat.sub_def', ← Rat.divInt_ofNat, Int.natCast_mul]
theorem mul_div' (x y : Rat) : Rat.divInt (x.num * y.num) ((x.den : Int) * y.den) = x * y := by
  rw [Rat.mul_def', ← Rat.divInt_ofNat, Int.natCast_mul]
theorem div_div' (x y : Rat) : Rat.divInt (x.num * y.den) ((x.den : Int) * y.num) = x / y := by
  rw [Rat.div_def, Rat.inv_def]
  conv => rhs; rw [← Rat.num_divInt_den x]
  rw [Rat.divInt_mul_divInt]
theorem den0 (x : Rat) : (x.den : Int) ≠ 0 := by
  have := x.den_nz
  omega
theorem sz_cross {x y : Rat} {j k : Nat} (hx : Szq j x) (hy : Szq k y) : (x.num * y.den).natAbs < 2 ^ (j + k) ∧ (y.num * x.den).natAbs < 2 ^ (j + k) ∧ ((x.den : Int) * y.den).natAbs < 2 ^ (j + k) ∧ (x.num * y.num).natAbs < 2 ^ (j + k) ∧ ((x.den : Int) * y.num).natAbs < 2 ^ (j + k) := by
  simp only [Int.natAbs_mul, Int.natAbs_natCast]
  refine ⟨pw_add hx.n hy.d, ?_, pw_add hx.d hy.d, pw_add hx.n hy.n, pw_add hx.d hy.n⟩
  rw [Nat.mul_comm]
  exact pw_add hx.d hy.n
theorem Szq.add {x y : Rat} {j k : Nat} (hx : Szq j x) (hy : Szq k y) : Szq (j + k + 1) (x + y) := by
  obtain ⟨h1, h2, h3, h4, h5⟩ := sz_cross hx hy
  rw [← add_div]
  have e : 2 ^ (j + k + 1) = 2 * 2 ^ (j + k) := by rw [Nat.pow_succ, Nat.mul_comm]
  exact szq_div (Int.mul_ne_zero (den0 x) (den0 y)) (by omega) (by omega)
theorem Szq.sub {x y : Rat} {j k : Nat} (hx : Szq j x) (hy : Szq k y) : Szq (j + k + 1) (x - y) := by
  obtain ⟨h1, h2, h3, h4, h5⟩ := sz_cross hx hy
  rw [← sub_div]
  have e : 2 ^ (j + k + 1) = 2 * 2 ^ (j + k) := by rw [Nat.pow_succ, Nat.mul_comm]
  exact szq_div (Int.mul_ne_zero (den0 x) (den0 y)) (by omega) (by omega)
theorem Szq.mul {x y : Rat} {j k : Nat} (hx : Szq j x) (hy : Szq k y) : Szq (j + k) (x * y) := by
  obtain ⟨h1, h2, h3, h4, h5⟩ := sz_cross hx hy
  rw [← mul_div']
  exact szq_div (Int.mul_ne_zero (den0 x) (den0 y)) (by omega) (by omega)
theorem num0 {x : Rat} (h : x ≠ 0) : x.num ≠ 0 := fun e => h (Rat.num_eq_zero.mp e)
theorem Szq.div {x y : Rat} {j k : Nat} (hx : Szq j x) (hy : Szq k y) (h : y ≠ 0) : Szq (j + k) (x / y) := by
  obtain ⟨h1, h2, h3, h4, h5⟩ := sz_cross hx hy
  rw [← div_div']
  exact szq_div (Int.mul_ne_zero (den0 x) (num0 h)) (by omega) (by omega)
def spRatP : Sp := spRat
def spBin (K : PySem.W.Frag) (f : Rat → Rat → Rat) (pre : Rat → Rat → Prop) : Sp := fun vs H Q _ => ∃ (a b : Addr) (x y : Rat), vs = [.ref a, .ref b] ∧ RV K H a x ∧ RV K H b y ∧ Md x ∧ Md y ∧ pre x y ∧
  ∀ t H', H t = none → Same H H' → RV K H' t (f x y) → Q (.ref t) H'
theorem bin_app {K : PySem.W.Frag} {f : Rat → Rat → Rat} {pre : Rat → Rat → Prop} {a b : Addr} {x y : Rat} {H : Hp} {Q : VK} {E : XK} (h1 : RV K H a x) (h2 : RV K H b y) (m1 : Md x) (m2 : Md y) (hp : pre x y)
  (k : ∀ t H', H t = none → Same H H' → RV K H' t (f x y) → Q (.ref t) H') : spBin K f pre [.ref a, .ref b] H Q E := ⟨a, b, x, y, rfl, h1, h2, m1, m2, hp, k⟩
def cq (x y : Rat) : Int := if x < y then -1 else if y < x then 1 else 0
def spCq (K : PySem.W.Frag) : Sp := fun vs H Q _ => ∃ (a b : Addr) (x y : Rat), vs = [.ref a, .ref b] ∧ RV K H a x ∧ RV K H b y ∧ Md x ∧ Md y ∧ Q (.int (cq x y)) H
theorem cq_app {K : PySem.W.Frag} {a b : Addr} {x y : Rat} {H : Hp} {Q : VK} {E : XK} (h1 : RV K H a x) (h2 : RV K H b y) (m1 : Md x) (m2 : Md y) (q : Q (.int (cq x y)) H) : spCq K [.ref a, .ref b] H Q E := ⟨a, b, x, y, rfl, h1, h2, m1, m2, q⟩
def nr (x : Rat) : Int := (2 * x.num + x.den) / (2 * x.den)
def spNr (K : PySem.W.Frag) : Sp := fun vs H Q _ => ∃ (a : Addr) (x : Rat), vs = [.ref a] ∧ RV K H a x ∧ Md x ∧ Q (.int (nr x)) H
theorem nr_app {K : PySem.W.Frag} {a : Addr} {x : Rat} {H : Hp} {Q : VK} {E : XK} (h1 : RV K H a x) (m1 : Md x) (q : Q (.int (nr x)) H) : spNr K [.ref a] H Q E := ⟨a, x, rfl, h1, m1, q⟩
def spRatq (K : PySem.W.Frag) : Sp := fun vs H Q _ => ∃ (p q : Int), vs = [.int p, .int q] ∧ q ≠ 0 ∧ p.natAbs < 2 ^ 1900 ∧ q.natAbs < 2 ^ 1900 ∧ ∀ t H', H t = none → Same H H' → RV K H' t (Rat.divInt p q) → Q (.ref t) H'
theorem ratq_app {K : PySem.W.Frag} {p q : Int} {H : Hp} {Q : VK} {E : XK} (h : q ≠ 0) (h1 : p.natAbs < 2 ^ 1900) (h2 : q.natAbs < 2 ^ 1900) (k : ∀ t H', H t = none → Same H H' → RV K H' t (Rat.divInt p q) → Q (.ref t) H') : spRatq K [.int p, .int q] H Q E := ⟨p, q, rfl, h, h1, h2, k⟩
/-- != of two fractions that are the same number -/
theorem ne_app {K : PySem.W.Frag} {a b : Addr} {x y : Rat} {H : Hp} {Q : VK} (h1 : RV K H a x) (h2 : RV K H b y) (e : x = y) (q : Q (.bl false) H) : rNeD K (.ref a) (.ref b) H Q := by
  subst e
  have d1 : ∀ {a : Addr}, RV K H a x → Dp K H (.ref a) (.tuple [.int x.num, .int x.den]) := fun h => .tup h (.cons (.int _) (.cons (.int _) .nil))
  refine ⟨_, _, d1 h1, d1 h2, rfl, rfl, ?_⟩
  have e2 : PyData.eqv (.tuple [.int x.num, .int x.den]) (.tuple [.int x.num, .int x.den]) = true := SeqAt.eqv_refl _ rfl
  rw [e2]
  exact q
theorem ne_of_num {x : Rat} (h : ¬ x.num = 0) : x ≠ 0 := fun e => h (by rw [e]; rfl)
end Fl
set_option Elab.async false
set_option linter.all false
set_option maxRecDepth 100000
set_option maxHeartbeats 4000000
set_option exponentiation.threshold 20000
namespace Fl
open PySem PySem.Spec PyProof.Rows L2
mutual
inductive Dq (S : List Addr) (H : Hp) : V → PyData → Prop
  | non : Dq S H .non .none
  | bl (b : Bool) : Dq S H (.bl b) (.bool b)
  | int (i : Int) : Dq S H (.int i) (.int i)
  | str (x : Str) : Dq S H (.str x) (.str x)
  | lst {a : Addr} {xs : List V} {ds : List PyData} : a ∉ S → H a = some (.lst xs) → DqA S H xs ds → Dq S H (.ref a) (.list ds)
  | tup {a : Addr} {xs : List V} {ds : List PyData} : a ∉ S → H a = some (.tup xs) → DqA S H xs ds → Dq S H (.ref a) (.tuple ds)
  | ins {a C dx : Addr} {fs : List (Str × V)} {ds : List (PyData × PyData)} : a ∉ S → H a = some (.ins C dx fs) → DqF S H fs ds → Dq S H (.ref a) (.dict ((.none, .int (C : Int)) :: ds))
inductive DqA (S : List Addr) (H : Hp) : List V → List PyData → Prop
  | nil : DqA S H [] []
  | cons {v : V} {vs : List V} {d : PyData} {ds : List PyData} : Dq S H v d → DqA S H vs ds → DqA S H (v :: vs) (d :: ds)
inductive DqF (S : List Addr) (H : Hp) : List (Str × V) → List (PyData × PyData) → Prop
  | nil : DqF S H [] []
  | cons {n : Str} {v : V} {fs : List (Str × V)} {d : PyData} {ds : List (PyData × PyData)} : Dq S H v d → DqF S H fs ds → DqF S H ((n, v) :: fs) ((.str n, d) :: ds)
end
mutual
theorem Dq.to {S S' : List Addr} {H H' : Hp} (k : ∀ a o, a ∉ S → H a = some o → a ∉ S' ∧ H' a = some o) : ∀ {v : V} {d : PyData}, Dq S H v d → Dq S' H' v d
  | _, _, .non => .non
  | _, _, .bl b => .bl b
  | _, _, .int i => .int i
  | _, _, .str x => .str x
  | _, _, .lst n h r => .lst (k _ _ n h).1 (k _ _ n h).2 (DqA.to k r)
  | _, _, .tup n h r => .tup (k _ _ n h).1 (k _ _ n h).2 (DqA.to k r)
  | _, _, .ins n h r => .ins (k _ _ n h).1 (k _ _ n h).2 (DqF.to k r)
theorem DqA.to {S S' : List Addr} {H H' : Hp} (k : ∀ a o, a ∉ S → H a = some o → a ∉ S' ∧ H' a = some o) : ∀ {vs : List V} {ds : List PyData}, DqA S H vs ds → DqA S' H' vs ds
  | _, _, .nil => .nil
  | _, _, .cons h r => .cons (Dq.to k h) (DqA.to k r)
theorem DqF.to {S S' : List Addr} {H H' : Hp} (k : ∀ a o, a ∉ S → H a = some o → a ∉ S' ∧ H' a = some o) : ∀ {fs : List (Str × V)} {ds : List (PyData × PyData)}, DqF S H fs ds → DqF S' H' fs ds
  | _, _, .nil => .nil
  | _, _, .cons h r => .cons (Dq.to k h) (DqF.to k r)
end
mutual
theorem Dq.dp {S : List Addr} {H : Hp} {K : PySem.W.Frag} : ∀ {v : V} {d : PyData}, Dq S H v d → d.hasDict = false → Dp K H v d
  | _, _, .non, _ => .non
  | _, _, .bl b, _ => .bl b
  | _, _, .int i, _ => .int i
  | _, _, .str x, _ => .str x
  | _, _, .lst _ h r, n => .lst (SqL.of h) (DqA.dp r (by simpa [PyData.hasDict] using n))
  | _, _, .tup _ h r, n => .tup (SqT.of h) (DqA.dp r (by simpa [PyData.hasDict] using n))
  | _, _, .ins _ _ _, n => by simp [PyData.hasDict] at n
theorem DqA.dp {S : List Addr} {H : Hp} {K : PySem.W.Frag} : ∀ {vs : List V} {ds : List PyData}, DqA S H vs ds → PyData.hasDictAll ds = false → DpAll K H vs ds
  | _, _, .nil, _ => .nil
  | _, _, .cons h r, n => .cons (Dq.dp h (by simp [PyData.hasDictAll] at n; exact n.1)) (DqA.dp r (by simp [PyData.hasDictAll] at n; exact n.2))
end
mutual
theorem nodict_lay : ∀ d : PyData, d.canLay0 = true → d.hasDict = false
  | .none, _ | .bool _, _ | .int _, _ | .str _, _ => rfl
  | .list xs, h => by
    simp only [PyData.hasDict]
    exact nodictAll_lay xs (by simpa [PyData.canLay0] using h)
  | .tuple xs, h => by
    simp only [PyData.hasDict]
    exact nodictAll_lay xs (by simpa [PyData.canLay0] using h)
  | .dict _, h => by simp [PyData.canLay0] at h
theorem nodictAll_lay : ∀ ds : List PyData, PyData.canLayAll0 ds = true → PyData.hasDictAll ds = false
  | [], _ => rfl
  | d :: ds, h => by
    simp [PyData.canLayAll0] at h
    simp [PyData.hasDictAll, nodict_lay d h.1, nodictAll_lay ds h.2]
end
theorem nodict_sh {d : PyData} (h : SeqAt.shaped d = true) : d.hasDict = false := by
  unfold SeqAt.shaped at h
  simp only [Bool.and_eq_true] at h
  exact nodict_lay d h.1
/-- all but what stands at S stands -/
def Fr (S : List Addr) (H H' : Hp) : Prop := ∀ a o, a ∉ S → H a = some o → H' a = some o
/-- these are there -/
def Al (S : List Addr) (H : Hp) : Prop := ∀ a, a ∈ S → H a ≠ none
section
variable {S T : List Addr} {H H' H2 : Hp} {a p D : Addr} {v : V} {d : PyData} {vs ws : List V} {ds es : List PyData} {o : HO}
theorem Fr.refl : Fr S H H := fun _ _ _ h => h
theorem Fr.trans (h : Fr S H H') (k : Fr S H' H2) : Fr S H H2 := fun a o n e => k a o n (h a o n e)
theorem Fr.mono (h : Fr S H H') (k : ∀ a, a ∈ S → a ∈ T) : Fr T H H' := fun a o n e => h a o (fun m => n (k a m)) e
theorem Fr.same (h : Same H H') : Fr S H H' := fun a o _ e => h a o e
theorem Fr.new (h : H p = none) : Fr S H (upd H p o) := Fr.same (Fl.Same.new h)
theorem Fr.upd (h : p ∈ S) : Fr S H (upd H p o) := fun a u n e => by
  rw [upd_ne (fun q => n (by rw [q]; exact h))]
  exact e
theorem Al.nil : Al [] H := fun a h => nomatch h
theorem Al.cons (h : H a ≠ none) (k : Al S H) : Al (a :: S) H := fun b m => by
  rcases List.mem_cons.mp m with rfl | m
  · exact h
  · exact k b m
theorem Al.same (k : Al S H) (e : Same H H') : Al S H' := fun b m q => by
  cases z : H b with
  | none => exact k b m z
  | some o => rw [e b o z] at q; cases q
theorem Al.fr (k : Al S H) (e : Fr T H H') (k2 : Al T H') : Al S H' := fun b m q => by
  by_cases hb : b ∈ T
  · exact k2 b hb q
  · cases z : H b with
    | none => exact k b m z
    | some o => rw [e b o hb z] at q; cases q
theorem Al.ni (k : Al S H) (e : H p = none) : p ∉ S := fun m => k p m e
theorem Dq.fr (h : Dq S H v d) (e : Fr S H H') : Dq S H' v d := h.to fun a o n q => ⟨n, e a o n q⟩
theorem Dq.same (h : Dq S H v d) (e : Same H H') : Dq S H' v d := h.fr (Fr.same e)
theorem Dq.mono (h : Dq S H v d) (k : ∀ a, a ∈ T → a ∈ S) : Dq T H v d := h.to fun a o n q => ⟨fun m => n (k a m), q⟩
theorem Dq.new (h : Dq S H v d) (e : H D = none) : Dq (D :: S) H v d := h.to fun a o n q => ⟨fun m => by
  rcases List.mem_cons.mp m with rfl | m
  · rw [e] at q; cases q
  · exact n m, q⟩
theorem Dq.tail (h : Dq (D :: S) H v d) : Dq S H v d := h.mono fun _ m => List.mem_cons_of_mem _ m
theorem DqA.fr (h : DqA S H vs ds) (e : Fr S H H') : DqA S H' vs ds := h.to fun a o n q => ⟨n, e a o n q⟩
theorem DqA.same (h : DqA S H vs ds) (e : Same H H') : DqA S H' vs ds := h.fr (Fr.same e)
theorem DqA.mono (h : DqA S H vs ds) (k : ∀ a, a ∈ T → a ∈ S) : DqA T H vs ds := h.to fun a o n q => ⟨fun m => n (k a m), q⟩
theorem DqA.new (h : DqA S H vs ds) (e : H D = none) : DqA (D :: S) H vs ds := h.to fun a o n q => ⟨fun m => by
  rcases List.mem_cons.mp m with rfl | m
  · rw [e] at q; cases q
  · exact n m, q⟩
theorem DqA.tail (h : DqA (D :: S) H vs ds) : DqA S H vs ds := h.mono fun _ m => List.mem_cons_of_mem _ m
theorem DqA.len : ∀ {vs : List V} {ds : List PyData}, DqA S H vs ds → vs.length = ds.length
  | _, _, .nil => rfl
  | _, _, .cons _ r => congrArg (· + 1) (DqA.len r)
theorem DqA.app : ∀ {vs : List V} {ds : List PyData}, DqA S H vs ds → DqA S H ws es → DqA S H (vs ++ ws) (ds ++ es)
  | _, _, .nil, k => k
  | _, _, .cons h r, k => .cons h (DqA.app r k)
theorem DqA.one (h : Dq S H v d) : DqA S H [v] [d] := .cons h .nil
theorem DqA.drop : ∀ {vs : List V} {ds : List PyData} (n : Nat), DqA S H vs ds → DqA S H (vs.drop n) (ds.drop n)
  | _, _, 0, h => h
  | _, _, _ + 1, .nil => .nil
  | _, _, n + 1, .cons _ r => DqA.drop n r
theorem DqA.take : ∀ {vs : List V} {ds : List PyData} (n : Nat), DqA S H vs ds → DqA S H (vs.take n) (ds.take n)
  | _, _, 0, _ => .nil
  | _, _, _ + 1, .nil => .nil
  | _, _, n + 1, .cons h r => .cons h (DqA.take n r)
theorem DqA.get : ∀ {vs : List V} {ds : List PyData} {i : Nat}, DqA S H vs ds → vs[i]? = some v → ∃ d, ds[i]? = some d ∧ Dq S H v d
  | _, _, _, .nil, e => by simp at e
  | _, _, 0, .cons h _, e => by simp at e; subst e; exact ⟨_, rfl, h⟩
  | _, _, i + 1, .cons _ r, e => by
    obtain ⟨d, h1, h2⟩ := DqA.get (i := i) r (by simpa using e)
    exact ⟨d, by simpa using h1, h2⟩
theorem DqA.getD : ∀ {vs : List V} {ds : List PyData} {i : Nat}, DqA S H vs ds → ds[i]? = some d → ∃ v, vs[i]? = some v ∧ Dq S H v d
  | _, _, _, .nil, e => by simp at e
  | _, _, 0, .cons h _, e => by simp at e; subst e; exact ⟨_, rfl, h⟩
  | _, _, i + 1, .cons _ r, e => by
    obtain ⟨v, h1, h2⟩ := DqA.getD (i := i) r (by simpa using e)
    exact ⟨v, by simpa using h1, h2⟩
theorem Dq.lstE (h : Dq S H v (.list ds)) : ∃ a xs, v = .ref a ∧ a ∉ S ∧ H a = some (.lst xs) ∧ DqA S H xs ds := by
  cases h with
  | lst n q r => exact ⟨_, _, rfl, n, q, r⟩
theorem Dq.tupE (h : Dq S H v (.tuple ds)) : ∃ a xs, v = .ref a ∧ a ∉ S ∧ H a = some (.tup xs) ∧ DqA S H xs ds := by
  cases h with
  | tup n q r => exact ⟨_, _, rfl, n, q, r⟩
theorem Dq.intE {i : Int} (h : Dq S H v (.int i)) : v = .int i := by cases h; rfl
theorem Dq.blE {b : Bool} (h : Dq S H v (.bool b)) : v = .bl b := by cases h; rfl
theorem Dq.nonE (h : Dq S H v .none) : v = .non := by cases h; rfl
theorem DqA.nilE (h : DqA S H vs []) : vs = [] := by cases h; rfl
theorem DqA.consE (h : DqA S H vs (d :: ds)) : ∃ v ws, vs = v :: ws ∧ Dq S H v d ∧ DqA S H ws ds := by
  cases h with
  | cons h r => exact ⟨_, _, rfl, h, r⟩
end
/-- a new list or tuple of data -/
theorem Dq.newL {S : List Addr} {H : Hp} {p : Addr} {xs : List V} {ds : List PyData} (k : Al S H) (e : H p = none) (h : DqA S H xs ds) : Dq S (upd H p (.lst xs)) (.ref p) (.list ds) :=
  .lst (k.ni e) upd_same (h.fr (Fr.new e))
theorem Dq.newT {S : List Addr} {H : Hp} {p : Addr} {xs : List V} {ds : List PyData} (k : Al S H) (e : H p = none) (h : DqA S H xs ds) : Dq S (upd H p (.tup xs)) (.ref p) (.tuple ds) :=
  .tup (k.ni e) upd_same (h.fr (Fr.new e))
/-- a function of data: nothing that stands is changed -/
def spD (f : List PyData → PyData → Prop) : Sp := fun vs H Q _ => ∃ S ds d, Al S H ∧ DqA S H vs ds ∧ f ds d ∧ ∀ v H', Same H H' → Dq S H' v d → Q v H'
theorem spD_app {f : List PyData → PyData → Prop} {vs : List V} {H : Hp} {Q : VK} {E : XK} (S : List Addr) (ds : List PyData) (d : PyData) (hS : Al S H) (hd : DqA S H vs ds) (hf : f ds d) (q : ∀ v H', Same H H' → Dq S H' v d → Q v H') : spD f vs H Q E :=
  ⟨S, ds, d, hS, hd, hf, q⟩
abbrev Pt := Int × Int × Bool
def ptD (p : Pt) : PyData := .tuple [.int p.1, .int p.2.1, .bool p.2.2]
def ctD (c : List Pt) : PyData := .list (c.map ptD)
def ouD (o : List (List Pt)) : PyData := .list (o.map ctD)
theorem ptE {S : List Addr} {H : Hp} {v : V} {p : Pt} (h : Dq S H v (ptD p)) : ∃ a, v = .ref a ∧ a ∉ S ∧ H a = some (.tup [.int p.1, .int p.2.1, .bl p.2.2]) := by
  obtain ⟨a, xs, rfl, n, q, r⟩ := h.tupE
  obtain ⟨x1, w1, rfl, h1, r⟩ := r.consE
  obtain ⟨x2, w2, rfl, h2, r⟩ := r.consE
  obtain ⟨x3, w3, rfl, h3, r⟩ := r.consE
  cases r.nilE
  cases h1.intE
  cases h2.intE
  cases h3.blE
  exact ⟨a, rfl, n, q⟩
section
variable {H1 : Hp} {Q : VK} {g : TG} {tt : TT} {te : TE} {tb : TS} {vs : List Nat} {σ : L2.St} {D : Ends}
/-- what is left of a comprehension when it is known what is walked -/
def lcK (J : It) (g : TG) (tt : TT) (te : TE) (vs : List Nat) (σ : L2.St) (H1 : Hp) (Q : VK) : Prop :=
  ∀ B, H1 B = none → ∃ W : Nat → Nat → Hp → Prop, (∃ m, W 0 m (upd H1 B (.lst []))) ∧ ∀ i m H, W i m H →
    (J.stop i H ∧ Q (.ref B) H) ∨ (J.go i H ∧ ∃ Nx : Hp → Prop, (∀ H', Nx H' → ∃ m', m' < m ∧ W (i + 1) m' H') ∧
      ∀ x H', J.yld i H x H' → g x (wipe σ vs) H' fun σ2 H2 => wipe σ2 vs = wipe σ vs ∧ tt σ2 H2 fun b H3 =>
        if b = true then te σ2 H3 fun y H4 => ∃ acc, H4 B = some (.lst acc) ∧ acc.length < sizeLine ∧ Nx (upd H4 B (.lst (acc ++ [y]))) else Nx H3)
/-- the same of a loop -/
def forK (J : It) (g : TG) (tb : TS) (D : Ends) (σ : L2.St) (H1 : Hp) : Prop :=
  ∃ W : Nat → Nat → L2.St → Hp → Prop, (∃ m, W 0 m σ H1) ∧ ∀ i m σ H, W i m σ H →
    (J.stop i H ∧ D.nx σ H) ∨ (J.go i H ∧ ∃ N : L2.St → Hp → Prop, (∀ σ' H', N σ' H' → ∃ m', m' < m ∧ W (i + 1) m' σ' H') ∧
      ∀ x H', J.yld i H x H' → g x σ H' fun σ2 H2 => tb { D with nx := N, ct := N, bk := D.nx } σ2 H2)
end
section
variable {S : List Addr} {H1 : Hp} {K : PySem.W.Frag} {g : TG} {tt : TT} {te : TE} {vs : List Nat} {σ : L2.St} {Q : VK}
theorem fm_succ {f : Nat → Option PyData} (i : Nat) : (List.range (i + 1)).filterMap f = (List.range i).filterMap f ++ (f i).toList := by
  rw [List.range_succ, List.filterMap_append]
  cases h : f i <;> simp [h]
theorem sm_of {D : Addr} {H : Hp} (hD : H1 D = none) (f : Fr [D] H1 H) : Same H1 H := fun b o q => f b o (fun m => by
  have : b = D := by simpa using m
  rw [this, hD] at q; cases q) q
/-- the list D at turn i: the items that f has given so far -/
structure CompAt (S : List Addr) (H1 : Hp) (D : Addr) (f : Nat → Option PyData) (i : Nat) (H : Hp) : Prop where
  ex : ∃ acc, H D = some (.lst acc) ∧ DqA (D :: S) H acc ((List.range i).filterMap f)
  fr : Fr [D] H1 H
theorem CompAt.zero {D : Addr} {f : Nat → Option PyData} (hD : H1 D = none) : CompAt S H1 D f 0 (upd H1 D (.lst [])) := ⟨⟨[], upd_same, .nil⟩, Fr.same (Fl.Same.new hD)⟩
theorem CompAt.same {D : Addr} {f : Nat → Option PyData} {i : Nat} {H H' : Hp} (h : CompAt S H1 D f i H) (e : Same H H') : CompAt S H1 D f i H' := by
  obtain ⟨⟨acc, h1, h2⟩, h3⟩ := h
  exact ⟨⟨acc, e _ _ h1, h2.same e⟩, h3.trans (Fr.same e)⟩
theorem CompAt.skip {D : Addr} {f : Nat → Option PyData} {i : Nat} {H : Hp} (h : CompAt S H1 D f i H) (e : f i = none) : CompAt S H1 D f (i + 1) H := by
  obtain ⟨⟨acc, h1, h2⟩, h3⟩ := h
  refine ⟨⟨acc, h1, ?_⟩, h3⟩
  rw [fm_succ, e]
  simpa using h2
theorem CompAt.len {D : Addr} {f : Nat → Option PyData} {i : Nat} {H : Hp} (h : CompAt S H1 D f i H) (hi : i < 1000) : ∀ acc, H D = some (.lst acc) → acc.length < sizeLine := by
  obtain ⟨⟨acc, h1, h2⟩, h3⟩ := h
  intro acc' h'
  rw [h1] at h'
  cases h'
  have e := h2.len
  have e2 := List.length_filterMap_le f (List.range i)
  rw [List.length_range] at e2
  have : (1000 : Nat) ≤ sizeLine := by decide
  omega
theorem CompAt.put {D : Addr} {f : Nat → Option PyData} {i : Nat} {H H4 : Hp} {y : V} {r : PyData} (h : CompAt S H1 D f i H) (hi : i < 1000) (e : f i = some r) (s : Same H H4) (d : Dq (D :: S) H4 y r) :
    ∃ acc, H4 D = some (.lst acc) ∧ acc.length < sizeLine ∧ CompAt S H1 D f (i + 1) (upd H4 D (.lst (acc ++ [y]))) := by
  have h4 := h.same s
  obtain ⟨⟨acc, h1, h2⟩, h3⟩ := h4
  refine ⟨acc, h1, (h.same s).len hi acc h1, ⟨acc ++ [y], upd_same, ?_⟩, h3.trans (Fr.upd (by simp))⟩
  rw [fm_succ, e]
  exact (h2.app (.one d)).fr (Fr.upd (by simp))
theorem CompAt.al {D : Addr} {f : Nat → Option PyData} {i : Nat} {H : Hp} (h : CompAt S H1 D f i H) (hS : Al S H1) (hD : H1 D = none) : Al (D :: S) H := by
  obtain ⟨⟨acc, h1, h2⟩, h3⟩ := h
  exact .cons (by rw [h1]; simp) (hS.same (sm_of hD h3))
theorem CompAt.fin {D : Addr} {f : Nat → Option PyData} {i : Nat} {H : Hp} (h : CompAt S H1 D f i H) (hS : Al S H1) (hD : H1 D = none) : Dq S H (.ref D) (.list ((List.range i).filterMap f)) := by
  obtain ⟨⟨acc, h1, h2⟩, h3⟩ := h
  exact .lst (hS.ni hD) h1 h2.tail
/-- [elt for x in list if test], nothing changed: es the items, f what becomes of each -/
theorem lcL {a : Addr} {es : List PyData} (f : Nat → Option PyData) (hS : Al S H1) (ha : Dq S H1 (.ref a) (.list es)) (hz : es.length < 1000)
    (step : ∀ (D : Addr) (i : Nat) (x : V) (e : PyData) (H : Hp), H1 D = none → es[i]? = some e → Same H1 H → Al (D :: S) H → Dq (D :: S) H x e →
      ∀ (R : V → Hp → Prop) (N : Hp → Prop), (∀ r y H4, f i = some r → Same H H4 → Dq (D :: S) H4 y r → R y H4) → (f i = none → ∀ H4, Same H H4 → N H4) →
      g x (wipe σ vs) H fun σ2 H2 => wipe σ2 vs = wipe σ vs ∧ tt σ2 H2 fun b H3 => if b = true then te σ2 H3 R else N H3)
    (q : ∀ (D : Addr) (H : Hp), Same H1 H → H1 D = none → Dq S H (.ref D) (.list ((List.range es.length).filterMap f)) → Q (.ref D) H) :
    lcK (Itl K a) g tt te vs σ H1 Q := by
  unfold lcK
  intro D hD
  obtain ⟨a', xs, ea, na, hxs, hall⟩ := ha.lstE
  cases ea
  have hlx := hall.len
  have hDa : a ≠ D := fun e => by rw [e, hD] at hxs; cases hxs
  refine lc_list (xs := xs) (CompAt S H1 D f) (CompAt.zero hD) ?_ ?_ ?_
  · intro i H _ h
    exact SqL.of (h.fr a _ (by simpa using hDa) hxs)
  · intro i x H hx h
    have hlt : i < xs.length := (List.getElem?_eq_some_iff.mp hx).1
    have hsm : Same H1 H := sm_of hD h.fr
    have hall' : DqA (D :: S) H xs es := (hall.new hD).same hsm
    obtain ⟨e, he, hxe⟩ := hall'.get hx
    exact step D i x e H hD he hsm (h.al hS hD) hxe _ _ (fun r y H4 er s d => h.put (by omega) er s d) fun en H4 s => (h.same s).skip en
  · intro H h
    rw [hlx] at h
    exact q D H (sm_of hD h.fr) hD (h.fin hS hD)
/-- the same over range(lo, ..) of n numbers -/
theorem lcR {lo : Int} {n : Nat} (f : Nat → Option PyData) (hS : Al S H1) (hz : n < 1000)
    (step : ∀ (D : Addr) (i : Nat) (H : Hp), H1 D = none → i < n → Same H1 H → Al (D :: S) H →
      ∀ (R : V → Hp → Prop) (N : Hp → Prop), (∀ r y H4, f i = some r → Same H H4 → Dq (D :: S) H4 y r → R y H4) → (f i = none → ∀ H4, Same H H4 → N H4) →
      g (.int (lo + i)) (wipe σ vs) H fun σ2 H2 => wipe σ2 vs = wipe σ vs ∧ tt σ2 H2 fun b H3 => if b = true then te σ2 H3 R else N H3)
    (q : ∀ (D : Addr) (H : Hp), Same H1 H → H1 D = none → Dq S H (.ref D) (.list ((List.range n).filterMap f)) → Q (.ref D) H) :
    lcK (Itr lo n) g tt te vs σ H1 Q := by
  unfold lcK
  intro D hD
  refine lc_range (CompAt S H1 D f) (CompAt.zero hD) ?_ ?_
  · intro i H hlt h
    exact step D i H hD hlt (sm_of hD h.fr) (h.al hS hD) _ _ (fun r y H4 er s d => h.put (by omega) er s d) fun en H4 s => (h.same s).skip en
  · intro H h
    exact q D H (sm_of hD h.fr) hD (h.fin hS hD)
theorem fm_take (rs : List PyData) : ∀ n : Nat, (List.range n).filterMap (fun i => rs[i]?) = rs.take n
  | 0 => by simp
  | n + 1 => by rw [fm_succ, fm_take rs n, List.take_succ]
theorem fm_map {es rs : List PyData} (hl : rs.length = es.length) : (List.range es.length).filterMap (fun i => rs[i]?) = rs := by
  rw [fm_take, List.take_of_length_le (by omega)]
end
def Dk (d s : Addr) (ns : List Int) (H : Hp) : Prop := s ≠ d ∧ H s = some (.lst (ns.map V.int)) ∧ ∃ pos rest seed : Int, H d = some (.lst [.ref s, .int pos, .int rest, .int seed]) ∧ 0 ≤ pos
/-- only what stands at d is another -/
def On (d : Addr) (H H' : Hp) : Prop := ∀ b, b ≠ d → H' b = H b
section
variable {d s D : Addr} {ns : List Int} {H H' H2 : Hp} {o : HO} {S : List Addr}
theorem On.refl : On d H H := fun _ _ => rfl
theorem On.trans (h : On d H H') (k : On d H' H2) : On d H H2 := fun b n => (k b n).trans (h b n)
theorem On.upd : On d H (upd H d o) := fun b n => upd_ne n
theorem On.fr (h : On d H H') : Fr [d] H H' := fun a u n e => by
  rw [h a (by simpa using n)]
  exact e
theorem On.frS (h : On d H H') (m : d ∈ S) : Fr S H H' := h.fr.mono fun a k => by
  rw [show a = d by simpa using k]
  exact m
theorem Dk.hd (h : Dk d s ns H) : H d ≠ none := by
  obtain ⟨_, _, _, _, _, e, _⟩ := h
  rw [e]
  simp
theorem Dk.hs (h : Dk d s ns H) : H s ≠ none := by
  obtain ⟨_, e, _⟩ := h
  rw [e]
  simp
theorem Dk.fr (h : Dk d s ns H) (e : Fr S H H') (h1 : d ∉ S) (h2 : s ∉ S) : Dk d s ns H' := by
  obtain ⟨a, b, p, r, q, c, e0⟩ := h
  exact ⟨a, e _ _ h2 b, p, r, q, e _ _ h1 c, e0⟩
theorem Dk.same (h : Dk d s ns H) (e : Same H H') : Dk d s ns H' := h.fr (S := []) (Fr.same e) (by simp) (by simp)
theorem Dk.put (h : Dk d s ns H) (hD : D ≠ d) (hs : D ≠ s) : Dk d s ns (upd H D o) := h.fr (S := [D]) (Fr.upd (by simp)) (by simpa using hD.symm) (by simpa using hs.symm)
theorem Dk.ned (h : Dk d s ns H) (hD : H D = none) : D ≠ d := fun e => h.hd (e ▸ hD)
theorem Dk.nes (h : Dk d s ns H) (hD : H D = none) : D ≠ s := fun e => h.hs (e ▸ hD)
end
def spDk (K : PySem.W.Frag) : Sp := fun vs H Q _ => ∃ (a : Addr) (ns : List Int), vs = [.ref a] ∧ SqL K H a (ns.map V.int) ∧ ∀ d s H', Same H H' → Dk d s ns H' → Q (.ref d) H'
def spDr : Sp := fun vs H Q _ => ∃ (d s : Addr) (ns : List Int) (m : Int), vs = [.ref d, .int m] ∧ Dk d s ns H ∧ 0 < m ∧ m < 10 ^ 62 ∧ ∀ v H', 0 ≤ v → v < m → Dk d s ns H' → On d H H' → Q (.int v) H'
theorem dr_app {d s : Addr} {ns : List Int} {m : Int} {H : Hp} {Q : VK} {E : XK} (h : Dk d s ns H) (h1 : 0 < m) (h2 : m < 10 ^ 62) (k : ∀ v H', 0 ≤ v → v < m → Dk d s ns H' → On d H H' → Q (.int v) H') : spDr [.ref d, .int m] H Q E := ⟨d, s, ns, m, rfl, h, h1, h2, k⟩
/-- how far a point lies -/
def PtIn (b : Int) (p : Pt) : Prop := -b ≤ p.1 ∧ p.1 ≤ b ∧ -b ≤ p.2.1 ∧ p.2.1 ≤ b
section
variable {σ : L2.St} {H H' H2 : Hp} {Q : VK} {v x y : V} {ta tb tc te : TE} {K : PySem.W.Frag} {p a b l : Addr} {xs zs : List V} {o : HO}
theorem raw_new (h : H p = none) (e : H a = some o) {u : HO} : upd H p u a = some o := Fl.Same.new h a o e
theorem raw_same (h : Same H H') (e : H a = some o) : H' a = some o := h a o e
theorem Dq.newH {S : List Addr} {d : PyData} {u : HO} (e : H p = none) (h : Dq S H v d) : Dq S (upd H p u) v d := h.same (Fl.Same.new e)
theorem DqA.newH {S : List Addr} {vs : List V} {ds : List PyData} {u : HO} (e : H p = none) (h : DqA S H vs ds) : DqA S (upd H p u) vs ds := h.same (Fl.Same.new e)
theorem Al.newH {S : List Addr} {u : HO} (e : H p = none) (h : Al S H) : Al S (upd H p u) := h.same (Fl.Same.new e)
theorem g_sl {r : V → Option Int → Option Int → Hp → VK → Prop} {tl th : TO} (h : te σ H fun x H1 => tl σ H1 fun l H2 => th σ H2 fun u H3 => r x l u H3 Q) : L2.tSl r te tl th σ H Q := h
theorem g_part {QO : Option Int → Hp → Prop} (h : te σ H fun x H1 => ∃ i, x = .int i ∧ QO (some i) H1) : tPart te σ H QO := h
theorem g_nop {QO : Option Int → Hp → Prop} (h : QO none H) : tNoPart σ H QO := h
theorem g_ei {i : Int} {R : Int → Prop} (q : R i) : ∃ j, V.int i = .int j ∧ R j := ⟨i, rfl, q⟩
theorem g_slL {lo hi : Option Int} (h : SqL K H a xs) (q : ∀ p, H p = none → Q (.ref p) (upd H p (.lst (cutV xs lo hi)))) : rSlL K (.ref a) lo hi H Q := ⟨a, xs, rfl, h, q⟩
theorem g_slT {lo hi : Option Int} (h : SqT K H a xs) (n : ¬ (HT.sIx xs.length 0 lo = 0 ∧ HT.sIx xs.length xs.length hi = xs.length)) (q : ∀ p, H p = none → Q (.ref p) (upd H p (.tup (cutV xs lo hi)))) : rSlT K (.ref a) lo hi H Q := ⟨a, xs, rfl, h, n, q⟩
theorem cut_from (k : Nat) : cutV xs (some (k : Int)) none = xs.drop k := by
  show (xs.drop (HT.sIx xs.length 0 (some (k : Int)))).take (HT.sIx xs.length xs.length none - HT.sIx xs.length 0 (some (k : Int))) = _
  rw [HT.sIx_nat, HT.sIx_none]
  rcases Nat.le_total k xs.length with h | h
  · rw [Nat.min_eq_left h, List.take_of_length_le (by rw [List.length_drop]; omega)]
  · rw [Nat.min_eq_right h, Nat.sub_self, List.take_zero, List.drop_of_length_le h]
theorem cut_to (k : Nat) : cutV xs none (some (k : Int)) = xs.take k := by
  show (xs.drop (HT.sIx xs.length 0 none)).take (HT.sIx xs.length xs.length (some (k : Int)) - HT.sIx xs.length 0 none) = _
  rw [HT.sIx_nat, HT.sIx_none, List.drop_zero, Nat.sub_zero]
  rcases Nat.le_total k xs.length with h | h
  · rw [Nat.min_eq_left h]
  · rw [Nat.min_eq_right h, List.take_of_length_le (Nat.le_refl _), List.take_of_length_le h]
theorem cut_last : cutV xs none (some (-1)) = xs.dropLast := by
  show (xs.drop (HT.sIx xs.length 0 none)).take (HT.sIx xs.length xs.length (some (-1)) - HT.sIx xs.length 0 none) = _
  rw [HT.sIx_none, List.drop_zero, Nat.sub_zero, List.dropLast_eq_take]
  congr 1
  show (if (-1 : Int) < 0 then ((-1 : Int) + (xs.length : Int)).toNat else min (-1 : Int).toNat xs.length) = _
  rw [if_pos (by decide)]
  omega
theorem cut_fromLast : cutV xs (some (-1)) none = xs.drop (xs.length - 1) := by
  show (xs.drop (HT.sIx xs.length 0 (some (-1)))).take (HT.sIx xs.length xs.length none - HT.sIx xs.length 0 (some (-1))) = _
  have e : HT.sIx xs.length 0 (some (-1)) = xs.length - 1 := by
    show (if (-1 : Int) < 0 then ((-1 : Int) + (xs.length : Int)).toNat else min (-1 : Int).toNat xs.length) = _
    rw [if_pos (by decide)]
    omega
  rw [e, HT.sIx_none, List.take_of_length_le (by rw [List.length_drop]; omega)]
theorem g_cat (h1 : H l = some (.lst xs)) (h2 : H b = some (.lst zs)) (hz : xs.length + zs.length ≤ 2000) (q : ∀ p, H p = none → Q (.ref p) (upd H p (.lst (xs ++ zs)))) : rCat (.ref l) (.ref b) H Q :=
  ⟨l, b, xs, zs, rfl, rfl, h1, h2, Nat.le_trans hz (by decide), q⟩
end
def beg (c : List α) (k : Nat) : List α := c.drop k ++ c.take k
section
variable {d s D : Addr} {ns : List Int} {H H' H1 H2 : Hp} {o : HO} {S : List Addr} {a : Addr} {v : V} {e : PyData}
theorem raw_on (h : On d H H') (n : a ≠ d) (e : H a = some o) : H' a = some o := by rw [h a n]; exact e
theorem raw_frd (h : Fr [d] H H') (n : a ≠ d) (e : H a = some o) : H' a = some o := h a o (by simpa using n) e
theorem Dq.frd (h : Fr [d] H H') (m : d ∈ S) (k : Dq S H v e) : Dq S H' v e := k.fr (h.mono fun a q => by
  rw [show a = d by simpa using q]
  exact m)
theorem Al.frd (h : Fr [d] H H') (k : Dk d s ns H') (q : Al S H) : Al S H' := q.fr h (.cons k.hd .nil)
/-- an outline that was drawn -/
structure OuIn (least : Nat) (far : Int) (o : List (List Pt)) : Prop where
  len : o.length ≤ 3
  cs : ∀ c, c ∈ o → least ≤ c.length ∧ c.length ≤ least + 5 ∧ ∀ p, p ∈ c → PtIn far p
end
theorem g_sz {n : Nat} {A : Prop} (hn : n ≤ 1000) (h : A) : n ≤ sizeLine ∧ A := ⟨Nat.le_trans hn (by decide), h⟩
section
variable {S : List Addr} {d s p : Addr} {ns : List Int} {H H' H2 : Hp} {v : V} {e : PyData} {u o : HO} {vs : List V} {es : List PyData}
theorem Dk.newH (h : H p = none) (k : Dk d s ns H) : Dk d s ns (upd H p u) := k.same (Fl.Same.new h)
theorem Dk.sm (h : Same H H') (k : Dk d s ns H) : Dk d s ns H' := k.same h
theorem Dq.sm (h : Same H H') (k : Dq S H v e) : Dq S H' v e := k.same h
theorem DqA.sm (h : Same H H') (k : DqA S H vs es) : DqA S H' vs es := k.same h
theorem Al.sm (h : Same H H') (k : Al S H) : Al S H' := k.same h
theorem Dq.ond (h : On d H H') (m : d ∈ S) (k : Dq S H v e) : Dq S H' v e := Dq.frd h.fr m k
theorem Al.ond (h : On d H H') (k : Dk d s ns H') (q : Al S H) : Al S H' := Al.frd h.fr k q
theorem Same.newT (h : H2 p = none) (k : Same H H2) : Same H (upd H2 p u) := L2.Same.trans k (Fl.Same.new h)
theorem Same.sm (h : Same H2 H') (k : Same H H2) : Same H H' := L2.Same.trans k h
theorem Fr.newT (h : H2 p = none) (k : Fr S H H2) : Fr S H (L2.upd H2 p u) := k.trans (Fr.new h)
theorem Fr.ond (h : On d H2 H') (k : Fr [d] H H2) : Fr [d] H H' := k.trans h.fr
theorem Fr.smT (h : Same H2 H') (k : Fr S H H2) : Fr S H H' := k.trans (Fr.same h)
theorem Fr.frT (h : Fr S H2 H') (k : Fr S H H2) : Fr S H H' := k.trans h
end
theorem Dk.ned2 {d s D : Addr} {ns : List Int} {H : Hp} (hD : H D = none) (h : Dk d s ns H) : D ≠ d := h.ned hD
theorem g_name {i : Nat} {v : V} {σ : L2.St} {H : Hp} {Q : L2.St → Hp → Prop} (q : Q (σ.set i (some v)) H) : gName i v σ H Q := q
theorem g_bm {K : PySem.W.Frag} {T : String} {r : V → List V → Hp → VK → Prop} {to : TE} {t : TA} {σ : L2.St} {H : Hp} {Q : VK} (h : to σ H fun x H1 => tyV K T x H1 ∧ t σ H1 fun xs H2 => r x xs H2 Q) : tBM K T r to t σ H Q := h
theorem g_app {l : Addr} {xs : List V} {y : V} {H : Hp} {Q : VK} (h : H l = some (.lst xs)) (hz : xs.length < 2000) (q : Q .non (upd H l (.lst (xs ++ [y])))) : rAppend (.ref l) [y] H Q := ⟨l, xs, y, rfl, rfl, h, Nat.lt_of_lt_of_le hz (by decide), q⟩
theorem g_ext {l b : Addr} {xs zs : List V} {H : Hp} {Q : VK} (h : H l = some (.lst xs)) (h2 : H b = some (.lst zs)) (hz : xs.length + zs.length ≤ 2000) (q : Q .non (upd H l (.lst (xs ++ zs)))) : rExtend (.ref l) [.ref b] H Q := ⟨l, b, xs, zs, rfl, rfl, h, h2, Nat.le_trans hz (by decide), q⟩
section
variable {K : PySem.W.Frag} {σ : L2.St} {H H1 : Hp} {Q : VK} {g : TG} {tt : TT} {te tx ty : TE} {tb : TS} {vs : List Nat} {D : Ends} {wi : TI} {R : It → Hp → Prop} {a b : Addr} {xs ys : List V}
theorem g_tyL {A : Prop} (h : SqL K H a xs) (q : A) : tyV K "list" (.ref a) H ∧ A := ⟨.inl ⟨rfl, _, h⟩, q⟩
theorem g_lc (h : wi σ H fun J H1 => lcK J g tt te vs σ H1 Q) : tLc wi g tt te vs σ H Q := h
theorem g_for (h : wi σ H fun J H1 => forK J g tb D σ H1) : tFor wi g tb D σ H := h
theorem g_rng1 (h : te σ H fun x H1 => ∃ j : Int, [x] = [V.int j] ∧ -(2 ^ 62) ≤ j ∧ j < 2 ^ 62 ∧ R (Itr 0 j.toNat) H1) : iRng1 (tCons te tNil) σ H R := h
theorem g_rng2 (h : tx σ H fun x H1 => ty σ H1 fun y H2 => ∃ i j : Int, [x, y] = [V.int i, V.int j] ∧ (-(2 ^ 62) ≤ i ∧ i < 2 ^ 62 ∧ -(2 ^ 62) ≤ j ∧ j < 2 ^ 62) ∧ R (Itr i (j - i).toNat) H2) : iRng2 (tCons tx (tCons ty tNil)) σ H R := h
theorem g_e1 {n : Int} {Z : Int → Prop} (h1 : -(2 ^ 62) ≤ n) (h2 : n < 2 ^ 62) (q : Z n) : ∃ j : Int, [V.int n] = [V.int j] ∧ -(2 ^ 62) ≤ j ∧ j < 2 ^ 62 ∧ Z j := ⟨n, rfl, h1, h2, q⟩
theorem g_e2 {i j : Int} {Z : Int → Int → Prop} (h : -(2 ^ 62) ≤ i ∧ i < 2 ^ 62 ∧ -(2 ^ 62) ≤ j ∧ j < 2 ^ 62) (q : Z i j) : ∃ k l : Int, [V.int i, V.int j] = [V.int k, V.int l] ∧ (-(2 ^ 62) ≤ k ∧ k < 2 ^ 62 ∧ -(2 ^ 62) ≤ l ∧ l < 2 ^ 62) ∧ Z k l := ⟨i, j, rfl, h, q⟩
theorem g_il (h : te σ H fun x H1 => ∃ a, x = .ref a ∧ (∃ xs, SqL K H1 a xs) ∧ R (Itl K a) H1) : iList K te σ H R := h
theorem g_el {Z : Addr → Prop} (h : SqL K H a xs) (q : Z a) : ∃ c, V.ref a = .ref c ∧ (∃ xs, SqL K H c xs) ∧ Z c := ⟨a, rfl, ⟨xs, h⟩, q⟩
theorem g_zip (h : tx σ H fun x H1 => ty σ H1 fun y H2 => ∃ a b xs ys, [x, y] = [V.ref a, V.ref b] ∧ SqL K H2 a xs ∧ SqL K H2 b ys ∧ R (Itz K a b) H2) : iZip K (tCons tx (tCons ty tNil)) σ H R := h
theorem g_ez {Z : Addr → Addr → Prop} (h1 : SqL K H a xs) (h2 : SqL K H b ys) (q : Z a b) : ∃ c d zs ws, [V.ref a, V.ref b] = [V.ref c, V.ref d] ∧ SqL K H c zs ∧ SqL K H d ws ∧ Z c d := ⟨a, b, xs, ys, rfl, h1, h2, q⟩
theorem forK_r {lo : Int} {n : Nat} (Pv : Nat → L2.St → Hp → Prop) (h0 : Pv 0 σ H)
    (hs : ∀ i σ H, i < n → Pv i σ H → g (.int (lo + i)) σ H fun σ2 H2 => tb { D with nx := Pv (i + 1), ct := Pv (i + 1), bk := D.nx } σ2 H2) (hd : ∀ σ H, Pv n σ H → D.nx σ H) : forK (Itr lo n) g tb D σ H := for_range Pv h0 hs hd
theorem forK_l (Pv : Nat → L2.St → Hp → Prop) (h0 : Pv 0 σ H) (hl : ∀ i σ H, i ≤ xs.length → Pv i σ H → SqL K H a xs)
    (hs : ∀ i x σ H, xs[i]? = some x → Pv i σ H → g x σ H fun σ2 H2 => tb { D with nx := Pv (i + 1), ct := Pv (i + 1), bk := D.nx } σ2 H2) (hd : ∀ σ H, Pv xs.length σ H → D.nx σ H) : forK (Itl K a) g tb D σ H := for_list Pv h0 hl hs hd
end
section
variable {K : PySem.W.Frag} {H : Hp} {Q : VK} {a : Addr} {xs : List V} {x y z : V}
theorem g_slF {k : Nat} (h : SqL K H a xs) (q : ∀ p, H p = none → Q (.ref p) (upd H p (.lst (xs.drop k)))) : rSlL K (.ref a) (some (k : Int)) none H Q := g_slL h (by rw [cut_from]; exact q)
theorem g_slF1 (h : SqL K H a xs) (q : ∀ p, H p = none → Q (.ref p) (upd H p (.lst (xs.drop 1)))) : rSlL K (.ref a) (some 1) none H Q := g_slF (k := 1) h q
theorem g_slTo {k : Nat} (h : SqL K H a xs) (q : ∀ p, H p = none → Q (.ref p) (upd H p (.lst (xs.take k)))) : rSlL K (.ref a) none (some (k : Int)) H Q := g_slL h (by rw [cut_to]; exact q)
theorem g_slT1 (h : SqL K H a xs) (q : ∀ p, H p = none → Q (.ref p) (upd H p (.lst (xs.take 1)))) : rSlL K (.ref a) none (some 1) H Q := g_slTo (k := 1) h q
theorem g_slB (h : SqL K H a xs) (q : ∀ p, H p = none → Q (.ref p) (upd H p (.lst xs.dropLast))) : rSlL K (.ref a) none (some (-1)) H Q := g_slL h (by rw [cut_last]; exact q)
theorem g_slE (h : SqL K H a xs) (q : ∀ p, H p = none → Q (.ref p) (upd H p (.lst (xs.drop (xs.length - 1))))) : rSlL K (.ref a) (some (-1)) none H Q := g_slL h (by rw [cut_fromLast]; exact q)
theorem g_sl2 (h : SqT K H a [x, y, z]) (q : ∀ p, H p = none → Q (.ref p) (upd H p (.tup [x, y]))) : rSlT K (.ref a) none (some 2) H Q := g_slT h (by show ¬ (0 = 0 ∧ 2 = 3); decide) q
end
/-- a global number -/
theorem pe_gv {X : Cx} {x : Str} {pos : Pos} {v : V} (g : Gl X x) (h : ∃ u, X.mg x = some u ∧ RelV v u)
    (n : (x == ("__debug__" : Str)) = false := by decide) : PE X (.Name x pos) (tC v) := pe_glob g h.choose_spec.1 h.choose_spec.2 n
section
variable {X : Cx} {K : PySem.W.Frag}
theorem ixT (e : X.K = K) : IxR X (rIxT K) := by subst e; exact ix_tup
theorem ixL (e : X.K = K) : IxR X (rIxL K) := by subst e; exact ix_list
theorem slL' (e : X.K = K) : SlR X (rSlL K) := by subst e; exact sl_list
theorem clLen (e : X.K = K) : CallR X (.builtin "len") (Fl.rLen K) := by subst e; exact call_len'
theorem clList (e : X.K = K) : CallR X (.type "list") (Fl.rList K) := by subst e; exact call_list'
theorem clIsi (e : X.K = K) : CallR X (.builtin "isinstance") (rIsi K) := by subst e; exact call_isi
theorem opEqD (e : X.K = K) (hu : X.A.units + 64 < cLine) : OpR X (compareOp .Eq) (rEqD K) := by subst e; exact op_eqD hu
theorem opNeD (e : X.K = K) (hu : X.A.units + 64 < cLine) : OpR X (compareOp .NotEq) (rNeD K) := by subst e; exact op_neD hu
theorem opIn (e : X.K = K) : OpR X (compareOp .In) (rIn K false) := by subst e; exact op_in_seq
def tTru (K : PySem.W.Frag) (ta : TE) : TT := fun σ H Q => ta σ H fun x H' => ∃ k, TruV K x H' k ∧ Q k H'
theorem piL {l tg : Expr} {tl : TE} (e : X.K = K) (h : PE X l tl) : PI X tg l (iList K tl) := by subst e; exact pi_list h
theorem piT {l tg : Expr} {tl : TE} (e : X.K = K) (h : PE X l tl) : PI X tg l (iTup K tl) := by subst e; exact pi_tup h
theorem pgT {es : List Expr} {j : Nat} {t : TGs} {n : Nat} {pos : Pos} (e : X.K = K) (hc : X.calm = true) (h : PGs X es t)
    (hn : (assignEach es X.env).length = n := by rfl)
    (hst : (assignEach es X.env).findIdx? (·.1) = none := by rfl) : PG X (.Tuple es j pos) (gTup K n t) := by subst e; exact pg_tup hc h hn hst
theorem g_gtup {n : Nat} {t : TGs} {a : Addr} {xs : List V} {σ : L2.St} {H : Hp} {Q : L2.St → Hp → Prop} (h : SqT K H a xs) (e : xs.length = n) (q : t xs σ H Q) : gTup K n t (.ref a) σ H Q := ⟨a, xs, rfl, h, e, q⟩
theorem g_gcons {t : TG} {u : TGs} {v : V} {r : List V} {σ : L2.St} {H : Hp} {Q : L2.St → Hp → Prop} (q : t v σ H fun σ' H' => u r σ' H' Q) : gCons t u (v :: r) σ H Q := ⟨v, r, rfl, q⟩
theorem g_gnil {σ : L2.St} {H : Hp} {Q : L2.St → Hp → Prop} (q : Q σ H) : gNil [] σ H Q := ⟨rfl, q⟩
end
theorem g_yes {te : TE} {R : VK} {N : Hp → Prop} {σ : L2.St} {H : Hp} (h : te σ H R) : tYes σ H fun b H3 => if b = true then te σ H3 R else N H3 := h
theorem fm_all {rs : List PyData} {n : Nat} (h : rs.length ≤ n) : (List.range n).filterMap (fun i => rs[i]?) = rs := by rw [fm_take, List.take_of_length_le h]
theorem DqA.getM {α : Type} {f : α → PyData} {S : List Addr} {H : Hp} {vs : List V} {c : List α} {i : Nat} {x : V} (h : DqA S H vs (c.map f)) (e : vs[i]? = some x) : ∃ p, c[i]? = some p ∧ Dq S H x (f p) := by
  obtain ⟨d, h1, h2⟩ := h.get e
  rw [List.getElem?_map] at h1
  cases hc : c[i]? with
  | none => rw [hc] at h1; cases h1
  | some p =>
    rw [hc] at h1
    cases h1
    exact ⟨p, rfl, h2⟩
theorem g_tru {K : PySem.W.Frag} {te : TE} {σ : L2.St} {H : Hp} {Q : Bool → Hp → Prop} (h : te σ H fun x H' => ∃ k, TruV K x H' k ∧ Q k H') : tTru K te σ H Q := h
theorem g_tru0 {K : PySem.W.Frag} {a : Addr} {H : Hp} {Z : Bool → Prop} (h : SqL K H a []) (q : Z false) : ∃ k, TruV K (.ref a) H k ∧ Z k := ⟨_, .inl ⟨_, h, rfl⟩, q⟩
theorem g_tru1 {K : PySem.W.Frag} {a : Addr} {x : V} {xs : List V} {H : Hp} {Z : Bool → Prop} (h : SqL K H a (x :: xs)) (q : Z true) : ∃ k, TruV K (.ref a) H k ∧ Z k := ⟨_, .inl ⟨_, h, rfl⟩, q⟩
theorem at0 {x : V} {xs : List V} : atI (x :: xs) 0 = some x := atI_nat (j := 0) rfl
theorem dk_app {K : PySem.W.Frag} {a : Addr} {ns : List Int} {H : Hp} {Q : VK} {E : XK} (h : SqL K H a (ns.map V.int)) (k : ∀ d s H', Same H H' → Dk d s ns H' → Q (.ref d) H') : spDk K [.ref a] H Q E := ⟨a, ns, rfl, h, k⟩
def spLaw (K : PySem.W.Frag) : Sp := fun vs H Q _ => ∃ (a : Addr) (ns : List Int), vs = [.ref a] ∧ SqL K H a (ns.map V.int) ∧ ns.length ≤ 63 ∧ ∀ H', Q (.bl true) H'
theorem g_nn {A : Prop} (h : A) : V.non = V.non ∧ A := ⟨rfl, h⟩
end Fl
set_option Elab.async false
set_option linter.all false
set_option maxRecDepth 100000
set_option maxHeartbeats 4000000
namespace Fl
open PySem PySem.Spec PyProof.Rows L2
abbrev Pr := Int × Int
def pr (p : Pt) : Pr := (p.1, p.2.1)
def mid (p q : Pt) : Pt := ((p.1 + q.1) / 2, (p.2.1 + q.2.1) / 2, true)
def w1 (p q : Pt) : List Pt := if p.2.2 = true then [p] else if q.2.2 = true then [p] else [p, mid p q]
/-- a path and the point behind it, with its middle points -/
def wp : List Pt → Pt → List Pt
  | [], _ => []
  | [p], nx => w1 p nx
  | p :: q :: l, nx => w1 p q ++ wp (q :: l) nx
def wm : List Pt → List Pt
  | [] => []
  | p :: l => wp (p :: l) p
def cv (n a c b : Int) : Int := ((8 - n) * (8 - n) * a + 2 * n * (8 - n) * c + n * n * b + 32) / 64
def cp (a c b : Pt) (n : Nat) : Pr := (cv (n + 1) a.1 c.1 b.1, cv (n + 1) a.2.1 c.2.1 b.2.1)
def cvs (a c b : Pt) : List Pr := (List.range 8).map (cp a c b)
def cv7 (a c b : Pt) : List Pr := (List.range 7).map (cp a c b)
/-- what the walk along a closed ring gives at a point -/
def s1 (a p b : Pt) : List Pr := if p.2.2 = true then (if b.2.2 = true then [pr b] else []) else cvs a p b
def e1 (a p b : Pt) : List Pr := if p.2.2 = true then [pr p] else cv7 a p b
def sp' : Pt → List Pt → List Pr
  | pv, p :: q :: l => s1 pv p q ++ sp' p (q :: l)
  | _, _ => []
def ep : Pt → List Pt → Pt → List Pr
  | _, [], _ => []
  | pv, [p], nx => e1 pv p nx
  | pv, p :: q :: l, nx => e1 pv p q ++ ep p (q :: l) nx
/-- no two neighbours are off -/
def Na : List Pt → Prop
  | p :: q :: l => (p.2.2 = true ∨ q.2.2 = true) ∧ Na (q :: l)
  | _ => True
def p0 : Pt := (0, 0, false)
def st (pv : Pt) (cl : List Pt) (k : Nat) : List Pr := s1 (if k = 0 then pv else cl.getD (k - 1) p0) (cl.getD k p0) (cl.getD (k + 1) p0)
/-- the indexes of the points that are on -/
def ps (c : List Pt) : List Nat := (List.range c.length).filter fun i => (c.getD i p0).2.2
def ro (c : List Pt) : List Pt := match ps c with
  | [] => (wm c).drop ((wm c).length - 1) ++ (wm c).dropLast
  | k :: _ => wm (beg c k)
theorem fm_filter {α β : Type} (p : α → Bool) (f : α → β) : ∀ l : List α, l.filterMap (fun i => if p i = true then some (f i) else none) = (l.filter p).map f
  | [] => rfl
  | x :: l => by
    rw [List.filterMap_cons, List.filter_cons, fm_filter p f l]
    by_cases h : p x = true
    · simp [h]
    · simp [h]
end Fl
set_option Elab.async false
set_option linter.all false
set_option maxRecDepth 100000
set_option maxHeartbeats 4000000
namespace Fl
open PySem PySem.Spec PyProof.Rows L2
def Rot {α : Type} (a b : List α) : Prop := ∃ u v, a = u ++ v ∧ b = v ++ u
theorem Rot.refl {α : Type} (a : List α) : Rot a a := ⟨a, [], by simp, by simp⟩
theorem Rot.symm {α : Type} {a b : List α} (h : Rot a b) : Rot b a := by
  obtain ⟨u, v, rfl, rfl⟩ := h
  exact ⟨v, u, rfl, rfl⟩
theorem Rot.trans {α : Type} {a b c : List α} (h : Rot a b) (k : Rot b c) : Rot a c := by
  obtain ⟨u, v, rfl, hb⟩ := h
  obtain ⟨u', v', rfl, rfl⟩ := k
  rcases List.append_eq_append_iff.mp hb with ⟨w, h1, h2⟩ | ⟨w, h1, h2⟩
  · -- v = u' ++ w, v' = w ++ u
    subst h1 h2
    exact ⟨u ++ u', w, by simp, by simp⟩
  · subst h1 h2
    exact ⟨w, v' ++ v, by simp, by simp⟩
theorem Rot.len {α : Type} {a b : List α} (h : Rot a b) : a.length = b.length := by
  obtain ⟨u, v, rfl, rfl⟩ := h
  simp [Nat.add_comm]
/-- a turn by less than the whole length -/
theorem Rot.ex {α : Type} {a b : List α} (h : Rot a b) (n : a ≠ []) : ∃ k, k < a.length ∧ Fl.beg a k = b := by
  obtain ⟨u, v, rfl, rfl⟩ := h
  cases v with
  | nil =>
    refine ⟨0, ?_, ?_⟩
    · cases u with
      | nil => exact absurd rfl n
      | cons x u => simp
    · unfold Fl.beg
      simp
  | cons x v =>
    refine ⟨u.length, by simp, ?_⟩
    unfold Fl.beg
    simp
def Nc : List Pt → Pt → Prop
  | [], _ => True
  | [p], nx => p.2.2 = true ∨ nx.2.2 = true
  | p :: q :: l, nx => (p.2.2 = true ∨ q.2.2 = true) ∧ Nc (q :: l) nx
theorem Nc.app : ∀ (u : List Pt) (p : Pt) (v : List Pt) (nx : Pt), Nc (u ++ p :: v) nx ↔ Nc u p ∧ Nc (p :: v) nx
  | [], _, _, _ => by simp [Nc]
  | [x], p, v, nx => by
    show (x.2.2 = true ∨ p.2.2 = true) ∧ Nc (p :: v) nx ↔ _
    rfl
  | x :: y :: u, p, v, nx => by
    show (x.2.2 = true ∨ y.2.2 = true) ∧ Nc (y :: u ++ p :: v) nx ↔ ((x.2.2 = true ∨ y.2.2 = true) ∧ Nc (y :: u) p) ∧ Nc (p :: v) nx
    rw [Nc.app (y :: u) p v nx, and_assoc]
theorem Nc.na : ∀ (l : List Pt) (nx : Pt), Nc l nx → Na (l ++ [nx])
  | [], _, _ => trivial
  | [p], nx, h => ⟨h, trivial⟩
  | p :: q :: l, nx, h => ⟨h.1, Nc.na (q :: l) nx h.2⟩
def er (l : List Pt) : List Pr := match l with
  | [] => []
  | p :: t => ep ((p :: t).getLast (by simp)) (p :: t) p
end Fl
namespace Fl
open PySem PySem.Spec PyProof.Rows L2
theorem canLay_all (P : PyData → Prop) (h : ∀ d, P d → d.canLay0 = true) : ∀ ds : List PyData, (∀ d, d ∈ ds → P d) → PyData.canLayAll0 ds = true
  | [], _ => by simp [PyData.canLayAll0]
  | d :: ds, k => by
    simp [PyData.canLayAll0, h d (k d (by simp)), canLay_all P h ds (fun e m => k e (List.mem_cons_of_mem _ m))]
theorem depth_all (n : Nat) : ∀ ds : List PyData, (∀ d, d ∈ ds → d.depth ≤ n) → PyData.depthAll ds ≤ n
  | [], _ => by simp [PyData.depthAll]
  | d :: ds, k => by
    have h1 := k d (by simp)
    have h2 := depth_all n ds (fun e m => k e (List.mem_cons_of_mem _ m))
    simp only [PyData.depthAll]
    omega
theorem sh_list {ds : List PyData} {n : Nat} (h : ∀ d, d ∈ ds → d.canLay0 = true ∧ d.depth ≤ n) (hn : n < 64) : SeqAt.shaped (.list ds) = true := by
  unfold SeqAt.shaped
  have h1 := canLay_all (fun d => d.canLay0 = true) (fun _ h => h) ds (fun d m => (h d m).1)
  have h2 := depth_all n ds (fun d m => (h d m).2)
  have h3 : (PyData.list ds).depth = PyData.depthAll ds + 1 := by simp [PyData.depth]
  have h4 : (PyData.list ds).canLay0 = true := by simp [PyData.canLay0, h1]
  rw [h4, Bool.true_and, decide_eq_true_eq, h3]
  omega
theorem eqv_self {d : PyData} (h : SeqAt.shaped d = true) : PyData.eqv d d = true := SeqAt.eqv_refl d (SeqAt.canLay_of_shaped h)
theorem g_eqD {K : PySem.W.Frag} {S T : List Addr} {H : Hp} {x y : V} {d e : PyData} {Q : VK} (h1 : Dq S H x d) (h2 : Dq T H y e) (s1 : SeqAt.shaped d = true) (s2 : SeqAt.shaped e = true) (q : Q (.bl (PyData.eqv d e)) H) : rEqD K x y H Q :=
  ⟨d, e, h1.dp (nodict_sh s1), h2.dp (nodict_sh s2), s1, s2, q⟩
theorem g_neD' {K : PySem.W.Frag} {S T : List Addr} {H : Hp} {x y : V} {d e : PyData} {Q : VK} (h1 : Dq S H x d) (h2 : Dq T H y e) (s1 : SeqAt.shaped d = true) (s2 : SeqAt.shaped e = true) (q : Q (.bl (!PyData.eqv d e)) H) : rNeD K x y H Q :=
  ⟨d, e, h1.dp (nodict_sh s1), h2.dp (nodict_sh s2), s1, s2, q⟩
end Fl
namespace Fl
open PySem PySem.Spec PyProof.Rows L2
end Fl
set_option Elab.async false
set_option linter.all false
set_option maxRecDepth 100000
set_option maxHeartbeats 4000000
namespace Fl
open PySem PySem.Spec PyProof.Rows L2
section
variable {K : PySem.W.Frag} {S : List Addr} {H1 : Hp} {Q : VK}
def lc2K (J : It) (g : TG) (tt : TT) (wi1 : TI) (g1 : TG) (tt1 : TT) (te : TE) (vs vs1 : List Nat) (σ : L2.St) (H1 : Hp) (Q : VK) : Prop :=
  ∀ B, H1 B = none → ∃ W : Nat → Nat → Hp → Prop, (∃ m, W 0 m (upd H1 B (.lst []))) ∧ ∀ i m H, W i m H →
    (J.stop i H ∧ Q (.ref B) H) ∨ (J.go i H ∧ ∃ Nx : Hp → Prop, (∀ H', Nx H' → ∃ m', m' < m ∧ W (i + 1) m' H') ∧
      ∀ x H', J.yld i H x H' → g x (wipe σ vs) H' fun σ2 H2 => wipe σ2 vs = wipe σ vs ∧ tt σ2 H2 fun b H3 =>
        if b = true then wi1 σ2 H3 fun J1 H4 => ∃ W1 : Nat → Nat → Hp → Prop, (∃ m, W1 0 m H4) ∧ ∀ j k H, W1 j k H →
          (J1.stop j H ∧ Nx H) ∨ (J1.go j H ∧ ∃ Nx1 : Hp → Prop, (∀ H', Nx1 H' → ∃ k', k' < k ∧ W1 (j + 1) k' H') ∧
            ∀ x H', J1.yld j H x H' → g1 x (wipe σ2 vs1) H' fun σ3 H5 => wipe σ3 vs1 = wipe σ2 vs1 ∧ tt1 σ3 H5 fun b H6 =>
              if b = true then te σ3 H6 fun y H7 => ∃ acc, H7 B = some (.lst acc) ∧ acc.length < sizeLine ∧ Nx1 (upd H7 B (.lst (acc ++ [y]))) else Nx1 H6)
        else Nx H3)
theorem g_lc2 {wi : TI} {g : TG} {tt : TT} {wi1 : TI} {g1 : TG} {tt1 : TT} {te : TE} {vs vs1 : List Nat} {σ : L2.St} {H : Hp} (h : wi σ H fun J H1 => lc2K J g tt wi1 g1 tt1 te vs vs1 σ H1 Q) : tLc2 wi g tt wi1 g1 tt1 te vs vs1 σ H Q := h
end
def IsMin (m : Int) (l : List Int) : Prop := m ∈ l ∧ ∀ y, y ∈ l → m ≤ y
def IsMax (m : Int) (l : List Int) : Prop := m ∈ l ∧ ∀ y, y ∈ l → y ≤ m
theorem ints_of {S : List Addr} {H : Hp} : ∀ {xs : List V} {ns : List Int}, DqA S H xs (ns.map PyData.int) → xs = ns.map V.int
  | _, [], h => h.nilE
  | _, n :: ns, h => by
    obtain ⟨v, ws, rfl, hv, hw⟩ := h.consE
    rw [hv.intE, ints_of hw]
    rfl
def rMinL (K : PySem.W.Frag) : List V → Hp → VK → Prop := fun vs H Q => ∃ (a : Addr) (ns : List Int), vs = [V.ref a] ∧ SqL K H a (ns.map V.int) ∧ ∃ m, IsMin m ns ∧ Q (.int m) H
def rMaxL (K : PySem.W.Frag) : List V → Hp → VK → Prop := fun vs H Q => ∃ (a : Addr) (ns : List Int), vs = [V.ref a] ∧ SqL K H a (ns.map V.int) ∧ ∃ m, IsMax m ns ∧ Q (.int m) H
section
variable {X : Cx} {K : PySem.W.Frag}
theorem clSum (e : X.K = K) (hc : X.calm = true) : CallR X (.builtin "sum") (rSum K) := by subst e; exact cr_sum hc
theorem g_minL {a : Addr} {ns : List Int} {m : Int} {H : Hp} {Q : VK} (h : SqL K H a (ns.map V.int)) (hm : IsMin m ns) (q : Q (.int m) H) : Fl.rMinL K [.ref a] H Q := ⟨a, ns, rfl, h, m, hm, q⟩
theorem g_maxL {a : Addr} {ns : List Int} {m : Int} {H : Hp} {Q : VK} (h : SqL K H a (ns.map V.int)) (hm : IsMax m ns) (q : Q (.int m) H) : Fl.rMaxL K [.ref a] H Q := ⟨a, ns, rfl, h, m, hm, q⟩
theorem g_sum {a : Addr} {ns : List Int} {H : Hp} {Q : VK} (h : SqL K H a (ns.map V.int)) (q : Q (.int ns.sum) H) : rSum K [.ref a] H Q := ⟨a, ns, rfl, h, q⟩
end
def mv (x y : Int) (p : Pt) : Pt := (p.1 + x, p.2.1 + y, p.2.2)
/-- flat data -/
def FlD : PyData → Prop
  | .int _ | .bool _ | .none => True
  | _ => False
def TfD (d : PyData) : Prop := ∃ es, d = .tuple es ∧ es.length ≤ 10 ∧ ∀ e, e ∈ es → FlD e
/-- same(x, y), x and y the same flat data -/
def spSm1 : Sp := fun vs H Q _ => ∃ (S T : List Addr) (d : PyData) (x y : V), vs = [x, y] ∧ FlD d ∧ Dq S H x d ∧ Dq T H y d ∧ Q (.bl true) H
def spSm2 : Sp := fun vs H Q _ => ∃ (S T : List Addr) (d : PyData) (x y : V), vs = [x, y] ∧ TfD d ∧ Dq S H x d ∧ Dq T H y d ∧ Q (.bl true) H
end Fl
set_option Elab.async false
set_option linter.all false
set_option maxRecDepth 100000
set_option maxHeartbeats 4000000
namespace Fl
open PySem PySem.Spec PyProof.Rows L2
def mp (x y : Int) (p : Pr) : Pr := (p.1 + x, p.2 + y)
end Fl
namespace Fl
open PySem PySem.Spec PyProof.Rows L2
end Fl
namespace Fl
open PySem PySem.Spec PyProof.Rows L2
end Fl
set_option Elab.async false
set_option linter.all false
set_option maxRecDepth 100000
set_option maxHeartbeats 4000000
namespace Fl
open PySem PySem.Spec PyProof.Rows L2
end Fl
set_option Elab.async false
set_option linter.all false
set_option maxRecDepth 100000
set_option maxHeartbeats 4000000
namespace Fl
open PySem PySem.Spec PyProof.Rows L2
/-- what xs[lo:hi:-1] takes -/
def pickR {α : Type} (xs : List α) (lo hi : Option Int) : List α := (let (a, b, c) := sliceBounds lo hi (some (-1)) xs.length; sliceRange a b c).filterMap (xs[·]?)
def rSlR (K : PySem.W.Frag) : V → Option Int → Option Int → Hp → VK → Prop := fun x lo hi H Q => ∃ a xs, x = .ref a ∧ SqL K H a xs ∧ (pickR xs lo hi).length ≤ xs.length ∧ ∀ p, H p = none → Q (.ref p) (upd H p (.lst (pickR xs lo hi)))
theorem fmc {α β : Type} {f g : α → Option β} : ∀ {l : List α}, (∀ x, x ∈ l → f x = g x) → l.filterMap f = l.filterMap g
  | [], _ => rfl
  | x :: l, h => by
    rw [List.filterMap_cons, List.filterMap_cons, h x (by simp), fmc fun y m => h y (List.mem_cons_of_mem _ m)]
theorem fm_takeG {α : Type} (rs : List α) : ∀ n : Nat, (List.range n).filterMap (fun i => rs[i]?) = rs.take n
  | 0 => by simp
  | n + 1 => by
    rw [List.range_succ, List.filterMap_append, fm_takeG rs n, List.take_succ]
    cases h : rs[n]? <;> simp [h]
/-- xs[:0:-1] -/
theorem pickR_0 {α : Type} (xs : List α) : pickR xs none (some 0) = (xs.drop 1).reverse := by
  have e0 : pickR xs none (some 0) = (sliceRange ((xs.length : Int) - 1) 0 (-1)).filterMap (xs[·]?) := by
    unfold pickR
    have : sliceBounds none (some 0) (some (-1)) xs.length = ((xs.length : Int) - 1, 0, -1) ∨ xs.length = 0 := by
      rcases Nat.eq_zero_or_pos xs.length with h | h
      · exact .inr h
      · left
        unfold sliceBounds
        simp
        omega
    rcases this with h | h
    · rw [h]
    · have : xs = [] := List.eq_nil_of_length_eq_zero h
      subst this
      rfl
  rw [e0]
  have e1 : sliceRange ((xs.length : Int) - 1) 0 (-1) = (List.range (xs.length - 1)).map fun k => xs.length - 1 - k := by
    unfold sliceRange
    rw [if_neg (by decide)]
    have : (if (xs.length : Int) - 1 > 0 then ((xs.length : Int) - 1 - 0 - -1 - 1) / - -1 else 0).toNat = xs.length - 1 := by
      split
      · rw [show (- -1 : Int) = 1 from rfl, Int.ediv_one]
        omega
      · omega
    show (List.range (if (xs.length : Int) - 1 > 0 then ((xs.length : Int) - 1 - 0 - -1 - 1) / - -1 else 0).toNat).map _ = _
    rw [this]
    refine List.map_congr_left fun k hk => ?_
    have := List.mem_range.mp hk
    omega
  rw [e1]
  rw [List.filterMap_map]
  have e2 : ((List.range (xs.length - 1)).filterMap ((fun x => xs[x]?) ∘ fun k => xs.length - 1 - k)) = (List.range (xs.length - 1)).filterMap fun k => ((xs.drop 1).reverse)[k]? := by
    refine fmc fun k hk => ?_
    have hk := List.mem_range.mp hk
    show xs[xs.length - 1 - k]? = _
    rw [List.getElem?_reverse (by rw [List.length_drop]; omega), List.length_drop, List.getElem?_drop]
    congr 1
    omega
  rw [e2, fm_takeG, List.take_of_length_le (by simp)]
theorem g_slR0 {K : PySem.W.Frag} {H : Hp} {Q : VK} {a : Addr} {xs : List V} (h : SqL K H a xs) (q : ∀ p, H p = none → Q (.ref p) (upd H p (.lst (xs.drop 1).reverse))) : rSlR K (.ref a) none (some 0) H Q :=
  ⟨a, xs, rfl, h, by rw [pickR_0]; simp, by rw [pickR_0]; exact q⟩
end Fl
set_option Elab.async false
set_option linter.all false
set_option maxRecDepth 100000
set_option maxHeartbeats 4000000
namespace Fl
open PySem PySem.Spec PyProof.Rows L2
/-- list(reversed(x)), x a list: a new list -/
def tListRev (K : PySem.W.Frag) (te : TE) : TE := fun σ H Q => te σ H fun v H1 => ∃ (a : Addr) (xs : List V), v = .ref a ∧ SqL K H1 a xs ∧ ∀ q, H1 q = none → Q (.ref q) (upd H1 q (.lst xs.reverse))
end Fl
set_option Elab.async false
set_option linter.all false
set_option maxRecDepth 100000
set_option maxHeartbeats 4000000
namespace Fl
open PySem PySem.Spec PyProof.Rows L2
def cr (p q : Pt) : Int := p.1 * q.2.1 - q.1 * p.2.1
def tc (c : List Pt) : Int := ((c.zip (beg c 1)).map fun z => cr z.1 z.2).sum
def ts (o : List (List Pt)) : Int := (o.map tc).sum
def rv (c : List Pt) : List Pt := c.take 1 ++ (c.drop 1).reverse
structure Sw (k W : Nat) (d : PyData) : Prop where
  sh : d.showable = true
  nd : d.hasDict = false
  lv : d.leavesShort 13 = true
  dp : d.depth ≤ k
  wt : d.weight ≤ W
theorem Sw.mono {k W j U : Nat} {d : PyData} (h : Sw k W d) (hk : k ≤ j) (hW : W ≤ U) : Sw j U d := ⟨h.sh, h.nd, h.lv, Nat.le_trans h.dp hk, Nat.le_trans h.wt hW⟩
theorem Sw.all {k W : Nat} : ∀ ds : List PyData, (∀ d, d ∈ ds → Sw k W d) → PyData.showableAll ds = true ∧ PyData.hasDictAll ds = false ∧ PyData.leavesShortAll 13 ds = true ∧ PyData.depthAll ds ≤ k ∧ PyData.weightAll ds ≤ (W + 1) * ds.length
  | [], _ => by simp [PyData.showableAll, PyData.hasDictAll, PyData.leavesShortAll, PyData.depthAll, PyData.weightAll]
  | d :: ds, h => by
    obtain ⟨a, b, c, e, f⟩ := h d (by simp)
    obtain ⟨a2, b2, c2, e2, f2⟩ := Sw.all ds fun e m => h e (List.mem_cons_of_mem _ m)
    refine ⟨by simp [PyData.showableAll, a, a2], by simp [PyData.hasDictAll, b, b2], by simp [PyData.leavesShortAll, c, c2], ?_, ?_⟩
    · simp only [PyData.depthAll]
      omega
    · simp only [PyData.weightAll, List.length_cons, Nat.mul_succ]
      omega
theorem Sw.lst {k W : Nat} {ds : List PyData} (h : ∀ d, d ∈ ds → Sw k W d) : Sw (k + 1) ((W + 1) * ds.length) (.list ds) := by
  obtain ⟨a, b, c, e, f⟩ := Sw.all ds h
  exact ⟨by simpa [PyData.showable] using a, by simpa [PyData.hasDict] using b, by simpa [PyData.leavesShort] using c, by simp only [PyData.depth]; omega, by simp only [PyData.weight]; omega⟩
theorem Sw.tup {k W : Nat} {ds : List PyData} (h : ∀ d, d ∈ ds → Sw k W d) : Sw (k + 1) ((W + 1) * ds.length) (.tuple ds) := by
  obtain ⟨a, b, c, e, f⟩ := Sw.all ds h
  exact ⟨by simpa [PyData.showable] using a, by simpa [PyData.hasDict] using b, by simpa [PyData.leavesShort] using c, by simp only [PyData.depth]; omega, by simp only [PyData.weight]; omega⟩
theorem Sw.int {i : Int} (h : i.natAbs < 10 ^ 12) : Sw 0 41 (.int i) := by
  have h2 : i.natAbs < 2 ^ 41 := Nat.lt_of_lt_of_le h (by decide)
  have l : i.natAbs.log2 ≤ 40 := by
    rcases Nat.eq_zero_or_pos i.natAbs with z | z
    · rw [z]; decide
    · have := (Nat.log2_lt (k := 41) (by omega)).mpr h2
      omega
  refine ⟨?_, rfl, ?_, Nat.le_refl _, ?_⟩
  · simp only [PyData.showable, decide_eq_true_eq]
    omega
  · simp only [PyData.leavesShort, decide_eq_true_eq]
    exact PyData.shown_int_le h
  · simp only [PyData.weight]
    split <;> omega
theorem Sw.bl {b : Bool} : Sw 0 0 (.bool b) := ⟨rfl, rfl, rfl, Nat.le_refl _, Nat.le_refl _⟩
end Fl
namespace Fl
open PySem PySem.Spec PyProof.Rows L2
end Fl
namespace Fl
open PySem PySem.Spec PyProof.Rows L2
section
variable {K : PySem.W.Frag} {H : Hp} {Q : VK} {a : Addr} {xs : List V} {te : TE} {σ : L2.St}
theorem g_lrev (h : te σ H fun v H1 => ∃ (a : Addr) (xs : List V), v = .ref a ∧ SqL K H1 a xs ∧ ∀ q, H1 q = none → Q (.ref q) (upd H1 q (.lst xs.reverse))) : tListRev K te σ H Q := h
theorem g_lrev2 {Q : Addr → List V → Prop} (h : SqL K H a xs) (q : Q a xs) : ∃ (b : Addr) (ys : List V), V.ref a = .ref b ∧ SqL K H b ys ∧ Q b ys := ⟨a, xs, rfl, h, q⟩
theorem g_eqS {x y : Str} (q : Q (.bl (decide (x = y))) H) : rEq (.str x) (.str y) H Q := ⟨rfl, by
  have e : decide (V.str x = V.str y) = decide (x = y) := by simp
  rw [e]; exact q⟩
end
end Fl
set_option Elab.async false
set_option linter.all false
set_option maxRecDepth 100000
set_option maxHeartbeats 4000000
namespace Fl
open PySem PySem.Spec PyProof.Rows L2
def cnt (o : List (List Pt)) : Int := (o.map fun c => (c.length : Int)).sum
def okP (p : Pt) : Bool := decide (-16384 ≤ p.1 ∧ p.1 ≤ 16384 ∧ -16384 ≤ p.2.1 ∧ p.2.1 ≤ 16384)
def okC (c : List Pt) : Bool := decide (2 ≤ c.length) && c.all okP
def prp (o : List (List Pt)) : Bool := (decide (o.length ≤ 40) && decide (cnt o ≤ 200)) && o.all okC
def fCt (ds : List PyData) (d : PyData) : Prop := ∃ o : List (List Pt), ds = [ouD o] ∧ o.length ≤ 100 ∧ d = .int (cnt o)
def fPr (ds : List PyData) (d : PyData) : Prop := ∃ o : List (List Pt), ds = [ouD o] ∧ o.length ≤ 100 ∧ (∀ c, c ∈ o → c.length ≤ 900) ∧ d = .bool (prp o)
theorem prp_many {o : List (List Pt)} (h : ¬ ((o.length : Int) ≤ 40)) : prp o = false := by
  unfold prp
  rw [decide_eq_false (by omega), Bool.false_and, Bool.false_and]
theorem prp_cnt {o : List (List Pt)} (h : ¬ (cnt o ≤ 200)) : prp o = false := by
  unfold prp
  rw [decide_eq_false h, Bool.and_false, Bool.false_and]
theorem prp_c {o : List (List Pt)} {c : List Pt} (m : c ∈ o) (h : okC c = false) : prp o = false := by
  unfold prp
  have : o.all okC = false := by
    rw [List.all_eq_false]
    exact ⟨c, m, by rw [h]; exact Bool.false_ne_true⟩
  rw [this, Bool.and_false]
theorem prp_true {o : List (List Pt)} (h1 : (o.length : Int) ≤ 40) (h2 : cnt o ≤ 200) (h3 : ∀ c, c ∈ o → okC c = true) : prp o = true := by
  unfold prp
  rw [decide_eq_true (by omega), decide_eq_true h2, List.all_eq_true.mpr h3]
  rfl
theorem okC_few {c : List Pt} (h : (c.length : Int) < 2) : okC c = false := by
  unfold okC
  rw [decide_eq_false (by omega), Bool.false_and]
theorem okC_p {c : List Pt} {p : Pt} (m : p ∈ c) (h : okP p = false) : okC c = false := by
  unfold okC
  have : c.all okP = false := by
    rw [List.all_eq_false]
    exact ⟨p, m, by rw [h]; exact Bool.false_ne_true⟩
  rw [this, Bool.and_false]
theorem okC_true {c : List Pt} (h1 : ¬ (c.length : Int) < 2) (h3 : ∀ p, p ∈ c → okP p = true) : okC c = true := by
  unfold okC
  rw [decide_eq_true (by omega), List.all_eq_true.mpr h3]
  rfl
theorem okP_f {p : Pt} (h : ¬ (-16384 ≤ p.1 ∧ p.1 ≤ 16384 ∧ -16384 ≤ p.2.1 ∧ p.2.1 ≤ 16384)) : okP p = false := decide_eq_false h
theorem okP_t {p : Pt} (h : -16384 ≤ p.1 ∧ p.1 ≤ 16384 ∧ -16384 ≤ p.2.1 ∧ p.2.1 ≤ 16384) : okP p = true := decide_eq_true h
theorem take_mem {α : Type} {l : List α} {P : α → Prop} {i : Nat} {x : α} (hx : l[i]? = some x) (h : ∀ y, y ∈ l.take i → P y) (k : P x) : ∀ y, y ∈ l.take (i + 1) → P y := by
  intro y m
  rw [List.take_succ, hx] at m
  rcases List.mem_append.mp m with m | m
  · exact h y m
  · rw [show y = x by simpa using m]
    exact k
/-- a changed outline -/
structure ChIn (o : List (List Pt)) : Prop where
  len : o.length ≤ 45
  cs : ∀ c, c ∈ o → c.length ≤ 300 ∧ ∀ p, p ∈ c → PtIn (10 ^ 6) p
  fl : o.flatten.length ≤ 400
theorem flat_len {n : Nat} : ∀ {o : List (List Pt)}, (∀ c, c ∈ o → c.length ≤ n) → o.flatten.length ≤ n * o.length
  | [], _ => Nat.zero_le _
  | c :: o, h => by
    have h1 := h c (by simp)
    have h2 := flat_len (o := o) fun x m => h x (List.mem_cons_of_mem _ m)
    rw [List.flatten_cons, List.length_append, List.length_cons, Nat.mul_succ]
    omega
theorem OuIn.ch {o : List (List Pt)} (h : OuIn 2 400 o) : ChIn o := by
  have h1 := h.len
  refine ⟨by omega, fun c m => ?_, ?_⟩
  · obtain ⟨g1, g2, g3⟩ := h.cs c m
    refine ⟨by omega, fun p mp => ?_⟩
    obtain ⟨g1, g2, g3, g4⟩ := g3 p mp
    exact ⟨by omega, by omega, by omega, by omega⟩
  · have := flat_len (n := 7) fun c m => (h.cs c m).2.1
    omega
theorem ChIn.app {o u : List (List Pt)} (h : OuIn 2 400 o) (h1 : u.length ≤ 42) (h2 : ∀ c, c ∈ u → c.length ≤ 300 ∧ ∀ p, p ∈ c → PtIn (10 ^ 6) p) (h3 : u.flatten.length ≤ 300) : ChIn (o ++ u) := by
  obtain ⟨a, b, c⟩ := h.ch
  have h0 := h.len
  have := flat_len (n := 7) fun c m => (h.cs c m).2.1
  refine ⟨by rw [List.length_append]; omega, fun c m => ?_, by rw [List.flatten_append, List.length_append]; omega⟩
  rcases List.mem_append.mp m with m | m
  · exact b c m
  · exact h2 c m
end Fl
namespace Fl
open PySem PySem.Spec PyProof.Rows L2
end Fl
namespace Fl
open PySem PySem.Spec PyProof.Rows L2
end Fl
set_option Elab.async false
set_option linter.all false
set_option maxRecDepth 100000
set_option maxHeartbeats 4000000
namespace Fl
open PySem PySem.Spec PyProof.Rows L2
end Fl
set_option Elab.async false
set_option linter.all false
set_option maxRecDepth 100000
set_option maxHeartbeats 4000000
set_option exponentiation.threshold 20000
namespace Fl
open PySem PySem.Spec PyProof.Rows L2
/-- what the written part says of an own base class whose __init__ is ValueError's -/
structure BaseC (K : PySem.W.Frag) (C : Addr) : Prop where
  sg : PySem.W.specialIn K (.ref C) "__getattribute__" = some (some (.builtin "type.__getattribute__"))
  ty : PySem.W.typeIn K (.ref C) = some (.type "type")
  rd : PySem.W.readsIn K C (.type "type") = true
  fc : PySem.W.findCls K (.ref C) (.type "type") "__init__" = some (.val (.builtin "ValueError.__init__"))
section
variable {X : Cx} {o e : Expr} {es : List Expr} {te : TE} {ta : TA} {x : Str} {C : Addr} {p p' p1 p2 pos : Pos}
theorem pe_binit {pl : Sem Bool} (hg : Gl X x) (hm : X.mg x = some (.ref C)) (B : BaseC X.K C) (ha : PA X (e :: es) ta) (hdb : (x == ("__debug__" : Str)) = false := by decide)
    (hc : eval (.Call (.Attribute (.Name x p1) "__init__" p2) (e :: es) [] pos) X.env = (do
      let ov ← eval (.Name x p1) X.env
      standAt p2.atName
      let (f, first) ← holding [ov] (getMethod ov "__init__" pl)
      callWith pos f first (backTo pos (starEach (e :: es) X.env)) (backToKw pos (keywordEach [] X.env))) := by rfl)
    (he : starEach (e :: es) X.env = (false, eval e X.env) :: starEach es X.env := by rfl) (hpl : (backTo pos (starEach es X.env)).any (·.1) = false := by rfl) :
    PE X (.Call (.Attribute (.Name x p1) "__init__" p2) (e :: es) [] pos) (tVeI X.K ta) := by
  refine ⟨fun pins s σ H Q I h => PySem.W.methodCall_KW (ld_glob I hg hm ?_ hdb) hc⟩
  obtain ⟨m, fr⟩ := I.fr
  refine PySem.W.method_of_cls fr I.ok.mod.kin B.sg (PySem.W.cls_val fr I.ok.mod.kin B.ty B.rd B.fc (by decide +kernel) ?_)
  refine PyProof.Rows.callWith_method1 (thn (ha.run pos pins _ σ H _ (I.tok _) h) fun us s1 ⟨vs, H1, I1, r1, a, C, ws, ev, hl, T, ea, q⟩ => ?_) he hpl
  subst ev
  cases r1 with
  | cons ra rw' =>
    cases ra
    exact oinit_ok T I1 ea (by rw [← Paired.length rw', sizeLine_eq]; omega) fun s' J => ⟨.non, H1, J, rfl, q⟩
end
section
variable {X : Cx}
/-- an error without fields, made: let go -/
theorem mk_nod {pins : List (Addr × Obj)} {σ : L2.St} {H1 H2 : Hp} {hp hp2 h2 : Heap} {g1 g2 : Array GenState} {d1 d2 : Drawn} {t1 t2 : Nat} {os1 os2 : OsState} {a C : Addr} (I1 : Inv X pins σ H1 ⟨hp, g1, d1, t1, os1⟩)
    (ha : hp.objs.size ≤ a) (k : ∀ b o, hp.get? b = some o → hp2.get? b = some o) (un : Un (frs X.stack) [] (upd H1 a (exo a C none)) H2 hp2 h2) (hok : HOk X.prog X.w H2 h2) (ho : os2 = os1) (hb : AllBare g2) (ea : H2 a = some (exo a C none)) :
    ∃ (t0 : Addr) (G : Heap), Inv X pins σ (del H2 a) ⟨G, g2, d2, t2, os2⟩ ∧ (∀ b o, G.get? b = some o → h2.get? b = some o) ∧ G.get? a = none ∧
      h2.get? a = some ({ cls := .ref C, dict := none, data := .fields #[.ref t0, .none, .none, .none, .bool false, .none] } : Obj) := by
  obtain ⟨t0, hoe⟩ := exo_at hok ea
  have hn : H1 a = none := I1.hok.fresh ha
  obtain ⟨G, gk', ge'⟩ := restrict h2 fun b => decide (b ≠ a)
  have gk : ∀ b, b ≠ a → G.get? b = h2.get? b := fun b n => gk' b (decide_eq_true n)
  have ge : G.get? a = none := ge' a (by simp)
  have old : ∀ {b : Addr} {u : Obj}, hp.get? b = some u → b ≠ a := fun z => Nat.ne_of_lt (Nat.lt_of_lt_of_le (Heap.lt_size z) ha)
  have none1 : ∀ {b : Addr}, b ≠ a → H1 b = none → upd H1 a (exo a C none) b = none := fun n z => (upd_ne n).trans z
  have some1 : ∀ {b : Addr} {u : HO}, H1 b = some u → upd H1 a (exo a C none) b = some u := fun z => (upd_ne (ne_of_none z hn)).trans z
  have U : Un (frs X.stack) [] H1 (del H2 a) hp G :=
    { keep := fun b u z n hf hx => (gk b (old z)).trans (un.keep b u (k b u z) (none1 (old z) n) hf hx)
      slot := fun b u z n hf hx => by rw [gk b (old z)]; exact un.slot b u (k b u z) (none1 (old z) n) hf hx
      free := fun b u z n hx => (del_ne (old z)).trans (un.free b u (k b u z) (none1 (old z) n) hx)
      there := fun b u z hx => by rw [gk b (old z)]; exact un.there b u (k b u z) hx
      tups := fun b xs z => (del_ne (ne_of_none z hn)).trans (un.tups b xs (some1 z))
      frzs := fun b u v z => (del_ne (ne_of_none z hn)).trans (un.frzs b u v (some1 z))
      tbls := fun b ps z => by rw [del_ne (ne_of_none z hn)]; exact un.tbls b ps (some1 z) }
  have hok3 : HOk X.prog X.w (del H2 a) G := fun b u z => by
    have n : b ≠ a := fun e => by rw [e, del_same] at z; cases z
    rw [del_ne n] at z
    have away : ∀ {c : Addr}, H2 c = some (.own b) → c ≠ a := fun hc => at_ne ea hc exo_own
    refine (hok b u z).stay (fun c v hc y => (gk c ?_).trans y) (fun c hc => (del_ne (away hc)).trans hc) (fun c xs hc => (del_ne (at_ne ea hc exo_tup)).trans hc)
    rcases hc with hc | hc
    · rw [hc]; exact n
    · exact away hc
  refine ⟨t0, G, I1.call' (ch := []) ho U hok3 hb (fun b z => absurd z (by simp)), fun b u z => ?_, ge, hoe⟩
  rcases Decidable.em (b = a) with e | e
  · rw [e, ge] at z; cases z
  · exact (gk b e).symm.trans z
/-- X(), X's __init__ keeping sp -/
def tMkN (C : Addr) (sp : Sp) : L2.St → Hp → XK → Prop := fun _ H Q => ∀ a, H a = none → sp [.ref a] (upd H a (exo a C none)) (fun v H2 => v = .non ∧ H2 a = some (exo a C none) ∧ Q (.ref C) none (del H2 a)) (fun _ _ _ => False)
/-- isinstance(e, c), e the error that the suite holds, without fields -/
def rIsN (K : PySem.W.Frag) (cls : Value) (d : Option Addr) (a : Addr) : List V → Hp → VK → Prop := fun xs H Q => ∃ D, cls = .ref D ∧ d = none ∧ ExcC K D ∧ rIsE K D a xs H Q
theorem call_isN {a : Addr} {cls : Value} {d : Option Addr} {oe : Obj} {K : PySem.W.Frag} (eK : X.K = K) (hp : (a, oe) ∈ X.pn) (hz : Zc cls d oe) (hf : ∃ vs, oe.data = .fields vs) : CallR X (.builtin "isinstance") (rIsN K cls d a) := by
  subst eK
  intro pins s σ H xs us Q I r ⟨D, e1, e2, C, c, cv, b, e3, hcv, e, q⟩
  subst e1 e2 e3
  obtain ⟨u1, u2, rfl, r1, r2⟩ := vals2 r
  cases r1
  obtain rfl := hcv _ r2
  obtain ⟨vs, hv⟩ := hf
  have J : PySem.W.InstAt s.heap a oe D none := by
    obtain ⟨h1, h2⟩ := hz
    refine ⟨(I.pin (a, oe) (List.mem_append_left _ hp)).1, h1, ?_, ?_⟩
    · unfold PySem.W.notCls
      rw [hv]
    · rw [h2]
      trivial
  exact PySem.W.kia_one (PySem.W.handS_kitx_exc C.hg C.hk C.hs C.hd C.ha C.hn C.ht C.hm) I.kIn J e (fun z => nomatch z) fun tk => ⟨.bl b, H, I.kept (t' := tk) fun _ _ z => z, rfl, q⟩
end
end Fl
namespace Fl
open PySem PySem.Spec PyProof.Rows L2
/-- where a name of the module's top stands -/
def adr (mg : Str → Option Value) (x : Str) : Addr := match mg x with | some (.ref a) => a | _ => 0
theorem adr_of {mg : Str → Option Value} {x : Str} {a : Addr} (h : mg x = some (.ref a)) : adr mg x = a := by unfold adr; rw [h]
/-- an own error class without fields -/
structure ClsN (K : PySem.W.Frag) (mg : Str → Option Value) (x qual : Str) (st : Stmt) : Prop where
  g : mg x = some (.ref (adr mg x))
  o : OexC K (adr mg x)
  c : ExcC K (adr mg x)
  i : ∃ (fI : Addr) (fd : FuncData), PySem.W.findIn K (.ref (adr mg x)) "__init__" = some (some (.ref fI)) ∧ PySem.W.typeIn K (.ref fI) = some (.type "function") ∧ Fun K "__init__" qual st fI fd
def spIniN (K : PySem.W.Frag) (C : Addr) : Sp := fun vs H Q _ => ∃ a : Addr, vs = [.ref a] ∧ H a = some (exo a C none) ∧ Q .non H
structure MkX (P : Program) (w : World) (K : PySem.W.Frag) (mg : Str → Option Value) (base : Heap) (k : Nat) (x : Str) : Prop where
  g : mg x = some (.ref (adr mg x))
  o : OexC K (adr mg x)
  i : ∃ (fI : Addr) (fd : FuncData), PySem.W.findIn K (.ref (adr mg x)) "__init__" = some (some (.ref fI)) ∧ PySem.W.typeIn K (.ref fI) = some (.type "function") ∧ FnOk P w K mg base L2.CX0 k fI fd ["self"] (spIniN K (adr mg x)) ∧ L2.Binds K fd ["self"] []
def tRaiseN (W : WX) (C : Addr) : TS := fun _ σ H => W (.ref C) none σ H
theorem del_upd {H : Hp} {a : Addr} {u : HO} (h : H a = none) : del (upd H a u) a = H := by
  funext b
  by_cases e : b = a
  · rw [e, del_same, h]
  · rw [del_ne e, upd_ne e]
section
variable {P : Program} {w : World} {K : PySem.W.Frag} {mg : Str → Option Value} {base : Heap}
theorem mkX_of {x qual : Str} {st : Stmt} {k : Nat} (C : ClsN K mg x qual st) (S : FnScope ["self"] ["self"] (defScope st))
    (hb : ∀ (kV doc pm : Value) (an : Option Addr) (cdv ct : Value) (us : List Value), us.length = 1 → bindArgs (PySem.W.fnOf "__init__" qual (defArgs st) (defBody st) (defScope st) .none kV doc pm an cdv ct) ⟨us, []⟩ = pure ((["self"] : List Str).zip us))
    (hbody : ∀ (f : Addr) (cdv : Value) (A : Around) (outer : List Env) (s : Shared) (H : Hp) (a : Addr) (Q : VK) (E : XK), Room k (A.deeper (envOfC qual (defScope st) s.heap.objs.size f cdv)) → H a = some (exo a (adr mg x) none) → Q .non H →
      ∃ t, PSs (cxOf L2.CX0 P w K mg base ["self"] qual (defScope st) f cdv A outer s H E).nox (defBody st) t ∧ t { nx := fun _ H' => Q .non H', rt := Q } (start ["self"] [.ref a]) H) : MkX P w K mg base (k + 1) x := by
  obtain ⟨fI, fd, iC, tI, F⟩ := C.i
  refine ⟨C.g, C.o, fI, fd, iC, tI, F.ok S (fun vs H Q E ⟨a, e, _⟩ => by rw [e]; rfl) fun cdv A outer s H vs Q E hr ⟨a, e, h, q⟩ => ?_, F.binds hb⟩
  subst e
  exact hbody fI cdv A outer s H a Q E hr h q
end
theorem g_callS {sp : Sp} {E : L2.St → XK} {t : TA} {σ : L2.St} {H : Hp} {Q : VK} (h : t σ H fun vs H1 => sp vs H1 Q (E σ)) : tCallS sp E t σ H Q := h
theorem g_raiseN {W : WX} {C : Addr} {D : Ends} {σ : L2.St} {H : Hp} (h : W (.ref C) none σ H) : tRaiseN W C D σ H := h
theorem wAs_yes {K : PySem.W.Frag} {c cls : Value} {d : Option Addr} {i : Nat} {ts : Addr → Value → Option Addr → TS} {Wout : WX} {D : Ends} {σ : L2.St} {H : Hp} (h : PySem.W.exmOne K cls c = some true)
    (k : ∀ a, H a = none → ts a cls d { nx := fun σ' H' => D.nx (σ'.set i none) H', rt := D.rt, bk := fun σ' H' => D.bk (σ'.set i none) H', ct := fun σ' H' => D.ct (σ'.set i none) H' } (σ.set i (some (.ref a))) H) : wAs K c i ts Wout D cls d σ H :=
  ⟨true, h, fun _ => k, fun z => nomatch z⟩
theorem Has.imp {P : Program} {w : World} {K : PySem.W.Frag} {mg : Str → Option Value} {base : Heap} {k : Nat} {x : Str} {ps : List Str} {sp sp' : Sp} (h : Has P w K mg base k x ps sp) (i : ∀ vs H Q E, sp' vs H Q E → sp vs H Q E) : Has P w K mg base k x ps sp' := by
  obtain ⟨f, fd, a, b⟩ := h.ex
  exact ⟨f, fd, a.imp i, b⟩
end Fl
namespace Fl
open PySem PySem.Spec PyProof.Rows L2
end Fl
namespace Fl
open PySem PySem.Spec PyProof.Rows L2
end Fl
namespace Fl
open PySem PySem.Spec PyProof.Rows L2
theorem pe_cls {X : Cx} {x : Str} {pos : Pos} {a : Addr} (g : Gl X x) (h : X.mg x = some (.ref a)) (n : (x == ("__debug__" : Str)) = false := by decide) : PE X (.Name x pos) (tC (.ref a)) := pe_glob g h rfl n
end Fl
namespace Fl
open PySem PySem.Spec PyProof.Rows L2
end Fl
namespace Fl
open PySem PySem.Spec PyProof.Rows L2
end Fl
namespace Fl
open PySem PySem.Spec PyProof.Rows L2
theorem kit_self (K : PySem.W.Frag) (a : Addr) : PySem.W.kitOne K (.ref a) (.ref a) = some true := by
  unfold PySem.W.kitOne
  rw [if_pos (by simp)]
end Fl
set_option Elab.async false
set_option linter.all false
set_option maxRecDepth 100000
set_option maxHeartbeats 4000000
set_option exponentiation.threshold 20000
namespace Fl
open PySem PySem.Spec PyProof.Rows L2
def pick {α : Type} (is : List Nat) (l : List α) : List α := is.filterMap fun i => l[i]?
theorem Vals.getO : ∀ {vs : List V} {us : List Value} (h : Vals vs us) (i : Nat), (∃ v u, vs[i]? = some v ∧ us[i]? = some u ∧ RelV v u) ∨ (vs[i]? = none ∧ us[i]? = none)
  | _, _, .nil, i => .inr ⟨by simp, by simp⟩
  | _, _, .cons h r, 0 => .inl ⟨_, _, rfl, rfl, h⟩
  | _, _, .cons h r, i + 1 => by
    rcases Vals.getO r i with ⟨v, u, a, b, c⟩ | ⟨a, b⟩
    · exact .inl ⟨v, u, by simpa using a, by simpa using b, c⟩
    · exact .inr ⟨by simpa using a, by simpa using b⟩
theorem Vals.pick {vs : List V} {us : List Value} (h : Vals vs us) : ∀ is : List Nat, Vals (Fl.pick is vs) (Fl.pick is us)
  | [] => .nil
  | i :: is => by
    unfold Fl.pick
    rw [List.filterMap_cons, List.filterMap_cons]
    rcases Vals.getO h i with ⟨v, u, a, b, c⟩ | ⟨a, b⟩
    · rw [a, b]
      exact .cons c (Vals.pick h is)
    · rw [a, b]
      exact Vals.pick h is
theorem Vals.app : ∀ {vs : List V} {us : List Value} {ws : List V} {zs : List Value}, Vals vs us → Vals ws zs → Vals (vs ++ ws) (us ++ zs)
  | _, _, _, _, .nil, k => k
  | _, _, _, _, .cons h r, k => .cons h (Vals.app r k)
/-- a class without bases whose __init__ has named parameters with defaults -/
structure ClsI (K : PySem.W.Frag) (mg : Str → Option Value) (x qual : Str) (st : Stmt) (fs : List Str) (kws : List (Str × V)) : Prop where
  g : mg x = some (.ref (adr mg x))
  cl : Cls K (adr mg x)
  na : ∀ f, f ∈ fs → NoAttr K (adr mg x) f
  mi : ∃ (f : Addr) (fd : FuncData), Mk K (adr mg x) f ∧ FunD K "__init__" qual (defArgs st) (defBody st) (defScope st) [] kws f fd
/-- the class can be called with n values and the names ks -/
structure MkI (P : Program) (w : World) (K : PySem.W.Frag) (mg : Str → Option Value) (base : Heap) (k : Nat) (x : Str) (n : Nat) (ks : List Str) (gV : List V → List V → List V) (sp : Sp) : Prop where
  ex : ∃ (f : Addr) (fd : FuncData) (ps : List Str) (g : List Value → List Value → List Value), mg x = some (.ref (adr mg x)) ∧ Mk K (adr mg x) f ∧ FnOk P w K mg base L2.CX0 k f fd ps sp ∧ KBn K fd ps (n + 1) ks g gV
theorem MkI.mono {P : Program} {w : World} {K : PySem.W.Frag} {mg : Str → Option Value} {base : Heap} {j k : Nat} {x : Str} {n : Nat} {ks : List Str} {gV : List V → List V → List V} {sp : Sp} (h : MkI P w K mg base j x n ks gV sp) (e : j ≤ k) : MkI P w K mg base k x n ks gV sp := by
  obtain ⟨f, fd, ps, g, a, b, c, d⟩ := h.ex
  exact ⟨f, fd, ps, g, a, b, c.mono e, d⟩
/-- an __init__'s promise -/
structure InI (P : Program) (w : World) (K : PySem.W.Frag) (mg : Str → Option Value) (base : Heap) (k : Nat) (x qual : Str) (st : Stmt) (fs : List Str) (kws : List (Str × V)) (ps : List Str) (sp : Sp) : Prop where
  ex : ∃ (f : Addr) (fd : FuncData), mg x = some (.ref (adr mg x)) ∧ Mk K (adr mg x) f ∧ FunD K "__init__" qual (defArgs st) (defBody st) (defScope st) [] kws f fd ∧ FnOk P w K mg base L2.CX0 k f fd ps sp
section
variable {P : Program} {w : World} {K : PySem.W.Frag} {mg : Str → Option Value} {base : Heap}
theorem inI_of {x qual : Str} {st : Stmt} {fs : List Str} {kws : List (Str × V)} {N ps : List Str} {k : Nat} {sp : Sp} (D : ClsI K mg x qual st fs kws) (S : FnScope N ps (defScope st))
    (len : ∀ vs H Q E, sp vs H Q E → vs.length = ps.length)
    (hbody : ∀ (f : Addr) (cdv : Value) (A : Around) (outer : List Env) (s : Shared) (H : Hp) (vs : List V) (Q : VK) (E : XK), Room k (A.deeper (envOfC qual (defScope st) s.heap.objs.size f cdv)) → sp vs H Q E →
      ∃ t, PSs (bx P w K mg base N qual st f cdv A outer s H E) (defBody st) t ∧ t { nx := fun _ H' => Q .non H', rt := Q } (start N vs) H) : InI P w K mg base (k + 1) x qual st fs kws ps sp := by
  obtain ⟨f, fd, M, F⟩ := D.mi
  refine ⟨f, fd, D.g, M, F, F.ok S len fun cdv A outer s H vs Q E hr h => ?_⟩
  obtain ⟨t, ht, q⟩ := hbody f cdv A outer s H vs Q E hr h
  exact ⟨t, ht.nox, q⟩
/-- the calls with n values and the names ks; ms stand by default; is: where each parameter stands in values, defaults, named ones -/
theorem InI.make {x qual : Str} {st : Stmt} {fs : List Str} {kws : List (Str × V)} {ps : List Str} {k : Nat} {sp : Sp} (D : InI P w K mg base k x qual st fs kws ps sp) (n : Nat) (ks : List Str) (ms : List (Str × V)) (is : List Nat) (hk : kws ≠ [])
    (hm : ∀ q, q ∈ ms → q ∈ kws)
    (hb : ∀ (D : Addr) (doc pm : Value) (an : Option Addr) (cdv ct : Value) (us mv ws : List Value), us.length = n + 1 → mv.length = ms.length → ws.length = ks.length →
      KwChain D ((ms.map (fun x => x.fst)).zip mv) (bindArgs (PySem.W.fnOf "__init__" qual (defArgs st) (defBody st) (defScope st) .none (.ref D) doc pm an cdv ct) ⟨us, ks.zip ws⟩) (ps.zip (pick is (us ++ (mv ++ ws))))) :
    MkI P w K mg base k x n ks (fun vs zs => pick is (vs ++ (ms.map (fun x => x.snd) ++ zs))) sp := by
  obtain ⟨f, fd, a, M, F, G⟩ := D.ex
  obtain ⟨mv, b⟩ := F.kbinds0 (n + 1) ks ms (fun {α} us mv ws => pick is (us ++ (mv ++ ws))) hk hm (fun h1 h2 h3 => Vals.pick (Vals.app h1 (Vals.app h2 h3)) is) hb
  exact ⟨f, fd, ps, _, a, M, G, b⟩
end
theorem pe_mk {X : Cx} {mg : Str → Option Value} {k n : Nat} {x : Str} {ks : List Str} {sp : Sp} {gV : List V → List V → List V} {e : Expr} {es : List Expr} {kws : List Keyword} {t tk : TA} {p pos : Pos} (em : X.mg = mg) (h : MkI X.prog X.w X.K X.mg X.base k x n ks gV sp) (hr : Room (k + 1) X.A) (ha : PA X (e :: es) t) (hk : PK X kws tk) (hg : Gl X x := by rfl)
    (h1 : ((backToKw pos (keywordEach kws X.env)).all fun x => x.fst.isSome) = true := by rfl) (h2 : List.filterMap (fun x => x.fst) (backToKw pos (keywordEach kws X.env)) = ks := by rfl)
    (hdb : (x == ("__debug__" : Str)) = false := by decide) (he : starEach (e :: es) X.env = (false, eval e X.env) :: starEach es X.env := by rfl)
    (hpl : (((backTo pos (starEach (e :: es) X.env)).any fun x => x.fst) || (backToKw pos (keywordEach kws X.env)).any fun x => x.fst.isNone) = false := by rfl) :
    PE X (.Call (.Name x p) (e :: es) kws pos) (tMakeK (adr mg x) n ks.length sp gV E0 t tk) := by
  subst em
  obtain ⟨f, fd, ps, g, a, b, c, d⟩ := h.ex
  exact pe_makeK b c hr hg a d pass0 ha hk h1 h2 hdb he hpl
def iOr (t1 t2 : TI) : TI := fun σ H R => t1 σ H R ∨ t2 σ H R
theorem piOr {X : Cx} {tg l : Expr} {t1 t2 : TI} (h1 : PI X tg l t1) (h2 : PI X tg l t2) : PI X tg l (iOr t1 t2) := ⟨fun pins s σ H R I h => h.elim (h1.run pins s σ H R I) (h2.run pins s σ H R I)⟩
theorem piS {X : Cx} {K : PySem.W.Frag} {l tg : Expr} {tl : TE} (e : X.K = K) (h : PE X l tl) : PI X tg l (iOr (iList K tl) (iTup K tl)) := piOr (piL e h) (piT e h)
section
variable {X : Cx} {K : PySem.W.Frag}
def rTupOf (K : PySem.W.Frag) : List V → Hp → VK → Prop := fun xs H Q => ∃ p ys, xs = [V.ref p] ∧ ((SqL K H p ys ∧ ∀ l, H l = none → Q (.ref l) (upd H l (.tup ys))) ∨ SqT K H p ys ∧ Q (.ref p) H)
theorem clTupOf (e : X.K = K) : CallR X (.type "tuple") (rTupOf K) := by subst e; exact call_tuple_of
def rLstOf (K : PySem.W.Frag) : List V → Hp → VK → Prop := fun xs H Q => ∃ p ys, xs = [V.ref p] ∧ (SqL K H p ys ∨ SqT K H p ys) ∧ ∀ l, H l = none → Q (.ref l) (upd H l (.lst ys))
theorem clLstOf (e : X.K = K) : CallR X (.type "list") (rLstOf K) := by subst e; exact call_list_of
/-- o.f = e, within a written part of its own -/
theorem psFld {o value : Expr} {f : Str} {pos pos' : Pos} {ta tv : TE} (e : X.K = K) (h1 : PE X o ta) (h2 : PE X value tv) (hs : swapsWith value (some (o.Attribute f pos')) pos.line X.env = pure false) : PS X (.Assign [o.Attribute f pos'] value pos) (sFld K ta tv f) := by subst e; exact ps_fld h1 h2 hs
theorem peFld {o : Expr} {f : Str} {pos : Pos} {ta : TE} (e : X.K = K) (h : PE X o ta) (hb : attributeBase o f X.env (eval o X.env) = eval o X.env) : PE X (o.Attribute f pos) (tFld K ta f) := by subst e; exact pe_fld h hb
end
def encF (p : Str × PyData) : PyData × PyData := (.str p.1, p.2)
def insD (C : Addr) (fs : List (Str × PyData)) : PyData := .dict ((.none, .int (C : Int)) :: fs.map encF)
inductive DqN (S : List Addr) (H : Hp) : List (Str × V) → List (Str × PyData) → Prop
  | nil : DqN S H [] []
  | cons {n : Str} {v : V} {d : PyData} {fs : List (Str × V)} {ds : List (Str × PyData)} : Dq S H v d → DqN S H fs ds → DqN S H ((n, v) :: fs) ((n, d) :: ds)
section
variable {S T : List Addr} {H H' : Hp} {fs gs : List (Str × V)} {ds es : List (Str × PyData)} {v : V} {d : PyData} {n : Str}
theorem DqN.enc : ∀ {fs : List (Str × V)} {ds : List (Str × PyData)}, DqN S H fs ds → DqF S H fs (ds.map encF)
  | _, _, .nil => .nil
  | _, _, .cons h r => .cons h (DqN.enc r)
theorem DqF.dec : ∀ {fs : List (Str × V)} {ds : List (Str × PyData)}, DqF S H fs (ds.map encF) → DqN S H fs ds
  | _, [], h => by cases h; exact .nil
  | _, (n, d) :: ds, h => by
    cases h with
    | cons h r => exact .cons h (DqF.dec r)
theorem DqN.app : ∀ {fs gs : List (Str × V)} {ds es : List (Str × PyData)}, DqN S H fs ds → DqN S H gs es → DqN S H (fs ++ gs) (ds ++ es)
  | _, _, _, _, .nil, k => k
  | _, _, _, _, .cons h r, k => .cons h (DqN.app r k)
theorem DqN.fr : ∀ {fs : List (Str × V)} {ds : List (Str × PyData)}, DqN S H fs ds → Fr S H H' → DqN S H' fs ds
  | _, _, .nil, _ => .nil
  | _, _, .cons h r, e => .cons (h.fr e) (DqN.fr r e)
theorem DqN.mono : ∀ {fs : List (Str × V)} {ds : List (Str × PyData)}, DqN S H fs ds → (∀ a, a ∈ T → a ∈ S) → DqN T H fs ds
  | _, _, .nil, _ => .nil
  | _, _, .cons h r, e => .cons (h.mono e) (DqN.mono r e)
theorem Dq.insE {C : Addr} (h : Dq S H v (insD C ds)) : ∃ a dx fs, v = .ref a ∧ a ∉ S ∧ H a = some (.ins C dx fs) ∧ DqN S H fs ds := by
  unfold insD at h
  generalize e : (C : Int) = c at h
  cases h with
  | ins n q r =>
    rename_i C' dx fs
    have : C = C' := by exact_mod_cast e
    subst this
    exact ⟨_, _, _, rfl, n, q, DqF.dec r⟩
theorem Dq.insI {C a dx : Addr} (n : a ∉ S) (q : H a = some (.ins C dx fs)) (r : DqN S H fs ds) : Dq S H (.ref a) (insD C ds) := .ins n q r.enc
end
/-- an empty tuple of the written part: a default -/
def EmT (K : PySem.W.Frag) (a : Addr) : Prop := ∃ o its n, K.lookup a = some o ∧ o.cls = .type "tuple" ∧ o.data = .seq its n ∧ its.size ≤ sizeLine ∧ Vals [] its.toList
theorem EmT.sq {K : PySem.W.Frag} {a : Addr} (h : EmT K a) (H : Hp) : SqT K H a [] := .inr h
/-- what may be handed to a maker: data, or a default () -/
def De (K : PySem.W.Frag) (S : List Addr) (H : Hp) (v : V) (d : PyData) : Prop := Dq S H v d ∨ (d = .tuple [] ∧ ∃ a, v = .ref a ∧ EmT K a)
inductive DeA (K : PySem.W.Frag) (S : List Addr) (H : Hp) : List V → List PyData → Prop
  | nil : DeA K S H [] []
  | cons {v : V} {vs : List V} {d : PyData} {ds : List PyData} : De K S H v d → DeA K S H vs ds → DeA K S H (v :: vs) (d :: ds)
section
variable {K : PySem.W.Frag} {S T : List Addr} {H H' : Hp} {v : V} {d : PyData} {vs : List V} {ds : List PyData}
theorem De.fr (h : De K S H v d) (e : Fr S H H') : De K S H' v d := h.imp (fun h => h.fr e) id
theorem De.mono (h : De K S H v d) (k : ∀ a, a ∈ T → a ∈ S) : De K T H v d := h.imp (fun h => h.mono k) id
theorem De.new {p : Addr} (h : De K S H v d) (e : H p = none) : De K (p :: S) H v d := h.imp (fun h => h.new e) id
theorem DeA.fr : ∀ {vs : List V} {ds : List PyData}, DeA K S H vs ds → Fr S H H' → DeA K S H' vs ds
  | _, _, .nil, _ => .nil
  | _, _, .cons h r, e => .cons (h.fr e) (DeA.fr r e)
theorem DeA.new {p : Addr} : ∀ {vs : List V} {ds : List PyData}, DeA K S H vs ds → H p = none → DeA K (p :: S) H vs ds
  | _, _, .nil, _ => .nil
  | _, _, .cons h r, e => .cons (h.new e) (DeA.new r e)
theorem DeA.consE (h : DeA K S H vs (d :: ds)) : ∃ v ws, vs = v :: ws ∧ De K S H v d ∧ DeA K S H ws ds := by
  cases h with
  | cons h r => exact ⟨_, _, rfl, h, r⟩
theorem DeA.nilE (h : DeA K S H vs []) : vs = [] := by cases h; rfl
theorem De.lst {xs : List PyData} (h : De K S H v (.list xs)) : Dq S H v (.list xs) := by
  rcases h with h | ⟨e, _⟩
  · exact h
  · cases e
end
/-- the items of a list or a tuple -/
def sqI : PyData → Option (List PyData)
  | .list xs => some xs
  | .tuple xs => some xs
  | _ => none
theorem De.seq {K : PySem.W.Frag} {S : List Addr} {H : Hp} {v : V} {d : PyData} {xs : List PyData} (h : De K S H v d) (e : sqI d = some xs) :
    ∃ a vs, v = .ref a ∧ DqA S H vs xs ∧ (∀ H', Fr S H H' → SqL K H' a vs) ∨ (∃ a vs, v = .ref a ∧ DqA S H vs xs ∧ (∀ H', Fr S H H' → SqT K H' a vs)) := by
  rcases h with h | ⟨rfl, a, rfl, m⟩
  · cases h with
    | lst n q r => cases e; exact ⟨_, _, .inl ⟨rfl, r, fun H' f => SqL.of (f _ _ n q)⟩⟩
    | tup n q r => cases e; exact ⟨0, [], .inr ⟨_, _, rfl, r, fun H' f => SqT.of (f _ _ n q)⟩⟩
    | _ => cases e
  · cases e
    exact ⟨0, [], .inr ⟨a, [], rfl, .nil, fun H' f => m.sq H'⟩⟩
/-- a function of what may be handed to a maker -/
def spE (K : PySem.W.Frag) (f : List PyData → PyData → Prop) : Sp := fun vs H Q _ => ∃ S ds d, Al S H ∧ DeA K S H vs ds ∧ f ds d ∧ ∀ v H', Same H H' → Dq S H' v d → Q v H'
theorem spE_app {K : PySem.W.Frag} {f : List PyData → PyData → Prop} {vs : List V} {H : Hp} {Q : VK} {E : XK} (S : List Addr) (ds : List PyData) (d : PyData) (hS : Al S H) (hd : DeA K S H vs ds) (hf : f ds d) (q : ∀ v H', Same H H' → Dq S H' v d → Q v H') : spE K f vs H Q E :=
  ⟨S, ds, d, hS, hd, hf, q⟩
/-- an __init__: the new object's fields -/
def spI (K : PySem.W.Frag) (C : Addr) (f : List PyData → List (Str × PyData) → Prop) : Sp := fun vs H Q _ =>
  ∃ S x dx ws ds fs, vs = .ref x :: ws ∧ x ∈ S ∧ Al S H ∧ H x = some (.ins C dx []) ∧ DeA K S H ws ds ∧ f ds fs ∧ ∀ H' gs, Fr [x] H H' → H' x = some (.ins C dx gs) → DqN S H' gs fs → Q .non H'
theorem mk_app {K : PySem.W.Frag} {C : Addr} {f : List PyData → List (Str × PyData) → Prop} {ws : List V} {H : Hp} {Z : Addr → Hp → Prop} {E : XK} {gl : Addr → List V} (S : List Addr) (ds : List PyData) (fs : List (Str × PyData)) (hg : ∀ x, gl x = .ref x :: ws) (hS : Al S H) (hd : DeA K S H ws ds) (hf : f ds fs)
    (q : ∀ x H', Same H H' → Dq S H' (.ref x) (insD C fs) → Z x H') :
    ∀ x dx, H x = none → H dx = none → dx ≠ x → spI K C f (gl x) (upd (upd H dx (.own x)) x (.ins C dx [])) (fun v H3 => v = .non ∧ Z x H3) E := by
  intro x dx h1 h2 h3
  have s1 : Same H (upd H dx (.own x)) := Fl.Same.new h2
  have h1' : upd H dx (.own x) x = none := by rw [upd_ne (Ne.symm h3)]; exact h1
  have s2 : Same H (upd (upd H dx (.own x)) x (.ins C dx [])) := L2.Same.trans s1 (Fl.Same.new h1')
  have al : Al (x :: S) (upd (upd H dx (.own x)) x (.ins C dx [])) := .cons (by rw [upd_same]; simp) (hS.same s2)
  rw [hg]
  refine ⟨x :: S, x, dx, ws, ds, fs, rfl, by simp, al, upd_same, (hd.new h1).fr (Fr.same s2), hf, fun H' gs f' e n => ⟨rfl, ?_⟩⟩
  have sm : Same H H' := fun a o e2 => f' a o (by simp; intro z; rw [z, h1] at e2; cases e2) (s2 a o e2)
  exact q x H' sm (Dq.insI (hS.ni h1) e (n.mono fun a m => List.mem_cons_of_mem _ m))
section
variable {S : List Addr} {H1 : Hp} {K : PySem.W.Frag} {g : TG} {tt : TT} {te : TE} {vs : List Nat} {σ : L2.St} {Q : VK}
theorem lc_tupP {a : Addr} {xs : List V} {D : Addr} {Qd : Hp → Prop} (Pv : Nat → Hp → Prop) (h0 : Pv 0 (upd H1 D (.lst [])))
    (hl : ∀ i H, i ≤ xs.length → Pv i H → SqT K H a xs)
    (hs : ∀ i x H, xs[i]? = some x → Pv i H → g x (wipe σ vs) H fun σ2 H2 => wipe σ2 vs = wipe σ vs ∧ tt σ2 H2 fun b H3 =>
        if b = true then te σ2 H3 fun y H4 => ∃ acc, H4 D = some (.lst acc) ∧ acc.length < sizeLine ∧ Pv (i + 1) (upd H4 D (.lst (acc ++ [y]))) else Pv (i + 1) H3)
    (hd : ∀ H, Pv xs.length H → Qd H) :
    ∃ W : Nat → Nat → Hp → Prop, (∃ m, W 0 m (upd H1 D (.lst []))) ∧ ∀ i m H, W i m H →
      ((Itt K a).stop i H ∧ Qd H) ∨ ((Itt K a).go i H ∧ ∃ Nx : Hp → Prop, (∀ H', Nx H' → ∃ m', m' < m ∧ W (i + 1) m' H') ∧
        ∀ x H', (Itt K a).yld i H x H' → g x (wipe σ vs) H' fun σ2 H2 => wipe σ2 vs = wipe σ vs ∧ tt σ2 H2 fun b H3 =>
          if b = true then te σ2 H3 fun y H4 => ∃ acc, H4 D = some (.lst acc) ∧ acc.length < sizeLine ∧ Nx (upd H4 D (.lst (acc ++ [y]))) else Nx H3) := by
  refine ⟨fun i m H => m = xs.length - i ∧ i ≤ xs.length ∧ Pv i H, ⟨xs.length, rfl, Nat.zero_le _, h0⟩, fun i m H h => ?_⟩
  obtain ⟨rfl, hi, p⟩ := h
  have q := hl i H hi p
  by_cases hlt : i < xs.length
  · refine .inr ⟨⟨xs, xs[i], q, by simp [hlt]⟩, Pv (i + 1), fun H' p' => ⟨xs.length - (i + 1), by omega, rfl, hlt, p'⟩, fun x H' y => ?_⟩
    obtain ⟨rfl, y⟩ := y
    exact hs i x H' (y xs q) p
  · have e : i = xs.length := by omega
    subst e
    exact .inl ⟨⟨xs, q, Nat.le_refl _⟩, hd H p⟩
/-- [elt for x in t if test], t a list or a tuple; nothing changed -/
theorem lcS {wi : TE} {v : V} {d : PyData} {es : List PyData} (f : Nat → Option PyData) (hS : Al S H1) (ha : De K S H1 v d) (he : sqI d = some es) (hz : es.length < 1000)
    (hv : ∀ R : VK, R v H1 → wi σ H1 R)
    (step : ∀ (D : Addr) (i : Nat) (x : V) (e : PyData) (H : Hp), H1 D = none → es[i]? = some e → Same H1 H → Al (D :: S) H → Dq (D :: S) H x e →
      ∀ (R : V → Hp → Prop) (N : Hp → Prop), (∀ r y H4, f i = some r → Same H H4 → Dq (D :: S) H4 y r → R y H4) → (f i = none → ∀ H4, Same H H4 → N H4) →
      g x (wipe σ vs) H fun σ2 H2 => wipe σ2 vs = wipe σ vs ∧ tt σ2 H2 fun b H3 => if b = true then te σ2 H3 R else N H3)
    (q : ∀ (D : Addr) (H : Hp), Same H1 H → H1 D = none → Dq S H (.ref D) (.list ((List.range es.length).filterMap f)) → Q (.ref D) H) :
    iOr (iList K wi) (iTup K wi) σ H1 fun J H1 => lcK J g tt te vs σ H1 Q := by
  obtain ⟨a, xs, h | h⟩ := ha.seq he
  · obtain ⟨rfl, hall, hsq⟩ := h
    refine .inl (hv _ ⟨a, rfl, ⟨xs, hsq H1 Fr.refl⟩, ?_⟩)
    unfold lcK
    intro D hD
    have hlx := hall.len
    have hfr : ∀ H, Fr [D] H1 H → Fr S H1 H := fun H f b o n e => f b o (by simp; intro z; rw [z, hD] at e; cases e) e
    refine lc_list (xs := xs) (CompAt S H1 D f) (CompAt.zero hD) (fun i H _ h => hsq H (hfr H h.fr)) ?_ ?_
    · intro i x H hx h
      have hlt : i < xs.length := (List.getElem?_eq_some_iff.mp hx).1
      have hsm : Same H1 H := sm_of hD h.fr
      obtain ⟨e, he, hxe⟩ := ((hall.new hD).same hsm).get hx
      exact step D i x e H hD he hsm (h.al hS hD) hxe _ _ (fun r y H4 er s d => h.put (by omega) er s d) fun en H4 s => (h.same s).skip en
    · intro H h
      rw [hlx] at h
      exact q D H (sm_of hD h.fr) hD (h.fin hS hD)
  · obtain ⟨a, xs, rfl, hall, hsq⟩ := h
    refine .inr (hv _ ⟨a, rfl, ⟨xs, hsq H1 Fr.refl⟩, ?_⟩)
    unfold lcK
    intro D hD
    have hlx := hall.len
    have hfr : ∀ H, Fr [D] H1 H → Fr S H1 H := fun H f b o n e => f b o (by simp; intro z; rw [z, hD] at e; cases e) e
    refine lc_tupP (xs := xs) (CompAt S H1 D f) (CompAt.zero hD) (fun i H _ h => hsq H (hfr H h.fr)) ?_ ?_
    · intro i x H hx h
      have hlt : i < xs.length := (List.getElem?_eq_some_iff.mp hx).1
      have hsm : Same H1 H := sm_of hD h.fr
      obtain ⟨e, he, hxe⟩ := ((hall.new hD).same hsm).get hx
      exact step D i x e H hD he hsm (h.al hS hD) hxe _ _ (fun r y H4 er s d => h.put (by omega) er s d) fun en H4 s => (h.same s).skip en
    · intro H h
      rw [hlx] at h
      exact q D H (sm_of hD h.fr) hD (h.fin hS hD)
end
end Fl
set_option Elab.async false
set_option linter.all false
set_option maxRecDepth 100000
set_option maxHeartbeats 4000000
set_option exponentiation.threshold 20000
namespace Fl
open PySem PySem.Spec PyProof.Rows L2
section
variable {K : PySem.W.Frag} {σ : L2.St} {H : Hp} {Q : VK} {ta tv : TE} {f : Str} {D : Ends} {a C dx : Addr} {fs : List (Str × V)} {v y : V} {l : List Str}
theorem g_fld (h : ta σ H fun x H1 => ∃ a C dx fs v, x = .ref a ∧ H1 a = some (.ins C dx fs) ∧ Cls K C ∧ NoAttr K C f ∧ fs.lookup f = some v ∧ Q v H1) : tFld K ta f σ H Q := h
theorem g_fldE {Z : V → Prop} (h : H a = some (.ins C dx fs)) (c : Cls K C) (n : NoAttr K C f) (e : fs.lookup f = some v) (q : Z v) : ∃ a' C' dx' fs' v', V.ref a = .ref a' ∧ H a' = some (.ins C' dx' fs') ∧ Cls K C' ∧ NoAttr K C' f ∧ fs'.lookup f = some v' ∧ Z v' := ⟨a, C, dx, fs, v, rfl, h, c, n, e, q⟩
theorem g_sf (h : tv σ H fun y H1 => ta σ H1 fun x H2 => ∃ a C dx fs, x = .ref a ∧ H2 a = some (.ins C dx fs) ∧ Cls K C ∧ NoAttr K C f ∧ fs.length < 1000 ∧ D.nx σ (upd H2 a (.ins C dx (putF f y fs)))) : sFld K ta tv f D σ H := h
theorem g_sfE {Z : Hp → Prop} (h : H a = some (.ins C dx fs)) (c : Cls K C) (n : NoAttr K C f) (e : fs.length < 1000) (q : Z (upd H a (.ins C dx (putF f y fs)))) : ∃ a' C' dx' fs', V.ref a = .ref a' ∧ H a' = some (.ins C' dx' fs') ∧ Cls K C' ∧ NoAttr K C' f ∧ fs'.length < 1000 ∧ Z (upd H a' (.ins C' dx' (putF f y fs'))) := ⟨a, C, dx, fs, rfl, h, c, n, e, q⟩
theorem na_of (h : ∀ f, f ∈ l → NoAttr K C f) (m : l.contains f = true) : NoAttr K C f := h f (List.contains_iff_mem.mp m)
theorem putF_new : ∀ {fs : List (Str × V)}, (fs.map Prod.fst).contains f = false → putF f y fs = fs ++ [(f, y)]
  | [], _ => rfl
  | (g, z) :: fs, h => by
    simp only [List.map_cons, List.contains_cons, Bool.or_eq_false_iff] at h
    unfold putF
    rw [putF_new h.2]
    have e : ¬ g = f := fun e => by
      rw [e] at h
      simp at h
    simp [e]
end
/-- a new object x while its fields are being set -/
structure InitAt (S : List Addr) (x C dx : Addr) (H0 H : Hp) (gs : List (Str × V)) (fs : List (Str × PyData)) : Prop where
  fr : Fr [x] H0 H
  hx : H x = some (.ins C dx gs)
  dq : DqN S H gs fs
  al : Al S H
  mem : x ∈ S
section
variable {K : PySem.W.Frag} {S : List Addr} {x C dx : Addr} {H0 H H' : Hp} {gs : List (Str × V)} {fs : List (Str × PyData)} {f : Str} {v : V} {d : PyData}
theorem InitAt.start (hx : H x = some (.ins C dx [])) (al : Al S H) (m : x ∈ S) : InitAt S x C dx H H [] [] := ⟨Fr.refl, hx, .nil, al, m⟩
theorem InitAt.same (I : InitAt S x C dx H0 H gs fs) (e : Same H H') : InitAt S x C dx H0 H' gs fs := ⟨I.fr.trans (Fr.same e), e _ _ I.hx, I.dq.fr (Fr.same e), I.al.same e, I.mem⟩
theorem InitAt.put (I : InitAt S x C dx H0 H gs fs) (hv : Dq S H v d) (f : Str) (hn : (gs.map Prod.fst).contains f = false) : InitAt S x C dx H0 (upd H x (.ins C dx (putF f v gs))) (gs ++ [(f, v)]) (fs ++ [(f, d)]) := by
  rw [putF_new hn]
  have u : Fr S H (upd H x (.ins C dx (gs ++ [(f, v)]))) := Fr.upd I.mem
  refine ⟨I.fr.trans (Fr.upd (by simp)), upd_same, (I.dq.fr u).app (.cons (hv.fr u) .nil), ?_, I.mem⟩
  intro b m q
  by_cases hb : b = x
  · rw [hb, upd_same] at q; cases q
  · rw [upd_ne hb] at q; exact I.al b m q
theorem InitAt.dqO (I : InitAt S x C dx H0 H gs fs) (h : Dq S H0 v d) : Dq S H v d := h.fr (I.fr.mono fun a m => by rw [show a = x by simpa using m]; exact I.mem)
theorem InitAt.deO (I : InitAt S x C dx H0 H gs fs) (h : De K S H0 v d) : De K S H v d := h.fr (I.fr.mono fun a m => by rw [show a = x by simpa using m]; exact I.mem)
theorem De.dq (h : De K S H v d) (n : d ≠ .tuple []) : Dq S H v d := by
  rcases h with h | ⟨e, _⟩
  · exact h
  · exact absurd e n
end
def Sq1 (d : PyData) (L : List PyData) : Prop := sqI d = some L ∧ L.length < 1000
def Sq2 (d : PyData) (L : List (List PyData)) : Prop := ∃ xs, sqI d = some xs ∧ xs.map sqI = L.map some ∧ L.length < 1000
def Sq3 (d : PyData) (L : List (List (List PyData))) : Prop := ∃ xs, sqI d = some xs ∧ xs.length = L.length ∧ (∀ (i : Nat) x l, xs[i]? = some x → L[i]? = some l → Sq2 x l) ∧ L.length < 1000
def ltD (L : List (List PyData)) : PyData := .list (L.map .tuple)
def llD (L : List (List PyData)) : PyData := .list (L.map .list)
def ouD3 (L : List (List (List PyData))) : PyData := .list (L.map ltD)
section
variable {L : List (List PyData)} {M : List (List (List PyData))} {l : List PyData}
theorem Sq1.ls (h : l.length < 1000) : Sq1 (.list l) l := ⟨rfl, h⟩
theorem Sq1.e : Sq1 (.tuple []) [] := ⟨rfl, by decide⟩
theorem Sq2.lt (h : L.length < 1000) : Sq2 (ltD L) L := ⟨_, rfl, by rw [List.map_map]; rfl, h⟩
theorem Sq2.ll (h : L.length < 1000) : Sq2 (llD L) L := ⟨_, rfl, by rw [List.map_map]; rfl, h⟩
theorem Sq2.e : Sq2 (.tuple []) [] := ⟨[], rfl, rfl, by decide⟩
theorem Sq3.ou (h : M.length < 1000) (k : ∀ c, c ∈ M → c.length < 1000) : Sq3 (ouD3 M) M := by
  refine ⟨_, rfl, by rw [List.length_map], fun i x l e1 e2 => ?_, h⟩
  rw [List.getElem?_map, e2] at e1
  cases e1
  exact Sq2.lt (k l (List.mem_of_getElem? e2))
theorem Sq3.e : Sq3 (.tuple []) [] := ⟨[], rfl, rfl, fun i x l e1 _ => by simp at e1, by decide⟩
theorem Sq3.le : Sq3 (.list []) [] := ⟨[], rfl, rfl, fun i x l e1 _ => by simp at e1, by decide⟩
theorem Sq2.le : Sq2 (.list []) [] := ⟨[], rfl, rfl, by decide⟩
theorem fm_ltA {α : Type} {L : List α} {f : α → PyData} {n : Nat} (h : n = L.length) : (List.range n).filterMap (fun i => (L[i]?).map f) = L.map f := by
  subst h
  have e : (fun i : Nat => (L[i]?).map f) = fun i => (L.map f)[i]? := funext fun i => by rw [List.getElem?_map]
  rw [e]
  have := fm_map (es := L.map f) (rs := L.map f) rfl
  rwa [List.length_map] at this
theorem sq2_at {xs : List PyData} {i : Nat} {e : PyData} (h : xs.map sqI = L.map some) (he : xs[i]? = some e) : ∃ l, L[i]? = some l ∧ sqI e = some l := by
  have : (xs.map sqI)[i]? = (L.map some)[i]? := by rw [h]
  rw [List.getElem?_map, List.getElem?_map, he] at this
  cases hl : L[i]? with
  | none => rw [hl] at this; cases this
  | some l => rw [hl] at this; exact ⟨l, rfl, by simpa using this⟩
theorem sq2_len {xs : List PyData} (h : xs.map sqI = L.map some) : xs.length = L.length := by
  have := congrArg List.length h
  simpa using this
end
def fTof (ds : List PyData) (d : PyData) : Prop := ∃ r L, ds = [r] ∧ Sq2 r L ∧ d = ltD L
theorem DqN.consE {S : List Addr} {H : Hp} {n : Str} {d : PyData} {fs : List (Str × V)} {ds : List (Str × PyData)} (h : DqN S H fs ((n, d) :: ds)) : ∃ v gs, fs = (n, v) :: gs ∧ Dq S H v d ∧ DqN S H gs ds := by
  cases h with
  | cons h r => exact ⟨_, _, rfl, h, r⟩
theorem DqN.nilE {S : List Addr} {H : Hp} {fs : List (Str × V)} (h : DqN S H fs []) : fs = [] := by cases h; rfl
theorem lstOf_de {K : PySem.W.Frag} {S : List Addr} {H : Hp} {v : V} {e : PyData} {l : List PyData} {Q : VK} (al : Al S H) (h : De K S H v e) (hl : sqI e = some l) (q : ∀ p H', Same H H' → Dq S H' (.ref p) (.list l) → Q (.ref p) H') : rLstOf K [v] H Q := by
  obtain ⟨a, zs, h | h⟩ := h.seq hl
  · obtain ⟨rfl, hA, hs⟩ := h
    exact ⟨a, zs, rfl, .inl (hs _ Fr.refl), fun p hp => q p _ (Fl.Same.new hp) (Dq.newL al hp hA)⟩
  · obtain ⟨a, zs, rfl, hA, hs⟩ := h
    exact ⟨a, zs, rfl, .inr (hs _ Fr.refl), fun p hp => q p _ (Fl.Same.new hp) (Dq.newL al hp hA)⟩
theorem lstOf_app {K : PySem.W.Frag} {S : List Addr} {H : Hp} {v : V} {e : PyData} {l : List PyData} {Q : VK} (al : Al S H) (h : Dq S H v e) (hl : sqI e = some l) (q : ∀ p H', Same H H' → Dq S H' (.ref p) (.list l) → Q (.ref p) H') : rLstOf K [v] H Q := lstOf_de al (.inl h) hl q
theorem g_make {C : Addr} {n m : Nat} {sp : Sp} {gV : List V → List V → List V} {E : XK} {t tk : TA} {σ : L2.St} {H : Hp} {Q : VK}
    (h : t σ H fun vs H1 => tk σ H1 fun zs H2 => vs.length = n ∧ zs.length = m ∧ ∀ x dx, H2 x = none → H2 dx = none → dx ≠ x → sp (gV (.ref x :: vs) zs) (upd (upd H2 dx (.own x)) x (.ins C dx [])) (fun v H3 => v = .non ∧ Q (.ref x) H3) E) : tMakeK C n m sp gV E t tk σ H Q := h
theorem g_mk {A B C : Prop} (h1 : A) (h2 : B) (h3 : C) : A ∧ B ∧ C := ⟨h1, h2, h3⟩
structure GlR where
  adv : PyData
  outl : List (List (List PyData))
  parts : List (List PyData)
  anch : List (List PyData)
  mark : PyData
  deltas : List (List PyData)
  hint : List (List PyData)
structure RuR where
  inside : List (List PyData)
  back : List (List PyData)
  ahead : List (List PyData)
  out : List PyData
  calls : List (List PyData)
  extra : PyData
structure LkR where
  kind : PyData
  rules : List RuR
  ign : PyData
def GlR.F (g : GlR) : List (Str × PyData) := [("advance", g.adv), ("outline", ouD3 g.outl), ("parts", ltD g.parts), ("anchors", ltD g.anch), ("mark", g.mark), ("deltas", ltD g.deltas), ("hint", ltD g.hint)]
def RuR.F (r : RuR) : List (Str × PyData) := [("inside", llD r.inside), ("back", llD r.back), ("ahead", llD r.ahead), ("out", .list r.out), ("calls", ltD r.calls), ("extra", r.extra)]
def LkR.F (C : Addr) (k : LkR) : List (Str × PyData) := [("kind", k.kind), ("rules", .list (k.rules.map fun r => insD C r.F)), ("ignore", k.ign)]
structure GlR.ok (g : GlR) : Prop where
  a : g.adv ≠ .tuple []
  m : g.mark ≠ .tuple []
  o : g.outl.length < 1000
  c : ∀ c, c ∈ g.outl → c.length < 1000
  p : g.parts.length < 1000
  n : g.anch.length < 1000
  d : g.deltas.length < 1000
  h : g.hint.length < 1000
structure RuR.ok (x : RuR) : Prop where
  i : x.inside.length < 1000
  b : x.back.length < 1000
  a : x.ahead.length < 1000
  o : x.out.length < 1000
  c : x.calls.length < 1000
  e : x.extra ≠ .tuple []
structure LkR.ok (x : LkR) : Prop where
  k : x.kind ≠ .tuple []
  r : x.rules.length < 1000
  ro : ∀ r, r ∈ x.rules → RuR.ok r
  g : x.ign ≠ .tuple []
/-- what Glyph is called with -/
def fGl (ds : List PyData) (fs : List (Str × PyData)) : Prop := ∃ (o p n d h : PyData) (g : GlR), ds = [g.adv, o, p, n, g.mark, d, h] ∧ g.ok ∧ Sq3 o g.outl ∧ Sq2 p g.parts ∧ Sq2 n g.anch ∧ Sq2 d g.deltas ∧ Sq2 h g.hint ∧ fs = g.F
def fRu (ds : List PyData) (fs : List (Str × PyData)) : Prop := ∃ (i b a o c : PyData) (r : RuR), ds = [i, b, a, o, c, r.extra] ∧ r.ok ∧ Sq2 i r.inside ∧ Sq2 b r.back ∧ Sq2 a r.ahead ∧ Sq1 o r.out ∧ Sq2 c r.calls ∧ fs = r.F
def fLk (CR : Addr) (ds : List PyData) (fs : List (Str × PyData)) : Prop := ∃ (k : LkR) (rs : PyData), ds = [k.kind, rs, k.ign] ∧ k.ok ∧ sqI rs = some (k.rules.map fun r => insD CR r.F) ∧ fs = k.F CR
def fCg (CG : Addr) (ds : List PyData) (d : PyData) : Prop := ∃ g : GlR, g.ok ∧ ds = [insD CG g.F] ∧ d = insD CG g.F
def fCr (CR : Addr) (ds : List PyData) (d : PyData) : Prop := ∃ r : RuR, r.ok ∧ ds = [insD CR r.F] ∧ d = insD CR r.F
def fCl (CR CL : Addr) (ds : List PyData) (d : PyData) : Prop := ∃ k : LkR, k.ok ∧ ds = [insD CL (k.F CR)] ∧ d = insD CL (k.F CR)
/-- lcs_done: a walk over items of one kind, each copied -/
theorem at_map {α : Type} {L : List α} {f : α → PyData} {i : Nat} {e : PyData} (h : (L.map f)[i]? = some e) : ∃ x, L[i]? = some x ∧ e = f x := by
  rw [List.getElem?_map] at h
  cases hl : L[i]? with
  | none => rw [hl] at h; cases h
  | some x => rw [hl] at h; exact ⟨x, rfl, by simpa using h.symm⟩
structure FoR where
  unit : PyData
  glyphs : List GlR
  chars : List (List PyData)
  lookups : List LkR
  features : List (PyData × List PyData)
  axes : List (List PyData)
  regions : List (List (List PyData))
  functions : List (List (List PyData))
  presets : List PyData
structure Cs where
  G : Addr
  R : Addr
  L : Addr
  F : Addr
def glD (c : Cs) (g : GlR) : PyData := insD c.G g.F
def lkD (c : Cs) (k : LkR) : PyData := insD c.L (k.F c.R)
def feD (f : PyData × List PyData) : PyData := .tuple [f.1, .list f.2]
def FoR.F (c : Cs) (f : FoR) : List (Str × PyData) := [("unit", f.unit), ("glyphs", .list (f.glyphs.map (glD c))), ("chars", ltD f.chars), ("lookups", .list (f.lookups.map (lkD c))), ("features", .list (f.features.map feD)), ("axes", ltD f.axes), ("regions", ouD3 f.regions), ("functions", ouD3 f.functions), ("presets", .list f.presets)]
def foD (c : Cs) (f : FoR) : PyData := insD c.F (f.F c)
structure FoR.ok (x : FoR) : Prop where
  u : x.unit ≠ .tuple []
  g : x.glyphs.length < 1000
  go : ∀ g, g ∈ x.glyphs → GlR.ok g
  c : x.chars.length < 1000
  l : x.lookups.length < 1000
  lo : ∀ k, k ∈ x.lookups → LkR.ok k
  f : x.features.length < 1000
  a : x.axes.length < 1000
  r : x.regions.length < 1000
  n : x.functions.length < 1000
  p : x.presets.length < 1000
/-- the pairs of features as they are handed in: a pair of a name and a list or tuple -/
def SqF (d : PyData) (L : List (PyData × List PyData)) : Prop := ∃ xs, sqI d = some xs ∧ xs.length = L.length ∧ (∀ (i : Nat) x (l : PyData × List PyData), xs[i]? = some x → L[i]? = some l → ∃ m, x = .tuple [l.1, m] ∧ Sq1 m l.2) ∧ L.length < 1000
theorem SqF.e : SqF (.tuple []) [] := ⟨[], rfl, rfl, fun i x l e1 _ => by simp at e1, by decide⟩
def fFf (c : Cs) (V : FoR → Prop) (ds : List PyData) (d : PyData) : Prop := ∃ f : FoR, V f ∧ ds = [foD c f] ∧ d = .none
def fFo (c : Cs) (V : FoR → Prop) (ds : List PyData) (fs : List (Str × PyData)) : Prop := ∃ (gs ch ls fe ax re fn pr : PyData) (f : FoR), ds = [f.unit, gs, ch, ls, fe, ax, re, fn, pr] ∧ f.ok ∧ V f ∧
  sqI gs = some (f.glyphs.map (glD c)) ∧ Sq2 ch f.chars ∧ sqI ls = some (f.lookups.map (lkD c)) ∧ SqF fe f.features ∧ Sq2 ax f.axes ∧ Sq3 re f.regions ∧ Sq3 fn f.functions ∧ Sq1 pr f.presets ∧ fs = f.F c
theorem InitAt.fin {S : List Addr} {x C dx : Addr} {H0 H : Hp} {gs : List (Str × V)} {fs : List (Str × PyData)} (I : InitAt S x C dx H0 H gs fs) : Al (S.filter fun a => a ≠ x) H ∧ Dq (S.filter fun a => a ≠ x) H (.ref x) (insD C fs) := by
  refine ⟨fun a m => I.al a ((List.mem_filter.mp m).1), Dq.insI (by simp) I.hx (I.dq.mono fun a m => (List.mem_filter.mp m).1)⟩
end Fl
set_option Elab.async false
set_option linter.all false
set_option maxRecDepth 100000
set_option maxHeartbeats 4000000
set_option exponentiation.threshold 20000
namespace Fl
open PySem PySem.Spec PyProof.Rows L2
section
variable {X : Cx} {K : PySem.W.Frag} {σ : L2.St} {H : Hp} {Q : VK}
theorem peOrT {a b : Expr} {ta tb : TE} {rest : List Expr} {pos : Pos} (e : X.K = K) (h1 : PE X a ta) (h2 : PE X (.BoolOp .Or (b :: rest) pos) tb) : PE X (.BoolOp .Or (a :: b :: rest) pos) (tOrT K ta tb) := by subst e; exact pe_orT h1 h2
theorem g_orT {ta tb : TE} (h : ta σ H fun x H1 => ∃ k, TruV K x H1 k ∧ if k = true then Q x H1 else tb σ H1 Q) : tOrT K ta tb σ H Q := h
theorem g_truN {Z : Bool → Prop} (q : Z false) : ∃ k, TruV K .non H k ∧ Z k := ⟨false, rfl, q⟩
theorem g_chain {r r' : R2} {ta tb tc : TE} (h : ta σ H fun x H1 => tb σ H1 fun y H2 => r x y H2 fun z H3 => ∃ k, z = .bl k ∧ (if k = true then tc σ H3 fun w' H4 => r' y w' H4 Q else Q (.bl false) H3)) : tChain r r' ta tb tc σ H Q := h
theorem g_yesB {p : Prop} [Decidable p] {A B : Prop} (h : p) (q : A) : if decide p = true then A else B := by rw [if_pos (by simpa using h)]; exact q
theorem g_noB {p : Prop} [Decidable p] {A B : Prop} (h : ¬ p) (q : B) : if decide p = true then A else B := by rw [if_neg (by simpa using h)]; exact q
theorem g_nB {p : Prop} [Decidable p] {A B : Prop} (h : p) (q : B) : if (!decide p) = true then A else B := by rw [decide_eq_true h]; simpa using q
theorem g_inT {neg : Bool} {a : Addr} {xs : List V} {x : V} {b : Bool} (h : SqT K H a xs) (f1 : flatV x = true) (f2 : xs.all flatV = true) (e : (if neg = true then !inV x xs else inV x xs) = b) (q : Q (.bl b) H) : rIn K neg x (.ref a) H Q := ⟨a, xs, rfl, .inr h, f1, f2, by rw [e]; exact q⟩
theorem g_asg2 {te : TE} {g : TG} {D : Ends} (h : te σ H fun x H1 => g x σ H1 D.nx) : tAsg te g D σ H := h
theorem g_neS {x y : Str} (q : Q (.bl (!decide (x = y))) H) : rNe (.str x) (.str y) H Q := ⟨rfl, by
  have e : decide (V.str x = V.str y) = decide (x = y) := by simp
  rw [e]
  exact q⟩
theorem g_noNB {p : Prop} [Decidable p] {A B : Prop} (h : ¬ p) (q : A) : if (!decide p) = true then A else B := by rw [decide_eq_false h]; simpa using q
theorem piEnum {e : Expr} {ta : TA} {p pos tpos : Pos} {elts : List Expr} {kk : Nat} (eK : X.K = K) (h1 : Gl X "enumerate") (h2 : X.mg "enumerate" = none) (h3 : PA X [e] ta) (h4 : starEach [e] X.env = [(false, eval e X.env)] := by rfl) :
    PI X (.Tuple elts kk tpos) (.Call (.Name "enumerate" p) [e] [] pos) (iEnum K ta) := by subst eK; exact pi_enum h1 h2 h3 h4
theorem g_enum {ta : TE} {R : It → Hp → Prop} (h : ta σ H fun x H1 => ∃ a xs, [x] = [V.ref a] ∧ SqL K H1 a xs ∧ R (Ite K a) H1) : iEnum K (tCons ta tNil) σ H R := h
theorem g_enE {a : Addr} {xs : List V} {Z : Addr → Prop} (h : SqL K H a xs) (q : Z a) : ∃ c zs, [V.ref a] = [V.ref c] ∧ SqL K H c zs ∧ Z c := ⟨a, xs, rfl, h, q⟩
theorem forK_e {a : Addr} {xs : List V} {g : TG} {tb : TS} {D : Ends} (Pv : Nat → L2.St → Hp → Prop) (h0 : Pv 0 σ H) (hl : ∀ i σ H, i ≤ xs.length → Pv i σ H → SqL K H a xs)
    (hs : ∀ (i : Nat) (x : V) (T : Addr) (σ : L2.St) (H : Hp), xs[i]? = some x → Pv i σ H → H T = none → g (.ref T) σ (upd H T (.tup [.int (i : Int), x])) fun σ2 H2 => tb { D with nx := Pv (i + 1), ct := Pv (i + 1), bk := D.nx } σ2 H2) (hd : ∀ σ H, Pv xs.length σ H → D.nx σ H) : forK (Ite K a) g tb D σ H := by
  refine ⟨fun i m σ H => m = xs.length - i ∧ i ≤ xs.length ∧ Pv i σ H, ⟨xs.length, rfl, Nat.zero_le _, h0⟩, fun i m σ H h => ?_⟩
  obtain ⟨rfl, hi, p⟩ := h
  have q := hl i σ H hi p
  by_cases hlt : i < xs.length
  · refine .inr ⟨⟨xs, xs[i], q, by simp [hlt]⟩, Pv (i + 1), fun σ' H' p' => ⟨xs.length - (i + 1), by omega, rfl, hlt, p'⟩, fun x H' y => ?_⟩
    obtain ⟨T, z, rfl, hT, rfl, y⟩ := y
    exact hs i z T σ H (y xs q) p hT
  · have e : i = xs.length := by omega
    subst e
    exact .inl ⟨⟨xs, q, Nat.le_refl _⟩, hd σ H p⟩
theorem clAll (e : X.K = K) (hc : X.calm = true) : CallR X (.builtin "all") (rAll K) := by subst e; exact cr_all hc
theorem g_allL {a : Addr} {bs : List Bool} (h : SqL K H a (bs.map V.bl)) (q : Q (.bl (bs.all id)) H) : rAll K [.ref a] H Q := ⟨a, bs, rfl, h, q⟩
end
section
variable {S : List Addr} {H : Hp} {v : V} {c : Cs}
theorem glE {g : GlR} (h : Dq S H v (glD c g)) : ∃ a dx v1 v2 v3 v4 v5 v6 v7, v = .ref a ∧ a ∉ S ∧ H a = some (.ins c.G dx [("advance", v1), ("outline", v2), ("parts", v3), ("anchors", v4), ("mark", v5), ("deltas", v6), ("hint", v7)]) ∧
    Dq S H v1 g.adv ∧ Dq S H v2 (ouD3 g.outl) ∧ Dq S H v3 (ltD g.parts) ∧ Dq S H v4 (ltD g.anch) ∧ Dq S H v5 g.mark ∧ Dq S H v6 (ltD g.deltas) ∧ Dq S H v7 (ltD g.hint) := by
  obtain ⟨a, dx, fs, rfl, ha, hA, hN⟩ := h.insE
  obtain ⟨v1, fs, rfl, h1, hN⟩ := hN.consE
  obtain ⟨v2, fs, rfl, h2, hN⟩ := hN.consE
  obtain ⟨v3, fs, rfl, h3, hN⟩ := hN.consE
  obtain ⟨v4, fs, rfl, h4, hN⟩ := hN.consE
  obtain ⟨v5, fs, rfl, h5, hN⟩ := hN.consE
  obtain ⟨v6, fs, rfl, h6, hN⟩ := hN.consE
  obtain ⟨v7, fs, rfl, h7, hN⟩ := hN.consE
  cases hN.nilE
  exact ⟨a, dx, v1, v2, v3, v4, v5, v6, v7, rfl, ha, hA, h1, h2, h3, h4, h5, h6, h7⟩
theorem foE {f : FoR} (h : Dq S H v (foD c f)) : ∃ a dx v1 v2 v3 v4 v5 v6 v7 v8 v9, v = .ref a ∧ a ∉ S ∧ H a = some (.ins c.F dx [("unit", v1), ("glyphs", v2), ("chars", v3), ("lookups", v4), ("features", v5), ("axes", v6), ("regions", v7), ("functions", v8), ("presets", v9)]) ∧
    Dq S H v1 f.unit ∧ Dq S H v2 (.list (f.glyphs.map (glD c))) ∧ Dq S H v3 (ltD f.chars) ∧ Dq S H v4 (.list (f.lookups.map (lkD c))) ∧ Dq S H v5 (.list (f.features.map feD)) ∧ Dq S H v6 (ltD f.axes) ∧ Dq S H v7 (ouD3 f.regions) ∧ Dq S H v8 (ouD3 f.functions) ∧ Dq S H v9 (.list f.presets) := by
  obtain ⟨a, dx, fs, rfl, ha, hA, hN⟩ := h.insE
  obtain ⟨v1, fs, rfl, h1, hN⟩ := hN.consE
  obtain ⟨v2, fs, rfl, h2, hN⟩ := hN.consE
  obtain ⟨v3, fs, rfl, h3, hN⟩ := hN.consE
  obtain ⟨v4, fs, rfl, h4, hN⟩ := hN.consE
  obtain ⟨v5, fs, rfl, h5, hN⟩ := hN.consE
  obtain ⟨v6, fs, rfl, h6, hN⟩ := hN.consE
  obtain ⟨v7, fs, rfl, h7, hN⟩ := hN.consE
  obtain ⟨v8, fs, rfl, h8, hN⟩ := hN.consE
  obtain ⟨v9, fs, rfl, h9, hN⟩ := hN.consE
  cases hN.nilE
  exact ⟨a, dx, v1, v2, v3, v4, v5, v6, v7, v8, v9, rfl, ha, hA, h1, h2, h3, h4, h5, h6, h7, h8, h9⟩
/-- a list whose length alone matters -/
theorem lstN {f : α → PyData} {L : List α} (h : Dq S H v (.list (L.map f))) : ∃ a xs, v = .ref a ∧ H a = some (.lst xs) ∧ xs.length = L.length ∧ DqA S H xs (L.map f) := by
  obtain ⟨a, xs, rfl, _, q, r⟩ := h.lstE
  exact ⟨a, xs, rfl, q, by rw [r.len, List.length_map], r⟩
end
def iD (l : List Int) : List PyData := l.map .int
structure RuV where
  inside : List (List Int)
  back : List (List Int)
  ahead : List (List Int)
  out : List Int
  calls : List (Int × Int)
structure LkV where
  kind : Str
  rules : List RuV
  ign : Bool
structure GlV where
  adv : Int
  mark : Bool
def RuV.R (r : RuV) : RuR := ⟨r.inside.map iD, r.back.map iD, r.ahead.map iD, iD r.out, r.calls.map fun p => [.int p.1, .int p.2], .int 0⟩
def LkV.R (k : LkV) : LkR := ⟨.str k.kind, k.rules.map RuV.R, .bool k.ign⟩
def GlV.R (g : GlV) : GlR := ⟨.int g.adv, [], [], [], .bool g.mark, [], []⟩
structure FoV where
  glyphs : List GlV
  lks : List LkV
def FoV.R (f : FoV) : FoR := ⟨.int 100, f.glyphs.map GlV.R, [], f.lks.map LkV.R, [], [], [], [], []⟩
/-- the number before the i-th -/
def prv (l : List Int) : Nat → Int
  | 0 => -1
  | i + 1 => (l[i]?).getD (-1)
/-- a set of glyphs of a font of n glyphs -/
structure IsSet (n : Nat) (l : List Int) : Prop where
  ne : l ≠ []
  up : ∀ (i : Nat) g, l[i]? = some g → prv l i < g ∧ g < n
theorem IsSet.len {n : Nat} {l : List Int} (h : IsSet n l) : l.length ≤ n := by
  have : ∀ i, i ≤ l.length → (i : Int) - 1 ≤ prv l i := by
    intro i
    induction i with
    | zero => intro _; simp [prv]
    | succ i ih =>
      intro hi
      have h1 := (h.up i _ (List.getElem?_eq_getElem (by omega))).1
      have h2 := ih (by omega)
      have e : prv l (i + 1) = l[i]'(by omega) := by simp [prv, List.getElem?_eq_getElem (show i < l.length by omega)]
      omega
  have h1 := this l.length (Nat.le_refl _)
  cases hl : l.length with
  | zero => omega
  | succ m =>
    rw [hl] at h1
    have h2 := (h.up m _ (List.getElem?_eq_getElem (by omega))).2
    have e : prv l (m + 1) = l[m]'(by omega) := by simp [prv, List.getElem?_eq_getElem (show m < l.length by omega)]
    omega
/-- a font of such parts, as the laws make it -/
def kindsR : List Str := ["single", "multiple", "ligature", "chain", "reverse"]
structure RuV.Ok (n : Nat) (ks : List Str) (kind : Str) (r : RuV) : Prop where
  i : (kind = "single" ∨ kind = "multiple" ∨ kind = "reverse") → r.inside.length = 1
  i2 : kind = "ligature" → 2 ≤ r.inside.length
  i3 : 1 ≤ r.inside.length ∧ r.inside.length ≤ 4
  b : r.back.length ≤ 3
  a : r.ahead.length ≤ 3
  ba : ¬ (kind = "chain" ∨ kind = "reverse") → r.back = [] ∧ r.ahead = []
  s : ∀ c, c ∈ r.inside ++ r.back ++ r.ahead → IsSet n c
  o : r.out.length ≤ 8
  og : ∀ g, g ∈ r.out → 0 ≤ g ∧ g < n
  oc : kind = "chain" → r.out = []
  os : (kind = "single" ∨ kind = "reverse") → ∀ l, r.inside[0]? = some l → r.out.length = l.length
  ol : kind = "ligature" → r.out.length = 1
  c : kind ≠ "chain" → r.calls = []
  cu : ∀ (i : Nat) p, r.calls[i]? = some p → prv (r.calls.map Prod.fst) i < p.1 ∧ p.1 < r.inside.length ∧ 0 ≤ p.2 ∧ ∃ k, ks[p.2.toNat]? = some k ∧ (k = "single" ∨ k = "multiple")
structure LkV.Ok (n : Nat) (ks : List Str) (x : LkV) : Prop where
  k : x.kind ∈ kindsR
  r : x.rules.length ≤ 12
  ro : ∀ r, r ∈ x.rules → RuV.Ok n ks x.kind r
structure FoV.Ok (f : FoV) : Prop where
  g : 1 ≤ f.glyphs.length ∧ f.glyphs.length ≤ 60
  ga : ∀ g, g ∈ f.glyphs → 0 ≤ g.adv ∧ g.adv ≤ 16384
  l : f.lks.length ≤ 20
  lo : ∀ k, k ∈ f.lks → k.Ok f.glyphs.length (f.lks.map LkV.kind)
theorem truesL {α : Type} {S : List Addr} {H : Hp} : ∀ {L : List α} {vs : List V}, DqA S H vs (L.map fun _ => PyData.bool true) → vs = (L.map fun _ => true).map V.bl
  | [], _, h => by cases h; rfl
  | _ :: L, _, .cons h r => by
    cases h.blE
    rw [truesL r]
    rfl
theorem all_trues {α : Type} : ∀ {L : List α}, (L.map fun _ => true).all id = true
  | [] => rfl
  | _ :: L => by simp
theorem allD {α : Type} {K : PySem.W.Frag} {S : List Addr} {H : Hp} {v : V} {L : List α} {Q : VK} (h : Dq S H v (.list (L.map fun _ => PyData.bool true))) (q : Q (.bl true) H) : rAll K [v] H Q := by
  obtain ⟨a, xs, rfl, _, hx, hA⟩ := h.lstE
  obtain rfl := truesL hA
  refine g_allL (SqL.of hx) ?_
  rw [all_trues]
  exact q
theorem lcNil {S : List Addr} {H1 : Hp} {K : PySem.W.Frag} {g : TG} {tt : TT} {te : TE} {vs : List Nat} {σ : L2.St} {Q : VK} {a : Addr} (hS : Al S H1) (ha : Dq S H1 (.ref a) (.list [])) (q : ∀ D H, Same H1 H → Dq S H (.ref D) (.list []) → Q (.ref D) H) : lcK (Itl K a) g tt te vs σ H1 Q :=
  lcL (S := S) (es := []) (fun _ => none) hS ha (by decide) (fun D i x e H hD he => by simp at he) (fun D H s hD h => q D H s h)
theorem allE {K : PySem.W.Frag} {S : List Addr} {H : Hp} {v : V} {Q : VK} (h : Dq S H v (.list [])) (q : Q (.bl true) H) : rAll K [v] H Q := allD (L := ([] : List Unit)) h q
theorem no_has {P : Program} {w : World} {K : PySem.W.Frag} {mg : Str → Option Value} {base : Heap} {x : Str} {st : Stmt} {N ps : List Str} (D : DefIn K mg x st) (S : FnScope N ps (defScope st))
    (hb : ∀ (kV doc pm : Value) (an : Option Addr) (cdv ct : Value) (us : List Value), us.length = ps.length → bindArgs (PySem.W.fnOf x x (defArgs st) (defBody st) (defScope st) .none kV doc pm an cdv ct) ⟨us, []⟩ = pure (ps.zip us)) : Has P w K mg base 1 x ps (fun _ _ _ _ => False) :=
  has_of D S hb (fun _ _ _ _ h => h.elim) (fun _ _ _ _ _ _ _ _ _ _ h => h.elim)
theorem g_tB {t : TE} {σ : L2.St} {H : Hp} {Q : Bool → Hp → Prop} (h : t σ H fun x H1 => ∃ c, x = .bl c ∧ Q c H1) : tB t σ H Q := h
theorem g_dn {ty td : TE} {σ : L2.St} {H : Hp} {Q : VK} (h : ty σ H fun y H1 => td σ H1 fun x H2 => ∃ a o, x = .ref a ∧ DGet H2 a y o ∧ Q (.bl (!o.isSome)) H2) : tDNotIn ty td σ H Q := h
theorem g_dp {ty td tv : TE} {D : Ends} {σ : L2.St} {H : Hp} (h : tv σ H fun v H1 => td σ H1 fun x H2 => ty σ H2 fun y H3 => ∃ a H4, x = V.ref a ∧ DPut H3 a y v H4 ∧ D.nx σ H4) : sDPut td ty tv D σ H := h
theorem fnok_weak {P : Program} {w : World} {K : PySem.W.Frag} {mg : Str → Option Value} {base : Heap} {k : Nat} {f : Addr} {fd : FuncData} {ps : List Str} {sp sp' : Sp} (a : FnOk P w K mg base L2.CX0 k f fd ps sp) (h : ∀ vs H Q E, sp' vs H Q E → sp vs H Q E) : FnOk P w K mg base L2.CX0 k f fd ps sp' :=
  ⟨fun vs H Q E z => a.len vs H Q E (h _ _ _ _ z), fun A outer s H args us vs Q E r e b v z => a.run A outer s H args us vs Q E r e b v (h _ _ _ _ z)⟩
end Fl
set_option Elab.async false
set_option linter.all false
set_option maxRecDepth 100000
set_option maxHeartbeats 4000000
set_option exponentiation.threshold 20000
namespace Fl
open PySem PySem.Spec PyProof.Rows L2
end Fl
set_option Elab.async false
set_option linter.all false
set_option maxRecDepth 100000
set_option maxHeartbeats 4000000
set_option exponentiation.threshold 20000
namespace Fl
open PySem PySem.Spec PyProof.Rows L2
/-- the reading of a field of the caught error -/
theorem g_xf {a C dd : Addr} {fs : List (Str × V)} {v : V} {f : Str} {i : Nat} {σ : L2.St} {H : Hp} {Q : VK} (h : σ[i]? = some (some (.ref a))) (hd : H dd = some (.xd fs)) (hl : fs.lookup f = some v) (q : Q v H) : tXf a (.ref C) (some dd) C f (tVar i) σ H Q := ⟨_, h, rfl, rfl, dd, fs, v, rfl, hd, hl, q⟩
end Fl
set_option Elab.async false
set_option linter.all false
set_option maxRecDepth 100000
set_option maxHeartbeats 4000000
set_option exponentiation.threshold 20000
namespace Fl
open PySem PySem.Spec PyProof.Rows L2
def fqD (x : Rat) : PyData := .tuple [.int x.num, .int (x.den : Int)]
theorem fqI {S : List Addr} {H : Hp} {a : Addr} {x : Rat} (n : a ∉ S) (q : H a = some (.tup [.int x.num, .int (x.den : Int)])) : Dq S H (.ref a) (fqD x) := .tup n q (.cons (.int _) (.cons (.int _) .nil))
end Fl
set_option Elab.async false
set_option linter.all false
set_option maxRecDepth 100000
set_option maxHeartbeats 4000000
namespace Fl
open PySem PySem.Spec PyProof.Rows L2
def Dw (d : Addr) (H : Hp) : Prop := ∃ zs : List Int, H d = some (.lst (zs.map V.int)) ∧ zs.length ≤ 10000
theorem Dw.hd {d : Addr} {H : Hp} (h : Dw d H) : H d ≠ none := by
  obtain ⟨zs, e, _⟩ := h
  rw [e]
  simp
theorem Dw.put {d D : Addr} {H : Hp} {o : HO} (h : Dw d H) (n : D ≠ d) : Dw d (upd H D o) := by
  obtain ⟨zs, e, b⟩ := h
  exact ⟨zs, by rw [upd_ne n.symm]; exact e, b⟩
theorem Dw.newH {d p : Addr} {H : Hp} {o : HO} (e : H p = none) (h : Dw d H) : Dw d (upd H p o) := h.put fun k => h.hd (k ▸ e)
theorem Dw.fr {d : Addr} {H H' : Hp} {S : List Addr} (s : Fr S H H') (n : d ∉ S) (h : Dw d H) : Dw d H' := by
  obtain ⟨zs, e, b⟩ := h
  exact ⟨zs, s _ _ n e, b⟩
theorem Dw.ned {d p : Addr} {H : Hp} (e : H p = none) (h : Dw d H) : p ≠ d := fun k => h.hd (k ▸ e)
theorem g_lockE {t : TE} {σ : L2.St} {H : Hp} {Q : VK} {d : Addr} {u : HO} (h : H d = some u) (m : Mut (some u)) (q : ∀ od, t σ (upd H d (.frz od u)) fun v H' => H' d = some (.frz od u) ∧ Q v (upd H' d u)) : tLockE t σ H Q := ⟨d, u, h, m, q⟩
end Fl
set_option Elab.async false
set_option linter.all false
set_option maxRecDepth 100000
set_option maxHeartbeats 4000000
namespace Fl
open PySem PySem.Spec PyProof.Rows L2
/-- at a the written dict with these keys (each with its address) and values -/
structure KTup (K : PySem.W.Frag) (P : Program) (w : World) (a : Addr) (xs : List (List Int × Addr × Value)) : Prop where
  at_ : ∃ es n, K.lookup a = some ⟨.type "dict", none, .dict es n, #[]⟩ ∧ es.toList = xs.map (entryOfKey (TK P w))
  key : ∀ x, x ∈ xs → ∀ H : Hp, SqT K H x.2.1 (x.1.map V.int)
  nd : (xs.map (·.1)).Nodup
  ns : (a == sysModules) = false
section
variable {X : Cx} {pins : List (Addr × Obj)} {σ : L2.St} {H : Hp} {s : Shared} {a b : Addr} {A : Around} {E : Value → Shared → Prop} {xs : List (List Int × Addr × Value)} {k : List Int}
theorem KTup.of (h : KTup X.K X.prog X.w a xs) (I : Inv X pins σ H s) : s.heap.DictOfH (TK X.prog X.w) a xs := by
  obtain ⟨⟨es, n, hl, he⟩, hk, hn, _⟩ := h
  exact ⟨_, es, n, I.kIn _ _ hl, ⟨rfl, rfl, rfl⟩, rfl, he, fun x hx => I.isT (hk x hx H), hn⟩
end
end Fl
set_option Elab.async false
set_option linter.all false
set_option maxRecDepth 100000
set_option maxHeartbeats 4000000
namespace Fl
open PySem PySem.Spec PyProof.Rows L2
abbrev Rw := Str × List Int
def rwD (r : Rw) : PyData := .tuple (.str r.1 :: r.2.map .int)
def stL (l : List String) : List Str := l.map Str.ofString
def tabF : List (Str × List Str) := List.map (fun (p : String × List String) => (Str.ofString p.1, stL p.2)) [("push", ["place", "number"]), ("size", ["place"]), ("take", ["place", "place"]), ("jump", ["skip"]), ("jumpzero", ["place", "skip"]), ("jumpsmall", ["place", "number", "skip"]), ("end", ["many"])]
def tabW : List (Str × List Int) := List.map (fun (p : String × List Int) => (Str.ofString p.1, p.2)) [("push", [0, 1]), ("drop", [1, 0]), ("copy", [1, 2]), ("swap", [2, 2]), ("add", [2, 1]), ("subtract", [2, 1]), ("multiply", [2, 1]), ("divide", [2, 1]), ("negate", [1, 1]), ("amount", [1, 1]), ("lesser", [2, 1]), ("greater", [2, 1]), ("down", [1, 1]), ("up", [1, 1]), ("round", [1, 1]), ("less", [2, 1]), ("atmost", [2, 1]), ("equal", [2, 1]), ("not", [1, 1]), ("and", [2, 1]), ("or", [2, 1]), ("look", [0, 0]), ("go", [0, 0]), ("mode", [0, 0]), ("value", [1, 1]), ("load", [1, 1]), ("setvalue", [2, 0]), ("save", [2, 0]), ("get", [1, 1]), ("origin", [1, 1]), ("move", [2, 0]), ("set", [2, 0]), ("align", [2, 0]), ("between", [0, 0]), ("jump", [0, 0]), ("jumpzero", [1, 0]), ("call", [0, 0]), ("repeat", [1, 0]), ("size", [0, 1])]
def tabB : List (List Int × List Str) := List.map (fun (p : List Int × List String) => (p.1, stL p.2)) [([1, 1], ["place", "place"]), ([2, 1], ["place", "place", "place"]), ([2, 0], ["place", "place"]), ([0, 0], ["number"])]
def callsW : List Str := stL ["call", "repeat"]
def allW : List Str := stL ["push", "size", "take", "jump", "jumpzero", "jumpsmall", "end", "drop", "copy", "swap", "add", "subtract", "multiply", "divide", "negate", "amount", "lesser", "greater", "down", "up", "round", "less", "atmost", "equal", "not", "and", "or", "look", "go", "mode", "value", "load", "setvalue", "save", "get", "origin", "move", "set", "align", "between", "call", "repeat", "nothing"]
def fo (w : Str) : Option (List Str) := match tabF.lookup w with
  | some ks => some ks
  | none => match tabW.lookup w with
    | none => none
    | some p => if w ∈ callsW then none else tabB.lookup p
def argOk (k : Str) (n : Int) : Bool := if k = "place" then decide (0 ≤ n ∧ n < 64) else if k = "many" then decide (0 ≤ n ∧ n ≤ 64) else decide (k = "number") || decide (0 ≤ n)
theorem bools_of {S : List Addr} {H : Hp} : ∀ {L : List Bool} {xs : List V}, DqA S H xs (L.map PyData.bool) → xs = L.map V.bl
  | [], xs, h => h.nilE
  | b :: L, xs, h => by
    obtain ⟨v, ws, rfl, hv, h⟩ := h.consE
    rw [hv.blE, bools_of h]
    rfl
def w7 : List Str := stL ["push", "size", "take", "jump", "jumpzero", "jumpsmall", "end"]
def f7 : List (Nat × Nat) := [(1, 2), (1, 1), (2, 2), (0, 1), (1, 2), (1, 3), (0, 1)]
def cls : List (Option (List Str) × Option (Nat × Nat) × Bool × Bool) := List.map (fun (p : Option (List String) × Option (Nat × Nat) × Bool × Bool) => (p.1.map stL, p.2)) [(some ["place", "number"], some (1, 2), false, false), (some ["place"], some (1, 1), false, false), (some ["place", "place"], some (2, 2), false, false), (some ["place", "place", "place"], some (3, 3), false, false), (some ["number"], some (0, 1), false, false), (some ["skip"], some (0, 1), false, true), (some ["place", "skip"], some (1, 2), false, true), (some ["place", "number", "skip"], some (1, 3), false, true), (some ["many"], some (0, 1), true, false), (none, none, false, false)]
theorem ap (n : Int) : argOk "place" n = decide (0 ≤ n ∧ n < 64) := by unfold argOk; rw [if_pos rfl]
theorem an (n : Int) : argOk "number" n = true := by unfold argOk; rw [if_neg (by decide), if_neg (by decide), decide_eq_true rfl]; rfl
end Fl
set_option Elab.async false
set_option linter.all false
set_option maxRecDepth 100000
set_option maxHeartbeats 4000000
namespace Fl
open PySem PySem.Spec PyProof.Rows L2
theorem pl {n : Int} (h0 : 0 ≤ n) (h1 : n < 6) : argOk "place" n = true := by rw [ap]; exact decide_eq_true ⟨h0, by omega⟩
end Fl
set_option Elab.async false
set_option linter.all false
set_option maxRecDepth 100000
set_option maxHeartbeats 4000000
namespace Fl
open PySem PySem.Spec PyProof.Rows L2
structure WoK (K : PySem.W.Frag) (w : World) (mg : Str → Option Value) : Prop where
  gW : mg "WORDS" = some (.ref (adr mg "WORDS"))
  kW : ∃ es n, KDict K w (adr mg "WORDS") es n
  fW : ∀ x, x ∈ allW → ∃ r, PySem.W.nsIn K (adr mg "WORDS") x = some r ∧ ∀ ks, tabW.lookup x = ks → match ks with
    | none => r = none
    | some ks => ∃ t, r = some (.ref t) ∧ ∀ H : Hp, SqT K H t (ks.map V.int)
end Fl
set_option Elab.async false
set_option linter.all false
set_option maxRecDepth 100000
set_option maxHeartbeats 4000000
namespace Fl
open PySem PySem.Spec PyProof.Rows L2
def i2 (p : Int × Int) : List PyData := [.int p.1, .int p.2]
def i3 (p : Int × Int × Int) : List PyData := [.int p.1, .int p.2.1, .int p.2.2]
def i4 (p : Int × Int × Int × Int) : List PyData := [.int p.1, .int p.2.1, .int p.2.2.1, .int p.2.2.2]
def s1i (p : Str × Int) : List PyData := [.str p.1, .int p.2]
def s3i (p : Str × Int × Int × Int) : List PyData := [.str p.1, .int p.2.1, .int p.2.2.1, .int p.2.2.2]
def ptL (p : Pt) : List PyData := [.int p.1, .int p.2.1, .bool p.2.2]
structure GlG where
  adv : Int
  outl : List (List Pt)
  parts : List (Int × Int × Int)
  anch : List (Str × Int × Int × Int)
  mark : Bool
  deltas : List (Int × Int × Int × Int)
  hint : List (Str × Int)
def GlG.R (g : GlG) : GlR := ⟨.int g.adv, g.outl.map fun c => c.map ptL, g.parts.map i3, g.anch.map s3i, .bool g.mark, g.deltas.map i4, g.hint.map s1i⟩
structure FoG where
  unit : Int
  glyphs : List GlG
  chars : List (Int × Int)
  lks : List LkR
  feats : List (Str × List Int)
  axes : List (Int × Int × Int)
  regs : List (List (Int × Int × Int))
  fns : List (List (Str × Int))
  pres : List Int
def FoG.R (f : FoG) : FoR := ⟨.int f.unit, f.glyphs.map GlG.R, f.chars.map i2, f.lks, f.feats.map fun p => (.str p.1, iD p.2), f.axes.map i3, f.regs.map fun r => r.map i3, f.fns.map fun c => c.map s1i, iD f.pres⟩
/-- a coordinate -/
def Crd (n : Int) : Prop := -16384 ≤ n ∧ n ≤ 16384
/-- an instruction that may be -/
def InsV (h : Str × Int) : Prop := h.1 ∈ allW ∧ tabW.lookup h.1 ≠ none ∧ -2147483648 ≤ h.2 ∧ h.2 ≤ 2147483647
structure GlG.Ok (n m : Nat) (g : GlG) : Prop where
  av : 0 ≤ g.adv ∧ g.adv ≤ 16384
  ou : prp g.outl = true
  oz : g.outl.length ≤ 40 ∧ ∀ c, c ∈ g.outl → c.length ≤ 200
  pt : g.parts.length < 900 ∧ ∀ p, p ∈ g.parts → 0 ≤ p.1 ∧ p.1 < n ∧ Crd p.2.1 ∧ Crd p.2.2
  an : g.anch.length < 900 ∧ ∀ a, a ∈ g.anch → a.1 ∈ (["base", "mark", "entry", "exit"] : List Str) ∧ 0 ≤ a.2.1 ∧ a.2.1 ≤ 9 ∧ Crd a.2.2.1 ∧ Crd a.2.2.2
  de : g.deltas.length < 900 ∧ ∀ d, d ∈ g.deltas → 0 ≤ d.1 ∧ d.1 < m ∧ -1 ≤ d.2.1 ∧ d.2.1 < cnt g.outl ∧ Crd d.2.2.1 ∧ Crd d.2.2.2
  hi : g.hint.length < 900 ∧ ∀ h, h ∈ g.hint → InsV h
def tentOk (t : Int × Int × Int) : Prop := -64 ≤ t.1 ∧ t.1 ≤ t.2.1 ∧ t.2.1 ≤ t.2.2 ∧ t.2.2 ≤ 64 ∧ (t.2.1 = 0 ∨ 0 ≤ t.1 ∨ t.2.2 ≤ 0)
/-- a font that may be; VL: its lookups may be -/
structure FoG.Ok (VL : FoR → LkR → Prop) (f : FoG) : Prop where
  un : 16 ≤ f.unit ∧ f.unit ≤ 16384
  gl : 1 ≤ f.glyphs.length ∧ f.glyphs.length ≤ 60
  go : ∀ g, g ∈ f.glyphs → g.Ok f.glyphs.length f.regs.length
  dp : ∃ dep : Nat → Nat, ∀ k g, f.glyphs[k]? = some g → dep k ≤ 4 ∧ ∀ p, p ∈ g.parts → dep p.1.toNat < dep k
  ch : f.chars.length < 900 ∧ ∀ (i : Nat) c, f.chars[i]? = some c → prv (f.chars.map Prod.fst) i < c.1 ∧ c.1 ≤ 1114111 ∧ 0 ≤ c.2 ∧ c.2 < f.glyphs.length
  lz : f.lks.length ≤ 20
  lr : ∀ k, k ∈ f.lks → k.ok
  lo : ∀ k, k ∈ f.lks → VL f.R k
  fe : f.feats.length ≤ 12 ∧ (f.feats.map Prod.fst).Nodup ∧ ∀ p, p ∈ f.feats → p.2.length < 900
  ax : f.axes.length ≤ 3 ∧ ∀ t, t ∈ f.axes → -16384 ≤ t.1 ∧ t.1 ≤ t.2.1 ∧ t.2.1 ≤ t.2.2 ∧ t.2.2 ≤ 16384
  re : f.regs.length ≤ 8 ∧ ∀ r, r ∈ f.regs → r.length = f.axes.length ∧ ∀ t, t ∈ r → tentOk t
  fn : f.fns.length ≤ 12 ∧ ∀ c, c ∈ f.fns → c.length < 900 ∧ ∀ h, h ∈ c → InsV h
  ps : f.pres.length ≤ 32 ∧ ∀ n, n ∈ f.pres → -32768 ≤ n ∧ n ≤ 32767
theorem GlG.rok {n m : Nat} {g : GlG} (h : g.Ok n m) : g.R.ok := by
  have h1 := h.oz.1
  have h2 := h.pt.1
  have h3 := h.an.1
  have h4 := h.de.1
  have h5 := h.hi.1
  refine ⟨(by intro e; cases e), (by intro e; cases e), ?_, fun c m => ?_, ?_, ?_, ?_, ?_⟩
  · show (g.outl.map _).length < 1000; rw [List.length_map]; omega
  · obtain ⟨c', m', rfl⟩ := List.mem_map.mp (show c ∈ g.outl.map fun c => c.map ptL from m)
    rw [List.length_map]
    have := h.oz.2 c' m'
    omega
  · show (g.parts.map _).length < 1000; rw [List.length_map]; omega
  · show (g.anch.map _).length < 1000; rw [List.length_map]; omega
  · show (g.deltas.map _).length < 1000; rw [List.length_map]; omega
  · show (g.hint.map _).length < 1000; rw [List.length_map]; omega
theorem FoG.rok {VL : FoR → LkR → Prop} {f : FoG} (h : f.Ok VL) : f.R.ok := by
  have h1 := h.gl.2
  have h2 := h.ch.1
  have h3 := h.lz
  have h4 := h.fe.1
  have h5 := h.ax.1
  have h6 := h.re.1
  have h7 := h.fn.1
  have h8 := h.ps.1
  refine ⟨(by intro e; cases e), ?_, fun g m => ?_, ?_, ?_, h.lr, ?_, ?_, ?_, ?_, ?_⟩
  · show (f.glyphs.map _).length < 1000; rw [List.length_map]; omega
  · obtain ⟨g', m', rfl⟩ := List.mem_map.mp (show g ∈ f.glyphs.map GlG.R from m)
    exact GlG.rok (h.go g' m')
  · show (f.chars.map _).length < 1000; rw [List.length_map]; omega
  · show f.lks.length < 1000; omega
  · show (f.feats.map _).length < 1000; rw [List.length_map]; omega
  · show (f.axes.map _).length < 1000; rw [List.length_map]; omega
  · show (f.regs.map _).length < 1000; rw [List.length_map]; omega
  · show (f.fns.map _).length < 1000; rw [List.length_map]; omega
  · show (f.pres.map _).length < 1000; rw [List.length_map]; omega
theorem ouD3_pt (o : List (List Pt)) : ouD3 (o.map fun c => c.map ptL) = ouD o := by
  unfold ouD3 ouD
  rw [List.map_map]
  congr 1
  apply List.map_congr_left
  intro c _
  show PyData.list ((c.map ptL).map PyData.tuple) = PyData.list (c.map ptD)
  rw [List.map_map]
  rfl
theorem ltD_map {α : Type} (f : α → List PyData) (l : List α) : ltD (l.map f) = .list (l.map fun x => .tuple (f x)) := by
  unfold ltD
  rw [List.map_map]
  rfl
/-- a comprehension of truths that are all so -/
theorem allYes {K : PySem.W.Frag} {S : List Addr} {H : Hp} {Q : VK} {D : Addr} {α : Type} {L : List α} (hq : Dq S H (.ref D) (.list (L.map fun _ => .bool true))) (q : Q (.bl true) H) : rAll K [.ref D] H Q := by
  obtain ⟨_, xs, e, _, hb, hD⟩ := hq.lstE
  cases e
  have : ∀ (L : List α) (xs : List V), DqA S H xs (L.map fun _ => .bool true) → xs = (L.map fun _ => true).map V.bl := by
    intro L
    induction L with
    | nil => intro xs h; cases h; rfl
    | cons a L ih =>
      intro xs h
      rw [List.map_cons] at h
      obtain ⟨v, ws, rfl, hv, h2⟩ := h.consE
      cases hv.blE
      rw [ih ws h2]
      rfl
  rw [this L xs hD] at hb
  refine g_allL (SqL.of hb) ?_
  rw [show (L.map fun _ => true).all id = true by simp]
  exact q
end Fl
set_option Elab.async false
set_option linter.all false
set_option maxRecDepth 100000
set_option maxHeartbeats 4000000
set_option exponentiation.threshold 20000
namespace Fl
open PySem PySem.Spec PyProof.Rows L2
structure ClsN1 (K : PySem.W.Frag) (mg : Str → Option Value) (x qual : Str) (st : Stmt) (f : Str) : Prop where
  g : mg x = some (.ref (adr mg x))
  o : OexC K (adr mg x)
  n : PySem.W.findIn K (.ref (adr mg x)) f = some none
  r : XfC K (adr mg x)
  i : ∃ (fI : Addr) (fd : FuncData), PySem.W.findIn K (.ref (adr mg x)) "__init__" = some (some (.ref fI)) ∧ PySem.W.typeIn K (.ref fI) = some (.type "function") ∧ Fun K "__init__" qual st fI fd
def spIniN1 (C : Addr) (f : Str) : Sp := fun vs H Q _ => ∃ (a : Addr) (i : Int), vs = [.ref a, .int i] ∧ i.natAbs < 10000 ∧ H a = some (exo a C none) ∧ ∀ dx, H dx = none → dx ≠ a → Q .non (upd (upd H dx (exd dx [(f, .int i)])) a (exo a C (some dx)))
structure MkN1 (P : Program) (w : World) (K : PySem.W.Frag) (mg : Str → Option Value) (base : Heap) (k : Nat) (x f : Str) (ps : List Str) : Prop where
  g : mg x = some (.ref (adr mg x))
  o : OexC K (adr mg x)
  i : ∃ (fI : Addr) (fd : FuncData), PySem.W.findIn K (.ref (adr mg x)) "__init__" = some (some (.ref fI)) ∧ PySem.W.typeIn K (.ref fI) = some (.type "function") ∧ FnOk P w K mg base L2.CX0 k fI fd ps (spIniN1 (adr mg x) f) ∧ L2.Binds K fd ps []
def tRaiseN1 (W : WX) (C : Addr) (f : Str) (ta : TA) : TS := fun _ σ H => tMkO C (spIniN1 C f) [] ta σ H fun cls d H' => W cls d σ H'
theorem g_raiseN1 {W : WX} {C : Addr} {f : Str} {i : Int} {ta : TA} {D : Ends} {σ : L2.St} {H : Hp} (hta : ∀ R : List V → Hp → Prop, R [.int i] H → ta σ H R) (hi : i.natAbs < 10000) (h : ∀ dx, H dx = none → W (.ref C) (some dx) σ (upd H dx (.xd [(f, .int i)]))) : tRaiseN1 W C f ta D σ H := by
  refine hta _ ⟨by simp, fun a ha => ⟨a, i, rfl, hi, upd_same, fun dx hd hne => ⟨rfl, dx, [(f, .int i)], upd_same, by rw [upd_ne hne, upd_same], by rw [upd_ne hne] at hd; exact hd, ?_⟩⟩⟩
  rw [upd_ne hne] at hd
  have e : upd (del (upd (upd (upd H a (exo a C none)) dx (exd dx [(f, .int i)])) a (exo a C (some dx))) a) dx (.xd [(f, .int i)]) = upd H dx (.xd [(f, .int i)]) := by
    funext b
    by_cases h1 : b = dx
    · rw [h1, upd_same, upd_same]
    · rw [upd_ne h1, upd_ne h1]
      by_cases h2 : b = a
      · rw [h2, del_same, ha]
      · rw [del_ne h2, upd_ne h2, upd_ne h1, upd_ne h2]
  rw [e]
  exact h dx hd
section
variable {P : Program} {w : World} {K : PySem.W.Frag} {mg : Str → Option Value} {base : Heap}
theorem mkN1_of {x qual f : Str} {st : Stmt} {k : Nat} {N ps : List Str} (C : ClsN1 K mg x qual st f) (hps : ps.length = 2) (S : FnScope N ps (defScope st))
    (hb : ∀ (kV doc pm : Value) (an : Option Addr) (cdv ct : Value) (us : List Value), us.length = ps.length → bindArgs (PySem.W.fnOf "__init__" qual (defArgs st) (defBody st) (defScope st) .none kV doc pm an cdv ct) ⟨us, []⟩ = pure (ps.zip us))
    (hbody : ∀ (fa : Addr) (cdv : Value) (A : Around) (outer : List Env) (s : Shared) (H : Hp) (a : Addr) (i : Int) (Q : VK) (E : XK), Room k (A.deeper (envOfC qual (defScope st) s.heap.objs.size fa cdv)) → i.natAbs < 10000 → H a = some (exo a (adr mg x) none) →
      (∀ dx, H dx = none → dx ≠ a → Q .non (upd (upd H dx (exd dx [(f, .int i)])) a (exo a (adr mg x) (some dx)))) →
      ∃ t, PSs (cxOf L2.CX0 P w K mg base N qual (defScope st) fa cdv A outer s H E).nox (defBody st) t ∧ t { nx := fun _ H' => Q .non H', rt := Q } (start N [.ref a, .int i]) H) : MkN1 P w K mg base (k + 1) x f ps := by
  obtain ⟨fI, fd, iC, tI, F⟩ := C.i
  refine ⟨C.g, C.o, fI, fd, iC, tI, F.ok S (fun vs H Q E ⟨a, i, e, _⟩ => by rw [e, hps]; rfl) fun cdv A outer s H vs Q E hr ⟨a, i, e, hi, h, q⟩ => ?_, F.binds hb⟩
  subst e
  exact hbody fI cdv A outer s H a i Q E hr hi h q
end
end Fl
set_option Elab.async false
set_option linter.all false
set_option maxRecDepth 100000
set_option maxHeartbeats 4000000
namespace Fl
open PySem PySem.Spec PyProof.Rows L2
end Fl
set_option Elab.async false
set_option linter.all false
set_option maxRecDepth 100000
set_option maxHeartbeats 4000000
namespace Fl
open PySem PySem.Spec PyProof.Rows L2
end Fl
set_option Elab.async false
set_option linter.all false
set_option maxRecDepth 100000
set_option maxHeartbeats 4000000
namespace Fl
open PySem PySem.Spec PyProof.Rows L2 L2H HotX
abbrev bxH (P : Program) (w : World) (K : PySem.W.Frag) (mg : Str → Option Value) (base : Heap) (N : List Str) (x : Str) (st : Stmt) (f : Addr) (cdv : Value) (A : Around) (outer : List Env) (s : Shared) (H : Hp) (E : XK) (p : Addr × Obj) : Cx :=
  cxH L2.CX0 P w K mg base N x (defScope st) f cdv A outer s H E p
theorem roomH_mk {k : Nat} {A : Around} {h : Option Value} (r : Room k A) : RoomH k (A.mark h) := ⟨r.dp, r.un⟩
theorem takes0N {X : Cx} : L2N.Takes X (fun _ _ _ _ => False) := by
  intro u s' x
  obtain ⟨a, B, sI, pins, σ, H, cls, d, e, I, nb, up, sky, na, os, ag, z⟩ := x
  exact z.elim
structure HasXN (P : Program) (w : World) (K : PySem.W.Frag) (mg : Str → Option Value) (base : Heap) (k : Nat) (x : Str) (ps : List Str) (sp : Sp) : Prop where
  ex : ∃ (f : Addr) (fd : FuncData), FnOk P w K mg base (L2N.CX P w) k f fd ps sp ∧ mg x = some (.ref f) ∧ PySem.W.keepIn K (.ref f) = true ∧ L2.Binds K fd ps []
abbrev bxXN (P : Program) (w : World) (K : PySem.W.Frag) (mg : Str → Option Value) (base : Heap) (N : List Str) (x : Str) (st : Stmt) (f : Addr) (cdv : Value) (A : Around) (outer : List Env) (s : Shared) (H : Hp) (E : XK) : Cx :=
  cxOf (L2N.CX P w) P w K mg base N x (defScope st) f cdv A outer s H E
theorem hasXN_of {P : Program} {w : World} {K : PySem.W.Frag} {mg : Str → Option Value} {base : Heap} {x : Str} {st : Stmt} {N ps : List Str} {k : Nat} {sp : Sp} (D : DefIn K mg x st) (S : FnScope N ps (defScope st))
    (hb : ∀ (kV doc pm : Value) (an : Option Addr) (cdv ct : Value) (us : List Value), us.length = ps.length → bindArgs (PySem.W.fnOf x x (defArgs st) (defBody st) (defScope st) .none kV doc pm an cdv ct) ⟨us, []⟩ = pure (ps.zip us))
    (len : ∀ vs H Q E, sp vs H Q E → vs.length = ps.length)
    (hbody : ∀ (f : Addr) (cdv : Value) (A : Around) (outer : List Env) (s : Shared) (H : Hp) (vs : List V) (Q : VK) (E : XK), Room k (A.deeper (envOfC x (defScope st) s.heap.objs.size f cdv)) → sp vs H Q E →
      ∃ t, PSs (bxXN P w K mg base N x st f cdv A outer s H E) (defBody st) t ∧ t { nx := fun _ H' => Q .non H', rt := Q } (start N vs) H) : HasXN P w K mg base (k + 1) x ps sp := by
  obtain ⟨f, fd, F, m⟩ := D.ex
  refine ⟨f, fd, ?_, m, F.kp, F.binds hb⟩
  obtain ⟨oc, od, kV, doc, pm, an, cdv, ct, osl, rfl, lk, hcd⟩ := F.ex
  exact fn_of lk hcd S len fun A outer s H vs Q E hr hsp => hbody f cdv A outer s H vs Q E hr hsp
theorem pe_hXN {X : Cx} {k : Nat} {x : Str} {ps : List Str} {sp : Sp} {W : WX} {e : Expr} {es : List Expr} {t : TA} {p pos : Pos} (h : HasXN X.prog X.w X.K X.mg X.base k x ps sp) (hr : Room k X.A) (tk : L2N.Takes X W) (ha : PA X (e :: es) t) (hg : Gl X x := by rfl)
    (hdb : (x == ("__debug__" : Str)) = false := by decide) (he : starEach (e :: es) X.env = (false, eval e X.env) :: starEach es X.env := by rfl) (hpl : (backTo pos (starEach es X.env)).any (·.1) = false := by rfl) :
    PE X (.Call (.Name x p) (e :: es) [] pos) (tCallS sp (WE W) t) := by
  obtain ⟨f, fd, a, b, c, d⟩ := h.ex
  exact pe_callS a hr hg b c d (fun σ => L2N.passAt tk σ) ha hdb he hpl
/-- an own error made of one value, its __init__ keeping sp -/
theorem pmk1N {X : Cx} {x : Str} {e : Expr} {ta : TA} {p pos : Pos} {C fI : Addr} {k : Nat} {fd : FuncData} {ps : List Str} {sp : Sp} (T : OexC X.K C) (iC : PySem.W.findIn X.K (.ref C) "__init__" = some (some (.ref fI))) (tI : PySem.W.typeIn X.K (.ref fI) = some (.type "function"))
    (F1 : FnOk X.prog X.w X.K X.mg X.base L2.CX0 k fI fd ps sp) (hr : Room (k + 1) X.A) (hb : L2.Binds X.K fd ps []) (hg : Gl X x) (hm : X.mg x = some (.ref C)) (ha : PA X [e] ta)
    (hdb : (x == ("__debug__" : Str)) = false) (he : starEach [e] X.env = (false, eval e X.env) :: starEach [] X.env) (hpl : (backTo pos (starEach [] X.env)).any (·.1) = false) :
    L2N.PMk X (.Call (.Name x p) [e] [] pos) (tMkO C sp [] ta) := fun pins s σ H Q I h => by
  obtain ⟨_, _, _, _, bm, _, _, _, _, _, _, _, _, _, _, hC, hbm⟩ := T.cls
  refine wpAny_Call_Name_kw (ld_glob I hg hm (PySem.W.callWith_K (h₀ := X.base) I.ok.mod.kin T.kC (thn (ha.run pos pins s σ H _ I h) fun us s1 hs => ?_) he hpl) hdb)
  obtain ⟨vs, H1, I1, r1, _, q1⟩ := hs
  refine ⟨I1.kIn, ?_⟩
  obtain ⟨hp, g, dr, tk, os⟩ := s1
  let n := hp.objs.size
  let G := (hp.push (PySem.W.kdv_tup us)).push (PySem.HandSPX.excO C n)
  have up : n ≤ n + 1 := Nat.le_succ _
  have hq := q1 (n + 1) (I1.hok.fresh up)
  rw [List.append_nil] at hq
  have kk : ∀ b o, hp.get? b = some o → G.get? b = some o := fun b o z => Heap.get?_push_of_some _ (Heap.get?_push_of_some _ z)
  have at1 : G.get? (n + 1) = some (PySem.HandSPX.excO C n) := by
    show ((hp.push (PySem.W.kdv_tup us)).push (PySem.HandSPX.excO C hp.objs.size)).get? (hp.objs.size + 1) = some (PySem.HandSPX.excO C hp.objs.size)
    heap_get
  have I2 : Inv X pins σ (upd H1 (n + 1) (exo (n + 1) C none)) ⟨G, g, dr, tk, os⟩ := I1.laid (t' := tk) (a := n + 1) (o := exo (n + 1) C none) (h' := G) kk up (exo_ok at1)
  have r2 : Vals (V.ref (n + 1) :: vs) (Value.ref (n + 1) :: us) := .cons rfl r1
  have hl : (Value.ref (n + 1) :: us ++ []).length = ps.length := by rw [List.append_nil]; exact r2.length.symm.trans (F1.len _ _ _ _ hq)
  have b2 := hb _ (Value.ref (n + 1) :: us) I2.kIn hl
  rw [List.append_nil] at b2
  have hus : us.length ≤ sizeLine := by rw [← Paired.length r1, sizeLine_eq]; omega
  have run := F1.run _ X.stack _ _ ⟨Value.ref (n + 1) :: us, []⟩ (Value.ref (n + 1) :: us) _ _ (fun _ _ _ => False) (hr.make C us []) (I2.env0.make C us []) b2 r2 hq
  show wpAny _ _ (call (.ref C) us) _ _ _
  refine wpAny_call (PySem.HandSPX.call_own F.excBase_ValueError (fun Y => PySem.HandSPX.refsVE_contains Y bm hbm) (I1.kIn _ _ hC) (PySem.W.looks_findIn I1.kIn iC) (fun self => PySem.W.bind_fn I1.kIn self tI) hus (codeAny_mono run fun r s' z => ?_))
  cases r with
  | error er => exact False.elim z
  | ok fl =>
    cases fl with
    | next => exact False.elim z
    | brk => exact False.elim z
    | cont => exact False.elim z
    | ret u =>
      obtain ⟨v, H2, os2, bare2, un2, hok2, rv, ev, d, fs, ea, ed, hd1, q2⟩ := z
      subst ev
      obtain ⟨h2, g2, d2, t2, os'⟩ := s'
      obtain ⟨t0, G2, J, kG, ge, hoe, na⟩ := mk_end0 (d2 := d2) (t2 := t2) I1 up kk un2 hok2 os2 bare2 ea ed hd1
      refine ⟨rv, n + 1, _, _, ⟨G2, g2, d2, t2, os'⟩, _, .ref C, some d, rfl, J, kG, ge, hoe, ⟨rfl, rfl, fun vs hv => ?_⟩, rfl, rfl, na, rfl, bare2, raises_own T.exC T.tyC, q2⟩
      cases hv
      rfl
theorem ps_raiseN1N {X : Cx} {W : WX} {k : Nat} {x f : Str} {ps : List Str} {e : Expr} {ta : TA} {p pos pos2 : Pos} (M : MkN1 X.prog X.w X.K X.mg X.base k x f ps) (hc : X.calm = true) (hr : Room (k + 1) X.A) (tk : L2N.Takes X W) (ha : PA X [e] ta) (hg : Gl X x := by rfl) (hdb : (x == ("__debug__" : Str)) = false := by decide)
    (he : starEach [e] X.env = (false, eval e X.env) :: starEach [] X.env := by rfl) (hpl : (backTo pos (starEach [] X.env)).any (·.1) = false := by rfl) :
    PS X (.Raise (some (.Call (.Name x p) [e] [] pos)) none pos2) (tRaiseN1 W (adr X.mg x) f ta) := by
  obtain ⟨fI, fd, iC, tI, F, b⟩ := M.i
  exact ⟨fun pins s σ H D I h => (L2N.ps_raise hc tk (pmk1N M.o iC tI F hr b hg M.g ha hdb he hpl)).run pins s σ H D I h⟩
end Fl
set_option Elab.async false
set_option linter.all false
set_option maxRecDepth 100000
set_option maxHeartbeats 4000000
namespace Fl
open PySem PySem.Spec PyProof.Rows L2 L2H HotX
structure FnZ (P : Program) (w : World) (K : PySem.W.Frag) (mg : Str → Option Value) (base : Heap) (Z : Addr × Obj → Prop) (k : Nat) (f : Addr) (fd : FuncData) (ps : List Str) (sp : Addr → Sp) : Prop where
  len : ∀ a vs H Q E, sp a vs H Q E → vs.length = ps.length
  run : ∀ (A : Around) (outer : List Env) (s : Shared) (H : Hp) (args : Args) (us : List Value) (vs : List V) (Q : VK) (E : XK) (p : Addr × Obj), Z p → RoomH k A → Hot1 A p → PinOk outer H s p → Env0 P w K mg base A outer s H → BindsTo s fd args (ps.zip us) → Vals vs us → sp p.1 vs H Q E →
    codeAny (model P w) A (.call (.ref f) args) (CR L2.CX0 outer P w H s Q E) s
structure HasZ (P : Program) (w : World) (K : PySem.W.Frag) (mg : Str → Option Value) (base : Heap) (Z : Addr × Obj → Prop) (k : Nat) (x : Str) (ps : List Str) (sp : Addr → Sp) : Prop where
  ex : ∃ (f : Addr) (fd : FuncData), FnZ P w K mg base Z k f fd ps sp ∧ mg x = some (.ref f) ∧ PySem.W.keepIn K (.ref f) = true ∧ L2.Binds K fd ps []
theorem hasZ_of {P : Program} {w : World} {K : PySem.W.Frag} {mg : Str → Option Value} {base : Heap} {Z : Addr × Obj → Prop} {x : Str} {st : Stmt} {N ps : List Str} {k : Nat} {sp : Addr → Sp} (D : DefIn K mg x st) (S : FnScope N ps (defScope st))
    (hb : ∀ (kV doc pm : Value) (an : Option Addr) (cdv ct : Value) (us : List Value), us.length = ps.length → bindArgs (PySem.W.fnOf x x (defArgs st) (defBody st) (defScope st) .none kV doc pm an cdv ct) ⟨us, []⟩ = pure (ps.zip us))
    (len : ∀ a vs H Q E, sp a vs H Q E → vs.length = ps.length)
    (hbody : ∀ (f : Addr) (cdv : Value) (A : Around) (outer : List Env) (s : Shared) (H : Hp) (vs : List V) (Q : VK) (E : XK) (p : Addr × Obj), Z p → Hot1 A p → RoomH k (A.deeper (envOfC x (defScope st) s.heap.objs.size f cdv)) → sp p.1 vs H Q E →
      ∃ t, PSs (bxH P w K mg base N x st f cdv A outer s H E p) (defBody st) t ∧ t { nx := fun _ H' => Q .non H', rt := Q } (start N vs) H) : HasZ P w K mg base Z (k + 1) x ps sp := by
  obtain ⟨f, fd, F, m⟩ := D.ex
  refine ⟨f, fd, ⟨len, ?_⟩, m, F.kp, F.binds hb⟩
  obtain ⟨oc, od, kV, doc, pm, an, cdv, ct, osl, rfl, lk, hcd⟩ := F.ex
  intro A outer s H args us vs Q E p hz hr hot hpin e0 hargs r hsp
  have KX : K.In s.heap := e0.mod.kin.keeps fun b o e => (e0.bs b o e).1
  have lim : s.heap.NoLimit := e0.mod.nolimit.keeps fun b o e => (e0.bs b o e).1
  obtain ⟨t, ht, hq⟩ := hbody f cdv A outer s H vs Q E p hz hot (hr.deeper _) hsp
  have hl := len _ _ _ _ _ hsp
  refine codeAny_call_function hr.depth (KX _ _ lk) rfl S.co S.gen rfl (PySem.W.codeRec_of KX hcd) (hargs _ _ _ _ ?_)
  refine wpAny_newFunctionEnv_cells S.kind (fun y hy => ?_) fun env he s1 x1 => ?_
  · obtain ⟨n, v⟩ := y
    exact (S.par n (List.of_mem_zip hy).1).imp id fun q => ⟨q, PySem.W.cellsFrom_some _ _ _ (.inl q)⟩
  subst he
  refine ⟨lim.keeps x1.toInCall.keep, codeAny_func (wpAny_mono (ht.run [] s1 (L2.start N vs) H _ (inv_startH S hpin e0 hl r x1) hq) (fun fl s' hs => ?_) fun e s' hs => hs)⟩
  rcases fl with _ | _ | _ | u
  all_goals first
    | (obtain ⟨_, _, _, z⟩ := hs; exact False.elim z)
    | (obtain ⟨σ', H', J, z⟩ := hs; exact ⟨.non, H', J.os, J.bare, J.base, J.hok, rfl, z⟩)
    | (obtain ⟨v, σ', H', J, rv, z⟩ := hs; exact ⟨v, H', J.os, J.bare, J.base, J.hok, rv, z⟩)
/-- what hot_of needs of the pinned error -/
theorem hot1_of {X : Cx} {a : Addr} {oe : Obj} {cls : Value} {d : Option Addr} (hz : L2N.Zn cls d oe) (hf : ∃ vs, oe.data = .fields vs) (hA : X.A.handled = some (.ref a)) : Hot1 X.A (a, oe) := by
  obtain ⟨vs, hd⟩ := hf
  exact ⟨hA, vs, hd, hz.2.2 vs hd⟩
theorem pe_hZ {X : Cx} {Z : Addr × Obj → Prop} {k : Nat} {x : Str} {ps : List Str} {sp : Addr → Sp} {e : Expr} {es : List Expr} {t : TA} {q pos : Pos} {p : Addr × Obj} (h : HasZ X.prog X.w X.K X.mg X.base Z k x ps sp) (hr : RoomH k X.A) (hz : Z p) (hot : Hot1 X.A p) (hp : p ∈ X.pn) (ha : PA X (e :: es) t) (hg : Gl X x := by rfl)
    (hdb : (x == ("__debug__" : Str)) = false := by decide) (he : starEach (e :: es) X.env = (false, eval e X.env) :: starEach es X.env := by rfl) (hpl : (backTo pos (starEach es X.env)).any (·.1) = false := by rfl) :
    PE X (.Call (.Name x q) (e :: es) [] pos) (tCallS (sp p.1) (fun _ => L2.E0) t) := by
  obtain ⟨f, fd, F, hm, hk, b⟩ := h.ex
  refine ⟨fun pins s σ H Q I h => wpAny_Call_Name_kw (ld_glob I hg hm (PySem.W.callWith_K (h₀ := X.base) I.ok.mod.kin hk (thn (ha.run pos pins s σ H _ I h) fun us s1 hs => ?_) he hpl) hdb)⟩
  obtain ⟨vs, H1, I1, r, z⟩ := hs
  refine ⟨I1.kIn, ?_⟩
  have hl : us.length = ps.length := by rw [← r.length]; exact F.len _ _ _ _ _ z
  have b1 := b s1 us I1.kIn (by rw [List.append_nil]; exact hl)
  rw [List.append_nil] at b1
  have P1 := I1.pin p (List.mem_append_left _ hp)
  have pk : PinOk X.stack H1 s1 p := ⟨P1.1, P1.2.1, fun hm => (List.mem_cons.mp (I1.stkSub p.1 hm)).elim P1.2.2.1 P1.2.2.2.1, P1.2.2.2.2⟩
  refine wpAny_call (codeAny_mono (F.run X.A X.stack s1 H1 ⟨us, []⟩ us vs Q L2.E0 p hz hr hot pk I1.env0 b1 r z) fun r2 s' hq => ?_)
  cases r2 with
  | error e => exact hq.elim
  | ok fl =>
    cases fl with
    | ret u => exact I1.after hq
    | next => exact False.elim hq
    | brk => exact False.elim hq
    | cont => exact False.elim hq
/-- e.f of the pinned error, in any context -/
theorem pe_xfP {X : Cx} {a C : Addr} {oe : Obj} {cls : Value} {d : Option Addr} {e : Expr} {te : TE} {pos : Pos} {n : Str} (T : XfC X.K C) (hno : PySem.W.findIn X.K (.ref C) n = some none) (hp : (a, oe) ∈ X.pn)
    (hz : L2N.Zn cls d oe) (hf : ∃ vs, oe.data = .fields vs) (he : PE X e te) (hb : attributeBase e n X.env (eval e X.env) = eval e X.env := by rfl) : PE X (.Attribute e n pos) (tXf a cls d C n te) := by
  obtain ⟨vs, hd⟩ := hf
  refine ⟨fun pins s σ H Q I h => attr_of hb (thn (he.run pins s σ H _ I h) fun u s1 hh => ?_)⟩
  obtain ⟨x, H1, I1, rx, rfl, rfl, dd, fs, v, rfl, ea, l, q⟩ := hh
  cases (show u = Value.ref a from rx)
  obtain ⟨mA, hns, hr⟩ := (show ObjOk X.prog X.w H1 s1.heap dd (.xd fs) from I1.hok dd _ ea)
  obtain ⟨od, ho, hl⟩ := lookIn_ns hns
  have hrn := hr n
  rw [l] at hrn
  obtain ⟨u, hu, ru⟩ := RelO.some_of hrn
  have J : PySem.W.InstAt s1.heap a oe C (some od) := ⟨(I1.pin _ (List.mem_append_left _ hp)).1, hz.1, by unfold PySem.W.notCls; rw [hd] <;> rfl, by rw [hz.2.1]; exact ho⟩
  exact HandSPX.exc_get I1.kIn J T.ga T.gg T.exC (PySem.W.findObj_own T.hdC hno rfl (by rw [hl, hu])) (handed_of ru) ⟨v, H1, I1.tok _, ru, q⟩
section
variable {X : Cx}
theorem pmk0N {CX : CXT} {x : Str} {C fI : Addr} {k : Nat} {fd : FuncData} {ps : List Str} {sp : Sp} {p pos : Pos} (T : OexC X.K C) (iC : PySem.W.findIn X.K (.ref C) "__init__" = some (some (.ref fI))) (tI : PySem.W.typeIn X.K (.ref fI) = some (.type "function"))
    (F1 : FnOk X.prog X.w X.K X.mg X.base CX k fI fd ps sp) (hr : Room (k + 1) X.A) (hb : L2.Binds X.K fd ps []) (hx : Passes CX X (fun _ _ _ => False)) (hg : Gl X x) (hm : X.mg x = some (.ref C)) (hdb : (x == ("__debug__" : Str)) = false := by decide) :
    L2N.PMk X (.Call (.Name x p) [] [] pos) (tMkN C sp) := by
  intro pins s σ H Q I h
  obtain ⟨nm, q, N, bs, bm, sn, sub, ab, col, dd, k0, k1, k2, k3, k5, hC, hbm⟩ := T.cls
  refine wpAny_Call_Name_kw (ld_glob I hg hm (PySem.W.callWith_K0 I.kIn T.kC ?_) hdb)
  show wpAny _ _ (call (.ref C) []) _ _ _
  obtain ⟨hp, g, dr, tk, os⟩ := s
  have hsz : hp.objs.size ≤ hp.objs.size + 1 := Nat.le_succ _
  have hn : H (hp.objs.size + 1) = none := I.hok.fresh hsz
  have hq := h (hp.objs.size + 1) hn
  have kk : ∀ b o, hp.get? b = some o → ((hp.push (PySem.W.kdv_tup [])).push (PySem.HandSPX.excO C hp.objs.size)).get? b = some o := fun b o e => Heap.get?_push_of_some _ (Heap.get?_push_of_some _ e)
  have here : ((hp.push (PySem.W.kdv_tup [])).push (PySem.HandSPX.excO C hp.objs.size)).get? (hp.objs.size + 1) = some (PySem.HandSPX.excO C hp.objs.size) := by heap_get
  have I2 : Inv X pins σ (upd H (hp.objs.size + 1) (exo (hp.objs.size + 1) C none)) ⟨(hp.push (PySem.W.kdv_tup [])).push (PySem.HandSPX.excO C hp.objs.size), g, dr, tk, os⟩ := I.laid (t' := tk) kk hsz (exo_ok here)
  have r2 : Vals [V.ref (hp.objs.size + 1)] [Value.ref (hp.objs.size + 1)] := .cons rfl .nil
  have hl : ([Value.ref (hp.objs.size + 1)] ++ ([] : List Value)).length = ps.length := (F1.len _ _ _ _ hq)
  refine wpAny_call (PySem.HandSPX.call_own F.excBase_ValueError (fun Y => PySem.HandSPX.refsVE_contains Y bm hbm) (I.kIn _ _ hC) (PySem.W.looks_findIn I.kIn iC) (fun self => PySem.W.bind_fn I.kIn self tI) (Nat.zero_le _)
    (codeAny_mono (F1.run _ X.stack _ _ ⟨[Value.ref (hp.objs.size + 1)], []⟩ [Value.ref (hp.objs.size + 1)] _ _ (fun _ _ _ => False) (hr.make C [] []) (I2.env0.make C [] []) (hb _ _ I2.kIn hl) r2 hq) fun r s' hq' => ?_))
  match r, hq' with
  | .error er, hq' => exact hx pins σ _ _ er s' I2 hq'
  | .ok (.ret u), ⟨v, H2, os2, bare2, un2, hok2, rv, ev, ea, q2⟩ =>
    subst ev
    obtain ⟨h2, g2, d2, t2, os'⟩ := s'
    obtain ⟨t0, G, J, kG, ge, hoe⟩ := mk_nod (d2 := d2) (t2 := t2) I hsz kk un2 hok2 os2 bare2 ea
    exact ⟨rv, _, _, _, ⟨G, g2, d2, t2, os'⟩, _, .ref C, none, rfl, J, kG, ge, hoe, ⟨rfl, rfl, fun vs hv => by cases hv; rfl⟩, rfl, rfl, del_same, rfl, bare2, raises_own T.exC T.tyC, q2⟩
theorem ps_raiseNN {X : Cx} {W : WX} {k : Nat} {x : Str} {p pos pos2 : Pos} (M : MkX X.prog X.w X.K X.mg X.base k x) (hc : X.calm = true) (hr : Room (k + 1) X.A) (tk : L2N.Takes X W) (hg : Gl X x := by rfl) (hdb : (x == ("__debug__" : Str)) = false := by decide) :
    PS X (.Raise (some (.Call (.Name x p) [] [] pos)) none pos2) (tRaiseN W (adr X.mg x)) := by
  obtain ⟨fI, fd, iC, tI, F, b⟩ := M.i
  refine ⟨fun pins s σ H D I h => (L2N.ps_raise hc tk (pmk0N (CX := L2.CX0) M.o iC tI F hr b (fun _ _ _ _ _ _ _ z => z.elim) hg M.g hdb)).run pins s σ H D I fun a ha => ⟨a, rfl, upd_same, rfl, upd_same, ?_⟩⟩
  rw [del_upd ha]
  exact h
end
end Fl
set_option Elab.async false
set_option linter.all false
set_option maxRecDepth 100000
set_option maxHeartbeats 4000000
namespace Fl
open PySem PySem.Spec PyProof.Rows L2
/-- the rest of a row of comparisons, the left value known -/
def LinkT (X : Cx) (pos : Pos) (ops : List CmpOp) (bs : List Expr) (t : V → TT) : Prop :=
  ∀ (pins : List (Addr × Obj)) (s : Shared) (σ : L2.St) (H : Hp) (x : V) (v : Value) (Q : Bool → Hp → Prop), L2.Inv X pins σ H s → L2.RelV x v → t x σ H Q →
    wpAny (model X.prog X.w) X.A (testChain pos v ops (evalEach bs X.env)) (fun k s' => ∃ H', L2.Inv X pins σ H' s' ∧ Q k H') X.xe s
def tLink1 (r : R2) (tb : TE) : V → TT := fun x σ H Q => tb σ H fun y H2 => r x y H2 fun z H3 => ∃ k, z = .bl k ∧ Q k H3
def tLinkS (r : R2) (tb : TE) (t : V → TT) : V → TT := fun x σ H Q => tb σ H fun y H2 => r x y H2 fun z H3 => ∃ k, z = .bl k ∧ (if k = true then t y σ H3 Q else Q false H3)
def tLinks (ta : TE) (t : V → TT) : TT := fun σ H Q => ta σ H fun x H1 => t x σ H1 Q
section
variable {X : Cx} {a b b' : Expr} {bs : List Expr} {ta tb : TE} {op op' : CmpOp} {ops : List CmpOp} {r : R2} {t : V → TT} {pos : Pos}
theorem link1 (ho : OpR X (compareOp op) r) (hb : PE X b tb) : LinkT X pos [op] [b] (tLink1 r tb) := by
  intro pins s σ H x v Q I rx h
  refine test_last (thn (hb.run pins s σ H _ I h) fun u s2 ⟨y, H2, I2, r2, q2⟩ => thn (ho pins s2 σ H2 x y v u _ I2 rx r2 q2) fun d s3 ⟨z, H3, I3, r3, k, e, q3⟩ => ?_)
  subst e
  cases r3
  exact wpAny_truthy_bool ⟨H3, I3, q3⟩
theorem linkS (ho : OpR X (compareOp op) r) (hb : PE X b tb) (h2 : LinkT X pos (op' :: ops) (b' :: bs) t) : LinkT X pos (op :: op' :: ops) (b :: b' :: bs) (tLinkS r tb t) := by
  intro pins s σ H x v Q I rx h
  refine test_link (thn (hb.run pins s σ H _ I h) fun u s2 ⟨y, H2, I2, r2, q2⟩ => thn (ho pins s2 σ H2 x y v u _ I2 rx r2 q2) fun d s3 ⟨z, H3, I3, r3, k, e, q3⟩ => ?_)
  subst e
  cases r3
  refine wpAny_truthy_bool ?_
  cases k with
  | false => exact ite_ff ⟨H3, I3, q3⟩
  | true => exact ite_tt (h2 pins s3 σ H3 y u Q I3 r2 q3)
theorem pt_links (ha : PE X a ta) (h : LinkT X pos (op :: op' :: ops) (b :: b' :: bs) t) (hm : lastMarks (op :: op' :: ops) (b :: b' :: bs) = false := by with_unfolding_all rfl) : PT X (.Compare a (op :: op' :: ops) (b :: b' :: bs) pos) (tLinks ta t) := by
  refine ⟨fun pins s σ H Q I q => ?_⟩
  exact isTrue_chain (thn (ha.run pins s σ H _ I q) fun v s1 ⟨x, H1, I1, r1, q1⟩ => h pins s1 σ H1 x v Q I1 r1 q1) hm
end
theorem g_links {ta : TE} {t : V → TT} {σ : L2.St} {H : Hp} {Q : Bool → Hp → Prop} (h : ta σ H fun x H1 => t x σ H1 Q) : tLinks ta t σ H Q := h
theorem g_link1 {r : R2} {tb : TE} {x : V} {σ : L2.St} {H : Hp} {Q : Bool → Hp → Prop} (h : tb σ H fun y H2 => r x y H2 fun z H3 => ∃ k, z = .bl k ∧ Q k H3) : tLink1 r tb x σ H Q := h
theorem g_linkS {r : R2} {tb : TE} {t : V → TT} {x : V} {σ : L2.St} {H : Hp} {Q : Bool → Hp → Prop} (h : tb σ H fun y H2 => r x y H2 fun z H3 => ∃ k, z = .bl k ∧ (if k = true then t y σ H3 Q else Q false H3)) : tLinkS r tb t x σ H Q := h
end Fl
set_option Elab.async false
set_option linter.all false
set_option maxRecDepth 100000
set_option maxHeartbeats 4000000
namespace Fl
open PySem PySem.Spec PyProof.Rows L2 L2H HotX
/-- the class of an own error that has fields, asked for by its name -/
theorem errCls {prg : Program} {wd : World} {Ar : Around} {Er : Value → Shared → Prop} {st : Shared} {K : PySem.W.Frag} {a D : Addr} {oe od : Obj} {Z : Option Value → Shared → Prop} (C : ExcC K D) (kin : K.In st.heap) (J : PySem.W.InstAt st.heap a oe D (some od))
    (z : Z (some (.ref D)) { st with toks := st.toks + 1 }) : wpAny (model prg wd) Ar (getAttr? (.ref a) "__class__") Z Er st := by
  have fo : PySem.W.findObj K D (some od) "__class__" = some (.bind (.builtin "getset_descriptor.__get__") (.builtin "object.__class__")) := PySem.W.findObj_data (by obtain ⟨_, e, _⟩ := PySem.W.any_some C.hd; rw [e]; rfl) C.ha C.hn C.ht
  rcases st with ⟨hh, gg, dd, tt, oo⟩
  have ty := J.type (M := model prg wd)
  have own := PySem.W.looks_find (M := model prg wd) kin J fo
  have isB : PySem.W.Looks (model prg wd) hh (isInstance (Value.ref a) (Value.type "BaseException")) true := by
    have z := PySem.W.looks_subIn (M := model prg wd) kin C.hs
    exact ty.andThen z
  have plain : (onTheHeap (Value.ref D) && Value.builtin "BaseException.__getattribute__" == Value.builtin "object.__getattribute__") = false := by
    rw [show (Value.builtin "BaseException.__getattribute__" == Value.builtin "object.__getattribute__") = false from by decide +kernel]
    rfl
  unfold getAttr? getAttrBy?
  unfold getAttrBy
  refine wpAny_bind (wpAny_mkText (wpAny_bind (wpAny_attempt ?_)))
  refine wpAny_holding (wpAny_bind (ty.at (wpAny_bind ((PySem.W.looks_findIn (M := model prg wd) kin C.hg).at ?_))))
  show wpAny _ _ (if (onTheHeap (Value.ref D) && Value.builtin "BaseException.__getattribute__" == Value.builtin "object.__getattribute__") = true then _ else _) _ _ _
  rw [if_neg (by rw [plain]; exact Bool.false_ne_true)]
  unfold getAttrByItsOwn
  unfold hookBefore
  refine wpAny_bind ?_
  rw [if_pos (show onTheHeap (Value.ref D) = true by rfl)]
  refine (PySem.W.looks_findIn (M := model prg wd) kin C.hk).at (wpAny_bind (wpAny_attempt (wpAny_holding ?_)))
  unfold callGetattribute
  rw [if_neg (show ¬ (false && onTheHeap (Value.builtin "BaseException.__getattribute__")) = true from Bool.false_ne_true)]
  unfold boundAndCalled
  rw [PySem.F.excAttr_ValueError.ga.bind (.ref a)]
  refine wpAny_bind (wpAny_pure ?_)
  show wpAny _ _ (call (.builtin "BaseException.__getattribute__") [.ref a, .str "__class__" tt]) _ _ _
  refine wpAny_call (codeAny_call_builtin PySem.F.excAttr_ValueError.ga.plain PySem.F.entry_bexc_ga ?_)
  refine @PySem.W.check_slot (model prg wd) _ _ ⟨hh, gg, dd, tt + 1, oo⟩ "BaseException.__getattribute__" "BaseException" "__getattribute__" (.ref a) [.str "__class__" tt] [] _ (by decide +kernel) (by decide +kernel) isB (PySem.F.args_bexc_ga (.ref a) (.str "__class__" tt)) ?_
  unfold Builtin.«object.__getattribute__»
  refine wpAny_bind (wpAny_of_eq (a := ((Value.ref a : Value), [Value.str "__class__" tt])) (by first | rfl | (simp only [slotArgs]; rfl)) ?_)
  refine wpAny_bind (wpAny_pure (wpAny_bind (ty.at (wpAny_bind (own.at ?_)))))
  show wpAny _ _ (holding [Value.builtin "object.__class__"] (call (.builtin "getset_descriptor.__get__") [.builtin "object.__class__", .ref a, .ref D]) >>= ret) _ _ _
  refine wpAny_bind (wpAny_holding (wpAny_call (PySem.W.class_get (s := ⟨hh, gg, dd, tt + 1, oo⟩) (ox := oe) (od := some od) kin J C.hm ?_)))
  refine wpAny_pure ?_
  show wpAny _ _ (handedOut (.ref D)) _ _ _
  rw [PySem.W.handedOut_of (v := .ref D) rfl]
  first
    | exact wpAny_pure z
    | exact wpAny_pure (wpAny_pure z)
    | exact wpAny_pure (wpAny_bind (wpAny_pure (wpAny_pure z)))
theorem errKit {K : PySem.W.Frag} {a D : Addr} {oe : Obj} (C : ExcC K D) : PySem.W.KitX K (.ref a) (.ref D) (fun h => ∃ od, PySem.W.InstAt h a oe D (some od)) where
  ty := fun _ _ _ ⟨_, J⟩ => J.type
  it := fun M h kin _ => by
    obtain ⟨_, e, _⟩ := PySem.W.any_some C.hd
    unfold PySem.W.clsIn at e
    split at e
    · rename_i c1 c2 c3 c4 lk
      intro _ _ _ _ keep q
      unfold isType loadHead
      exact wpAny_bind (wpAny_loadPart (keep _ _ (kin _ _ lk)) (wpAny_pure q))
    · cases e
  ne := fun h tp dd its n sl kin htp => by
    obtain ⟨_, e, _⟩ := PySem.W.any_some C.hd
    refine Bool.eq_false_iff.mpr fun same => ?_
    cases Value.ref.inj (beq_iff_eq.mp same)
    unfold PySem.W.clsIn at e
    split at e
    · rename_i c1 c2 c3 c4 lk
      cases (kin _ _ lk).symm.trans htp
    · cases e
  ca := fun kin ⟨_, J⟩ k => errCls C kin J k
theorem pe_hZA {X : Cx} {Z : Addr × Obj → Prop} {k : Nat} {x : Str} {ps : List Str} {sp : Addr → Sp} {e : Expr} {es : List Expr} {t : TA} {q pos : Pos} {a : Addr} {oe : Obj} (h : HasZ X.prog X.w X.K X.mg X.base Z k x ps sp) (hr : RoomH k X.A) (hz : Z (a, oe)) (hot : Hot1 X.A (a, oe)) (hp : (a, oe) ∈ X.pn) (ha : PA X (e :: es) t) (hg : Gl X x := by rfl)
    (hdb : (x == ("__debug__" : Str)) = false := by decide) (he : starEach (e :: es) X.env = (false, eval e X.env) :: starEach es X.env := by rfl) (hpl : (backTo pos (starEach es X.env)).any (·.1) = false := by rfl) :
    PE X (.Call (.Name x q) (e :: es) [] pos) (tCallS (sp a) (fun _ => L2.E0) t) := pe_hZ (p := (a, oe)) h hr hz hot hp ha hg hdb he hpl
/-- a class is no class of another row -/
theorem kit_no {K : PySem.W.Frag} {a b : Addr} (h : PySem.W.subIn K (.ref a) (.ref b) = some false) (s : PySem.W.subIn K (.ref b) (.ref b) = some true) (hd : PySem.W.hasDictIn K b = true) (ty : PySem.W.typeIn K (.ref b) = some (.type "type")) : PySem.W.kitOne K (.ref a) (.ref b) = some false := by
  obtain ⟨cd, hc, _⟩ := PySem.W.any_some hd
  unfold PySem.W.kitOne
  rw [if_neg (fun e => by
    have e := Value.ref.inj (beq_iff_eq.mp e)
    subst e
    rw [h] at s
    cases s)]
  show (if ((PySem.W.clsIn K b).isSome && PySem.W.typeIn K (.ref b) == some (.type "type")) = true then PySem.W.subIn K (.ref a) (.ref b) else none) = some false
  rw [if_pos (by rw [hc, ty] <;> rfl), h]
/-- isinstance(e, c) of the error handled, with fields or without -/
def rIsA (K : PySem.W.Frag) (cls : Value) (d : Option Addr) (a : Addr) : List V → Hp → VK → Prop := fun xs H Q => ∃ D, cls = .ref D ∧ (d = none ∨ ∃ dd fs, d = some dd ∧ H dd = some (.xd fs)) ∧ ExcC K D ∧ rIsE K D a xs H Q
theorem call_isA {X : Cx} {a : Addr} {cls : Value} {d : Option Addr} {oe : Obj} {K : PySem.W.Frag} (eK : X.K = K) (hp : (a, oe) ∈ X.pn) (hz : Zc cls d oe) (hf : ∃ vs, oe.data = .fields vs) : CallR X (.builtin "isinstance") (rIsA K cls d a) := by
  subst eK
  intro pins s σ H xs us Q I r ⟨D, e1, e2, C, c, cv, b, e3, hcv, e, q⟩
  rcases e2 with e2 | ⟨dd, fs, e2, hd⟩
  · exact call_isN rfl hp hz hf pins s σ H xs us Q I r ⟨D, e1, e2, C, c, cv, b, e3, hcv, e, q⟩
  subst e1 e2 e3
  obtain ⟨u1, u2, rfl, r1, r2⟩ := vals2 r
  cases r1
  obtain rfl := hcv _ r2
  obtain ⟨vs, hv⟩ := hf
  obtain ⟨mA, hns, _⟩ := (show ObjOk X.prog X.w H s.heap dd (.xd fs) from I.hok dd _ hd)
  obtain ⟨od, ho, _⟩ := lookIn_ns hns
  have J : PySem.W.InstAt s.heap a oe D (some od) := ⟨(I.pin _ (List.mem_append_left _ hp)).1, hz.1, by unfold PySem.W.notCls; rw [hv] <;> rfl, by rw [hz.2]; exact ho⟩
  exact PySem.W.kia_one (errKit C) I.kIn ⟨od, J⟩ e (fun z => nomatch z) fun tk => ⟨.bl b, H, I.kept (t' := tk) fun _ _ z => z, rfl, q⟩
theorem g_isA {K : PySem.W.Frag} {D a : Addr} {c : V} {cv : Value} {b : Bool} {d : Option Addr} {H : Hp} {Q : VK} (C : ExcC K D) (hd : d = none ∨ ∃ dd fs, d = some dd ∧ H dd = some (.xd fs)) (hc : ∀ u, RelV c u → u = cv) (k : PySem.W.kitOne K (.ref D) cv = some b) (q : Q (.bl b) H) : rIsA K (.ref D) d a [.ref a, c] H Q := ⟨D, rfl, hd, C, c, cv, b, rfl, hc, k, q⟩
end Fl
set_option Elab.async false
set_option linter.all false
set_option maxRecDepth 100000
set_option maxHeartbeats 4000000
set_option exponentiation.threshold 20000
namespace K40
open PySem PySem.Spec PyProof.Rows L2 Fl
local macro_rules | `(tactic| walk_at "fl.ne") => `(tactic| ((with_reducible apply DeckAt.ne'); (focus assumption); walk_at "fl.deck"))
local macro_rules | `(tactic| walk_at "fl.ne") => `(tactic| exact Ne.symm (by assumption))
local macro_rules | `(tactic| walk_at "fl.ne") => `(tactic| assumption)
local macro_rules | `(tactic| walk_at "fl.look") => `(tactic| ((with_reducible apply Fl.Same.t); (focus assumption); walk_at "fl.look"))
local macro_rules | `(tactic| walk_at "fl.look") => `(tactic| ((with_reducible apply Same.seq); (focus assumption); walk_at "fl.look"))
local macro_rules | `(tactic| walk_at "fl.look") => `(tactic| ((with_reducible apply Ex1.t); (focus assumption); (focus walk_at "fl.ne"); walk_at "fl.look"))
local macro_rules | `(tactic| walk_at "fl.look") => `(tactic| ((with_reducible apply Ex1.l); (focus assumption); (focus walk_at "fl.ne"); walk_at "fl.look"))
local macro_rules | `(tactic| walk_at "fl.look") => `(tactic| ((with_reducible apply Fl.Same.t); (focus exact Fl.Same.new (by assumption)); walk_at "fl.look"))
local macro_rules | `(tactic| walk_at "fl.look") => `(tactic| ((with_reducible apply Same.seq); (focus exact Fl.Same.new (by assumption)); walk_at "fl.look"))
local macro_rules | `(tactic| walk_at "fl.look") => `(tactic| ((with_reducible apply Ex1.t); (focus with_reducible exact Ex1.upd); (focus walk_at "fl.ne"); walk_at "fl.look"))
local macro_rules | `(tactic| walk_at "fl.look") => `(tactic| ((with_reducible apply Ex1.l); (focus with_reducible exact Ex1.upd); (focus walk_at "fl.ne"); walk_at "fl.look"))
local macro_rules | `(tactic| walk_at "fl.look") => `(tactic| ((with_reducible apply SqT.of); assumption))
local macro_rules | `(tactic| walk_at "fl.look") => `(tactic| ((with_reducible apply SqL.of); assumption))
local macro_rules | `(tactic| walk_at "fl.look") => `(tactic| (with_reducible exact SqT.of upd_same))
local macro_rules | `(tactic| walk_at "fl.look") => `(tactic| (with_reducible exact SqL.of upd_same))
local macro_rules | `(tactic| walk_at "fl.look") => `(tactic| ((with_reducible show RV _ _ _ _); (with_reducible apply RV.same); (focus exact Fl.Same.new (by assumption)); walk_at "fl.look"))
local macro_rules | `(tactic| walk_at "fl.look") => `(tactic| ((with_reducible show RV _ _ _ _); (with_reducible apply RV.same); (focus assumption); walk_at "fl.look"))
local macro_rules | `(tactic| walk_at "fl.look") => `(tactic| ((with_reducible show RV _ _ _ _); (with_reducible apply RV.ex1); (focus assumption); (focus walk_at "fl.ne"); walk_at "fl.look"))
local macro_rules | `(tactic| walk_at "fl.look") => `(tactic| assumption)
local macro_rules | `(tactic| walk_at "fl.side") => `(tactic| exact div62 (by first | assumption | decide | omega) (by first | assumption | decide | omega))
local macro_rules | `(tactic| walk_at "fl.side") => `(tactic| exact divS (by first | assumption | omega) (by first | assumption | omega))
local macro_rules | `(tactic| walk_at "fl.side") => `(tactic| exact divW (by first | assumption | omega) (by first | assumption | omega))
local macro_rules | `(tactic| walk_at "fl.side") => `(tactic| exact mulW (by first | assumption | omega) (by first | assumption | omega))
local macro_rules | `(tactic| walk_at "fl.side") => `(tactic| exact Or.inl (by decide))
local macro_rules | `(tactic| walk_at "fl.side") => `(tactic| (refine ⟨?_, ?_, ?_⟩ <;> decide))
local macro_rules | `(tactic| walk_at "fl.side") => `(tactic| exact Or.inr (by decide))
local macro_rules | `(tactic| walk_at "fl.side") => `(tactic| (simp only [List.length_cons, List.length_nil]; omega))
local macro_rules | `(tactic| walk_at "fl.side") => `(tactic| omega)
local macro_rules | `(tactic| walk_at "fl.side") => `(tactic| assumption)
local macro_rules | `(tactic| walk_at "fl.side") => `(tactic| decide)
local macro_rules | `(tactic| walk_at "fl.kit") => `(tactic| first | exact kit_int_int | exact kit_int_bool | exact kit_int_tuple | exact kit_int_str | exact kit_int_list | exact kit_int_dict | exact kit_bool_int | exact kit_bool_bool | exact kit_bool_tuple | exact kit_bool_str | exact kit_bool_list | exact kit_bool_dict | exact kit_tuple_int | exact kit_tuple_bool | exact kit_tuple_tuple | exact kit_tuple_str | exact kit_tuple_list | exact kit_tuple_dict | exact kit_str_int | exact kit_str_bool | exact kit_str_tuple | exact kit_str_str | exact kit_str_list | exact kit_str_dict | exact kit_list_int | exact kit_list_bool | exact kit_list_tuple | exact kit_list_str | exact kit_list_list | exact kit_list_dict | exact kit_NoneType_int | exact kit_NoneType_bool | exact kit_NoneType_tuple | exact kit_NoneType_str | exact kit_NoneType_list | exact kit_NoneType_dict | exact kit_dict_int | exact kit_dict_bool | exact kit_dict_tuple | exact kit_dict_str | exact kit_dict_list | exact kit_dict_dict)
local macro_rules | `(tactic| walk_at "fl.ty") => `(tactic| (apply TyX.base; apply TyOf.lst; assumption))
local macro_rules | `(tactic| walk_at "fl.ty") => `(tactic| (apply TyX.base; apply TyOf.tup; assumption))
local macro_rules | `(tactic| walk_at "fl.ty") => `(tactic| exact .base (.lst upd_same))
local macro_rules | `(tactic| walk_at "fl.ty") => `(tactic| exact .base (.tup upd_same))
local macro_rules | `(tactic| walk_at "fl.ty") => `(tactic| exact .base (.str _))
local macro_rules | `(tactic| walk_at "fl.ty") => `(tactic| exact .base .non)
local macro_rules | `(tactic| walk_at "fl.ty") => `(tactic| exact .base (.bl _))
local macro_rules | `(tactic| walk_at "fl.ty") => `(tactic| exact .base (.int _))
local macro_rules | `(tactic| walk_at "fl.deck") => `(tactic| (refine DeckAt.same ?_ (by assumption); walk_at "fl.deck"))
local macro_rules | `(tactic| walk_at "fl.deck") => `(tactic| (refine DeckAt.same ?_ (Fl.Same.new (by assumption)); walk_at "fl.deck"))
local macro_rules | `(tactic| walk_at "fl.deck") => `(tactic| assumption)
local macro_rules | `(tactic| walk_at "fl.ex1") => `(tactic| (refine Ex1.trans ?_ (Ex1.of (by assumption)); walk_at "fl.ex1"))
local macro_rules | `(tactic| walk_at "fl.ex1") => `(tactic| (refine Ex1.trans ?_ (by assumption); walk_at "fl.ex1"))
local macro_rules | `(tactic| walk_at "fl.ex1") => `(tactic| (refine Ex1.trans ?_ (Ex1.of (Fl.Same.new (by assumption))); walk_at "fl.ex1"))
local macro_rules | `(tactic| walk_at "fl.ex1") => `(tactic| (refine Ex1.trans ?_ Ex1.upd; walk_at "fl.ex1"))
local macro_rules | `(tactic| walk_at "fl.ex1") => `(tactic| exact Ex1.upd)
local macro_rules | `(tactic| walk_at "fl.ex1") => `(tactic| exact Ex1.refl)
local macro_rules | `(tactic| walk_at "fl.ex1") => `(tactic| assumption)
local macro_rules | `(tactic| walk_at "fl.pre") => `(tactic| first | assumption | trivial | exact ne_of_num (by assumption))
local macro_rules | `(tactic| walk_at "fl.szq") => `(tactic| exact szq_div (k := 41) (by decide) (by omega) (by decide))
local macro_rules | `(tactic| walk_at "fl.szq") => `(tactic| ((with_reducible apply Szq.div); (focus walk_at "fl.szq"); (focus walk_at "fl.szq"); (focus walk_at "fl.pre")))
local macro_rules | `(tactic| walk_at "fl.szq") => `(tactic| ((with_reducible apply Szq.mul); (focus walk_at "fl.szq"); (focus walk_at "fl.szq")))
local macro_rules | `(tactic| walk_at "fl.szq") => `(tactic| ((with_reducible apply Szq.sub); (focus walk_at "fl.szq"); (focus walk_at "fl.szq")))
local macro_rules | `(tactic| walk_at "fl.szq") => `(tactic| ((with_reducible apply Szq.add); (focus walk_at "fl.szq"); (focus walk_at "fl.szq")))
local macro_rules | `(tactic| walk_at "fl.szq") => `(tactic| assumption)
local macro_rules | `(tactic| walk_at "fl.md") => `(tactic| first | assumption | ((with_reducible apply Szq.md); (focus walk_at "fl.szq"); decide))
local macro_rules | `(tactic| walk_at "fl.rat") => `(tactic| exact Rat.div_mul_cancel (ne_of_num (by assumption)))
local macro_rules | `(tactic| walk_at "fl.rat") => `(tactic| exact Rat.mul_div_cancel (ne_of_num (by assumption)))
local macro_rules | `(tactic| walk_at "fl.rat") => `(tactic| exact Rat.add_sub_cancel)
local macro_rules | `(tactic| walk_at "fl.rat") => `(tactic| exact Rat.mul_add _ _ _)
local macro_rules | `(tactic| walk_at "fl.rat") => `(tactic| exact Rat.mul_assoc _ _ _)
local macro_rules | `(tactic| walk_at "fl.rat") => `(tactic| exact Rat.add_assoc _ _ _)
local macro_rules | `(tactic| walk_at "fl.rat") => `(tactic| exact Rat.mul_comm _ _)
local macro_rules | `(tactic| walk_at "fl.rat") => `(tactic| exact Rat.add_comm _ _)
local macro_rules | `(tactic| walk_at "fl.rat") => `(tactic| rfl)
local macro_rules | `(tactic| walk_at "fl.s") => `(tactic| ((with_reducible show ∀ (p : Addr), (_ : Option HO) = none → _); intro _ _))
local macro_rules | `(tactic| walk_at "fl.s") => `(tactic| (with_reducible refine g_iteNF ?_))
local macro_rules | `(tactic| walk_at "fl.s") => `(tactic| (with_reducible refine g_iteNT ?_))
local macro_rules | `(tactic| walk_at "fl.s") => `(tactic| (with_reducible refine g_iteF ?_))
local macro_rules | `(tactic| walk_at "fl.s") => `(tactic| (with_reducible refine g_iteT ?_))
local macro_rules | `(tactic| walk_at "fl.s") => `(tactic| (with_reducible refine g_lstN ?_))
local macro_rules | `(tactic| walk_at "fl.s") => `(tactic| (with_reducible refine g_tupN ?_))
local macro_rules | `(tactic| walk_at "fl.s") => `(tactic| (with_reducible refine g_tup2 ?_))
local macro_rules | `(tactic| walk_at "fl.s") => `(tactic| (with_reducible refine g_nil ?_))
local macro_rules | `(tactic| walk_at "fl.s") => `(tactic| (with_reducible refine g_cons ?_))
local macro_rules | `(tactic| walk_at "fl.s") => `(tactic| ((with_reducible apply ne_app); (focus walk_at "fl.look"); (focus walk_at "fl.look"); (focus walk_at "fl.rat")))
local macro_rules | `(tactic| walk_at "fl.s") => `(tactic| ((with_reducible apply nr_app); (focus walk_at "fl.look"); (focus walk_at "fl.md")))
local macro_rules | `(tactic| walk_at "fl.s") => `(tactic| ((with_reducible apply cq_app); (focus walk_at "fl.look"); (focus walk_at "fl.look"); (focus walk_at "fl.md"); (focus walk_at "fl.md")))
local macro_rules | `(tactic| walk_at "fl.s") => `(tactic| ((with_reducible apply bin_app); (focus walk_at "fl.look"); (focus walk_at "fl.look"); (focus walk_at "fl.md"); (focus walk_at "fl.md"); (focus walk_at "fl.pre"); intro _ _ _ _ _))
local macro_rules | `(tactic| walk_at "fl.s") => `(tactic| ((with_reducible show spRatq _ _ _ _ _); (apply ratq_app); (focus walk_at "fl.side"); (focus walk_at "fl.side"); (focus walk_at "fl.side"); intro _ _ _ _ _))
local macro_rules | `(tactic| walk_at "fl.s") => `(tactic| (with_reducible refine g_callD ?_))
local macro_rules | `(tactic| walk_at "fl.s") => `(tactic| (with_reducible refine sameI_app ?_))
local macro_rules | `(tactic| walk_at "fl.s") => `(tactic| (with_reducible refine isint_app ?_))
local macro_rules | `(tactic| walk_at "fl.s") => `(tactic| ((with_reducible apply near2_app); (focus walk_at "fl.look"); (focus assumption); intro _ _ _ _ _))
local macro_rules | `(tactic| walk_at "fl.s") => `(tactic| ((with_reducible apply down2_app); (focus walk_at "fl.look"); (focus assumption); intro _ _ _ _ _ _))
local macro_rules | `(tactic| walk_at "fl.s") => `(tactic| ((with_reducible apply cmp_app); (focus walk_at "fl.look"); (focus walk_at "fl.look"); (focus assumption); (focus assumption)))
local macro_rules | `(tactic| walk_at "fl.s") => `(tactic| ((with_reducible refine fra_app ?_ ?_ ?_ ?_); (focus walk_at "fl.side"); (focus walk_at "fl.side"); (focus walk_at "fl.side"); intro _ _ _ _ _))
local macro_rules | `(tactic| walk_at "fl.s") => `(tactic| ((with_reducible apply deck_app); (focus walk_at "fl.look"); intro _ _ _ _ _))
local macro_rules | `(tactic| walk_at "fl.s") => `(tactic| ((with_reducible refine big_app ?_ ?_); (focus walk_at "fl.deck"); intro _ _ _ _ _ _ _ _ _))
local macro_rules | `(tactic| walk_at "fl.s") => `(tactic| ((with_reducible refine draw_app ?_ ?_ ?_ ?_); (focus walk_at "fl.deck"); (focus walk_at "fl.side"); (focus walk_at "fl.side"); intro _ _ _ _ _ _))
local macro_rules | `(tactic| walk_at "fl.s") => `(tactic| (with_reducible refine g_call ?_))
local macro_rules | `(tactic| walk_at "fl.s") => `(tactic| (with_reducible refine g_drop ?_))
local macro_rules | `(tactic| walk_at "fl.s") => `(tactic| (with_reducible refine g_ipI ?_))
local macro_rules | `(tactic| walk_at "fl.s") => `(tactic| ((with_reducible apply g_aug); (focus rfl)))
local macro_rules | `(tactic| walk_at "fl.s") => `(tactic| (with_reducible refine g_set ?_))
local macro_rules | `(tactic| walk_at "fl.s") => `(tactic| ((with_reducible apply g_setL); (focus first | assumption | exact upd_same); (focus rfl)))
local macro_rules | `(tactic| walk_at "fl.s") => `(tactic| (with_reducible refine g_setS ?_))
local macro_rules | `(tactic| walk_at "fl.s") => `(tactic| (with_reducible refine g_if ?_))
local macro_rules | `(tactic| walk_at "fl.s") => `(tactic| (with_reducible refine g_ret ?_))
local macro_rules | `(tactic| walk_at "fl.s") => `(tactic| (with_reducible refine g_next ?_))
local macro_rules | `(tactic| walk_at "fl.s") => `(tactic| (with_reducible refine g_notV ?_))
local macro_rules | `(tactic| walk_at "fl.s") => `(tactic| (with_reducible refine g_orV ?_))
local macro_rules | `(tactic| walk_at "fl.s") => `(tactic| (with_reducible refine g_andV ?_))
local macro_rules | `(tactic| walk_at "fl.s") => `(tactic| (with_reducible refine g_or ?_))
local macro_rules | `(tactic| walk_at "fl.s") => `(tactic| (with_reducible refine g_and ?_))
local macro_rules | `(tactic| walk_at "fl.s") => `(tactic| (with_reducible refine g_not ?_))
local macro_rules | `(tactic| walk_at "fl.s") => `(tactic| (with_reducible refine g_ex ?_))
local macro_rules | `(tactic| walk_at "fl.s") => `(tactic| (with_reducible refine g_bl ?_))
local macro_rules | `(tactic| walk_at "fl.s") => `(tactic| (with_reducible refine g_B ?_))
local macro_rules | `(tactic| walk_at "fl.s") => `(tactic| (with_reducible refine g_test ?_))
local macro_rules | `(tactic| walk_at "fl.s") => `(tactic| (with_reducible refine g_eqB ?_))
local macro_rules | `(tactic| walk_at "fl.s") => `(tactic| (with_reducible refine g_neI ?_))
local macro_rules | `(tactic| walk_at "fl.s") => `(tactic| (with_reducible refine g_eqI ?_))
local macro_rules | `(tactic| walk_at "fl.s") => `(tactic| ((with_reducible refine g_tup2 ?_)))
local macro_rules | `(tactic| walk_at "fl.s") => `(tactic| ((with_reducible refine g_new ?_ ?_); (focus walk_at "fl.side"); intro _ _))
local macro_rules | `(tactic| walk_at "fl.s") => `(tactic| ((with_reducible apply g_listL); (focus walk_at "fl.look"); intro _ _))
local macro_rules | `(tactic| walk_at "fl.s") => `(tactic| ((with_reducible apply g_isiT); (focus walk_at "fl.ty"); (focus walk_at "fl.kit")))
local macro_rules | `(tactic| walk_at "fl.s") => `(tactic| (with_reducible refine g_gcd ?_))
local macro_rules | `(tactic| walk_at "fl.s") => `(tactic| ((with_reducible apply g_lenT); (focus walk_at "fl.look")))
local macro_rules | `(tactic| walk_at "fl.s") => `(tactic| ((with_reducible apply g_lenL); (focus walk_at "fl.look")))
local macro_rules | `(tactic| walk_at "fl.s") => `(tactic| (with_reducible refine g_min ?_))
local macro_rules | `(tactic| walk_at "fl.s") => `(tactic| (with_reducible refine g_max ?_))
local macro_rules | `(tactic| walk_at "fl.s") => `(tactic| (with_reducible refine g_abs ?_))
local macro_rules | `(tactic| walk_at "fl.s") => `(tactic| (with_reducible refine g_intB ?_))
local macro_rules | `(tactic| walk_at "fl.s") => `(tactic| (with_reducible refine g_int ?_))
local macro_rules | `(tactic| walk_at "fl.s") => `(tactic| (with_reducible refine g_cb2 ?_))
local macro_rules | `(tactic| walk_at "fl.s") => `(tactic| (with_reducible refine g_cb1 ?_))
local macro_rules | `(tactic| walk_at "fl.s") => `(tactic| ((with_reducible apply g_ixT); (focus walk_at "fl.look"); (focus first | assumption | rfl)))
local macro_rules | `(tactic| walk_at "fl.s") => `(tactic| ((with_reducible apply g_ixL); (focus walk_at "fl.look"); (focus first | assumption | rfl)))
local macro_rules | `(tactic| walk_at "fl.s") => `(tactic| (with_reducible refine g_un ?_))
local macro_rules | `(tactic| walk_at "fl.s") => `(tactic| (with_reducible refine g_U ?_))
local macro_rules | `(tactic| walk_at "fl.s") => `(tactic| ((with_reducible apply g_I); (focus walk_at "fl.side")))
local macro_rules | `(tactic| walk_at "fl.s") => `(tactic| (with_reducible refine g_I0 ?_))
local macro_rules | `(tactic| walk_at "fl.s") => `(tactic| (with_reducible refine g_c ?_))
local macro_rules | `(tactic| walk_at "fl.s") => `(tactic| ((with_reducible apply g_var); (focus rfl)))
local macro_rules | `(tactic| walk_at "fl.s") => `(tactic| (with_reducible refine g_op ?_))
local macro_rules | `(tactic| walk_at "fl.s") => `(tactic| (with_reducible refine g_seq ?_))
local macro_rules | `(tactic| walk_at "fl.go") => `(tactic| repeat walk_at "fl.s")
local macro_rules | `(tactic| walk_at "fl.run") => `(tactic| ((repeat walk_at "fl.s"); try (first
  | (refine g_ite (fun _ => ?_) (fun _ => ?_); all_goals walk_at "fl.run")
  | (refine g_iteN (fun _ => ?_) (fun _ => ?_); all_goals walk_at "fl.run"))))
local macro_rules | `(tactic| walk_at "fl.raw") => `(tactic| ((with_reducible apply raw_frd); (focus assumption); (focus walk_at "fl.nd"); walk_at "fl.raw"))
local macro_rules | `(tactic| walk_at "fl.raw") => `(tactic| ((with_reducible apply raw_on); (focus assumption); (focus walk_at "fl.nd"); walk_at "fl.raw"))
local macro_rules | `(tactic| walk_at "fl.raw") => `(tactic| ((with_reducible apply raw_same); (focus assumption); walk_at "fl.raw"))
local macro_rules | `(tactic| walk_at "fl.raw") => `(tactic| ((with_reducible apply raw_new); (focus assumption); walk_at "fl.raw"))
local macro_rules | `(tactic| walk_at "fl.raw") => `(tactic| exact upd_same)
local macro_rules | `(tactic| walk_at "fl.raw") => `(tactic| assumption)
local macro_rules | `(tactic| walk_at "fl.nd") => `(tactic| exact Dk.ned2 (by assumption) (by assumption))
local macro_rules | `(tactic| walk_at "fl.nd") => `(tactic| assumption)
local macro_rules | `(tactic| walk_at "fl.frd") => `(tactic| ((with_reducible apply Fl.Fr.frT); (focus assumption); walk_at "fl.frd"))
local macro_rules | `(tactic| walk_at "fl.frd") => `(tactic| ((with_reducible apply Fl.Fr.smT); (focus assumption); walk_at "fl.frd"))
local macro_rules | `(tactic| walk_at "fl.frd") => `(tactic| ((with_reducible apply Fl.Fr.ond); (focus assumption); walk_at "fl.frd"))
local macro_rules | `(tactic| walk_at "fl.frd") => `(tactic| ((with_reducible apply Fl.Fr.newT); (focus assumption); walk_at "fl.frd"))
local macro_rules | `(tactic| walk_at "fl.frd") => `(tactic| exact Fl.Fr.refl)
local macro_rules | `(tactic| walk_at "fl.frd") => `(tactic| assumption)
local macro_rules | `(tactic| walk_at "fl.lk") => `(tactic| ((with_reducible apply SqT.of); walk_at "fl.raw"))
local macro_rules | `(tactic| walk_at "fl.lk") => `(tactic| ((with_reducible apply SqL.of); walk_at "fl.raw"))
local macro_rules | `(tactic| walk_at "fl.dq") => `(tactic| ((with_reducible apply Dq.frd); (focus assumption); (focus first | assumption | simp); walk_at "fl.dq"))
local macro_rules | `(tactic| walk_at "fl.dq") => `(tactic| ((with_reducible apply Dq.ond); (focus assumption); (focus first | assumption | simp); walk_at "fl.dq"))
local macro_rules | `(tactic| walk_at "fl.dq") => `(tactic| ((with_reducible apply Dq.sm); (focus assumption); walk_at "fl.dq"))
local macro_rules | `(tactic| walk_at "fl.dq") => `(tactic| ((with_reducible apply Dq.newH); (focus assumption); walk_at "fl.dq"))
local macro_rules | `(tactic| walk_at "fl.dq") => `(tactic| exact Dq.non)
local macro_rules | `(tactic| walk_at "fl.dq") => `(tactic| exact Dq.bl _)
local macro_rules | `(tactic| walk_at "fl.dq") => `(tactic| exact Dq.int _)
local macro_rules | `(tactic| walk_at "fl.dq") => `(tactic| assumption)
local macro_rules | `(tactic| walk_at "fl.dqa") => `(tactic| ((with_reducible apply DqA.sm); (focus assumption); walk_at "fl.dqa"))
local macro_rules | `(tactic| walk_at "fl.dqa") => `(tactic| ((with_reducible apply DqA.newH); (focus assumption); walk_at "fl.dqa"))
local macro_rules | `(tactic| walk_at "fl.dqa") => `(tactic| ((with_reducible apply DqA.cons); (focus walk_at "fl.dq"); walk_at "fl.dqa"))
local macro_rules | `(tactic| walk_at "fl.dqa") => `(tactic| exact DqA.nil)
local macro_rules | `(tactic| walk_at "fl.dqa") => `(tactic| assumption)
local macro_rules | `(tactic| walk_at "fl.al") => `(tactic| ((with_reducible apply Al.frd); (focus assumption); (focus assumption); walk_at "fl.al"))
local macro_rules | `(tactic| walk_at "fl.al") => `(tactic| ((with_reducible apply Al.ond); (focus assumption); (focus assumption); walk_at "fl.al"))
local macro_rules | `(tactic| walk_at "fl.al") => `(tactic| ((with_reducible apply Al.sm); (focus assumption); walk_at "fl.al"))
local macro_rules | `(tactic| walk_at "fl.al") => `(tactic| ((with_reducible apply Al.newH); (focus assumption); walk_at "fl.al"))
local macro_rules | `(tactic| walk_at "fl.al") => `(tactic| exact Al.nil)
local macro_rules | `(tactic| walk_at "fl.al") => `(tactic| assumption)
local macro_rules | `(tactic| walk_at "fl.sm") => `(tactic| ((with_reducible apply Fl.Same.sm); (focus assumption); walk_at "fl.sm"))
local macro_rules | `(tactic| walk_at "fl.sm") => `(tactic| ((with_reducible apply Fl.Same.newT); (focus assumption); walk_at "fl.sm"))
local macro_rules | `(tactic| walk_at "fl.sm") => `(tactic| exact L2.Same.refl _)
local macro_rules | `(tactic| walk_at "fl.sm") => `(tactic| assumption)
local macro_rules | `(tactic| walk_at "fl.dk") => `(tactic| ((with_reducible apply Dk.sm); (focus assumption); walk_at "fl.dk"))
local macro_rules | `(tactic| walk_at "fl.dk") => `(tactic| ((with_reducible apply Dk.newH); (focus assumption); walk_at "fl.dk"))
local macro_rules | `(tactic| walk_at "fl.dk") => `(tactic| assumption)
local macro_rules | `(tactic| walk_at "fl.cz") => `(tactic| ((try simp only [List.length_drop, List.length_take, List.length_append, List.length_cons, List.length_nil, List.length_map, List.length_reverse, List.length_dropLast]); omega))
local macro_rules | `(tactic| walk_at "fl.t") => `(tactic| walk_at "fl.s")
local macro_rules | `(tactic| walk_at "fl.t") => `(tactic| ((with_reducible apply g_ez); (focus walk_at "fl.lk"); (focus walk_at "fl.lk")))
local macro_rules | `(tactic| walk_at "fl.t") => `(tactic| ((with_reducible apply g_el); (focus walk_at "fl.lk")))
local macro_rules | `(tactic| walk_at "fl.t") => `(tactic| ((with_reducible apply g_e2); (focus (refine ⟨?_, ?_, ?_, ?_⟩ <;> walk_at "fl.cz"))))
local macro_rules | `(tactic| walk_at "fl.t") => `(tactic| ((with_reducible apply g_e1); (focus walk_at "fl.cz"); (focus walk_at "fl.cz")))
local macro_rules | `(tactic| walk_at "fl.t") => `(tactic| (with_reducible refine g_zip ?_))
local macro_rules | `(tactic| walk_at "fl.t") => `(tactic| (with_reducible refine g_il ?_))
local macro_rules | `(tactic| walk_at "fl.t") => `(tactic| (with_reducible refine g_rng2 ?_))
local macro_rules | `(tactic| walk_at "fl.t") => `(tactic| (with_reducible refine g_rng1 ?_))
local macro_rules | `(tactic| walk_at "fl.t") => `(tactic| (with_reducible refine g_for ?_))
local macro_rules | `(tactic| walk_at "fl.t") => `(tactic| (with_reducible refine g_lc ?_))
local macro_rules | `(tactic| walk_at "fl.t") => `(tactic| ((with_reducible apply g_ext); (focus walk_at "fl.raw"); (focus walk_at "fl.raw"); (focus walk_at "fl.cz")))
local macro_rules | `(tactic| walk_at "fl.t") => `(tactic| ((with_reducible apply g_app); (focus walk_at "fl.raw"); (focus walk_at "fl.cz")))
local macro_rules | `(tactic| walk_at "fl.t") => `(tactic| ((with_reducible apply g_tyL); (focus walk_at "fl.lk")))
local macro_rules | `(tactic| walk_at "fl.t") => `(tactic| (with_reducible refine g_bm ?_))
local macro_rules | `(tactic| walk_at "fl.t") => `(tactic| (with_reducible refine g_gnil ?_))
local macro_rules | `(tactic| walk_at "fl.t") => `(tactic| (with_reducible refine g_gcons ?_))
local macro_rules | `(tactic| walk_at "fl.t") => `(tactic| ((with_reducible apply g_gtup); (focus walk_at "fl.lk"); (focus rfl)))
local macro_rules | `(tactic| walk_at "fl.t") => `(tactic| (with_reducible refine g_yes ?_))
local macro_rules | `(tactic| walk_at "fl.t") => `(tactic| ((with_reducible apply g_tru1); (focus walk_at "fl.lk")))
local macro_rules | `(tactic| walk_at "fl.t") => `(tactic| ((with_reducible apply g_tru0); (focus walk_at "fl.lk")))
local macro_rules | `(tactic| walk_at "fl.t") => `(tactic| (with_reducible refine g_tru ?_))
local macro_rules | `(tactic| walk_at "fl.t") => `(tactic| (with_reducible refine g_nn ?_))
local macro_rules | `(tactic| walk_at "fl.t") => `(tactic| ((with_reducible apply g_sum); (focus walk_at "fl.lk")))
local macro_rules | `(tactic| walk_at "fl.t") => `(tactic| ((with_reducible apply g_maxL); (focus walk_at "fl.lk"); (focus assumption)))
local macro_rules | `(tactic| walk_at "fl.t") => `(tactic| ((with_reducible apply g_minL); (focus walk_at "fl.lk"); (focus assumption)))
local macro_rules | `(tactic| walk_at "fl.t") => `(tactic| (with_reducible refine g_name ?_))
local macro_rules | `(tactic| walk_at "fl.t") => `(tactic| ((with_reducible refine g_sz ?_ ?_); (focus walk_at "fl.cz")))
local macro_rules | `(tactic| walk_at "fl.t") => `(tactic| ((with_reducible apply dk_app); (focus assumption); intro _ _ _ _ _))
local macro_rules | `(tactic| walk_at "fl.t") => `(tactic| ((with_reducible apply dr_app); (focus walk_at "fl.dk"); (focus first | (with_reducible assumption) | omega | walk_at "fl.side"); (focus first | (with_reducible assumption) | omega | walk_at "fl.side"); intro _ _ _ _ _ _))
local macro_rules | `(tactic| walk_at "fl.t") => `(tactic| ((with_reducible apply g_cat); (focus walk_at "fl.raw"); (focus walk_at "fl.raw"); (focus walk_at "fl.cz"); intro _ _))
local macro_rules | `(tactic| walk_at "fl.t") => `(tactic| ((with_reducible apply g_sl2); (focus walk_at "fl.lk"); intro _ _))
local macro_rules | `(tactic| walk_at "fl.t") => `(tactic| ((with_reducible apply g_slTo); (focus walk_at "fl.lk"); intro _ _))
local macro_rules | `(tactic| walk_at "fl.t") => `(tactic| ((with_reducible apply g_slF); (focus walk_at "fl.lk"); intro _ _))
local macro_rules | `(tactic| walk_at "fl.t") => `(tactic| ((with_reducible apply g_slE); (focus walk_at "fl.lk"); intro _ _))
local macro_rules | `(tactic| walk_at "fl.t") => `(tactic| ((with_reducible apply g_slB); (focus walk_at "fl.lk"); intro _ _))
local macro_rules | `(tactic| walk_at "fl.t") => `(tactic| ((with_reducible apply g_slT1); (focus walk_at "fl.lk"); intro _ _))
local macro_rules | `(tactic| walk_at "fl.t") => `(tactic| ((with_reducible apply g_slF1); (focus walk_at "fl.lk"); intro _ _))
local macro_rules | `(tactic| walk_at "fl.t") => `(tactic| (with_reducible refine g_ei ?_))
local macro_rules | `(tactic| walk_at "fl.t") => `(tactic| (with_reducible refine g_nop ?_))
local macro_rules | `(tactic| walk_at "fl.t") => `(tactic| (with_reducible refine g_part ?_))
local macro_rules | `(tactic| walk_at "fl.t") => `(tactic| (with_reducible refine g_sl ?_))
local macro_rules | `(tactic| walk_at "fl.t") => `(tactic| ((with_reducible apply g_listL); (focus walk_at "fl.lk"); intro _ _))
local macro_rules | `(tactic| walk_at "fl.t") => `(tactic| ((with_reducible apply g_lenT); (focus walk_at "fl.lk")))
local macro_rules | `(tactic| walk_at "fl.t") => `(tactic| ((with_reducible apply g_lenL); (focus walk_at "fl.lk")))
local macro_rules | `(tactic| walk_at "fl.t") => `(tactic| ((with_reducible apply g_ixT); (focus walk_at "fl.lk"); (focus first | assumption | rfl)))
local macro_rules | `(tactic| walk_at "fl.t") => `(tactic| ((with_reducible apply g_ixL); (focus walk_at "fl.lk"); (focus first | assumption | exact at0 | rfl)))
local macro_rules | `(tactic| walk_at "fl.w") => `(tactic| repeat walk_at "fl.t")
local macro_rules | `(tactic| walk_at "fl.wr") => `(tactic| ((repeat walk_at "fl.t"); try (first
  | (refine g_ite (fun _ => ?_) (fun _ => ?_); all_goals walk_at "fl.wr")
  | (refine g_iteN (fun _ => ?_) (fun _ => ?_); all_goals walk_at "fl.wr"))))
local macro_rules | `(tactic| walk_at "fl.t") => `(tactic| (with_reducible refine g_eqS ?_))
local macro_rules | `(tactic| walk_at "fl.t") => `(tactic| ((with_reducible apply g_lrev2); (focus walk_at "fl.lk"); intro _ _))
local macro_rules | `(tactic| walk_at "fl.t") => `(tactic| (with_reducible refine g_lrev ?_))
local macro_rules | `(tactic| walk_at "fl.t") => `(tactic| ((with_reducible apply g_slR0); (focus walk_at "fl.lk"); intro _ _))
local macro_rules | `(tactic| walk_at "fl.w") => `(tactic| repeat walk_at "fl.t")
local macro_rules | `(tactic| walk_at "fl.t") => `(tactic| (with_reducible refine g_asg2 ?_))
local macro_rules | `(tactic| walk_at "fl.t") => `(tactic| ((with_reducible apply g_allL); (focus walk_at "fl.lk")))
local macro_rules | `(tactic| walk_at "fl.t") => `(tactic| ((with_reducible apply g_enE); (focus walk_at "fl.lk")))
local macro_rules | `(tactic| walk_at "fl.t") => `(tactic| (with_reducible refine g_enum ?_))
local macro_rules | `(tactic| walk_at "fl.t") => `(tactic| (with_reducible refine g_truN ?_))
local macro_rules | `(tactic| walk_at "fl.t") => `(tactic| (with_reducible refine g_orT ?_))
local macro_rules | `(tactic| walk_at "fl.t") => `(tactic| (with_reducible refine g_chain ?_))
local macro_rules | `(tactic| walk_at "fl.t") => `(tactic| ((with_reducible apply g_sfE); (focus first | exact InitAt.hx (by assumption) | walk_at "fl.raw"); (focus assumption); (focus ((apply na_of); (focus assumption); rfl)); (focus (simp only [List.length_append, List.length_cons, List.length_nil]; omega))))
local macro_rules | `(tactic| walk_at "fl.t") => `(tactic| ((with_reducible apply g_fldE); (focus walk_at "fl.raw"); (focus assumption); (focus ((apply na_of); (focus assumption); rfl)); (focus rfl)))
local macro_rules | `(tactic| walk_at "fl.t") => `(tactic| (with_reducible refine g_make ?_))
local macro_rules | `(tactic| walk_at "fl.t") => `(tactic| (with_reducible refine g_sf ?_))
local macro_rules | `(tactic| walk_at "fl.t") => `(tactic| (with_reducible refine g_fld ?_))
local macro_rules | `(tactic| walk_at "fl.w") => `(tactic| repeat walk_at "fl.t")
def topS (i : Nat) : Stmt := PySem.Challenge.pw_fleuron_k40_places_and_shares.main.body.getD i (.Pass ⟨0, 0, 0, 0⟩)
abbrev s_tuples_of : Stmt := topS 25
abbrev N_tuples_of : List Str := ["rows", "row"]
abbrev ps_tuples_of : List Str := ["rows"]
theorem sc_tuples_of : FnScope N_tuples_of ps_tuples_of (defScope s_tuples_of) := ⟨rfl, rfl, rfl, by decide +kernel, rfl, by decide +kernel, by decide +kernel⟩
theorem bd_tuples_of (kV doc pm : Value) (an : Option Addr) (cdv ct : Value) (us : List Value) (h : us.length = ps_tuples_of.length) : bindArgs (PySem.W.fnOf "tuples_of" "tuples_of" (defArgs s_tuples_of) (defBody s_tuples_of) (defScope s_tuples_of) .none kV doc pm an cdv ct) ⟨us, []⟩ = pure (ps_tuples_of.zip us) := match us, h with | [_], _ => rfl
abbrev s_depths_of : Stmt := topS 3
abbrev N_depths_of : List Str := ["glyphs", "depths", "level", "k", "found"]
abbrev ps_depths_of : List Str := ["glyphs"]
theorem sc_depths_of : FnScope N_depths_of ps_depths_of (defScope s_depths_of) := ⟨rfl, rfl, rfl, by decide +kernel, rfl, by decide +kernel, by decide +kernel⟩
theorem bd_depths_of (kV doc pm : Value) (an : Option Addr) (cdv ct : Value) (us : List Value) (h : us.length = ps_depths_of.length) : bindArgs (PySem.W.fnOf "depths_of" "depths_of" (defArgs s_depths_of) (defBody s_depths_of) (defScope s_depths_of) .none kV doc pm an cdv ct) ⟨us, []⟩ = pure (ps_depths_of.zip us) := match us, h with | [_], _ => rfl
abbrev s_has_parts_in : Stmt := topS 4
abbrev N_has_parts_in : List Str := ["glyph", "depths", "part"]
abbrev ps_has_parts_in : List Str := ["glyph", "depths"]
theorem sc_has_parts_in : FnScope N_has_parts_in ps_has_parts_in (defScope s_has_parts_in) := ⟨rfl, rfl, rfl, by decide +kernel, rfl, by decide +kernel, by decide +kernel⟩
theorem bd_has_parts_in (kV doc pm : Value) (an : Option Addr) (cdv ct : Value) (us : List Value) (h : us.length = ps_has_parts_in.length) : bindArgs (PySem.W.fnOf "has_parts_in" "has_parts_in" (defArgs s_has_parts_in) (defBody s_has_parts_in) (defScope s_has_parts_in) .none kV doc pm an cdv ct) ⟨us, []⟩ = pure (ps_has_parts_in.zip us) := match us, h with | [_, _], _ => rfl
abbrev s_is_proper : Stmt := topS 17
abbrev N_is_proper : List Str := ["outline", "contour", "x", "y", "_"]
abbrev ps_is_proper : List Str := ["outline"]
theorem sc_is_proper : FnScope N_is_proper ps_is_proper (defScope s_is_proper) := ⟨rfl, rfl, rfl, by decide +kernel, rfl, by decide +kernel, by decide +kernel⟩
theorem bd_is_proper (kV doc pm : Value) (an : Option Addr) (cdv ct : Value) (us : List Value) (h : us.length = ps_is_proper.length) : bindArgs (PySem.W.fnOf "is_proper" "is_proper" (defArgs s_is_proper) (defBody s_is_proper) (defScope s_is_proper) .none kV doc pm an cdv ct) ⟨us, []⟩ = pure (ps_is_proper.zip us) := match us, h with | [_], _ => rfl
abbrev s_count_points : Stmt := topS 18
abbrev N_count_points : List Str := ["outline", "contour"]
abbrev ps_count_points : List Str := ["outline"]
theorem sc_count_points : FnScope N_count_points ps_count_points (defScope s_count_points) := ⟨rfl, rfl, rfl, by decide +kernel, rfl, by decide +kernel, by decide +kernel⟩
theorem bd_count_points (kV doc pm : Value) (an : Option Addr) (cdv ct : Value) (us : List Value) (h : us.length = ps_count_points.length) : bindArgs (PySem.W.fnOf "count_points" "count_points" (defArgs s_count_points) (defBody s_count_points) (defScope s_count_points) .none kV doc pm an cdv ct) ⟨us, []⟩ = pure (ps_count_points.zip us) := match us, h with | [_], _ => rfl
abbrev s_check_known : Stmt := topS 20
abbrev N_check_known : List Str := ["font", "glyph"]
abbrev ps_check_known : List Str := ["font", "glyph"]
theorem sc_check_known : FnScope N_check_known ps_check_known (defScope s_check_known) := ⟨rfl, rfl, rfl, by decide +kernel, rfl, by decide +kernel, by decide +kernel⟩
theorem bd_check_known (kV doc pm : Value) (an : Option Addr) (cdv ct : Value) (us : List Value) (h : us.length = ps_check_known.length) : bindArgs (PySem.W.fnOf "check_known" "check_known" (defArgs s_check_known) (defBody s_check_known) (defScope s_check_known) .none kV doc pm an cdv ct) ⟨us, []⟩ = pure (ps_check_known.zip us) := match us, h with | [_, _], _ => rfl
abbrev s_is_rising : Stmt := topS 26
abbrev N_is_rising : List Str := ["numbers", "many", "last", "number"]
abbrev ps_is_rising : List Str := ["numbers", "many"]
theorem sc_is_rising : FnScope N_is_rising ps_is_rising (defScope s_is_rising) := ⟨rfl, rfl, rfl, by decide +kernel, rfl, by decide +kernel, by decide +kernel⟩
theorem bd_is_rising (kV doc pm : Value) (an : Option Addr) (cdv ct : Value) (us : List Value) (h : us.length = ps_is_rising.length) : bindArgs (PySem.W.fnOf "is_rising" "is_rising" (defArgs s_is_rising) (defBody s_is_rising) (defScope s_is_rising) .none kV doc pm an cdv ct) ⟨us, []⟩ = pure (ps_is_rising.zip us) := match us, h with | [_, _], _ => rfl
abbrev s_is_instruction : Stmt := topS 44
abbrev N_is_instruction : List Str := ["step"]
abbrev ps_is_instruction : List Str := ["step"]
theorem sc_is_instruction : FnScope N_is_instruction ps_is_instruction (defScope s_is_instruction) := ⟨rfl, rfl, rfl, by decide +kernel, rfl, by decide +kernel, by decide +kernel⟩
theorem bd_is_instruction (kV doc pm : Value) (an : Option Addr) (cdv ct : Value) (us : List Value) (h : us.length = ps_is_instruction.length) : bindArgs (PySem.W.fnOf "is_instruction" "is_instruction" (defArgs s_is_instruction) (defBody s_is_instruction) (defScope s_is_instruction) .none kV doc pm an cdv ct) ⟨us, []⟩ = pure (ps_is_instruction.zip us) := match us, h with | [_], _ => rfl
abbrev s_is_row_of_letters : Stmt := topS 23
abbrev N_is_row_of_letters : List Str := ["word", "most", "letter"]
abbrev ps_is_row_of_letters : List Str := ["word", "most"]
theorem sc_is_row_of_letters : FnScope N_is_row_of_letters ps_is_row_of_letters (defScope s_is_row_of_letters) := ⟨rfl, rfl, rfl, by decide +kernel, rfl, by decide +kernel, by decide +kernel⟩
theorem bd_is_row_of_letters (kV doc pm : Value) (an : Option Addr) (cdv ct : Value) (us : List Value) (h : us.length = ps_is_row_of_letters.length) : bindArgs (PySem.W.fnOf "is_row_of_letters" "is_row_of_letters" (defArgs s_is_row_of_letters) (defBody s_is_row_of_letters) (defScope s_is_row_of_letters) .none kV doc pm an cdv ct) ⟨us, []⟩ = pure (ps_is_row_of_letters.zip us) := match us, h with | [_, _], _ => rfl
abbrev s_lookup_reason : Stmt := topS 34
abbrev N_lookup_reason : List Str := ["font", "lookup", "rule", "reason"]
abbrev ps_lookup_reason : List Str := ["font", "lookup"]
theorem sc_lookup_reason : FnScope N_lookup_reason ps_lookup_reason (defScope s_lookup_reason) := ⟨rfl, rfl, rfl, by decide +kernel, rfl, by decide +kernel, by decide +kernel⟩
theorem bd_lookup_reason (kV doc pm : Value) (an : Option Addr) (cdv ct : Value) (us : List Value) (h : us.length = ps_lookup_reason.length) : bindArgs (PySem.W.fnOf "lookup_reason" "lookup_reason" (defArgs s_lookup_reason) (defBody s_lookup_reason) (defScope s_lookup_reason) .none kV doc pm an cdv ct) ⟨us, []⟩ = pure (ps_lookup_reason.zip us) := match us, h with | [_, _], _ => rfl
abbrev s_first_fault : Stmt := topS 48
abbrev N_first_fault : List Str := ["font"]
abbrev ps_first_fault : List Str := ["font"]
theorem sc_first_fault : FnScope N_first_fault ps_first_fault (defScope s_first_fault) := ⟨rfl, rfl, rfl, by decide +kernel, rfl, by decide +kernel, by decide +kernel⟩
theorem bd_first_fault (kV doc pm : Value) (an : Option Addr) (cdv ct : Value) (us : List Value) (h : us.length = ps_first_fault.length) : bindArgs (PySem.W.fnOf "first_fault" "first_fault" (defArgs s_first_fault) (defBody s_first_fault) (defScope s_first_fault) .none kV doc pm an cdv ct) ⟨us, []⟩ = pure (ps_first_fault.zip us) := match us, h with | [_], _ => rfl
abbrev s_placed : Stmt := topS 49
abbrev N_placed : List Str := ["place", "reason"]
abbrev ps_placed : List Str := ["place", "reason"]
theorem sc_placed : FnScope N_placed ps_placed (defScope s_placed) := ⟨rfl, rfl, rfl, by decide +kernel, rfl, by decide +kernel, by decide +kernel⟩
theorem bd_placed (kV doc pm : Value) (an : Option Addr) (cdv ct : Value) (us : List Value) (h : us.length = ps_placed.length) : bindArgs (PySem.W.fnOf "placed" "placed" (defArgs s_placed) (defBody s_placed) (defScope s_placed) .none kV doc pm an cdv ct) ⟨us, []⟩ = pure (ps_placed.zip us) := match us, h with | [_, _], _ => rfl
abbrev s_first_glyph_fault : Stmt := topS 50
abbrev N_first_glyph_fault : List Str := ["font", "number", "glyph", "reason"]
abbrev ps_first_glyph_fault : List Str := ["font"]
theorem sc_first_glyph_fault : FnScope N_first_glyph_fault ps_first_glyph_fault (defScope s_first_glyph_fault) := ⟨rfl, rfl, rfl, by decide +kernel, rfl, by decide +kernel, by decide +kernel⟩
theorem bd_first_glyph_fault (kV doc pm : Value) (an : Option Addr) (cdv ct : Value) (us : List Value) (h : us.length = ps_first_glyph_fault.length) : bindArgs (PySem.W.fnOf "first_glyph_fault" "first_glyph_fault" (defArgs s_first_glyph_fault) (defBody s_first_glyph_fault) (defScope s_first_glyph_fault) .none kV doc pm an cdv ct) ⟨us, []⟩ = pure (ps_first_glyph_fault.zip us) := match us, h with | [_], _ => rfl
abbrev s_first_lookup_fault : Stmt := topS 51
abbrev N_first_lookup_fault : List Str := ["font", "number", "lookup", "reason"]
abbrev ps_first_lookup_fault : List Str := ["font"]
theorem sc_first_lookup_fault : FnScope N_first_lookup_fault ps_first_lookup_fault (defScope s_first_lookup_fault) := ⟨rfl, rfl, rfl, by decide +kernel, rfl, by decide +kernel, by decide +kernel⟩
theorem bd_first_lookup_fault (kV doc pm : Value) (an : Option Addr) (cdv ct : Value) (us : List Value) (h : us.length = ps_first_lookup_fault.length) : bindArgs (PySem.W.fnOf "first_lookup_fault" "first_lookup_fault" (defArgs s_first_lookup_fault) (defBody s_first_lookup_fault) (defScope s_first_lookup_fault) .none kV doc pm an cdv ct) ⟨us, []⟩ = pure (ps_first_lookup_fault.zip us) := match us, h with | [_], _ => rfl
abbrev s_is_coordinate : Stmt := topS 52
abbrev N_is_coordinate : List Str := ["n"]
abbrev ps_is_coordinate : List Str := ["n"]
theorem sc_is_coordinate : FnScope N_is_coordinate ps_is_coordinate (defScope s_is_coordinate) := ⟨rfl, rfl, rfl, by decide +kernel, rfl, by decide +kernel, by decide +kernel⟩
theorem bd_is_coordinate (kV doc pm : Value) (an : Option Addr) (cdv ct : Value) (us : List Value) (h : us.length = ps_is_coordinate.length) : bindArgs (PySem.W.fnOf "is_coordinate" "is_coordinate" (defArgs s_is_coordinate) (defBody s_is_coordinate) (defScope s_is_coordinate) .none kV doc pm an cdv ct) ⟨us, []⟩ = pure (ps_is_coordinate.zip us) := match us, h with | [_], _ => rfl
abbrev s_many_reason : Stmt := topS 53
abbrev N_many_reason : List Str := ["rows", "least", "most"]
abbrev ps_many_reason : List Str := ["rows", "least", "most"]
theorem sc_many_reason : FnScope N_many_reason ps_many_reason (defScope s_many_reason) := ⟨rfl, rfl, rfl, by decide +kernel, rfl, by decide +kernel, by decide +kernel⟩
theorem bd_many_reason (kV doc pm : Value) (an : Option Addr) (cdv ct : Value) (us : List Value) (h : us.length = ps_many_reason.length) : bindArgs (PySem.W.fnOf "many_reason" "many_reason" (defArgs s_many_reason) (defBody s_many_reason) (defScope s_many_reason) .none kV doc pm an cdv ct) ⟨us, []⟩ = pure (ps_many_reason.zip us) := match us, h with | [_, _, _], _ => rfl
abbrev s_unit_reason : Stmt := topS 54
abbrev N_unit_reason : List Str := ["font"]
abbrev ps_unit_reason : List Str := ["font"]
theorem sc_unit_reason : FnScope N_unit_reason ps_unit_reason (defScope s_unit_reason) := ⟨rfl, rfl, rfl, by decide +kernel, rfl, by decide +kernel, by decide +kernel⟩
theorem bd_unit_reason (kV doc pm : Value) (an : Option Addr) (cdv ct : Value) (us : List Value) (h : us.length = ps_unit_reason.length) : bindArgs (PySem.W.fnOf "unit_reason" "unit_reason" (defArgs s_unit_reason) (defBody s_unit_reason) (defScope s_unit_reason) .none kV doc pm an cdv ct) ⟨us, []⟩ = pure (ps_unit_reason.zip us) := match us, h with | [_], _ => rfl
abbrev s_glyph_reason : Stmt := topS 55
abbrev N_glyph_reason : List Str := ["font", "glyph", "part", "anchor", "delta", "step"]
abbrev ps_glyph_reason : List Str := ["font", "glyph"]
theorem sc_glyph_reason : FnScope N_glyph_reason ps_glyph_reason (defScope s_glyph_reason) := ⟨rfl, rfl, rfl, by decide +kernel, rfl, by decide +kernel, by decide +kernel⟩
theorem bd_glyph_reason (kV doc pm : Value) (an : Option Addr) (cdv ct : Value) (us : List Value) (h : us.length = ps_glyph_reason.length) : bindArgs (PySem.W.fnOf "glyph_reason" "glyph_reason" (defArgs s_glyph_reason) (defBody s_glyph_reason) (defScope s_glyph_reason) .none kV doc pm an cdv ct) ⟨us, []⟩ = pure (ps_glyph_reason.zip us) := match us, h with | [_, _], _ => rfl
abbrev s_is_part : Stmt := topS 56
abbrev N_is_part : List Str := ["font", "part", "number", "x", "y"]
abbrev ps_is_part : List Str := ["font", "part"]
theorem sc_is_part : FnScope N_is_part ps_is_part (defScope s_is_part) := ⟨rfl, rfl, rfl, by decide +kernel, rfl, by decide +kernel, by decide +kernel⟩
theorem bd_is_part (kV doc pm : Value) (an : Option Addr) (cdv ct : Value) (us : List Value) (h : us.length = ps_is_part.length) : bindArgs (PySem.W.fnOf "is_part" "is_part" (defArgs s_is_part) (defBody s_is_part) (defScope s_is_part) .none kV doc pm an cdv ct) ⟨us, []⟩ = pure (ps_is_part.zip us) := match us, h with | [_, _], _ => rfl
abbrev s_is_anchor : Stmt := topS 57
abbrev N_is_anchor : List Str := ["anchor", "kind", "group", "x", "y"]
abbrev ps_is_anchor : List Str := ["anchor"]
theorem sc_is_anchor : FnScope N_is_anchor ps_is_anchor (defScope s_is_anchor) := ⟨rfl, rfl, rfl, by decide +kernel, rfl, by decide +kernel, by decide +kernel⟩
theorem bd_is_anchor (kV doc pm : Value) (an : Option Addr) (cdv ct : Value) (us : List Value) (h : us.length = ps_is_anchor.length) : bindArgs (PySem.W.fnOf "is_anchor" "is_anchor" (defArgs s_is_anchor) (defBody s_is_anchor) (defScope s_is_anchor) .none kV doc pm an cdv ct) ⟨us, []⟩ = pure (ps_is_anchor.zip us) := match us, h with | [_], _ => rfl
abbrev s_is_delta : Stmt := topS 58
abbrev N_is_delta : List Str := ["font", "glyph", "delta", "region", "point", "x", "y"]
abbrev ps_is_delta : List Str := ["font", "glyph", "delta"]
theorem sc_is_delta : FnScope N_is_delta ps_is_delta (defScope s_is_delta) := ⟨rfl, rfl, rfl, by decide +kernel, rfl, by decide +kernel, by decide +kernel⟩
theorem bd_is_delta (kV doc pm : Value) (an : Option Addr) (cdv ct : Value) (us : List Value) (h : us.length = ps_is_delta.length) : bindArgs (PySem.W.fnOf "is_delta" "is_delta" (defArgs s_is_delta) (defBody s_is_delta) (defScope s_is_delta) .none kV doc pm an cdv ct) ⟨us, []⟩ = pure (ps_is_delta.zip us) := match us, h with | [_, _, _], _ => rfl
abbrev s_parts_reason : Stmt := topS 59
abbrev N_parts_reason : List Str := ["font"]
abbrev ps_parts_reason : List Str := ["font"]
theorem sc_parts_reason : FnScope N_parts_reason ps_parts_reason (defScope s_parts_reason) := ⟨rfl, rfl, rfl, by decide +kernel, rfl, by decide +kernel, by decide +kernel⟩
theorem bd_parts_reason (kV doc pm : Value) (an : Option Addr) (cdv ct : Value) (us : List Value) (h : us.length = ps_parts_reason.length) : bindArgs (PySem.W.fnOf "parts_reason" "parts_reason" (defArgs s_parts_reason) (defBody s_parts_reason) (defScope s_parts_reason) .none kV doc pm an cdv ct) ⟨us, []⟩ = pure (ps_parts_reason.zip us) := match us, h with | [_], _ => rfl
abbrev s_chars_reason : Stmt := topS 60
abbrev N_chars_reason : List Str := ["font", "last", "code", "glyph"]
abbrev ps_chars_reason : List Str := ["font"]
theorem sc_chars_reason : FnScope N_chars_reason ps_chars_reason (defScope s_chars_reason) := ⟨rfl, rfl, rfl, by decide +kernel, rfl, by decide +kernel, by decide +kernel⟩
theorem bd_chars_reason (kV doc pm : Value) (an : Option Addr) (cdv ct : Value) (us : List Value) (h : us.length = ps_chars_reason.length) : bindArgs (PySem.W.fnOf "chars_reason" "chars_reason" (defArgs s_chars_reason) (defBody s_chars_reason) (defScope s_chars_reason) .none kV doc pm an cdv ct) ⟨us, []⟩ = pure (ps_chars_reason.zip us) := match us, h with | [_], _ => rfl
abbrev s_features_reason : Stmt := topS 61
abbrev N_features_reason : List Str := ["font", "name", "names", "numbers", "_"]
abbrev ps_features_reason : List Str := ["font"]
theorem sc_features_reason : FnScope N_features_reason ps_features_reason (defScope s_features_reason) := ⟨rfl, rfl, rfl, by decide +kernel, rfl, by decide +kernel, by decide +kernel⟩
theorem bd_features_reason (kV doc pm : Value) (an : Option Addr) (cdv ct : Value) (us : List Value) (h : us.length = ps_features_reason.length) : bindArgs (PySem.W.fnOf "features_reason" "features_reason" (defArgs s_features_reason) (defBody s_features_reason) (defScope s_features_reason) .none kV doc pm an cdv ct) ⟨us, []⟩ = pure (ps_features_reason.zip us) := match us, h with | [_], _ => rfl
abbrev s_axes_reason : Stmt := topS 62
abbrev N_axes_reason : List Str := ["font", "least", "normal", "greatest"]
abbrev ps_axes_reason : List Str := ["font"]
theorem sc_axes_reason : FnScope N_axes_reason ps_axes_reason (defScope s_axes_reason) := ⟨rfl, rfl, rfl, by decide +kernel, rfl, by decide +kernel, by decide +kernel⟩
theorem bd_axes_reason (kV doc pm : Value) (an : Option Addr) (cdv ct : Value) (us : List Value) (h : us.length = ps_axes_reason.length) : bindArgs (PySem.W.fnOf "axes_reason" "axes_reason" (defArgs s_axes_reason) (defBody s_axes_reason) (defScope s_axes_reason) .none kV doc pm an cdv ct) ⟨us, []⟩ = pure (ps_axes_reason.zip us) := match us, h with | [_], _ => rfl
abbrev s_regions_reason : Stmt := topS 63
abbrev N_regions_reason : List Str := ["font", "region", "tent"]
abbrev ps_regions_reason : List Str := ["font"]
theorem sc_regions_reason : FnScope N_regions_reason ps_regions_reason (defScope s_regions_reason) := ⟨rfl, rfl, rfl, by decide +kernel, rfl, by decide +kernel, by decide +kernel⟩
theorem bd_regions_reason (kV doc pm : Value) (an : Option Addr) (cdv ct : Value) (us : List Value) (h : us.length = ps_regions_reason.length) : bindArgs (PySem.W.fnOf "regions_reason" "regions_reason" (defArgs s_regions_reason) (defBody s_regions_reason) (defScope s_regions_reason) .none kV doc pm an cdv ct) ⟨us, []⟩ = pure (ps_regions_reason.zip us) := match us, h with | [_], _ => rfl
abbrev s_is_tent : Stmt := topS 64
abbrev N_is_tent : List Str := ["tent", "start", "peak", "end"]
abbrev ps_is_tent : List Str := ["tent"]
theorem sc_is_tent : FnScope N_is_tent ps_is_tent (defScope s_is_tent) := ⟨rfl, rfl, rfl, by decide +kernel, rfl, by decide +kernel, by decide +kernel⟩
theorem bd_is_tent (kV doc pm : Value) (an : Option Addr) (cdv ct : Value) (us : List Value) (h : us.length = ps_is_tent.length) : bindArgs (PySem.W.fnOf "is_tent" "is_tent" (defArgs s_is_tent) (defBody s_is_tent) (defScope s_is_tent) .none kV doc pm an cdv ct) ⟨us, []⟩ = pure (ps_is_tent.zip us) := match us, h with | [_], _ => rfl
abbrev s_functions_reason : Stmt := topS 65
abbrev N_functions_reason : List Str := ["font", "function", "step"]
abbrev ps_functions_reason : List Str := ["font"]
theorem sc_functions_reason : FnScope N_functions_reason ps_functions_reason (defScope s_functions_reason) := ⟨rfl, rfl, rfl, by decide +kernel, rfl, by decide +kernel, by decide +kernel⟩
theorem bd_functions_reason (kV doc pm : Value) (an : Option Addr) (cdv ct : Value) (us : List Value) (h : us.length = ps_functions_reason.length) : bindArgs (PySem.W.fnOf "functions_reason" "functions_reason" (defArgs s_functions_reason) (defBody s_functions_reason) (defScope s_functions_reason) .none kV doc pm an cdv ct) ⟨us, []⟩ = pure (ps_functions_reason.zip us) := match us, h with | [_], _ => rfl
abbrev s_presets_reason : Stmt := topS 66
abbrev N_presets_reason : List Str := ["font", "preset"]
abbrev ps_presets_reason : List Str := ["font"]
theorem sc_presets_reason : FnScope N_presets_reason ps_presets_reason (defScope s_presets_reason) := ⟨rfl, rfl, rfl, by decide +kernel, rfl, by decide +kernel, by decide +kernel⟩
theorem bd_presets_reason (kV doc pm : Value) (an : Option Addr) (cdv ct : Value) (us : List Value) (h : us.length = ps_presets_reason.length) : bindArgs (PySem.W.fnOf "presets_reason" "presets_reason" (defArgs s_presets_reason) (defBody s_presets_reason) (defScope s_presets_reason) .none kV doc pm an cdv ct) ⟨us, []⟩ = pure (ps_presets_reason.zip us) := match us, h with | [_], _ => rfl
abbrev s_Glyph : Stmt := inClass (topS 68) 0
abbrev N_Glyph : List Str := ["self", "advance", "outline", "parts", "anchors", "mark", "deltas", "hint", "contour"]
abbrev ps_Glyph : List Str := ["self", "advance", "outline", "parts", "anchors", "mark", "deltas", "hint"]
theorem sc_Glyph : FnScope N_Glyph ps_Glyph (defScope s_Glyph) := ⟨rfl, rfl, rfl, by decide +kernel, rfl, by decide +kernel, by decide +kernel⟩
abbrev s_Rule : Stmt := inClass (topS 69) 0
abbrev N_Rule : List Str := ["self", "inside", "back", "ahead", "out", "calls", "extra", "chosen"]
abbrev ps_Rule : List Str := ["self", "inside", "back", "ahead", "out", "calls", "extra"]
theorem sc_Rule : FnScope N_Rule ps_Rule (defScope s_Rule) := ⟨rfl, rfl, rfl, by decide +kernel, rfl, by decide +kernel, by decide +kernel⟩
abbrev s_Lookup : Stmt := inClass (topS 70) 0
abbrev N_Lookup : List Str := ["self", "kind", "rules", "ignore", "rule"]
abbrev ps_Lookup : List Str := ["self", "kind", "rules", "ignore"]
theorem sc_Lookup : FnScope N_Lookup ps_Lookup (defScope s_Lookup) := ⟨rfl, rfl, rfl, by decide +kernel, rfl, by decide +kernel, by decide +kernel⟩
abbrev s_Font : Stmt := inClass (topS 71) 0
abbrev N_Font : List Str := ["self", "unit", "glyphs", "chars", "lookups", "features", "axes", "regions", "functions", "presets", "fault", "glyph", "lookup", "name", "numbers", "region", "function"]
abbrev ps_Font : List Str := ["self", "unit", "glyphs", "chars", "lookups", "features", "axes", "regions", "functions", "presets"]
theorem sc_Font : FnScope N_Font ps_Font (defScope s_Font) := ⟨rfl, rfl, rfl, by decide +kernel, rfl, by decide +kernel, by decide +kernel⟩
abbrev s_copied_glyph : Stmt := topS 72
abbrev N_copied_glyph : List Str := ["glyph"]
abbrev ps_copied_glyph : List Str := ["glyph"]
theorem sc_copied_glyph : FnScope N_copied_glyph ps_copied_glyph (defScope s_copied_glyph) := ⟨rfl, rfl, rfl, by decide +kernel, rfl, by decide +kernel, by decide +kernel⟩
theorem bd_copied_glyph (kV doc pm : Value) (an : Option Addr) (cdv ct : Value) (us : List Value) (h : us.length = ps_copied_glyph.length) : bindArgs (PySem.W.fnOf "copied_glyph" "copied_glyph" (defArgs s_copied_glyph) (defBody s_copied_glyph) (defScope s_copied_glyph) .none kV doc pm an cdv ct) ⟨us, []⟩ = pure (ps_copied_glyph.zip us) := match us, h with | [_], _ => rfl
abbrev s_copied_rule : Stmt := topS 73
abbrev N_copied_rule : List Str := ["rule"]
abbrev ps_copied_rule : List Str := ["rule"]
theorem sc_copied_rule : FnScope N_copied_rule ps_copied_rule (defScope s_copied_rule) := ⟨rfl, rfl, rfl, by decide +kernel, rfl, by decide +kernel, by decide +kernel⟩
theorem bd_copied_rule (kV doc pm : Value) (an : Option Addr) (cdv ct : Value) (us : List Value) (h : us.length = ps_copied_rule.length) : bindArgs (PySem.W.fnOf "copied_rule" "copied_rule" (defArgs s_copied_rule) (defBody s_copied_rule) (defScope s_copied_rule) .none kV doc pm an cdv ct) ⟨us, []⟩ = pure (ps_copied_rule.zip us) := match us, h with | [_], _ => rfl
abbrev s_copied_lookup : Stmt := topS 74
abbrev N_copied_lookup : List Str := ["lookup"]
abbrev ps_copied_lookup : List Str := ["lookup"]
theorem sc_copied_lookup : FnScope N_copied_lookup ps_copied_lookup (defScope s_copied_lookup) := ⟨rfl, rfl, rfl, by decide +kernel, rfl, by decide +kernel, by decide +kernel⟩
theorem bd_copied_lookup (kV doc pm : Value) (an : Option Addr) (cdv ct : Value) (us : List Value) (h : us.length = ps_copied_lookup.length) : bindArgs (PySem.W.fnOf "copied_lookup" "copied_lookup" (defArgs s_copied_lookup) (defBody s_copied_lookup) (defScope s_copied_lookup) .none kV doc pm an cdv ct) ⟨us, []⟩ = pure (ps_copied_lookup.zip us) := match us, h with | [_], _ => rfl
abbrev s_law_deck : Stmt := topS 98
abbrev N_law_deck : List Str := ["script"]
abbrev ps_law_deck : List Str := ["script"]
theorem sc_law_deck : FnScope N_law_deck ps_law_deck (defScope s_law_deck) := ⟨rfl, rfl, rfl, by decide +kernel, rfl, by decide +kernel, by decide +kernel⟩
theorem bd_law_deck (kV doc pm : Value) (an : Option Addr) (cdv ct : Value) (us : List Value) (h : us.length = ps_law_deck.length) : bindArgs (PySem.W.fnOf "_law_deck" "_law_deck" (defArgs s_law_deck) (defBody s_law_deck) (defScope s_law_deck) .none kV doc pm an cdv ct) ⟨us, []⟩ = pure (ps_law_deck.zip us) := match us, h with | [_], _ => rfl
abbrev s_law_draw : Stmt := topS 99
abbrev N_law_draw : List Str := ["deck", "most", "value", "cell"]
abbrev ps_law_draw : List Str := ["deck", "most"]
theorem sc_law_draw : FnScope N_law_draw ps_law_draw (defScope s_law_draw) := ⟨rfl, rfl, rfl, by decide +kernel, rfl, by decide +kernel, by decide +kernel⟩
theorem bd_law_draw (kV doc pm : Value) (an : Option Addr) (cdv ct : Value) (us : List Value) (h : us.length = ps_law_draw.length) : bindArgs (PySem.W.fnOf "_law_draw" "_law_draw" (defArgs s_law_draw) (defBody s_law_draw) (defScope s_law_draw) .none kV doc pm an cdv ct) ⟨us, []⟩ = pure (ps_law_draw.zip us) := match us, h with | [_, _], _ => rfl
abbrev s_law_same : Stmt := topS 100
abbrev N_law_same : List Str := ["actual", "due", "k"]
abbrev ps_law_same : List Str := ["actual", "due"]
theorem sc_law_same : FnScope N_law_same ps_law_same (defScope s_law_same) := ⟨rfl, rfl, rfl, by decide +kernel, rfl, by decide +kernel, by decide +kernel⟩
theorem bd_law_same (kV doc pm : Value) (an : Option Addr) (cdv ct : Value) (us : List Value) (h : us.length = ps_law_same.length) : bindArgs (PySem.W.fnOf "_law_same" "_law_same" (defArgs s_law_same) (defBody s_law_same) (defScope s_law_same) .none kV doc pm an cdv ct) ⟨us, []⟩ = pure (ps_law_same.zip us) := match us, h with | [_, _], _ => rfl
abbrev s_law_same_list : Stmt := topS 101
abbrev N_law_same_list : List Str := ["actual", "due", "k"]
abbrev ps_law_same_list : List Str := ["actual", "due"]
theorem sc_law_same_list : FnScope N_law_same_list ps_law_same_list (defScope s_law_same_list) := ⟨rfl, rfl, rfl, by decide +kernel, rfl, by decide +kernel, by decide +kernel⟩
theorem bd_law_same_list (kV doc pm : Value) (an : Option Addr) (cdv ct : Value) (us : List Value) (h : us.length = ps_law_same_list.length) : bindArgs (PySem.W.fnOf "_law_same_list" "_law_same_list" (defArgs s_law_same_list) (defBody s_law_same_list) (defScope s_law_same_list) .none kV doc pm an cdv ct) ⟨us, []⟩ = pure (ps_law_same_list.zip us) := match us, h with | [_, _], _ => rfl
abbrev s_law : Stmt := topS 109
abbrev N_law : List Str := ["script", "deck", "axes", "font", "place", "kept", "due", "bad", "at", "row", "k", "what"]
abbrev ps_law : List Str := ["script"]
theorem sc_law : FnScope N_law ps_law (defScope s_law) := ⟨rfl, rfl, rfl, by decide +kernel, rfl, by decide +kernel, by decide +kernel⟩
abbrev s_ratio : Stmt := topS 76
abbrev N_ratio : List Str := ["p", "q", "divisor"]
abbrev ps_ratio : List Str := ["p", "q"]
theorem sc_ratio : FnScope N_ratio ps_ratio (defScope s_ratio) := ⟨rfl, rfl, rfl, by decide +kernel, rfl, by decide +kernel, by decide +kernel⟩
theorem bd_ratio_1 (T : Addr) (kV doc pm : Value) (an : Option Addr) (cdv ct : Value) (us its : List Value) (h : us.length = 1) (h2 : its.length = 1) : ∃ k, bindArgs (PySem.W.fnOf "ratio" "ratio" (defArgs s_ratio) (defBody s_ratio) (defScope s_ratio) (.ref T) kV doc pm an cdv ct) ⟨us, []⟩ = seqItems? (.ref T) >>= k ∧ k (some its.toArray) = pure (ps_ratio.zip (us ++ its.drop 0)) := match us, h, its, h2 with | [_], _, [_], _ => ⟨_, rfl, rfl⟩
theorem bd_ratio_2 (T : Addr) (kV doc pm : Value) (an : Option Addr) (cdv ct : Value) (us its : List Value) (h : us.length = 2) (h2 : its.length = 1) : ∃ k, bindArgs (PySem.W.fnOf "ratio" "ratio" (defArgs s_ratio) (defBody s_ratio) (defScope s_ratio) (.ref T) kV doc pm an cdv ct) ⟨us, []⟩ = seqItems? (.ref T) >>= k ∧ k (some its.toArray) = pure (ps_ratio.zip (us ++ its.drop 1)) := match us, h, its, h2 with | [_, _], _, [_], _ => ⟨_, rfl, rfl⟩
abbrev s_add : Stmt := topS 77
abbrev s_subtract : Stmt := topS 78
abbrev s_multiply : Stmt := topS 79
abbrev s_divide : Stmt := topS 80
abbrev s_compare : Stmt := topS 81
abbrev s_nearest : Stmt := topS 82
abbrev N_nearest : List Str := ["a"]
abbrev ps_nearest : List Str := ["a"]
theorem sc_nearest : FnScope N_nearest ps_nearest (defScope s_nearest) := ⟨rfl, rfl, rfl, by decide +kernel, rfl, by decide +kernel, by decide +kernel⟩
theorem bd_nearest (kV doc pm : Value) (an : Option Addr) (cdv ct : Value) (us : List Value) (h : us.length = ps_nearest.length) : bindArgs (PySem.W.fnOf "nearest" "nearest" (defArgs s_nearest) (defBody s_nearest) (defScope s_nearest) .none kV doc pm an cdv ct) ⟨us, []⟩ = pure (ps_nearest.zip us) := match us, h with | [_], _ => rfl
abbrev s_shares : Stmt := topS 86
abbrev N_shares : List Str := ["font", "place", "axis", "at", "least", "_", "greatest"]
abbrev ps_shares : List Str := ["font", "place"]
theorem sc_shares : FnScope N_shares ps_shares (defScope s_shares) := ⟨rfl, rfl, rfl, by decide +kernel, rfl, by decide +kernel, by decide +kernel⟩
theorem bd_shares (kV doc pm : Value) (an : Option Addr) (cdv ct : Value) (us : List Value) (h : us.length = ps_shares.length) : bindArgs (PySem.W.fnOf "shares" "shares" (defArgs s_shares) (defBody s_shares) (defScope s_shares) .none kV doc pm an cdv ct) ⟨us, []⟩ = pure (ps_shares.zip us) := match us, h with | [_, _], _ => rfl
abbrev s_share_of : Stmt := topS 87
abbrev N_share_of : List Str := ["axis", "at", "least", "normal", "greatest"]
abbrev ps_share_of : List Str := ["axis", "at"]
theorem sc_share_of : FnScope N_share_of ps_share_of (defScope s_share_of) := ⟨rfl, rfl, rfl, by decide +kernel, rfl, by decide +kernel, by decide +kernel⟩
theorem bd_share_of (kV doc pm : Value) (an : Option Addr) (cdv ct : Value) (us : List Value) (h : us.length = ps_share_of.length) : bindArgs (PySem.W.fnOf "share_of" "share_of" (defArgs s_share_of) (defBody s_share_of) (defScope s_share_of) .none kV doc pm an cdv ct) ⟨us, []⟩ = pure (ps_share_of.zip us) := match us, h with | [_, _], _ => rfl
abbrev s_factor : Stmt := topS 88
abbrev N_factor : List Str := ["region", "parts", "product", "tent", "share"]
abbrev ps_factor : List Str := ["region", "parts"]
theorem sc_factor : FnScope N_factor ps_factor (defScope s_factor) := ⟨rfl, rfl, rfl, by decide +kernel, rfl, by decide +kernel, by decide +kernel⟩
theorem bd_factor (kV doc pm : Value) (an : Option Addr) (cdv ct : Value) (us : List Value) (h : us.length = ps_factor.length) : bindArgs (PySem.W.fnOf "factor" "factor" (defArgs s_factor) (defBody s_factor) (defScope s_factor) .none kV doc pm an cdv ct) ⟨us, []⟩ = pure (ps_factor.zip us) := match us, h with | [_, _], _ => rfl
abbrev s_factor_of_tent : Stmt := topS 89
abbrev s_glyph_at : Stmt := topS 90
abbrev N_glyph_at : List Str := ["font", "number", "place"]
abbrev ps_glyph_at : List Str := ["font", "number", "place"]
theorem sc_glyph_at : FnScope N_glyph_at ps_glyph_at (defScope s_glyph_at) := ⟨rfl, rfl, rfl, by decide +kernel, rfl, by decide +kernel, by decide +kernel⟩
theorem bd_glyph_at (kV doc pm : Value) (an : Option Addr) (cdv ct : Value) (us : List Value) (h : us.length = ps_glyph_at.length) : bindArgs (PySem.W.fnOf "glyph_at" "glyph_at" (defArgs s_glyph_at) (defBody s_glyph_at) (defScope s_glyph_at) .none kV doc pm an cdv ct) ⟨us, []⟩ = pure (ps_glyph_at.zip us) := match us, h with | [_, _, _], _ => rfl
abbrev s_factors_of : Stmt := topS 91
abbrev N_factors_of : List Str := ["font", "place", "parts", "region"]
abbrev ps_factors_of : List Str := ["font", "place"]
theorem sc_factors_of : FnScope N_factors_of ps_factors_of (defScope s_factors_of) := ⟨rfl, rfl, rfl, by decide +kernel, rfl, by decide +kernel, by decide +kernel⟩
theorem bd_factors_of (kV doc pm : Value) (an : Option Addr) (cdv ct : Value) (us : List Value) (h : us.length = ps_factors_of.length) : bindArgs (PySem.W.fnOf "factors_of" "factors_of" (defArgs s_factors_of) (defBody s_factors_of) (defScope s_factors_of) .none kV doc pm an cdv ct) ⟨us, []⟩ = pure (ps_factors_of.zip us) := match us, h with | [_, _], _ => rfl
abbrev s_changed_glyph : Stmt := topS 92
abbrev N_changed_glyph : List Str := ["font", "number", "factors", "glyph", "changes", "advance", "outline"]
abbrev ps_changed_glyph : List Str := ["font", "number", "factors"]
theorem sc_changed_glyph : FnScope N_changed_glyph ps_changed_glyph (defScope s_changed_glyph) := ⟨rfl, rfl, rfl, by decide +kernel, rfl, by decide +kernel, by decide +kernel⟩
theorem bd_changed_glyph (kV doc pm : Value) (an : Option Addr) (cdv ct : Value) (us : List Value) (h : us.length = ps_changed_glyph.length) : bindArgs (PySem.W.fnOf "changed_glyph" "changed_glyph" (defArgs s_changed_glyph) (defBody s_changed_glyph) (defScope s_changed_glyph) .none kV doc pm an cdv ct) ⟨us, []⟩ = pure (ps_changed_glyph.zip us) := match us, h with | [_, _, _], _ => rfl
abbrev s_changes_of : Stmt := topS 93
abbrev N_changes_of : List Str := ["deltas", "factors", "sums", "region", "point", "x", "y", "sum_x", "sum_y"]
abbrev ps_changes_of : List Str := ["deltas", "factors"]
theorem sc_changes_of : FnScope N_changes_of ps_changes_of (defScope s_changes_of) := ⟨rfl, rfl, rfl, by decide +kernel, rfl, by decide +kernel, by decide +kernel⟩
theorem bd_changes_of (kV doc pm : Value) (an : Option Addr) (cdv ct : Value) (us : List Value) (h : us.length = ps_changes_of.length) : bindArgs (PySem.W.fnOf "changes_of" "changes_of" (defArgs s_changes_of) (defBody s_changes_of) (defScope s_changes_of) .none kV doc pm an cdv ct) ⟨us, []⟩ = pure (ps_changes_of.zip us) := match us, h with | [_, _], _ => rfl
abbrev s_changed_outline : Stmt := topS 94
abbrev N_changed_outline : List Str := ["outline", "changes", "found", "number", "contour", "changed", "x", "y", "on", "more_x", "more_y"]
abbrev ps_changed_outline : List Str := ["outline", "changes"]
theorem sc_changed_outline : FnScope N_changed_outline ps_changed_outline (defScope s_changed_outline) := ⟨rfl, rfl, rfl, by decide +kernel, rfl, by decide +kernel, by decide +kernel⟩
theorem bd_changed_outline (kV doc pm : Value) (an : Option Addr) (cdv ct : Value) (us : List Value) (h : us.length = ps_changed_outline.length) : bindArgs (PySem.W.fnOf "changed_outline" "changed_outline" (defArgs s_changed_outline) (defBody s_changed_outline) (defScope s_changed_outline) .none kV doc pm an cdv ct) ⟨us, []⟩ = pure (ps_changed_outline.zip us) := match us, h with | [_, _], _ => rfl
abbrev s_is_near : Stmt := topS 95
abbrev N_is_near : List Str := ["outline", "contour", "x", "y", "_"]
abbrev ps_is_near : List Str := ["outline"]
theorem sc_is_near : FnScope N_is_near ps_is_near (defScope s_is_near) := ⟨rfl, rfl, rfl, by decide +kernel, rfl, by decide +kernel, by decide +kernel⟩
theorem bd_is_near (kV doc pm : Value) (an : Option Addr) (cdv ct : Value) (us : List Value) (h : us.length = ps_is_near.length) : bindArgs (PySem.W.fnOf "is_near" "is_near" (defArgs s_is_near) (defBody s_is_near) (defScope s_is_near) .none kV doc pm an cdv ct) ⟨us, []⟩ = pure (ps_is_near.zip us) := match us, h with | [_], _ => rfl
abbrev s_at_place : Stmt := topS 96
abbrev N_at_place : List Str := ["font", "place", "factors", "number"]
abbrev ps_at_place : List Str := ["font", "place"]
theorem sc_at_place : FnScope N_at_place ps_at_place (defScope s_at_place) := ⟨rfl, rfl, rfl, by decide +kernel, rfl, by decide +kernel, by decide +kernel⟩
theorem bd_at_place (kV doc pm : Value) (an : Option Addr) (cdv ct : Value) (us : List Value) (h : us.length = ps_at_place.length) : bindArgs (PySem.W.fnOf "at_place" "at_place" (defArgs s_at_place) (defBody s_at_place) (defScope s_at_place) .none kV doc pm an cdv ct) ⟨us, []⟩ = pure (ps_at_place.zip us) := match us, h with | [_, _], _ => rfl
abbrev s_law_gcd : Stmt := topS 102
abbrev N_law_gcd : List Str := ["a", "b", "k", "rest"]
abbrev ps_law_gcd : List Str := ["a", "b"]
theorem sc_law_gcd : FnScope N_law_gcd ps_law_gcd (defScope s_law_gcd) := ⟨rfl, rfl, rfl, by decide +kernel, rfl, by decide +kernel, by decide +kernel⟩
theorem bd_law_gcd (kV doc pm : Value) (an : Option Addr) (cdv ct : Value) (us : List Value) (h : us.length = ps_law_gcd.length) : bindArgs (PySem.W.fnOf "_law_gcd" "_law_gcd" (defArgs s_law_gcd) (defBody s_law_gcd) (defScope s_law_gcd) .none kV doc pm an cdv ct) ⟨us, []⟩ = pure (ps_law_gcd.zip us) := match us, h with | [_, _], _ => rfl
abbrev s_law_ratio : Stmt := topS 103
abbrev N_law_ratio : List Str := ["p", "q", "divisor"]
abbrev ps_law_ratio : List Str := ["p", "q"]
theorem sc_law_ratio : FnScope N_law_ratio ps_law_ratio (defScope s_law_ratio) := ⟨rfl, rfl, rfl, by decide +kernel, rfl, by decide +kernel, by decide +kernel⟩
theorem bd_law_ratio (kV doc pm : Value) (an : Option Addr) (cdv ct : Value) (us : List Value) (h : us.length = ps_law_ratio.length) : bindArgs (PySem.W.fnOf "_law_ratio" "_law_ratio" (defArgs s_law_ratio) (defBody s_law_ratio) (defScope s_law_ratio) .none kV doc pm an cdv ct) ⟨us, []⟩ = pure (ps_law_ratio.zip us) := match us, h with | [_, _], _ => rfl
abbrev s_law_axes : Stmt := topS 104
abbrev N_law_axes : List Str := ["deck", "least", "axes", "k", "low", "normal"]
abbrev ps_law_axes : List Str := ["deck", "least"]
theorem sc_law_axes : FnScope N_law_axes ps_law_axes (defScope s_law_axes) := ⟨rfl, rfl, rfl, by decide +kernel, rfl, by decide +kernel, by decide +kernel⟩
theorem bd_law_axes (kV doc pm : Value) (an : Option Addr) (cdv ct : Value) (us : List Value) (h : us.length = ps_law_axes.length) : bindArgs (PySem.W.fnOf "_law_axes" "_law_axes" (defArgs s_law_axes) (defBody s_law_axes) (defScope s_law_axes) .none kV doc pm an cdv ct) ⟨us, []⟩ = pure (ps_law_axes.zip us) := match us, h with | [_, _], _ => rfl
abbrev s_law_place : Stmt := topS 105
abbrev N_law_place : List Str := ["deck", "axes", "place", "axis", "kind", "number"]
abbrev ps_law_place : List Str := ["deck", "axes"]
theorem sc_law_place : FnScope N_law_place ps_law_place (defScope s_law_place) := ⟨rfl, rfl, rfl, by decide +kernel, rfl, by decide +kernel, by decide +kernel⟩
theorem bd_law_place (kV doc pm : Value) (an : Option Addr) (cdv ct : Value) (us : List Value) (h : us.length = ps_law_place.length) : bindArgs (PySem.W.fnOf "_law_place" "_law_place" (defArgs s_law_place) (defBody s_law_place) (defScope s_law_place) .none kV doc pm an cdv ct) ⟨us, []⟩ = pure (ps_law_place.zip us) := match us, h with | [_, _], _ => rfl
abbrev s_law_share : Stmt := topS 106
abbrev N_law_share : List Str := ["axis", "number"]
abbrev ps_law_share : List Str := ["axis", "number"]
theorem sc_law_share : FnScope N_law_share ps_law_share (defScope s_law_share) := ⟨rfl, rfl, rfl, by decide +kernel, rfl, by decide +kernel, by decide +kernel⟩
theorem bd_law_share (kV doc pm : Value) (an : Option Addr) (cdv ct : Value) (us : List Value) (h : us.length = ps_law_share.length) : bindArgs (PySem.W.fnOf "_law_share" "_law_share" (defArgs s_law_share) (defBody s_law_share) (defScope s_law_share) .none kV doc pm an cdv ct) ⟨us, []⟩ = pure (ps_law_share.zip us) := match us, h with | [_, _], _ => rfl
abbrev s_law_kind : Stmt := topS 107
abbrev N_law_kind : List Str := ["e"]
abbrev ps_law_kind : List Str := ["e"]
theorem sc_law_kind : FnScope N_law_kind ps_law_kind (defScope s_law_kind) := ⟨rfl, rfl, rfl, by decide +kernel, rfl, by decide +kernel, by decide +kernel⟩
theorem bd_law_kind (kV doc pm : Value) (an : Option Addr) (cdv ct : Value) (us : List Value) (h : us.length = ps_law_kind.length) : bindArgs (PySem.W.fnOf "_law_kind" "_law_kind" (defArgs s_law_kind) (defBody s_law_kind) (defScope s_law_kind) .none kV doc pm an cdv ct) ⟨us, []⟩ = pure (ps_law_kind.zip us) := match us, h with | [_], _ => rfl
abbrev s_law_asked : Stmt := topS 108
abbrev N_law_asked : List Str := ["font", "what", "place", "e"]
abbrev ps_law_asked : List Str := ["font", "what", "place"]
theorem sc_law_asked : FnScope N_law_asked ps_law_asked (defScope s_law_asked) := ⟨rfl, rfl, rfl, by decide +kernel, rfl, by decide +kernel, by decide +kernel⟩
theorem bd_law_asked (kV doc pm : Value) (an : Option Addr) (cdv ct : Value) (us : List Value) (h : us.length = ps_law_asked.length) : bindArgs (PySem.W.fnOf "_law_asked" "_law_asked" (defArgs s_law_asked) (defBody s_law_asked) (defScope s_law_asked) .none kV doc pm an cdv ct) ⟨us, []⟩ = pure (ps_law_asked.zip us) := match us, h with | [_, _, _], _ => rfl
abbrev s_ZeroDivisor : Stmt := inClass (topS 10) 0
abbrev s_InvalidPlace : Stmt := inClass (topS 11) 0
theorem sc_InvalidPlace : FnScope ["self"] ["self"] (defScope s_InvalidPlace) := ⟨rfl, rfl, rfl, by decide +kernel, rfl, by decide +kernel, by decide +kernel⟩
abbrev s_UnknownGlyph : Stmt := inClass (topS 8) 0
abbrev ps_UnknownGlyph : List Str := ["self", "number"]
theorem sc_UnknownGlyph : FnScope ["self", "number"] ps_UnknownGlyph (defScope s_UnknownGlyph) := ⟨rfl, rfl, rfl, by decide +kernel, rfl, by decide +kernel, by decide +kernel⟩
abbrev s_OutOfRange : Stmt := inClass (topS 9) 0
abbrev kw_Glyph (e_parts e_anchors e_deltas e_hint : Addr) : List (Str × V) := [("parts", .ref e_parts), ("anchors", .ref e_anchors), ("mark", .bl false), ("deltas", .ref e_deltas), ("hint", .ref e_hint)]
abbrev fl_Glyph : List Str := ["advance", "outline", "parts", "anchors", "mark", "deltas", "hint"]
abbrev kw_Rule (e_back e_ahead e_out e_calls : Addr) : List (Str × V) := [("back", .ref e_back), ("ahead", .ref e_ahead), ("out", .ref e_out), ("calls", .ref e_calls), ("extra", .int 0)]
abbrev fl_Rule : List Str := ["inside", "back", "ahead", "out", "calls", "extra"]
abbrev kw_Lookup  : List (Str × V) := [("ignore", .bl false)]
abbrev fl_Lookup : List Str := ["kind", "rules", "ignore"]
abbrev kw_Font (e_chars e_lookups e_features e_axes e_regions e_functions e_presets : Addr) : List (Str × V) := [("chars", .ref e_chars), ("lookups", .ref e_lookups), ("features", .ref e_features), ("axes", .ref e_axes), ("regions", .ref e_regions), ("functions", .ref e_functions), ("presets", .ref e_presets)]
abbrev fl_Font : List Str := ["unit", "glyphs", "chars", "lookups", "features", "axes", "regions", "functions", "presets"]
structure Txt (K : PySem.W.Frag) (mg : Str → Option Value) : Prop where
  z_abs : mg "abs" = none
  z_all : mg "all" = none
  z_bool : mg "bool" = none
  z_enumerate : mg "enumerate" = none
  z_int : mg "int" = none
  z_isinstance : mg "isinstance" = none
  z_len : mg "len" = none
  z_list : mg "list" = none
  z_range : mg "range" = none
  z_set : mg "set" = none
  z_str : mg "str" = none
  z_sum : mg "sum" = none
  z_tuple : mg "tuple" = none
  z_zip : mg "zip" = none
  g_ADVANCE : ∃ u, mg "ADVANCE" = some u ∧ RelV (.int (-1)) u
  g_DEEPEST : ∃ u, mg "DEEPEST" = some u ∧ RelV (.int (4)) u
  g_FARTHEST : ∃ u, mg "FARTHEST" = some u ∧ RelV (.int (16384)) u
  g_GREATEST_NUMBER : ∃ u, mg "GREATEST_NUMBER" = some u ∧ RelV (.int (2147483647)) u
  g_LEAST_NUMBER : ∃ u, mg "LEAST_NUMBER" = some u ∧ RelV (.int (-2147483648)) u
  g_LEAST_OF_CONTOUR : ∃ u, mg "LEAST_OF_CONTOUR" = some u ∧ RelV (.int (2)) u
  g_MOST_CONTOURS : ∃ u, mg "MOST_CONTOURS" = some u ∧ RelV (.int (40)) u
  g_MOST_POINTS : ∃ u, mg "MOST_POINTS" = some u ∧ RelV (.int (200)) u
  g_WHOLE : ∃ u, mg "WHOLE" = some u ∧ RelV (.int (64)) u
  g_gcd : mg "gcd" = some (.builtin "math.gcd")
  d_tuples_of : DefIn K mg "tuples_of" s_tuples_of
  d_depths_of : DefIn K mg "depths_of" s_depths_of
  d_has_parts_in : DefIn K mg "has_parts_in" s_has_parts_in
  d_is_proper : DefIn K mg "is_proper" s_is_proper
  d_count_points : DefIn K mg "count_points" s_count_points
  d_check_known : DefIn K mg "check_known" s_check_known
  d_is_rising : DefIn K mg "is_rising" s_is_rising
  d_is_instruction : DefIn K mg "is_instruction" s_is_instruction
  d_is_row_of_letters : DefIn K mg "is_row_of_letters" s_is_row_of_letters
  d_lookup_reason : DefIn K mg "lookup_reason" s_lookup_reason
  d_first_fault : DefIn K mg "first_fault" s_first_fault
  d_placed : DefIn K mg "placed" s_placed
  d_first_glyph_fault : DefIn K mg "first_glyph_fault" s_first_glyph_fault
  d_first_lookup_fault : DefIn K mg "first_lookup_fault" s_first_lookup_fault
  d_is_coordinate : DefIn K mg "is_coordinate" s_is_coordinate
  d_many_reason : DefIn K mg "many_reason" s_many_reason
  d_unit_reason : DefIn K mg "unit_reason" s_unit_reason
  d_glyph_reason : DefIn K mg "glyph_reason" s_glyph_reason
  d_is_part : DefIn K mg "is_part" s_is_part
  d_is_anchor : DefIn K mg "is_anchor" s_is_anchor
  d_is_delta : DefIn K mg "is_delta" s_is_delta
  d_parts_reason : DefIn K mg "parts_reason" s_parts_reason
  d_chars_reason : DefIn K mg "chars_reason" s_chars_reason
  d_features_reason : DefIn K mg "features_reason" s_features_reason
  d_axes_reason : DefIn K mg "axes_reason" s_axes_reason
  d_regions_reason : DefIn K mg "regions_reason" s_regions_reason
  d_is_tent : DefIn K mg "is_tent" s_is_tent
  d_functions_reason : DefIn K mg "functions_reason" s_functions_reason
  d_presets_reason : DefIn K mg "presets_reason" s_presets_reason
  d_copied_glyph : DefIn K mg "copied_glyph" s_copied_glyph
  d_copied_rule : DefIn K mg "copied_rule" s_copied_rule
  d_copied_lookup : DefIn K mg "copied_lookup" s_copied_lookup
  d_law_deck : DefIn K mg "_law_deck" s_law_deck
  d_law_draw : DefIn K mg "_law_draw" s_law_draw
  d_law_same : DefIn K mg "_law_same" s_law_same
  d_law_same_list : DefIn K mg "_law_same_list" s_law_same_list
  d_law : DefIn K mg "law" s_law
  d_ratio : DefInD K mg "ratio" s_ratio [.int 1]
  d_add : DefIn K mg "add" s_add
  d_subtract : DefIn K mg "subtract" s_subtract
  d_multiply : DefIn K mg "multiply" s_multiply
  d_divide : DefIn K mg "divide" s_divide
  d_compare : DefIn K mg "compare" s_compare
  d_nearest : DefIn K mg "nearest" s_nearest
  d_shares : DefIn K mg "shares" s_shares
  d_share_of : DefIn K mg "share_of" s_share_of
  d_factor : DefIn K mg "factor" s_factor
  d_factor_of_tent : DefIn K mg "factor_of_tent" s_factor_of_tent
  d_glyph_at : DefIn K mg "glyph_at" s_glyph_at
  d_factors_of : DefIn K mg "factors_of" s_factors_of
  d_changed_glyph : DefIn K mg "changed_glyph" s_changed_glyph
  d_changes_of : DefIn K mg "changes_of" s_changes_of
  d_changed_outline : DefIn K mg "changed_outline" s_changed_outline
  d_is_near : DefIn K mg "is_near" s_is_near
  d_at_place : DefIn K mg "at_place" s_at_place
  d_law_gcd : DefIn K mg "_law_gcd" s_law_gcd
  d_law_ratio : DefIn K mg "_law_ratio" s_law_ratio
  d_law_axes : DefIn K mg "_law_axes" s_law_axes
  d_law_place : DefIn K mg "_law_place" s_law_place
  d_law_share : DefIn K mg "_law_share" s_law_share
  d_law_kind : DefIn K mg "_law_kind" s_law_kind
  d_law_asked : DefIn K mg "_law_asked" s_law_asked
  x_FleuronError : mg "FleuronError" = some (.ref (adr mg "FleuronError"))
  b_FleuronError : BaseC K (adr mg "FleuronError")
  mk_ZeroDivisor : ClsN K mg "ZeroDivisor" "ZeroDivisor.__init__" s_ZeroDivisor
  m_ZeroDivisor : PySem.W.exmOne K (.ref (adr mg "ZeroDivisor")) (.ref (adr mg "FleuronError")) = some true
  mk_InvalidPlace : ClsN K mg "InvalidPlace" "InvalidPlace.__init__" s_InvalidPlace
  m_InvalidPlace : PySem.W.exmOne K (.ref (adr mg "InvalidPlace")) (.ref (adr mg "FleuronError")) = some true
  mk_UnknownGlyph : ClsN1 K mg "UnknownGlyph" "UnknownGlyph.__init__" s_UnknownGlyph "number"
  mk_OutOfRange : ClsN1 K mg "OutOfRange" "OutOfRange.__init__" s_OutOfRange "number"
  c_UnknownGlyph : ExcC K (adr mg "UnknownGlyph")
  m_UnknownGlyph : PySem.W.exmOne K (.ref (adr mg "UnknownGlyph")) (.ref (adr mg "FleuronError")) = some true
  kb_InvalidPlace_InvalidPlace : PySem.W.kitOne K (.ref (adr mg "InvalidPlace")) (.ref (adr mg "InvalidPlace")) = some true
  kb_InvalidPlace_UnknownGlyph : PySem.W.kitOne K (.ref (adr mg "InvalidPlace")) (.ref (adr mg "UnknownGlyph")) = some false
  kb_UnknownGlyph_InvalidPlace : PySem.W.kitOne K (.ref (adr mg "UnknownGlyph")) (.ref (adr mg "InvalidPlace")) = some false
  kb_UnknownGlyph_UnknownGlyph : PySem.W.kitOne K (.ref (adr mg "UnknownGlyph")) (.ref (adr mg "UnknownGlyph")) = some true
  c_Glyph : ∃ e_parts e_anchors e_deltas e_hint : Addr, EmT K e_parts ∧ EmT K e_anchors ∧ EmT K e_deltas ∧ EmT K e_hint ∧ ClsI K mg "Glyph" "Glyph.__init__" s_Glyph fl_Glyph (kw_Glyph e_parts e_anchors e_deltas e_hint)
  c_Rule : ∃ e_back e_ahead e_out e_calls : Addr, EmT K e_back ∧ EmT K e_ahead ∧ EmT K e_out ∧ EmT K e_calls ∧ ClsI K mg "Rule" "Rule.__init__" s_Rule fl_Rule (kw_Rule e_back e_ahead e_out e_calls)
  c_Lookup : ClsI K mg "Lookup" "Lookup.__init__" s_Lookup fl_Lookup kw_Lookup
  c_Font : ∃ e_chars e_lookups e_features e_axes e_regions e_functions e_presets : Addr, EmT K e_chars ∧ EmT K e_lookups ∧ EmT K e_features ∧ EmT K e_axes ∧ EmT K e_regions ∧ EmT K e_functions ∧ EmT K e_presets ∧ ClsI K mg "Font" "Font.__init__" s_Font fl_Font (kw_Font e_chars e_lookups e_features e_axes e_regions e_functions e_presets)
  gt_WITH_CONTEXT : mg "WITH_CONTEXT" = some (.ref (adr mg "WITH_CONTEXT"))
  gs_WITH_CONTEXT : ∀ H : Hp, SqT K H (adr mg "WITH_CONTEXT") [.str "chain", .str "reverse"]
  gt_WITH_OUT : mg "WITH_OUT" = some (.ref (adr mg "WITH_OUT"))
  gs_WITH_OUT : ∀ H : Hp, SqT K H (adr mg "WITH_OUT") [.str "single", .str "multiple", .str "ligature", .str "reverse"]
  gt_ANCHOR_KINDS : mg "ANCHOR_KINDS" = some (.ref (adr mg "ANCHOR_KINDS"))
  gs_ANCHOR_KINDS : ∀ H : Hp, SqT K H (adr mg "ANCHOR_KINDS") [.str "base", .str "mark", .str "entry", .str "exit"]
abbrev cs (mg : Str → Option Value) : Cs := ⟨adr mg "Glyph", adr mg "Rule", adr mg "Lookup", adr mg "Font"⟩
section
variable {P : Program} {w : World} {K : PySem.W.Frag} {mg : Str → Option Value} {base : Heap}
theorem ok_tuples_of (T : Txt K mg) : Has P w K mg base 1 "tuples_of" ps_tuples_of (spE K fTof) := by
  refine has_of T.d_tuples_of sc_tuples_of bd_tuples_of (fun vs H Q E h => ?_) (fun f cdv A outer s H vs Q E hr h => ?_)
  · obtain ⟨S, ds, d, hS, hd, ⟨r, L, rfl, _⟩, q⟩ := h
    obtain ⟨v, _, rfl, _, hd⟩ := hd.consE
    cases hd.nilE
    rfl
  · obtain ⟨S, ds, d, hS, hd, ⟨r, L, rfl, ⟨xs, hx, hm, hz⟩, rfl⟩, q⟩ := h
    obtain ⟨v, _, rfl, hv, hd⟩ := hd.consE
    cases hd.nilE
    have hl := sq2_len hm
    refine ⟨_, (pss_one (ps_ret (pe_lc (own := [("row", 1)]) rfl sc_tuples_of.nd (piS (K := K) rfl (pv 0)) (blkOk_by (by kernel_rfl)) (fun _ _ _ _ _ => (pg_name (i := 1) sc_tuples_of.nd rfl (.inl rfl))) (fun _ _ _ _ _ => pts_nil) (fun _ _ _ _ _ => (pe_callTy (clTupOf (K := K) rfl) (by rfl) T.z_tuple (by decide +kernel) (pa_cons (pv 1) pa_nil)))))), ?_⟩
    walk_at "fl.w"
    refine lcS (S := S) (fun i => (L[i]?).map .tuple) hS hv hx (by omega) (fun R h => ⟨_, rfl, h⟩) ?_ ?_
    · intro D i x e H2 hD he sm al hxe R N hR hN
      obtain ⟨l, hl1, hl2⟩ := sq2_at hm he
      refine g_name ⟨rfl, ?_⟩
      walk_at "fl.w"
      cases hxe with
      | lst n q r =>
        cases hl2
        refine ⟨_, _, rfl, .inl ⟨SqL.of q, fun p hp => ?_⟩⟩
        exact hR _ _ _ (by rw [hl1]; rfl) (Fl.Same.new hp) (Dq.newT al hp r)
      | tup n q r =>
        cases hl2
        refine ⟨_, _, rfl, .inr ⟨SqT.of q, ?_⟩⟩
        exact hR _ _ _ (by rw [hl1]; rfl) (L2.Same.refl _) (.tup n q r)
      | _ => cases hl2
    · intro D H2 sm hD hq
      rw [fm_ltA hl] at hq
      exact q _ _ sm hq
theorem ok_Glyph (T : Txt K mg) {e1 e2 e3 e4 : Addr} (c : ClsI K mg "Glyph" "Glyph.__init__" s_Glyph fl_Glyph (kw_Glyph e1 e2 e3 e4)) : InI P w K mg base 2 "Glyph" "Glyph.__init__" s_Glyph fl_Glyph (kw_Glyph e1 e2 e3 e4) ps_Glyph (spI K (adr mg "Glyph") fGl) := by
  have cl := c.cl
  have na := c.na
  have h_tuples_of := ok_tuples_of (P := P) (w := w) (base := base) T
  refine inI_of c sc_Glyph (fun vs H Q E h => ?_) (fun f cdv A outer s H vs Q E hr h => ?_)
  · obtain ⟨S, x, dx, ws, ds, fs, rfl, _, _, _, hd, ⟨o, p, n, d, hi, g, rfl, _⟩, q⟩ := h
    obtain ⟨v1, _, rfl, _, hd⟩ := hd.consE
    obtain ⟨v2, _, rfl, _, hd⟩ := hd.consE
    obtain ⟨v3, _, rfl, _, hd⟩ := hd.consE
    obtain ⟨v4, _, rfl, _, hd⟩ := hd.consE
    obtain ⟨v5, _, rfl, _, hd⟩ := hd.consE
    obtain ⟨v6, _, rfl, _, hd⟩ := hd.consE
    obtain ⟨v7, _, rfl, _, hd⟩ := hd.consE
    cases hd.nilE
    rfl
  · obtain ⟨S, x, dx, ws, ds, fs, rfl, hxS, hS, hx, hd, ⟨o, p, n, d, hi, g, rfl, gok, so, sp, sn, sd, sh, rfl⟩, q⟩ := h
    obtain ⟨v1, _, rfl, h1, hd⟩ := hd.consE
    obtain ⟨v2, _, rfl, h2, hd⟩ := hd.consE
    obtain ⟨v3, _, rfl, h3, hd⟩ := hd.consE
    obtain ⟨v4, _, rfl, h4, hd⟩ := hd.consE
    obtain ⟨v5, _, rfl, h5, hd⟩ := hd.consE
    obtain ⟨v6, _, rfl, h6, hd⟩ := hd.consE
    obtain ⟨v7, _, rfl, h7, hd⟩ := hd.consE
    cases hd.nilE
    have I0 := InitAt.start hx hS hxS
    refine ⟨_, (pss_cons (psFld (K := K) rfl (pv 0) (pv 1) rfl)
      (pss_cons (psFld (K := K) rfl (pv 0) (pe_lc (own := [("contour", 8)]) rfl sc_Glyph.nd (piS (K := K) rfl (pv 2)) (blkOk_by (by kernel_rfl)) (fun _ _ _ _ _ => (pg_name (i := 8) sc_Glyph.nd rfl (.inl rfl))) (fun _ _ _ _ _ => pts_nil) (fun _ _ _ _ _ => (pe_h h_tuples_of (hr.mono (by decide)) (pa_cons (pv 8) pa_nil)))) rfl)
      (pss_cons (psFld (K := K) rfl (pv 0) (pe_h h_tuples_of (hr.mono (by decide)) (pa_cons (pv 3) pa_nil)) rfl)
      (pss_cons (psFld (K := K) rfl (pv 0) (pe_h h_tuples_of (hr.mono (by decide)) (pa_cons (pv 4) pa_nil)) rfl)
      (pss_cons (psFld (K := K) rfl (pv 0) (pv 5) rfl)
      (pss_cons (psFld (K := K) rfl (pv 0) (pe_h h_tuples_of (hr.mono (by decide)) (pa_cons (pv 6) pa_nil)) rfl)
      (pss_one (psFld (K := K) rfl (pv 0) (pe_h h_tuples_of (hr.mono (by decide)) (pa_cons (pv 7) pa_nil)) rfl)))))))), ?_⟩
    walk_at "fl.w"
    have I1 := I0.put (I0.dqO (h1.dq gok.a)) "advance" rfl
    walk_at "fl.w"
    obtain ⟨xs, e1, e2, e3, e4⟩ := so
    refine lcS (S := S) (fun i => (g.outl[i]?).map ltD) I1.al (I1.deO h2) e1 (by omega) (fun R h => ⟨_, rfl, h⟩) ?_ ?_
    · intro D i x2 e H2 hD he sm al hxe R N hR hN
      obtain ⟨l, hl⟩ : ∃ l, g.outl[i]? = some l := by
        have := (List.getElem?_eq_some_iff.mp he).1
        exact ⟨g.outl[i]'(by omega), List.getElem?_eq_getElem _⟩
      refine g_name ⟨rfl, ?_⟩
      walk_at "fl.w"
      refine spE_app (D :: S) [e] (ltD l) al (.cons (.inl hxe) .nil) ⟨e, l, rfl, e3 i e l he hl, rfl⟩ (fun v H3 sm3 hv => ?_)
      exact hR _ _ _ (by rw [hl]; rfl) sm3 hv
    · intro D H2 sm2 hD hq2
      rw [fm_ltA e2] at hq2
      have I1s := I1.same sm2
      walk_at "fl.w"
      have I2 := I1s.put hq2 "outline" rfl
      walk_at "fl.w"
      refine spE_app S [p] (ltD g.parts) I2.al (.cons (I2.deO h3) .nil) ⟨p, _, rfl, sp, rfl⟩ (fun v H3 sm3 hv3 => ?_)
      have I2s := I2.same sm3
      walk_at "fl.w"
      have I3 := I2s.put hv3 "parts" rfl
      walk_at "fl.w"
      refine spE_app S [n] (ltD g.anch) I3.al (.cons (I3.deO h4) .nil) ⟨n, _, rfl, sn, rfl⟩ (fun v H4 sm4 hv4 => ?_)
      have I3s := I3.same sm4
      walk_at "fl.w"
      have I4 := I3s.put hv4 "anchors" rfl
      walk_at "fl.w"
      have I5 := I4.put (I4.dqO (h5.dq gok.m)) "mark" rfl
      walk_at "fl.w"
      refine spE_app S [d] (ltD g.deltas) I5.al (.cons (I5.deO h6) .nil) ⟨d, _, rfl, sd, rfl⟩ (fun v H6 sm6 hv6 => ?_)
      have I5s := I5.same sm6
      walk_at "fl.w"
      have I6 := I5s.put hv6 "deltas" rfl
      walk_at "fl.w"
      refine spE_app S [hi] (ltD g.hint) I6.al (.cons (I6.deO h7) .nil) ⟨hi, _, rfl, sh, rfl⟩ (fun v H7 sm7 hv7 => ?_)
      have I6s := I6.same sm7
      walk_at "fl.w"
      have I7 := I6s.put hv7 "hint" rfl
      walk_at "fl.w"
      exact q _ _ I7.fr I7.hx I7.dq
theorem ok_Rule (T : Txt K mg) {e1 e2 e3 e4 : Addr} (c : ClsI K mg "Rule" "Rule.__init__" s_Rule fl_Rule (kw_Rule e1 e2 e3 e4)) : InI P w K mg base 2 "Rule" "Rule.__init__" s_Rule fl_Rule (kw_Rule e1 e2 e3 e4) ps_Rule (spI K (adr mg "Rule") fRu) := by
  have cl := c.cl
  have na := c.na
  have h_tuples_of := ok_tuples_of (P := P) (w := w) (base := base) T
  refine inI_of c sc_Rule (fun vs H Q E h => ?_) (fun f cdv A outer s H vs Q E hr h => ?_)
  · obtain ⟨S, x, dx, ws, ds, fs, rfl, _, _, _, hd, ⟨i, b, a, o, ca, r, rfl, _⟩, q⟩ := h
    obtain ⟨v1, _, rfl, _, hd⟩ := hd.consE
    obtain ⟨v2, _, rfl, _, hd⟩ := hd.consE
    obtain ⟨v3, _, rfl, _, hd⟩ := hd.consE
    obtain ⟨v4, _, rfl, _, hd⟩ := hd.consE
    obtain ⟨v5, _, rfl, _, hd⟩ := hd.consE
    obtain ⟨v6, _, rfl, _, hd⟩ := hd.consE
    cases hd.nilE
    rfl
  · obtain ⟨S, x, dx, ws, ds, fs, rfl, hxS, hS, hx, hd, ⟨i, b, a, o, ca, r, rfl, rok, si, sb, sa, so, sc, rfl⟩, q⟩ := h
    obtain ⟨v1, _, rfl, h1, hd⟩ := hd.consE
    obtain ⟨v2, _, rfl, h2, hd⟩ := hd.consE
    obtain ⟨v3, _, rfl, h3, hd⟩ := hd.consE
    obtain ⟨v4, _, rfl, h4, hd⟩ := hd.consE
    obtain ⟨v5, _, rfl, h5, hd⟩ := hd.consE
    obtain ⟨v6, _, rfl, h6, hd⟩ := hd.consE
    cases hd.nilE
    have I0 := InitAt.start hx hS hxS
    refine ⟨_, (pss_cons (psFld (K := K) rfl (pv 0) (pe_lc (own := [("chosen", 7)]) rfl sc_Rule.nd (piS (K := K) rfl (pv 1)) (blkOk_by (by kernel_rfl)) (fun _ _ _ _ _ => (pg_name (i := 7) sc_Rule.nd rfl (.inl rfl))) (fun _ _ _ _ _ => pts_nil) (fun _ _ _ _ _ => (pe_callTy (clLstOf (K := K) rfl) (by rfl) T.z_list (by decide +kernel) (pa_cons (pv 7) pa_nil)))) rfl)
      (pss_cons (psFld (K := K) rfl (pv 0) (pe_lc (own := [("chosen", 7)]) rfl sc_Rule.nd (piS (K := K) rfl (pv 2)) (blkOk_by (by kernel_rfl)) (fun _ _ _ _ _ => (pg_name (i := 7) sc_Rule.nd rfl (.inl rfl))) (fun _ _ _ _ _ => pts_nil) (fun _ _ _ _ _ => (pe_callTy (clLstOf (K := K) rfl) (by rfl) T.z_list (by decide +kernel) (pa_cons (pv 7) pa_nil)))) rfl)
      (pss_cons (psFld (K := K) rfl (pv 0) (pe_lc (own := [("chosen", 7)]) rfl sc_Rule.nd (piS (K := K) rfl (pv 3)) (blkOk_by (by kernel_rfl)) (fun _ _ _ _ _ => (pg_name (i := 7) sc_Rule.nd rfl (.inl rfl))) (fun _ _ _ _ _ => pts_nil) (fun _ _ _ _ _ => (pe_callTy (clLstOf (K := K) rfl) (by rfl) T.z_list (by decide +kernel) (pa_cons (pv 7) pa_nil)))) rfl)
      (pss_cons (psFld (K := K) rfl (pv 0) (pe_callTy (clLstOf (K := K) rfl) (by rfl) T.z_list (by decide +kernel) (pa_cons (pv 4) pa_nil)) rfl)
      (pss_cons (psFld (K := K) rfl (pv 0) (pe_h h_tuples_of (hr.mono (by decide)) (pa_cons (pv 5) pa_nil)) rfl)
      (pss_one (psFld (K := K) rfl (pv 0) (pv 6) rfl))))))), ?_⟩
    walk_at "fl.w"
    obtain ⟨xs, e1, em, ez⟩ := si
    have el := sq2_len em
    refine lcS (S := S) (fun i => (r.inside[i]?).map .list) I0.al (I0.deO h1) e1 (by omega) (fun R h => ⟨_, rfl, h⟩) ?_ ?_
    · intro D i x2 e H2 hD he sm al hxe R N hR hN
      obtain ⟨l, hl1, hl2⟩ := sq2_at em he
      refine g_name ⟨rfl, ?_⟩
      walk_at "fl.w"
      exact lstOf_app al hxe hl2 fun l2 H3 sm3 hv => hR _ _ _ (by rw [hl1]; rfl) sm3 hv
    · intro D H2 sm2 hD hq2
      rw [fm_ltA el] at hq2
      have I1s := I0.same sm2
      walk_at "fl.w"
      have I1 := I1s.put hq2 "inside" rfl
      walk_at "fl.w"
      obtain ⟨xs, e1, em, ez⟩ := sb
      have el := sq2_len em
      refine lcS (S := S) (fun i => (r.back[i]?).map .list) I1.al (I1.deO h2) e1 (by omega) (fun R h => ⟨_, rfl, h⟩) ?_ ?_
      · intro D i x2 e H2 hD he sm al hxe R N hR hN
        obtain ⟨l, hl1, hl2⟩ := sq2_at em he
        refine g_name ⟨rfl, ?_⟩
        walk_at "fl.w"
        exact lstOf_app al hxe hl2 fun l2 H3 sm3 hv => hR _ _ _ (by rw [hl1]; rfl) sm3 hv
      · intro D H2 sm2 hD hq2
        rw [fm_ltA el] at hq2
        have I2s := I1.same sm2
        walk_at "fl.w"
        have I2 := I2s.put hq2 "back" rfl
        walk_at "fl.w"
        obtain ⟨xs, e1, em, ez⟩ := sa
        have el := sq2_len em
        refine lcS (S := S) (fun i => (r.ahead[i]?).map .list) I2.al (I2.deO h3) e1 (by omega) (fun R h => ⟨_, rfl, h⟩) ?_ ?_
        · intro D i x2 e H2 hD he sm al hxe R N hR hN
          obtain ⟨l, hl1, hl2⟩ := sq2_at em he
          refine g_name ⟨rfl, ?_⟩
          walk_at "fl.w"
          exact lstOf_app al hxe hl2 fun l2 H3 sm3 hv => hR _ _ _ (by rw [hl1]; rfl) sm3 hv
        · intro D H2 sm2 hD hq2
          rw [fm_ltA el] at hq2
          have I3s := I2.same sm2
          walk_at "fl.w"
          have I3 := I3s.put hq2 "ahead" rfl
          walk_at "fl.w"
          refine lstOf_de I3.al (I3.deO h4) so.1 fun v4 H4 sm4 hv4 => ?_
          have I4s := I3.same sm4
          walk_at "fl.w"
          have I4 := I4s.put hv4 "out" rfl
          walk_at "fl.w"
          refine spE_app S [ca] (ltD r.calls) I4.al (.cons (I4.deO h5) .nil) ⟨ca, _, rfl, sc, rfl⟩ (fun v H5 sm5 hv5 => ?_)
          have I5s := I4.same sm5
          walk_at "fl.w"
          have I5 := I5s.put hv5 "calls" rfl
          walk_at "fl.w"
          have I6 := I5.put (I5.dqO (h6.dq rok.e)) "extra" rfl
          walk_at "fl.w"
          exact q _ _ I6.fr I6.hx I6.dq
/-- Rule(inside, back=, ahead=, out=, calls=, extra=) -/
theorem mk_Rule_all {e1 e2 e3 e4 : Addr} {sp : Sp} (h : InI P w K mg base 2 "Rule" "Rule.__init__" s_Rule fl_Rule (kw_Rule e1 e2 e3 e4) ps_Rule sp) :
    MkI P w K mg base 2 "Rule" 1 ["back", "ahead", "out", "calls", "extra"] (fun vs zs => pick [0, 1, 2, 3, 4, 5, 6] (vs ++ ([] ++ zs))) sp :=
  h.make 1 ["back", "ahead", "out", "calls", "extra"] [] [0, 1, 2, 3, 4, 5, 6] (by simp) (fun q m => nomatch m) fun D doc pm an cdv ct us mv ws h1 h2 h3 => match us, h1, mv, h2, ws, h3 with | [_, _], _, [], _, [_, _, _, _, _], _ => rfl
/-- Glyph(advance, outline, parts=, anchors=, mark=, deltas=, hint=) -/
theorem mk_Glyph_all {e1 e2 e3 e4 : Addr} {sp : Sp} (h : InI P w K mg base 2 "Glyph" "Glyph.__init__" s_Glyph fl_Glyph (kw_Glyph e1 e2 e3 e4) ps_Glyph sp) :
    MkI P w K mg base 2 "Glyph" 2 ["parts", "anchors", "mark", "deltas", "hint"] (fun vs zs => pick [0, 1, 2, 3, 4, 5, 6, 7] (vs ++ ([] ++ zs))) sp :=
  h.make 2 ["parts", "anchors", "mark", "deltas", "hint"] [] [0, 1, 2, 3, 4, 5, 6, 7] (by simp) (fun q m => nomatch m) fun D doc pm an cdv ct us mv ws h1 h2 h3 => match us, h1, mv, h2, ws, h3 with | [_, _, _], _, [], _, [_, _, _, _, _], _ => rfl
theorem ok_copied_rule (T : Txt K mg) : Has P w K mg base 4 "copied_rule" ps_copied_rule (spD (fCr (adr mg "Rule"))) := by
  obtain ⟨e1, e2, e3, e4, m1, m2, m3, m4, c⟩ := T.c_Rule
  have cl := c.cl
  have na := c.na
  have mk_Rule_1_back_ahead_out_calls_extra := mk_Rule_all (ok_Rule (P := P) (w := w) (base := base) T c)
  refine has_of T.d_copied_rule sc_copied_rule bd_copied_rule (fun vs H Q E h => ?_) (fun f cdv A outer s H vs Q E hr h => ?_)
  · obtain ⟨S, ds, d, hS, hd, ⟨r, rok, rfl, rfl⟩, q⟩ := h
    obtain ⟨v, _, rfl, hv, hd⟩ := hd.consE
    cases hd.nilE
    rfl
  · obtain ⟨S, ds, d, hS, hd, ⟨r, rok, rfl, rfl⟩, q⟩ := h
    obtain ⟨v, _, rfl, hv, hd⟩ := hd.consE
    cases hd.nilE
    obtain ⟨a, dx, fs, rfl, ha, hA, hN⟩ := hv.insE
    obtain ⟨v1, fs, rfl, h1, hN⟩ := hN.consE
    obtain ⟨v2, fs, rfl, h2, hN⟩ := hN.consE
    obtain ⟨v3, fs, rfl, h3, hN⟩ := hN.consE
    obtain ⟨v4, fs, rfl, h4, hN⟩ := hN.consE
    obtain ⟨v5, fs, rfl, h5, hN⟩ := hN.consE
    obtain ⟨v6, fs, rfl, h6, hN⟩ := hN.consE
    cases hN.nilE
    refine ⟨_, (pss_one (ps_ret (pe_mk (mg := mg) rfl mk_Rule_1_back_ahead_out_calls_extra (hr.mono (by decide)) (pa_cons (peFld (K := K) rfl (pv 0) rfl) pa_nil) (pk_cons (peFld (K := K) rfl (pv 0) rfl) (pk_cons (peFld (K := K) rfl (pv 0) rfl) (pk_cons (peFld (K := K) rfl (pv 0) rfl) (pk_cons (peFld (K := K) rfl (pv 0) rfl) (pk_cons (peFld (K := K) rfl (pv 0) rfl) pk_nil)))))))), ?_⟩
    walk_at "fl.w"
    refine g_mk rfl rfl (mk_app (f := fRu) (ws := [v1, v2, v3, v4, v5, v6]) S [llD r.inside, llD r.back, llD r.ahead, .list r.out, ltD r.calls, r.extra] r.F (fun x => rfl) hS (.cons (.inl h1) (.cons (.inl h2) (.cons (.inl h3) (.cons (.inl h4) (.cons (.inl h5) (.cons (.inl h6) .nil))))))
      ⟨_, _, _, _, _, r, rfl, rok, .ll rok.i, .ll rok.b, .ll rok.a, .ls rok.o, .lt rok.c, rfl⟩ fun x H2 sm hv2 => q _ _ sm hv2)
theorem ok_copied_glyph (T : Txt K mg) : Has P w K mg base 4 "copied_glyph" ps_copied_glyph (spD (fCg (adr mg "Glyph"))) := by
  obtain ⟨e1, e2, e3, e4, m1, m2, m3, m4, c⟩ := T.c_Glyph
  have cl := c.cl
  have na := c.na
  have mk_Glyph_2_parts_anchors_mark_deltas_hint := mk_Glyph_all (ok_Glyph (P := P) (w := w) (base := base) T c)
  refine has_of T.d_copied_glyph sc_copied_glyph bd_copied_glyph (fun vs H Q E h => ?_) (fun f cdv A outer s H vs Q E hr h => ?_)
  · obtain ⟨S, ds, d, hS, hd, ⟨r, rok, rfl, rfl⟩, q⟩ := h
    obtain ⟨v, _, rfl, hv, hd⟩ := hd.consE
    cases hd.nilE
    rfl
  · obtain ⟨S, ds, d, hS, hd, ⟨r, rok, rfl, rfl⟩, q⟩ := h
    obtain ⟨v, _, rfl, hv, hd⟩ := hd.consE
    cases hd.nilE
    obtain ⟨a, dx, fs, rfl, ha, hA, hN⟩ := hv.insE
    obtain ⟨v1, fs, rfl, h1, hN⟩ := hN.consE
    obtain ⟨v2, fs, rfl, h2, hN⟩ := hN.consE
    obtain ⟨v3, fs, rfl, h3, hN⟩ := hN.consE
    obtain ⟨v4, fs, rfl, h4, hN⟩ := hN.consE
    obtain ⟨v5, fs, rfl, h5, hN⟩ := hN.consE
    obtain ⟨v6, fs, rfl, h6, hN⟩ := hN.consE
    obtain ⟨v7, fs, rfl, h7, hN⟩ := hN.consE
    cases hN.nilE
    refine ⟨_, (pss_one (ps_ret (pe_mk (mg := mg) rfl mk_Glyph_2_parts_anchors_mark_deltas_hint (hr.mono (by decide)) (pa_cons (peFld (K := K) rfl (pv 0) rfl) (pa_cons (peFld (K := K) rfl (pv 0) rfl) pa_nil)) (pk_cons (peFld (K := K) rfl (pv 0) rfl) (pk_cons (peFld (K := K) rfl (pv 0) rfl) (pk_cons (peFld (K := K) rfl (pv 0) rfl) (pk_cons (peFld (K := K) rfl (pv 0) rfl) (pk_cons (peFld (K := K) rfl (pv 0) rfl) pk_nil)))))))), ?_⟩
    walk_at "fl.w"
    refine g_mk rfl rfl (mk_app (f := fGl) (ws := [v1, v2, v3, v4, v5, v6, v7]) S [r.adv, ouD3 r.outl, ltD r.parts, ltD r.anch, r.mark, ltD r.deltas, ltD r.hint] r.F (fun x => rfl) hS (.cons (.inl h1) (.cons (.inl h2) (.cons (.inl h3) (.cons (.inl h4) (.cons (.inl h5) (.cons (.inl h6) (.cons (.inl h7) .nil)))))))
      ⟨_, _, _, _, _, r, rfl, rok, .ou rok.o rok.c, .lt rok.p, .lt rok.n, .lt rok.d, .lt rok.h, rfl⟩ fun x H2 sm hv2 => q _ _ sm hv2)
theorem ok_Lookup (T : Txt K mg) (c : ClsI K mg "Lookup" "Lookup.__init__" s_Lookup fl_Lookup kw_Lookup) : InI P w K mg base 5 "Lookup" "Lookup.__init__" s_Lookup fl_Lookup kw_Lookup ps_Lookup (spI K (adr mg "Lookup") (fLk (adr mg "Rule"))) := by
  have cl := c.cl
  have na := c.na
  have h_copied_rule := ok_copied_rule (P := P) (w := w) (base := base) T
  refine inI_of c sc_Lookup (fun vs H Q E h => ?_) (fun f cdv A outer s H vs Q E hr h => ?_)
  · obtain ⟨S, x, dx, ws, ds, fs, rfl, _, _, _, hd, ⟨k, rs, rfl, _⟩, q⟩ := h
    obtain ⟨v1, _, rfl, _, hd⟩ := hd.consE
    obtain ⟨v2, _, rfl, _, hd⟩ := hd.consE
    obtain ⟨v3, _, rfl, _, hd⟩ := hd.consE
    cases hd.nilE
    rfl
  · obtain ⟨S, x, dx, ws, ds, fs, rfl, hxS, hS, hx, hd, ⟨k, rs, rfl, kok, e1, rfl⟩, q⟩ := h
    obtain ⟨v1, _, rfl, h1, hd⟩ := hd.consE
    obtain ⟨v2, _, rfl, h2, hd⟩ := hd.consE
    obtain ⟨v3, _, rfl, h3, hd⟩ := hd.consE
    cases hd.nilE
    have I0 := InitAt.start hx hS hxS
    refine ⟨_, (pss_cons (psFld (K := K) rfl (pv 0) (pv 1) rfl)
      (pss_cons (psFld (K := K) rfl (pv 0) (pe_lc (own := [("rule", 4)]) rfl sc_Lookup.nd (piS (K := K) rfl (pv 2)) (blkOk_by (by kernel_rfl)) (fun _ _ _ _ _ => (pg_name (i := 4) sc_Lookup.nd rfl (.inl rfl))) (fun _ _ _ _ _ => pts_nil) (fun _ _ _ _ _ => (pe_h h_copied_rule (hr.mono (by decide)) (pa_cons (pv 4) pa_nil)))) rfl)
      (pss_one (psFld (K := K) rfl (pv 0) (pv 3) rfl)))), ?_⟩
    walk_at "fl.w"
    have I1 := I0.put (I0.dqO (h1.dq kok.k)) "kind" rfl
    walk_at "fl.w"
    refine lcS (S := S) (fun i => (k.rules[i]?).map fun r => insD (adr mg "Rule") r.F) I1.al (I1.deO h2) e1 (by rw [List.length_map]; exact kok.r) (fun R h => ⟨_, rfl, h⟩) ?_ ?_
    · intro D i x2 e H2 hD he sm al hxe R N hR hN
      obtain ⟨r, hr1, rfl⟩ := at_map he
      refine g_name ⟨rfl, ?_⟩
      walk_at "fl.w"
      refine spD_app (D :: S) [_] _ al (.cons hxe .nil) ⟨r, kok.ro r (List.mem_of_getElem? hr1), rfl, rfl⟩ (fun v H3 sm3 hv => ?_)
      exact hR _ _ _ (by rw [hr1]; rfl) sm3 hv
    · intro D H2 sm2 hD hq2
      rw [fm_ltA (by rw [List.length_map])] at hq2
      have I1s := I1.same sm2
      walk_at "fl.w"
      have I2 := I1s.put hq2 "rules" rfl
      walk_at "fl.w"
      have I3 := I2.put (I2.dqO (h3.dq kok.g)) "ignore" rfl
      walk_at "fl.w"
      exact q _ _ I3.fr I3.hx I3.dq
/-- Lookup(kind, rules, ignore=) -/
theorem mk_Lookup_all {sp : Sp} (h : InI P w K mg base 5 "Lookup" "Lookup.__init__" s_Lookup fl_Lookup kw_Lookup ps_Lookup sp) :
    MkI P w K mg base 5 "Lookup" 2 ["ignore"] (fun vs zs => pick [0, 1, 2, 3] (vs ++ ([] ++ zs))) sp :=
  h.make 2 ["ignore"] [] [0, 1, 2, 3] (by simp) (fun q m => nomatch m) fun D doc pm an cdv ct us mv ws h1 h2 h3 => match us, h1, mv, h2, ws, h3 with | [_, _, _], _, [], _, [_], _ => rfl
theorem ok_copied_lookup (T : Txt K mg) : Has P w K mg base 7 "copied_lookup" ps_copied_lookup (spD (fCl (adr mg "Rule") (adr mg "Lookup"))) := by
  have c := T.c_Lookup
  have cl := c.cl
  have na := c.na
  have mk_Lookup_2_ignore := mk_Lookup_all (ok_Lookup (P := P) (w := w) (base := base) T c)
  refine has_of T.d_copied_lookup sc_copied_lookup bd_copied_lookup (fun vs H Q E h => ?_) (fun f cdv A outer s H vs Q E hr h => ?_)
  · obtain ⟨S, ds, d, hS, hd, ⟨r, rok, rfl, rfl⟩, q⟩ := h
    obtain ⟨v, _, rfl, hv, hd⟩ := hd.consE
    cases hd.nilE
    rfl
  · obtain ⟨S, ds, d, hS, hd, ⟨k, kok, rfl, rfl⟩, q⟩ := h
    obtain ⟨v, _, rfl, hv, hd⟩ := hd.consE
    cases hd.nilE
    obtain ⟨a, dx, fs, rfl, ha, hA, hN⟩ := hv.insE
    obtain ⟨v1, fs, rfl, h1, hN⟩ := hN.consE
    obtain ⟨v2, fs, rfl, h2, hN⟩ := hN.consE
    obtain ⟨v3, fs, rfl, h3, hN⟩ := hN.consE
    cases hN.nilE
    refine ⟨_, (pss_one (ps_ret (pe_mk (mg := mg) rfl mk_Lookup_2_ignore (hr.mono (by decide)) (pa_cons (peFld (K := K) rfl (pv 0) rfl) (pa_cons (peFld (K := K) rfl (pv 0) rfl) pa_nil)) (pk_cons (peFld (K := K) rfl (pv 0) rfl) pk_nil)))), ?_⟩
    walk_at "fl.w"
    refine g_mk rfl rfl (mk_app (f := fLk (adr mg "Rule")) (ws := [v1, v2, v3]) S [k.kind, .list (k.rules.map fun r => insD (adr mg "Rule") r.F), k.ign] (k.F (adr mg "Rule")) (fun x => rfl) hS (.cons (.inl h1) (.cons (.inl h2) (.cons (.inl h3) .nil)))
      ⟨k, _, rfl, kok, rfl, rfl⟩ fun x H2 sm hv2 => q _ _ sm hv2)
end
section
variable {P : Program} {w : World} {K : PySem.W.Frag} {mg : Str → Option Value} {base : Heap}
theorem ok_Font (T : Txt K mg) (V : FoR → Prop) (h_first_fault : Has P w K mg base 7 "first_fault" ["font"] (spD (fFf (cs mg) V))) {e1 e2 e3 e4 e5 e6 e7 : Addr} (c : ClsI K mg "Font" "Font.__init__" s_Font fl_Font (kw_Font e1 e2 e3 e4 e5 e6 e7)) : InI P w K mg base 8 "Font" "Font.__init__" s_Font fl_Font (kw_Font e1 e2 e3 e4 e5 e6 e7) ps_Font (spI K (adr mg "Font") (fFo (cs mg) V)) := by
  have cl := c.cl
  have na := c.na
  have h_tuples_of := ok_tuples_of (P := P) (w := w) (base := base) T
  have h_copied_glyph := ok_copied_glyph (P := P) (w := w) (base := base) T
  have h_copied_lookup := ok_copied_lookup (P := P) (w := w) (base := base) T
  refine inI_of c sc_Font (fun vs H Q E h => ?_) (fun f cdv A outer s H vs Q E hr h => ?_)
  · obtain ⟨S, x, dx, ws, ds, fs, rfl, _, _, _, hd, ⟨gs, ch, ls, fe, ax, re, fn, pr, fo, rfl, _⟩, q⟩ := h
    obtain ⟨v1, _, rfl, _, hd⟩ := hd.consE
    obtain ⟨v2, _, rfl, _, hd⟩ := hd.consE
    obtain ⟨v3, _, rfl, _, hd⟩ := hd.consE
    obtain ⟨v4, _, rfl, _, hd⟩ := hd.consE
    obtain ⟨v5, _, rfl, _, hd⟩ := hd.consE
    obtain ⟨v6, _, rfl, _, hd⟩ := hd.consE
    obtain ⟨v7, _, rfl, _, hd⟩ := hd.consE
    obtain ⟨v8, _, rfl, _, hd⟩ := hd.consE
    obtain ⟨v9, _, rfl, _, hd⟩ := hd.consE
    cases hd.nilE
    rfl
  · obtain ⟨S, x, dx, ws, ds, fs, rfl, hxS, hS, hx, hd, ⟨gs, ch, ls, fe, ax, re, fn, pr, fo, rfl, fok, fV, sg, sc, sl, sf, sa, sr, sn, sp, rfl⟩, q⟩ := h
    obtain ⟨v1, _, rfl, h1, hd⟩ := hd.consE
    obtain ⟨v2, _, rfl, h2, hd⟩ := hd.consE
    obtain ⟨v3, _, rfl, h3, hd⟩ := hd.consE
    obtain ⟨v4, _, rfl, h4, hd⟩ := hd.consE
    obtain ⟨v5, _, rfl, h5, hd⟩ := hd.consE
    obtain ⟨v6, _, rfl, h6, hd⟩ := hd.consE
    obtain ⟨v7, _, rfl, h7, hd⟩ := hd.consE
    obtain ⟨v8, _, rfl, h8, hd⟩ := hd.consE
    obtain ⟨v9, _, rfl, h9, hd⟩ := hd.consE
    cases hd.nilE
    have I0 := InitAt.start hx hS hxS
    refine ⟨_, (pss_cons (psFld (K := K) rfl (pv 0) (pv 1) rfl)
      (pss_cons (psFld (K := K) rfl (pv 0) (pe_lc (own := [("glyph", 11)]) rfl sc_Font.nd (piS (K := K) rfl (pv 2)) (blkOk_by (by kernel_rfl)) (fun _ _ _ _ _ => (pg_name (i := 11) sc_Font.nd rfl (.inl rfl))) (fun _ _ _ _ _ => pts_nil) (fun _ _ _ _ _ => (pe_h h_copied_glyph (hr.mono (by decide)) (pa_cons (pv 11) pa_nil)))) rfl)
      (pss_cons (psFld (K := K) rfl (pv 0) (pe_h h_tuples_of (hr.mono (by decide)) (pa_cons (pv 3) pa_nil)) rfl)
      (pss_cons (psFld (K := K) rfl (pv 0) (pe_lc (own := [("lookup", 12)]) rfl sc_Font.nd (piS (K := K) rfl (pv 4)) (blkOk_by (by kernel_rfl)) (fun _ _ _ _ _ => (pg_name (i := 12) sc_Font.nd rfl (.inl rfl))) (fun _ _ _ _ _ => pts_nil) (fun _ _ _ _ _ => (pe_h h_copied_lookup (hr.mono (by decide)) (pa_cons (pv 12) pa_nil)))) rfl)
      (pss_cons (psFld (K := K) rfl (pv 0) (pe_lc (own := [("name", 13), ("numbers", 14)]) rfl sc_Font.nd (piS (K := K) rfl (pv 5)) (blkOk_by (by kernel_rfl)) (fun _ _ _ _ _ => (pgT (n := 2) (K := K) rfl (by rfl) (pgs_cons (pg_name (i := 13) sc_Font.nd rfl (.inl rfl)) (pgs_cons (pg_name (i := 14) sc_Font.nd rfl (.inl rfl)) pgs_nil)))) (fun _ _ _ _ _ => pts_nil) (fun _ _ _ _ _ => (pe_tup (pa_cons (pv 13) (pa_cons (pe_callTy (clLstOf (K := K) rfl) (by rfl) T.z_list (by decide +kernel) (pa_cons (pv 14) pa_nil)) pa_nil))))) rfl)
      (pss_cons (psFld (K := K) rfl (pv 0) (pe_h h_tuples_of (hr.mono (by decide)) (pa_cons (pv 6) pa_nil)) rfl)
      (pss_cons (psFld (K := K) rfl (pv 0) (pe_lc (own := [("region", 15)]) rfl sc_Font.nd (piS (K := K) rfl (pv 7)) (blkOk_by (by kernel_rfl)) (fun _ _ _ _ _ => (pg_name (i := 15) sc_Font.nd rfl (.inl rfl))) (fun _ _ _ _ _ => pts_nil) (fun _ _ _ _ _ => (pe_h h_tuples_of (hr.mono (by decide)) (pa_cons (pv 15) pa_nil)))) rfl)
      (pss_cons (psFld (K := K) rfl (pv 0) (pe_lc (own := [("function", 16)]) rfl sc_Font.nd (piS (K := K) rfl (pv 8)) (blkOk_by (by kernel_rfl)) (fun _ _ _ _ _ => (pg_name (i := 16) sc_Font.nd rfl (.inl rfl))) (fun _ _ _ _ _ => pts_nil) (fun _ _ _ _ _ => (pe_h h_tuples_of (hr.mono (by decide)) (pa_cons (pv 16) pa_nil)))) rfl)
      (pss_cons (psFld (K := K) rfl (pv 0) (pe_callTy (clLstOf (K := K) rfl) (by rfl) T.z_list (by decide +kernel) (pa_cons (pv 9) pa_nil)) rfl)
      (pss_cons (ps_set (i := 10) sc_Font.nd rfl (.inl rfl) (pe_h h_first_fault (hr.mono (by decide)) (pa_cons (pv 0) pa_nil)))
      (pss_one (ps_if (pt_cmpR op_notN (pv 10) pe_non (nomark _))
        pss_never
        pss_nil)))))))))))), ?_⟩
    walk_at "fl.w"
    have I1 := I0.put (I0.dqO (h1.dq fok.u)) "unit" rfl
    walk_at "fl.w"
    refine lcS (S := S) (fun i => (fo.glyphs[i]?).map (glD (cs mg))) I1.al (I1.deO h2) sg (by rw [List.length_map]; exact fok.g) (fun R h => ⟨_, rfl, h⟩) ?_ ?_
    · intro D i x2 e H2 hD he sm al hxe R N hR hN
      obtain ⟨r, hr1, rfl⟩ := at_map he
      refine g_name ⟨rfl, ?_⟩
      walk_at "fl.w"
      refine spD_app (D :: S) [_] _ al (.cons hxe .nil) ⟨r, fok.go r (List.mem_of_getElem? hr1), rfl, rfl⟩ (fun v H3 sm3 hv => ?_)
      exact hR _ _ _ (by rw [hr1]; rfl) sm3 hv
    intro D H2 sm2 hD hq2
    rw [fm_ltA (by rw [List.length_map])] at hq2
    have I1s := I1.same sm2
    walk_at "fl.w"
    have I2 := I1s.put hq2 "glyphs" rfl
    walk_at "fl.w"
    refine spE_app S [ch] (ltD fo.chars) I2.al (.cons (I2.deO h3) .nil) ⟨ch, _, rfl, sc, rfl⟩ (fun v H3 sm3 hv3 => ?_)
    have I2s := I2.same sm3
    walk_at "fl.w"
    have I3 := I2s.put hv3 "chars" rfl
    walk_at "fl.w"
    refine lcS (S := S) (fun i => (fo.lookups[i]?).map (lkD (cs mg))) I3.al (I3.deO h4) sl (by rw [List.length_map]; exact fok.l) (fun R h => ⟨_, rfl, h⟩) ?_ ?_
    · intro D i x2 e H2 hD he sm al hxe R N hR hN
      obtain ⟨r, hr1, rfl⟩ := at_map he
      refine g_name ⟨rfl, ?_⟩
      walk_at "fl.w"
      refine spD_app (D :: S) [_] _ al (.cons hxe .nil) ⟨r, fok.lo r (List.mem_of_getElem? hr1), rfl, rfl⟩ (fun v H3 sm3 hv => ?_)
      exact hR _ _ _ (by rw [hr1]; rfl) sm3 hv
    intro D4 H4 sm4 hD4 hq4
    rw [fm_ltA (by rw [List.length_map])] at hq4
    have I3s := I3.same sm4
    walk_at "fl.w"
    have I4 := I3s.put hq4 "lookups" rfl
    walk_at "fl.w"
    obtain ⟨xs, e1, e2, e3, e4⟩ := sf
    refine lcS (S := S) (fun i => (fo.features[i]?).map feD) I4.al (I4.deO h5) e1 (by omega) (fun R h => ⟨_, rfl, h⟩) ?_ ?_
    · intro D i x2 e H2 hD he sm al hxe R N hR hN
      obtain ⟨l, hl⟩ : ∃ l, fo.features[i]? = some l := by
        have := (List.getElem?_eq_some_iff.mp he).1
        exact ⟨fo.features[i]'(by omega), List.getElem?_eq_getElem _⟩
      obtain ⟨m, rfl, hm1, hm2⟩ := e3 i e l he hl
      obtain ⟨a, zs, rfl, na', ha, hA⟩ := hxe.tupE
      obtain ⟨n1, zs, rfl, hn1, hA⟩ := hA.consE
      obtain ⟨n2, zs, rfl, hn2, hA⟩ := hA.consE
      cases hA.nilE
      walk_at "fl.w"
      refine ⟨rfl, ?_⟩
      walk_at "fl.w"
      refine lstOf_app al hn2 hm1 fun p H3 sm3 hv => ?_
      have hn1' := hn1.same sm3
      walk_at "fl.w"
      rename_i t ht
      exact hR _ _ _ (by rw [hl]; rfl) (sm3.trans (Fl.Same.new ht)) (Dq.newT (al.same sm3) ht (.cons hn1' (.cons hv .nil)))
    intro D5 H5 sm5 hD5 hq5
    rw [fm_ltA e2] at hq5
    have I4s := I4.same sm5
    walk_at "fl.w"
    have I5 := I4s.put hq5 "features" rfl
    walk_at "fl.w"
    refine spE_app S [ax] (ltD fo.axes) I5.al (.cons (I5.deO h6) .nil) ⟨ax, _, rfl, sa, rfl⟩ (fun v H6 sm6 hv6 => ?_)
    have I5s := I5.same sm6
    walk_at "fl.w"
    have I6 := I5s.put hv6 "axes" rfl
    walk_at "fl.w"
    obtain ⟨xs, e1, e2, e3, e4⟩ := sr
    refine lcS (S := S) (fun i => (fo.regions[i]?).map ltD) I6.al (I6.deO h7) e1 (by omega) (fun R h => ⟨_, rfl, h⟩) ?_ ?_
    · intro D i x2 e H2 hD he sm al hxe R N hR hN
      obtain ⟨l, hl⟩ : ∃ l, fo.regions[i]? = some l := by
        have := (List.getElem?_eq_some_iff.mp he).1
        exact ⟨fo.regions[i]'(by omega), List.getElem?_eq_getElem _⟩
      refine g_name ⟨rfl, ?_⟩
      walk_at "fl.w"
      refine spE_app (D :: S) [e] (ltD l) al (.cons (.inl hxe) .nil) ⟨e, l, rfl, e3 i e l he hl, rfl⟩ (fun v H3 sm3 hv => ?_)
      exact hR _ _ _ (by rw [hl]; rfl) sm3 hv
    intro D7 H7 sm7 hD7 hq7
    rw [fm_ltA e2] at hq7
    have I6s := I6.same sm7
    walk_at "fl.w"
    have I7 := I6s.put hq7 "regions" rfl
    walk_at "fl.w"
    obtain ⟨xs, e1, e2, e3, e4⟩ := sn
    refine lcS (S := S) (fun i => (fo.functions[i]?).map ltD) I7.al (I7.deO h8) e1 (by omega) (fun R h => ⟨_, rfl, h⟩) ?_ ?_
    · intro D i x2 e H2 hD he sm al hxe R N hR hN
      obtain ⟨l, hl⟩ : ∃ l, fo.functions[i]? = some l := by
        have := (List.getElem?_eq_some_iff.mp he).1
        exact ⟨fo.functions[i]'(by omega), List.getElem?_eq_getElem _⟩
      refine g_name ⟨rfl, ?_⟩
      walk_at "fl.w"
      refine spE_app (D :: S) [e] (ltD l) al (.cons (.inl hxe) .nil) ⟨e, l, rfl, e3 i e l he hl, rfl⟩ (fun v H3 sm3 hv => ?_)
      exact hR _ _ _ (by rw [hl]; rfl) sm3 hv
    intro D8 H8 sm8 hD8 hq8
    rw [fm_ltA e2] at hq8
    have I7s := I7.same sm8
    walk_at "fl.w"
    have I8 := I7s.put hq8 "functions" rfl
    walk_at "fl.w"
    refine lstOf_de I8.al (I8.deO h9) sp.1 fun v9 H9 sm9 hv9 => ?_
    have I8s := I8.same sm9
    walk_at "fl.w"
    have I9 := I8s.put hv9 "presets" rfl
    walk_at "fl.w"
    have hF := I9.fin
    refine spD_app _ [foD (cs mg) fo] .none hF.1 (.cons hF.2 .nil) ⟨fo, fV, rfl, rfl⟩ (fun v H10 sm10 hv10 => ?_)
    cases hv10.nonE
    have I10 := I9.same sm10
    walk_at "fl.w"
    exact q _ _ I10.fr I10.hx I10.dq
end
section
variable {P : Program} {w : World} {K : PySem.W.Frag} {mg : Str → Option Value} {base : Heap}
theorem ok_count_points (T : Txt K mg) : Has P w K mg base 1 "count_points" ps_count_points (spD fCt) := by
  refine has_of T.d_count_points sc_count_points bd_count_points (fun vs H Q E h => ?_) (fun f cdv A outer s H vs Q E hr h => ?_)
  · obtain ⟨S, ds, d, _, hd, ⟨o, rfl, _⟩, _⟩ := h
    rw [hd.len]
    rfl
  · obtain ⟨S, ds, d, hS, hd, ⟨o, rfl, hz, rfl⟩, q⟩ := h
    obtain ⟨_, _, rfl, h1, hd⟩ := hd.consE
    cases hd.nilE
    obtain ⟨a, xs, rfl, na, hx, hA⟩ := h1.lstE
    refine ⟨_, (pss_one (ps_ret (pe_callB (clSum (K := K) rfl rfl) (by rfl) T.z_sum (by decide +kernel) (pa_cons (pe_lc (own := [("contour", 1)]) rfl sc_count_points.nd (piL (K := K) rfl (pv 0)) (blkOk_by (by kernel_rfl)) (fun _ _ _ _ _ => (pg_name (i := 1) sc_count_points.nd rfl (.inl rfl))) (fun _ _ _ _ _ => pts_nil) (fun _ _ _ _ _ => (pe_callB (clLen (K := K) rfl) (by rfl) T.z_len (by decide +kernel) (pa_cons (pv 1) pa_nil)))) pa_nil)))), ?_⟩
    walk_at "fl.w"
    refine lcL (S := S) (es := o.map ctD) (fun i => ((o.map fun c => (c.length : Int)).map PyData.int)[i]?) hS h1 (by rw [List.length_map]; omega) ?_ ?_
    · intro D i x e H2 hD he sm al hxe R N hR hN
      rw [List.getElem?_map] at he
      cases hc1 : o[i]? with
      | none => rw [hc1] at he; cases he
      | some c =>
        rw [hc1] at he
        cases he
        obtain ⟨b, ys, rfl, nb, hy, hB⟩ := hxe.lstE
        have hlb := hB.len
        rw [List.length_map] at hlb
        refine g_name ⟨rfl, ?_⟩
        walk_at "fl.w"
        exact hR (.int (c.length : Int)) _ _ (by rw [List.getElem?_map, List.getElem?_map, hc1]; rfl) (L2.Same.refl _) (by rw [hlb]; exact .int _)
    · intro D H2 sm hD hq
      rw [fm_all (by simp)] at hq
      obtain ⟨_, zs, e, nD, hzs, hZ⟩ := hq.lstE
      cases e
      obtain rfl := ints_of hZ
      walk_at "fl.w"
      exact q _ _ sm (.int _)
theorem ok_is_proper (T : Txt K mg) : Has P w K mg base 2 "is_proper" ps_is_proper (spD fPr) := by
  have h_count_points := ok_count_points (P := P) (w := w) (base := base) T
  refine has_of T.d_is_proper sc_is_proper bd_is_proper (fun vs H Q E h => ?_) (fun f cdv A outer s H vs Q E hr h => ?_)
  · obtain ⟨S, ds, d, _, hd, ⟨o, rfl, _⟩, _⟩ := h
    rw [hd.len]
    rfl
  · obtain ⟨S, ds, d, hS, hd, ⟨o, rfl, hz, hin, rfl⟩, q⟩ := h
    obtain ⟨_, _, rfl, h1, hd⟩ := hd.consE
    cases hd.nilE
    obtain ⟨a, xs, rfl, na, hx, hA⟩ := h1.lstE
    have hlx := hA.len
    rw [List.length_map] at hlx
    refine ⟨_, (pss_cons (ps_if (PW.pt (pw_or (pt_cmpR op_gt (pe_callB (clLen (K := K) rfl) (by rfl) T.z_len (by decide +kernel) (pa_cons (pv 0) pa_nil)) (pe_gv (by rfl) T.g_MOST_CONTOURS) (nomark _)) (pw_or1 (pt_cmpR op_gt (pe_h h_count_points (hr.mono (by decide)) (pa_cons (pv 0) pa_nil)) (pe_gv (by rfl) T.g_MOST_POINTS) (nomark _)))))
        (pss_one (ps_ret pe_bl))
        pss_nil)
      (pss_cons (ps_for PassesOwn.never rfl (piL (K := K) rfl (pv 0)) (pg_name (i := 1) sc_is_proper.nd rfl (.inl rfl))
        (pss_cons (ps_if (pt_cmpR op_lt (pe_callB (clLen (K := K) rfl) (by rfl) T.z_len (by decide +kernel) (pa_cons (pv 1) pa_nil)) (pe_gv (by rfl) T.g_LEAST_OF_CONTOUR) (nomark _))
        (pss_one (ps_ret pe_bl))
        pss_nil)
      (pss_one (ps_for PassesOwn.never rfl (piL (K := K) rfl (pv 1)) (pgT (n := 3) (K := K) rfl (by rfl) (pgs_cons (pg_name (i := 2) sc_is_proper.nd rfl (.inl rfl)) (pgs_cons (pg_name (i := 3) sc_is_proper.nd rfl (.inl rfl)) (pgs_cons (pg_name (i := 4) sc_is_proper.nd rfl (.inl rfl)) pgs_nil))))
        (pss_one (ps_if (PW.pt (pw_or (pt_cmpR op_gt (pe_callB call_abs' (by rfl) T.z_abs (by decide +kernel) (pa_cons (pv 2) pa_nil)) (pe_gv (by rfl) T.g_FARTHEST) (nomark _)) (pw_or1 (pt_cmpR op_gt (pe_callB call_abs' (by rfl) T.z_abs (by decide +kernel) (pa_cons (pv 3) pa_nil)) (pe_gv (by rfl) T.g_FARTHEST) (nomark _)))))
        (pss_one (ps_ret pe_bl))
        pss_nil))))))
      (pss_one (ps_ret pe_bl)))), ?_⟩
    walk_at "fl.w"
    refine g_ite (fun hm => ?_) (fun hm => ?_)
    · walk_at "fl.w"
      rw [prp_many (by omega)] at q
      exact q _ _ (L2.Same.refl _) (.bl _)
    · walk_at "fl.w"
      refine spD_app S [ouD o] (.int (cnt o)) hS (.cons h1 .nil) ⟨o, rfl, hz, rfl⟩ (fun v H1 sm hv => ?_)
      cases hv.intE
      have hx1 := sm _ _ hx
      have hA1 := hA.same sm
      walk_at "fl.w"
      refine g_ite (fun hm2 => ?_) (fun hm2 => ?_)
      · walk_at "fl.w"
        rw [prp_cnt (by omega)] at q
        exact q _ _ sm (.bl _)
      · walk_at "fl.w"
        refine forK_l (xs := xs) (fun i σ' H' => (∃ u1 u2 u3 u4, σ' = [some (.ref a), u1, u2, u3, u4]) ∧ H' = H1 ∧ ∀ c, c ∈ o.take i → okC c = true) ⟨⟨_, _, _, _, rfl⟩, rfl, fun _ m => nomatch m⟩ ?_ ?_ ?_
        · intro i σ' H' _ ⟨_, e, _⟩
          subst e
          exact SqL.of hx1
        · intro i x σ' H' hxi ⟨⟨u1, u2, u3, u4, e⟩, e2, hall⟩
          subst e e2
          obtain ⟨c, hc, dc⟩ := hA1.getM hxi
          obtain ⟨b, ys, rfl, nb, hb, hB⟩ := dc.lstE
          have hlb := hB.len
          rw [List.length_map] at hlb
          have mc := List.mem_of_getElem? hc
          walk_at "fl.w"
          refine g_ite (fun hm3 => ?_) (fun hm3 => ?_)
          · walk_at "fl.w"
            rw [prp_c mc (okC_few (by omega))] at q
            exact q _ _ sm (.bl _)
          · walk_at "fl.w"
            refine forK_l (xs := ys) (fun j σ' Hq => (∃ v2 v3 v4, σ' = [some (.ref a), some (.ref b), v2, v3, v4]) ∧ Hq = H' ∧ ∀ p, p ∈ c.take j → okP p = true) ⟨⟨_, _, _, rfl⟩, rfl, fun _ m => nomatch m⟩ ?_ ?_ ?_
            · intro j σ' Hq _ ⟨_, e, _⟩
              subst e
              exact SqL.of hb
            · intro j y σ' Hq hyj ⟨⟨v2, v3, v4, e⟩, e2, hallp⟩
              subst e e2
              obtain ⟨p, hp, dp⟩ := hB.getM hyj
              obtain ⟨a1, rfl, na1, hx1⟩ := ptE dp
              have mp := List.mem_of_getElem? hp
              walk_at "fl.w"
              refine g_ite (fun hm4 => ?_) (fun hm4 => ?_)
              · walk_at "fl.w"
                rw [prp_c mc (okC_p mp (okP_f (by split at hm4 <;> omega)))] at q
                exact q _ _ sm (.bl _)
              · walk_at "fl.w"
                refine g_ite (fun hm5 => ?_) (fun hm5 => ?_)
                · walk_at "fl.w"
                  rw [prp_c mc (okC_p mp (okP_f (by split at hm5 <;> omega)))] at q
                  exact q _ _ sm (.bl _)
                · walk_at "fl.w"
                  exact ⟨⟨_, _, _, rfl⟩, rfl, take_mem hp hallp (okP_t (by split at hm4 <;> split at hm5 <;> omega))⟩
            · intro σ' Hq ⟨⟨v2, v3, v4, e⟩, e2, hallp⟩
              subst e e2
              walk_at "fl.w"
              rw [List.take_of_length_le (by omega)] at hallp
              exact ⟨⟨_, _, _, _, rfl⟩, rfl, take_mem hc hall (okC_true (by omega) hallp)⟩
        · intro σ' H' ⟨⟨u1, u2, u3, u4, e⟩, e2, hall⟩
          subst e e2
          walk_at "fl.w"
          rw [List.take_of_length_le (by omega)] at hall
          rw [prp_true (by omega) (by omega) hall] at q
          exact q _ _ sm (.bl _)
end
section
variable {P : Program} {w : World} {K : PySem.W.Frag} {mg : Str → Option Value} {base : Heap}
local macro_rules | `(tactic| walk_at "fl.t") => `(tactic| (with_reducible refine g_chainW ?_))
local macro_rules | `(tactic| walk_at "fl.t") => `(tactic| (with_reducible refine g_ifE ?_))
local macro_rules | `(tactic| walk_at "fl.w") => `(tactic| repeat walk_at "fl.t")
def fCrd (ds : List PyData) (d : PyData) : Prop := ∃ n, ds = [.int n] ∧ Crd n ∧ d = .bool true
theorem ok_is_coordinate (T : Txt K mg) : Has P w K mg base 1 "is_coordinate" ps_is_coordinate (spD fCrd) := by
  refine has_of T.d_is_coordinate sc_is_coordinate bd_is_coordinate (fun vs H Q E h => ?_) (fun f cdv A outer s H vs Q E hr h => ?_)
  · obtain ⟨S, ds, d, _, hd, ⟨n, rfl, _⟩, _⟩ := h
    rw [hd.len]; rfl
  · obtain ⟨S, ds, d, hS, hd, ⟨n, rfl, ⟨n0, n1⟩, rfl⟩, q⟩ := h
    obtain ⟨v1, _, rfl, h1, hd⟩ := hd.consE
    cases hd.nilE
    cases h1.intE
    refine ⟨_, (pss_one (ps_ret (pe_chain op_le op_le (pe_un un_neg (pe_gv (by rfl) T.g_FARTHEST)) (pv 0) (pe_gv (by rfl) T.g_FARTHEST)))), ?_⟩
    walk_at "fl.w"
    refine g_yesB n0 ?_
    walk_at "fl.w"
    rw [decide_eq_true n1]
    exact q _ _ (L2.Same.refl _) (.bl _)
def fIp (c : Cs) (ds : List PyData) (d : PyData) : Prop := ∃ (f : FoR) (p : Int × Int × Int), ds = [foD c f, .tuple (i3 p)] ∧ 0 ≤ p.1 ∧ p.1 < f.glyphs.length ∧ Crd p.2.1 ∧ Crd p.2.2 ∧ d = .bool true
theorem ok_is_part (T : Txt K mg) : Has P w K mg base 2 "is_part" ps_is_part (spD (fIp (cs mg))) := by
  obtain ⟨_, _, _, _, _, _, _, _, _, _, _, _, _, _, cF⟩ := T.c_Font
  have clF := cF.cl
  have naF := cF.na
  have h_is_coordinate := ok_is_coordinate (P := P) (w := w) (base := base) T
  refine has_of T.d_is_part sc_is_part bd_is_part (fun vs H Q E h => ?_) (fun f cdv A outer s H vs Q E hr h => ?_)
  · obtain ⟨S, ds, d, _, hd, ⟨fo, p, rfl, _⟩, _⟩ := h
    rw [hd.len]; rfl
  · obtain ⟨S, ds, d, hS, hd, ⟨fo, p, rfl, p0, p1, px, py, rfl⟩, q⟩ := h
    obtain ⟨v1, _, rfl, h1, hd⟩ := hd.consE
    obtain ⟨v2, _, rfl, h2, hd⟩ := hd.consE
    cases hd.nilE
    obtain ⟨a, dx, w1, w2, w3, w4, w5, w6, w7, w8, w9, rfl, na, hA, k1, k2, k3, k4, k5, k6, k7, k8, k9⟩ := foE h1
    obtain ⟨b, gs, rfl, hb, hbl, _⟩ := lstN k2
    obtain ⟨t, ts, rfl, nt, ht, hT⟩ := h2.tupE
    obtain ⟨_, _, rfl, x1, hT⟩ := hT.consE
    obtain ⟨_, _, rfl, x2, hT⟩ := hT.consE
    obtain ⟨_, _, rfl, x3, hT⟩ := hT.consE
    cases hT.nilE
    cases x1.intE
    cases x2.intE
    cases x3.intE
    refine ⟨_, (pss_cons (ps_asg (pv 1) (pgT (n := 3) (K := K) rfl (by rfl) (pgs_cons (pg_name (i := 2) sc_is_part.nd rfl (.inl rfl)) (pgs_cons (pg_name (i := 3) sc_is_part.nd rfl (.inl rfl)) (pgs_cons (pg_name (i := 4) sc_is_part.nd rfl (.inl rfl)) pgs_nil)))))
      (pss_one (ps_ret (pe_and (pe_chain op_le op_lt pe_int (pv 2) (pe_callB (clLen (K := K) rfl) (by rfl) T.z_len (by decide +kernel) (pa_cons (peFld (K := K) rfl (pv 0) rfl) pa_nil))) (pe_and (pe_h h_is_coordinate (hr.mono (by decide)) (pa_cons (pv 3) pa_nil)) (pe_one (pe_h h_is_coordinate (hr.mono (by decide)) (pa_cons (pv 4) pa_nil)))))))), ?_⟩
    walk_at "fl.w"
    refine g_yesB p0 ?_
    walk_at "fl.w"
    refine g_yesB (show p.1 < (gs.length : Int) by omega) ?_
    walk_at "fl.w"
    refine spD_app S [.int p.2.1] (.bool true) hS (.cons (.int _) .nil) ⟨_, rfl, px, rfl⟩ (fun v H2 sm2 hv => ?_)
    cases hv.blE
    walk_at "fl.w"
    exact spD_app S [.int p.2.2] (.bool true) (hS.same sm2) (.cons (.int _) .nil) ⟨_, rfl, py, rfl⟩ (fun v H3 sm3 hv => q _ _ (sm2.trans sm3) hv)
def fIa (ds : List PyData) (d : PyData) : Prop := ∃ a : Str × Int × Int × Int, ds = [.tuple (s3i a)] ∧ a.1 ∈ (["base", "mark", "entry", "exit"] : List Str) ∧ 0 ≤ a.2.1 ∧ a.2.1 ≤ 9 ∧ Crd a.2.2.1 ∧ Crd a.2.2.2 ∧ d = .bool true
theorem ok_is_anchor (T : Txt K mg) : Has P w K mg base 2 "is_anchor" ps_is_anchor (spD fIa) := by
  have h_is_coordinate := ok_is_coordinate (P := P) (w := w) (base := base) T
  refine has_of T.d_is_anchor sc_is_anchor bd_is_anchor (fun vs H Q E h => ?_) (fun f cdv A outer s H vs Q E hr h => ?_)
  · obtain ⟨S, ds, d, _, hd, ⟨p, rfl, _⟩, _⟩ := h
    rw [hd.len]; rfl
  · obtain ⟨S, ds, d, hS, hd, ⟨p, rfl, hk, p0, p1, px, py, rfl⟩, q⟩ := h
    obtain ⟨v2, _, rfl, h2, hd⟩ := hd.consE
    cases hd.nilE
    obtain ⟨t, ts, rfl, nt, ht, hT⟩ := h2.tupE
    obtain ⟨_, _, rfl, x1, hT⟩ := hT.consE
    obtain ⟨_, _, rfl, x2, hT⟩ := hT.consE
    obtain ⟨_, _, rfl, x3, hT⟩ := hT.consE
    obtain ⟨_, _, rfl, x4, hT⟩ := hT.consE
    cases hT.nilE
    cases x1
    cases x2.intE
    cases x3.intE
    cases x4.intE
    have hgs := T.gs_ANCHOR_KINDS H
    refine ⟨_, (pss_cons (ps_asg (pv 0) (pgT (n := 4) (K := K) rfl (by rfl) (pgs_cons (pg_name (i := 1) sc_is_anchor.nd rfl (.inl rfl)) (pgs_cons (pg_name (i := 2) sc_is_anchor.nd rfl (.inl rfl)) (pgs_cons (pg_name (i := 3) sc_is_anchor.nd rfl (.inl rfl)) (pgs_cons (pg_name (i := 4) sc_is_anchor.nd rfl (.inl rfl)) pgs_nil))))))
      (pss_one (ps_ret (pe_and (pe_cmpR (opIn (K := K) rfl) (pv 1) (pe_glob (by rfl) T.gt_ANCHOR_KINDS (v := .ref (adr mg "ANCHOR_KINDS")) rfl) (by rfl)) (pe_and (pe_chain op_le op_le pe_int (pv 2) pe_int) (pe_and (pe_h h_is_coordinate (hr.mono (by decide)) (pa_cons (pv 3) pa_nil)) (pe_one (pe_h h_is_coordinate (hr.mono (by decide)) (pa_cons (pv 4) pa_nil))))))))), ?_⟩
    walk_at "fl.w"
    refine g_inT (b := true) hgs rfl rfl ?_ ?_
    · simp only [List.mem_cons, List.not_mem_nil, or_false] at hk
      rcases hk with e | e | e | e <;> (rw [e]; rfl)
    walk_at "fl.w"
    refine g_yesB p0 ?_
    walk_at "fl.w"
    refine g_yesB p1 ?_
    walk_at "fl.w"
    refine spD_app S [.int p.2.2.1] (.bool true) hS (.cons (.int _) .nil) ⟨_, rfl, px, rfl⟩ (fun v H2 sm2 hv => ?_)
    cases hv.blE
    walk_at "fl.w"
    exact spD_app S [.int p.2.2.2] (.bool true) (hS.same sm2) (.cons (.int _) .nil) ⟨_, rfl, py, rfl⟩ (fun v H3 sm3 hv => q _ _ (sm2.trans sm3) hv)
def fId (c : Cs) (ds : List PyData) (d : PyData) : Prop := ∃ (f : FoR) (g : GlG) (p : Int × Int × Int × Int), ds = [foD c f, glD c g.R, .tuple (i4 p)] ∧ g.outl.length ≤ 40 ∧ 0 ≤ p.1 ∧ p.1 < f.regions.length ∧ -1 ≤ p.2.1 ∧ p.2.1 < cnt g.outl ∧ Crd p.2.2.1 ∧ Crd p.2.2.2 ∧ d = .bool true
theorem ok_is_delta (T : Txt K mg) : Has P w K mg base 2 "is_delta" ps_is_delta (spD (fId (cs mg))) := by
  obtain ⟨_, _, _, _, _, _, _, _, _, _, _, _, _, _, cF⟩ := T.c_Font
  have clF := cF.cl
  have naF := cF.na
  obtain ⟨_, _, _, _, _, _, _, _, cG⟩ := T.c_Glyph
  have clG := cG.cl
  have naG := cG.na
  have h_is_coordinate := ok_is_coordinate (P := P) (w := w) (base := base) T
  have h_count_points := ok_count_points (P := P) (w := w) (base := base) T
  refine has_of T.d_is_delta sc_is_delta bd_is_delta (fun vs H Q E h => ?_) (fun f cdv A outer s H vs Q E hr h => ?_)
  · obtain ⟨S, ds, d, _, hd, ⟨fo, g, p, rfl, _⟩, _⟩ := h
    rw [hd.len]; rfl
  · obtain ⟨S, ds, d, hS, hd, ⟨fo, g, p, rfl, hoz, p0, p1, c0, c1, px, py, rfl⟩, q⟩ := h
    obtain ⟨v1, _, rfl, h1, hd⟩ := hd.consE
    obtain ⟨v3, _, rfl, h3, hd⟩ := hd.consE
    obtain ⟨v2, _, rfl, h2, hd⟩ := hd.consE
    cases hd.nilE
    obtain ⟨a, dx, w1, w2, w3, w4, w5, w6, w7, w8, w9, rfl, na, hA, k1, k2, k3, k4, k5, k6, k7, k8, k9⟩ := foE h1
    obtain ⟨b, gs, rfl, hb, hbl, _⟩ := lstN (f := ltD) (L := fo.regions) k7
    obtain ⟨ga, gdx, u1, u2, u3, u4, u5, u6, u7, rfl, gna, gA, m1, m2, m3, m4, m5, m6, m7⟩ := glE h3
    have m2' : Dq S H u2 (ouD g.outl) := ouD3_pt g.outl ▸ m2
    obtain ⟨t, ts, rfl, nt, ht, hT⟩ := h2.tupE
    obtain ⟨_, _, rfl, x1, hT⟩ := hT.consE
    obtain ⟨_, _, rfl, x2, hT⟩ := hT.consE
    obtain ⟨_, _, rfl, x3, hT⟩ := hT.consE
    obtain ⟨_, _, rfl, x4, hT⟩ := hT.consE
    cases hT.nilE
    cases x1.intE
    cases x2.intE
    cases x3.intE
    cases x4.intE
    refine ⟨_, (pss_cons (ps_asg (pv 2) (pgT (n := 4) (K := K) rfl (by rfl) (pgs_cons (pg_name (i := 3) sc_is_delta.nd rfl (.inl rfl)) (pgs_cons (pg_name (i := 4) sc_is_delta.nd rfl (.inl rfl)) (pgs_cons (pg_name (i := 5) sc_is_delta.nd rfl (.inl rfl)) (pgs_cons (pg_name (i := 6) sc_is_delta.nd rfl (.inl rfl)) pgs_nil))))))
      (pss_cons (ps_if (PW.pt (pw_or (pt_not (pt_chain op_le op_lt pe_int (pv 3) (pe_callB (clLen (K := K) rfl) (by rfl) T.z_len (by decide +kernel) (pa_cons (peFld (K := K) rfl (pv 0) rfl) pa_nil)))) (pw_or1 (pt_not (pt_chain op_le op_lt (pe_un un_neg pe_int) (pv 4) (pe_h h_count_points (hr.mono (by decide)) (pa_cons (peFld (K := K) rfl (pv 1) rfl) pa_nil)))))))
        (pss_one (ps_ret pe_bl))
        pss_nil)
      (pss_one (ps_ret (pe_and (pe_h h_is_coordinate (hr.mono (by decide)) (pa_cons (pv 5) pa_nil)) (pe_one (pe_h h_is_coordinate (hr.mono (by decide)) (pa_cons (pv 6) pa_nil)))))))), ?_⟩
    walk_at "fl.w"
    refine g_yesB p0 ?_
    walk_at "fl.w"
    refine g_nB (show p.1 < (gs.length : Int) by omega) ?_
    walk_at "fl.w"
    refine g_yesB c0 ?_
    walk_at "fl.w"
    refine spD_app S [ouD g.outl] (.int (cnt g.outl)) hS (.cons m2' .nil) ⟨_, rfl, by omega, rfl⟩ (fun v H1 sm1 hv => ?_)
    cases hv.intE
    walk_at "fl.w"
    refine g_nB c1 ?_
    walk_at "fl.w"
    refine spD_app S [.int p.2.2.1] (.bool true) (hS.same sm1) (.cons (.int _) .nil) ⟨_, rfl, px, rfl⟩ (fun v H2 sm2 hv => ?_)
    cases hv.blE
    walk_at "fl.w"
    exact spD_app S [.int p.2.2.2] (.bool true) ((hS.same sm1).same sm2) (.cons (.int _) .nil) ⟨_, rfl, py, rfl⟩ (fun v H3 sm3 hv => q _ _ ((sm1.trans sm2).trans sm3) hv)
def fIi (ds : List PyData) (d : PyData) : Prop := ∃ h : Str × Int, ds = [.tuple (s1i h)] ∧ InsV h ∧ d = .bool true
theorem ok_is_instruction (T : Txt K mg) (I : WoK K w mg) : Has P w K mg base 1 "is_instruction" ps_is_instruction (spD fIi) := by
  have gd_WORDS := I.gW
  obtain ⟨esW, nW, kd_WORDS⟩ := I.kW
  refine has_of T.d_is_instruction sc_is_instruction bd_is_instruction (fun vs H Q E h => ?_) (fun f cdv A outer s H vs Q E hr h => ?_)
  · obtain ⟨S, ds, d, _, hd, ⟨p, rfl, _⟩, _⟩ := h
    rw [hd.len]; rfl
  · obtain ⟨S, ds, d, hS, hd, ⟨p, rfl, ⟨hw, hl, p0, p1⟩, rfl⟩, q⟩ := h
    obtain ⟨v2, _, rfl, h2, hd⟩ := hd.consE
    cases hd.nilE
    obtain ⟨t, ts, rfl, nt, ht, hT⟩ := h2.tupE
    obtain ⟨_, _, rfl, x1, hT⟩ := hT.consE
    obtain ⟨_, _, rfl, x2, hT⟩ := hT.consE
    cases hT.nilE
    cases x1
    cases x2.intE
    obtain ⟨rW, nW1, cW⟩ := I.fW p.1 hw
    have cW := cW _ rfl
    refine ⟨_, (pss_one (ps_ret (pe_and (pe_cmpR (op_in_kd kd_WORDS) (pe_ix (ixT (K := K) rfl) (pv 0) pe_int (fun _ _ => rfl)) (pe_glob (by rfl) gd_WORDS (v := .ref (adr mg "WORDS")) rfl) (by rfl)) (pe_one (pe_chain op_le op_le (pe_gv (by rfl) T.g_LEAST_NUMBER) (pe_ix (ixT (K := K) rfl) (pv 0) pe_int (fun _ _ => rfl)) (pe_gv (by rfl) T.g_GREATEST_NUMBER)))))), ?_⟩
    walk_at "fl.w"
    cases hk : tabW.lookup p.1 with
    | none => exact absurd hk hl
    | some ks =>
      rw [hk] at cW
      obtain ⟨tt, rfl, _⟩ := cW
      refine ⟨p.1, _, rfl, rfl, nW1, ?_⟩
      walk_at "fl.w"
      rw [if_pos (show (some (Value.ref tt)).isSome = true from rfl)]
      walk_at "fl.w"
      refine g_yesB p0 ?_
      walk_at "fl.w"
      rw [decide_eq_true p1]
      exact q _ _ (L2.Same.refl _) (.bl _)
end
section
variable {P : Program} {w : World} {K : PySem.W.Frag} {mg : Str → Option Value} {base : Heap}
local macro_rules | `(tactic| walk_at "fl.t") => `(tactic| (with_reducible refine g_chainW ?_))
local macro_rules | `(tactic| walk_at "fl.t") => `(tactic| (with_reducible refine g_ifE ?_))
local macro_rules | `(tactic| walk_at "fl.w") => `(tactic| repeat walk_at "fl.t")
def fGrG (c : Cs) (ds : List PyData) (d : PyData) : Prop := ∃ (f : FoR) (g : GlG), ds = [foD c f, glD c g.R] ∧ g.Ok f.glyphs.length f.regions.length ∧ d = .none
theorem ok_glyph_reason (T : Txt K mg) (I : WoK K w mg) : Has P w K mg base 3 "glyph_reason" ps_glyph_reason (spD (fGrG (cs mg))) := by
  obtain ⟨_, _, _, _, _, _, _, _, cG⟩ := T.c_Glyph
  have clG := cG.cl
  have naG := cG.na
  have h_is_proper := ok_is_proper (P := P) (w := w) (base := base) T
  have h_is_part := ok_is_part (P := P) (w := w) (base := base) T
  have h_is_anchor := ok_is_anchor (P := P) (w := w) (base := base) T
  have h_is_delta := ok_is_delta (P := P) (w := w) (base := base) T
  have h_is_instruction := ok_is_instruction (P := P) (w := w) (base := base) T I
  refine has_of T.d_glyph_reason sc_glyph_reason bd_glyph_reason (fun vs H Q E h => ?_) (fun f cdv A outer s H vs Q E hr h => ?_)
  · obtain ⟨S, ds, d, _, hd, ⟨fo, g, rfl, _⟩, _⟩ := h
    rw [hd.len]
    rfl
  · obtain ⟨S, ds, d, hS, hd, ⟨fo, g, rfl, ok, rfl⟩, q⟩ := h
    obtain ⟨v1, _, rfl, h1, hd⟩ := hd.consE
    obtain ⟨v2, _, rfl, h2, hd⟩ := hd.consE
    cases hd.nilE
    have h2' := h2
    obtain ⟨a, dx, u1, u2, u3, u4, u5, u6, u7, rfl, na, hA, k1, k2, k3, k4, k5, k6, k7⟩ := glE h2'
    have k1 : Dq S H u1 (.int g.adv) := k1
    cases k1
    have k2 : Dq S H u2 (ouD g.outl) := ouD3_pt g.outl ▸ k2
    have k3 : Dq S H u3 (.list (g.parts.map fun p => .tuple (i3 p))) := ltD_map i3 g.parts ▸ k3
    have k4 : Dq S H u4 (.list (g.anch.map fun p => .tuple (s3i p))) := ltD_map s3i g.anch ▸ k4
    have k6 : Dq S H u6 (.list (g.deltas.map fun p => .tuple (i4 p))) := ltD_map i4 g.deltas ▸ k6
    have k7 : Dq S H u7 (.list (g.hint.map fun p => .tuple (s1i p))) := ltD_map s1i g.hint ▸ k7
    obtain ⟨b3, _, rfl, _, hb3, _⟩ := k3.lstE
    obtain ⟨b4, _, rfl, _, hb4, _⟩ := k4.lstE
    obtain ⟨b6, _, rfl, _, hb6, _⟩ := k6.lstE
    obtain ⟨b7, _, rfl, _, hb7, _⟩ := k7.lstE
    refine ⟨_, (pss_cons (ps_if (pt_not (pt_chain op_le op_le pe_int (peFld (K := K) rfl (pv 1) rfl) (pe_gv (by rfl) T.g_FARTHEST)))
        pss_never
        pss_nil)
      (pss_cons (ps_if (pt_not (pt_val (pe_h h_is_proper (hr.mono (by decide)) (pa_cons (peFld (K := K) rfl (pv 1) rfl) pa_nil))))
        pss_never
        pss_nil)
      (pss_cons (ps_if (pt_not (pt_val (pe_callB (clAll (K := K) rfl rfl) (by rfl) T.z_all (by decide +kernel) (pa_cons (pe_lc (own := [("part", 2)]) rfl sc_glyph_reason.nd (piL (K := K) rfl (peFld (K := K) rfl (pv 1) rfl)) (blkOk_by (by kernel_rfl)) (fun _ _ _ _ _ => (pg_name (i := 2) sc_glyph_reason.nd rfl (.inl rfl))) (fun _ _ _ _ _ => pts_nil) (fun _ _ _ _ _ => (pe_h h_is_part (hr.mono (by decide)) (pa_cons (pv 0) (pa_cons (pv 2) pa_nil))))) pa_nil))))
        pss_never
        pss_nil)
      (pss_cons (ps_if (pt_not (pt_val (pe_callB (clAll (K := K) rfl rfl) (by rfl) T.z_all (by decide +kernel) (pa_cons (pe_lc (own := [("anchor", 3)]) rfl sc_glyph_reason.nd (piL (K := K) rfl (peFld (K := K) rfl (pv 1) rfl)) (blkOk_by (by kernel_rfl)) (fun _ _ _ _ _ => (pg_name (i := 3) sc_glyph_reason.nd rfl (.inl rfl))) (fun _ _ _ _ _ => pts_nil) (fun _ _ _ _ _ => (pe_h h_is_anchor (hr.mono (by decide)) (pa_cons (pv 3) pa_nil)))) pa_nil))))
        pss_never
        pss_nil)
      (pss_cons (ps_if (pt_not (pt_val (pe_callB (clAll (K := K) rfl rfl) (by rfl) T.z_all (by decide +kernel) (pa_cons (pe_lc (own := [("delta", 4)]) rfl sc_glyph_reason.nd (piL (K := K) rfl (peFld (K := K) rfl (pv 1) rfl)) (blkOk_by (by kernel_rfl)) (fun _ _ _ _ _ => (pg_name (i := 4) sc_glyph_reason.nd rfl (.inl rfl))) (fun _ _ _ _ _ => pts_nil) (fun _ _ _ _ _ => (pe_h h_is_delta (hr.mono (by decide)) (pa_cons (pv 0) (pa_cons (pv 1) (pa_cons (pv 4) pa_nil)))))) pa_nil))))
        pss_never
        pss_nil)
      (pss_cons (ps_if (pt_not (pt_val (pe_callB (clAll (K := K) rfl rfl) (by rfl) T.z_all (by decide +kernel) (pa_cons (pe_lc (own := [("step", 5)]) rfl sc_glyph_reason.nd (piL (K := K) rfl (peFld (K := K) rfl (pv 1) rfl)) (blkOk_by (by kernel_rfl)) (fun _ _ _ _ _ => (pg_name (i := 5) sc_glyph_reason.nd rfl (.inl rfl))) (fun _ _ _ _ _ => pts_nil) (fun _ _ _ _ _ => (pe_h h_is_instruction (hr.mono (by decide)) (pa_cons (pv 5) pa_nil)))) pa_nil))))
        pss_never
        pss_nil)
      (pss_one (ps_ret pe_non)))))))), ?_⟩
    walk_at "fl.w"
    refine g_yesB ok.av.1 ?_
    walk_at "fl.w"
    refine g_nB ok.av.2 ?_
    walk_at "fl.w"
    refine spD_app S [ouD g.outl] (.bool true) hS (.cons k2 .nil) ⟨g.outl, rfl, by have := ok.oz.1; omega, fun c m => by have := ok.oz.2 c m; omega, by rw [ok.ou]⟩ (fun v H2 sm2 hv => ?_)
    cases hv.blE
    have hA2 := sm2 _ _ hA
    have hb3' := sm2 _ _ hb3
    walk_at "fl.w"
    refine lcL (S := S) (fun i => (g.parts[i]?).map fun _ => .bool true) (hS.same sm2) (k3.same sm2) (by rw [List.length_map]; have := ok.pt.1; omega) ?_ ?_
    · intro D i x e G hD he sm al hxe R N hR hN
      obtain ⟨p, hp, rfl⟩ := at_map he
      obtain ⟨p0, p1, px, py⟩ := ok.pt.2 p (List.mem_of_getElem? hp)
      refine g_name ⟨rfl, ?_⟩
      walk_at "fl.w"
      exact spD_app (D :: S) [foD (cs mg) fo, .tuple (i3 p)] (.bool true) al (.cons (((h1.same sm2).new hD).same sm) (.cons hxe .nil)) ⟨fo, p, rfl, p0, p1, px, py, rfl⟩ (fun v H3 sm3 hv => hR _ _ _ (by rw [hp]; rfl) sm3 hv)
    intro D3 H3 sm3 hD3 hq3
    rw [fm_ltA (by rw [List.length_map])] at hq3
    refine allYes hq3 ?_
    have sm3 := sm2.trans sm3
    have hA3 := sm3 _ _ hA
    have hb4' := sm3 _ _ hb4
    walk_at "fl.w"
    refine lcL (S := S) (fun i => (g.anch[i]?).map fun _ => .bool true) (hS.same sm3) (k4.same sm3) (by rw [List.length_map]; have := ok.an.1; omega) ?_ ?_
    · intro D i x e G hD he sm al hxe R N hR hN
      obtain ⟨p, hp, rfl⟩ := at_map he
      obtain ⟨p0, p1, p2, px, py⟩ := ok.an.2 p (List.mem_of_getElem? hp)
      refine g_name ⟨rfl, ?_⟩
      walk_at "fl.w"
      exact spD_app (D :: S) [.tuple (s3i p)] (.bool true) al (.cons hxe .nil) ⟨p, rfl, p0, p1, p2, px, py, rfl⟩ (fun v H3 sm3 hv => hR _ _ _ (by rw [hp]; rfl) sm3 hv)
    intro D4 H4 sm4 hD4 hq4
    rw [fm_ltA (by rw [List.length_map])] at hq4
    refine allYes hq4 ?_
    have sm4 := sm3.trans sm4
    have hA4 := sm4 _ _ hA
    have hb6' := sm4 _ _ hb6
    walk_at "fl.w"
    refine lcL (S := S) (fun i => (g.deltas[i]?).map fun _ => .bool true) (hS.same sm4) (k6.same sm4) (by rw [List.length_map]; have := ok.de.1; omega) ?_ ?_
    · intro D i x e G hD he sm al hxe R N hR hN
      obtain ⟨p, hp, rfl⟩ := at_map he
      obtain ⟨p0, p1, p2, p3, px, py⟩ := ok.de.2 p (List.mem_of_getElem? hp)
      refine g_name ⟨rfl, ?_⟩
      walk_at "fl.w"
      exact spD_app (D :: S) [foD (cs mg) fo, glD (cs mg) g.R, .tuple (i4 p)] (.bool true) al (.cons (((h1.same sm4).new hD).same sm) (.cons (((h2.same sm4).new hD).same sm) (.cons hxe .nil))) ⟨fo, g, p, rfl, ok.oz.1, p0, p1, p2, p3, px, py, rfl⟩ (fun v H3 sm3 hv => hR _ _ _ (by rw [hp]; rfl) sm3 hv)
    intro D5 H5 sm5 hD5 hq5
    rw [fm_ltA (by rw [List.length_map])] at hq5
    refine allYes hq5 ?_
    have sm5 := sm4.trans sm5
    have hA5 := sm5 _ _ hA
    have hb7' := sm5 _ _ hb7
    walk_at "fl.w"
    refine lcL (S := S) (fun i => (g.hint[i]?).map fun _ => .bool true) (hS.same sm5) (k7.same sm5) (by rw [List.length_map]; have := ok.hi.1; omega) ?_ ?_
    · intro D i x e G hD he sm al hxe R N hR hN
      obtain ⟨p, hp, rfl⟩ := at_map he
      refine g_name ⟨rfl, ?_⟩
      walk_at "fl.w"
      exact spD_app (D :: S) [.tuple (s1i p)] (.bool true) al (.cons hxe .nil) ⟨p, rfl, ok.hi.2 p (List.mem_of_getElem? hp), rfl⟩ (fun v H3 sm3 hv => hR _ _ _ (by rw [hp]; rfl) sm3 hv)
    intro D6 H6 sm6 hD6 hq6
    rw [fm_ltA (by rw [List.length_map])] at hq6
    refine allYes hq6 ?_
    have sm6 := sm5.trans sm6
    walk_at "fl.w"
    exact q _ _ sm6 .non
/-- a check that a font passes -/
def fFvG (c : Cs) (VL : FoR → LkR → Prop) (ds : List PyData) (d : PyData) : Prop := ∃ f : FoG, f.Ok VL ∧ ds = [foD c f.R] ∧ d = .none
theorem ok_first_glyph_fault (T : Txt K mg) (I : WoK K w mg) (VL : FoR → LkR → Prop) : Has P w K mg base 4 "first_glyph_fault" ps_first_glyph_fault (spD (fFvG (cs mg) VL)) := by
  obtain ⟨_, _, _, _, _, _, _, _, _, _, _, _, _, _, cF⟩ := T.c_Font
  have clF := cF.cl
  have naF := cF.na
  have h_glyph_reason := ok_glyph_reason (P := P) (w := w) (base := base) T I
  refine has_of T.d_first_glyph_fault sc_first_glyph_fault bd_first_glyph_fault (fun vs H Q E h => ?_) (fun f cdv A outer s H vs Q E hr h => ?_)
  · obtain ⟨S, ds, d, _, hd, ⟨fo, fok, rfl, rfl⟩, _⟩ := h
    rw [hd.len]
    rfl
  · obtain ⟨S, ds, d, hS, hd, ⟨fo, fok, rfl, rfl⟩, q⟩ := h
    obtain ⟨v1, _, rfl, h1, hd⟩ := hd.consE
    cases hd.nilE
    have h1' := h1
    obtain ⟨fa, fdx, w1, w2, w3, w4, w5, w6, w7, w8, w9, rfl, fna, fA, j1, j2, j3, j4, j5, j6, j7, j8, j9⟩ := foE h1'
    obtain ⟨lb, ls, rfl, hlb, hll, hlD⟩ := lstN j2
    have hlD' : DqA S H ls (fo.glyphs.map fun k => glD (cs mg) k.R) := by
      simp only [FoG.R, List.map_map] at hlD
      exact hlD
    refine ⟨_, (pss_cons (ps_for PassesOwn.never rfl (piEnum (K := K) rfl (by rfl) T.z_enumerate (pa_cons (peFld (K := K) rfl (pv 0) rfl) pa_nil)) (pgT (n := 2) (K := K) rfl (by rfl) (pgs_cons (pg_name (i := 1) sc_first_glyph_fault.nd rfl (.inl rfl)) (pgs_cons (pg_name (i := 2) sc_first_glyph_fault.nd rfl (.inl rfl)) pgs_nil)))
        (pss_cons (ps_set (i := 3) sc_first_glyph_fault.nd rfl (.inl rfl) (pe_h h_glyph_reason (hr.mono (by decide)) (pa_cons (pv 0) (pa_cons (pv 2) pa_nil))))
      (pss_one (ps_if (pt_cmpR op_notN (pv 3) pe_non (nomark _))
        pss_never
        pss_nil))))
      (pss_one (ps_ret pe_non))), ?_⟩
    walk_at "fl.w"
    refine forK_e (xs := ls) (fun i σ' H' => (∃ u1 u2 u3, σ' = [some (.ref fa), u1, u2, u3]) ∧ Same H H') ⟨⟨_, _, _, rfl⟩, L2.Same.refl _⟩ ?_ ?_ ?_
    · intro i σ' H' _ ⟨_, e⟩
      exact SqL.of (e _ _ hlb)
    · intro i x t σ' H' hxi ⟨⟨u1, u2, u3, e1⟩, sm⟩ ht
      subst e1
      obtain ⟨k, hk1, hx⟩ := (hlD'.same sm).getM hxi
      have sm2 : Same H (upd H' t (.tup [.int (i : Int), x])) := L2.Same.trans sm (Fl.Same.new ht)
      have h1s := h1.same sm2
      have hxs := hx.same (Fl.Same.new ht (o := .tup [.int (i : Int), x]))
      have hS2 := hS.same sm2
      have hgk := fok.go k (List.mem_of_getElem? hk1)
      have hgk' : k.Ok fo.R.glyphs.length fo.R.regions.length := by
        show k.Ok (fo.glyphs.map GlG.R).length (fo.regs.map fun r => r.map i3).length
        rw [List.length_map, List.length_map]
        exact hgk
      refine g_gtup (SqT.of upd_same) rfl ?_
      walk_at "fl.w"
      refine spD_app S [foD (cs mg) fo.R, glD (cs mg) k.R] .none hS2 (.cons h1s (.cons hxs .nil)) ⟨_, k, rfl, hgk', rfl⟩ (fun v H3 sm3 hv => ?_)
      cases hv.nonE
      walk_at "fl.w"
      exact ⟨⟨_, _, _, rfl⟩, sm2.trans sm3⟩
    · intro σ' H' ⟨⟨u1, u2, u3, e1⟩, sm⟩
      subst e1
      walk_at "fl.w"
      exact q _ _ sm .non
end
section
variable {P : Program} {w : World} {K : PySem.W.Frag} {mg : Str → Option Value} {base : Heap}
local macro_rules | `(tactic| walk_at "fl.t") => `(tactic| (with_reducible refine g_chainW ?_))
local macro_rules | `(tactic| walk_at "fl.t") => `(tactic| (with_reducible refine g_ifE ?_))
local macro_rules | `(tactic| walk_at "fl.w") => `(tactic| repeat walk_at "fl.t")
/-- a dict of numbers: keys and values -/
def kvL (L : List (Nat × Int)) : List (Key × V) := L.map fun p => (.inl (p.1 : Int), .int p.2)
theorem kvL_len (L : List (Nat × Int)) : (kvL L).length = L.length := List.length_map _
theorem kvL_snoc (L : List (Nat × Int)) (k : Nat) (v : Int) : kvL L ++ [(.inl (k : Int), .int v)] = kvL (L ++ [(k, v)]) := by
  unfold kvL
  rw [List.map_append]
  rfl
theorem kvL_get (L : List (Nat × Int)) (k : Nat) : (valV (kvL L) (.inl (k : Int))).isSome = decide (k ∈ L.map Prod.fst) := by
  unfold valV kvL
  rw [Option.isSome_map, Bool.eq_iff_iff, List.find?_isSome, decide_eq_true_eq, List.mem_map]
  constructor
  · rintro ⟨x, hx, e⟩
    obtain ⟨p, hp, rfl⟩ := List.mem_map.mp hx
    refine ⟨p, hp, ?_⟩
    have : (p.1 : Int) = (k : Int) := by simpa using e
    omega
  · rintro ⟨p, hp, e⟩
    exact ⟨_, List.mem_map.mpr ⟨p, hp, rfl⟩, by rw [e]; simp⟩
theorem kvL_new {L : List (Nat × Int)} {k : Nat} (h : k ∉ L.map Prod.fst) : valV (kvL L) (.inl (k : Int)) = none := by
  have e := kvL_get L k
  rw [decide_eq_false h] at e
  cases hv : valV (kvL L) (.inl (k : Int)) with
  | none => rfl
  | some v => rw [hv] at e; cases e
theorem g_dyes {ty td : TE} {σ : L2.St} {H : Hp} {Q : VK} (h : ty σ H fun y H1 => td σ H1 fun x H2 => ∃ a o, x = .ref a ∧ DGet H2 a y o ∧ Q (.bl o.isSome) H2) : tDIn ty td σ H Q := h
def inKeys (L : List (Nat × Int)) (ps : List (Int × Int × Int)) : Bool := ps.all fun p => decide (p.1.toNat ∈ L.map Prod.fst)
def spHpG (c : Cs) : Sp := fun vs H Q _ => ∃ (S : List Addr) (v : V) (p : Addr) (g : GlG) (L : List (Nat × Int)), vs = [v, .ref p] ∧ Al S H ∧ p ∈ S ∧ Dq S H v (glD c g.R) ∧ H p = some (.dK (kvL L)) ∧ g.parts.length < 900 ∧ (∀ p, p ∈ g.parts → 0 ≤ p.1) ∧ ∀ H', Same H H' → Q (.bl (inKeys L g.parts)) H'
theorem ok_has_parts_in (T : Txt K mg) : Has P w K mg base 1 "has_parts_in" ps_has_parts_in (spHpG (cs mg)) := by
  obtain ⟨_, _, _, _, _, _, _, _, cG⟩ := T.c_Glyph
  have clG := cG.cl
  have naG := cG.na
  refine has_of T.d_has_parts_in sc_has_parts_in bd_has_parts_in (fun vs H Q E h => ?_) (fun f cdv A outer s H vs Q E hr h => ?_)
  · obtain ⟨S, v, y, g, L, rfl, _⟩ := h
    rfl
  · obtain ⟨S, v, pd, g, L, rfl, hS, hpS, h2, hpd, hz, h0, q⟩ := h
    obtain ⟨a, dx, u1, u2, u3, u4, u5, u6, u7, rfl, na, hA, k1, k2, k3, k4, k5, k6, k7⟩ := glE h2
    have k3 : Dq S H u3 (.list (g.parts.map fun p => .tuple (i3 p))) := ltD_map i3 g.parts ▸ k3
    obtain ⟨b3, xs, rfl, n3, hb3, hX⟩ := k3.lstE
    refine ⟨_, (pss_one (ps_ret (pe_callB (clAll (K := K) rfl rfl) (by rfl) T.z_all (by decide +kernel) (pa_cons (pe_lc (own := [("part", 2)]) rfl sc_has_parts_in.nd (piL (K := K) rfl (peFld (K := K) rfl (pv 0) rfl)) (blkOk_by (by kernel_rfl)) (fun _ _ _ _ _ => (pg_name (i := 2) sc_has_parts_in.nd rfl (.inl rfl))) (fun _ _ _ _ _ => pts_nil) (fun _ _ _ _ _ => (pe_cmp (pc_din (hu_of hr) (pe_ix (ixT (K := K) rfl) (pv 2) pe_int (fun _ _ => rfl)) (pv 1))))) pa_nil)))), ?_⟩
    walk_at "fl.w"
    refine lcL (S := S) (fun i => (g.parts[i]?).map fun p => .bool (decide (p.1.toNat ∈ L.map Prod.fst))) hS (.lst n3 hb3 hX) (by rw [List.length_map]; omega) ?_ ?_
    · intro D i x e G hD he sm al hxe R N hR hN
      obtain ⟨p, hp, rfl⟩ := at_map he
      have hp0 := h0 p (List.mem_of_getElem? hp)
      obtain ⟨t, ts, rfl, nt, ht, hT⟩ := hxe.tupE
      obtain ⟨_, _, rfl, x1, hT⟩ := hT.consE
      obtain ⟨_, _, rfl, x2, hT⟩ := hT.consE
      obtain ⟨_, _, rfl, x3, hT⟩ := hT.consE
      cases hT.nilE
      cases x1.intE
      have hpd' := sm _ _ hpd
      refine g_name ⟨rfl, ?_⟩
      walk_at "fl.w"
      refine g_dyes ?_
      walk_at "fl.w"
      have dg := DGet.k (k := .inl ((p.1.toNat : Nat) : Int)) hpd'
      rw [show ((p.1.toNat : Nat) : Int) = p.1 by omega] at dg
      refine ⟨pd, _, rfl, dg, ?_⟩
      have e1 := kvL_get L p.1.toNat
      rw [show ((p.1.toNat : Nat) : Int) = p.1 by omega] at e1
      rw [e1]
      exact hR _ _ _ (by rw [hp]; rfl) (L2.Same.refl _) (.bl _)
    · intro D G sm hD hq
      have em : (List.range (g.parts.map fun p => PyData.tuple (i3 p)).length).filterMap (fun i => (g.parts[i]?).map fun p => PyData.bool (decide (p.1.toNat ∈ L.map Prod.fst))) = (g.parts.map fun p => decide (p.1.toNat ∈ L.map Prod.fst)).map PyData.bool := by
        rw [List.length_map, fm_ltA rfl, List.map_map]
        rfl
      rw [em] at hq
      obtain ⟨_, ys, e, _, hb, hY⟩ := hq.lstE
      cases e
      have bools_of : ∀ (bs : List Bool) (ys : List V), DqA S G ys (bs.map PyData.bool) → ys = bs.map V.bl := by
        intro bs
        induction bs with
        | nil => intro ys h; cases h; rfl
        | cons b bs ih =>
          intro ys h
          rw [List.map_cons] at h
          obtain ⟨v, ws, rfl, hv, h2⟩ := h.consE
          cases hv.blE
          rw [ih ws h2]
          rfl
      rw [bools_of _ _ hY] at hb
      walk_at "fl.w"
      have e2 : ((g.parts.map fun p => decide (p.1.toNat ∈ L.map Prod.fst)).all id) = inKeys L g.parts := by
        unfold inKeys
        rw [List.all_map]
        rfl
      first
        | (rw [e2]; exact q _ sm)
        | (refine g_allL (SqL.of hb) ?_; rw [e2]; exact q _ sm)
/-- the keys that a level finds -/
def lev (gs : List GlG) (L : List (Nat × Int)) : List Nat := (List.range gs.length).filter fun k => !decide (k ∈ L.map Prod.fst) && match gs[k]? with
  | none => false
  | some g => inKeys L g.parts
/-- the keys before level i -/
def keysAt (gs : List GlG) : Nat → List (Nat × Int)
  | 0 => []
  | i + 1 => keysAt gs i ++ (lev gs (keysAt gs i)).map fun k => (k, (i : Int))
theorem keys_ok (gs : List GlG) : ∀ i, ((keysAt gs i).map Prod.fst).Nodup ∧ ∀ k, k ∈ (keysAt gs i).map Prod.fst → k < gs.length
  | 0 => ⟨List.nodup_nil, fun k m => nomatch m⟩
  | i + 1 => by
    obtain ⟨a, b⟩ := keys_ok gs i
    have e : (keysAt gs (i + 1)).map Prod.fst = (keysAt gs i).map Prod.fst ++ lev gs (keysAt gs i) := by
      show (keysAt gs i ++ (lev gs (keysAt gs i)).map fun k => (k, (i : Int))).map Prod.fst = _
      rw [List.map_append, List.map_map]
      congr 1
      exact List.map_id' _
    rw [e]
    refine ⟨List.nodup_append.mpr ⟨a, List.Nodup.sublist List.filter_sublist List.nodup_range, fun x hx y hy q => ?_⟩, fun k m => ?_⟩
    · subst q
      have := (List.mem_filter.mp hy).2
      rw [decide_eq_true hx] at this
      simp at this
    · rcases List.mem_append.mp m with m | m
      · exact b k m
      · exact List.mem_range.mp (List.mem_filter.mp m).1
theorem filt_add (p : Nat → Bool) : ∀ l : List Nat, l.length = (l.filter p).length + (l.filter fun k => !p k).length
  | [] => rfl
  | x :: l => by
    have ih := filt_add p l
    rw [List.filter_cons, List.filter_cons, List.length_cons]
    cases h : p x
    · simp
      omega
    · simp
      omega
theorem all_bound : ∀ (n : Nat) (l : List Nat), (∀ k, k < n → k ∈ l) → n ≤ l.length
  | 0, _, _ => Nat.zero_le _
  | n + 1, l, h => by
    have h2 := all_bound n (l.filter fun k => decide (k ≠ n)) (fun k hk => List.mem_filter.mpr ⟨h k (by omega), by simp; omega⟩)
    have h3 := filt_add (fun k => decide (k ≠ n)) l
    have h4 : 0 < (l.filter fun k => !decide (k ≠ n)).length := List.length_pos_of_mem (List.mem_filter.mpr ⟨h n (by omega), by simp⟩)
    omega
theorem nodup_bound : ∀ (n : Nat) (l : List Nat), l.Nodup → (∀ k, k ∈ l → k < n) → l.length ≤ n
  | 0, l, _, h => by
    cases l with
    | nil => exact Nat.le_refl _
    | cons k l => exact absurd (h k List.mem_cons_self) (Nat.not_lt_zero _)
  | n + 1, l, hd, h => by
    have h2 := nodup_bound n (l.filter fun k => decide (k ≠ n)) (List.Nodup.sublist List.filter_sublist hd) (fun k m => by
      obtain ⟨m1, m2⟩ := List.mem_filter.mp m
      have := h k m1
      simp at m2
      omega)
    have h3 := filt_add (fun k => decide (k ≠ n)) l
    have h4 : (l.filter fun k => !decide (k ≠ n)).length ≤ 1 := by
      have hn : (l.filter fun k => !decide (k ≠ n)).Nodup := List.Nodup.sublist List.filter_sublist hd
      have he : ∀ k, k ∈ (l.filter fun k => !decide (k ≠ n)) → k = n := fun k m => by
        have := (List.mem_filter.mp m).2
        simpa using this
      generalize (l.filter fun k => !decide (k ≠ n)) = m at hn he
      match m, hn, he with
      | [], _, _ => exact Nat.zero_le _
      | [_], _, _ => exact Nat.le_refl _
      | x :: y :: m, hn, he =>
        have e1 := he x List.mem_cons_self
        have e2 := he y (by simp)
        rw [e1, e2] at hn
        exact absurd hn (by simp)
    omega
theorem all_len {n : Nat} {l : List Nat} (hd : l.Nodup) (h : ∀ k, k ∈ l → k < n) (hall : ∀ k, k < n → k ∈ l) : l.length = n := by
  have h1 := nodup_bound n l hd h
  have h2 := all_bound n l hall
  omega
/-- every glyph is found: at level i all that are no deeper -/
theorem keys_all {gs : List GlG} {dep : Nat → Nat} (h : ∀ k g, gs[k]? = some g → dep k ≤ 4 ∧ ∀ p, p ∈ g.parts → dep p.1.toNat < dep k) (hp : ∀ (k : Nat) (g : GlG), gs[k]? = some g → ∀ p, p ∈ g.parts → p.1.toNat < gs.length) : ∀ i k, k < gs.length → dep k < i → k ∈ (keysAt gs i).map Prod.fst
  | 0, k, _, hd => absurd hd (Nat.not_lt_zero _)
  | i + 1, k, hk, hd => by
    have e : (keysAt gs (i + 1)).map Prod.fst = (keysAt gs i).map Prod.fst ++ lev gs (keysAt gs i) := by
      show (keysAt gs i ++ (lev gs (keysAt gs i)).map fun k => (k, (i : Int))).map Prod.fst = _
      rw [List.map_append, List.map_map]
      congr 1
      exact List.map_id' _
    rw [e]
    by_cases m : k ∈ (keysAt gs i).map Prod.fst
    · exact List.mem_append_left _ m
    · refine List.mem_append_right _ (List.mem_filter.mpr ⟨List.mem_range.mpr hk, ?_⟩)
      have hg : gs[k]? = some gs[k] := List.getElem?_eq_getElem hk
      rw [hg, decide_eq_false m]
      simp only [Bool.not_false, Bool.true_and]
      unfold inKeys
      refine List.all_eq_true.mpr fun p hpm => decide_eq_true ?_
      have h1 := (h k _ hg).2 p hpm
      exact keys_all h hp i _ (hp k _ hg p hpm) (by omega)
theorem keys_len {gs : List GlG} {dep : Nat → Nat} (h : ∀ k g, gs[k]? = some g → dep k ≤ 4 ∧ ∀ p, p ∈ g.parts → dep p.1.toNat < dep k) (hp : ∀ (k : Nat) (g : GlG), gs[k]? = some g → ∀ p, p ∈ g.parts → p.1.toNat < gs.length) : (keysAt gs 5).length = gs.length := by
  obtain ⟨a, b⟩ := keys_ok gs 5
  have := all_len a b fun k hk => keys_all h hp 5 k hk (by
    have := (h k _ (List.getElem?_eq_getElem hk)).1
    omega)
  rwa [List.length_map] at this
theorem fm_filter (f : Nat → PyData) (p : Nat → Bool) : ∀ n : Nat, (List.range n).filterMap (fun j => if p j = true then some (f j) else none) = ((List.range n).filter p).map f
  | 0 => rfl
  | n + 1 => by
    rw [List.range_succ, List.filterMap_append, List.filter_append, List.map_append, fm_filter f p n]
    congr 1
    cases h : p n
    · simp [h]
    · simp [h]
def spDepG (c : Cs) : Sp := fun vs H Q _ => ∃ (S : List Addr) (v : V) (gs : List GlG), vs = [v] ∧ Al S H ∧ Dq S H v (.list (gs.map fun g => glD c g.R)) ∧ gs.length ≤ 60 ∧ (∀ g, g ∈ gs → g.parts.length < 900 ∧ ∀ p, p ∈ g.parts → 0 ≤ p.1) ∧ ∀ p H', Same H H' → H' p = some (.dK (kvL (keysAt gs 5))) → Q (.ref p) H'
theorem ok_depths_of (T : Txt K mg) : Has P w K mg base 2 "depths_of" ps_depths_of (spDepG (cs mg)) := by
  have h_has_parts_in := ok_has_parts_in (P := P) (w := w) (base := base) T
  refine has_of T.d_depths_of sc_depths_of bd_depths_of (fun vs H Q E h => ?_) (fun f cdv A outer s H vs Q E hr h => ?_)
  · obtain ⟨S, v, gs, rfl, _⟩ := h
    rfl
  · obtain ⟨S, v, gs, rfl, hS, h1, hz, hpp, q⟩ := h
    obtain ⟨a, xs, rfl, ha, hl, hD⟩ := lstN h1
    refine ⟨_, (pss_cons (ps_set (i := 1) sc_depths_of.nd rfl (.inr rfl) pe_dnewK)
      (pss_cons (ps_for PassesOwn.never rfl (pi_range1 (by rfl) T.z_range (pa_cons (pe_op op_add (pe_gv (by rfl) T.g_DEEPEST) pe_int) pa_nil)) (pg_name (i := 2) sc_depths_of.nd rfl (.inl rfl))
        (pss_cons (ps_setLc (i := 4) (own := [("k", 3)]) rfl sc_depths_of.nd rfl rfl (sw_true rfl rfl rfl (by decide +kernel)) (pi_range1 (by rfl) T.z_range (pa_cons (pe_callB (clLen (K := K) rfl) (by rfl) T.z_len (by decide +kernel) (pa_cons (pv 0) pa_nil)) pa_nil)) (blkOk_by (by kernel_rfl)) (fun _ _ _ _ _ => (pg_name (i := 3) sc_depths_of.nd rfl (.inl rfl))) (fun _ _ _ _ _ => (pts_one (PW.pt (pw_and (pt_cmp (pc_dnotin (hu_of hr) (pv 3) (pv 1))) (pw_and1 (pt_val (pe_h h_has_parts_in (hr.mono (by decide)) (pa_cons (pe_ix (ixL (K := K) rfl) (pv 0) (pv 3) (fun _ _ => rfl)) (pa_cons (pv 1) pa_nil))))))))) (fun _ _ _ _ _ => (pv 3)))
      (pss_one (ps_for PassesOwn.never rfl (piL (K := K) rfl (pv 4)) (pg_name (i := 3) sc_depths_of.nd rfl (.inl rfl))
        (pss_one (ps_dput (hu_of hr) (pv 1) (pv 3) (pv 2) rfl))))))
      (pss_one (ps_ret (pv 1))))), ?_⟩
    walk_at "fl.w"
    unfold tDNewK
    intro p hp
    have hap : a ≠ p := fun e => by rw [e, hp] at ha; cases ha
    have alp : Al (p :: S) (upd H p (.dK [])) := .cons (by rw [upd_same]; simp) (hS.same (Fl.Same.new hp))
    have hDp : DqA (p :: S) (upd H p (.dK [])) xs (gs.map fun g => glD (cs mg) g.R) := (hD.new hp).same (Fl.Same.new hp)
    have hap0 : upd H p (.dK []) a = some (.lst xs) := by rw [upd_ne hap]; exact ha
    walk_at "fl.w"
    refine forK_r (fun i σ' H' => (∃ u2 u3 u4, σ' = [some (.ref a), some (.ref p), u2, u3, u4]) ∧ Fr [p] (upd H p (.dK [])) H' ∧ H' p = some (.dK (kvL (keysAt gs i)))) ⟨⟨_, _, _, rfl⟩, Fr.refl, upd_same⟩ ?_ ?_
    · intro i σ' H' hi ⟨⟨u2, u3, u4, e⟩, hf, hpk⟩
      subst e
      have al1 : Al (p :: S) H' := alp.fr hf (.cons (by rw [hpk]; simp) .nil)
      have hD1 : DqA (p :: S) H' xs (gs.map fun g => glD (cs mg) g.R) := hDp.fr (hf.mono fun b m => by rw [show b = p by simpa using m]; exact List.mem_cons_self)
      have ha1 : H' a = some (.lst xs) := hf a _ (by simpa using hap) hap0
      obtain ⟨kn, kb⟩ := keys_ok gs i
      have kl : (keysAt gs i).length ≤ gs.length := by
        have := nodup_bound gs.length _ kn kb
        rwa [List.length_map] at this
      walk_at "fl.w"
      refine lcR (S := p :: S) (fun j => if (!decide (j ∈ (keysAt gs i).map Prod.fst) && match gs[j]? with | none => false | some g => inKeys (keysAt gs i) g.parts) = true then some (.int (j : Int)) else none) al1 (by omega) ?_ ?_
      · intro D j H2 hDn hj sm al R N hR hN
        have hj' : j < xs.length := by omega
        obtain ⟨g, hg⟩ : ∃ g, gs[j]? = some g := ⟨_, List.getElem?_eq_getElem (by omega)⟩
        obtain ⟨x, hx, hxD⟩ := (hD1.same sm).getD (i := j) (by rw [List.getElem?_map, hg]; rfl)
        have hat : atI xs (j : Int) = some x := atI_nat (j := j) hx
        have ha2 := sm _ _ ha1
        have hp2 := sm _ _ hpk
        obtain ⟨gz, g0⟩ := hpp g (List.mem_of_getElem? hg)
        rw [Int.zero_add]
        refine g_name ⟨rfl, ?_⟩
        walk_at "fl.w"
        refine g_tB (g_dn ?_)
        walk_at "fl.w"
        refine ⟨p, _, rfl, DGet.k (k := .inl (j : Int)) hp2, ?_⟩
        rw [kvL_get]
        by_cases hk : j ∈ (keysAt gs i).map Prod.fst
        · rw [decide_eq_true hk]
          simp only [Bool.not_true]
          walk_at "fl.w"
          exact hN (by rw [decide_eq_true hk]; simp) _ (L2.Same.refl _)
        · rw [decide_eq_false hk]
          simp only [Bool.not_false]
          walk_at "fl.w"
          refine ⟨p :: S, _, _, g, keysAt gs i, rfl, al1.same sm, by simp, hxD, hp2, gz, g0, fun H3 sm3 => ?_⟩
          by_cases hin : inKeys (keysAt gs i) g.parts = true
          · rw [hin]
            walk_at "fl.w"
            exact hR _ _ _ (by rw [decide_eq_false hk, hg]; simp [hin]) sm3 (.int _)
          · rw [show inKeys (keysAt gs i) g.parts = false by simpa using hin]
            walk_at "fl.w"
            exact hN (by rw [decide_eq_false hk, hg]; simp [hin]) _ sm3
      · intro D H2 sm hDn hq
        rw [fm_filter (fun j => .int (j : Int))] at hq
        have hp2 := sm _ _ hpk
        obtain ⟨_, ys, e, _, hy, hY⟩ := hq.lstE
        cases e
        have hDp' : D ≠ p := fun e => by rw [e, hpk] at hDn; cases hDn
        walk_at "fl.w"
        have hlx : (xs.length : Int).toNat = gs.length := by omega
        rw [hlx] at hY
        have hY : DqA (p :: S) H2 ys ((lev gs (keysAt gs i)).map fun j : Nat => PyData.int (j : Int)) := hY
        obtain ⟨Fl', hFl⟩ : ∃ L, L = lev gs (keysAt gs i) := ⟨_, rfl⟩
        rw [← hFl] at hY
        have hnd : ((keysAt gs i).map Prod.fst ++ Fl').Nodup := by
          have := (keys_ok gs (i + 1)).1
          rw [show (keysAt gs (i + 1)).map Prod.fst = (keysAt gs i).map Prod.fst ++ Fl' by
            show (keysAt gs i ++ (lev gs (keysAt gs i)).map fun k => (k, (i : Int))).map Prod.fst = _
            rw [List.map_append, List.map_map, ← hFl]
            congr 1
            exact List.map_id' _] at this
          exact this
        have hkb : Fl'.length ≤ gs.length := nodup_bound gs.length _ (List.nodup_append.mp hnd).2.1 (fun k m => by
          rw [hFl] at m
          exact List.mem_range.mp (List.mem_filter.mp m).1)
        have hly : ys.length = Fl'.length := by rw [hY.len, List.length_map]
        refine forK_l (xs := ys) (fun j σ' Hq => (∃ u3, σ' = [some (.ref a), some (.ref p), some (.int (0 + (i : Int))), u3, some (.ref D)]) ∧ Fr [p] H2 Hq ∧ Hq p = some (.dK (kvL (keysAt gs i ++ (Fl'.take j).map fun k => (k, (i : Int)))))) ⟨⟨_, rfl⟩, Fr.refl, by rw [List.take_zero, List.map_nil, List.append_nil]; exact hp2⟩ ?_ ?_ ?_
        · intro j σ' Hq _ ⟨_, f2, _⟩
          exact SqL.of (f2 _ _ (by simpa using hDp') hy)
        · intro j x σ' Hq hx ⟨⟨u3, e⟩, f2, hk⟩
          subst e
          have hjl : j < Fl'.length := by
            have := (List.getElem?_eq_some_iff.mp hx).1
            omega
          have hFj : Fl'[j]? = some Fl'[j] := List.getElem?_eq_getElem hjl
          obtain ⟨d, hd1, hd2⟩ := hY.get hx
          rw [List.getElem?_map, hFj] at hd1
          cases hd1
          cases hd2.intE
          have hnew : Fl'[j] ∉ (keysAt gs i ++ (Fl'.take j).map fun k => (k, (i : Int))).map Prod.fst := by
            intro m
            rw [List.map_append, List.map_map] at m
            rcases List.mem_append.mp m with m | m
            · exact (List.nodup_append.mp hnd).2.2 _ m _ (List.getElem_mem hjl) rfl
            · have m : Fl'[j] ∈ Fl'.take j := by
                obtain ⟨y, hy, e⟩ := List.mem_map.mp m
                rw [← e]; exact hy
              have hn2 := (List.nodup_append.mp hnd).2.1
              obtain ⟨i2, hi2, e⟩ := List.getElem_of_mem m
              rw [List.length_take] at hi2
              rw [List.getElem_take] at e
              exact List.pairwise_iff_getElem.mp hn2 i2 j (by omega) hjl (by omega) e
          walk_at "fl.w"
          refine g_dp ?_
          walk_at "fl.w"
          refine ⟨p, _, rfl, DPut.k (k := .inl (Fl'[j] : Int)) hk (by
            rw [kvL_len, List.length_append, List.length_map, List.length_take]
            have : (1000 : Nat) ≤ sizeLine := by decide
            omega), ?_⟩
          refine ⟨⟨_, rfl⟩, f2.trans (Fr.upd (by simp)), ?_⟩
          rw [upd_same, putK_new _ (kvL_new hnew), show (0 : Int) + (i : Int) = (i : Int) by omega, kvL_snoc, List.append_assoc]
          have : (Fl'.take j).map (fun k => (k, (i : Int))) ++ [(Fl'[j], (i : Int))] = (Fl'.take (j + 1)).map fun k => (k, (i : Int)) := by
            rw [List.take_succ, hFj, List.map_append]
            rfl
          rw [this]
        · intro σ' Hq ⟨⟨u3, e⟩, f2, hk⟩
          subst e
          refine ⟨⟨_, _, _, rfl⟩, (hf.trans (Fr.same sm)).trans f2, ?_⟩
          rw [hk, List.take_of_length_le (by omega), hFl]
          rfl
    · intro σ' H' ⟨⟨u2, u3, u4, e⟩, hf, hpk⟩
      subst e
      walk_at "fl.w"
      exact q p H' (sm_of hp (by exact fun b o n e => hf b o n (by rw [upd_ne (by simpa using n)]; exact e))) hpk
theorem ok_parts_reason (T : Txt K mg) (VL : FoR → LkR → Prop) : Has P w K mg base 3 "parts_reason" ps_parts_reason (spD (fFvG (cs mg) VL)) := by
  obtain ⟨_, _, _, _, _, _, _, _, _, _, _, _, _, _, cF⟩ := T.c_Font
  have clF := cF.cl
  have naF := cF.na
  have h_depths_of := ok_depths_of (P := P) (w := w) (base := base) T
  refine has_of T.d_parts_reason sc_parts_reason bd_parts_reason (fun vs H Q E h => ?_) (fun f cdv A outer s H vs Q E hr h => ?_)
  · obtain ⟨S, ds, d, _, hd, ⟨fo, fok, rfl, rfl⟩, _⟩ := h
    rw [hd.len]
    rfl
  · obtain ⟨S, ds, d, hS, hd, ⟨fo, fok, rfl, rfl⟩, q⟩ := h
    obtain ⟨v1, _, rfl, h1, hd⟩ := hd.consE
    cases hd.nilE
    obtain ⟨fa, fdx, w1, w2, w3, w4, w5, w6, w7, w8, w9, rfl, fna, fA, j1, j2, j3, j4, j5, j6, j7, j8, j9⟩ := foE h1
    have j2' : Dq S H w2 (.list (fo.glyphs.map fun g => glD (cs mg) g.R)) := by
      simp only [FoG.R, List.map_map] at j2
      exact j2
    obtain ⟨b, xs, rfl, hb, hl, _⟩ := lstN j2'
    obtain ⟨dep, hdep⟩ := fok.dp
    refine ⟨_, (pss_cons (ps_if (pt_cmpR op_lt (pe_callB call_lenD (by rfl) T.z_len (by decide +kernel) (pa_cons (pe_h h_depths_of (hr.mono (by decide)) (pa_cons (peFld (K := K) rfl (pv 0) rfl) pa_nil)) pa_nil)) (pe_callB (clLen (K := K) rfl) (by rfl) T.z_len (by decide +kernel) (pa_cons (peFld (K := K) rfl (pv 0) rfl) pa_nil)) (nomark _))
        pss_never
        pss_nil)
      (pss_one (ps_ret pe_non))), ?_⟩
    walk_at "fl.w"
    refine ⟨S, _, fo.glyphs, rfl, hS, j2', fok.gl.2, fun g m => ⟨(fok.go g m).pt.1, fun p mp => ((fok.go g m).pt.2 p mp).1⟩, fun p H2 sm hp => ?_⟩
    have hk := keys_len hdep (fun k g hg p mp => by
      have := (fok.go g (List.mem_of_getElem? hg)).pt.2 p mp
      omega)
    have fA2 := sm _ _ fA
    have hb2 := sm _ _ hb
    walk_at "fl.w"
    refine ⟨p, _, rfl, hp, ?_⟩
    walk_at "fl.w"
    refine g_noB (by rw [kvL_len]; omega) ?_
    walk_at "fl.w"
    exact q _ _ sm .non
end
section
variable {P : Program} {w : World} {K : PySem.W.Frag} {mg : Str → Option Value} {base : Heap}
local macro_rules | `(tactic| walk_at "fl.t") => `(tactic| (with_reducible refine g_chainW ?_))
local macro_rules | `(tactic| walk_at "fl.t") => `(tactic| (with_reducible refine g_ifE ?_))
local macro_rules | `(tactic| walk_at "fl.w") => `(tactic| repeat walk_at "fl.t")
def fMr (ds : List PyData) (d : PyData) : Prop := ∃ (L : List PyData) (lo hi : Int), ds = [.list L, .int lo, .int hi] ∧ lo ≤ L.length ∧ (L.length : Int) ≤ hi ∧ d = .none
def fPl (ds : List PyData) (d : PyData) : Prop := ∃ x : Str, ds = [.str x, .none] ∧ d = .none
theorem ok_many_reason (T : Txt K mg) : Has P w K mg base 1 "many_reason" ps_many_reason (spD fMr) := by
  refine has_of T.d_many_reason sc_many_reason bd_many_reason (fun vs H Q E h => ?_) (fun f cdv A outer s H vs Q E hr h => ?_)
  · obtain ⟨S, ds, d, _, hd, ⟨L, lo, hi, rfl, _⟩, _⟩ := h
    rw [hd.len]
    rfl
  · obtain ⟨S, ds, d, hS, hd, ⟨L, lo, hi, rfl, z1, z2, rfl⟩, q⟩ := h
    obtain ⟨v1, _, rfl, h1, hd⟩ := hd.consE
    obtain ⟨v2, _, rfl, h2, hd⟩ := hd.consE
    obtain ⟨v3, _, rfl, h3, hd⟩ := hd.consE
    cases hd.nilE
    cases h2.intE
    cases h3.intE
    obtain ⟨b, xs, rfl, _, hb, hD⟩ := h1.lstE
    have hl := hD.len
    refine ⟨_, (pss_cons (ps_if (pt_not (pt_chain op_le op_le (pv 1) (pe_callB (clLen (K := K) rfl) (by rfl) T.z_len (by decide +kernel) (pa_cons (pv 0) pa_nil)) (pv 2)))
        pss_never
        pss_nil)
      (pss_one (ps_ret pe_non))), ?_⟩
    walk_at "fl.w"
    refine g_yesB (by rw [hl]; exact z1) ?_
    walk_at "fl.w"
    refine g_nB (by rw [hl]; exact z2) ?_
    walk_at "fl.w"
    exact q _ _ (L2.Same.refl _) .non
theorem ok_placed (T : Txt K mg) : Has P w K mg base 1 "placed" ps_placed (spD fPl) := by
  refine has_of T.d_placed sc_placed bd_placed (fun vs H Q E h => ?_) (fun f cdv A outer s H vs Q E hr h => ?_)
  · obtain ⟨S, ds, d, _, hd, ⟨x, rfl, rfl⟩, _⟩ := h
    rw [hd.len]
    rfl
  · obtain ⟨S, ds, d, hS, hd, ⟨x, rfl, rfl⟩, q⟩ := h
    obtain ⟨v1, _, rfl, h1, hd⟩ := hd.consE
    obtain ⟨v2, _, rfl, h2, hd⟩ := hd.consE
    cases hd.nilE
    cases h2.nonE
    refine ⟨_, (pss_cons (ps_if (pt_cmpR op_isN (pv 1) pe_non (nomark _))
        (pss_one (ps_ret pe_non))
        pss_nil)
      (pss_one (ps_ret (pe_tup (pa_cons (pv 0) (pa_cons (pv 1) pa_nil)))))), ?_⟩
    walk_at "fl.w"
    exact q _ _ (L2.Same.refl _) .non
theorem ok_unit_reason (T : Txt K mg) (VL : FoR → LkR → Prop) : Has P w K mg base 1 "unit_reason" ps_unit_reason (spD (fFvG (cs mg) VL)) := by
  obtain ⟨_, _, _, _, _, _, _, _, _, _, _, _, _, _, cF⟩ := T.c_Font
  have clF := cF.cl
  have naF := cF.na
  refine has_of T.d_unit_reason sc_unit_reason bd_unit_reason (fun vs H Q E h => ?_) (fun f cdv A outer s H vs Q E hr h => ?_)
  · obtain ⟨S, ds, d, _, hd, ⟨fo, fok, rfl, rfl⟩, _⟩ := h
    rw [hd.len]
    rfl
  · obtain ⟨S, ds, d, hS, hd, ⟨fo, fok, rfl, rfl⟩, q⟩ := h
    obtain ⟨v1, _, rfl, h1, hd⟩ := hd.consE
    cases hd.nilE
    obtain ⟨fa, fdx, w1, w2, w3, w4, w5, w6, w7, w8, w9, rfl, fna, fA, j1, j2, j3, j4, j5, j6, j7, j8, j9⟩ := foE h1
    have j1 : Dq S H w1 (.int fo.unit) := j1
    cases j1.intE
    have hu := fok.un
    refine ⟨_, (pss_cons (ps_if (pt_not (pt_chain op_le op_le pe_int (peFld (K := K) rfl (pv 0) rfl) (pe_gv (by rfl) T.g_FARTHEST)))
        pss_never
        pss_nil)
      (pss_one (ps_ret pe_non))), ?_⟩
    walk_at "fl.w"
    refine g_yesB hu.1 ?_
    walk_at "fl.w"
    refine g_nB hu.2 ?_
    walk_at "fl.w"
    exact q _ _ (L2.Same.refl _) .non
theorem ok_chars_reason (T : Txt K mg) (VL : FoR → LkR → Prop) : Has P w K mg base 1 "chars_reason" ps_chars_reason (spD (fFvG (cs mg) VL)) := by
  obtain ⟨_, _, _, _, _, _, _, _, _, _, _, _, _, _, cF⟩ := T.c_Font
  have clF := cF.cl
  have naF := cF.na
  refine has_of T.d_chars_reason sc_chars_reason bd_chars_reason (fun vs H Q E h => ?_) (fun f cdv A outer s H vs Q E hr h => ?_)
  · obtain ⟨S, ds, d, _, hd, ⟨fo, fok, rfl, rfl⟩, _⟩ := h
    rw [hd.len]
    rfl
  · obtain ⟨S, ds, d, hS, hd, ⟨fo, fok, rfl, rfl⟩, q⟩ := h
    obtain ⟨v1, _, rfl, h1, hd⟩ := hd.consE
    cases hd.nilE
    obtain ⟨fa, fdx, w1, w2, w3, w4, w5, w6, w7, w8, w9, rfl, fna, fA, j1, j2, j3, j4, j5, j6, j7, j8, j9⟩ := foE h1
    have j3 : Dq S H w3 (.list (fo.chars.map fun p => .tuple (i2 p))) := ltD_map i2 fo.chars ▸ j3
    obtain ⟨b, xs, rfl, _, hb, hD⟩ := j3.lstE
    obtain ⟨gb, gs, rfl, hgb, hgl, _⟩ := lstN j2
    have hgl : gs.length = fo.glyphs.length := by rw [hgl]; exact List.length_map _
    refine ⟨_, (pss_cons (ps_set (i := 1) sc_chars_reason.nd rfl (.inl rfl) (pe_un un_neg pe_int))
      (pss_cons (ps_for PassesOwn.never rfl (piL (K := K) rfl (peFld (K := K) rfl (pv 0) rfl)) (pgT (n := 2) (K := K) rfl (by rfl) (pgs_cons (pg_name (i := 2) sc_chars_reason.nd rfl (.inl rfl)) (pgs_cons (pg_name (i := 3) sc_chars_reason.nd rfl (.inl rfl)) pgs_nil)))
        (pss_cons (ps_if (pt_not (pt_chain op_lt op_le (pv 1) (pv 2) pe_int))
        pss_never
        pss_nil)
      (pss_cons (ps_if (pt_not (pt_chain op_le op_lt pe_int (pv 3) (pe_callB (clLen (K := K) rfl) (by rfl) T.z_len (by decide +kernel) (pa_cons (peFld (K := K) rfl (pv 0) rfl) pa_nil))))
        pss_never
        pss_nil)
      (pss_one (ps_set (i := 1) sc_chars_reason.nd rfl (.inl rfl) (pv 2))))))
      (pss_one (ps_ret pe_non)))), ?_⟩
    walk_at "fl.w"
    refine forK_l (xs := xs) (fun i σ' H' => (∃ u2 u3, σ' = [some (.ref fa), some (.int (prv (fo.chars.map Prod.fst) i)), u2, u3]) ∧ H' = H) ⟨⟨_, _, rfl⟩, rfl⟩ (fun i σ' H' _ ⟨_, e⟩ => by subst e; exact SqL.of hb) ?_ ?_
    · intro i x σ' H' hx ⟨⟨u2, u3, e⟩, e2⟩
      subst e e2
      obtain ⟨c, hc, dx⟩ := hD.getM hx
      obtain ⟨t, ts, rfl, nt, ht, hT⟩ := dx.tupE
      obtain ⟨_, _, rfl, x1, hT⟩ := hT.consE
      obtain ⟨_, _, rfl, x2, hT⟩ := hT.consE
      cases hT.nilE
      cases x1.intE
      cases x2.intE
      obtain ⟨c1, c2, c3, c4⟩ := fok.ch.2 i c hc
      refine g_gtup (SqT.of ht) rfl ?_
      walk_at "fl.w"
      refine g_yesB c1 ?_
      walk_at "fl.w"
      refine g_nB c2 ?_
      walk_at "fl.w"
      refine g_yesB c3 ?_
      walk_at "fl.w"
      refine g_nB (show c.2 < (gs.length : Int) by omega) ?_
      walk_at "fl.w"
      refine ⟨⟨_, _, by simp only [prv, List.getElem?_map, hc, Option.map_some, Option.getD_some]; rfl⟩, rfl⟩
    · intro σ' H' ⟨⟨u2, u3, e⟩, e2⟩
      subst e e2
      walk_at "fl.w"
      exact q _ _ (L2.Same.refl _) .non
theorem ok_functions_reason (T : Txt K mg) (I : WoK K w mg) (VL : FoR → LkR → Prop) : Has P w K mg base 2 "functions_reason" ps_functions_reason (spD (fFvG (cs mg) VL)) := by
  obtain ⟨_, _, _, _, _, _, _, _, _, _, _, _, _, _, cF⟩ := T.c_Font
  have clF := cF.cl
  have naF := cF.na
  have h_many_reason := ok_many_reason (P := P) (w := w) (base := base) T
  have h_is_instruction := ok_is_instruction (P := P) (w := w) (base := base) T I
  refine has_of T.d_functions_reason sc_functions_reason bd_functions_reason (fun vs H Q E h => ?_) (fun f cdv A outer s H vs Q E hr h => ?_)
  · obtain ⟨S, ds, d, _, hd, ⟨fo, fok, rfl, rfl⟩, _⟩ := h
    rw [hd.len]
    rfl
  · obtain ⟨S, ds, d, hS, hd, ⟨fo, fok, rfl, rfl⟩, q⟩ := h
    obtain ⟨v1, _, rfl, h1, hd⟩ := hd.consE
    cases hd.nilE
    obtain ⟨fa, fdx, w1, w2, w3, w4, w5, w6, w7, w8, w9, rfl, fna, fA, j1, j2, j3, j4, j5, j6, j7, j8, j9⟩ := foE h1
    have j8' := j8
    have e8 : ouD3 fo.R.functions = .list (fo.fns.map fun c => .list (c.map fun h => .tuple (s1i h))) := by
      show ouD3 (fo.fns.map fun c => c.map s1i) = _
      unfold ouD3
      rw [List.map_map]
      congr 1
      exact List.map_congr_left fun c _ => ltD_map s1i c
    rw [e8] at j8'
    have j8'' := j8'
    obtain ⟨b, xs, rfl, _, hb, hD⟩ := j8'.lstE
    refine ⟨_, (pss_cons (ps_for PassesOwn.never rfl (piL (K := K) rfl (peFld (K := K) rfl (pv 0) rfl)) (pg_name (i := 1) sc_functions_reason.nd rfl (.inl rfl))
        (pss_one (ps_if (pt_not (pt_val (pe_callB (clAll (K := K) rfl rfl) (by rfl) T.z_all (by decide +kernel) (pa_cons (pe_lc (own := [("step", 2)]) rfl sc_functions_reason.nd (piL (K := K) rfl (pv 1)) (blkOk_by (by kernel_rfl)) (fun _ _ _ _ _ => (pg_name (i := 2) sc_functions_reason.nd rfl (.inl rfl))) (fun _ _ _ _ _ => pts_nil) (fun _ _ _ _ _ => (pe_h h_is_instruction (hr.mono (by decide)) (pa_cons (pv 2) pa_nil)))) pa_nil))))
        pss_never
        pss_nil)))
      (pss_one (ps_ret (pe_h h_many_reason (hr.mono (by decide)) (pa_cons (peFld (K := K) rfl (pv 0) rfl) (pa_cons pe_int (pa_cons pe_int pa_nil))))))), ?_⟩
    walk_at "fl.w"
    refine forK_l (xs := xs) (fun i σ' H' => (∃ u1 u2, σ' = [some (.ref fa), u1, u2]) ∧ Same H H') ⟨⟨_, _, rfl⟩, L2.Same.refl _⟩ (fun i σ' H' _ ⟨_, e⟩ => SqL.of (e _ _ hb)) ?_ ?_
    · intro i x σ' H' hx ⟨⟨u1, u2, e⟩, sm⟩
      subst e
      obtain ⟨c, hc, dx⟩ := (hD.same sm).getM hx
      obtain ⟨cz, ck⟩ := fok.fn.2 c (List.mem_of_getElem? hc)
      have dx0 := dx
      obtain ⟨t, ts, rfl, nt, ht, hT⟩ := dx.lstE
      walk_at "fl.w"
      refine lcL (S := S) (fun i => (c[i]?).map fun _ => .bool true) (hS.same sm) dx0 (by rw [List.length_map]; omega) ?_ ?_
      · intro D j y e G hD he smG al hye R N hR hN
        obtain ⟨p, hp, rfl⟩ := at_map he
        refine g_name ⟨rfl, ?_⟩
        walk_at "fl.w"
        exact spD_app (D :: S) [.tuple (s1i p)] (.bool true) al (.cons hye .nil) ⟨p, rfl, ck p (List.mem_of_getElem? hp), rfl⟩ (fun v H3 sm3 hv => hR _ _ _ (by rw [hp]; rfl) sm3 hv)
      intro D3 H3 sm3 hD3 hq3
      rw [fm_ltA (by rw [List.length_map])] at hq3
      refine allYes hq3 ?_
      walk_at "fl.w"
      exact ⟨⟨_, _, rfl⟩, sm.trans sm3⟩
    · intro σ' H' ⟨⟨u1, u2, e⟩, sm⟩
      subst e
      have fA2 := sm _ _ fA
      walk_at "fl.w"
      exact spD_app S [_, .int 0, .int 12] .none (hS.same sm) (.cons (j8''.same sm) (.cons (.int _) (.cons (.int _) .nil))) ⟨_, _, _, rfl, by omega, by rw [List.length_map]; have := fok.fn.1; omega, rfl⟩ (fun v H3 sm3 hv => by cases hv.nonE; exact q _ _ (sm.trans sm3) .non)
theorem ok_presets_reason (T : Txt K mg) (VL : FoR → LkR → Prop) : Has P w K mg base 2 "presets_reason" ps_presets_reason (spD (fFvG (cs mg) VL)) := by
  obtain ⟨_, _, _, _, _, _, _, _, _, _, _, _, _, _, cF⟩ := T.c_Font
  have clF := cF.cl
  have naF := cF.na
  have h_many_reason := ok_many_reason (P := P) (w := w) (base := base) T
  refine has_of T.d_presets_reason sc_presets_reason bd_presets_reason (fun vs H Q E h => ?_) (fun f cdv A outer s H vs Q E hr h => ?_)
  · obtain ⟨S, ds, d, _, hd, ⟨fo, fok, rfl, rfl⟩, _⟩ := h
    rw [hd.len]
    rfl
  · obtain ⟨S, ds, d, hS, hd, ⟨fo, fok, rfl, rfl⟩, q⟩ := h
    obtain ⟨v1, _, rfl, h1, hd⟩ := hd.consE
    cases hd.nilE
    obtain ⟨fa, fdx, w1, w2, w3, w4, w5, w6, w7, w8, w9, rfl, fna, fA, j1, j2, j3, j4, j5, j6, j7, j8, j9⟩ := foE h1
    have j9 : Dq S H w9 (.list (fo.pres.map PyData.int)) := j9
    have j9' := j9
    obtain ⟨b, xs, rfl, _, hb, hD⟩ := j9'.lstE
    refine ⟨_, (pss_cons (ps_if (pt_not (pt_val (pe_callB (clAll (K := K) rfl rfl) (by rfl) T.z_all (by decide +kernel) (pa_cons (pe_lc (own := [("preset", 1)]) rfl sc_presets_reason.nd (piL (K := K) rfl (peFld (K := K) rfl (pv 0) rfl)) (blkOk_by (by kernel_rfl)) (fun _ _ _ _ _ => (pg_name (i := 1) sc_presets_reason.nd rfl (.inl rfl))) (fun _ _ _ _ _ => pts_nil) (fun _ _ _ _ _ => (pe_chain op_le op_le (pe_un un_neg pe_int) (pv 1) pe_int))) pa_nil))))
        pss_never
        pss_nil)
      (pss_one (ps_ret (pe_h h_many_reason (hr.mono (by decide)) (pa_cons (peFld (K := K) rfl (pv 0) rfl) (pa_cons pe_int (pa_cons pe_int pa_nil))))))), ?_⟩
    walk_at "fl.w"
    refine lcL (S := S) (fun i => (fo.pres[i]?).map fun _ => .bool true) hS j9 (by rw [List.length_map]; have := fok.ps.1; omega) ?_ ?_
    · intro D j y e G hD he smG al hye R N hR hN
      obtain ⟨p, hp, rfl⟩ := at_map he
      cases hye.intE
      obtain ⟨p0, p1⟩ := fok.ps.2 p (List.mem_of_getElem? hp)
      refine g_name ⟨rfl, ?_⟩
      walk_at "fl.w"
      refine g_yesB p0 ?_
      walk_at "fl.w"
      rw [decide_eq_true p1]
      exact hR _ _ _ (by rw [hp]; rfl) (L2.Same.refl _) (.bl _)
    intro D3 H3 sm3 hD3 hq3
    rw [fm_ltA (by rw [List.length_map])] at hq3
    refine allYes hq3 ?_
    have fA2 := sm3 _ _ fA
    walk_at "fl.w"
    exact spD_app S [_, .int 0, .int 32] .none (hS.same sm3) (.cons (j9.same sm3) (.cons (.int _) (.cons (.int _) .nil))) ⟨_, _, _, rfl, by omega, by rw [List.length_map]; have := fok.ps.1; omega, rfl⟩ (fun v H4 sm4 hv => by cases hv.nonE; exact q _ _ (sm3.trans sm4) .non)
end
section
variable {P : Program} {w : World} {K : PySem.W.Frag} {mg : Str → Option Value} {base : Heap}
local macro_rules | `(tactic| walk_at "fl.t") => `(tactic| (with_reducible refine g_chainW ?_))
local macro_rules | `(tactic| walk_at "fl.t") => `(tactic| (with_reducible refine g_ifE ?_))
local macro_rules | `(tactic| walk_at "fl.w") => `(tactic| repeat walk_at "fl.t")
def fLkr (c : Cs) (VL : FoR → LkR → Prop) (ds : List PyData) (d : PyData) : Prop := ∃ (f : FoR) (k : LkR), ds = [foD c f, lkD c k] ∧ VL f k ∧ d = .none
theorem ok_first_lookup_fault (T : Txt K mg) (VL : FoR → LkR → Prop) (h_lookup_reason : Has P w K mg base 4 "lookup_reason" ps_lookup_reason (spD (fLkr (cs mg) VL))) : Has P w K mg base 5 "first_lookup_fault" ps_first_lookup_fault (spD (fFvG (cs mg) VL)) := by
  obtain ⟨_, _, _, _, _, _, _, _, _, _, _, _, _, _, cF⟩ := T.c_Font
  have clF := cF.cl
  have naF := cF.na
  refine has_of T.d_first_lookup_fault sc_first_lookup_fault bd_first_lookup_fault (fun vs H Q E h => ?_) (fun f cdv A outer s H vs Q E hr h => ?_)
  · obtain ⟨S, ds, d, _, hd, ⟨fo, fok, rfl, rfl⟩, _⟩ := h
    rw [hd.len]
    rfl
  · obtain ⟨S, ds, d, hS, hd, ⟨fo, fok, rfl, rfl⟩, q⟩ := h
    obtain ⟨v1, _, rfl, h1, hd⟩ := hd.consE
    cases hd.nilE
    have h1' := h1
    obtain ⟨fa, fdx, w1, w2, w3, w4, w5, w6, w7, w8, w9, rfl, fna, fA, j1, j2, j3, j4, j5, j6, j7, j8, j9⟩ := foE h1'
    have j4 : Dq S H w4 (.list (fo.lks.map (lkD (cs mg)))) := j4
    obtain ⟨lb, ls, rfl, hlb, hll, hlD⟩ := lstN j4
    refine ⟨_, (pss_cons (ps_for PassesOwn.never rfl (piEnum (K := K) rfl (by rfl) T.z_enumerate (pa_cons (peFld (K := K) rfl (pv 0) rfl) pa_nil)) (pgT (n := 2) (K := K) rfl (by rfl) (pgs_cons (pg_name (i := 1) sc_first_lookup_fault.nd rfl (.inl rfl)) (pgs_cons (pg_name (i := 2) sc_first_lookup_fault.nd rfl (.inl rfl)) pgs_nil)))
        (pss_cons (ps_set (i := 3) sc_first_lookup_fault.nd rfl (.inl rfl) (pe_h h_lookup_reason (hr.mono (by decide)) (pa_cons (pv 0) (pa_cons (pv 2) pa_nil))))
      (pss_one (ps_if (pt_cmpR op_notN (pv 3) pe_non (nomark _))
        pss_never
        pss_nil))))
      (pss_one (ps_ret pe_non))), ?_⟩
    walk_at "fl.w"
    refine forK_e (xs := ls) (fun i σ' H' => (∃ u1 u2 u3, σ' = [some (.ref fa), u1, u2, u3]) ∧ Same H H') ⟨⟨_, _, _, rfl⟩, L2.Same.refl _⟩ ?_ ?_ ?_
    · intro i σ' H' _ ⟨_, e⟩
      exact SqL.of (e _ _ hlb)
    · intro i x t σ' H' hxi ⟨⟨u1, u2, u3, e1⟩, sm⟩ ht
      subst e1
      obtain ⟨k, hk1, hx⟩ := (hlD.same sm).getM hxi
      have sm2 : Same H (upd H' t (.tup [.int (i : Int), x])) := L2.Same.trans sm (Fl.Same.new ht)
      have h1s := h1.same sm2
      have hxs := hx.same (Fl.Same.new ht (o := .tup [.int (i : Int), x]))
      have hS2 := hS.same sm2
      refine g_gtup (SqT.of upd_same) rfl ?_
      walk_at "fl.w"
      refine spD_app S [foD (cs mg) fo.R, lkD (cs mg) k] .none hS2 (.cons h1s (.cons hxs .nil)) ⟨_, k, rfl, fok.lo k (List.mem_of_getElem? hk1), rfl⟩ (fun v H3 sm3 hv => ?_)
      cases hv.nonE
      walk_at "fl.w"
      exact ⟨⟨_, _, _, rfl⟩, sm2.trans sm3⟩
    · intro σ' H' ⟨⟨u1, u2, u3, e1⟩, sm⟩
      subst e1
      walk_at "fl.w"
      exact q _ _ sm .non
end
section
variable {P : Program} {w : World} {K : PySem.W.Frag} {mg : Str → Option Value} {base : Heap}
local macro_rules | `(tactic| walk_at "fl.t") => `(tactic| (with_reducible refine g_chainW ?_))
local macro_rules | `(tactic| walk_at "fl.t") => `(tactic| (with_reducible refine g_link1 ?_))
local macro_rules | `(tactic| walk_at "fl.t") => `(tactic| (with_reducible refine g_linkS ?_))
local macro_rules | `(tactic| walk_at "fl.t") => `(tactic| (with_reducible refine g_links ?_))
local macro_rules | `(tactic| walk_at "fl.t") => `(tactic| (with_reducible refine g_ifE ?_))
local macro_rules | `(tactic| walk_at "fl.w") => `(tactic| repeat walk_at "fl.t")
theorem i3E {S : List Addr} {H : Hp} {v : V} {t : Int × Int × Int} (h : Dq S H v (.tuple (i3 t))) : ∃ a, v = .ref a ∧ a ∉ S ∧ H a = some (.tup [.int t.1, .int t.2.1, .int t.2.2]) := by
  obtain ⟨a, xs, rfl, n, q, r⟩ := h.tupE
  obtain ⟨x1, w1, rfl, h1, r⟩ := r.consE
  obtain ⟨x2, w2, rfl, h2, r⟩ := r.consE
  obtain ⟨x3, w3, rfl, h3, r⟩ := r.consE
  cases r.nilE
  cases h1.intE
  cases h2.intE
  cases h3.intE
  exact ⟨a, rfl, n, q⟩
theorem ok_axes_reasonG (T : Txt K mg) (VL : FoR → LkR → Prop) : Has P w K mg base 2 "axes_reason" ps_axes_reason (spD (fFvG (cs mg) VL)) := by
  obtain ⟨_, _, _, _, _, _, _, _, _, _, _, _, _, _, cF⟩ := T.c_Font
  have clF := cF.cl
  have naF := cF.na
  have h_many_reason := ok_many_reason (P := P) (w := w) (base := base) T
  refine has_of T.d_axes_reason sc_axes_reason bd_axes_reason (fun vs H Q E h => ?_) (fun f cdv A outer s H vs Q E hr h => ?_)
  · obtain ⟨S, ds, d, _, hd, ⟨fo, fok, rfl, rfl⟩, _⟩ := h
    rw [hd.len]
    rfl
  · obtain ⟨S, ds, d, hS, hd, ⟨fo, fok, rfl, rfl⟩, q⟩ := h
    obtain ⟨v1, _, rfl, h1, hd⟩ := hd.consE
    cases hd.nilE
    obtain ⟨fa, fdx, w1, w2, w3, w4, w5, w6, w7, w8, w9, rfl, fna, fA, j1, j2, j3, j4, j5, j6, j7, j8, j9⟩ := foE h1
    have j6 : Dq S H w6 (.list (fo.axes.map fun t => .tuple (i3 t))) := by
      rw [← ltD_map]; exact j6
    have jj := j6
    obtain ⟨hz, hx⟩ := fok.ax
    obtain ⟨b, xs, rfl, _, hb, hD⟩ := j6.lstE
    refine ⟨_, (pss_cons (ps_for PassesOwn.never rfl (piL (K := K) rfl (peFld (K := K) rfl (pv 0) rfl)) (pgT (n := 3) (K := K) rfl (by rfl) (pgs_cons (pg_name (i := 1) sc_axes_reason.nd rfl (.inl rfl)) (pgs_cons (pg_name (i := 2) sc_axes_reason.nd rfl (.inl rfl)) (pgs_cons (pg_name (i := 3) sc_axes_reason.nd rfl (.inl rfl)) pgs_nil))))
        (pss_one (ps_if (pt_not (pt_links (pe_un un_neg (pe_gv (by rfl) T.g_FARTHEST)) (linkS op_le (pv 1) (linkS op_le (pv 2) (linkS op_le (pv 3) (link1 op_le (pe_gv (by rfl) T.g_FARTHEST)))))))
        pss_never
        pss_nil)))
      (pss_one (ps_ret (pe_h h_many_reason (hr.mono (by decide)) (pa_cons (peFld (K := K) rfl (pv 0) rfl) (pa_cons pe_int (pa_cons pe_int pa_nil))))))), ?_⟩
    walk_at "fl.w"
    refine forK_l (xs := xs) (fun i σ' H' => (∃ u1 u2 u3, σ' = [some (.ref fa), u1, u2, u3]) ∧ H' = H) ⟨⟨_, _, _, rfl⟩, rfl⟩ (fun i σ' H' _ e => by rw [e.2]; exact SqL.of hb) (fun i x σ' H' hxi e => ?_) (fun σ' H' e => ?_)
    · obtain ⟨⟨u1, u2, u3, e⟩, e2⟩ := e
      subst e e2
      obtain ⟨t, ht, dx⟩ := hD.getM hxi
      obtain ⟨p, rfl, np, hp⟩ := i3E dx
      obtain ⟨t1, t2, t3, t4⟩ := hx t (List.mem_of_getElem? ht)
      refine g_gtup (SqT.of hp) rfl ?_
      walk_at "fl.w"
      refine g_yesB t1 ?_
      walk_at "fl.w"
      refine g_yesB t2 ?_
      walk_at "fl.w"
      refine g_yesB t3 ?_
      walk_at "fl.w"
      rw [decide_eq_true t4]
      walk_at "fl.w"
      exact ⟨⟨_, _, _, rfl⟩, rfl⟩
    · obtain ⟨⟨u1, u2, u3, e⟩, e2⟩ := e
      subst e e2
      walk_at "fl.w"
      exact spD_app S [.list (fo.axes.map fun t => .tuple (i3 t)), .int 0, .int 3] .none hS (.cons jj (.cons (.int _) (.cons (.int _) .nil))) ⟨_, _, _, rfl, by rw [List.length_map]; omega, by rw [List.length_map]; omega, rfl⟩ (fun v H3 sm3 hv => by cases hv.nonE; exact q _ _ sm3 .non)
def fTe (ds : List PyData) (d : PyData) : Prop := ∃ t : Int × Int × Int, ds = [.tuple (i3 t)] ∧ tentOk t ∧ d = .bool true
theorem ok_is_tent (T : Txt K mg) : Has P w K mg base 1 "is_tent" ps_is_tent (spD fTe) := by
  refine has_of T.d_is_tent sc_is_tent bd_is_tent (fun vs H Q E h => ?_) (fun f cdv A outer s H vs Q E hr h => ?_)
  · obtain ⟨S, ds, d, _, hd, ⟨t, rfl, _⟩, _⟩ := h
    rw [hd.len]
    rfl
  · obtain ⟨S, ds, d, hS, hd, ⟨t, rfl, ⟨t1, t2, t3, t4, t5⟩, rfl⟩, q⟩ := h
    obtain ⟨v1, _, rfl, h1, hd⟩ := hd.consE
    cases hd.nilE
    obtain ⟨p, rfl, np, hp⟩ := i3E h1
    refine ⟨_, (pss_cons (ps_asg (pv 0) (pgT (n := 3) (K := K) rfl (by rfl) (pgs_cons (pg_name (i := 1) sc_is_tent.nd rfl (.inl rfl)) (pgs_cons (pg_name (i := 2) sc_is_tent.nd rfl (.inl rfl)) (pgs_cons (pg_name (i := 3) sc_is_tent.nd rfl (.inl rfl)) pgs_nil)))))
      (pss_cons (ps_if (pt_not (pt_links (pe_un un_neg pe_int) (linkS op_le (pv 1) (linkS op_le (pv 2) (linkS op_le (pv 3) (link1 op_le pe_int))))))
        (pss_one (ps_ret pe_bl))
        pss_nil)
      (pss_one (ps_ret (pe_or (pe_cmpR op_eq (pv 2) pe_int (nomark _)) (pe_or (pe_cmpR op_ge (pv 1) pe_int (nomark _)) (pe_one (pe_cmpR op_le (pv 3) pe_int (nomark _))))))))), ?_⟩
    walk_at "fl.w"
    refine g_yesB t1 ?_
    walk_at "fl.w"
    refine g_yesB t2 ?_
    walk_at "fl.w"
    refine g_yesB t3 ?_
    walk_at "fl.w"
    rw [decide_eq_true t4]
    walk_at "fl.w"
    by_cases z : t.2.1 = 0
    · rw [if_pos (decide_eq_true z)]
      exact q _ _ (L2.Same.refl _) (.bl _)
    rw [if_neg (fun e => z (of_decide_eq_true e))]
    walk_at "fl.w"
    by_cases z2 : 0 ≤ t.1
    · rw [if_pos (decide_eq_true z2)]
      exact q _ _ (L2.Same.refl _) (.bl _)
    rw [if_neg (fun e => z2 (of_decide_eq_true e))]
    walk_at "fl.w"
    rw [decide_eq_true (show t.2.2 ≤ 0 by omega)]
    exact q _ _ (L2.Same.refl _) (.bl _)
theorem ok_regions_reasonG (T : Txt K mg) (VL : FoR → LkR → Prop) : Has P w K mg base 2 "regions_reason" ps_regions_reason (spD (fFvG (cs mg) VL)) := by
  obtain ⟨_, _, _, _, _, _, _, _, _, _, _, _, _, _, cF⟩ := T.c_Font
  have clF := cF.cl
  have naF := cF.na
  have h_many_reason := ok_many_reason (P := P) (w := w) (base := base) T
  have h_is_tent := ok_is_tent (P := P) (w := w) (base := base) T
  refine has_of T.d_regions_reason sc_regions_reason bd_regions_reason (fun vs H Q E h => ?_) (fun f cdv A outer s H vs Q E hr h => ?_)
  · obtain ⟨S, ds, d, _, hd, ⟨fo, fok, rfl, rfl⟩, _⟩ := h
    rw [hd.len]
    rfl
  · obtain ⟨S, ds, d, hS, hd, ⟨fo, fok, rfl, rfl⟩, q⟩ := h
    obtain ⟨v1, _, rfl, h1, hd⟩ := hd.consE
    cases hd.nilE
    obtain ⟨fa, fdx, w1, w2, w3, w4, w5, w6, w7, w8, w9, rfl, fna, fA, j1, j2, j3, j4, j5, j6, j7, j8, j9⟩ := foE h1
    have j6 : Dq S H w6 (.list (fo.axes.map fun t => .tuple (i3 t))) := by
      rw [← ltD_map]; exact j6
    have j7 : Dq S H w7 (.list (fo.regs.map fun r => .list (r.map fun t => .tuple (i3 t)))) := by
      have e : PyData.list (fo.regs.map fun r => .list (r.map fun t => .tuple (i3 t))) = ouD3 (FoG.R fo).regions := by
        show _ = ouD3 (fo.regs.map fun r => r.map i3)
        unfold ouD3
        rw [List.map_map]
        congr 1
        apply List.map_congr_left
        intro r _
        exact (ltD_map i3 r).symm
      rw [e]
      exact j7
    have jj := j7
    obtain ⟨hz, hx⟩ := fok.re
    have hax := fok.ax.1
    obtain ⟨bx, ys, rfl, _, hbx, hX⟩ := j6.lstE
    have lX := hX.len
    rw [List.length_map] at lX
    obtain ⟨b, xs, rfl, _, hb, hD⟩ := j7.lstE
    refine ⟨_, (pss_cons (ps_for PassesOwn.never rfl (piL (K := K) rfl (peFld (K := K) rfl (pv 0) rfl)) (pg_name (i := 1) sc_regions_reason.nd rfl (.inl rfl))
        (pss_cons (ps_if (pt_cmpR op_ne (pe_callB (clLen (K := K) rfl) (by rfl) T.z_len (by decide +kernel) (pa_cons (pv 1) pa_nil)) (pe_callB (clLen (K := K) rfl) (by rfl) T.z_len (by decide +kernel) (pa_cons (peFld (K := K) rfl (pv 0) rfl) pa_nil)) (nomark _))
        pss_never
        pss_nil)
      (pss_one (ps_if (pt_not (pt_val (pe_callB (clAll (K := K) rfl rfl) (by rfl) T.z_all (by decide +kernel) (pa_cons (pe_lc (own := [("tent", 2)]) rfl sc_regions_reason.nd (piL (K := K) rfl (pv 1)) (blkOk_by (by kernel_rfl)) (fun _ _ _ _ _ => (pg_name (i := 2) sc_regions_reason.nd rfl (.inl rfl))) (fun _ _ _ _ _ => pts_nil) (fun _ _ _ _ _ => (pe_h h_is_tent (hr.mono (by decide)) (pa_cons (pv 2) pa_nil)))) pa_nil))))
        pss_never
        pss_nil))))
      (pss_one (ps_ret (pe_h h_many_reason (hr.mono (by decide)) (pa_cons (peFld (K := K) rfl (pv 0) rfl) (pa_cons pe_int (pa_cons pe_int pa_nil))))))), ?_⟩
    walk_at "fl.w"
    refine forK_l (xs := xs) (fun i σ' H' => (∃ u1, σ' = [some (.ref fa), u1, none]) ∧ Same H H') ⟨⟨_, rfl⟩, L2.Same.refl _⟩ (fun i σ' H' _ e => SqL.of (e.2 _ _ hb)) (fun i x σ' H' hxi e => ?_) (fun σ' H' e => ?_)
    · obtain ⟨⟨u1, e⟩, sm⟩ := e
      subst e
      obtain ⟨r, hr', dx⟩ := hD.getM hxi
      obtain ⟨rl, rt⟩ := hx r (List.mem_of_getElem? hr')
      have dx := dx.same sm
      have dx' := dx
      obtain ⟨ra, rs, rfl, nr, hra, hR⟩ := dx.lstE
      have lr := hR.len
      rw [List.length_map] at lr
      have fA2 := sm _ _ fA
      have hbx2 := sm _ _ hbx
      walk_at "fl.w"
      refine g_iteN (fun h => absurd (show ((rs.length : Nat) : Int) = (ys.length : Nat) by omega) h) (fun _ => ?_)
      walk_at "fl.w"
      refine lcL (S := S) (fun i => (r[i]?).map fun _ => .bool true) (hS.same sm) dx' (by rw [List.length_map]; omega) ?_ ?_
      · intro D j y e G hD he smg al hye R N hR hN
        obtain ⟨t, ht, rfl⟩ := at_map he
        refine g_name ⟨rfl, ?_⟩
        walk_at "fl.w"
        refine spD_app (D :: S) [.tuple (i3 t)] (.bool true) al (.cons hye .nil) ⟨t, rfl, rt t (List.mem_of_getElem? ht), rfl⟩ (fun v G2 sm2 hv => ?_)
        exact hR _ _ _ (by rw [ht]; rfl) sm2 hv
      · intro D G smg hD dq
        rw [List.length_map, fm_ltA rfl] at dq
        walk_at "fl.w"
        refine allYes dq ?_
        walk_at "fl.w"
        exact ⟨⟨_, rfl⟩, sm.trans smg⟩
    · obtain ⟨⟨u1, e⟩, sm⟩ := e
      subst e
      have jj2 := jj.same sm
      have fA2 := sm _ _ fA
      walk_at "fl.w"
      exact spD_app S [.list (fo.regs.map fun r => .list (r.map fun t => .tuple (i3 t))), .int 0, .int 8] .none (hS.same sm) (.cons jj2 (.cons (.int _) (.cons (.int _) .nil))) ⟨_, _, _, rfl, by rw [List.length_map]; omega, by rw [List.length_map]; omega, rfl⟩ (fun v H3 sm3 hv => by cases hv.nonE; exact q _ _ (sm.trans sm3) .non)
end
section
variable {P : Program} {w : World} {K : PySem.W.Frag} {mg : Str → Option Value} {base : Heap}
local macro_rules | `(tactic| walk_at "fl.t") => `(tactic| (with_reducible refine g_chainW ?_))
local macro_rules | `(tactic| walk_at "fl.t") => `(tactic| (with_reducible refine g_ifE ?_))
local macro_rules | `(tactic| walk_at "fl.w") => `(tactic| repeat walk_at "fl.t")
def fFvC (c : Cs) (VL : FoR → LkR → Prop) (ds : List PyData) (d : PyData) : Prop := ∃ f : FoG, f.Ok VL ∧ f.feats = [] ∧ ds = [foD c f.R] ∧ d = .none
theorem ok_features_reasonC (T : Txt K mg) (VL : FoR → LkR → Prop) : Has P w K mg base 2 "features_reason" ps_features_reason (spD (fFvC (cs mg) VL)) := by
  obtain ⟨_, _, _, _, _, _, _, _, _, _, _, _, _, _, cF⟩ := T.c_Font
  have clF := cF.cl
  have naF := cF.na
  have h_many_reason := ok_many_reason (P := P) (w := w) (base := base) T
  have h_is_row_of_letters := no_has (P := P) (w := w) (base := base) T.d_is_row_of_letters sc_is_row_of_letters bd_is_row_of_letters
  have h_is_rising := no_has (P := P) (w := w) (base := base) T.d_is_rising sc_is_rising bd_is_rising
  refine has_of T.d_features_reason sc_features_reason bd_features_reason (fun vs H Q E h => ?_) (fun f cdv A outer s H vs Q E hr h => ?_)
  · obtain ⟨S, ds, d, _, hd, ⟨fo, fok, fb, rfl, rfl⟩, _⟩ := h
    rw [hd.len]
    rfl
  · obtain ⟨S, ds, d, hS, hd, ⟨fo, fok, fb1, rfl, rfl⟩, q⟩ := h
    obtain ⟨v1, _, rfl, h1, hd⟩ := hd.consE
    cases hd.nilE
    obtain ⟨fa, fdx, w1, w2, w3, w4, w5, w6, w7, w8, w9, rfl, fna, fA, j1, j2, j3, j4, j5, j6, j7, j8, j9⟩ := foE h1
    have j5 : Dq S H w5 (.list []) := by
      have e : (FoG.R fo).features = [] := by show fo.feats.map _ = []; rw [fb1]; rfl
      rw [e] at j5
      exact j5
    have j5' := j5
    obtain ⟨b, xs, rfl, _, hb, hD⟩ := j5'.lstE
    cases hD.nilE
    refine ⟨_, (pss_cons (ps_setLc (i := 2) (own := [("name", 1), ("_", 4)]) rfl sc_features_reason.nd rfl rfl (sw_true rfl rfl rfl (by decide +kernel)) (piL (K := K) rfl (peFld (K := K) rfl (pv 0) rfl)) (blkOk_by (by kernel_rfl)) (fun _ _ _ _ _ => (pgT (n := 2) (K := K) rfl (by rfl) (pgs_cons (pg_name (i := 1) sc_features_reason.nd rfl (.inl rfl)) (pgs_cons (pg_name (i := 4) sc_features_reason.nd rfl (.inl rfl)) pgs_nil)))) (fun _ _ _ _ _ => pts_nil) (fun _ _ _ _ _ => (pv 1)))
      (pss_cons (ps_if (pt_cmpR op_lt (RZ.pe_lenSetI (by rfl) T.z_len (by rfl) T.z_set (pv 2)) (pe_callB (clLen (K := K) rfl) (by rfl) T.z_len (by decide +kernel) (pa_cons (pv 2) pa_nil)) (nomark _))
        pss_never
        pss_nil)
      (pss_cons (ps_for PassesOwn.never rfl (piL (K := K) rfl (peFld (K := K) rfl (pv 0) rfl)) (pgT (n := 2) (K := K) rfl (by rfl) (pgs_cons (pg_name (i := 1) sc_features_reason.nd rfl (.inl rfl)) (pgs_cons (pg_name (i := 3) sc_features_reason.nd rfl (.inl rfl)) pgs_nil)))
        pss_never)
      (pss_one (ps_ret (pe_h h_many_reason (hr.mono (by decide)) (pa_cons (peFld (K := K) rfl (pv 0) rfl) (pa_cons pe_int (pa_cons pe_int pa_nil))))))))), ?_⟩
    walk_at "fl.w"
    refine lcNil hS j5 (fun D H2 sm hq => ?_)
    have fA2 := sm _ _ fA
    have hb2 := sm _ _ hb
    have j52 := j5.same sm
    have hS2 := hS.same sm
    obtain ⟨b2, ys, e, _, hb3, hD2⟩ := hq.lstE
    cases e
    cases hD2.nilE
    walk_at "fl.w"
    unfold RZ.tLenSetI
    walk_at "fl.w"
    refine ⟨D, [], rfl, SqL.of hb3, .nil, by decide, ?_⟩
    walk_at "fl.w"
    refine g_noB (by decide) ?_
    walk_at "fl.w"
    refine forK_l (xs := []) (fun i σ' H' => σ' = (L2.start N_features_reason [.ref fa]).set 2 (some (.ref D)) ∧ H' = H2) ⟨rfl, rfl⟩ (fun i σ' H' _ e => by rw [e.2]; exact SqL.of hb2) (fun i x σ' H' hx => by simp at hx) (fun σ' H' e => ?_)
    obtain ⟨e, e2⟩ := e
    subst e e2
    walk_at "fl.w"
    exact spD_app S [.list [], .int 0, .int 12] .none hS2 (.cons j52 (.cons (.int _) (.cons (.int _) .nil))) ⟨_, _, _, rfl, by decide, by decide, rfl⟩ (fun v H3 sm3 hv => by cases hv.nonE; exact q _ _ (sm.trans sm3) .non)
theorem ok_first_faultC (T : Txt K mg) (I : WoK K w mg) (VL : FoR → LkR → Prop) (h_lookup_reason : Has P w K mg base 4 "lookup_reason" ps_lookup_reason (spD (fLkr (cs mg) VL))) : Has P w K mg base 6 "first_fault" ps_first_fault (spD (fFvC (cs mg) VL)) := by
  obtain ⟨_, _, _, _, _, _, _, _, _, _, _, _, _, _, cF⟩ := T.c_Font
  have clF := cF.cl
  have naF := cF.na
  have h_unit_reason := ok_unit_reason (P := P) (w := w) (base := base) T VL
  have h_placed := ok_placed (P := P) (w := w) (base := base) T
  have h_many_reason := ok_many_reason (P := P) (w := w) (base := base) T
  have h_first_glyph_fault := ok_first_glyph_fault (P := P) (w := w) (base := base) T I VL
  have h_parts_reason := ok_parts_reason (P := P) (w := w) (base := base) T VL
  have h_chars_reason := ok_chars_reason (P := P) (w := w) (base := base) T VL
  have h_first_lookup_fault := ok_first_lookup_fault (P := P) (base := base) T VL h_lookup_reason
  have h_features_reason := ok_features_reasonC (P := P) (w := w) (base := base) T VL
  have h_axes_reason := ok_axes_reasonG (P := P) (w := w) (base := base) T VL
  have h_regions_reason := ok_regions_reasonG (P := P) (w := w) (base := base) T VL
  have h_functions_reason := ok_functions_reason (P := P) (w := w) (base := base) T I VL
  have h_presets_reason := ok_presets_reason (P := P) (w := w) (base := base) T VL
  refine has_of T.d_first_fault sc_first_fault bd_first_fault (fun vs H Q E h => ?_) (fun f cdv A outer s H vs Q E hr h => ?_)
  · obtain ⟨S, ds, d, _, hd, ⟨fo, fok, fb, rfl, rfl⟩, _⟩ := h
    rw [hd.len]
    rfl
  · obtain ⟨S, ds, d, hS_0, hd, ⟨fo, fok, fb, rfl, rfl⟩, q⟩ := h
    obtain ⟨v1, _, rfl, h1_0, hd⟩ := hd.consE
    cases hd.nilE
    obtain ⟨fa, fdx, w1, w2, w3, w4, w5, w6, w7, w8, w9, rfl, fna, fA_0, j1, j2, j3, j4, j5, j6, j7, j8, j9⟩ := foE h1_0
    refine ⟨_, (pss_one (ps_ret (peOrT (K := K) rfl (pe_h h_placed (hr.mono (by decide)) (pa_cons pe_str (pa_cons (pe_h h_unit_reason (hr.mono (by decide)) (pa_cons (pv 0) pa_nil)) pa_nil))) (peOrT (K := K) rfl (pe_h h_placed (hr.mono (by decide)) (pa_cons pe_str (pa_cons (pe_h h_many_reason (hr.mono (by decide)) (pa_cons (peFld (K := K) rfl (pv 0) rfl) (pa_cons pe_int (pa_cons pe_int pa_nil)))) pa_nil))) (peOrT (K := K) rfl (pe_h h_first_glyph_fault (hr.mono (by decide)) (pa_cons (pv 0) pa_nil)) (peOrT (K := K) rfl (pe_h h_placed (hr.mono (by decide)) (pa_cons pe_str (pa_cons (pe_h h_parts_reason (hr.mono (by decide)) (pa_cons (pv 0) pa_nil)) pa_nil))) (peOrT (K := K) rfl (pe_h h_placed (hr.mono (by decide)) (pa_cons pe_str (pa_cons (pe_h h_chars_reason (hr.mono (by decide)) (pa_cons (pv 0) pa_nil)) pa_nil))) (peOrT (K := K) rfl (pe_h h_placed (hr.mono (by decide)) (pa_cons pe_str (pa_cons (pe_h h_many_reason (hr.mono (by decide)) (pa_cons (peFld (K := K) rfl (pv 0) rfl) (pa_cons pe_int (pa_cons pe_int pa_nil)))) pa_nil))) (peOrT (K := K) rfl (pe_h h_first_lookup_fault (hr.mono (by decide)) (pa_cons (pv 0) pa_nil)) (peOrT (K := K) rfl (pe_h h_placed (hr.mono (by decide)) (pa_cons pe_str (pa_cons (pe_h h_features_reason (hr.mono (by decide)) (pa_cons (pv 0) pa_nil)) pa_nil))) (peOrT (K := K) rfl (pe_h h_placed (hr.mono (by decide)) (pa_cons pe_str (pa_cons (pe_h h_axes_reason (hr.mono (by decide)) (pa_cons (pv 0) pa_nil)) pa_nil))) (peOrT (K := K) rfl (pe_h h_placed (hr.mono (by decide)) (pa_cons pe_str (pa_cons (pe_h h_regions_reason (hr.mono (by decide)) (pa_cons (pv 0) pa_nil)) pa_nil))) (peOrT (K := K) rfl (pe_h h_placed (hr.mono (by decide)) (pa_cons pe_str (pa_cons (pe_h h_functions_reason (hr.mono (by decide)) (pa_cons (pv 0) pa_nil)) pa_nil))) (pe_one (pe_h h_placed (hr.mono (by decide)) (pa_cons pe_str (pa_cons (pe_h h_presets_reason (hr.mono (by decide)) (pa_cons (pv 0) pa_nil)) pa_nil))))))))))))))))), ?_⟩
    walk_at "fl.w"
    refine spD_app S [foD (cs mg) fo.R] .none hS_0 (.cons h1_0 .nil) ⟨fo, fok, rfl, rfl⟩ (fun v G1 sm1 hv => ?_)
    cases hv.nonE
    have smA_1 : Same H G1 := sm1
    have h1_1 := h1_0.same sm1
    have hS_1 := hS_0.same sm1
    have fA_1 := sm1 _ _ fA_0
    walk_at "fl.w"
    refine spD_app S [.str _, .none] .none hS_1 (.cons (.str _) (.cons .non .nil)) ⟨_, rfl, rfl⟩ (fun v G2 sm2 hv => ?_)
    cases hv.nonE
    have smA_2 : Same H G2 := smA_1.trans sm2
    have h1_2 := h1_1.same sm2
    have hS_2 := hS_1.same sm2
    have fA_2 := sm2 _ _ fA_1
    walk_at "fl.w"
    have j2_2 := j2.same smA_2
    refine spD_app S [.list ((fo.glyphs.map GlG.R).map (glD (cs mg))), .int 1, .int 60] .none hS_2 (.cons j2_2 (.cons (.int _) (.cons (.int _) .nil))) ⟨_, _, _, rfl, by rw [List.length_map, List.length_map]; have := fok.gl; omega, by rw [List.length_map, List.length_map]; have := fok.gl; omega, rfl⟩ (fun v G3 sm3 hv => ?_)
    cases hv.nonE
    have smA_3 : Same H G3 := smA_2.trans sm3
    have h1_3 := h1_2.same sm3
    have hS_3 := hS_2.same sm3
    have fA_3 := sm3 _ _ fA_2
    walk_at "fl.w"
    refine spD_app S [.str _, .none] .none hS_3 (.cons (.str _) (.cons .non .nil)) ⟨_, rfl, rfl⟩ (fun v G4 sm4 hv => ?_)
    cases hv.nonE
    have smA_4 : Same H G4 := smA_3.trans sm4
    have h1_4 := h1_3.same sm4
    have hS_4 := hS_3.same sm4
    have fA_4 := sm4 _ _ fA_3
    walk_at "fl.w"
    refine spD_app S [foD (cs mg) fo.R] .none hS_4 (.cons h1_4 .nil) ⟨fo, fok, rfl, rfl⟩ (fun v G5 sm5 hv => ?_)
    cases hv.nonE
    have smA_5 : Same H G5 := smA_4.trans sm5
    have h1_5 := h1_4.same sm5
    have hS_5 := hS_4.same sm5
    have fA_5 := sm5 _ _ fA_4
    walk_at "fl.w"
    refine spD_app S [foD (cs mg) fo.R] .none hS_5 (.cons h1_5 .nil) ⟨fo, fok, rfl, rfl⟩ (fun v G6 sm6 hv => ?_)
    cases hv.nonE
    have smA_6 : Same H G6 := smA_5.trans sm6
    have h1_6 := h1_5.same sm6
    have hS_6 := hS_5.same sm6
    have fA_6 := sm6 _ _ fA_5
    walk_at "fl.w"
    refine spD_app S [.str _, .none] .none hS_6 (.cons (.str _) (.cons .non .nil)) ⟨_, rfl, rfl⟩ (fun v G7 sm7 hv => ?_)
    cases hv.nonE
    have smA_7 : Same H G7 := smA_6.trans sm7
    have h1_7 := h1_6.same sm7
    have hS_7 := hS_6.same sm7
    have fA_7 := sm7 _ _ fA_6
    walk_at "fl.w"
    refine spD_app S [foD (cs mg) fo.R] .none hS_7 (.cons h1_7 .nil) ⟨fo, fok, rfl, rfl⟩ (fun v G8 sm8 hv => ?_)
    cases hv.nonE
    have smA_8 : Same H G8 := smA_7.trans sm8
    have h1_8 := h1_7.same sm8
    have hS_8 := hS_7.same sm8
    have fA_8 := sm8 _ _ fA_7
    walk_at "fl.w"
    refine spD_app S [.str _, .none] .none hS_8 (.cons (.str _) (.cons .non .nil)) ⟨_, rfl, rfl⟩ (fun v G9 sm9 hv => ?_)
    cases hv.nonE
    have smA_9 : Same H G9 := smA_8.trans sm9
    have h1_9 := h1_8.same sm9
    have hS_9 := hS_8.same sm9
    have fA_9 := sm9 _ _ fA_8
    walk_at "fl.w"
    have j4_9 := j4.same smA_9
    refine spD_app S [.list (fo.lks.map (lkD (cs mg))), .int 0, .int 20] .none hS_9 (.cons j4_9 (.cons (.int _) (.cons (.int _) .nil))) ⟨_, _, _, rfl, by omega, by rw [List.length_map]; have := fok.lz; omega, rfl⟩ (fun v G10 sm10 hv => ?_)
    cases hv.nonE
    have smA_10 : Same H G10 := smA_9.trans sm10
    have h1_10 := h1_9.same sm10
    have hS_10 := hS_9.same sm10
    have fA_10 := sm10 _ _ fA_9
    walk_at "fl.w"
    refine spD_app S [.str _, .none] .none hS_10 (.cons (.str _) (.cons .non .nil)) ⟨_, rfl, rfl⟩ (fun v G11 sm11 hv => ?_)
    cases hv.nonE
    have smA_11 : Same H G11 := smA_10.trans sm11
    have h1_11 := h1_10.same sm11
    have hS_11 := hS_10.same sm11
    have fA_11 := sm11 _ _ fA_10
    walk_at "fl.w"
    refine spD_app S [foD (cs mg) fo.R] .none hS_11 (.cons h1_11 .nil) ⟨fo, fok, rfl, rfl⟩ (fun v G12 sm12 hv => ?_)
    cases hv.nonE
    have smA_12 : Same H G12 := smA_11.trans sm12
    have h1_12 := h1_11.same sm12
    have hS_12 := hS_11.same sm12
    have fA_12 := sm12 _ _ fA_11
    walk_at "fl.w"
    refine spD_app S [foD (cs mg) fo.R] .none hS_12 (.cons h1_12 .nil) ⟨fo, fok, fb, rfl, rfl⟩ (fun v G13 sm13 hv => ?_)
    cases hv.nonE
    have smA_13 : Same H G13 := smA_12.trans sm13
    have h1_13 := h1_12.same sm13
    have hS_13 := hS_12.same sm13
    have fA_13 := sm13 _ _ fA_12
    walk_at "fl.w"
    refine spD_app S [.str _, .none] .none hS_13 (.cons (.str _) (.cons .non .nil)) ⟨_, rfl, rfl⟩ (fun v G14 sm14 hv => ?_)
    cases hv.nonE
    have smA_14 : Same H G14 := smA_13.trans sm14
    have h1_14 := h1_13.same sm14
    have hS_14 := hS_13.same sm14
    have fA_14 := sm14 _ _ fA_13
    walk_at "fl.w"
    refine spD_app S [foD (cs mg) fo.R] .none hS_14 (.cons h1_14 .nil) ⟨fo, fok, rfl, rfl⟩ (fun v G15 sm15 hv => ?_)
    cases hv.nonE
    have smA_15 : Same H G15 := smA_14.trans sm15
    have h1_15 := h1_14.same sm15
    have hS_15 := hS_14.same sm15
    have fA_15 := sm15 _ _ fA_14
    walk_at "fl.w"
    refine spD_app S [.str _, .none] .none hS_15 (.cons (.str _) (.cons .non .nil)) ⟨_, rfl, rfl⟩ (fun v G16 sm16 hv => ?_)
    cases hv.nonE
    have smA_16 : Same H G16 := smA_15.trans sm16
    have h1_16 := h1_15.same sm16
    have hS_16 := hS_15.same sm16
    have fA_16 := sm16 _ _ fA_15
    walk_at "fl.w"
    refine spD_app S [foD (cs mg) fo.R] .none hS_16 (.cons h1_16 .nil) ⟨fo, fok, rfl, rfl⟩ (fun v G17 sm17 hv => ?_)
    cases hv.nonE
    have smA_17 : Same H G17 := smA_16.trans sm17
    have h1_17 := h1_16.same sm17
    have hS_17 := hS_16.same sm17
    have fA_17 := sm17 _ _ fA_16
    walk_at "fl.w"
    refine spD_app S [.str _, .none] .none hS_17 (.cons (.str _) (.cons .non .nil)) ⟨_, rfl, rfl⟩ (fun v G18 sm18 hv => ?_)
    cases hv.nonE
    have smA_18 : Same H G18 := smA_17.trans sm18
    have h1_18 := h1_17.same sm18
    have hS_18 := hS_17.same sm18
    have fA_18 := sm18 _ _ fA_17
    walk_at "fl.w"
    refine spD_app S [foD (cs mg) fo.R] .none hS_18 (.cons h1_18 .nil) ⟨fo, fok, rfl, rfl⟩ (fun v G19 sm19 hv => ?_)
    cases hv.nonE
    have smA_19 : Same H G19 := smA_18.trans sm19
    have h1_19 := h1_18.same sm19
    have hS_19 := hS_18.same sm19
    have fA_19 := sm19 _ _ fA_18
    walk_at "fl.w"
    refine spD_app S [.str _, .none] .none hS_19 (.cons (.str _) (.cons .non .nil)) ⟨_, rfl, rfl⟩ (fun v G20 sm20 hv => ?_)
    cases hv.nonE
    have smA_20 : Same H G20 := smA_19.trans sm20
    have h1_20 := h1_19.same sm20
    have hS_20 := hS_19.same sm20
    have fA_20 := sm20 _ _ fA_19
    walk_at "fl.w"
    refine spD_app S [foD (cs mg) fo.R] .none hS_20 (.cons h1_20 .nil) ⟨fo, fok, rfl, rfl⟩ (fun v G21 sm21 hv => ?_)
    cases hv.nonE
    have smA_21 : Same H G21 := smA_20.trans sm21
    have h1_21 := h1_20.same sm21
    have hS_21 := hS_20.same sm21
    have fA_21 := sm21 _ _ fA_20
    walk_at "fl.w"
    refine spD_app S [.str _, .none] .none hS_21 (.cons (.str _) (.cons .non .nil)) ⟨_, rfl, rfl⟩ (fun v G22 sm22 hv => ?_)
    cases hv.nonE
    have smA_22 : Same H G22 := smA_21.trans sm22
    have h1_22 := h1_21.same sm22
    have hS_22 := hS_21.same sm22
    have fA_22 := sm22 _ _ fA_21
    walk_at "fl.w"
    exact q _ _ smA_22 .non
end
section
variable {P : Program} {w : World} {K : PySem.W.Frag} {mg : Str → Option Value} {base : Heap}
theorem g_gsubQ {ta tb : TE} {v : V} {σ : L2.St} {H : Hp} {Q : L2.St → Hp → Prop} (h : ta σ H fun o H2 => tb σ H2 fun i H3 => rSetL o i v H3 fun H4 => Q σ H4) : gSub ta tb rSetL v σ H Q := h
local macro_rules | `(tactic| walk_at "fl.t") => `(tactic| (with_reducible refine g_gsubQ ?_))
local macro_rules | `(tactic| walk_at "fl.w") => `(tactic| repeat walk_at "fl.t")
theorem ok_law_deck (T : Txt K mg) : Has P w K mg base 1 "_law_deck" ps_law_deck (spDk K) := by
  refine has_of T.d_law_deck sc_law_deck bd_law_deck (fun vs H Q E h => ?_) (fun f cdv A outer s H vs Q E hr h => ?_)
  · obtain ⟨a, ns, rfl, _⟩ := h
    rfl
  · obtain ⟨a, ns, rfl, hS, q⟩ := h
    refine ⟨_, (pss_one (ps_ret (pe_lst (pa_cons (pe_callTy (clList (K := K) rfl) (by rfl) T.z_list (by decide +kernel) (pa_cons (pv 0) pa_nil)) (pa_cons pe_int (pa_cons pe_int (pa_cons pe_int pa_nil))))))), ?_⟩
    walk_at "fl.go"
    rename_i l hl d hd
    have hd' : H d = none := Same.free (Fl.Same.new hl) hd
    have hne : l ≠ d := fun e => by
      rw [← e, upd_same] at hd
      cases hd
    exact q d l _ ((Fl.Same.new hl).trans (Fl.Same.new hd)) ⟨hne, raw_new hd upd_same, 0, 0, 7, upd_same, Int.le_refl 0⟩
theorem ok_law_draw (T : Txt K mg) : Has P w K mg base 1 "_law_draw" ps_law_draw spDr := by
  refine has_of T.d_law_draw sc_law_draw bd_law_draw (fun vs H Q E h => ?_) (fun f cdv A outer s H vs Q E hr h => ?_)
  · obtain ⟨d, s, ns, m, rfl, _⟩ := h
    rfl
  · obtain ⟨d, sa, ns, m, rfl, ⟨hne, hs, pos, rest, seed, hd, hpos⟩, hm, hm2, q⟩ := h
    refine ⟨_, (pss_cons (ps_if (pt_cmpR op_ge (pe_ix (ixL (K := K) rfl) (pv 0) pe_int (fun _ _ => rfl)) (pv 1) (nomark _))
        (pss_cons (ps_set (i := 2) sc_law_draw.nd rfl (.inl rfl) (pe_op op_mod (pe_callTy call_int' (by rfl) T.z_int (by decide +kernel) (pa_cons (pe_ix (ixL (K := K) rfl) (pv 0) pe_int (fun _ _ => rfl)) pa_nil)) (pv 1)))
      (pss_cons (ps_asg (pe_op op_fdivW (pe_ix (ixL (K := K) rfl) (pv 0) pe_int (fun _ _ => rfl)) (pv 1)) (pg_sub (pv 0) pe_int set_list))
      (pss_one (ps_ret (pv 2)))))
        pss_nil)
      (pss_cons (ps_set (i := 3) sc_law_draw.nd rfl (.inl rfl) pe_int)
      (pss_cons (ps_if (pt_cmpR op_lt (pe_ix (ixL (K := K) rfl) (pv 0) pe_int (fun _ _ => rfl)) (pe_callB (clLen (K := K) rfl) (by rfl) T.z_len (by decide +kernel) (pa_cons (pe_ix (ixL (K := K) rfl) (pv 0) pe_int (fun _ _ => rfl)) pa_nil)) (nomark _))
        (pss_one (ps_set (i := 3) sc_law_draw.nd rfl (.inl rfl) (pe_ix (ixL (K := K) rfl) (pe_ix (ixL (K := K) rfl) (pv 0) pe_int (fun _ _ => rfl)) (pe_ix (ixL (K := K) rfl) (pv 0) pe_int (fun _ _ => rfl)) (fun _ _ => rfl))))
        pss_nil)
      (pss_cons (ps_asg (pe_op op_add (pe_ix (ixL (K := K) rfl) (pv 0) pe_int (fun _ _ => rfl)) pe_int) (pg_sub (pv 0) pe_int set_list))
      (pss_cons (ps_asg pe_int (pg_sub (pv 0) pe_int set_list))
      (pss_cons (ps_if (pt_cmpR op_ge (pv 3) (pe_powc (r := 1000000000000000000) (by decide) (by decide +kernel)) (nomark _))
        (pss_cons (ps_asg (pe_op op_fdivW (pv 3) (pv 1)) (pg_sub (pv 0) pe_int set_list))
      (pss_one (ps_ret (pe_op op_mod (pe_callTy call_int' (by rfl) T.z_int (by decide +kernel) (pa_cons (pv 3) pa_nil)) (pv 1)))))
        pss_nil)
      (pss_cons (ps_asg (pe_op op_mod (pe_callTy call_int' (by rfl) T.z_int (by decide +kernel) (pa_cons (pe_op op_add (pe_op op_add (pe_op op_mul (pe_ix (ixL (K := K) rfl) (pv 0) pe_int (fun _ _ => rfl)) pe_int) (pe_op op_mul (pv 3) pe_int)) (pe_op op_mul (pe_ix (ixL (K := K) rfl) (pv 0) pe_int (fun _ _ => rfl)) pe_int)) pa_nil)) pe_int) (pg_sub (pv 0) pe_int set_list))
      (pss_cons (ps_asg (pe_op op_mod (pe_callTy call_int' (by rfl) T.z_int (by decide +kernel) (pa_cons (pe_op op_add (pe_op op_mul (pe_ix (ixL (K := K) rfl) (pv 0) pe_int (fun _ _ => rfl)) pe_int) pe_int) pa_nil)) pe_int) (pg_sub (pv 0) pe_int set_list))
      (pss_one (ps_ret (pe_op op_mod (pe_callTy call_int' (by rfl) T.z_int (by decide +kernel) (pa_cons (pe_op op_fdivW (pe_ix (ixL (K := K) rfl) (pv 0) pe_int (fun _ _ => rfl)) pe_int) pa_nil)) (pv 1)))))))))))), ?_⟩
    have hlen : (ns.map V.int).length = ns.length := List.length_map _
    have fin : ∀ (x p r z : Int) (H' : Hp), H' d = some (.lst [.ref sa, .int p, .int r, .int z]) → 0 ≤ p → On d H H' → Q (.int (x % m)) H' := fun x p r z H' e hp ho =>
      q _ _ (Int.emod_nonneg _ (by omega)) (Int.emod_lt_of_pos _ hm) ⟨hne, raw_on ho hne hs, p, r, z, e, hp⟩ ho
    rcases (by omega : pos < ns.length ∨ ¬ pos < ns.length) with hp | hp
    · obtain ⟨n, hn⟩ := at_int hpos hp
      walk_at "fl.wr"
      all_goals first
        | (exfalso; omega)
        | exact fin _ _ _ _ _ upd_same (by omega) (by intro b hb; simp only [upd_ne hb])
    · walk_at "fl.wr"
      all_goals first
        | (exfalso; omega)
        | exact fin _ _ _ _ _ upd_same (by omega) (by intro b hb; simp only [upd_ne hb])
theorem ok_law_gcd (T : Txt K mg) : Has P w K mg base 1 "_law_gcd" ps_law_gcd spGcd := by
  refine has_of T.d_law_gcd sc_law_gcd bd_law_gcd (fun vs H Q E h => ?_) (fun f cdv A outer s H vs Q E hr h => ?_)
  · obtain ⟨a, ns, rfl, _⟩ := h
    rfl
  · obtain ⟨m, n, rfl, hB, q⟩ := h
    refine ⟨_, (pss_cons (ps_for PassesOwn.never rfl (pi_range1 (by rfl) T.z_range (pa_cons pe_int pa_nil)) (pg_name (i := 2) sc_law_gcd.nd rfl (.inl rfl))
        (pss_cons (ps_if (pt_cmpR op_eq (pv 1) pe_int (nomark _))
        (pss_one (ps_ret (pv 0)))
        pss_nil)
      (pss_cons (ps_set (i := 3) sc_law_gcd.nd rfl (.inl rfl) (pe_op op_mod (pe_callTy call_int' (by rfl) T.z_int (by decide +kernel) (pa_cons (pv 0) pa_nil)) (pv 1)))
      (pss_cons (ps_set (i := 0) sc_law_gcd.nd rfl (.inl rfl) (pv 1))
      (pss_one (ps_set (i := 1) sc_law_gcd.nd rfl (.inl rfl) (pv 3)))))))
      (pss_one (ps_ret (pv 0)))), ?_⟩
    refine g_seq ?_
    refine g_forR 5000 (fun i σ' H' => ∃ (x y : Nat) (u1 u2 : Option V), H' = H ∧ σ' = [some (.int (x : Int)), some (.int (y : Int)), u1, u2] ∧ Eu (Nat.gcd m n) (m * n) i x y) ?_ ?_ ?_ ?_
    · exact ⟨rfl, by decide, by decide, m, n, none, none, rfl, rfl, Eu.start (Nat.le_refl _)⟩
    · intro i σ' H' hi hP
      obtain ⟨x, y, u1, u2, rfl, rfl, he⟩ := hP
      show tSeq _ _ _ [some (V.int (x : Int)), some (V.int (y : Int)), some (V.int (i : Int)), u2] H'
      rcases Nat.eq_zero_or_pos y with hy | hy
      · subst hy
        walk_at "fl.run"
        · rw [he.done]
          exact q
        · exfalso
          omega
      · walk_at "fl.run"
        · exfalso
          omega
        · refine ⟨y, x % y, some (.int (i : Int)), some (.int ((x : Int) % (y : Int))), rfl, ?_, he.step hy⟩
          rw [Int.natCast_emod]
          rfl
    · intro σ' H' hP
      obtain ⟨x, y, u1, u2, rfl, rfl, he⟩ := hP
      walk_at "fl.run"
      rw [he.fin hB]
      exact q
    · exact fun Q Q' h q => h _ _ q
theorem ok_law_ratio (T : Txt K mg) : Has P w K mg base 2 "_law_ratio" ps_law_ratio spRat := by
  have h_law_gcd := ok_law_gcd (P := P) (w := w) (base := base) T
  refine has_of T.d_law_ratio sc_law_ratio bd_law_ratio (fun vs H Q E h => ?_) (fun f cdv A outer s H vs Q E hr h => ?_)
  · obtain ⟨a, ns, rfl, _⟩ := h
    rfl
  · obtain ⟨p, q, rfl, hq, h1, h2, k⟩ := h
    refine ⟨_, (pss_cons (ps_set (i := 2) sc_law_ratio.nd rfl (.inl rfl) (pe_h h_law_gcd (hr.mono (by decide)) (pa_cons (pe_callB call_abs' (by rfl) T.z_abs (by decide +kernel) (pa_cons (pv 0) pa_nil)) (pa_cons (pe_callB call_abs' (by rfl) T.z_abs (by decide +kernel) (pa_cons (pv 1) pa_nil)) pa_nil))))
      (pss_cons (ps_if (pt_cmpR op_lt (pv 1) pe_int (nomark _))
        (pss_one (ps_set (i := 2) sc_law_ratio.nd rfl (.inl rfl) (pe_un un_neg (pv 2))))
        pss_nil)
      (pss_one (ps_ret (pe_tup (pa_cons (pe_op op_fdivS (pv 0) (pv 2)) (pa_cons (pe_op op_fdivS (pv 1) (pv 2)) pa_nil))))))), ?_⟩
    have ea : ∀ x : Int, (if x < 0 then -x else x) = ((x.natAbs : Nat) : Int) := fun x => by split <;> omega
    have hg : gg p q = ((Nat.gcd p.natAbs q.natAbs : Nat) : Int) := rfl
    have hg0 := gg_pos (p := p) hq
    have hg1 : (gg p q).natAbs < 2 ^ 4000 := by
      have := Nat.gcd_le_right p.natAbs (show 0 < q.natAbs by omega)
      have e : (2 : Nat) ^ 2000 < 2 ^ 4000 := by decide +kernel
      omega
    walk_at "fl.run"
    rw [ea, ea]
    have hB : p.natAbs * q.natAbs < 2 ^ 4990 := by
      have h3 : p.natAbs * q.natAbs < 2 ^ 2000 * 2 ^ 2000 := Nat.mul_lt_mul'' h1 h2
      have e : (2 : Nat) ^ 2000 * 2 ^ 2000 < 2 ^ 4990 := by decide +kernel
      omega
    refine ⟨p.natAbs, q.natAbs, rfl, hB, ?_⟩
    rw [← hg]
    have hn0 : gg p q ≠ 0 := by omega
    have hn1 : -(gg p q) ≠ 0 := by omega
    have hn2 : (-(gg p q)).natAbs < 2 ^ 4000 := by omega
    walk_at "fl.run"
    · rename_i hlt t ht
      have := k t ht
      unfold rp rq at this
      rw [if_pos hlt, if_pos hlt] at this
      rw [fdiv_neg_exact hg0 (gg_dvd_l p q), fdiv_neg_exact hg0 (gg_dvd_r p q)]
      exact this
    · rename_i hlt t ht
      have := k t ht
      unfold rp rq at this
      rw [if_neg hlt, if_neg hlt] at this
      rw [fdiv_pos_exact hg0, fdiv_pos_exact hg0]
      exact this
end
section
variable {P : Program} {w : World} {K : PySem.W.Frag} {mg : Str → Option Value} {base : Heap}
local macro_rules | `(tactic| walk_at "fl.t") => `(tactic| (with_reducible refine g_chainW ?_))
local macro_rules | `(tactic| walk_at "fl.t") => `(tactic| (with_reducible refine g_ifE ?_))
local macro_rules | `(tactic| walk_at "fl.w") => `(tactic| repeat walk_at "fl.t")
/-- ratio, its pair a tuple that stands there -/
def spRatP : Sp := fun vs H Q _ => ∃ (p q : Int), vs = [.int p, .int q] ∧ q ≠ 0 ∧ p.natAbs < 2 ^ 1900 ∧ q.natAbs < 2 ^ 1900 ∧ ∀ t H', H t = none → Same H H' → H' t = some (.tup [.int (Rat.divInt p q).num, .int ((Rat.divInt p q).den : Int)]) → Q (.ref t) H'
theorem body_ratioP (T : Txt K mg) (f : Addr) (cdv : Value) (A : Around) (outer : List Env) (s : Shared) (H : Hp) (vs : List V) (Q : VK) (E : XK)
    (hr : Room 0 (A.deeper (envOfC "ratio" (defScope s_ratio) s.heap.objs.size f cdv))) (h : spRatP vs H Q E) :
      ∃ t, PSs (bx P w K mg base N_ratio "ratio" s_ratio f cdv A outer s H E) (defBody s_ratio) t ∧ t { nx := fun _ H' => Q .non H', rt := Q } (start N_ratio vs) H := by
  obtain ⟨p, q, rfl, hq, h1, h2, k⟩ := h
  refine ⟨_, (pss_cons (ps_if (pt_cmpR op_eq (pv 1) pe_int (nomark _))
        pss_never
        pss_nil)
      (pss_cons (ps_set (i := 2) sc_ratio.nd rfl (.inl rfl) (pe_callBfun cr_gcd (by rfl) T.g_gcd (pa_cons (pv 0) (pa_cons (pv 1) pa_nil))))
      (pss_cons (ps_if (pt_cmpR op_lt (pv 1) pe_int (nomark _))
        (pss_one (ps_set (i := 2) sc_ratio.nd rfl (.inl rfl) (pe_un un_neg (pv 2))))
        pss_nil)
      (pss_one (ps_ret (pe_tup (pa_cons (pe_op op_fdivS (pv 0) (pv 2)) (pa_cons (pe_op op_fdivS (pv 1) (pv 2)) pa_nil)))))))), ?_⟩
  have hg0 := gg_pos (p := p) hq
  have hg1 : (gg p q).natAbs < 2 ^ 4000 := by
    have := Nat.gcd_le_right p.natAbs (show 0 < q.natAbs by omega)
    have e : (2 : Nat) ^ 1900 < 2 ^ 4000 := by decide +kernel
    have hg : gg p q = ((Nat.gcd p.natAbs q.natAbs : Nat) : Int) := rfl
    omega
  have hn0 : gg p q ≠ 0 := by omega
  have hn1 : -(gg p q) ≠ 0 := by omega
  have hn2 : (-(gg p q)).natAbs < 2 ^ 4000 := by omega
  have e1 := rp_num (p := p) hq
  have e2 := rq_den (p := p) hq
  unfold rp at e1
  unfold rq at e2
  walk_at "fl.go"
  refine g_ite (fun z => absurd z hq) (fun _ => ?_)
  walk_at "fl.go"
  refine g_ite (fun hlt => ?_) (fun hlt => ?_)
  · rw [if_pos hlt] at e1 e2
    change ((Nat.gcd p.natAbs q.natAbs : Nat) : Int) ≠ 0 at hn0
    walk_at "fl.go"
    rename_i t ht
    refine k t _ ht (Fl.Same.new ht) ?_
    rw [← e1, ← e2, ← fdiv_neg_exact hg0 (gg_dvd_l p q), ← fdiv_neg_exact hg0 (gg_dvd_r p q)]
    exact upd_same
  · rw [if_neg hlt] at e1 e2
    walk_at "fl.go"
    rename_i t ht
    refine k t _ ht (Fl.Same.new ht) ?_
    rw [← e1, ← e2, ← fdiv_pos_exact hg0, ← fdiv_pos_exact hg0]
    exact upd_same
/-- the share of an axis at one of its numbers -/
def shq (t : Int × Int × Int) (n : Int) : Rat := if n > t.2.1 then Rat.divInt (n - t.2.1) (t.2.2 - t.2.1) else if n < t.2.1 then Rat.divInt (n - t.2.1) (t.2.1 - t.1) else Rat.divInt 0 1
def fSh (ds : List PyData) (d : PyData) : Prop := ∃ (t : Int × Int × Int) (n : Int), ds = [.tuple (i3 t), .int n] ∧ -16384 ≤ t.1 ∧ t.1 ≤ t.2.1 ∧ t.2.1 ≤ t.2.2 ∧ t.2.2 ≤ 16384 ∧ t.1 ≤ n ∧ n ≤ t.2.2 ∧ d = fqD (shq t n)
theorem big_lt {n : Int} (h : n.natAbs ≤ 100000) : n.natAbs < 2 ^ 1900 := Nat.lt_of_le_of_lt h (by decide +kernel)
theorem ok_share_of (T : Txt K mg) : Has P w K mg base 2 "share_of" ps_share_of (spD fSh) := by
  have h_ratio_1 : HasD P w K mg base 1 "ratio" ps_ratio [.int 1] spRatP := hasD_of T.d_ratio sc_ratio 1 0 (by decide) rfl bd_ratio_1 (fun vs H Q E h => by obtain ⟨_, _, rfl, _⟩ := h; rfl) (body_ratioP T)
  have h_ratio_2 : HasD P w K mg base 1 "ratio" ps_ratio [] spRatP := hasD_of T.d_ratio sc_ratio 2 1 (by decide) rfl bd_ratio_2 (fun vs H Q E h => by obtain ⟨_, _, rfl, _⟩ := h; rfl) (body_ratioP T)
  refine has_of T.d_share_of sc_share_of bd_share_of (fun vs H Q E h => ?_) (fun f cdv A outer s H vs Q E hr h => ?_)
  · obtain ⟨S, ds, d, _, hd, ⟨t, n, rfl, _⟩, _⟩ := h
    rw [hd.len]
    rfl
  · obtain ⟨S, ds, d, hS, hd, ⟨t, n, rfl, t1, t2, t3, t4, n1, n2, rfl⟩, q⟩ := h
    obtain ⟨v1, _, rfl, h1, hd⟩ := hd.consE
    obtain ⟨v2, _, rfl, h2, hd⟩ := hd.consE
    cases hd.nilE
    cases h2.intE
    obtain ⟨p, rfl, np, hp⟩ := i3E h1
    refine ⟨_, (pss_cons (ps_asg (pv 0) (pgT (n := 3) (K := K) rfl (by rfl) (pgs_cons (pg_name (i := 2) sc_share_of.nd rfl (.inl rfl)) (pgs_cons (pg_name (i := 3) sc_share_of.nd rfl (.inl rfl)) (pgs_cons (pg_name (i := 4) sc_share_of.nd rfl (.inl rfl)) pgs_nil)))))
      (pss_cons (ps_if (pt_cmpR op_gt (pv 1) (pv 3) (nomark _))
        (pss_one (ps_ret (pe_hD h_ratio_2 (hr.mono (by decide)) (pa_cons (pe_op op_sub (pv 1) (pv 3)) (pa_cons (pe_op op_sub (pv 4) (pv 3)) pa_nil)))))
        pss_nil)
      (pss_cons (ps_if (pt_cmpR op_lt (pv 1) (pv 3) (nomark _))
        (pss_one (ps_ret (pe_hD h_ratio_2 (hr.mono (by decide)) (pa_cons (pe_op op_sub (pv 1) (pv 3)) (pa_cons (pe_op op_sub (pv 3) (pv 2)) pa_nil)))))
        pss_nil)
      (pss_one (ps_ret (pe_hD h_ratio_1 (hr.mono (by decide)) (pa_cons pe_int pa_nil))))))), ?_⟩
    walk_at "fl.w"
    refine g_ite (fun c => ?_) (fun c => ?_)
    · walk_at "fl.w"
      refine ⟨_, _, rfl, by omega, big_lt (by omega), big_lt (by omega), fun a H' ha sm e => ?_⟩
      refine q _ _ sm (fqI (hS.ni ha) ?_)
      rw [e, shq, if_pos c]
    · walk_at "fl.w"
      refine g_ite (fun c2 => ?_) (fun c2 => ?_)
      · walk_at "fl.w"
        refine ⟨_, _, rfl, by omega, big_lt (by omega), big_lt (by omega), fun a H' ha sm e => ?_⟩
        refine q _ _ sm (fqI (hS.ni ha) ?_)
        rw [e, shq, if_neg c, if_pos c2]
      · walk_at "fl.w"
        refine ⟨_, _, rfl, by decide, big_lt (by decide), big_lt (by decide), fun a H' ha sm e => ?_⟩
        refine q _ _ sm (fqI (hS.ni ha) ?_)
        rw [e, shq, if_neg c, if_neg c2]
def spRatV : Sp := spRat
theorem ok_law_share (T : Txt K mg) : Has P w K mg base 3 "_law_share" ps_law_share (spD fSh) := by
  have h_law_ratio : Has P w K mg base 2 "_law_ratio" ps_law_ratio spRatV := ok_law_ratio (P := P) (w := w) (base := base) T
  refine has_of T.d_law_share sc_law_share bd_law_share (fun vs H Q E h => ?_) (fun f cdv A outer s H vs Q E hr h => ?_)
  · obtain ⟨S, ds, d, _, hd, ⟨t, n, rfl, _⟩, _⟩ := h
    rw [hd.len]
    rfl
  · obtain ⟨S, ds, d, hS, hd, ⟨t, n, rfl, t1, t2, t3, t4, n1, n2, rfl⟩, q⟩ := h
    obtain ⟨v1, _, rfl, h1, hd⟩ := hd.consE
    obtain ⟨v2, _, rfl, h2, hd⟩ := hd.consE
    cases hd.nilE
    cases h2.intE
    obtain ⟨p, rfl, np, hp⟩ := i3E h1
    have hb : ∀ {x : Int}, x.natAbs ≤ 100000 → x.natAbs < 2 ^ 2000 := fun h => Nat.lt_of_le_of_lt h (by decide +kernel)
    refine ⟨_, (pss_cons (ps_if (pt_cmpR op_gt (pv 1) (pe_ix (ixT (K := K) rfl) (pv 0) pe_int (fun _ _ => rfl)) (nomark _))
        (pss_one (ps_ret (pe_h h_law_ratio (hr.mono (by decide)) (pa_cons (pe_op op_sub (pv 1) (pe_ix (ixT (K := K) rfl) (pv 0) pe_int (fun _ _ => rfl))) (pa_cons (pe_op op_sub (pe_ix (ixT (K := K) rfl) (pv 0) pe_int (fun _ _ => rfl)) (pe_ix (ixT (K := K) rfl) (pv 0) pe_int (fun _ _ => rfl))) pa_nil)))))
        pss_nil)
      (pss_cons (ps_if (pt_cmpR op_lt (pv 1) (pe_ix (ixT (K := K) rfl) (pv 0) pe_int (fun _ _ => rfl)) (nomark _))
        (pss_one (ps_ret (pe_h h_law_ratio (hr.mono (by decide)) (pa_cons (pe_op op_sub (pv 1) (pe_ix (ixT (K := K) rfl) (pv 0) pe_int (fun _ _ => rfl))) (pa_cons (pe_op op_sub (pe_ix (ixT (K := K) rfl) (pv 0) pe_int (fun _ _ => rfl)) (pe_ix (ixT (K := K) rfl) (pv 0) pe_int (fun _ _ => rfl))) pa_nil)))))
        pss_nil)
      (pss_one (ps_ret (pe_tup (pa_cons pe_int (pa_cons pe_int pa_nil))))))), ?_⟩
    walk_at "fl.w"
    refine g_ite (fun c => ?_) (fun c => ?_)
    · walk_at "fl.w"
      refine ⟨_, _, rfl, by omega, hb (by omega), hb (by omega), fun a ha => ?_⟩
      refine q _ _ (Fl.Same.new ha) (fqI (hS.ni ha) ?_)
      rw [upd_same, rp_num (by omega), rq_den (by omega), shq, if_pos c]
    · walk_at "fl.w"
      refine g_ite (fun c2 => ?_) (fun c2 => ?_)
      · walk_at "fl.w"
        refine ⟨_, _, rfl, by omega, hb (by omega), hb (by omega), fun a ha => ?_⟩
        refine q _ _ (Fl.Same.new ha) (fqI (hS.ni ha) ?_)
        rw [upd_same, rp_num (by omega), rq_den (by omega), shq, if_neg c, if_pos c2]
      · walk_at "fl.w"
        rename_i a ha
        refine q _ _ (Fl.Same.new ha) (fqI (hS.ni ha) ?_)
        rw [upd_same, shq, if_neg c, if_neg c2]
        rfl
end
section
variable {S : List Addr} {H1 : Hp} {K : PySem.W.Frag} {g : TG} {tt : TT} {te : TE} {vs : List Nat} {σ : L2.St} {Q : VK}
/-- [elt for x, y in zip(list, list) if test], nothing changed -/
theorem lcZ {a b : Addr} {xs ys : List V} (f : Nat → Option PyData) (hS : Al S H1) (ha : H1 a = some (.lst xs)) (hb : H1 b = some (.lst ys)) (hl : xs.length = ys.length) (hz : xs.length < 1000)
    (step : ∀ (D : Addr) (i : Nat) (x y : V) (T : Addr) (H : Hp), H1 D = none → xs[i]? = some x → ys[i]? = some y → Same H1 H → Al (D :: S) H → H T = none →
      ∀ (R : V → Hp → Prop) (N : Hp → Prop), (∀ r z H4, f i = some r → Same (upd H T (.tup [x, y])) H4 → Dq (D :: S) H4 z r → R z H4) → (f i = none → ∀ H4, Same (upd H T (.tup [x, y])) H4 → N H4) →
      g (.ref T) (wipe σ vs) (upd H T (.tup [x, y])) fun σ2 H2 => wipe σ2 vs = wipe σ vs ∧ tt σ2 H2 fun b H3 => if b = true then te σ2 H3 R else N H3)
    (q : ∀ (D : Addr) (H : Hp), Same H1 H → H1 D = none → Dq S H (.ref D) (.list ((List.range xs.length).filterMap f)) → Q (.ref D) H) :
    lcK (Itz K a b) g tt te vs σ H1 Q := by
  unfold lcK
  intro D hD
  have hDa : a ≠ D := fun e => by rw [e, hD] at ha; cases ha
  have hDb : b ≠ D := fun e => by rw [e, hD] at hb; cases hb
  refine lc_it (walk_zip (xs := xs) (ys := ys) (n := xs.length) (by omega)) (CompAt S H1 D f) (CompAt.zero hD) ?_ ?_ ?_
  · intro i H _ h
    exact ⟨SqL.of (h.fr a _ (by simpa using hDa) ha), SqL.of (h.fr b _ (by simpa using hDb) hb)⟩
  · intro i x H H' hi h ⟨T, y, z, e1, hT, e2, e3, e4⟩
    subst e1 e2
    have hsm : Same H1 H := sm_of hD h.fr
    exact step D i y z T H hD e3 e4 hsm (h.al hS hD) hT _ _ (fun r y H4 er s d => h.put (by omega) er ((Fl.Same.new hT).trans s) d) fun en H4 s => (h.same ((Fl.Same.new hT).trans s)).skip en
  · intro H h
    exact q D H (sm_of hD h.fr) hD (h.fin hS hD)
end
section
variable {P : Program} {w : World} {K : PySem.W.Frag} {mg : Str → Option Value} {base : Heap}
local macro_rules | `(tactic| walk_at "fl.t") => `(tactic| (with_reducible refine g_chainW ?_))
local macro_rules | `(tactic| walk_at "fl.t") => `(tactic| (with_reducible refine g_ifE ?_))
local macro_rules | `(tactic| walk_at "fl.w") => `(tactic| repeat walk_at "fl.t")
theorem fm_c {x : PyData} (n : Nat) : (List.range n).filterMap (fun _ => some x) = (List.range n).map fun _ => x := by
  rw [← List.filterMap_eq_map]
  rfl
/-- a place on axes -/
structure PlOk (ax : List (Int × Int × Int)) (pl : List Int) : Prop where
  l : pl.length = ax.length
  r : ∀ (i : Nat) t n, ax[i]? = some t → pl[i]? = some n → t.1 ≤ n ∧ n ≤ t.2.2
def shF (ax : List (Int × Int × Int)) (pl : List Int) (i : Nat) : Option PyData := match ax[i]?, pl[i]? with
  | some t, some n => some (fqD (shq t n))
  | _, _ => none
def shsD (ax : List (Int × Int × Int)) (pl : List Int) : PyData := .list ((List.range ax.length).filterMap (shF ax pl))
def fShs (c : Cs) (VL : FoR → LkR → Prop) (ds : List PyData) (d : PyData) : Prop := ∃ (f : FoG) (pl : List Int), ds = [foD c f.R, .list (pl.map PyData.int)] ∧ f.Ok VL ∧ PlOk f.axes pl ∧ d = shsD f.axes pl
theorem ok_shares (T : Txt K mg) (VL : FoR → LkR → Prop) : Has P w K mg base 3 "shares" ps_shares (spD (fShs (cs mg) VL)) := by
  obtain ⟨_, _, _, _, _, _, _, _, _, _, _, _, _, _, cF⟩ := T.c_Font
  have clF := cF.cl
  have naF := cF.na
  have h_share_of := ok_share_of (P := P) (w := w) (base := base) T
  refine has_of T.d_shares sc_shares bd_shares (fun vs H Q E h => ?_) (fun f cdv A outer s H vs Q E hr h => ?_)
  · obtain ⟨S, ds, d, _, hd, ⟨fo, pl, rfl, _⟩, _⟩ := h
    rw [hd.len]
    rfl
  · obtain ⟨S, ds, d, hS, hd, ⟨fo, pl, rfl, fok, pok, rfl⟩, q⟩ := h
    obtain ⟨v1, _, rfl, h1, hd⟩ := hd.consE
    obtain ⟨v2, _, rfl, h2, hd⟩ := hd.consE
    cases hd.nilE
    obtain ⟨fa, fdx, w1, w2, w3, w4, w5, w6, w7, w8, w9, rfl, fna, fA, j1, j2, j3, j4, j5, j6, j7, j8, j9⟩ := foE h1
    have j6 : Dq S H w6 (.list (fo.axes.map fun t => .tuple (i3 t))) := by
      rw [← ltD_map]; exact j6
    obtain ⟨hz, hx⟩ := fok.ax
    obtain ⟨b, xs, rfl, nb, hb, hX⟩ := j6.lstE
    obtain ⟨c, ys, rfl, nc, hc, hY⟩ := h2.lstE
    have lx := hX.len
    have ly := hY.len
    rw [List.length_map] at lx ly
    have lp := pok.l
    refine ⟨_, (pss_cons (ps_if (pt_cmpR op_ne (pe_callB (clLen (K := K) rfl) (by rfl) T.z_len (by decide +kernel) (pa_cons (pv 1) pa_nil)) (pe_callB (clLen (K := K) rfl) (by rfl) T.z_len (by decide +kernel) (pa_cons (peFld (K := K) rfl (pv 0) rfl) pa_nil)) (nomark _))
        pss_never
        pss_nil)
      (pss_cons (ps_if (pt_not (pt_val (pe_callB (clAll (K := K) rfl rfl) (by rfl) T.z_all (by decide +kernel) (pa_cons (pe_lc (own := [("at", 3), ("least", 4), ("_", 5), ("greatest", 6)]) rfl sc_shares.nd (pi_zip (by rfl) T.z_zip (pa_cons (pv 1) (pa_cons (peFld (K := K) rfl (pv 0) rfl) pa_nil))) (blkOk_by (by kernel_rfl)) (fun _ _ _ _ _ => (pgT (n := 2) (K := K) rfl (by rfl) (pgs_cons (pg_name (i := 3) sc_shares.nd rfl (.inl rfl)) (pgs_cons (pgT (n := 3) (K := K) rfl (by rfl) (pgs_cons (pg_name (i := 4) sc_shares.nd rfl (.inl rfl)) (pgs_cons (pg_name (i := 5) sc_shares.nd rfl (.inl rfl)) (pgs_cons (pg_name (i := 6) sc_shares.nd rfl (.inl rfl)) pgs_nil)))) pgs_nil)))) (fun _ _ _ _ _ => pts_nil) (fun _ _ _ _ _ => (pe_chain op_le op_le (pv 4) (pv 3) (pv 6)))) pa_nil))))
        pss_never
        pss_nil)
      (pss_one (ps_ret (pe_lc (own := [("axis", 2), ("at", 3)]) rfl sc_shares.nd (pi_zip (by rfl) T.z_zip (pa_cons (peFld (K := K) rfl (pv 0) rfl) (pa_cons (pv 1) pa_nil))) (blkOk_by (by kernel_rfl)) (fun _ _ _ _ _ => (pgT (n := 2) (K := K) rfl (by rfl) (pgs_cons (pg_name (i := 2) sc_shares.nd rfl (.inl rfl)) (pgs_cons (pg_name (i := 3) sc_shares.nd rfl (.inl rfl)) pgs_nil)))) (fun _ _ _ _ _ => pts_nil) (fun _ _ _ _ _ => (pe_h h_share_of (hr.mono (by decide)) (pa_cons (pv 2) (pa_cons (pv 3) pa_nil))))))))), ?_⟩
    walk_at "fl.w"
    refine g_iteN (fun h => absurd (show ((ys.length : Nat) : Int) = (xs.length : Nat) by omega) h) (fun _ => ?_)
    walk_at "fl.w"
    refine lcZ (S := S) (fun _ => some (.bool true)) hS hc hb (by omega) (by omega) ?_ ?_
    · intro D i y x T2 H2 hD hy hxx sm al hT R N hR hN
      obtain ⟨n, hn, hyd⟩ := hY.getM hy
      obtain ⟨t, ht, hxd⟩ := hX.getM hxx
      cases hyd.intE
      obtain ⟨p, rfl, np, hp⟩ := i3E hxd
      have smT : Same H (upd H2 T2 (.tup [V.int n, V.ref p])) := sm.trans (Fl.Same.new hT)
      have hp2 := smT _ _ hp
      obtain ⟨n1, n2⟩ := pok.r i t n ht hn
      walk_at "fl.w"
      refine ⟨rfl, ?_⟩
      walk_at "fl.w"
      refine g_yesB n1 ?_
      walk_at "fl.w"
      rw [decide_eq_true n2]
      exact hR _ _ _ rfl (L2.Same.refl _) (.bl _)
    intro D H2 sm hD dq
    rw [fm_c] at dq
    have fA2 := sm _ _ fA
    have hb2 := sm _ _ hb
    have hc2 := sm _ _ hc
    walk_at "fl.w"
    refine allYes dq ?_
    walk_at "fl.w"
    refine lcZ (S := S) (shF fo.axes pl) (hS.same sm) hb2 hc2 (by omega) (by omega) ?_ ?_
    · intro D' i x y T2 H3 hD' hxx hy sm3 al hT R N hR hN
      obtain ⟨n, hn, hyd⟩ := hY.getM hy
      obtain ⟨t, ht, hxd⟩ := hX.getM hxx
      cases hyd.intE
      have hxd' := hxd
      obtain ⟨p, rfl, np, hp⟩ := i3E hxd
      obtain ⟨n1, n2⟩ := pok.r i t n ht hn
      obtain ⟨t1, t2, t3, t4⟩ := hx t (List.mem_of_getElem? ht)
      walk_at "fl.w"
      refine ⟨rfl, ?_⟩
      walk_at "fl.w"
      have hxn := (((hxd'.same sm).new hD').same sm3).same (Fl.Same.new (o := .tup [V.ref p, V.int n]) hT)
      refine spD_app (D' :: S) [.tuple (i3 t), .int n] (fqD (shq t n)) (al.newH hT) (.cons hxn (.cons (.int _) .nil)) ⟨t, n, rfl, t1, t2, t3, t4, n1, n2, rfl⟩ (fun v G sm4 hv => ?_)
      exact hR _ _ _ (by unfold shF; rw [ht, hn]) sm4 hv
    intro D' H3 sm3 hD' dq3
    rw [lx] at dq3
    exact q _ _ (sm.trans sm3) dq3
end
section
variable {P : Program} {w : World} {K : PySem.W.Frag} {mg : Str → Option Value} {base : Heap}
local macro_rules | `(tactic| walk_at "fl.t") => `(tactic| (with_reducible refine g_chainW ?_))
local macro_rules | `(tactic| walk_at "fl.t") => `(tactic| (with_reducible refine g_ifE ?_))
local macro_rules | `(tactic| walk_at "fl.w") => `(tactic| repeat walk_at "fl.t")
theorem bools_of {S : List Addr} {H : Hp} : ∀ {bs : List Bool} {xs : List V}, DqA S H xs (bs.map PyData.bool) → xs = bs.map V.bl
  | [], _, h => by cases h; rfl
  | b :: bs, _, h => by
    obtain ⟨v, ws, rfl, hv, h2⟩ := h.consE
    cases hv.blE
    rw [bools_of h2]
    rfl
/-- whether a number is on its axis -/
def bq (ax : List (Int × Int × Int)) (pl : List Int) (i : Nat) : Bool := match ax[i]?, pl[i]? with
  | some t, some n => decide (t.1 ≤ n) && decide (n ≤ t.2.2)
  | _, _ => true
structure PlBad (ax : List (Int × Int × Int)) (pl : List Int) : Prop where
  z : pl.length ≤ 100
  b : pl.length ≠ ax.length ∨ ∃ i, i < ax.length ∧ bq ax pl i = false
def spShX (mg : Str → Option Value) (VL : FoR → LkR → Prop) : Sp := fun vs H _ E => ∃ (S : List Addr) (v1 v2 : V) (f : FoG) (pl : List Int), vs = [v1, v2] ∧ Al S H ∧ Dq S H v1 (foD (cs mg) f.R) ∧ Dq S H v2 (.list (pl.map PyData.int)) ∧ f.Ok VL ∧ PlBad f.axes pl ∧ ∀ H', Same H H' → E (.ref (adr mg "InvalidPlace")) none H'
theorem mk_IP (T : Txt K mg) : MkX P w K mg base 1 "InvalidPlace" :=
  mkX_of T.mk_InvalidPlace sc_InvalidPlace (fun kV doc pm an cdv ct us h => match us, h with | [_], _ => rfl) (fun f cdv A outer s H a Q E hr h q =>
    ⟨_, pss_one (ps_expr (pe_binit (by rfl) T.x_FleuronError T.b_FleuronError (pa_cons (pv 0) (pa_cons pe_str pa_nil)))), .ref a, rfl, a, adr mg "InvalidPlace", [_], rfl, by simp, T.mk_InvalidPlace.o, h, q⟩)
theorem ok_sharesX (T : Txt K mg) (VL : FoR → LkR → Prop) : HasXN P w K mg base 3 "shares" ps_shares (spShX mg VL) := by
  have hM_InvalidPlace := mk_IP (P := P) (w := w) (base := base) T
  obtain ⟨_, _, _, _, _, _, _, _, _, _, _, _, _, _, cF⟩ := T.c_Font
  have clF := cF.cl
  have naF := cF.na
  have h_share_of := ok_share_of (P := P) (w := w) (base := base) T
  refine hasXN_of T.d_shares sc_shares bd_shares (fun vs H Q E h => ?_) (fun f cdv A outer s H vs Q E hr h => ?_)
  · obtain ⟨S, v1, v2, fo, pl, rfl, _⟩ := h
    rfl
  · obtain ⟨S, v1, v2, fo, pl, rfl, hS, h1, h2, fok, pb, q⟩ := h
    obtain ⟨fa, fdx, w1, w2, w3, w4, w5, w6, w7, w8, w9, rfl, fna, fA, j1, j2, j3, j4, j5, j6, j7, j8, j9⟩ := foE h1
    have j6 : Dq S H w6 (.list (fo.axes.map fun t => .tuple (i3 t))) := by
      rw [← ltD_map]; exact j6
    obtain ⟨hz, hx⟩ := fok.ax
    obtain ⟨b, xs, rfl, nb, hb, hX⟩ := j6.lstE
    obtain ⟨c, ys, rfl, nc, hc, hY⟩ := h2.lstE
    have lx := hX.len
    have ly := hY.len
    rw [List.length_map] at lx ly
    have pz := pb.z
    refine ⟨_, (pss_cons (ps_if (pt_cmpR op_ne (pe_callB (clLen (K := K) rfl) (by rfl) T.z_len (by decide +kernel) (pa_cons (pv 1) pa_nil)) (pe_callB (clLen (K := K) rfl) (by rfl) T.z_len (by decide +kernel) (pa_cons (peFld (K := K) rfl (pv 0) rfl) pa_nil)) (nomark _))
        (pss_one (ps_raiseNN hM_InvalidPlace rfl (hr.mono (by decide)) (L2N.takes_of rfl rfl rfl rfl)))
        pss_nil)
      (pss_cons (ps_if (pt_not (pt_val (pe_callB (clAll (K := K) rfl rfl) (by rfl) T.z_all (by decide +kernel) (pa_cons (pe_lc (own := [("at", 3), ("least", 4), ("_", 5), ("greatest", 6)]) rfl sc_shares.nd (pi_zip (by rfl) T.z_zip (pa_cons (pv 1) (pa_cons (peFld (K := K) rfl (pv 0) rfl) pa_nil))) (blkOk_by (by kernel_rfl)) (fun _ _ _ _ _ => (pgT (n := 2) (K := K) rfl (by rfl) (pgs_cons (pg_name (i := 3) sc_shares.nd rfl (.inl rfl)) (pgs_cons (pgT (n := 3) (K := K) rfl (by rfl) (pgs_cons (pg_name (i := 4) sc_shares.nd rfl (.inl rfl)) (pgs_cons (pg_name (i := 5) sc_shares.nd rfl (.inl rfl)) (pgs_cons (pg_name (i := 6) sc_shares.nd rfl (.inl rfl)) pgs_nil)))) pgs_nil)))) (fun _ _ _ _ _ => pts_nil) (fun _ _ _ _ _ => (pe_chain op_le op_le (pv 4) (pv 3) (pv 6)))) pa_nil))))
        (pss_one (ps_raiseNN hM_InvalidPlace rfl (hr.mono (by decide)) (L2N.takes_of rfl rfl rfl rfl)))
        pss_nil)
      (pss_one (ps_ret (pe_lc (own := [("axis", 2), ("at", 3)]) rfl sc_shares.nd (pi_zip (by rfl) T.z_zip (pa_cons (peFld (K := K) rfl (pv 0) rfl) (pa_cons (pv 1) pa_nil))) (blkOk_by (by kernel_rfl)) (fun _ _ _ _ _ => (pgT (n := 2) (K := K) rfl (by rfl) (pgs_cons (pg_name (i := 2) sc_shares.nd rfl (.inl rfl)) (pgs_cons (pg_name (i := 3) sc_shares.nd rfl (.inl rfl)) pgs_nil)))) (fun _ _ _ _ _ => pts_nil) (fun _ _ _ _ _ => (pe_h h_share_of (hr.mono (by decide)) (pa_cons (pv 2) (pa_cons (pv 3) pa_nil))))))))), ?_⟩
    walk_at "fl.w"
    by_cases hl : pl.length = fo.axes.length
    · refine g_iteN (fun h => absurd (show ((ys.length : Nat) : Int) = (xs.length : Nat) by omega) h) (fun _ => ?_)
      obtain ⟨i0, hi0, hbad⟩ : ∃ i, i < fo.axes.length ∧ bq fo.axes pl i = false := pb.b.elim (fun e => absurd hl e) id
      walk_at "fl.w"
      refine lcZ (S := S) (fun i => some (.bool (bq fo.axes pl i))) hS hc hb (by omega) (by omega) ?_ ?_
      · intro D i y x T2 H2 hD hy hxx sm al hT R N hR hN
        obtain ⟨n, hn, hyd⟩ := hY.getM hy
        obtain ⟨t, ht, hxd⟩ := hX.getM hxx
        cases hyd.intE
        obtain ⟨p, rfl, np, hp⟩ := i3E hxd
        have smT : Same H (upd H2 T2 (.tup [V.int n, V.ref p])) := sm.trans (Fl.Same.new hT)
        have hp2 := smT _ _ hp
        have hbq : bq fo.axes pl i = (decide (t.1 ≤ n) && decide (n ≤ t.2.2)) := by unfold bq; rw [ht, hn]
        walk_at "fl.w"
        refine ⟨rfl, ?_⟩
        walk_at "fl.w"
        by_cases n1 : t.1 ≤ n
        · refine g_yesB n1 ?_
          walk_at "fl.w"
          refine hR _ _ _ rfl (L2.Same.refl _) ?_
          rw [hbq, decide_eq_true n1, Bool.true_and]
          exact .bl _
        · refine g_noB n1 ?_
          refine hR _ _ _ rfl (L2.Same.refl _) ?_
          rw [hbq, decide_eq_false n1, Bool.false_and]
          exact .bl _
      intro D H2 sm hD dq
      have dq : Dq S H2 (.ref D) (.list (((List.range ys.length).map (bq fo.axes pl)).map PyData.bool)) := by
        rw [List.map_map]
        rw [show ((List.range ys.length).filterMap fun i => some (PyData.bool (bq fo.axes pl i))) = (List.range ys.length).map (PyData.bool ∘ bq fo.axes pl) from by rw [← List.filterMap_eq_map]; rfl] at dq
        exact dq
      obtain ⟨_, zs, e, nz, hzs, hZ⟩ := dq.lstE
      cases e
      have ez := bools_of hZ
      rw [ez] at hzs
      walk_at "fl.w"
      rw [show ((List.range ys.length).map (bq fo.axes pl)).all id = false from by
        rw [List.all_eq_false]
        exact ⟨false, List.mem_map.mpr ⟨i0, List.mem_range.mpr (by omega), hbad⟩, by decide⟩]
      walk_at "fl.w"
      exact g_raiseN (q _ sm)
    · refine g_iteN (fun _ => ?_) (fun h => absurd (show pl.length = fo.axes.length by omega) hl)
      exact g_raiseN (q _ (L2.Same.refl _))
end
section
variable {S : List Addr} {H1 : Hp} {K : PySem.W.Frag}
/-- {k: v for k, v in d.items()}, d empty -/
theorem dcNil {d : Addr} {od : Obj} {g : TG} {tt : TT} {tk tv : TE} {td : TE} {vs : List Nat} {σ : L2.St} {Q : VK} (htd : ∀ R : V → Hp → Prop, R (.ref d) H1 → td σ H1 R) (hd : H1 d = some (.frz od (.dK []))) (q : ∀ D, H1 D = none → Q (.ref D) (upd H1 D (.dK []))) : tDc (iItems td) g tt tk tv vs σ H1 Q := by
  refine htd _ ⟨d, od, [], rfl, hd, fun D hD => ⟨fun i m H => H = upd H1 D (.dK []), ⟨0, rfl⟩, fun i m H e => .inl ⟨?_, ?_⟩⟩⟩
  · subst e
    exact ⟨by rw [upd_ne (fun e => by rw [← e, hd] at hD; cases hD)]; exact hd, Nat.zero_le _⟩
  · subst e
    exact q D hD
/-- [x for a in as for x in a], as empty -/
theorem lc2Nil {a : Addr} {g g1 : TG} {tt tt1 : TT} {wi1 : TI} {te : TE} {vs vs1 : List Nat} {σ : L2.St} {Q : VK} (hS : Al S H1) (ha : Dq S H1 (.ref a) (.list [])) (q : ∀ D H, Same H1 H → H1 D = none → Dq S H (.ref D) (.list []) → Q (.ref D) H) : lc2K (Itl K a) g tt wi1 g1 tt1 te vs vs1 σ H1 Q := by
  intro D hD
  obtain ⟨a', xs, ea, na, hxs, hall⟩ := ha.lstE
  cases ea
  cases hall.nilE
  have hDa : a ≠ D := fun e => by rw [e, hD] at hxs; cases hxs
  refine ⟨fun i m H => H = upd H1 D (.lst []), ⟨0, rfl⟩, fun i m H e => .inl ⟨?_, ?_⟩⟩
  · subst e
    exact ⟨[], SqL.of (by rw [upd_ne hDa]; exact hxs), Nat.zero_le _⟩
  · subst e
    exact q D _ (Fl.Same.new hD) hD (.lst (hS.ni hD) upd_same .nil)
end
section
variable {P : Program} {w : World} {K : PySem.W.Frag} {mg : Str → Option Value} {base : Heap}
local macro_rules | `(tactic| walk_at "fl.t") => `(tactic| (with_reducible refine g_chainW ?_))
local macro_rules | `(tactic| walk_at "fl.t") => `(tactic| (with_reducible refine g_callS ?_))
local macro_rules | `(tactic| walk_at "fl.t") => `(tactic| (with_reducible refine g_ifE ?_))
local macro_rules | `(tactic| walk_at "fl.w") => `(tactic| repeat walk_at "fl.t")
def VL0 : FoR → LkR → Prop := fun _ _ => False
/-- the law's font -/
def gA : GlG := ⟨10, [], [], [], false, [], []⟩
def fax (ax : List (Int × Int × Int)) : FoG := ⟨100, [gA], [], [], [], ax, [], [], []⟩
theorem no_factor (T : Txt K mg) : Has P w K mg base 1 "factor" ps_factor (fun _ _ _ _ => False) := no_has (P := P) (w := w) (base := base) T.d_factor sc_factor bd_factor
def fFac (c : Cs) (ds : List PyData) (d : PyData) : Prop := ∃ (ax : List (Int × Int × Int)) (pl : List Int), ds = [foD c (fax ax).R, .list (pl.map PyData.int)] ∧ (fax ax).Ok VL0 ∧ PlOk ax pl ∧ d = .list []
theorem ok_factors_of (T : Txt K mg) : Has P w K mg base 4 "factors_of" ps_factors_of (spD (fFac (cs mg))) := by
  obtain ⟨_, _, _, _, _, _, _, _, _, _, _, _, _, _, cF⟩ := T.c_Font
  have clF := cF.cl
  have naF := cF.na
  have h_shares := ok_shares (P := P) (w := w) (base := base) T VL0
  have h_factor := no_factor (P := P) (w := w) (base := base) T
  refine has_of T.d_factors_of sc_factors_of bd_factors_of (fun vs H Q E h => ?_) (fun f cdv A outer s H vs Q E hr h => ?_)
  · obtain ⟨S, ds, d, _, hd, ⟨ax, pl, rfl, _⟩, _⟩ := h
    rw [hd.len]
    rfl
  · obtain ⟨S, ds, d, hS, hd, ⟨ax, pl, rfl, fok, pok, rfl⟩, q⟩ := h
    obtain ⟨v1, _, rfl, h1, hd⟩ := hd.consE
    obtain ⟨v2, _, rfl, h2, hd⟩ := hd.consE
    cases hd.nilE
    have h1' := h1
    obtain ⟨fa, fdx, w1, w2, w3, w4, w5, w6, w7, w8, w9, rfl, fna, fA, j1, j2, j3, j4, j5, j6, j7, j8, j9⟩ := foE h1'
    have j7 : Dq S H w7 (.list []) := j7
    refine ⟨_, (pss_cons (ps_set (i := 2) sc_factors_of.nd rfl (.inr rfl) (pe_h h_shares (hr.mono (by decide)) (pa_cons (pv 0) (pa_cons (pv 1) pa_nil))))
      (pss_one (ps_ret (pe_lc (own := [("region", 3)]) rfl sc_factors_of.nd (piL (K := K) rfl (peFld (K := K) rfl (pv 0) rfl)) (blkOk_by (by kernel_rfl)) (fun _ _ _ _ _ => (pg_name (i := 3) sc_factors_of.nd rfl (.inl rfl))) (fun _ _ _ _ _ => pts_nil) (fun _ _ _ _ _ => (pe_h h_factor (hr.mono (by decide)) (pa_cons (pv 3) (pa_cons (pv 2) pa_nil)))))))), ?_⟩
    walk_at "fl.w"
    refine spD_app S [foD (cs mg) (fax ax).R, .list (pl.map PyData.int)] (shsD ax pl) hS (.cons h1 (.cons h2 .nil)) ⟨fax ax, pl, rfl, fok, pok, rfl⟩ (fun v H2 sm hv => ?_)
    have fA2 := sm _ _ fA
    have j7' := j7.same sm
    obtain ⟨b, xs, rfl, nb, hb, hX⟩ := j7'.lstE
    cases hX.nilE
    walk_at "fl.w"
    exact lcNil (hS.same sm) (.lst nb hb .nil) fun D H3 sm3 hq => q _ _ (sm.trans sm3) hq
def spFacX (mg : Str → Option Value) : Sp := fun vs H _ E => ∃ (S : List Addr) (v1 v2 : V) (ax : List (Int × Int × Int)) (pl : List Int), vs = [v1, v2] ∧ Al S H ∧ Dq S H v1 (foD (cs mg) (fax ax).R) ∧ Dq S H v2 (.list (pl.map PyData.int)) ∧ (fax ax).Ok VL0 ∧ PlBad ax pl ∧ ∀ H', Same H H' → E (.ref (adr mg "InvalidPlace")) none H'
theorem ok_factors_ofX (T : Txt K mg) : HasXN P w K mg base 4 "factors_of" ps_factors_of (spFacX mg) := by
  obtain ⟨_, _, _, _, _, _, _, _, _, _, _, _, _, _, cF⟩ := T.c_Font
  have clF := cF.cl
  have naF := cF.na
  have hX_shares := ok_sharesX (P := P) (w := w) (base := base) T VL0
  have h_factor := no_factor (P := P) (w := w) (base := base) T
  refine hasXN_of T.d_factors_of sc_factors_of bd_factors_of (fun vs H Q E h => ?_) (fun f cdv A outer s H vs Q E hr h => ?_)
  · obtain ⟨S, v1, v2, ax, pl, rfl, _⟩ := h
    rfl
  · obtain ⟨S, v1, v2, ax, pl, rfl, hS, h1, h2, fok, pb, q⟩ := h
    refine ⟨_, (pss_cons (ps_set (i := 2) sc_factors_of.nd rfl (.inr rfl) (pe_hXN hX_shares (hr.mono (by decide)) (L2N.takes_of rfl rfl rfl rfl) (pa_cons (pv 0) (pa_cons (pv 1) pa_nil))))
      (pss_one (ps_ret (pe_lc (own := [("region", 3)]) rfl sc_factors_of.nd (piL (K := K) rfl (peFld (K := K) rfl (pv 0) rfl)) (blkOk_by (by kernel_rfl)) (fun _ _ _ _ _ => (pg_name (i := 3) sc_factors_of.nd rfl (.inl rfl))) (fun _ _ _ _ _ => pts_nil) (fun _ _ _ _ _ => (pe_h h_factor (hr.mono (by decide)) (pa_cons (pv 3) (pa_cons (pv 2) pa_nil)))))))), ?_⟩
    walk_at "fl.w"
    exact ⟨S, v1, v2, fax ax, pl, rfl, hS, h1, h2, fok, pb, q⟩
def spChs : Sp := fun vs H Q _ => ∃ (S : List Addr) (a : Addr) (v : V), vs = [.ref a, v] ∧ Al S H ∧ Dq S H (.ref a) (.list []) ∧ ∀ D H', Same H H' → H' D = some (.dK []) → Q (.ref D) H'
theorem ok_changes_of (T : Txt K mg) : Has P w K mg base 2 "changes_of" ps_changes_of spChs := by
  have h_nearest := no_has (P := P) (w := w) (base := base) T.d_nearest sc_nearest bd_nearest
  refine has_of T.d_changes_of sc_changes_of bd_changes_of (fun vs H Q E h => ?_) (fun f cdv A outer s H vs Q E hr h => ?_)
  · obtain ⟨S, a, v, rfl, _⟩ := h
    rfl
  · obtain ⟨S, a, v, rfl, hS, ha, q⟩ := h
    obtain ⟨_, xs, e, na, hb, hX⟩ := ha.lstE
    cases e
    cases hX.nilE
    refine ⟨_, (pss_cons (ps_set (i := 2) sc_changes_of.nd rfl (.inl rfl) pe_dnewK)
      (pss_cons (ps_for PassesOwn.never rfl (piL (K := K) rfl (pv 0)) (pgT (n := 4) (K := K) rfl (by rfl) (pgs_cons (pg_name (i := 3) sc_changes_of.nd rfl (.inl rfl)) (pgs_cons (pg_name (i := 4) sc_changes_of.nd rfl (.inl rfl)) (pgs_cons (pg_name (i := 5) sc_changes_of.nd rfl (.inl rfl)) (pgs_cons (pg_name (i := 6) sc_changes_of.nd rfl (.inl rfl)) pgs_nil)))))
        pss_never)
      (pss_one (ps_ret (pe_lock (pe_dc (own := [("point", 4), ("sum_x", 7), ("sum_y", 8)]) rfl sc_changes_of.nd (pi_items (pv 2)) (blkOk_by (by kernel_rfl)) (fun _ _ _ _ _ => (pgT (n := 2) (K := K) rfl (by rfl) (pgs_cons (pg_name (i := 4) sc_changes_of.nd rfl (.inl rfl)) (pgs_cons (pgT (n := 2) (K := K) rfl (by rfl) (pgs_cons (pg_name (i := 7) sc_changes_of.nd rfl (.inl rfl)) (pgs_cons (pg_name (i := 8) sc_changes_of.nd rfl (.inl rfl)) pgs_nil))) pgs_nil)))) (fun _ _ _ _ _ => pts_nil) (fun _ _ _ _ _ => (pv 4)) (fun _ _ _ _ _ => (pe_tup (pa_cons (pe_h h_nearest (hr.mono (by decide)) (pa_cons (pv 7) pa_nil)) (pa_cons (pe_h h_nearest (hr.mono (by decide)) (pa_cons (pv 8) pa_nil)) pa_nil)))))))))), ?_⟩
    walk_at "fl.w"
    intro p hp
    walk_at "fl.w"
    have hb2 : (upd H p (.dK [])) a = some (.lst []) := Fl.Same.new hp _ _ hb
    refine forK_l (xs := []) (fun i σ' H' => σ' = (L2.start N_changes_of [.ref a, v]).set 2 (some (.ref p)) ∧ H' = upd H p (.dK [])) ⟨rfl, rfl⟩ (fun i σ' H' _ e => by rw [e.2]; exact SqL.of hb2) (fun i x σ' H' hx => by simp at hx) (fun σ' H' e => ?_)
    obtain ⟨rfl, rfl⟩ := e
    walk_at "fl.w"
    refine g_lockE upd_same trivial (fun od => ?_)
    refine dcNil (fun R r => ⟨_, rfl, r⟩) upd_same (fun D hD => ⟨?_, ?_⟩)
    · rw [upd_ne (fun e => by rw [e, upd_same] at hD; cases hD)]; exact upd_same
    · have nD : D ≠ p := fun e => by rw [e, upd_same] at hD; cases hD
      have hDn : H D = none := by rw [upd_ne nD, upd_ne nD] at hD; exact hD
      refine q _ _ (fun b o e => ?_) (by rw [upd_ne nD, upd_same])
      have bp : b ≠ p := fun h => by rw [h, hp] at e; cases e
      have bD : b ≠ D := fun h => by rw [h, hDn] at e; cases e
      rw [upd_ne bp, upd_ne bD, upd_ne bp, upd_ne bp]
      exact e
end
section
variable {P : Program} {w : World} {K : PySem.W.Frag} {mg : Str → Option Value} {base : Heap}
local macro_rules | `(tactic| walk_at "fl.t") => `(tactic| (with_reducible refine g_chainW ?_))
local macro_rules | `(tactic| walk_at "fl.t") => `(tactic| (with_reducible refine g_callS ?_))
local macro_rules | `(tactic| walk_at "fl.t") => `(tactic| (with_reducible refine g_ifE ?_))
local macro_rules | `(tactic| walk_at "fl.w") => `(tactic| repeat walk_at "fl.t")
/-- Glyph(advance, outline, parts=, anchors=, mark=, hint=) -/
theorem mk_GlC {e1 e2 e3 e4 : Addr} {sp : Sp} (h : InI P w K mg base 2 "Glyph" "Glyph.__init__" s_Glyph fl_Glyph (kw_Glyph e1 e2 e3 e4) ps_Glyph sp) :
    MkI P w K mg base 2 "Glyph" 2 ["parts", "anchors", "mark", "hint"] (fun vs zs => pick [0, 1, 2, 4, 5, 6, 3, 7] (vs ++ ([.ref e3] ++ zs))) sp :=
  h.make 2 ["parts", "anchors", "mark", "hint"] [("deltas", .ref e3)] [0, 1, 2, 4, 5, 6, 3, 7] (by simp) (by simp [kw_Glyph]) fun D doc pm an cdv ct us mv ws h1 h2 h3 => match us, h1, mv, h2, ws, h3 with | [_, _, _], _, [_], _, [_, _, _, _], _ => ⟨_, _, _, _, _, _, rfl, rfl, rfl⟩
def spCho : Sp := fun vs H Q _ => ∃ (S : List Addr) (a b : Addr), vs = [.ref a, .ref b] ∧ Al S H ∧ Dq S H (.ref a) (.list []) ∧ ∀ v H', Same H H' → Dq S H' v (.list []) → Q v H'
theorem ok_changed_outline (T : Txt K mg) : Has P w K mg base 2 "changed_outline" ps_changed_outline spCho := by
  refine has_of T.d_changed_outline sc_changed_outline bd_changed_outline (fun vs H Q E h => ?_) (fun f cdv A outer s H vs Q E hr h => ?_)
  · obtain ⟨S, a, b, rfl, _⟩ := h
    rfl
  · obtain ⟨S, a, b, rfl, hS, ha, q⟩ := h
    obtain ⟨_, xs, e, na, hb, hX⟩ := ha.lstE
    cases e
    cases hX.nilE
    refine ⟨_, (pss_cons (ps_set (i := 2) sc_changed_outline.nd rfl (.inl rfl) (pe_lst pa_nil))
      (pss_cons (ps_set (i := 3) sc_changed_outline.nd rfl (.inl rfl) pe_int)
      (pss_cons (ps_for PassesOwn.never rfl (piL (K := K) rfl (pv 0)) (pg_name (i := 4) sc_changed_outline.nd rfl (.inl rfl))
        pss_never)
      (pss_one (ps_ret (pv 2)))))), ?_⟩
    walk_at "fl.w"
    rename_i p hp
    have hb2 : (upd H p (.lst [])) a = some (.lst []) := Fl.Same.new hp _ _ hb
    refine forK_l (xs := []) (fun i σ' H' => σ' = ((L2.start N_changed_outline [.ref a, .ref b]).set 2 (some (.ref p))).set 3 (some (.int 0)) ∧ H' = upd H p (.lst [])) ⟨rfl, rfl⟩ (fun i σ' H' _ e => by rw [e.2]; exact SqL.of hb2) (fun i x σ' H' hx => by simp at hx) (fun σ' H' e => ?_)
    obtain ⟨rfl, rfl⟩ := e
    walk_at "fl.w"
    exact q _ _ (Fl.Same.new hp) (.lst (hS.ni hp) upd_same .nil)
def fNr (ds : List PyData) (d : PyData) : Prop := ds = [.list []] ∧ d = .bool true
theorem ok_is_near (T : Txt K mg) : Has P w K mg base 2 "is_near" ps_is_near (spD fNr) := by
  refine has_of T.d_is_near sc_is_near bd_is_near (fun vs H Q E h => ?_) (fun f cdv A outer s H vs Q E hr h => ?_)
  · obtain ⟨S, ds, d, _, hd, ⟨rfl, _⟩, _⟩ := h
    rw [hd.len]
    rfl
  · obtain ⟨S, ds, d, hS, hd, ⟨rfl, rfl⟩, q⟩ := h
    obtain ⟨v1, _, rfl, h1, hd⟩ := hd.consE
    cases hd.nilE
    obtain ⟨a, xs, rfl, na, hb, hX⟩ := h1.lstE
    cases hX.nilE
    refine ⟨_, (pss_one (ps_ret (pe_callB (clAll (K := K) rfl rfl) (by rfl) T.z_all (by decide +kernel) (pa_cons (pe_lc2 (own := [("contour", 1), ("x", 2), ("y", 3), ("_", 4)]) (vs1 := [2, 3, 4]) rfl sc_is_near.nd (piL (K := K) rfl (pv 0)) (blkOk_by (by kernel_rfl)) (by decide) (fun _ _ _ _ _ => (pg_name (i := 1) sc_is_near.nd rfl (.inl rfl))) (fun _ _ _ _ _ => pts_nil) (fun _ _ _ _ _ => (piL (K := K) rfl (pv 1))) (fun _ _ _ _ _ => (pgT (n := 3) (K := K) rfl (by rfl) (pgs_cons (pg_name (i := 2) sc_is_near.nd rfl (.inl rfl)) (pgs_cons (pg_name (i := 3) sc_is_near.nd rfl (.inl rfl)) (pgs_cons (pg_name (i := 4) sc_is_near.nd rfl (.inl rfl)) pgs_nil))))) (fun _ _ _ _ _ => pts_nil) (fun _ _ _ _ _ => (pe_and (pe_cmpR op_le (pe_callB call_abs' (by rfl) T.z_abs (by decide +kernel) (pa_cons (pv 2) pa_nil)) (pe_gv (by rfl) T.g_FARTHEST) (nomark _)) (pe_one (pe_cmpR op_le (pe_callB call_abs' (by rfl) T.z_abs (by decide +kernel) (pa_cons (pv 3) pa_nil)) (pe_gv (by rfl) T.g_FARTHEST) (nomark _)))))) pa_nil)))), ?_⟩
    walk_at "fl.w"
    refine g_lc2 ?_
    walk_at "fl.w"
    refine lc2Nil hS (.lst na hb .nil) (fun D H2 sm hD hq => ?_)
    exact allE hq (q _ _ sm (.bl _))
theorem g_dg2 {td ty tx : TE} {σ : L2.St} {H : Hp} {Q : VK} (h : td σ H fun x H1 => ∃ a, x = .ref a ∧ IsD H1 a ∧ ty σ H1 fun y H2 => tx σ H2 fun z H3 => ∃ o, DGet H3 a y o ∧ Q (o.getD z) H3) : tDGet2 td ty tx σ H Q := h
def fCgl (c : Cs) (ds : List PyData) (d : PyData) : Prop := ∃ (ax : List (Int × Int × Int)), ds = [foD c (fax ax).R, .int 0, .list []] ∧ d = glD c gA.R
theorem ok_changed_glyph (T : Txt K mg) : Has P w K mg base 4 "changed_glyph" ps_changed_glyph (spD (fCgl (cs mg))) := by
  obtain ⟨_, _, _, _, _, _, _, _, _, _, _, _, _, _, cF⟩ := T.c_Font
  have clF := cF.cl
  have naF := cF.na
  obtain ⟨g1', g2', g3', g4', o1, o2, o3, o4, cG⟩ := T.c_Glyph
  have clG := cG.cl
  have naG := cG.na
  have mk_Glyph_2_parts_anchors_mark_hint := mk_GlC (ok_Glyph (P := P) (w := w) (base := base) T cG)
  have h_changes_of := ok_changes_of (P := P) (w := w) (base := base) T
  have h_changed_outline := ok_changed_outline (P := P) (w := w) (base := base) T
  have h_is_near := ok_is_near (P := P) (w := w) (base := base) T
  refine has_of T.d_changed_glyph sc_changed_glyph bd_changed_glyph (fun vs H Q E h => ?_) (fun f cdv A outer s H vs Q E hr h => ?_)
  · obtain ⟨S, ds, d, _, hd, ⟨ax, rfl, _⟩, _⟩ := h
    rw [hd.len]
    rfl
  · obtain ⟨S, ds, d, hS, hd, ⟨ax, rfl, rfl⟩, q⟩ := h
    obtain ⟨v1, _, rfl, h1, hd⟩ := hd.consE
    obtain ⟨v2, _, rfl, h2, hd⟩ := hd.consE
    obtain ⟨v3, _, rfl, h3, hd⟩ := hd.consE
    cases hd.nilE
    cases h2.intE
    have h1' := h1
    obtain ⟨fa, fdx, w1, w2, w3, w4, w5, w6, w7, w8, w9, rfl, fna, fA, j1, j2, j3, j4, j5, j6, j7, j8, j9⟩ := foE h1'
    have j2 : Dq S H w2 (.list [glD (cs mg) gA.R]) := j2
    obtain ⟨b, gs, rfl, nb, hb, hG⟩ := j2.lstE
    obtain ⟨x, gs, rfl, dx, hG⟩ := hG.consE
    cases hG.nilE
    obtain ⟨ga, gdx, u1, u2, u3, u4, u5, u6, u7, rfl, gna, gA, m1, m2, m3, m4, m5, m6, m7⟩ := glE dx
    have m1 : Dq S H u1 (.int 10) := m1
    have m2 : Dq S H u2 (.list []) := m2
    have m3 : Dq S H u3 (.list []) := m3
    have m4 : Dq S H u4 (.list []) := m4
    have m5 : Dq S H u5 (.bool false) := m5
    have m6 : Dq S H u6 (.list []) := m6
    have m7 : Dq S H u7 (.list []) := m7
    cases m1.intE
    cases m5.blE
    refine ⟨_, (pss_cons (ps_set (i := 3) sc_changed_glyph.nd rfl (.inl rfl) (pe_ix (ixL (K := K) rfl) (peFld (K := K) rfl (pv 0) rfl) (pv 1) (fun _ _ => rfl)))
      (pss_cons (ps_set (i := 4) sc_changed_glyph.nd rfl (.inl rfl) (pe_h h_changes_of (hr.mono (by decide)) (pa_cons (peFld (K := K) rfl (pv 3) rfl) (pa_cons (pv 2) pa_nil))))
      (pss_cons (ps_set (i := 5) sc_changed_glyph.nd rfl (.inl rfl) (pe_op op_add (peFld (K := K) rfl (pv 3) rfl) (pe_ix (ixT (K := K) rfl) (pe_dget2 (hu_of hr) (pv 4) (pe_gv (by rfl) T.g_ADVANCE) (pe_tup (pa_cons pe_int (pa_cons pe_int pa_nil))) ⟨by rfl, by rfl, by rfl, by rfl⟩) pe_int (fun _ _ => rfl))))
      (pss_cons (ps_set (i := 6) sc_changed_glyph.nd rfl (.inl rfl) (pe_h h_changed_outline (hr.mono (by decide)) (pa_cons (peFld (K := K) rfl (pv 3) rfl) (pa_cons (pv 4) pa_nil))))
      (pss_cons (ps_if (PW.pt (pw_or (pt_not (pt_chain op_le op_le pe_int (pv 5) (pe_gv (by rfl) T.g_FARTHEST))) (pw_or1 (pt_not (pt_val (pe_h h_is_near (hr.mono (by decide)) (pa_cons (pv 6) pa_nil)))))))
        pss_never
        pss_nil)
      (pss_one (ps_ret (pe_mk (mg := mg) rfl mk_Glyph_2_parts_anchors_mark_hint (hr.mono (by decide)) (pa_cons (pv 5) (pa_cons (pv 6) pa_nil)) (pk_cons (peFld (K := K) rfl (pv 3) rfl) (pk_cons (peFld (K := K) rfl (pv 3) rfl) (pk_cons (peFld (K := K) rfl (pv 3) rfl) (pk_cons (peFld (K := K) rfl (pv 3) rfl) pk_nil)))))))))))), ?_⟩
    walk_at "fl.w"
    have m6' := m6
    obtain ⟨b6, ys, rfl, n6, hb6, hY⟩ := m6'.lstE
    cases hY.nilE
    refine ⟨S, b6, v3, rfl, hS, m6, fun D H2 sm hD => ?_⟩
    have gA2 := sm _ _ gA
    walk_at "fl.w"
    refine g_dg2 ?_
    walk_at "fl.w"
    refine ⟨D, rfl, .inl ⟨_, .inl hD⟩, ?_⟩
    walk_at "fl.w"
    rename_i p hp
    have hD3 : (upd H2 p (.tup [.int 0, .int 0])) D = some (.dK []) := Fl.Same.new hp _ _ hD
    refine ⟨none, .inl ⟨_, .inl (-1), .inl hD3, rfl, rfl⟩, ?_⟩
    walk_at "fl.w"
    show rIxT K (V.ref p) _ _ _
    walk_at "fl.w"
    have sm2 := sm.trans (Fl.Same.new (o := .tup [.int 0, .int 0]) hp)
    have m2' := m2.same sm2
    obtain ⟨b2, ys, rfl, n2, hb2, hY⟩ := m2'.lstE
    cases hY.nilE
    have al2 := hS.same sm2
    have gA3 := sm2 _ _ gA
    refine ⟨S, b2, D, rfl, al2, m2', fun v6 H4 sm4 hv6 => ?_⟩
    have gA4 := sm4 _ _ gA3
    have al4 := al2.same sm4
    walk_at "fl.w"
    refine g_yesB (show (0 : Int) ≤ 10 by decide) ?_
    walk_at "fl.w"
    refine g_nB (show (10 : Int) ≤ 16384 by decide) ?_
    walk_at "fl.w"
    refine spD_app S [.list []] (.bool true) al4 (.cons hv6 .nil) ⟨rfl, rfl⟩ (fun v G sm5 hv => ?_)
    cases hv.blE
    have gA5 := sm5 _ _ gA4
    have al5 := al4.same sm5
    have smG := (sm2.trans sm4).trans sm5
    have m3 := m3.same smG
    have m4 := m4.same smG
    have m7 := m7.same smG
    have hv6 := hv6.same sm5
    walk_at "fl.w"
    trace_state
    refine g_mk rfl rfl (mk_app (f := fGl) (ws := [.int 10, v6, u3, u4, .bl false, .ref g3', u7]) S [.int 10, .list [], .list [], .list [], .bool false, .tuple [], .list []] K40.gA.R.F (fun x => rfl) al5 (.cons (.inl (.int _)) (.cons (.inl hv6) (.cons (.inl m3) (.cons (.inl m4) (.cons (.inl (.bl _)) (.cons (.inr ⟨rfl, _, rfl, o3⟩) (.cons (.inl m7) .nil)))))))
      ⟨_, _, _, _, _, K40.gA.R, rfl, GlG.rok (n := 1) (m := 0) ⟨⟨by decide, by decide⟩, by decide, ⟨by decide, fun c m => (nomatch m)⟩, ⟨by decide, fun p m => (nomatch m)⟩, ⟨by decide, fun p m => (nomatch m)⟩, ⟨by decide, fun p m => (nomatch m)⟩, ⟨by decide, fun p m => (nomatch m)⟩⟩, .le, .le, .le, .e, .le, rfl⟩ fun xa HD smD da => ?_)
    exact q _ _ (smG.trans smD) da
end
section
variable {P : Program} {w : World} {K : PySem.W.Frag} {mg : Str → Option Value} {base : Heap}
local macro_rules | `(tactic| walk_at "fl.t") => `(tactic| (with_reducible refine g_chainW ?_))
local macro_rules | `(tactic| walk_at "fl.t") => `(tactic| (with_reducible refine g_callS ?_))
local macro_rules | `(tactic| walk_at "fl.t") => `(tactic| (with_reducible refine g_ifE ?_))
local macro_rules | `(tactic| walk_at "fl.w") => `(tactic| repeat walk_at "fl.t")
theorem log_small {i : Int} (h : i.natAbs < 10000) : i.natAbs.log2 < 1920 := by
  by_cases z : i.natAbs = 0
  · rw [z]; decide
  · have := (Nat.log2_lt (k := 14) z).mpr (by omega)
    omega
theorem int_len {i : Int} (h : i.natAbs < 10000) : (Str.ofString (toString i)).cps.size ≤ 1921 := PyProof.Rows.int_text_len_1921 (log_small h)
theorem mk_UG (T : Txt K mg) : MkN1 P w K mg base 1 "UnknownGlyph" "number" ps_UnknownGlyph :=
  mkN1_of T.mk_UnknownGlyph rfl sc_UnknownGlyph (fun kV doc pm an cdv ct us h => match us, h with | [_, _], _ => rfl) (fun fa cdv A outer s H a i Q E hr hi h q => by
    refine ⟨_, pss_cons (ps_expr (pe_binit (by rfl) T.x_FleuronError T.b_FleuronError (pa_cons (pv 0) (pa_cons (pe_joined (.cons pe_str (.cons (pe_fmt (pv 1)) .nil))) pa_nil)))) (pss_one (ps_ost (pv 0) (pv 1))), ?_⟩
    have hz : (6000 : Nat) ≤ sizeLine := by decide
    have li := int_len hi
    have h0 : (Str.empty.cps).size = 0 := rfl
    have h1 : (Str.ofString "there is no glyph ").cps.size ≤ 40 := by decide
    refine ⟨.ref a, rfl, ⟨_, rfl, ?_, .int i, rfl, .inr ⟨i, rfl, log_small hi, ⟨_, rfl, ?_, ?_⟩⟩⟩⟩
    · show (Str.empty.cps ++ (Str.ofString "there is no glyph ").cps).size ≤ sizeLine
      rw [Array.size_append]
      omega
    · show (Str.empty.cps ++ (Str.ofString "there is no glyph ").cps ++ (Str.ofString (toString i)).cps).size ≤ sizeLine
      rw [Array.size_append, Array.size_append]
      omega
    · exact ⟨a, adr mg "UnknownGlyph", [_], rfl, by simp, T.mk_UnknownGlyph.o, h, .int i, rfl, .ref a, rfl, a, adr mg "UnknownGlyph", rfl, T.mk_UnknownGlyph.o, T.mk_UnknownGlyph.n, .inl ⟨h, fun dx hd hne => q dx hd hne⟩⟩)
def spCk (mg : Str → Option Value) : Sp := fun vs H Q _ => ∃ (S : List Addr) (v : V) (f : FoR) (n : Int), vs = [v, .int n] ∧ Dq S H v (foD (cs mg) f) ∧ 0 ≤ n ∧ n < f.glyphs.length ∧ Q .non H
theorem ok_check_known (T : Txt K mg) : Has P w K mg base 1 "check_known" ps_check_known (spCk mg) := by
  obtain ⟨_, _, _, _, _, _, _, _, _, _, _, _, _, _, cF⟩ := T.c_Font
  have clF := cF.cl
  have naF := cF.na
  refine has_of T.d_check_known sc_check_known bd_check_known (fun vs H Q E h => ?_) (fun f cdv A outer s H vs Q E hr h => ?_)
  · obtain ⟨S, v, f, n, rfl, _⟩ := h
    rfl
  · obtain ⟨S, v, fo, n, rfl, h1, n0, n1, q⟩ := h
    obtain ⟨fa, fdx, w1, w2, w3, w4, w5, w6, w7, w8, w9, rfl, fna, fA, j1, j2, j3, j4, j5, j6, j7, j8, j9⟩ := foE h1
    obtain ⟨b, gs, rfl, hb, hbl, _⟩ := lstN j2
    refine ⟨_, (pss_one (ps_if (pt_not (pt_chain op_le op_lt pe_int (pv 1) (pe_callB (clLen (K := K) rfl) (by rfl) T.z_len (by decide +kernel) (pa_cons (peFld (K := K) rfl (pv 0) rfl) pa_nil))))
        pss_never
        pss_nil)), ?_⟩
    walk_at "fl.w"
    refine g_yesB n0 ?_
    walk_at "fl.w"
    refine g_nB (show n < (gs.length : Int) by omega) ?_
    walk_at "fl.w"
    exact q
def spCkX (mg : Str → Option Value) : Sp := fun vs H _ E => ∃ (S : List Addr) (v : V) (f : FoR) (n : Int), vs = [v, .int n] ∧ Dq S H v (foD (cs mg) f) ∧ (n < 0 ∨ f.glyphs.length ≤ n) ∧ n.natAbs < 10000 ∧ ∀ dx, H dx = none → E (.ref (adr mg "UnknownGlyph")) (some dx) (upd H dx (.xd [("number", .int n)]))
theorem ok_check_knownX (T : Txt K mg) : HasXN P w K mg base 3 "check_known" ps_check_known (spCkX mg) := by
  have hM_UnknownGlyph := mk_UG (P := P) (w := w) (base := base) T
  obtain ⟨_, _, _, _, _, _, _, _, _, _, _, _, _, _, cF⟩ := T.c_Font
  have clF := cF.cl
  have naF := cF.na
  refine hasXN_of T.d_check_known sc_check_known bd_check_known (fun vs H Q E h => ?_) (fun f cdv A outer s H vs Q E hr h => ?_)
  · obtain ⟨S, v, f, n, rfl, _⟩ := h
    rfl
  · obtain ⟨S, v, fo, n, rfl, h1, n0, nz, q⟩ := h
    obtain ⟨fa, fdx, w1, w2, w3, w4, w5, w6, w7, w8, w9, rfl, fna, fA, j1, j2, j3, j4, j5, j6, j7, j8, j9⟩ := foE h1
    obtain ⟨b, gs, rfl, hb, hbl, _⟩ := lstN j2
    refine ⟨_, (pss_one (ps_if (pt_not (pt_chain op_le op_lt pe_int (pv 1) (pe_callB (clLen (K := K) rfl) (by rfl) T.z_len (by decide +kernel) (pa_cons (peFld (K := K) rfl (pv 0) rfl) pa_nil))))
        (pss_one (ps_raiseN1N hM_UnknownGlyph rfl (hr.mono (by decide)) (L2N.takes_of rfl rfl rfl rfl) (pa_cons (pv 1) pa_nil)))
        pss_nil)), ?_⟩
    walk_at "fl.w"
    by_cases h0 : 0 ≤ n
    · refine g_yesB h0 ?_
      walk_at "fl.w"
      refine g_noNB (show ¬ n < (gs.length : Int) by omega) ?_
      walk_at "fl.w"
      exact g_raiseN1 (i := n) (fun R r => ⟨_, rfl, r⟩) nz q
    · refine g_noB h0 ?_
      walk_at "fl.w"
      exact g_raiseN1 (i := n) (fun R r => ⟨_, rfl, r⟩) nz q
def fGa (c : Cs) (ds : List PyData) (d : PyData) : Prop := ∃ (ax : List (Int × Int × Int)) (pl : List Int), ds = [foD c (fax ax).R, .int 0, .list (pl.map PyData.int)] ∧ (fax ax).Ok VL0 ∧ PlOk ax pl ∧ d = glD c K40.gA.R
theorem ok_glyph_at (T : Txt K mg) : Has P w K mg base 5 "glyph_at" ps_glyph_at (spD (fGa (cs mg))) := by
  have h_check_known := ok_check_known (P := P) (w := w) (base := base) T
  have h_changed_glyph := ok_changed_glyph (P := P) (w := w) (base := base) T
  have h_factors_of := ok_factors_of (P := P) (w := w) (base := base) T
  refine has_of T.d_glyph_at sc_glyph_at bd_glyph_at (fun vs H Q E h => ?_) (fun f cdv A outer s H vs Q E hr h => ?_)
  · obtain ⟨S, ds, d, _, hd, ⟨ax, pl, rfl, _⟩, _⟩ := h
    rw [hd.len]
    rfl
  · obtain ⟨S, ds, d, hS, hd, ⟨ax, pl, rfl, fok, pok, rfl⟩, q⟩ := h
    obtain ⟨v1, _, rfl, h1, hd⟩ := hd.consE
    obtain ⟨v2, _, rfl, h2, hd⟩ := hd.consE
    obtain ⟨v3, _, rfl, h3, hd⟩ := hd.consE
    cases hd.nilE
    cases h2.intE
    refine ⟨_, (pss_cons (ps_expr (pe_h h_check_known (hr.mono (by decide)) (pa_cons (pv 0) (pa_cons (pv 1) pa_nil))))
      (pss_one (ps_ret (pe_h h_changed_glyph (hr.mono (by decide)) (pa_cons (pv 0) (pa_cons (pv 1) (pa_cons (pe_h h_factors_of (hr.mono (by decide)) (pa_cons (pv 0) (pa_cons (pv 2) pa_nil))) pa_nil))))))), ?_⟩
    walk_at "fl.w"
    refine ⟨S, v1, (fax ax).R, 0, rfl, h1, by decide, by show (0 : Int) < ((1 : Nat) : Int); decide, ?_⟩
    walk_at "fl.w"
    refine spD_app S [foD (cs mg) (fax ax).R, .list (pl.map PyData.int)] (.list []) hS (.cons h1 (.cons h3 .nil)) ⟨ax, pl, rfl, fok, pok, rfl⟩ (fun v H2 sm hv => ?_)
    walk_at "fl.w"
    exact spD_app S [foD (cs mg) (fax ax).R, .int 0, .list []] (glD (cs mg) K40.gA.R) (hS.same sm) (.cons (h1.same sm) (.cons (.int _) (.cons hv .nil))) ⟨ax, rfl, rfl⟩ (fun v H3 sm3 hv => q _ _ (sm.trans sm3) hv)
def spGaU (mg : Str → Option Value) : Sp := fun vs H _ E => ∃ (S : List Addr) (v1 v2 : V) (ax : List (Int × Int × Int)), vs = [v1, .int 1, v2] ∧ Dq S H v1 (foD (cs mg) (fax ax).R) ∧ ∀ dx, H dx = none → E (.ref (adr mg "UnknownGlyph")) (some dx) (upd H dx (.xd [("number", .int 1)]))
def spGaP (mg : Str → Option Value) : Sp := fun vs H _ E => ∃ (S : List Addr) (v1 v2 : V) (ax : List (Int × Int × Int)) (pl : List Int), vs = [v1, .int 0, v2] ∧ Al S H ∧ Dq S H v1 (foD (cs mg) (fax ax).R) ∧ Dq S H v2 (.list (pl.map PyData.int)) ∧ (fax ax).Ok VL0 ∧ PlBad ax pl ∧ ∀ H', Same H H' → E (.ref (adr mg "InvalidPlace")) none H'
def spGaX (mg : Str → Option Value) : Sp := fun vs H Q E => spGaU mg vs H Q E ∨ spGaP mg vs H Q E
theorem ok_glyph_atX (T : Txt K mg) : HasXN P w K mg base 5 "glyph_at" ps_glyph_at (spGaX mg) := by
  have h_check_known := ok_check_known (P := P) (w := w) (base := base) T
  have hX_check_known := ok_check_knownX (P := P) (w := w) (base := base) T
  have h_changed_glyph := ok_changed_glyph (P := P) (w := w) (base := base) T
  have h_factors_of := ok_factors_of (P := P) (w := w) (base := base) T
  have hX_factors_of := ok_factors_ofX (P := P) (w := w) (base := base) T
  refine hasXN_of T.d_glyph_at sc_glyph_at bd_glyph_at (fun vs H Q E h => ?_) (fun f cdv A outer s H vs Q E hr h => ?_)
  · rcases h with ⟨S, v1, v2, ax, rfl, _⟩ | ⟨S, v1, v2, ax, pl, rfl, _⟩
    · rfl
    · rfl
  · rcases h with ⟨S, v1, v2, ax, rfl, h1, q⟩ | ⟨S, v1, v2, ax, pl, rfl, hS, h1, h2, fok, pb, q⟩
    · refine ⟨_, (pss_cons (ps_expr (pe_hXN hX_check_known (hr.mono (by decide)) (L2N.takes_of rfl rfl rfl rfl) (pa_cons (pv 0) (pa_cons (pv 1) pa_nil))))
      (pss_one (ps_ret (pe_h h_changed_glyph (hr.mono (by decide)) (pa_cons (pv 0) (pa_cons (pv 1) (pa_cons (pe_h h_factors_of (hr.mono (by decide)) (pa_cons (pv 0) (pa_cons (pv 2) pa_nil))) pa_nil))))))), ?_⟩
      walk_at "fl.w"
      exact ⟨S, v1, (fax ax).R, 1, rfl, h1, .inr (by show ((1 : Nat) : Int) ≤ 1; decide), by decide, q⟩
    · refine ⟨_, (pss_cons (ps_expr (pe_h h_check_known (hr.mono (by decide)) (pa_cons (pv 0) (pa_cons (pv 1) pa_nil))))
      (pss_one (ps_ret (pe_h h_changed_glyph (hr.mono (by decide)) (pa_cons (pv 0) (pa_cons (pv 1) (pa_cons (pe_hXN hX_factors_of (hr.mono (by decide)) (L2N.takes_of rfl rfl rfl rfl) (pa_cons (pv 0) (pa_cons (pv 2) pa_nil))) pa_nil))))))), ?_⟩
      walk_at "fl.w"
      refine ⟨S, v1, (fax ax).R, 0, rfl, h1, by decide, by show (0 : Int) < ((1 : Nat) : Int); decide, ?_⟩
      walk_at "fl.w"
      exact ⟨S, v1, v2, ax, pl, rfl, hS, h1, h2, fok, pb, q⟩
/-- Font(unit, glyphs, axes=) -/
theorem mk_FoX {e1 e2 e3 e4 e5 e6 e7 : Addr} {sp : Sp} (h : InI P w K mg base 8 "Font" "Font.__init__" s_Font fl_Font (kw_Font e1 e2 e3 e4 e5 e6 e7) ps_Font sp) :
    MkI P w K mg base 8 "Font" 2 ["axes"] (fun vs zs => pick [0, 1, 2, 3, 4, 5, 9, 6, 7, 8] (vs ++ ([.ref e1, .ref e2, .ref e3, .ref e5, .ref e6, .ref e7] ++ zs))) sp :=
  h.make 2 ["axes"] [("chars", .ref e1), ("lookups", .ref e2), ("features", .ref e3), ("regions", .ref e5), ("functions", .ref e6), ("presets", .ref e7)] [0, 1, 2, 3, 4, 5, 9, 6, 7, 8] (by simp) (by simp [kw_Font]) fun D doc pm an cdv ct us mv ws h1 h2 h3 => match us, h1, mv, h2, ws, h3 with | [_, _, _], _, [_, _, _, _, _, _], _, [_], _ => ⟨_, _, _, _, _, _, rfl, rfl, ⟨_, _, _, _, _, _, rfl, rfl, ⟨_, _, _, _, _, _, rfl, rfl, ⟨_, _, _, _, _, _, rfl, rfl, ⟨_, _, _, _, _, _, rfl, rfl, ⟨_, _, _, _, _, _, rfl, rfl, rfl⟩⟩⟩⟩⟩⟩
/-- Font(unit, glyphs, chars=, lookups=, features=, functions=, presets=) -/
theorem mk_FoA {e1 e2 e3 e4 e5 e6 e7 : Addr} {sp : Sp} (h : InI P w K mg base 8 "Font" "Font.__init__" s_Font fl_Font (kw_Font e1 e2 e3 e4 e5 e6 e7) ps_Font sp) :
    MkI P w K mg base 8 "Font" 2 ["chars", "lookups", "features", "functions", "presets"] (fun vs zs => pick [0, 1, 2, 5, 6, 7, 3, 4, 8, 9] (vs ++ ([.ref e4, .ref e5] ++ zs))) sp :=
  h.make 2 ["chars", "lookups", "features", "functions", "presets"] [("axes", .ref e4), ("regions", .ref e5)] [0, 1, 2, 5, 6, 7, 3, 4, 8, 9] (by simp) (by simp [kw_Font]) fun D doc pm an cdv ct us mv ws h1 h2 h3 => match us, h1, mv, h2, ws, h3 with | [_, _, _], _, [_, _], _, [_, _, _, _, _], _ => ⟨_, _, _, _, _, _, rfl, rfl, ⟨_, _, _, _, _, _, rfl, rfl, rfl⟩⟩
def VF (fo : FoR) : Prop := ∃ f : FoG, f.Ok VL0 ∧ f.feats = [] ∧ fo = f.R
theorem font_K40 (T : Txt K mg) (I : WoK K w mg) {e1 e2 e3 e4 e5 e6 e7 : Addr} (c : ClsI K mg "Font" "Font.__init__" s_Font fl_Font (kw_Font e1 e2 e3 e4 e5 e6 e7)) : InI P w K mg base 8 "Font" "Font.__init__" s_Font fl_Font (kw_Font e1 e2 e3 e4 e5 e6 e7) ps_Font (spI K (adr mg "Font") (fFo (cs mg) VF)) := by
  have h_ff := ok_first_faultC (P := P) (base := base) T I VL0 ((no_has (P := P) (w := w) (base := base) T.d_lookup_reason sc_lookup_reason bd_lookup_reason).mono (k := 4) (by decide) |>.imp fun vs H Q E h => by
    obtain ⟨S, ds, d, _, _, ⟨_, _, _, h, _⟩, _⟩ := h
    exact h)
  exact ok_Font (P := P) (w := w) (base := base) T VF (by
    obtain ⟨f, fd, a, b, c, d⟩ := (h_ff.mono (k := 7) (by decide)).ex
    refine ⟨f, fd, ?_, b, c, d⟩
    exact fnok_weak a fun vs H Q E h => by
      obtain ⟨S, ds, d, hS, hd, ⟨fo, ⟨f, fok, fb, rfl⟩, rfl, rfl⟩, q⟩ := h
      exact ⟨S, _, _, hS, hd, ⟨f, fok, fb, rfl, rfl⟩, q⟩) c
theorem fax_ok {ax : List (Int × Int × Int)} (h : ax.length ≤ 3) (hx : ∀ t, t ∈ ax → -16384 ≤ t.1 ∧ t.1 ≤ t.2.1 ∧ t.2.1 ≤ t.2.2 ∧ t.2.2 ≤ 16384) : (fax ax).Ok VL0 := by
  refine ⟨⟨by show (16 : Int) ≤ 100; decide, by show (100 : Int) ≤ 16384; decide⟩, ⟨by show 1 ≤ 1; decide, by show 1 ≤ 60; decide⟩, fun g m => ?_, ⟨fun _ => 0, fun k g hg => ⟨Nat.zero_le _, fun p m => ?_⟩⟩, ⟨by show 0 < 900; decide, fun i c e => by cases e⟩, by show 0 ≤ 20; decide, fun k m => (nomatch m), fun k m => (nomatch m), ⟨by show 0 ≤ 12; decide, by show ([] : List Str).Nodup; exact List.nodup_nil, fun p m => (nomatch m)⟩, ⟨h, hx⟩, ⟨by show 0 ≤ 8; decide, fun r m => (nomatch m)⟩, ⟨by show 0 ≤ 12; decide, fun c m => (nomatch m)⟩, ⟨by show 0 ≤ 32; decide, fun p m => (nomatch m)⟩⟩
  · rw [List.mem_singleton.mp (show g ∈ [K40.gA] from m)]
    exact ⟨⟨by decide, by decide⟩, by decide, ⟨by decide, fun c m => (nomatch m)⟩, ⟨by decide, fun p m => (nomatch m)⟩, ⟨by decide, fun p m => (nomatch m)⟩, ⟨by decide, fun p m => (nomatch m)⟩, ⟨by decide, fun p m => (nomatch m)⟩⟩
  · have : g ∈ [K40.gA] := List.mem_of_getElem? hg
    rw [List.mem_singleton.mp this] at m
    exact (nomatch m)
def fAp (c : Cs) (ds : List PyData) (d : PyData) : Prop := ∃ (ax : List (Int × Int × Int)) (pl : List Int), ds = [foD c (fax ax).R, .list (pl.map PyData.int)] ∧ (fax ax).Ok VL0 ∧ PlOk ax pl ∧ d = foD c (fax []).R
theorem ok_at_place (T : Txt K mg) (I : WoK K w mg) : Has P w K mg base 10 "at_place" ps_at_place (spD (fAp (cs mg))) := by
  obtain ⟨e1, e2, e3, e4, e5, e6, e7, n1, n2, n3, n4, n5, n6, n7, cF⟩ := T.c_Font
  have clF := cF.cl
  have naF := cF.na
  have mk_Font_2_chars_lookups_features_functions_presets := mk_FoA (font_K40 (P := P) (base := base) T I cF)
  have h_changed_glyph := ok_changed_glyph (P := P) (w := w) (base := base) T
  have h_factors_of := ok_factors_of (P := P) (w := w) (base := base) T
  refine has_of T.d_at_place sc_at_place bd_at_place (fun vs H Q E h => ?_) (fun f cdv A outer s H vs Q E hr h => ?_)
  · obtain ⟨S, ds, d, _, hd, ⟨ax, pl, rfl, _⟩, _⟩ := h
    rw [hd.len]
    rfl
  · obtain ⟨S, ds, d, hS, hd, ⟨ax, pl, rfl, fok, pok, rfl⟩, q⟩ := h
    obtain ⟨v1, _, rfl, h1, hd⟩ := hd.consE
    obtain ⟨v2, _, rfl, h2, hd⟩ := hd.consE
    cases hd.nilE
    have h1' := h1
    obtain ⟨fa, fdx, w1, w2, w3, w4, w5, w6, w7, w8, w9, rfl, fna, fA, j1, j2, j3, j4, j5, j6, j7, j8, j9⟩ := foE h1'
    have j1 : Dq S H w1 (.int 100) := j1
    have j2 : Dq S H w2 (.list [glD (cs mg) K40.gA.R]) := j2
    have j3 : Dq S H w3 (.list []) := j3
    have j4 : Dq S H w4 (.list []) := j4
    have j5 : Dq S H w5 (.list []) := j5
    have j8 : Dq S H w8 (.list []) := j8
    have j9 : Dq S H w9 (.list []) := j9
    cases j1.intE
    obtain ⟨b, gs, rfl, nb, hb, hG⟩ := j2.lstE
    have hgl : gs.length = 1 := hG.len
    refine ⟨_, (pss_cons (ps_set (i := 2) sc_at_place.nd rfl (.inr rfl) (pe_h h_factors_of (hr.mono (by decide)) (pa_cons (pv 0) (pa_cons (pv 1) pa_nil))))
      (pss_one (ps_ret (pe_mk (mg := mg) rfl mk_Font_2_chars_lookups_features_functions_presets (hr.mono (by decide)) (pa_cons (peFld (K := K) rfl (pv 0) rfl) (pa_cons (pe_lc (own := [("number", 3)]) rfl sc_at_place.nd (pi_range1 (by rfl) T.z_range (pa_cons (pe_callB (clLen (K := K) rfl) (by rfl) T.z_len (by decide +kernel) (pa_cons (peFld (K := K) rfl (pv 0) rfl) pa_nil)) pa_nil)) (blkOk_by (by kernel_rfl)) (fun _ _ _ _ _ => (pg_name (i := 3) sc_at_place.nd rfl (.inl rfl))) (fun _ _ _ _ _ => pts_nil) (fun _ _ _ _ _ => (pe_h h_changed_glyph (hr.mono (by decide)) (pa_cons (pv 0) (pa_cons (pv 3) (pa_cons (pv 2) pa_nil)))))) pa_nil)) (pk_cons (peFld (K := K) rfl (pv 0) rfl) (pk_cons (peFld (K := K) rfl (pv 0) rfl) (pk_cons (peFld (K := K) rfl (pv 0) rfl) (pk_cons (peFld (K := K) rfl (pv 0) rfl) (pk_cons (peFld (K := K) rfl (pv 0) rfl) pk_nil))))))))), ?_⟩
    walk_at "fl.w"
    refine spD_app S [foD (cs mg) (fax ax).R, .list (pl.map PyData.int)] (.list []) hS (.cons h1 (.cons h2 .nil)) ⟨ax, pl, rfl, fok, pok, rfl⟩ (fun v H2 sm hv => ?_)
    have fA2 := sm _ _ fA
    have hb2 := sm _ _ hb
    walk_at "fl.w"
    rw [hgl]
    refine lcR (S := S) (fun i => some (glD (cs mg) K40.gA.R)) (hS.same sm) (by decide) ?_ ?_
    · intro D i H3 hD hi sm3 al R N hR hN
      have hi0 : i = 0 := by omega
      subst hi0
      refine g_name ⟨rfl, ?_⟩
      walk_at "fl.w"
      have h13 := ((h1.same sm).new hD).same sm3
      have hv3 := (hv.new hD).same sm3
      exact spD_app (D :: S) [foD (cs mg) (fax ax).R, .int 0, .list []] (glD (cs mg) K40.gA.R) al (.cons h13 (.cons (.int _) (.cons hv3 .nil))) ⟨ax, rfl, rfl⟩ (fun v4 H4 sm4 hv4 => hR _ _ _ rfl sm4 hv4)
    intro D H3 sm3 hD dg
    have dg : Dq S H3 (.ref D) (.list [glD (cs mg) K40.gA.R]) := dg
    have s3 := sm.trans sm3
    have al3 := hS.same s3
    have fA3 := s3 _ _ fA
    have j3 := j3.same s3
    have j4 := j4.same s3
    have j5 := j5.same s3
    have j8 := j8.same s3
    have j9 := j9.same s3
    walk_at "fl.w"
    refine g_mk rfl rfl (mk_app (f := fFo (cs mg) VF) (ws := [.int 100, .ref D, w3, w4, w5, .ref e4, .ref e5, w8, w9]) S [.int 100, .list [glD (cs mg) K40.gA.R], .list [], .list [], .list [], .tuple [], .tuple [], .list [], .list []] ((fax []).R.F (cs mg)) (fun x => rfl) al3 (.cons (.inl (.int _)) (.cons (.inl dg) (.cons (.inl j3) (.cons (.inl j4) (.cons (.inl j5) (.cons (.inr ⟨rfl, _, rfl, n4⟩) (.cons (.inr ⟨rfl, _, rfl, n5⟩) (.cons (.inl j8) (.cons (.inl j9) .nil)))))))))
      ⟨_, _, _, _, _, _, _, _, (fax []).R, rfl, FoG.rok (fax_ok (ax := []) (by decide) (fun t m => nomatch m)), ⟨_, fax_ok (ax := []) (by decide) (fun t m => nomatch m), rfl, rfl⟩, rfl, .le, rfl, ⟨[], rfl, rfl, fun i x l e1 _ => by simp at e1, by decide⟩, .e, .e, .le, .ls (by decide), rfl⟩ fun xf HF smF df => ?_)
    exact q _ _ (s3.trans smF) df
theorem ok_at_placeX (T : Txt K mg) (I : WoK K w mg) : HasXN P w K mg base 10 "at_place" ps_at_place (spFacX mg) := by
  obtain ⟨e1, e2, e3, e4, e5, e6, e7, n1, n2, n3, n4, n5, n6, n7, cF⟩ := T.c_Font
  have clF := cF.cl
  have naF := cF.na
  have mk_Font_2_chars_lookups_features_functions_presets := mk_FoA (font_K40 (P := P) (base := base) T I cF)
  have h_changed_glyph := ok_changed_glyph (P := P) (w := w) (base := base) T
  have hX_factors_of := ok_factors_ofX (P := P) (w := w) (base := base) T
  refine hasXN_of T.d_at_place sc_at_place bd_at_place (fun vs H Q E h => ?_) (fun f cdv A outer s H vs Q E hr h => ?_)
  · obtain ⟨S, v1, v2, ax, pl, rfl, _⟩ := h
    rfl
  · obtain ⟨S, v1, v2, ax, pl, rfl, hS, h1, h2, fok, pb, q⟩ := h
    refine ⟨_, (pss_cons (ps_set (i := 2) sc_at_place.nd rfl (.inr rfl) (pe_hXN hX_factors_of (hr.mono (by decide)) (L2N.takes_of rfl rfl rfl rfl) (pa_cons (pv 0) (pa_cons (pv 1) pa_nil))))
      (pss_one (ps_ret (pe_mk (mg := mg) rfl mk_Font_2_chars_lookups_features_functions_presets (hr.mono (by decide)) (pa_cons (peFld (K := K) rfl (pv 0) rfl) (pa_cons (pe_lc (own := [("number", 3)]) rfl sc_at_place.nd (pi_range1 (by rfl) T.z_range (pa_cons (pe_callB (clLen (K := K) rfl) (by rfl) T.z_len (by decide +kernel) (pa_cons (peFld (K := K) rfl (pv 0) rfl) pa_nil)) pa_nil)) (blkOk_by (by kernel_rfl)) (fun _ _ _ _ _ => (pg_name (i := 3) sc_at_place.nd rfl (.inl rfl))) (fun _ _ _ _ _ => pts_nil) (fun _ _ _ _ _ => (pe_h h_changed_glyph (hr.mono (by decide)) (pa_cons (pv 0) (pa_cons (pv 3) (pa_cons (pv 2) pa_nil)))))) pa_nil)) (pk_cons (peFld (K := K) rfl (pv 0) rfl) (pk_cons (peFld (K := K) rfl (pv 0) rfl) (pk_cons (peFld (K := K) rfl (pv 0) rfl) (pk_cons (peFld (K := K) rfl (pv 0) rfl) (pk_cons (peFld (K := K) rfl (pv 0) rfl) pk_nil))))))))), ?_⟩
    walk_at "fl.w"
    exact ⟨S, v1, v2, ax, pl, rfl, hS, h1, h2, fok, pb, q⟩
end
section
variable {P : Program} {w : World} {K : PySem.W.Frag} {mg : Str → Option Value} {base : Heap}
local macro_rules | `(tactic| walk_at "fl.t") => `(tactic| (with_reducible refine g_chainW ?_))
local macro_rules | `(tactic| walk_at "fl.t") => `(tactic| (with_reducible refine g_callS ?_))
local macro_rules | `(tactic| walk_at "fl.t") => `(tactic| (with_reducible refine g_ifE ?_))
local macro_rules | `(tactic| walk_at "fl.w") => `(tactic| repeat walk_at "fl.t")
def spKind (mg : Str → Option Value) (cls : Value) (d : Option Addr) (a : Addr) : Sp := fun vs H Q _ => vs = [.ref a] ∧ ((cls = .ref (adr mg "InvalidPlace") ∧ d = none ∧ Q (.str "place") H) ∨ ∃ dd n, cls = .ref (adr mg "UnknownGlyph") ∧ d = some dd ∧ H dd = some (.xd [("number", .int n)]) ∧ ∀ t H', Same H H' → H t = none → H' t = some (.tup [.str "glyph", .int n]) → Q (.ref t) H')
theorem ok_law_kind (T : Txt K mg) (cls : Value) (d : Option Addr) : HasZ P w K mg base (fun p => L2N.Zn cls d p.2 ∧ ∃ vs, p.2.data = .fields vs) 1 "_law_kind" ps_law_kind (spKind mg cls d) := by
  refine hasZ_of T.d_law_kind sc_law_kind bd_law_kind (fun a vs H Q E h => ?_) (fun f cdv A outer s H vs Q E p hzz hot hr h => ?_)
  · obtain ⟨rfl, _⟩ := h
    rfl
  · obtain ⟨a, oe⟩ := p
    obtain ⟨hz, hf⟩ := hzz
    obtain ⟨rfl, h⟩ := h
    refine ⟨_, (pss_cons (ps_if (PW.pt (pw_and (pt_val (pe_callB (call_isA (K := K) rfl (by exact List.mem_cons_self) hz.zc hf) (by rfl) T.z_isinstance (by decide +kernel) (pa_cons (pv 0) (pa_cons (pe_cls (by rfl) T.mk_InvalidPlace.g) pa_nil)))) (pw_and1 (pt_not (pt_val (pe_callB (call_isA (K := K) rfl (by exact List.mem_cons_self) hz.zc hf) (by rfl) T.z_isinstance (by decide +kernel) (pa_cons (pv 0) (pa_cons (pe_cls (by rfl) T.mk_UnknownGlyph.g) pa_nil))))))))
        (pss_one (ps_ret pe_str))
        pss_nil)
      (pss_cons (ps_if (pt_val (pe_callB (call_isA (K := K) rfl (by exact List.mem_cons_self) hz.zc hf) (by rfl) T.z_isinstance (by decide +kernel) (pa_cons (pv 0) (pa_cons (pe_cls (by rfl) T.mk_UnknownGlyph.g) pa_nil))))
        (pss_one (ps_ret (pe_tup (pa_cons pe_str (pa_cons (pe_xfP T.mk_UnknownGlyph.r T.mk_UnknownGlyph.n (by exact List.mem_cons_self) hz hf (pv 0)) pa_nil)))))
        pss_nil)
      (pss_one (ps_ret pe_str)))), ?_⟩
    rcases h with ⟨rfl, rfl, q⟩ | ⟨dd, n, rfl, rfl, hd, q⟩
    · walk_at "fl.w"
      refine g_isA T.mk_InvalidPlace.c (.inl rfl) (fun u r => r) T.kb_InvalidPlace_InvalidPlace ?_
      walk_at "fl.w"
      refine g_isA T.mk_InvalidPlace.c (.inl rfl) (fun u r => r) T.kb_InvalidPlace_UnknownGlyph ?_
      walk_at "fl.w"
      exact q
    · walk_at "fl.w"
      refine g_isA T.c_UnknownGlyph (.inr ⟨dd, _, rfl, hd⟩) (fun u r => r) T.kb_UnknownGlyph_InvalidPlace ?_
      walk_at "fl.w"
      refine g_isA T.c_UnknownGlyph (.inr ⟨dd, _, rfl, hd⟩) (fun u r => r) T.kb_UnknownGlyph_UnknownGlyph ?_
      walk_at "fl.w"
      refine g_xf rfl hd rfl ?_
      walk_at "fl.w"
      rename_i t ht
      exact q t _ (Fl.Same.new ht) ht upd_same
def AskIn (mg : Str → Option Value) (vs : List V) (H : Hp) (wh : Int) (ax : List (Int × Int × Int)) (pl : List Int) : Prop := ∃ (S : List Addr) (v1 v2 : V), vs = [v1, .int wh, v2] ∧ Al S H ∧ Dq S H v1 (foD (cs mg) (fax ax).R) ∧ Dq S H v2 (.list (pl.map PyData.int)) ∧ (fax ax).Ok VL0
def spAsk (mg : Str → Option Value) : Sp := fun vs H Q _ => ∃ (wh : Int) (ax : List (Int × Int × Int)) (pl : List Int), AskIn mg vs H wh ax pl ∧
  ((0 ≤ wh ∧ wh ≤ 2 ∧ PlOk ax pl ∧ ∀ H', Same H H' → Q (.str "fine") H') ∨ (0 ≤ wh ∧ wh ≤ 2 ∧ PlBad ax pl ∧ ∀ H', Same H H' → Q (.str "place") H') ∨ (wh = 3 ∧ ∀ t H', Same H H' → H t = none → H' t = some (.tup [.str "glyph", .int 1]) → Q (.ref t) H'))
theorem ok_law_asked (T : Txt K mg) (I : WoK K w mg) : Has P w K mg base 12 "_law_asked" ps_law_asked (spAsk mg) := by
  have h_shares := ok_shares (P := P) (w := w) (base := base) T VL0
  have h_at_place := ok_at_place (P := P) (w := w) (base := base) T I
  have h_glyph_at := ok_glyph_at (P := P) (w := w) (base := base) T
  have hX_shares := ok_sharesX (P := P) (w := w) (base := base) T VL0
  have hX_at_place := ok_at_placeX (P := P) (w := w) (base := base) T I
  have hX_glyph_at := ok_glyph_atX (P := P) (w := w) (base := base) T
  have hZ_law_kind := ok_law_kind (P := P) (w := w) (base := base) T
  refine has_of T.d_law_asked sc_law_asked bd_law_asked (fun vs H Q E h => ?_) (fun f cdv A outer s H vs Q E hr h => ?_)
  · obtain ⟨wh, ax, pl, ⟨S, v1, v2, rfl, _⟩, _⟩ := h
    rfl
  · obtain ⟨wh, ax, pl, ⟨S, v1, v2, rfl, hS, h1, h2, fok⟩, h⟩ := h
    rcases h with ⟨w0, w2, pok, q⟩ | h
    · refine ⟨_, (pss_cons (L2N.ps_try_as (i := 3) rfl rfl sc_law_asked.nd rfl rfl ⟨rfl, by decide, .inl T.x_FleuronError⟩ takes0N
        (fun W pn xe tk _ => (pss_one (ps_if (pt_cmpR op_eq (pv 1) pe_int (nomark _))
        (pss_one (ps_expr (pe_h h_shares (hr.mono (by decide)) (pa_cons (pv 0) (pa_cons (pv 2) pa_nil)))))
        (pss_one (ps_if (pt_cmpR op_eq (pv 1) pe_int (nomark _))
        (pss_one (ps_expr (pe_h h_at_place (hr.mono (by decide)) (pa_cons (pv 0) (pa_cons (pv 2) pa_nil)))))
        (pss_one (ps_expr (pe_h h_glyph_at (hr.mono (by decide)) (pa_cons (pv 0) (pa_cons (pe_op op_sub (pv 1) pe_int) (pa_cons (pv 2) pa_nil)))))))))))
        (fun a oe cls d pn hz hf => (pss_one (ps_ret (pe_hZA (hZ_law_kind cls d) (roomH_mk (hr.mono (by decide))) ⟨hz, hf⟩ (hot1_of hz hf rfl) List.mem_cons_self (pa_cons (pv 3) pa_nil))))))
      (pss_one (ps_ret pe_str))), ?_⟩
      walk_at "fl.w"
      rcases (by omega : wh = 0 ∨ wh = 1 ∨ wh = 2) with rfl | rfl | rfl
      · refine g_yesB rfl ?_
        walk_at "fl.w"
        refine spD_app S [foD (cs mg) (fax ax).R, .list (pl.map PyData.int)] (shsD ax pl) hS (.cons h1 (.cons h2 .nil)) ⟨fax ax, pl, rfl, fok, pok, rfl⟩ (fun v H2 sm hv => ?_)
        walk_at "fl.w"
        exact q _ sm
      · refine g_noB (by decide) ?_
        walk_at "fl.w"
        refine g_yesB rfl ?_
        walk_at "fl.w"
        refine spD_app S [foD (cs mg) (fax ax).R, .list (pl.map PyData.int)] (foD (cs mg) (fax []).R) hS (.cons h1 (.cons h2 .nil)) ⟨ax, pl, rfl, fok, pok, rfl⟩ (fun v H2 sm hv => ?_)
        walk_at "fl.w"
        exact q _ sm
      · refine g_noB (by decide) ?_
        walk_at "fl.w"
        refine g_noB (by decide) ?_
        walk_at "fl.w"
        refine spD_app S [foD (cs mg) (fax ax).R, .int 0, .list (pl.map PyData.int)] (glD (cs mg) K40.gA.R) hS (.cons h1 (.cons (.int _) (.cons h2 .nil))) ⟨ax, pl, rfl, fok, pok, rfl⟩ (fun v H2 sm hv => ?_)
        walk_at "fl.w"
        exact q _ sm
    · refine ⟨_, (pss_cons (L2N.ps_try_as (i := 3) rfl rfl sc_law_asked.nd rfl rfl ⟨rfl, by decide, .inl T.x_FleuronError⟩ takes0N
        (fun W pn xe tk _ => (pss_one (ps_if (pt_cmpR op_eq (pv 1) pe_int (nomark _))
        (pss_one (ps_expr (pe_hXN hX_shares (hr.mono (by decide)) tk (pa_cons (pv 0) (pa_cons (pv 2) pa_nil)))))
        (pss_one (ps_if (pt_cmpR op_eq (pv 1) pe_int (nomark _))
        (pss_one (ps_expr (pe_hXN hX_at_place (hr.mono (by decide)) tk (pa_cons (pv 0) (pa_cons (pv 2) pa_nil)))))
        (pss_one (ps_expr (pe_hXN hX_glyph_at (hr.mono (by decide)) tk (pa_cons (pv 0) (pa_cons (pe_op op_sub (pv 1) pe_int) (pa_cons (pv 2) pa_nil)))))))))))
        (fun a oe cls d pn hz hf => (pss_one (ps_ret (pe_hZA (hZ_law_kind cls d) (roomH_mk (hr.mono (by decide))) ⟨hz, hf⟩ (hot1_of hz hf rfl) List.mem_cons_self (pa_cons (pv 3) pa_nil))))))
      (pss_one (ps_ret pe_str))), ?_⟩
      walk_at "fl.w"
      rcases h with ⟨w0, w2, pb, q⟩ | ⟨rfl, q⟩
      · rcases (by omega : wh = 0 ∨ wh = 1 ∨ wh = 2) with rfl | rfl | rfl
        · refine g_yesB rfl ?_
          walk_at "fl.w"
          refine ⟨S, v1, v2, fax ax, pl, rfl, hS, h1, h2, fok, pb, fun H' sm => wAs_yes T.m_InvalidPlace fun b hb => ?_⟩
          walk_at "fl.w"
          refine ⟨rfl, .inl ⟨rfl, rfl, ?_⟩⟩
          walk_at "fl.w"
          exact q _ sm
        · refine g_noB (by decide) ?_
          walk_at "fl.w"
          refine g_yesB rfl ?_
          walk_at "fl.w"
          refine ⟨S, v1, v2, ax, pl, rfl, hS, h1, h2, fok, pb, fun H' sm => wAs_yes T.m_InvalidPlace fun b hb => ?_⟩
          walk_at "fl.w"
          refine ⟨rfl, .inl ⟨rfl, rfl, ?_⟩⟩
          walk_at "fl.w"
          exact q _ sm
        · refine g_noB (by decide) ?_
          walk_at "fl.w"
          refine g_noB (by decide) ?_
          walk_at "fl.w"
          refine .inr ⟨S, v1, v2, ax, pl, rfl, hS, h1, h2, fok, pb, fun H' sm => wAs_yes T.m_InvalidPlace fun b hb => ?_⟩
          walk_at "fl.w"
          refine ⟨rfl, .inl ⟨rfl, rfl, ?_⟩⟩
          walk_at "fl.w"
          exact q _ sm
      · refine g_noB (by decide) ?_
        walk_at "fl.w"
        refine g_noB (by decide) ?_
        walk_at "fl.w"
        refine .inl ⟨S, v1, v2, ax, rfl, h1, fun dx hdx => wAs_yes T.m_UnknownGlyph fun b hb => ?_⟩
        walk_at "fl.w"
        refine ⟨rfl, .inr ⟨dx, 1, rfl, rfl, upd_same, fun t H' sm hn ht => ?_⟩⟩
        walk_at "fl.w"
        exact q t _ ((Fl.Same.new hdx).trans sm) (Same.free (Fl.Same.new hdx) hn) ht
end
section
variable {P : Program} {w : World} {K : PySem.W.Frag} {mg : Str → Option Value} {base : Heap}
local macro_rules | `(tactic| walk_at "fl.t") => `(tactic| (with_reducible refine g_chainW ?_))
local macro_rules | `(tactic| walk_at "fl.t") => `(tactic| (with_reducible refine g_callS ?_))
local macro_rules | `(tactic| walk_at "fl.t") => `(tactic| (with_reducible refine g_ifE ?_))
local macro_rules | `(tactic| walk_at "fl.w") => `(tactic| repeat walk_at "fl.t")
theorem ok_law_same (T : Txt K mg) : Has P w K mg base 1 "_law_same" ps_law_same spSm1 := by
  refine has_of T.d_law_same sc_law_same bd_law_same (fun vs H Q E h => ?_) (fun f cdv A outer s H vs Q E hr h => ?_)
  · obtain ⟨S, S', d, x, y, rfl, _⟩ := h
    rfl
  · obtain ⟨S, S', d, x, y, rfl, hf, hx, hy, q⟩ := h
    refine ⟨_, (pss_cons (ps_if (pt_val (pe_callB (clIsi (K := K) rfl) (by rfl) T.z_isinstance (by decide +kernel) (pa_cons (pv 1) (pa_cons (pe_bltn (v := .ty "tuple") (by rfl) T.z_tuple (by decide +kernel) rfl) pa_nil))))
        pss_never
        pss_nil)
      (pss_cons (ps_if (PW.pt (pw_or (pt_val (pe_callB (clIsi (K := K) rfl) (by rfl) T.z_isinstance (by decide +kernel) (pa_cons (pv 1) (pa_cons (pe_bltn (v := .ty "bool") (by rfl) T.z_bool (by decide +kernel) rfl) pa_nil)))) (pw_or1 (pt_val (pe_callB (clIsi (K := K) rfl) (by rfl) T.z_isinstance (by decide +kernel) (pa_cons (pv 0) (pa_cons (pe_bltn (v := .ty "bool") (by rfl) T.z_bool (by decide +kernel) rfl) pa_nil)))))))
        (pss_one (ps_ret (pe_and (pe_callB (clIsi (K := K) rfl) (by rfl) T.z_isinstance (by decide +kernel) (pa_cons (pv 1) (pa_cons (pe_bltn (v := .ty "bool") (by rfl) T.z_bool (by decide +kernel) rfl) pa_nil))) (pe_and (pe_callB (clIsi (K := K) rfl) (by rfl) T.z_isinstance (by decide +kernel) (pa_cons (pv 0) (pa_cons (pe_bltn (v := .ty "bool") (by rfl) T.z_bool (by decide +kernel) rfl) pa_nil))) (pe_one (pe_cmpR op_eq (pv 1) (pv 0) (nomark _)))))))
        pss_nil)
      (pss_cons (ps_if (pt_val (pe_callB (clIsi (K := K) rfl) (by rfl) T.z_isinstance (by decide +kernel) (pa_cons (pv 1) (pa_cons (pe_bltn (v := .ty "int") (by rfl) T.z_int (by decide +kernel) rfl) pa_nil))))
        (pss_one (ps_ret (pe_and (pe_callB (clIsi (K := K) rfl) (by rfl) T.z_isinstance (by decide +kernel) (pa_cons (pv 0) (pa_cons (pe_bltn (v := .ty "int") (by rfl) T.z_int (by decide +kernel) rfl) pa_nil))) (pe_one (pe_cmpR op_eq (pv 0) (pv 1) (nomark _))))))
        pss_nil)
      (pss_cons (ps_if (pt_val (pe_callB (clIsi (K := K) rfl) (by rfl) T.z_isinstance (by decide +kernel) (pa_cons (pv 1) (pa_cons (pe_bltn (v := .ty "str") (by rfl) T.z_str (by decide +kernel) rfl) pa_nil))))
        (pss_one (ps_ret (pe_and (pe_callB (clIsi (K := K) rfl) (by rfl) T.z_isinstance (by decide +kernel) (pa_cons (pv 0) (pa_cons (pe_bltn (v := .ty "str") (by rfl) T.z_str (by decide +kernel) rfl) pa_nil))) (pe_one (pe_cmpR op_eq (pv 0) (pv 1) (nomark _))))))
        pss_nil)
      (pss_one (ps_ret (pe_and (pe_cmpR op_isN (pv 1) pe_non (nomark _)) (pe_one (pe_cmpR op_isN (pv 0) pe_non (nomark _)))))))))), ?_⟩
    cases d with
    | int i =>
      cases hx.intE
      cases hy.intE
      walk_at "fl.wr"
      rw [decide_eq_true rfl]
      exact q
    | bool b =>
      cases hx.blE
      cases hy.blE
      walk_at "fl.wr"
      rw [decide_eq_true rfl]
      exact q
    | none =>
      cases hx.nonE
      cases hy.nonE
      walk_at "fl.w"
      refine g_ite (fun _ => ?_) (fun h => absurd rfl h)
      walk_at "fl.w"
      rw [decide_eq_true rfl]
      exact q
    | str _ => cases hf
    | list _ => cases hf
    | tuple _ => cases hf
    | dict _ => cases hf
def spSmB : Sp := fun vs H Q E => spSm1 vs H Q E ∨ spSm2 vs H Q E
theorem ok_law_sameB (T : Txt K mg) : Has P w K mg base 2 "_law_same" ps_law_same spSmB := by
  have h_law_same := ok_law_same (P := P) (w := w) (base := base) T
  refine has_of T.d_law_same sc_law_same bd_law_same (fun vs H Q E h => ?_) (fun f cdv A outer s H vs Q E hr h => ?_)
  · rcases h with ⟨S, S', d, x, y, rfl, _⟩ | ⟨S, S', d, x, y, rfl, _⟩
    · rfl
    · rfl
  · rcases h with h | h
    · obtain ⟨S, S', d, x, y, rfl, hf, hx, hy, q⟩ := h
      refine ⟨_, (pss_cons (ps_if (pt_val (pe_callB (clIsi (K := K) rfl) (by rfl) T.z_isinstance (by decide +kernel) (pa_cons (pv 1) (pa_cons (pe_bltn (v := .ty "tuple") (by rfl) T.z_tuple (by decide +kernel) rfl) pa_nil))))
        pss_never
        pss_nil)
      (pss_cons (ps_if (PW.pt (pw_or (pt_val (pe_callB (clIsi (K := K) rfl) (by rfl) T.z_isinstance (by decide +kernel) (pa_cons (pv 1) (pa_cons (pe_bltn (v := .ty "bool") (by rfl) T.z_bool (by decide +kernel) rfl) pa_nil)))) (pw_or1 (pt_val (pe_callB (clIsi (K := K) rfl) (by rfl) T.z_isinstance (by decide +kernel) (pa_cons (pv 0) (pa_cons (pe_bltn (v := .ty "bool") (by rfl) T.z_bool (by decide +kernel) rfl) pa_nil)))))))
        (pss_one (ps_ret (pe_and (pe_callB (clIsi (K := K) rfl) (by rfl) T.z_isinstance (by decide +kernel) (pa_cons (pv 1) (pa_cons (pe_bltn (v := .ty "bool") (by rfl) T.z_bool (by decide +kernel) rfl) pa_nil))) (pe_and (pe_callB (clIsi (K := K) rfl) (by rfl) T.z_isinstance (by decide +kernel) (pa_cons (pv 0) (pa_cons (pe_bltn (v := .ty "bool") (by rfl) T.z_bool (by decide +kernel) rfl) pa_nil))) (pe_one (pe_cmpR op_eq (pv 1) (pv 0) (nomark _)))))))
        pss_nil)
      (pss_cons (ps_if (pt_val (pe_callB (clIsi (K := K) rfl) (by rfl) T.z_isinstance (by decide +kernel) (pa_cons (pv 1) (pa_cons (pe_bltn (v := .ty "int") (by rfl) T.z_int (by decide +kernel) rfl) pa_nil))))
        (pss_one (ps_ret (pe_and (pe_callB (clIsi (K := K) rfl) (by rfl) T.z_isinstance (by decide +kernel) (pa_cons (pv 0) (pa_cons (pe_bltn (v := .ty "int") (by rfl) T.z_int (by decide +kernel) rfl) pa_nil))) (pe_one (pe_cmpR op_eq (pv 0) (pv 1) (nomark _))))))
        pss_nil)
      (pss_cons (ps_if (pt_val (pe_callB (clIsi (K := K) rfl) (by rfl) T.z_isinstance (by decide +kernel) (pa_cons (pv 1) (pa_cons (pe_bltn (v := .ty "str") (by rfl) T.z_str (by decide +kernel) rfl) pa_nil))))
        (pss_one (ps_ret (pe_and (pe_callB (clIsi (K := K) rfl) (by rfl) T.z_isinstance (by decide +kernel) (pa_cons (pv 0) (pa_cons (pe_bltn (v := .ty "str") (by rfl) T.z_str (by decide +kernel) rfl) pa_nil))) (pe_one (pe_cmpR op_eq (pv 0) (pv 1) (nomark _))))))
        pss_nil)
      (pss_one (ps_ret (pe_and (pe_cmpR op_isN (pv 1) pe_non (nomark _)) (pe_one (pe_cmpR op_isN (pv 0) pe_non (nomark _)))))))))), ?_⟩
      cases d with
      | int i =>
        cases hx.intE
        cases hy.intE
        walk_at "fl.wr"
        rw [decide_eq_true rfl]
        exact q
      | bool b =>
        cases hx.blE
        cases hy.blE
        walk_at "fl.wr"
        rw [decide_eq_true rfl]
        exact q
      | none =>
        cases hx.nonE
        cases hy.nonE
        walk_at "fl.w"
        refine g_ite (fun _ => ?_) (fun h => absurd rfl h)
        walk_at "fl.w"
        rw [decide_eq_true rfl]
        exact q
      | str _ => cases hf
      | list _ => cases hf
      | tuple _ => cases hf
      | dict _ => cases hf
    · obtain ⟨S, S', d, x, y, rfl, ⟨es, rfl, hz, hf⟩, hx, hy, q⟩ := h
      obtain ⟨a, xs, rfl, na, rx, hA⟩ := hx.tupE
      obtain ⟨b, ys, rfl, nb, ry, hB⟩ := hy.tupE
      have hlx := hA.len
      have hly := hB.len
      have hle : ((xs.length : Nat) : Int) = (ys.length : Nat) := by omega
      refine ⟨_, (pss_cons (ps_if (pt_val (pe_callB (clIsi (K := K) rfl) (by rfl) T.z_isinstance (by decide +kernel) (pa_cons (pv 1) (pa_cons (pe_bltn (v := .ty "tuple") (by rfl) T.z_tuple (by decide +kernel) rfl) pa_nil))))
        (pss_cons (ps_if (PW.pt (pw_or (pt_not (pt_val (pe_callB (clIsi (K := K) rfl) (by rfl) T.z_isinstance (by decide +kernel) (pa_cons (pv 0) (pa_cons (pe_bltn (v := .ty "tuple") (by rfl) T.z_tuple (by decide +kernel) rfl) pa_nil))))) (pw_or1 (pt_cmpR op_ne (pe_callB (clLen (K := K) rfl) (by rfl) T.z_len (by decide +kernel) (pa_cons (pv 0) pa_nil)) (pe_callB (clLen (K := K) rfl) (by rfl) T.z_len (by decide +kernel) (pa_cons (pv 1) pa_nil)) (nomark _)))))
        (pss_one (ps_ret pe_bl))
        pss_nil)
      (pss_cons (ps_for PassesOwn.never rfl (pi_range1 (by rfl) T.z_range (pa_cons (pe_callB (clLen (K := K) rfl) (by rfl) T.z_len (by decide +kernel) (pa_cons (pv 1) pa_nil)) pa_nil)) (pg_name (i := 2) sc_law_same.nd rfl (.inl rfl))
        (pss_one (ps_if (pt_not (pt_val (pe_h h_law_same (hr.mono (by decide)) (pa_cons (pe_ix (ixT (K := K) rfl) (pv 0) (pv 2) (fun _ _ => rfl)) (pa_cons (pe_ix (ixT (K := K) rfl) (pv 1) (pv 2) (fun _ _ => rfl)) pa_nil)))))
        (pss_one (ps_ret pe_bl))
        pss_nil)))
      (pss_one (ps_ret pe_bl))))
        pss_nil)
      (pss_cons ps_never
      (pss_cons ps_never
      (pss_cons ps_never
      (pss_one ps_never))))), ?_⟩
      walk_at "fl.w"
      refine g_iteN (fun h => absurd hle h) (fun _ => ?_)
      walk_at "fl.w"
      refine forK_r (fun i σ' H' => (∃ u, σ' = [some (.ref a), some (.ref b), u]) ∧ H' = H) ⟨⟨_, rfl⟩, rfl⟩ ?_ ?_
      · intro i σ' H' hi ⟨⟨u, e⟩, e2⟩
        subst e e2
        have hi2 : i < es.length := by omega
        have hxi : xs[i]? = some xs[i] := List.getElem?_eq_getElem (by omega)
        have hyi : ys[i]? = some ys[i] := List.getElem?_eq_getElem (by omega)
        obtain ⟨d1, hd1, dx⟩ := hA.get hxi
        obtain ⟨d2, hd2, dy⟩ := hB.get hyi
        cases hd1.symm.trans hd2
        have ax : atI xs (i : Int) = some xs[i] := atI_nat hxi
        have ay : atI ys (i : Int) = some ys[i] := atI_nat hyi
        have e0 : (0 : Int) + (i : Int) = (i : Int) := Int.zero_add _
        rw [e0]
        walk_at "fl.w"
        refine ⟨S, S', d1, _, _, rfl, hf _ (List.mem_of_getElem? hd1), dx, dy, ?_⟩
        walk_at "fl.w"
        exact ⟨⟨_, rfl⟩, rfl⟩
      · intro σ' H' ⟨⟨u, e⟩, e2⟩
        subst e e2
        walk_at "fl.w"
        exact q
def spSmlB : Sp := fun vs H Q _ => ∃ (S T : List Addr) (ds : List PyData) (x y : V), vs = [x, y] ∧ ds.length ≤ 900 ∧ (∀ d, d ∈ ds → FlD d ∨ TfD d) ∧ Dq S H x (.list ds) ∧ Dq T H y (.list ds) ∧ Q (.bl true) H
theorem ok_law_same_listB (T : Txt K mg) : Has P w K mg base 3 "_law_same_list" ps_law_same_list spSmlB := by
  have h_law_same := ok_law_sameB (P := P) (w := w) (base := base) T
  refine has_of T.d_law_same_list sc_law_same_list bd_law_same_list (fun vs H Q E h => ?_) (fun f cdv A outer s H vs Q E hr h => ?_)
  · obtain ⟨S, S', d, x, y, rfl, _⟩ := h
    rfl
  · obtain ⟨S, S', es, x, y, rfl, hz, hf, hx, hy, q⟩ := h
    obtain ⟨a, xs, rfl, na, rx, hA⟩ := hx.lstE
    obtain ⟨b, ys, rfl, nb, ry, hB⟩ := hy.lstE
    have hlx := hA.len
    have hly := hB.len
    have hle : ((xs.length : Nat) : Int) = (ys.length : Nat) := by omega
    refine ⟨_, (pss_cons (ps_if (PW.pt (pw_or (pt_not (pt_val (pe_callB (clIsi (K := K) rfl) (by rfl) T.z_isinstance (by decide +kernel) (pa_cons (pv 0) (pa_cons (pe_bltn (v := .ty "list") (by rfl) T.z_list (by decide +kernel) rfl) pa_nil))))) (pw_or1 (pt_cmpR op_ne (pe_callB (clLen (K := K) rfl) (by rfl) T.z_len (by decide +kernel) (pa_cons (pv 0) pa_nil)) (pe_callB (clLen (K := K) rfl) (by rfl) T.z_len (by decide +kernel) (pa_cons (pv 1) pa_nil)) (nomark _)))))
        (pss_one (ps_ret pe_bl))
        pss_nil)
      (pss_cons (ps_for PassesOwn.never rfl (pi_range1 (by rfl) T.z_range (pa_cons (pe_callB (clLen (K := K) rfl) (by rfl) T.z_len (by decide +kernel) (pa_cons (pv 1) pa_nil)) pa_nil)) (pg_name (i := 2) sc_law_same_list.nd rfl (.inl rfl))
        (pss_one (ps_if (pt_not (pt_val (pe_h h_law_same (hr.mono (by decide)) (pa_cons (pe_ix (ixL (K := K) rfl) (pv 0) (pv 2) (fun _ _ => rfl)) (pa_cons (pe_ix (ixL (K := K) rfl) (pv 1) (pv 2) (fun _ _ => rfl)) pa_nil)))))
        (pss_one (ps_ret pe_bl))
        pss_nil)))
      (pss_one (ps_ret pe_bl)))), ?_⟩
    walk_at "fl.w"
    refine g_iteN (fun h => absurd hle h) (fun _ => ?_)
    walk_at "fl.w"
    refine forK_r (fun i σ' H' => (∃ u, σ' = [some (.ref a), some (.ref b), u]) ∧ H' = H) ⟨⟨_, rfl⟩, rfl⟩ ?_ ?_
    · intro i σ' H' hi ⟨⟨u, e⟩, e2⟩
      subst e e2
      have hi2 : i < es.length := by omega
      have hxi : xs[i]? = some xs[i] := List.getElem?_eq_getElem (by omega)
      have hyi : ys[i]? = some ys[i] := List.getElem?_eq_getElem (by omega)
      obtain ⟨d1, hd1, dx⟩ := hA.get hxi
      obtain ⟨d2, hd2, dy⟩ := hB.get hyi
      cases hd1.symm.trans hd2
      have ax : atI xs (i : Int) = some xs[i] := atI_nat hxi
      have ay : atI ys (i : Int) = some ys[i] := atI_nat hyi
      have e0 : (0 : Int) + (i : Int) = (i : Int) := Int.zero_add _
      rw [e0]
      walk_at "fl.w"
      rcases hf _ (List.mem_of_getElem? hd1) with ht | ht
      · refine .inl ⟨S, S', d1, _, _, rfl, ht, dx, dy, ?_⟩
        walk_at "fl.w"
        exact ⟨⟨_, rfl⟩, rfl⟩
      · refine .inr ⟨S, S', d1, _, _, rfl, ht, dx, dy, ?_⟩
        walk_at "fl.w"
        exact ⟨⟨_, rfl⟩, rfl⟩
    · intro σ' H' ⟨⟨u, e⟩, e2⟩
      subst e e2
      walk_at "fl.w"
      exact q
def axD (t : Int × Int × Int) : PyData := .tuple (i3 t)
/-- an axis as the law draws it -/
def AxR (t : Int × Int × Int) : Prop := -200 ≤ t.1 ∧ t.1 ≤ 199 ∧ t.1 ≤ t.2.1 ∧ t.2.1 ≤ t.1 + 238 ∧ t.2.1 ≤ t.2.2 ∧ t.2.2 ≤ t.2.1 + 238
theorem mul_b {a b : Int} {m n : Int} (h0 : 0 ≤ a) (h1 : a ≤ m) (k0 : 0 ≤ b) (k1 : b ≤ n) : 0 ≤ a * b ∧ a * b ≤ m * n := ⟨Int.mul_nonneg h0 k0, Int.mul_le_mul h1 k1 k0 (by omega)⟩
def spAxs : Sp := fun vs H Q _ => ∃ (d sa : Addr) (ns : List Int), vs = [.ref d, .int 0] ∧ Dk d sa ns H ∧ ∀ L H' (ax : List (Int × Int × Int)), Fr [d] H H' → Dk d sa ns H' → Dq [d] H' (.ref L) (.list (ax.map axD)) → ax.length ≤ 2 → (∀ t, t ∈ ax → AxR t) → Q (.ref L) H'
theorem ok_law_axes (T : Txt K mg) : Has P w K mg base 2 "_law_axes" ps_law_axes spAxs := by
  have h_law_draw := ok_law_draw (P := P) (w := w) (base := base) T
  refine has_of T.d_law_axes sc_law_axes bd_law_axes (fun vs H Q E h => ?_) (fun f cdv A outer s H vs Q E hr h => ?_)
  · obtain ⟨d, s, ns, rfl, _⟩ := h
    rfl
  · obtain ⟨d, sa, ns, rfl, hk, q⟩ := h
    refine ⟨_, (pss_cons (ps_set (i := 2) sc_law_axes.nd rfl (.inl rfl) (pe_lst pa_nil))
      (pss_cons (ps_for PassesOwn.never rfl (pi_range1 (by rfl) T.z_range (pa_cons (pe_op op_add (pv 1) (pe_h h_law_draw (hr.mono (by decide)) (pa_cons (pv 0) (pa_cons pe_int pa_nil)))) pa_nil)) (pg_name (i := 3) sc_law_axes.nd rfl (.inl rfl))
        (pss_cons (ps_set (i := 4) sc_law_axes.nd rfl (.inl rfl) (pe_op op_sub (pe_h h_law_draw (hr.mono (by decide)) (pa_cons (pv 0) (pa_cons pe_int pa_nil))) pe_int))
      (pss_cons (ps_set (i := 5) sc_law_axes.nd rfl (.inl rfl) (pe_op op_add (pv 4) (pe_op op_mulW (pe_h h_law_draw (hr.mono (by decide)) (pa_cons (pv 0) (pa_cons pe_int pa_nil))) (pe_h h_law_draw (hr.mono (by decide)) (pa_cons (pv 0) (pa_cons pe_int pa_nil))))))
      (pss_one (ps_expr (pe_bm PySem.F.plainAttrs_list PySem.F.slot_list_append PySem.F.type_list_append mt_append (pv 2) (pa_cons (pe_tup (pa_cons (pv 4) (pa_cons (pv 5) (pa_cons (pe_op op_add (pv 5) (pe_op op_mulW (pe_h h_law_draw (hr.mono (by decide)) (pa_cons (pv 0) (pa_cons pe_int pa_nil))) (pe_h h_law_draw (hr.mono (by decide)) (pa_cons (pv 0) (pa_cons pe_int pa_nil))))) pa_nil)))) pa_nil)))))))
      (pss_one (ps_ret (pv 2))))), ?_⟩
    walk_at "fl.w"
    rename_i L hL v H1 hv0 hv1 hk1 ho1
    have hLd : L ≠ d := hk.ned hL
    have hLs : L ≠ sa := hk.nes hL
    refine forK_r (fun i σ' H' => ∃ (acc : List V) (ax : List (Int × Int × Int)) (u1 u2 u3 : Option V), σ' = [some (.ref d), some (.int 0), some (.ref L), u1, u2, u3] ∧ H' L = some (.lst acc) ∧
      DqA [L, d] H' acc (ax.map axD) ∧ ax.length = i ∧ (∀ t, t ∈ ax → AxR t) ∧ Fl.Fr [L, d] H H' ∧ Dk d sa ns H') ?_ ?_ ?_
    · exact ⟨[], [], none, none, none, rfl, by rw [ho1 L hLd]; exact upd_same, .nil, rfl, fun _ m => (nomatch m), (Fl.Fr.new hL).trans (ho1.frS (by simp)), hk1⟩
    · intro i σ' H' hi ⟨acc, ax, u1, u2, u3, e, hacc, hA, hl, hc, hf, hk'⟩
      subst e
      have hol : acc.length = i := by rw [hA.len, List.length_map]; exact hl
      have hAl : Al [L, d] H' := .cons (by rw [hacc]; simp) (.cons hk'.hd .nil)
      walk_at "fl.w"
      rename_i w0 G0 a00 a01 k0 o0 w1 G1 a10 a11 k1 o1 w2 G2 a20 a21 k2 o2 w3 G3 a30 a31 k3 o3 w4 G4 a40 a41 k4 o4 p hp
      have m1 := mul_b (m := 2) (n := 119) a10 (by omega) a20 (by omega)
      have m2 := mul_b (m := 2) (n := 119) a30 (by omega) a40 (by omega)
      have fr : Fr [d] H' (upd G4 p (.tup [.int (w0 - 200), .int (w0 - 200 + w1 * w2), .int (w0 - 200 + w1 * w2 + w3 * w4)])) := ((((o0.frS (by simp)).trans (o1.frS (by simp))).trans (o2.frS (by simp))).trans ((o3.frS (by simp)).trans (o4.frS (by simp)))).trans (Fr.same (Fl.Same.new hp))
      have fr2 : Fr [L, d] H' (upd G4 p (.tup [.int (w0 - 200), .int (w0 - 200 + w1 * w2), .int (w0 - 200 + w1 * w2 + w3 * w4)])) := fr.mono fun b m => by simpa using Or.inr (show b = d by simpa using m)
      have hpL : p ≠ L := fun e => by
        have f4 : Fr [d] H' G4 := (((o0.frS (by simp)).trans (o1.frS (by simp))).trans (o2.frS (by simp))).trans ((o3.frS (by simp)).trans (o4.frS (by simp)))
        have z := f4 L _ (by simpa using hLd) hacc
        rw [← e, hp] at z
        cases z
      refine ⟨acc ++ [.ref p], ax ++ [(w0 - 200, w0 - 200 + w1 * w2, w0 - 200 + w1 * w2 + w3 * w4)], _, _, _, rfl, upd_same, ?_, by rw [List.length_append, hl]; rfl, ?_, (hf.trans fr2).trans (Fl.Fr.upd (by simp)), (k4.newH hp).put hLd hLs⟩
      · rw [List.map_append]
        refine ((hA.fr fr2).app (.one ?_)).fr (Fl.Fr.upd (by simp))
        exact .tup (fun m => by
          rcases List.mem_cons.mp m with e | m
          · exact hpL e
          · have e : p = d := by simpa using m
            exact k4.hd (by rw [← e]; exact hp)) upd_same (.cons (.int _) (.cons (.int _) (.cons (.int _) .nil)))
      · intro t m
        rcases List.mem_append.mp m with m | m
        · exact hc t m
        · rw [show t = _ by simpa using m]
          exact ⟨by show -200 ≤ w0 - 200; omega, by show w0 - 200 ≤ 199; omega, by show w0 - 200 ≤ w0 - 200 + w1 * w2; omega, by show w0 - 200 + w1 * w2 ≤ w0 - 200 + 238; omega, by show w0 - 200 + w1 * w2 ≤ w0 - 200 + w1 * w2 + w3 * w4; omega, by show w0 - 200 + w1 * w2 + w3 * w4 ≤ w0 - 200 + w1 * w2 + 238; omega⟩
    · intro σ' H' ⟨acc, ax, u1, u2, u3, e, hacc, hA, hl, hc, hf, hk'⟩
      subst e
      walk_at "fl.w"
      refine q L H' ax (fun b u n z => hf b u (fun m => ?_) z) hk' (.lst (by simpa using hLd) hacc hA.tail) (by omega) hc
      rcases List.mem_cons.mp m with rfl | m
      · rw [hL] at z; cases z
      · exact n m
theorem ax3 {t : Int × Int × Int} {v : Int} (h0 : 0 ≤ v) (h1 : v < 3) : ∃ m : Int, atI [V.int t.1, .int t.2.1, .int t.2.2] v = some (.int m) ∧ (m = t.1 ∨ m = t.2.1 ∨ m = t.2.2) := by
  rcases (by omega : v = 0 ∨ v = 1 ∨ v = 2) with rfl | rfl | rfl
  · exact ⟨t.1, rfl, .inl rfl⟩
  · exact ⟨t.2.1, rfl, .inr (.inl rfl)⟩
  · exact ⟨t.2.2, rfl, .inr (.inr rfl)⟩
def spPlc : Sp := fun vs H Q _ => ∃ (d sa X : Addr) (ns : List Int) (ax : List (Int × Int × Int)), vs = [.ref d, .ref X] ∧ Dk d sa ns H ∧ Dq [d] H (.ref X) (.list (ax.map axD)) ∧ ax.length ≤ 2 ∧ (∀ t, t ∈ ax → AxR t) ∧
  ∀ L H' (pl : List Int), Fr [d] H H' → Dk d sa ns H' → Dq [d] H' (.ref L) (.list (pl.map PyData.int)) → pl.length = ax.length → (∀ (i : Nat) t n, ax[i]? = some t → pl[i]? = some n → t.1 ≤ n ∧ n ≤ t.2.2) → Q (.ref L) H'
theorem ok_law_place (T : Txt K mg) : Has P w K mg base 2 "_law_place" ps_law_place spPlc := by
  have h_law_draw := ok_law_draw (P := P) (w := w) (base := base) T
  refine has_of T.d_law_place sc_law_place bd_law_place (fun vs H Q E h => ?_) (fun f cdv A outer s H vs Q E hr h => ?_)
  · obtain ⟨d, s, X, ns, ax, rfl, _⟩ := h
    rfl
  · obtain ⟨d, sa, X, ns, ax, rfl, hk, hX, hz, hR, q⟩ := h
    refine ⟨_, (pss_cons (ps_set (i := 2) sc_law_place.nd rfl (.inl rfl) (pe_lst pa_nil))
      (pss_cons (ps_for PassesOwn.never rfl (piL (K := K) rfl (pv 1)) (pg_name (i := 3) sc_law_place.nd rfl (.inl rfl))
        (pss_cons (ps_set (i := 4) sc_law_place.nd rfl (.inl rfl) (pe_h h_law_draw (hr.mono (by decide)) (pa_cons (pv 0) (pa_cons pe_int pa_nil))))
      (pss_cons (ps_set (i := 5) sc_law_place.nd rfl (.inl rfl) (pe_op op_add (pe_ix (ixT (K := K) rfl) (pv 3) pe_int (fun _ _ => rfl)) (pe_h h_law_draw (hr.mono (by decide)) (pa_cons (pv 0) (pa_cons (pe_op op_add (pe_op op_sub (pe_ix (ixT (K := K) rfl) (pv 3) pe_int (fun _ _ => rfl)) (pe_ix (ixT (K := K) rfl) (pv 3) pe_int (fun _ _ => rfl))) pe_int) pa_nil)))))
      (pss_cons (ps_if (pt_cmpR op_lt (pv 4) pe_int (nomark _))
        (pss_one (ps_set (i := 5) sc_law_place.nd rfl (.inl rfl) (pe_ix (ixT (K := K) rfl) (pv 3) (pv 4) (fun _ _ => rfl))))
        pss_nil)
      (pss_one (ps_expr (pe_bm PySem.F.plainAttrs_list PySem.F.slot_list_append PySem.F.type_list_append mt_append (pv 2) (pa_cons (pv 5) pa_nil))))))))
      (pss_one (ps_ret (pv 2))))), ?_⟩
    obtain ⟨_, xs, e, nX, rX, hXs⟩ := hX.lstE
    cases e
    have lx := hXs.len
    rw [List.length_map] at lx
    have hXd : X ≠ d := fun e => nX (by rw [e]; simp)
    walk_at "fl.w"
    rename_i L hL
    have hLd : L ≠ d := hk.ned hL
    have hLs : L ≠ sa := hk.nes hL
    have hXL : X ≠ L := fun e => by rw [e, hL] at rX; cases rX
    refine forK_l (xs := xs) (fun i σ' H' => ∃ (acc : List V) (pl : List Int) (u1 u2 u3 : Option V), σ' = [some (.ref d), some (.ref X), some (.ref L), u1, u2, u3] ∧ H' L = some (.lst acc) ∧
      DqA [L, d] H' acc (pl.map PyData.int) ∧ pl.length = i ∧ (∀ (j : Nat) t n, ax[j]? = some t → pl[j]? = some n → t.1 ≤ n ∧ n ≤ t.2.2) ∧ Fl.Fr [L, d] H H' ∧ Dk d sa ns H') ?_ ?_ ?_ ?_
    · exact ⟨[], [], none, none, none, rfl, upd_same, .nil, rfl, fun j t n _ e => by simp at e, Fl.Fr.new hL, hk.newH hL⟩
    · intro i σ' H' _ ⟨acc, pl, u1, u2, u3, e, hacc, hA, hl, hc, hf, hk'⟩
      exact SqL.of (hf X _ (by simp [hXL, hXd]) rX)
    · intro i x σ' H' hxi ⟨acc, pl, u1, u2, u3, e, hacc, hA, hl, hc, hf, hk'⟩
      subst e
      have hol : acc.length = i := by rw [hA.len, List.length_map]; exact hl
      have hAl : Al [L, d] H' := .cons (by rw [hacc]; simp) (.cons hk'.hd .nil)
      obtain ⟨t, ht, hx⟩ := hXs.getM hxi
      obtain ⟨p, rfl, np, hp⟩ := i3E hx
      have hpL : p ≠ L := fun e => by rw [e, hL] at hp; cases hp
      have hpd : p ≠ d := fun e => np (by rw [e]; simp)
      have hp1 := hf p _ (by simp [hpL, hpd]) hp
      obtain ⟨t1, t2, t3, t4, t5, t6⟩ := hR t (List.mem_of_getElem? ht)
      walk_at "fl.w"
      rename_i w0 G0 a00 a01 k0 o0 w1 G1 a10 a11 k1 o1
      have fr : Fr [d] H' G1 := (o0.frS (by simp)).trans (o1.frS (by simp))
      have fr2 : Fr [L, d] H' G1 := fr.mono fun b m => by simpa using Or.inr (show b = d by simpa using m)
      have hp2 := fr p _ (by simpa using hpd) hp1
      have hacc2 := fr L _ (by simpa using hLd) hacc
      have hi2 : acc.length < 100 := by
        have := (List.getElem?_eq_some_iff.mp hxi).1
        omega
      have fin : ∀ (n : Int) (u1 u2 u3 : Option V), t.1 ≤ n → n ≤ t.2.2 → ∃ (acc' : List V) (pl : List Int) (v1 v2 v3 : Option V), [some (.ref d), some (.ref X), some (.ref L), u1, u2, u3] = [some (.ref d), some (.ref X), some (.ref L), v1, v2, v3] ∧ (upd G1 L (.lst (acc ++ [.int n]))) L = some (.lst acc') ∧
          DqA [L, d] (upd G1 L (.lst (acc ++ [.int n]))) acc' (pl.map PyData.int) ∧ pl.length = i + 1 ∧ (∀ (j : Nat) t n, ax[j]? = some t → pl[j]? = some n → t.1 ≤ n ∧ n ≤ t.2.2) ∧ Fl.Fr [L, d] H (upd G1 L (.lst (acc ++ [.int n]))) ∧ Dk d sa ns (upd G1 L (.lst (acc ++ [.int n]))) := by
        intro n u1 u2 u3 n0 n1
        refine ⟨acc ++ [.int n], pl ++ [n], _, _, _, rfl, upd_same, ?_, by rw [List.length_append, hl]; rfl, ?_, (hf.trans fr2).trans (Fl.Fr.upd (by simp)), k1.put hLd hLs⟩
        · rw [List.map_append]
          exact ((hA.fr fr2).app (.one (.int _))).fr (Fl.Fr.upd (by simp))
        · intro j t' n' ht' hn'
          by_cases hj : j < pl.length
          · rw [List.getElem?_append_left hj] at hn'
            exact hc j t' n' ht' hn'
          · have hj2 := (List.getElem?_eq_some_iff.mp hn').1
            rw [List.length_append, List.length_singleton] at hj2
            have ej : j = i := by omega
            subst ej
            rw [← hl, List.getElem?_append_right (Nat.le_refl _), Nat.sub_self] at hn'
            cases hn'
            rw [ht] at ht'
            cases ht'
            exact ⟨n0, n1⟩
      by_cases hk3 : w0 < 3
      · refine g_yesB hk3 ?_
        obtain ⟨m, hm, hm2⟩ := ax3 (t := t) a00 hk3
        walk_at "fl.w"
        exact fin m _ _ _ (by omega) (by omega)
      · refine g_noB hk3 ?_
        walk_at "fl.w"
        exact fin _ _ _ _ (by omega) (by omega)
    · intro σ' H' ⟨acc, pl, u1, u2, u3, e, hacc, hA, hl, hc, hf, hk'⟩
      subst e
      walk_at "fl.w"
      refine q L H' pl (fun b u n z => hf b u (fun m => ?_) z) hk' (.lst (by simpa using hLd) hacc hA.tail) (by omega) hc
      rcases List.mem_cons.mp m with rfl | m
      · rw [hL] at z; cases z
      · exact n m
end
section
variable {P : Program} {w : World} {K : PySem.W.Frag} {mg : Str → Option Value} {base : Heap}
local macro_rules | `(tactic| walk_at "fl.t") => `(tactic| (with_reducible refine g_chainW ?_))
local macro_rules | `(tactic| walk_at "fl.t") => `(tactic| (with_reducible refine g_callS ?_))
local macro_rules | `(tactic| walk_at "fl.t") => `(tactic| (with_reducible refine g_ifE ?_))
local macro_rules | `(tactic| walk_at "fl.w") => `(tactic| repeat walk_at "fl.t")
theorem mk_Gl2 {e1 e2 e3 e4 : Addr} {sp : Sp} (h : InI P w K mg base 2 "Glyph" "Glyph.__init__" s_Glyph fl_Glyph (kw_Glyph e1 e2 e3 e4) ps_Glyph sp) :
    MkI P w K mg base 2 "Glyph" 2 [] (fun vs zs => pick [0, 1, 2, 3, 4, 5, 6, 7] (vs ++ ([.ref e1, .ref e2, .bl false, .ref e3, .ref e4] ++ zs))) sp :=
  h.make 2 [] [("parts", .ref e1), ("anchors", .ref e2), ("mark", .bl false), ("deltas", .ref e3), ("hint", .ref e4)] [0, 1, 2, 3, 4, 5, 6, 7] (by simp) (by simp [kw_Glyph]) fun D doc pm an cdv ct us mv ws h1 h2 h3 => match us, h1, mv, h2, ws, h3 with | [_, _, _], _, [_, _, _, _, _], _, [], _ => ⟨_, _, _, _, _, _, rfl, rfl, ⟨_, _, _, _, _, _, rfl, rfl, ⟨_, _, _, _, _, _, rfl, rfl, ⟨_, _, _, _, _, _, rfl, rfl, ⟨_, _, _, _, _, _, rfl, rfl, rfl⟩⟩⟩⟩⟩
local macro_rules | `(tactic| walk_at "fl.q") => `(tactic| repeat ((fail_if_success (with_reducible refine g_if ?_)); walk_at "fl.t"))
local macro_rules | `(tactic| walk_at "fl.p") => `(tactic| repeat ((fail_if_success (with_reducible refine g_drop ?_)); walk_at "fl.t"))
theorem g_J {t : TS} {D : Ends} {σ : L2.St} {H : Hp} (J : L2.St → Hp → Prop) (h : ∀ N : L2.St → Hp → Prop, (∀ σ H, J σ H → N σ H) → t { D with nx := N } σ H) (k : ∀ σ H, J σ H → D.nx σ H) : t D σ H := h D.nx k
theorem dq_of {S : List Addr} {d : Addr} {H H' : Hp} {v : V} {x : PyData} (m : d ∈ S) (h : Dq S H v x) (f : Fl.Fr [d] H H') : Dq S H' v x := h.fr (f.mono fun a q => by rw [List.mem_singleton.mp q]; exact m)
theorem sh_ints (l : List Int) : SeqAt.shaped (.list (l.map PyData.int)) = true := sh_list (n := 1) (fun d m => by
  obtain ⟨r, hr, rfl⟩ := List.mem_map.mp m
  constructor
  · simp [PyData.canLay0]
  · simp [PyData.depth]) (by decide)
theorem tf_shs {ax : List (Int × Int × Int)} {pl : List Int} : ∀ d, d ∈ (List.range ax.length).filterMap (shF ax pl) → FlD d ∨ TfD d := fun d m => by
  obtain ⟨i, _, e⟩ := List.mem_filterMap.mp m
  unfold shF at e
  split at e
  · cases e
    refine .inr ⟨_, rfl, by show 2 ≤ 10; decide, fun e m => ?_⟩
    rcases List.mem_cons.mp m with rfl | m
    · trivial
    · rw [List.mem_singleton.mp m]
      trivial
  · cases e
def rwD (r : List Int) : PyData := .list (r.map PyData.int)
theorem eqv_cons {x : Int × Int × Int} {ax : List (Int × Int × Int)} : PyData.eqv (.list ((x :: ax).map axD)) (.list []) = false := rfl
structure Jn (ax : List (Int × Int × Int)) (pl : List Int) (mg : Str → Option Value) (d sa : Addr) (ns : List Int) (xf L B : Addr) (rows : List (List Int)) (G : Hp) : Prop where
  k : Dk d sa ns G
  f : Dq [d] G (.ref xf) (foD (cs mg) (fax ax).R)
  l : Dq [d] G (.ref L) (.list (pl.map PyData.int))
  b : Dq [d] G (.ref B) (.list (rows.map rwD))
  z : rows.length ≤ 4
  r : ∀ r, r ∈ rows → PlBad ax r
theorem bad_at {ax : List (Int × Int × Int)} {pl : List Int} {k : Nat} {t : Int × Int × Int} {n : Int} (ht : ax[k]? = some t) (hl : pl.length = ax.length) (hz : ax.length ≤ 2) (hn : n < t.1 ∨ t.2.2 < n) : PlBad ax (pl.take k ++ [n] ++ pl.drop (k + 1)) := by
  have hk := (List.getElem?_eq_some_iff.mp ht).1
  have e1 : (pl.take k).length = k := by rw [List.length_take]; omega
  refine ⟨?_, .inr ⟨k, hk, ?_⟩⟩
  · rw [List.length_append, List.length_append, e1, List.length_drop, List.length_singleton]
    omega
  · have en : (pl.take k ++ [n] ++ pl.drop (k + 1))[k]? = some n := by
      rw [List.append_assoc, List.getElem?_append_right (by omega), e1, Nat.sub_self]
      rfl
    unfold bq
    rw [ht, en]
    rcases hn with h | h
    · show (decide (t.1 ≤ n) && decide (n ≤ t.2.2)) = false
      rw [decide_eq_false (by omega)]
      rfl
    · show (decide (t.1 ≤ n) && decide (n ≤ t.2.2)) = false
      rw [decide_eq_false (p := n ≤ t.2.2) (by omega), Bool.and_false]
theorem bad_drop {ax : List (Int × Int × Int)} {pl : List Int} (h0 : 0 < ax.length) (hl : pl.length = ax.length) (hz : ax.length ≤ 2) : PlBad ax (pl.drop 1) := by
  refine ⟨by rw [List.length_drop]; omega, .inl (by rw [List.length_drop]; omega)⟩
theorem ok_law (T : Txt K mg) (I : WoK K w mg) {f : Addr} {fd : FuncData} (F : Fun K "law" "law" s_law f fd) : FnOk P w K mg base CX0 14 f fd ps_law (spLaw K) := by
  obtain ⟨e1, e2, e3, e4, e5, e6, e7, n1, n2, n3, n4, n5, n6, n7, cF⟩ := T.c_Font
  obtain ⟨g1', g2', g3', g4', o1, o2, o3, o4, cG⟩ := T.c_Glyph
  have mk_Glyph_2 := mk_Gl2 (ok_Glyph (P := P) (w := w) (base := base) T cG)
  have mk_Font_2_axes := mk_FoX (font_K40 (P := P) (base := base) T I cF)
  have h_law_deck := ok_law_deck (P := P) (w := w) (base := base) T
  have h_law_draw := ok_law_draw (P := P) (w := w) (base := base) T
  have h_law_axes := ok_law_axes (P := P) (w := w) (base := base) T
  have h_law_place := ok_law_place (P := P) (w := w) (base := base) T
  have h_law_share := ok_law_share (P := P) (w := w) (base := base) T
  have h_shares := ok_shares (P := P) (w := w) (base := base) T VL0
  have h_law_same_list := ok_law_same_listB (P := P) (w := w) (base := base) T
  have h_law_asked := ok_law_asked (P := P) (base := base) T I
  refine fnok_of F sc_law (fun vs H Q E h => ?_) (fun f cdv A outer s H vs Q E hr h => ?_)
  · obtain ⟨a, ns, rfl, _⟩ := h
    rfl
  obtain ⟨a, ns, rfl, hS, hlen, q⟩ := h
  refine ⟨_, (pss_cons (ps_set (i := 1) sc_law.nd rfl (.inl rfl) (pe_h h_law_deck (hr.mono (by decide)) (pa_cons (pv 0) pa_nil)))
      (pss_cons (ps_set (i := 2) sc_law.nd rfl (.inr rfl) (pe_h h_law_axes (hr.mono (by decide)) (pa_cons (pv 1) (pa_cons pe_int pa_nil))))
      (pss_cons (ps_set (i := 3) sc_law.nd rfl (.inr rfl) (pe_mk (mg := mg) rfl mk_Font_2_axes (hr.mono (by decide)) (pa_cons pe_int (pa_cons (pe_lst (pa_cons (pe_mk (mg := mg) rfl mk_Glyph_2 (hr.mono (by decide)) (pa_cons pe_int (pa_cons (pe_lst pa_nil) pa_nil)) pk_nil) pa_nil)) pa_nil)) (pk_cons (pe_callTy (clList (K := K) rfl) (by rfl) T.z_list (by decide +kernel) (pa_cons (pv 2) pa_nil)) pk_nil)))
      (pss_cons (ps_set (i := 4) sc_law.nd rfl (.inr rfl) (pe_h h_law_place (hr.mono (by decide)) (pa_cons (pv 1) (pa_cons (pv 2) pa_nil))))
      (pss_cons (ps_set (i := 5) sc_law.nd rfl (.inl rfl) (pe_callTy (clList (K := K) rfl) (by rfl) T.z_list (by decide +kernel) (pa_cons (pv 4) pa_nil)))
      (pss_cons (ps_setLc (i := 6) (own := [("k", 10)]) rfl sc_law.nd rfl rfl (sw_true rfl rfl rfl (by decide +kernel)) (pi_range1 (by rfl) T.z_range (pa_cons (pe_callB (clLen (K := K) rfl) (by rfl) T.z_len (by decide +kernel) (pa_cons (pv 2) pa_nil)) pa_nil)) (blkOk_by (by kernel_rfl)) (fun _ _ _ _ _ => (pg_name (i := 10) sc_law.nd rfl (.inl rfl))) (fun _ _ _ _ _ => pts_nil) (fun _ _ _ _ _ => (pe_h h_law_share (hr.mono (by decide)) (pa_cons (pe_ix (ixL (K := K) rfl) (pv 2) (pv 10) (fun _ _ => rfl)) (pa_cons (pe_ix (ixL (K := K) rfl) (pv 4) (pv 10) (fun _ _ => rfl)) pa_nil)))))
      (pss_cons (ps_if (PW.pt (pw_or (pt_not (pt_val (pe_h h_law_same_list (hr.mono (by decide)) (pa_cons (pe_h h_shares (hr.mono (by decide)) (pa_cons (pv 3) (pa_cons (pv 4) pa_nil))) (pa_cons (pv 6) pa_nil))))) (pw_or1 (pt_cmpR (opNeD (K := K) rfl hr.units) (pv 4) (pv 5) (nomark _)))))
        (pss_one (ps_ret pe_bl))
        pss_nil)
      (pss_cons (ps_set (i := 7) sc_law.nd rfl (.inl rfl) (pe_lst (pa_cons (pe_op op_cat (pv 4) (pe_lst (pa_cons pe_int pa_nil))) pa_nil)))
      (pss_cons (ps_if (pt_cmpR (opNeD (K := K) rfl hr.units) (pv 2) (pe_lst pa_nil) (nomark _))
        (pss_cons (ps_set (i := 8) sc_law.nd rfl (.inl rfl) (pe_h h_law_draw (hr.mono (by decide)) (pa_cons (pv 1) (pa_cons (pe_callB (clLen (K := K) rfl) (by rfl) T.z_len (by decide +kernel) (pa_cons (pv 2) pa_nil)) pa_nil))))
      (pss_cons (ps_set (i := 7) sc_law.nd rfl (.inl rfl) (pe_op op_cat (pv 7) (pe_lst (pa_cons (pe_slice (slL' (K := K) rfl) (pv 4) (po_some pe_int) po_none) (pa_cons (pe_op op_cat (pe_op op_cat (pe_slice (slL' (K := K) rfl) (pv 4) po_none (po_some (pv 8))) (pe_lst (pa_cons (pe_op op_add (pe_ix (ixT (K := K) rfl) (pe_ix (ixL (K := K) rfl) (pv 2) (pv 8) (fun _ _ => rfl)) pe_int (fun _ _ => rfl)) pe_int) pa_nil))) (pe_slice (slL' (K := K) rfl) (pv 4) (po_some (pe_op op_add (pv 8) pe_int)) po_none)) pa_nil)))))
      (pss_one (ps_expr (pe_bm PySem.F.plainAttrs_list PySem.F.slot_list_append PySem.F.type_list_append mt_append (pv 7) (pa_cons (pe_op op_cat (pe_op op_cat (pe_slice (slL' (K := K) rfl) (pv 4) po_none (po_some (pv 8))) (pe_lst (pa_cons (pe_op op_sub (pe_op op_sub (pe_ix (ixT (K := K) rfl) (pe_ix (ixL (K := K) rfl) (pv 2) (pv 8) (fun _ _ => rfl)) pe_int (fun _ _ => rfl)) pe_int) (pe_h h_law_draw (hr.mono (by decide)) (pa_cons (pv 1) (pa_cons pe_int pa_nil)))) pa_nil))) (pe_slice (slL' (K := K) rfl) (pv 4) (po_some (pe_op op_add (pv 8) pe_int)) po_none)) pa_nil))))))
        pss_nil)
      (pss_cons (ps_for PassesOwn.never rfl (piL (K := K) rfl (pv 7)) (pg_name (i := 9) sc_law.nd rfl (.inr rfl))
        (pss_cons (ps_if (pt_cmpR (opNeD (K := K) rfl hr.units) (pe_lc (own := [("what", 11)]) rfl sc_law.nd (piL (K := K) rfl (pe_lst (pa_cons pe_int (pa_cons pe_int (pa_cons pe_int pa_nil))))) (blkOk_by (by kernel_rfl)) (fun _ _ _ _ _ => (pg_name (i := 11) sc_law.nd rfl (.inl rfl))) (fun _ _ _ _ _ => pts_nil) (fun _ _ _ _ _ => (pe_h h_law_asked (hr.mono (by decide)) (pa_cons (pv 3) (pa_cons (pv 11) (pa_cons (pe_callTy (clList (K := K) rfl) (by rfl) T.z_list (by decide +kernel) (pa_cons (pv 9) pa_nil)) pa_nil)))))) (pe_lst (pa_cons pe_str (pa_cons pe_str (pa_cons pe_str pa_nil)))) (nomark _))
        (pss_one (ps_ret pe_bl))
        pss_nil)
      (pss_one (ps_if (PW.pt (pw_or (pt_cmpR (opNeD (K := K) rfl hr.units) (pe_h h_law_asked (hr.mono (by decide)) (pa_cons (pv 3) (pa_cons pe_int (pa_cons (pe_callTy (clList (K := K) rfl) (by rfl) T.z_list (by decide +kernel) (pa_cons (pv 9) pa_nil)) pa_nil)))) (pe_tup (pa_cons pe_str (pa_cons pe_int pa_nil))) (nomark _)) (pw_or1 (pt_cmpR op_ne (pe_h h_law_asked (hr.mono (by decide)) (pa_cons (pv 3) (pa_cons pe_int (pa_cons (pe_callTy (clList (K := K) rfl) (by rfl) T.z_list (by decide +kernel) (pa_cons (pv 9) pa_nil)) pa_nil)))) pe_str (nomark _)))))
        (pss_one (ps_ret pe_bl))
        pss_nil))))
      (pss_one (ps_ret (pe_cmpR (opEqD (K := K) rfl hr.units) (pe_lc (own := [("what", 11)]) rfl sc_law.nd (piL (K := K) rfl (pe_lst (pa_cons pe_int (pa_cons pe_int (pa_cons pe_int (pa_cons pe_int pa_nil)))))) (blkOk_by (by kernel_rfl)) (fun _ _ _ _ _ => (pg_name (i := 11) sc_law.nd rfl (.inl rfl))) (fun _ _ _ _ _ => pts_nil) (fun _ _ _ _ _ => (pe_h h_law_asked (hr.mono (by decide)) (pa_cons (pv 3) (pa_cons (pv 11) (pa_cons (pv 4) pa_nil)))))) (pe_lst (pa_cons pe_str (pa_cons pe_str (pa_cons pe_str (pa_cons (pe_tup (pa_cons pe_str (pa_cons pe_int pa_nil))) pa_nil))))) (nomark _)))))))))))))), ?_⟩
  clear cF cG
  walk_at "fl.w"
  rename_i d sa H1 sm1 hk1
  have dd : d ∈ [d] := by simp
  refine ⟨d, sa, ns, rfl, hk1, fun X H2 ax fr2 hk2 dX lz hR => ?_⟩
  clear fr2 hk1 sm1
  walk_at "fl.w"
  rename_i p0 hp0
  have al2 := Al.cons (H := H2) hk2.hd .nil
  have alC := al2.newH (u := .lst []) hp0
  have okg : K40.gA.R.ok := GlG.rok (n := 1) (m := 0) ⟨⟨by decide, by decide⟩, by decide, ⟨by decide, fun c m => (nomatch m)⟩, ⟨by decide, fun p m => (nomatch m)⟩, ⟨by decide, fun p m => (nomatch m)⟩, ⟨by decide, fun p m => (nomatch m)⟩, ⟨by decide, fun p m => (nomatch m)⟩⟩
  refine g_mk rfl rfl (mk_app (f := fGl) (ws := [.int 10, .ref p0, .ref g1', .ref g2', .bl false, .ref g3', .ref g4']) [d] [.int 10, .list [], .tuple [], .tuple [], .bool false, .tuple [], .tuple []] K40.gA.R.F (fun x => rfl) alC (.cons (.inl (.int _)) (.cons (.inl (Dq.newL al2 hp0 .nil)) (.cons (.inr ⟨rfl, _, rfl, o1⟩) (.cons (.inr ⟨rfl, _, rfl, o2⟩) (.cons (.inl (.bl _)) (.cons (.inr ⟨rfl, _, rfl, o3⟩) (.cons (.inr ⟨rfl, _, rfl, o4⟩) .nil)))))))
    ⟨_, _, _, _, _, K40.gA.R, rfl, okg, .le, .e, .e, .e, .e, rfl⟩ fun xa H3 sm3 da => ?_)
  have s3 : Same H2 H3 := (Fl.Same.new hp0).trans sm3
  have hk3 := hk2.same s3
  have dX3 := dX.same s3
  have al3 := al2.same s3
  obtain ⟨_, xs, e, nX, rX, hXs⟩ := dX3.lstE
  cases e
  walk_at "fl.w"
  rename_i p1 hp1 p2 hp2
  have fok : (fax ax).Ok VL0 := fax_ok (by omega) fun t m => by obtain ⟨t1, t2, t3, t4, t5, t6⟩ := hR t m; omega
  have sF : Same H3 (upd (upd H3 p1 (.lst [.ref xa])) p2 (.lst xs)) := (Fl.Same.new hp1).trans (Fl.Same.new hp2)
  have al4 := (al3.newH (u := .lst [.ref xa]) hp1).newH (u := .lst xs) hp2
  have dgl : Dq [d] (upd (upd H3 p1 (.lst [.ref xa])) p2 (.lst xs)) (.ref p1) (.list [glD (cs mg) K40.gA.R]) := (Dq.newL al3 hp1 (.cons da .nil)).same (Fl.Same.new hp2)
  have dxs : Dq [d] (upd (upd H3 p1 (.lst [.ref xa])) p2 (.lst xs)) (.ref p2) (.list (ax.map axD)) := Dq.newL (al3.newH hp1) hp2 (hXs.same (Fl.Same.new hp1))
  refine g_mk rfl rfl (mk_app (f := fFo (cs mg) VF) (ws := [.int 100, .ref p1, .ref e1, .ref e2, .ref e3, .ref p2, .ref e5, .ref e6, .ref e7]) [d] [.int 100, .list [glD (cs mg) K40.gA.R], .tuple [], .tuple [], .tuple [], .list (ax.map axD), .tuple [], .tuple [], .tuple []] ((fax ax).R.F (cs mg)) (fun x => rfl) al4 (.cons (.inl (.int _)) (.cons (.inl dgl) (.cons (.inr ⟨rfl, _, rfl, n1⟩) (.cons (.inr ⟨rfl, _, rfl, n2⟩) (.cons (.inr ⟨rfl, _, rfl, n3⟩) (.cons (.inl dxs) (.cons (.inr ⟨rfl, _, rfl, n5⟩) (.cons (.inr ⟨rfl, _, rfl, n6⟩) (.cons (.inr ⟨rfl, _, rfl, n7⟩) .nil)))))))))
    ⟨_, _, _, _, _, _, _, _, (fax ax).R, rfl, FoG.rok fok, ⟨_, fok, rfl, rfl⟩, rfl, .e, rfl, .e, (by
      show Sq2 (.list (ax.map axD)) (ax.map i3)
      rw [show PyData.list (ax.map axD) = ltD (ax.map i3) from (ltD_map i3 ax).symm]
      exact .lt (by rw [List.length_map]; omega)), .e, .e, .e, rfl⟩ fun xf H4 sm4 df => ?_)
  have df : Dq [d] H4 (.ref xf) (foD (cs mg) (fax ax).R) := df
  have s4 := sF.trans sm4
  have hk4 := hk3.same s4
  have dX4 := dX3.same s4
  clear dxs dgl al4 sF sm4 s4 hp1 hp2 rX nX hXs dX3 hk3 da s3 sm3 alC okg hp0 al3 al2 dX hk2 mk_Glyph_2 mk_Font_2_axes o1 o2 o3 o4 n1 n2 n3 n4 n5 n6 n7
  walk_at "fl.w"
  refine ⟨d, sa, X, ns, ax, rfl, hk4, dX4, lz, hR, fun L H5 pl fr5 hk5 dL5 lp hpl => ?_⟩
  have dX5 := dq_of dd dX4 fr5
  have df5 := dq_of dd df fr5
  have al5 := Al.cons (H := H5) hk5.hd .nil
  clear dX4 df fr5 hk4
  obtain ⟨_, ys, e, nL, rL, hLs⟩ := dL5.lstE
  cases e
  obtain ⟨_, xs, e, nX, rX, hXs⟩ := dX5.lstE
  cases e
  have lx : xs.length = ax.length := by rw [hXs.len, List.length_map]
  have ly : ys.length = ax.length := by rw [hLs.len, List.length_map, lp]
  walk_at "fl.w"
  rename_i p3 hp3
  have sK : Same H5 (upd H5 p3 (.lst ys)) := Fl.Same.new hp3
  generalize hH6 : upd H5 p3 (.lst ys) = H6 at sK
  have hk6 := hk5.same sK
  have al6 := al5.same sK
  have df6 := df5.same sK
  have dK6 : Dq [d] H6 (.ref p3) (.list (pl.map PyData.int)) := by rw [← hH6]; exact Dq.newL al5 hp3 hLs
  have dX6 := dX5.same sK
  have dL6 := dL5.same sK
  have rX6 := sK _ _ rX
  have rL6 := sK _ _ rL
  clear hH6
  refine lcR (S := [d]) (shF ax pl) al6 (by omega) ?_ ?_
  · intro D i G hD hi smG al R N hR2 hN
    have hi2 : i < ax.length := by omega
    have hxi : xs[i]? = some xs[i] := List.getElem?_eq_getElem (by omega)
    have hyi : ys[i]? = some ys[i] := List.getElem?_eq_getElem (by omega)
    obtain ⟨t, ht, dt⟩ := hXs.getM hxi
    obtain ⟨n, hn, dn⟩ := hLs.getM hyi
    have axi : atI xs (i : Int) = some xs[i] := atI_nat hxi
    have ayi : atI ys (i : Int) = some ys[i] := atI_nat hyi
    have rXG := smG _ _ rX6
    have rLG := smG _ _ rL6
    have dtG := (((dt.same sK).new hD).same smG)
    have dnG := (((dn.same sK).new hD).same smG)
    obtain ⟨n1, n2⟩ := hpl i t n ht hn
    obtain ⟨t1, t2, t3, t4⟩ := fok.ax.2 t (List.mem_of_getElem? ht)
    refine g_name ⟨rfl, ?_⟩
    rw [Int.zero_add]
    walk_at "fl.w"
    refine spD_app (D :: [d]) [.tuple (i3 t), .int n] (fqD (shq t n)) al (.cons dtG (.cons dnG .nil)) ⟨t, n, rfl, t1, t2, t3, t4, n1, n2, rfl⟩ (fun v G2 sm4 hv => ?_)
    exact hR2 _ _ _ (by unfold shF; rw [ht, hn]) sm4 hv
  intro DU H7 sm7 hDU dU7
  have dU7 : Dq [d] H7 (.ref DU) (shsD ax pl) := by
    unfold shsD
    rw [show ax.length = ((xs.length : Nat) : Int).toNat from by omega]
    exact dU7
  have pok : PlOk ax pl := ⟨lp, hpl⟩
  have hk7 := hk6.same sm7
  have al7 := al6.same sm7
  have df7 := df6.same sm7
  have dK7 := dK6.same sm7
  have dX7 := dX6.same sm7
  have dL7 := dL6.same sm7
  clear hDU sm7 rL6 rX6 dL6 dX6 dK6 df6 al6 hk6 sK hp3 rX nX rL nL al5 df5 dX5 dL5 hk5
  walk_at "fl.w"
  refine spD_app [d] [foD (cs mg) (fax ax).R, .list (pl.map PyData.int)] (shsD ax pl) al7 (.cons df7 (.cons dL7 .nil)) ⟨fax ax, pl, rfl, fok, pok, rfl⟩ (fun v H8 sm8 hv => ?_)
  have hk8 := hk7.same sm8
  have al8 := al7.same sm8
  have df8 := df7.same sm8
  have dK8 := dK7.same sm8
  have dX8 := dX7.same sm8
  have dL8 := dL7.same sm8
  have dU8 := dU7.same sm8
  clear sm8 dU7 dL7 dX7 dK7 df7 al7 hk7
  walk_at "fl.w"
  refine ⟨[d], [d], (List.range ax.length).filterMap (shF ax pl), _, _, rfl, ?_, tf_shs, hv, dU8, ?_⟩
  · have := List.length_filterMap_le (shF ax pl) (List.range ax.length)
    rw [List.length_range] at this
    omega
  clear hv dU8
  walk_at "fl.w"
  refine g_neD' dL8 dK8 (sh_ints _) (sh_ints _) ?_
  rw [eqv_self (sh_ints _)]
  clear dK8
  obtain ⟨_, xs', e, nX, rX, hX8⟩ := dX8.lstE
  cases e
  obtain ⟨_, ys', e, nL, rL, hL8⟩ := dL8.lstE
  cases e
  have lx' : xs'.length = ax.length := by rw [hX8.len, List.length_map]
  have ly' : ys'.length = ax.length := by rw [hL8.len, List.length_map, lp]
  clear hXs hLs lx ly
  walk_at "fl.q"
  rename_i p4 hp4 p5 hp5 p6 hp6
  have s9 : Same H8 (upd (upd (upd H8 p4 (.lst [.int 0])) p5 (.lst (ys' ++ [.int 0]))) p6 (.lst [.ref p5])) := ((Fl.Same.new hp4).trans (Fl.Same.new hp5)).trans (Fl.Same.new hp6)
  have dB : Dq [d] (upd (upd (upd H8 p4 (.lst [.int 0])) p5 (.lst (ys' ++ [.int 0]))) p6 (.lst [.ref p5])) (.ref p6) (.list [rwD (pl ++ [0])]) := by
    refine Dq.newL ((al8.newH hp4).newH hp5) hp6 (.cons (Dq.newL (al8.newH hp4) hp5 ?_) .nil)
    rw [List.map_append]
    exact (hL8.same (Fl.Same.new hp4)).app (.one (.int 0))
  generalize upd (upd (upd H8 p4 (.lst [.int 0])) p5 (.lst (ys' ++ [.int 0]))) p6 (.lst [.ref p5]) = H9 at s9 dB
  have hk9 := hk8.same s9
  have al9 := al8.same s9
  have df9 := df8.same s9
  have dX9 := dX8.same s9
  have dL9 := dL8.same s9
  have rX9 := s9 _ _ rX
  have rL9 := s9 _ _ rL
  have hX9 := hX8.same s9
  have hL9 := hL8.same s9
  have bad0 : PlBad ax (pl ++ [0]) := ⟨by rw [List.length_append, List.length_singleton]; omega, .inl (by rw [List.length_append, List.length_singleton]; omega)⟩
  clear s9 hp4 hp5 hp6 hL8 hX8 rX rL dL8 dX8 df8 al8 hk8
  refine g_J (fun σ' G => ∃ (B : Addr) (u8 : Option V) (rows : List (List Int)), σ' = [some (.ref a), some (.ref d), some (.ref X), some (.ref xf), some (.ref L), some (.ref p3), some (.ref DU), some (.ref B), u8, none, none, none] ∧ Jn ax pl mg d sa ns xf L B rows G) (fun N hN => ?_) (fun σ' G hJ => ?_)
  · walk_at "fl.w"
    rename_i p7 hp7
    have s10 : Same H9 (upd H9 p7 (.lst [])) := Fl.Same.new hp7
    refine g_neD' (S := [d]) (T := [d]) (d := .list (ax.map axD)) (e := .list []) (dX9.same s10) (Dq.newL al9 hp7 .nil) ?_ (by decide) ?_
    · refine sh_list (n := 2) (fun e m => ?_) (by decide)
      obtain ⟨t, _, rfl⟩ := List.mem_map.mp m
      constructor
      · simp [axD, i3, PyData.canLay0, PyData.canLayAll0]
      · simp [axD, i3, PyData.depth, PyData.depthAll]
    have df10 := df9.same s10
    have dL10 := dL9.same s10
    have dB10 := dB.same s10
    have hk10 := hk9.same s10
    have al10 := al9.same s10
    have rX10 := s10 _ _ rX9
    have rL10 := s10 _ _ rL9
    have hX10 := hX9.same s10
    have hL10 := hL9.same s10
    generalize upd H9 p7 (.lst []) = H10 at s10 df10 dL10 dB10 hk10 al10 rX10 rL10 hX10 hL10
    clear s10 hp7 hX9 hL9 rX9 rL9 dB dL9 dX9 df9 al9 hk9
    rcases ax with _ | ⟨x0, ax0⟩
    · rw [show PyData.eqv (.list (([] : List (Int × Int × Int)).map axD)) (.list []) = true from rfl]
      walk_at "fl.w"
      refine hN _ _ ⟨p6, _, [pl ++ [0]], rfl, hk10, df10, dL10, dB10, by show 1 ≤ 4; decide, fun r m => ?_⟩
      rw [List.mem_singleton.mp m]
      exact bad0
    · rw [eqv_cons]
      have lx0 : 0 < xs'.length := by rw [lx']; simp
      walk_at "fl.w"
      rename_i vv H11 v0 v1 hk11 on11
      have fr11 : Fr [d] H10 H11 := on11.frS (by simp)
      obtain ⟨k, rfl⟩ : ∃ k : Nat, vv = (k : Int) := ⟨vv.toNat, by omega⟩
      have hkx : k < xs'.length := by omega
      have rX11 := fr11 X _ nX rX10
      have rL11 := fr11 L _ nL rL10
      have df11 := dq_of dd df10 fr11
      have dL11 := dq_of dd dL10 fr11
      have dB11 := dq_of dd dB10 fr11
      have hX11 := hX10.fr (fr11.mono fun b m => m)
      have hL11 := hL10.fr (fr11.mono fun b m => m)
      have al11 := Al.cons (H := H11) hk11.hd .nil
      have hxk : xs'[k]? = some xs'[k] := List.getElem?_eq_getElem hkx
      obtain ⟨t, ht, dt⟩ := hX11.getM hxk
      obtain ⟨tp, etp, ntp, rtp⟩ := i3E dt
      rw [etp] at hxk
      have axk : atI xs' (k : Int) = some (.ref tp) := atI_nat hxk
      clear fr11 on11 df10 dL10 dB10 hk10 al10 rX10 rL10 hX10 hL10
      obtain ⟨_, zs, e, nB, rB, hB11⟩ := dB11.lstE
      cases e
      have lB : zs.length = 1 := hB11.len
      have t0 : -200 ≤ t.1 ∧ t.1 ≤ t.2.2 ∧ t.2.2 ≤ 10000 := by
        have := hR t (List.mem_of_getElem? ht)
        obtain ⟨t1, t2, t3, t4, t5, t6⟩ := this
        omega
      walk_at "fl.p"
      rename_i q1 hq1 q2 hq2 q3 hq3 q4 hq4
      rw [show ((k : Int) + 1) = ((k + 1 : Nat) : Int) from rfl]
      walk_at "fl.p"
      rename_i q5 hq5 q6 hq6 q7 hq7 q8 hq8
      have s12 : Same H11 (upd (upd (upd (upd (upd (upd (upd (upd H11 q1 (.lst (ys'.drop 1))) q2 (.lst (ys'.take k))) q3 (.lst ([.int (t.2.2 + 1)]))) q4 (.lst (ys'.take k ++ [.int (t.2.2 + 1)]))) q5 (.lst (ys'.drop (k + 1)))) q6 (.lst (ys'.take k ++ [.int (t.2.2 + 1)] ++ ys'.drop (k + 1)))) q7 (.lst ([.ref q1, .ref q6]))) q8 (.lst (zs ++ [.ref q1, .ref q6]))) := ((((((((Fl.Same.new hq1).trans (Fl.Same.new hq2)).trans (Fl.Same.new hq3)).trans (Fl.Same.new hq4)).trans (Fl.Same.new hq5)).trans (Fl.Same.new hq6)).trans (Fl.Same.new hq7)).trans (Fl.Same.new hq8))
      have d1 : Dq [d] (upd H11 q1 (.lst (ys'.drop 1))) (.ref q1) (rwD (pl.drop 1)) := by
        refine Dq.newL al11 hq1 ?_
        rw [List.map_drop]
        exact hL11.drop 1
      have d6 : Dq [d] (upd (upd (upd (upd (upd (upd H11 q1 (.lst (ys'.drop 1))) q2 (.lst (ys'.take k))) q3 (.lst ([.int (t.2.2 + 1)]))) q4 (.lst (ys'.take k ++ [.int (t.2.2 + 1)]))) q5 (.lst (ys'.drop (k + 1)))) q6 (.lst (ys'.take k ++ [.int (t.2.2 + 1)] ++ ys'.drop (k + 1)))) (.ref q6) (rwD (pl.take k ++ [t.2.2 + 1] ++ pl.drop (k + 1))) := by
        refine Dq.newL (((((al11.newH hq1).newH hq2).newH hq3).newH hq4).newH hq5) hq6 ?_
        rw [List.map_append, List.map_append, List.map_take, List.map_drop]
        exact (((hL11.same (((((Fl.Same.new hq1).trans (Fl.Same.new hq2)).trans (Fl.Same.new hq3)).trans (Fl.Same.new hq4)).trans (Fl.Same.new hq5))).take k).app (.one (.int _))).app ((hL11.same (((((Fl.Same.new hq1).trans (Fl.Same.new hq2)).trans (Fl.Same.new hq3)).trans (Fl.Same.new hq4)).trans (Fl.Same.new hq5))).drop (k + 1))
      have hB12 : DqA [q8, d] (upd (upd (upd (upd (upd (upd (upd (upd H11 q1 (.lst (ys'.drop 1))) q2 (.lst (ys'.take k))) q3 (.lst ([.int (t.2.2 + 1)]))) q4 (.lst (ys'.take k ++ [.int (t.2.2 + 1)]))) q5 (.lst (ys'.drop (k + 1)))) q6 (.lst (ys'.take k ++ [.int (t.2.2 + 1)] ++ ys'.drop (k + 1)))) q7 (.lst ([.ref q1, .ref q6]))) q8 (.lst (zs ++ [.ref q1, .ref q6]))) (zs ++ [.ref q1, .ref q6]) (([pl ++ [0]] ++ [pl.drop 1, pl.take k ++ [t.2.2 + 1] ++ pl.drop (k + 1)]).map rwD) := by
        rw [List.map_append]
        exact (((hB11.same (((((((Fl.Same.new hq1).trans (Fl.Same.new hq2)).trans (Fl.Same.new hq3)).trans (Fl.Same.new hq4)).trans (Fl.Same.new hq5)).trans (Fl.Same.new hq6)).trans (Fl.Same.new hq7))).app (.cons (d1.same ((((((Fl.Same.new hq2).trans (Fl.Same.new hq3)).trans (Fl.Same.new hq4)).trans (Fl.Same.new hq5)).trans (Fl.Same.new hq6)).trans (Fl.Same.new hq7))) (.cons (d6.same (Fl.Same.new hq7)) .nil))).new hq8).same (Fl.Same.new hq8)
      have rB12 : (upd (upd (upd (upd (upd (upd (upd (upd H11 q1 (.lst (ys'.drop 1))) q2 (.lst (ys'.take k))) q3 (.lst ([.int (t.2.2 + 1)]))) q4 (.lst (ys'.take k ++ [.int (t.2.2 + 1)]))) q5 (.lst (ys'.drop (k + 1)))) q6 (.lst (ys'.take k ++ [.int (t.2.2 + 1)] ++ ys'.drop (k + 1)))) q7 (.lst ([.ref q1, .ref q6]))) q8 (.lst (zs ++ [.ref q1, .ref q6]))) q8 = some (.lst (zs ++ [.ref q1, .ref q6])) := upd_same
      have nq8 : q8 ∉ [d] := ((((((((al11.newH hq1).newH hq2).newH hq3).newH hq4).newH hq5).newH hq6).newH hq7)).ni hq8
      have hk12 := hk11.same s12
      have hqd : q8 ≠ d := (hk11.same (((((((Fl.Same.new hq1).trans (Fl.Same.new hq2)).trans (Fl.Same.new hq3)).trans (Fl.Same.new hq4)).trans (Fl.Same.new hq5)).trans (Fl.Same.new hq6)).trans (Fl.Same.new hq7))).ned hq8
      have hqs : q8 ≠ sa := (hk11.same (((((((Fl.Same.new hq1).trans (Fl.Same.new hq2)).trans (Fl.Same.new hq3)).trans (Fl.Same.new hq4)).trans (Fl.Same.new hq5)).trans (Fl.Same.new hq6)).trans (Fl.Same.new hq7))).nes hq8
      have df12 : Dq [q8, d] (upd (upd (upd (upd (upd (upd (upd (upd H11 q1 (.lst (ys'.drop 1))) q2 (.lst (ys'.take k))) q3 (.lst ([.int (t.2.2 + 1)]))) q4 (.lst (ys'.take k ++ [.int (t.2.2 + 1)]))) q5 (.lst (ys'.drop (k + 1)))) q6 (.lst (ys'.take k ++ [.int (t.2.2 + 1)] ++ ys'.drop (k + 1)))) q7 (.lst ([.ref q1, .ref q6]))) q8 (.lst (zs ++ [.ref q1, .ref q6]))) (.ref xf) (foD (cs mg) (fax (x0 :: ax0)).R) := ((df11.same (((((((Fl.Same.new hq1).trans (Fl.Same.new hq2)).trans (Fl.Same.new hq3)).trans (Fl.Same.new hq4)).trans (Fl.Same.new hq5)).trans (Fl.Same.new hq6)).trans (Fl.Same.new hq7))).new hq8).same (Fl.Same.new hq8)
      have dL12 : Dq [q8, d] (upd (upd (upd (upd (upd (upd (upd (upd H11 q1 (.lst (ys'.drop 1))) q2 (.lst (ys'.take k))) q3 (.lst ([.int (t.2.2 + 1)]))) q4 (.lst (ys'.take k ++ [.int (t.2.2 + 1)]))) q5 (.lst (ys'.drop (k + 1)))) q6 (.lst (ys'.take k ++ [.int (t.2.2 + 1)] ++ ys'.drop (k + 1)))) q7 (.lst ([.ref q1, .ref q6]))) q8 (.lst (zs ++ [.ref q1, .ref q6]))) (.ref L) (.list (pl.map PyData.int)) := ((dL11.same (((((((Fl.Same.new hq1).trans (Fl.Same.new hq2)).trans (Fl.Same.new hq3)).trans (Fl.Same.new hq4)).trans (Fl.Same.new hq5)).trans (Fl.Same.new hq6)).trans (Fl.Same.new hq7))).new hq8).same (Fl.Same.new hq8)
      generalize (upd (upd (upd (upd (upd (upd (upd (upd H11 q1 (.lst (ys'.drop 1))) q2 (.lst (ys'.take k))) q3 (.lst ([.int (t.2.2 + 1)]))) q4 (.lst (ys'.take k ++ [.int (t.2.2 + 1)]))) q5 (.lst (ys'.drop (k + 1)))) q6 (.lst (ys'.take k ++ [.int (t.2.2 + 1)] ++ ys'.drop (k + 1)))) q7 (.lst ([.ref q1, .ref q6]))) q8 (.lst (zs ++ [.ref q1, .ref q6]))) = H12 at s12 hB12 rB12 hk12 df12 dL12
      clear d1 d6 hq1 hq2 hq3 hq4 hq5 hq6 hq7 hq8
      have al12 := al11.same s12
      have rX12 := s12 _ _ rX11
      have hL12 := hL11.same s12
      have rL12 := s12 _ _ rL11
      have rt12 := s12 _ _ rtp
      have lB12 : (zs ++ [V.ref q1, .ref q6]).length = 3 := hB12.len
      generalize zs ++ [V.ref q1, .ref q6] = zz at hB12 rB12 lB12
      clear hX11 hL11 dL11 df11 al11 hk11 rX11 rL11 rtp dB11 hB11 rB s12
      walk_at "fl.w"
      rename_i q9 hq9 vv2 H13 v20 v21 hk13 on13 q10 hq10 q11 hq11
      have fr13 : Fr [d] H12 H13 := (Fr.same (Fl.Same.new hq9)).trans (on13.frS (by simp))
      have df13 := dq_of (S := [q8, d]) (by simp) df12 fr13
      have dL13 := dq_of (S := [q8, d]) (by simp) dL12 fr13
      have hB13 := hB12.fr (fr13.mono fun b m => List.mem_cons_of_mem _ m)
      have hL13 := hL12.fr (fr13.mono fun b m => m)
      have rL13 := fr13 L _ nL rL12
      have rB13 := fr13 q8 _ nq8 rB12
      have al13 : Al [q8, d] H13 := .cons (by rw [rB13]; simp) (.cons hk13.hd .nil)
      have al13' : Al [d] H13 := .cons hk13.hd .nil
      clear fr13 on13 df12 dL12 hB12 hL12 rL12 rB12 al12 hk12 rX12 rt12 hq9
      rw [show ((k : Int) + 1) = ((k + 1 : Nat) : Int) from rfl]
      walk_at "fl.w"
      rename_i q12 hq12 q13 hq13
      have s17 : Same H13 (upd (upd (upd (upd H13 q10 (.lst ([.int (t.1 - 1 - vv2)]))) q11 (.lst (ys'.take k ++ [.int (t.1 - 1 - vv2)]))) q12 (.lst (ys'.drop (k + 1)))) q13 (.lst (ys'.take k ++ [.int (t.1 - 1 - vv2)] ++ ys'.drop (k + 1)))) := ((((Fl.Same.new hq10).trans (Fl.Same.new hq11)).trans (Fl.Same.new hq12)).trans (Fl.Same.new hq13))
      have hL13' : DqA [q8, d] H13 ys' (pl.map PyData.int) := by
        obtain ⟨_, yy, e, _, r, h⟩ := dL13.lstE
        cases e
        rw [rL13] at r
        cases r
        exact h
      have d13 : Dq [q8, d] (upd (upd (upd (upd H13 q10 (.lst ([.int (t.1 - 1 - vv2)]))) q11 (.lst (ys'.take k ++ [.int (t.1 - 1 - vv2)]))) q12 (.lst (ys'.drop (k + 1)))) q13 (.lst (ys'.take k ++ [.int (t.1 - 1 - vv2)] ++ ys'.drop (k + 1)))) (.ref q13) (rwD (pl.take k ++ [t.1 - 1 - vv2] ++ pl.drop (k + 1))) := by
        refine Dq.newL (((al13.newH hq10).newH hq11).newH hq12) hq13 ?_
        rw [List.map_append, List.map_append, List.map_take, List.map_drop]
        exact (((hL13'.same (((Fl.Same.new hq10).trans (Fl.Same.new hq11)).trans (Fl.Same.new hq12))).take k).app (.one (.int _))).app ((hL13'.same (((Fl.Same.new hq10).trans (Fl.Same.new hq11)).trans (Fl.Same.new hq12))).drop (k + 1))
      have lx1 : pl.length = (x0 :: ax0).length := lp
      refine hN _ _ ⟨q8, _, [pl ++ [0]] ++ [pl.drop 1, pl.take k ++ [t.2.2 + 1] ++ pl.drop (k + 1)] ++ [pl.take k ++ [t.1 - 1 - vv2] ++ pl.drop (k + 1)], rfl, (hk13.same s17).put hqd hqs, ((df13.same s17).fr (Fl.Fr.upd (by simp))).tail, ((dL13.same s17).fr (Fl.Fr.upd (by simp))).tail, ?_, by show 4 ≤ 4; exact Nat.le_refl _, fun r m => ?_⟩
      · refine .lst nq8 upd_same ?_
        rw [List.map_append]
        exact (((hB13.same s17).app (.one d13)).fr (Fl.Fr.upd (by simp))).tail
      · rcases List.mem_append.mp m with m | m
        · rcases List.mem_append.mp m with m | m
          · rw [List.mem_singleton.mp m]
            exact bad0
          · rcases List.mem_cons.mp m with rfl | m
            · exact bad_drop (by simp) lx1 lz
            · rw [List.mem_singleton.mp m]
              exact bad_at ht lx1 lz (.inr (by omega))
        · rw [List.mem_singleton.mp m]
          exact bad_at ht lx1 lz (.inl (by omega))
  · obtain ⟨B, u8, rows, rfl, jn⟩ := hJ
    clear hX9 hL9 rX9 rL9 dB dL9 dX9 df9 al9 hk9 bad0 nX nL
    obtain ⟨_, bs, e, nB, rB, hB⟩ := jn.b.lstE
    cases e
    have lb : bs.length = rows.length := by rw [hB.len, List.length_map]
    have alG := Al.cons (H := G) jn.k.hd .nil
    have dfG := jn.f
    have dLG := jn.l
    walk_at "fl.w"
    refine forK_l (xs := bs) (fun i σ' H' => (∃ u8 u9, σ' = [some (.ref a), some (.ref d), some (.ref X), some (.ref xf), some (.ref L), some (.ref p3), some (.ref DU), some (.ref B), u8, u9, none, none]) ∧ Same G H') ⟨⟨_, _, rfl⟩, L2.Same.refl _⟩ (fun i σ' H' _ e => SqL.of (e.2 _ _ rB)) ?_ ?_
    · intro i x σ' H' hxi ⟨⟨u8, u9, e⟩, sm⟩
      subst e
      obtain ⟨r, hr', dr⟩ := (hB.same sm).getM hxi
      have pb := jn.r r (List.mem_of_getElem? hr')
      have dr' := dr
      obtain ⟨ra, rs, rfl, nr, rr, hrs⟩ := dr'.lstE
      have df1 := dfG.same sm
      have al1 := alG.same sm
      have lr : rs.length = r.length := by rw [hrs.len, List.length_map]
      have pz := pb.z
      walk_at "fl.w"
      rename_i l0 hl0
      have s1 : Same H' (upd H' l0 (.lst [.int 0, .int 1, .int 2])) := Fl.Same.new hl0
      refine lcL (S := [d]) (es := [.int 0, .int 1, .int 2]) (fun i => some (.str "place")) (al1.same s1) (Dq.newL al1 hl0 (.cons (.int _) (.cons (.int _) (.cons (.int _) .nil)))) (by decide) ?_ ?_
      · intro D j y e G2 hD he smG al hye R N hR2 hN
        obtain ⟨wh, rfl, w0, w2⟩ : ∃ wh : Int, e = .int wh ∧ 0 ≤ wh ∧ wh ≤ 2 := by
          rcases j with _ | _ | _ | j
          · cases he; exact ⟨0, rfl, by decide, by decide⟩
          · cases he; exact ⟨1, rfl, by decide, by decide⟩
          · cases he; exact ⟨2, rfl, by decide, by decide⟩
          · simp at he
        cases hye.intE
        have df2 := ((df1.same s1).new hD).same smG
        have rr2 := smG _ _ (s1 _ _ rr)
        have hrs2 := ((hrs.same s1).new hD).same smG
        refine g_name ⟨rfl, ?_⟩
        walk_at "fl.w"
        rename_i c hc
        refine ⟨wh, ax, r, ⟨D :: [d], _, _, rfl, al.newH hc, df2.same (Fl.Same.new hc), Dq.newL al hc hrs2, fok⟩, .inr (.inl ⟨w0, w2, pb, fun H5 s5 => ?_⟩)⟩
        exact hR2 _ _ _ rfl ((Fl.Same.new hc).trans s5) (.str _)
      intro D H2 sm2 hD dq2
      have dq2 : Dq [d] H2 (.ref D) (.list [.str "place", .str "place", .str "place"]) := dq2
      have s2 := s1.trans sm2
      have df2 := df1.same s2
      have al2 := al1.same s2
      have rr2 := s2 _ _ rr
      have hrs2 := hrs.same s2
      walk_at "fl.w"
      rename_i l1 hl1
      refine g_neD' (S := [d]) (T := [d]) (d := .list [.str "place", .str "place", .str "place"]) (e := .list [.str "place", .str "place", .str "place"]) (dq2.same (Fl.Same.new hl1)) (Dq.newL al2 hl1 (.cons (.str _) (.cons (.str _) (.cons (.str _) .nil)))) (by decide +kernel) (by decide +kernel) ?_
      rw [eqv_self (by decide +kernel)]
      have s3 : Same H2 (upd H2 l1 (.lst [.str "place", .str "place", .str "place"])) := Fl.Same.new hl1
      have df3 := df2.same s3
      have al3 := al2.same s3
      have rr3 := s3 _ _ rr2
      have hrs3 := hrs2.same s3
      have sA := (sm.trans s2).trans s3
      generalize upd H2 l1 (.lst [.str "place", .str "place", .str "place"]) = H3 at s3 df3 al3 rr3 hrs3 sA
      walk_at "fl.w"
      rename_i c hc
      refine ⟨3, ax, r, ⟨[d], _, _, rfl, al3.newH hc, df3.same (Fl.Same.new hc), Dq.newL al3 hc hrs3, fok⟩, .inr (.inr ⟨rfl, fun t H5 s5 hn5 ht5 => ?_⟩)⟩
      walk_at "fl.w"
      rename_i c2 hc2
      refine g_neD' (S := []) (T := []) (d := .tuple [.str "glyph", .int 1]) (e := .tuple [.str "glyph", .int 1]) (Dq.same (.tup (by simp) ht5 (.cons (.str _) (.cons (.int _) .nil))) (Fl.Same.new hc2)) (.tup (by simp) upd_same (.cons (.str _) (.cons (.int _) .nil))) (by decide +kernel) (by decide +kernel) ?_
      rw [eqv_self (by decide +kernel)]
      have s6 : Same H3 (upd H5 c2 (.tup [.str "glyph", .int 1])) := ((Fl.Same.new hc).trans s5).trans (Fl.Same.new hc2)
      have df6 := df3.same s6
      have al6 := al3.same s6
      have rr6 := s6 _ _ rr3
      have hrs6 := hrs3.same s6
      have sB := sA.trans s6
      generalize upd H5 c2 (.tup [.str "glyph", .int 1]) = H6 at s6 df6 al6 rr6 hrs6 sB
      walk_at "fl.w"
      rename_i c3 hc3
      refine ⟨1, ax, r, ⟨[d], _, _, rfl, al6.newH hc3, df6.same (Fl.Same.new hc3), Dq.newL al6 hc3 hrs6, fok⟩, .inr (.inl ⟨by decide, by decide, pb, fun H7 s7 => ?_⟩)⟩
      walk_at "fl.w"
      refine g_neS ?_
      walk_at "fl.w"
      exact ⟨⟨_, _, rfl⟩, (sB.trans (Fl.Same.new hc3)).trans s7⟩
    · intro σ' H' ⟨⟨u8, u9, e⟩, sm⟩
      subst e
      have df1 := dfG.same sm
      have dL1 := dLG.same sm
      have al1 := alG.same sm
      walk_at "fl.w"
      rename_i l0 hl0
      have s1 : Same H' (upd H' l0 (.lst [.int 0, .int 1, .int 2, .int 3])) := Fl.Same.new hl0
      refine lcL (S := [d]) (es := [.int 0, .int 1, .int 2, .int 3]) (fun i => some (if i < 3 then .str "fine" else .tuple [.str "glyph", .int 1])) (al1.same s1) (Dq.newL al1 hl0 (.cons (.int _) (.cons (.int _) (.cons (.int _) (.cons (.int _) .nil))))) (by decide) ?_ ?_
      · intro D j y e G2 hD he smG al hye R N hR2 hN
        have df2 := ((df1.same s1).new hD).same smG
        have dL2 := ((dL1.same s1).new hD).same smG
        have hj : j < 3 ∧ (∃ wh : Int, e = .int wh ∧ 0 ≤ wh ∧ wh ≤ 2) ∨ j = 3 ∧ e = .int 3 := by
          rcases j with _ | _ | _ | _ | j
          · cases he; exact .inl ⟨by decide, 0, rfl, by decide, by decide⟩
          · cases he; exact .inl ⟨by decide, 1, rfl, by decide, by decide⟩
          · cases he; exact .inl ⟨by decide, 2, rfl, by decide, by decide⟩
          · cases he; exact .inr ⟨rfl, rfl⟩
          · simp at he
        rcases hj with ⟨hj, wh, rfl, w0, w2⟩ | ⟨hj, rfl⟩
        · cases hye.intE
          refine g_name ⟨rfl, ?_⟩
          walk_at "fl.w"
          refine ⟨wh, ax, pl, ⟨D :: [d], _, _, rfl, al, df2, dL2, fok⟩, .inl ⟨w0, w2, pok, fun H5 s5 => ?_⟩⟩
          exact hR2 _ _ _ (by rw [if_pos hj]) s5 (.str _)
        · cases hye.intE
          refine g_name ⟨rfl, ?_⟩
          walk_at "fl.w"
          refine ⟨3, ax, pl, ⟨D :: [d], _, _, rfl, al, df2, dL2, fok⟩, .inr (.inr ⟨rfl, fun t H5 s5 hn5 ht5 => ?_⟩)⟩
          exact hR2 _ _ _ (by rw [if_neg (by omega)]) s5 (.tup (al.ni hn5) ht5 (.cons (.str _) (.cons (.int _) .nil)))
      intro D H2 sm2 hD dq2
      have dq2 : Dq [d] H2 (.ref D) (.list [.str "fine", .str "fine", .str "fine", .tuple [.str "glyph", .int 1]]) := dq2
      have al2 := (al1.same s1).same sm2
      walk_at "fl.w"
      rename_i c hc l1 hl1
      have s3 : Same H2 (upd H2 c (.tup [.str "glyph", .int 1])) := Fl.Same.new hc
      refine g_eqD (S := [d]) (T := [d]) (d := .list [.str "fine", .str "fine", .str "fine", .tuple [.str "glyph", .int 1]]) (e := .list [.str "fine", .str "fine", .str "fine", .tuple [.str "glyph", .int 1]]) ((dq2.same s3).same (Fl.Same.new hl1)) (Dq.newL (al2.newH hc) hl1 (.cons (.str _) (.cons (.str _) (.cons (.str _) (.cons (.tup (al2.ni hc) upd_same (.cons (.str _) (.cons (.int _) .nil))) .nil))))) (by decide +kernel) (by decide +kernel) ?_
      rw [eqv_self (by decide +kernel)]
      walk_at "fl.w"
      exact q _
end
abbrev spLaw (K : PySem.W.Frag) : Sp := Fl.spLaw K
theorem all_mk {l : PySem.W.OpenLaw} {w : World} {K : PySem.W.Frag} {h : Heap} {mg : Str → Option Value} {fa : Addr} (X : K.In h) (G : h.Ns mainGlobals mg) (hfa : mg "law" = some (.ref fa))
    {od0 an0 : Option Addr} {sl0 : Array (Option Value)} {oc0 kV0 dc0 pm0 cd0 ct0 : Value} {f0 : Addr}
    (a0 : PySem.W.nsIn K mainGlobals "tuples_of" = some (some (.ref f0))) (l0 : K.lookup f0 = some ⟨oc0, od0, .func (PySem.W.fnOf "tuples_of" "tuples_of" (defArgs s_tuples_of) (defBody s_tuples_of) (defScope s_tuples_of) .none kV0 dc0 pm0 an0 cd0 ct0), sl0⟩) (c0 : PySem.W.codeIn K cd0 "tuples_of" = true) (k0 : PySem.W.keepIn K (.ref f0) = true)
    {od1 an1 : Option Addr} {sl1 : Array (Option Value)} {oc1 kV1 dc1 pm1 cd1 ct1 : Value} {f1 : Addr}
    (a1 : PySem.W.nsIn K mainGlobals "depths_of" = some (some (.ref f1))) (l1 : K.lookup f1 = some ⟨oc1, od1, .func (PySem.W.fnOf "depths_of" "depths_of" (defArgs s_depths_of) (defBody s_depths_of) (defScope s_depths_of) .none kV1 dc1 pm1 an1 cd1 ct1), sl1⟩) (c1 : PySem.W.codeIn K cd1 "depths_of" = true) (k1 : PySem.W.keepIn K (.ref f1) = true)
    {od2 an2 : Option Addr} {sl2 : Array (Option Value)} {oc2 kV2 dc2 pm2 cd2 ct2 : Value} {f2 : Addr}
    (a2 : PySem.W.nsIn K mainGlobals "has_parts_in" = some (some (.ref f2))) (l2 : K.lookup f2 = some ⟨oc2, od2, .func (PySem.W.fnOf "has_parts_in" "has_parts_in" (defArgs s_has_parts_in) (defBody s_has_parts_in) (defScope s_has_parts_in) .none kV2 dc2 pm2 an2 cd2 ct2), sl2⟩) (c2 : PySem.W.codeIn K cd2 "has_parts_in" = true) (k2 : PySem.W.keepIn K (.ref f2) = true)
    {od3 an3 : Option Addr} {sl3 : Array (Option Value)} {oc3 kV3 dc3 pm3 cd3 ct3 : Value} {f3 : Addr}
    (a3 : PySem.W.nsIn K mainGlobals "is_proper" = some (some (.ref f3))) (l3 : K.lookup f3 = some ⟨oc3, od3, .func (PySem.W.fnOf "is_proper" "is_proper" (defArgs s_is_proper) (defBody s_is_proper) (defScope s_is_proper) .none kV3 dc3 pm3 an3 cd3 ct3), sl3⟩) (c3 : PySem.W.codeIn K cd3 "is_proper" = true) (k3 : PySem.W.keepIn K (.ref f3) = true)
    {od4 an4 : Option Addr} {sl4 : Array (Option Value)} {oc4 kV4 dc4 pm4 cd4 ct4 : Value} {f4 : Addr}
    (a4 : PySem.W.nsIn K mainGlobals "count_points" = some (some (.ref f4))) (l4 : K.lookup f4 = some ⟨oc4, od4, .func (PySem.W.fnOf "count_points" "count_points" (defArgs s_count_points) (defBody s_count_points) (defScope s_count_points) .none kV4 dc4 pm4 an4 cd4 ct4), sl4⟩) (c4 : PySem.W.codeIn K cd4 "count_points" = true) (k4 : PySem.W.keepIn K (.ref f4) = true)
    {od5 an5 : Option Addr} {sl5 : Array (Option Value)} {oc5 kV5 dc5 pm5 cd5 ct5 : Value} {f5 : Addr}
    (a5 : PySem.W.nsIn K mainGlobals "check_known" = some (some (.ref f5))) (l5 : K.lookup f5 = some ⟨oc5, od5, .func (PySem.W.fnOf "check_known" "check_known" (defArgs s_check_known) (defBody s_check_known) (defScope s_check_known) .none kV5 dc5 pm5 an5 cd5 ct5), sl5⟩) (c5 : PySem.W.codeIn K cd5 "check_known" = true) (k5 : PySem.W.keepIn K (.ref f5) = true)
    {od6 an6 : Option Addr} {sl6 : Array (Option Value)} {oc6 kV6 dc6 pm6 cd6 ct6 : Value} {f6 : Addr}
    (a6 : PySem.W.nsIn K mainGlobals "is_rising" = some (some (.ref f6))) (l6 : K.lookup f6 = some ⟨oc6, od6, .func (PySem.W.fnOf "is_rising" "is_rising" (defArgs s_is_rising) (defBody s_is_rising) (defScope s_is_rising) .none kV6 dc6 pm6 an6 cd6 ct6), sl6⟩) (c6 : PySem.W.codeIn K cd6 "is_rising" = true) (k6 : PySem.W.keepIn K (.ref f6) = true)
    {od7 an7 : Option Addr} {sl7 : Array (Option Value)} {oc7 kV7 dc7 pm7 cd7 ct7 : Value} {f7 : Addr}
    (a7 : PySem.W.nsIn K mainGlobals "is_instruction" = some (some (.ref f7))) (l7 : K.lookup f7 = some ⟨oc7, od7, .func (PySem.W.fnOf "is_instruction" "is_instruction" (defArgs s_is_instruction) (defBody s_is_instruction) (defScope s_is_instruction) .none kV7 dc7 pm7 an7 cd7 ct7), sl7⟩) (c7 : PySem.W.codeIn K cd7 "is_instruction" = true) (k7 : PySem.W.keepIn K (.ref f7) = true)
    {od8 an8 : Option Addr} {sl8 : Array (Option Value)} {oc8 kV8 dc8 pm8 cd8 ct8 : Value} {f8 : Addr}
    (a8 : PySem.W.nsIn K mainGlobals "is_row_of_letters" = some (some (.ref f8))) (l8 : K.lookup f8 = some ⟨oc8, od8, .func (PySem.W.fnOf "is_row_of_letters" "is_row_of_letters" (defArgs s_is_row_of_letters) (defBody s_is_row_of_letters) (defScope s_is_row_of_letters) .none kV8 dc8 pm8 an8 cd8 ct8), sl8⟩) (c8 : PySem.W.codeIn K cd8 "is_row_of_letters" = true) (k8 : PySem.W.keepIn K (.ref f8) = true)
    {od9 an9 : Option Addr} {sl9 : Array (Option Value)} {oc9 kV9 dc9 pm9 cd9 ct9 : Value} {f9 : Addr}
    (a9 : PySem.W.nsIn K mainGlobals "lookup_reason" = some (some (.ref f9))) (l9 : K.lookup f9 = some ⟨oc9, od9, .func (PySem.W.fnOf "lookup_reason" "lookup_reason" (defArgs s_lookup_reason) (defBody s_lookup_reason) (defScope s_lookup_reason) .none kV9 dc9 pm9 an9 cd9 ct9), sl9⟩) (c9 : PySem.W.codeIn K cd9 "lookup_reason" = true) (k9 : PySem.W.keepIn K (.ref f9) = true)
    {od10 an10 : Option Addr} {sl10 : Array (Option Value)} {oc10 kV10 dc10 pm10 cd10 ct10 : Value} {f10 : Addr}
    (a10 : PySem.W.nsIn K mainGlobals "first_fault" = some (some (.ref f10))) (l10 : K.lookup f10 = some ⟨oc10, od10, .func (PySem.W.fnOf "first_fault" "first_fault" (defArgs s_first_fault) (defBody s_first_fault) (defScope s_first_fault) .none kV10 dc10 pm10 an10 cd10 ct10), sl10⟩) (c10 : PySem.W.codeIn K cd10 "first_fault" = true) (k10 : PySem.W.keepIn K (.ref f10) = true)
    {od11 an11 : Option Addr} {sl11 : Array (Option Value)} {oc11 kV11 dc11 pm11 cd11 ct11 : Value} {f11 : Addr}
    (a11 : PySem.W.nsIn K mainGlobals "placed" = some (some (.ref f11))) (l11 : K.lookup f11 = some ⟨oc11, od11, .func (PySem.W.fnOf "placed" "placed" (defArgs s_placed) (defBody s_placed) (defScope s_placed) .none kV11 dc11 pm11 an11 cd11 ct11), sl11⟩) (c11 : PySem.W.codeIn K cd11 "placed" = true) (k11 : PySem.W.keepIn K (.ref f11) = true)
    {od12 an12 : Option Addr} {sl12 : Array (Option Value)} {oc12 kV12 dc12 pm12 cd12 ct12 : Value} {f12 : Addr}
    (a12 : PySem.W.nsIn K mainGlobals "first_glyph_fault" = some (some (.ref f12))) (l12 : K.lookup f12 = some ⟨oc12, od12, .func (PySem.W.fnOf "first_glyph_fault" "first_glyph_fault" (defArgs s_first_glyph_fault) (defBody s_first_glyph_fault) (defScope s_first_glyph_fault) .none kV12 dc12 pm12 an12 cd12 ct12), sl12⟩) (c12 : PySem.W.codeIn K cd12 "first_glyph_fault" = true) (k12 : PySem.W.keepIn K (.ref f12) = true)
    {od13 an13 : Option Addr} {sl13 : Array (Option Value)} {oc13 kV13 dc13 pm13 cd13 ct13 : Value} {f13 : Addr}
    (a13 : PySem.W.nsIn K mainGlobals "first_lookup_fault" = some (some (.ref f13))) (l13 : K.lookup f13 = some ⟨oc13, od13, .func (PySem.W.fnOf "first_lookup_fault" "first_lookup_fault" (defArgs s_first_lookup_fault) (defBody s_first_lookup_fault) (defScope s_first_lookup_fault) .none kV13 dc13 pm13 an13 cd13 ct13), sl13⟩) (c13 : PySem.W.codeIn K cd13 "first_lookup_fault" = true) (k13 : PySem.W.keepIn K (.ref f13) = true)
    {od14 an14 : Option Addr} {sl14 : Array (Option Value)} {oc14 kV14 dc14 pm14 cd14 ct14 : Value} {f14 : Addr}
    (a14 : PySem.W.nsIn K mainGlobals "is_coordinate" = some (some (.ref f14))) (l14 : K.lookup f14 = some ⟨oc14, od14, .func (PySem.W.fnOf "is_coordinate" "is_coordinate" (defArgs s_is_coordinate) (defBody s_is_coordinate) (defScope s_is_coordinate) .none kV14 dc14 pm14 an14 cd14 ct14), sl14⟩) (c14 : PySem.W.codeIn K cd14 "is_coordinate" = true) (k14 : PySem.W.keepIn K (.ref f14) = true)
    {od15 an15 : Option Addr} {sl15 : Array (Option Value)} {oc15 kV15 dc15 pm15 cd15 ct15 : Value} {f15 : Addr}
    (a15 : PySem.W.nsIn K mainGlobals "many_reason" = some (some (.ref f15))) (l15 : K.lookup f15 = some ⟨oc15, od15, .func (PySem.W.fnOf "many_reason" "many_reason" (defArgs s_many_reason) (defBody s_many_reason) (defScope s_many_reason) .none kV15 dc15 pm15 an15 cd15 ct15), sl15⟩) (c15 : PySem.W.codeIn K cd15 "many_reason" = true) (k15 : PySem.W.keepIn K (.ref f15) = true)
    {od16 an16 : Option Addr} {sl16 : Array (Option Value)} {oc16 kV16 dc16 pm16 cd16 ct16 : Value} {f16 : Addr}
    (a16 : PySem.W.nsIn K mainGlobals "unit_reason" = some (some (.ref f16))) (l16 : K.lookup f16 = some ⟨oc16, od16, .func (PySem.W.fnOf "unit_reason" "unit_reason" (defArgs s_unit_reason) (defBody s_unit_reason) (defScope s_unit_reason) .none kV16 dc16 pm16 an16 cd16 ct16), sl16⟩) (c16 : PySem.W.codeIn K cd16 "unit_reason" = true) (k16 : PySem.W.keepIn K (.ref f16) = true)
    {od17 an17 : Option Addr} {sl17 : Array (Option Value)} {oc17 kV17 dc17 pm17 cd17 ct17 : Value} {f17 : Addr}
    (a17 : PySem.W.nsIn K mainGlobals "glyph_reason" = some (some (.ref f17))) (l17 : K.lookup f17 = some ⟨oc17, od17, .func (PySem.W.fnOf "glyph_reason" "glyph_reason" (defArgs s_glyph_reason) (defBody s_glyph_reason) (defScope s_glyph_reason) .none kV17 dc17 pm17 an17 cd17 ct17), sl17⟩) (c17 : PySem.W.codeIn K cd17 "glyph_reason" = true) (k17 : PySem.W.keepIn K (.ref f17) = true)
    {od18 an18 : Option Addr} {sl18 : Array (Option Value)} {oc18 kV18 dc18 pm18 cd18 ct18 : Value} {f18 : Addr}
    (a18 : PySem.W.nsIn K mainGlobals "is_part" = some (some (.ref f18))) (l18 : K.lookup f18 = some ⟨oc18, od18, .func (PySem.W.fnOf "is_part" "is_part" (defArgs s_is_part) (defBody s_is_part) (defScope s_is_part) .none kV18 dc18 pm18 an18 cd18 ct18), sl18⟩) (c18 : PySem.W.codeIn K cd18 "is_part" = true) (k18 : PySem.W.keepIn K (.ref f18) = true)
    {od19 an19 : Option Addr} {sl19 : Array (Option Value)} {oc19 kV19 dc19 pm19 cd19 ct19 : Value} {f19 : Addr}
    (a19 : PySem.W.nsIn K mainGlobals "is_anchor" = some (some (.ref f19))) (l19 : K.lookup f19 = some ⟨oc19, od19, .func (PySem.W.fnOf "is_anchor" "is_anchor" (defArgs s_is_anchor) (defBody s_is_anchor) (defScope s_is_anchor) .none kV19 dc19 pm19 an19 cd19 ct19), sl19⟩) (c19 : PySem.W.codeIn K cd19 "is_anchor" = true) (k19 : PySem.W.keepIn K (.ref f19) = true)
    {od20 an20 : Option Addr} {sl20 : Array (Option Value)} {oc20 kV20 dc20 pm20 cd20 ct20 : Value} {f20 : Addr}
    (a20 : PySem.W.nsIn K mainGlobals "is_delta" = some (some (.ref f20))) (l20 : K.lookup f20 = some ⟨oc20, od20, .func (PySem.W.fnOf "is_delta" "is_delta" (defArgs s_is_delta) (defBody s_is_delta) (defScope s_is_delta) .none kV20 dc20 pm20 an20 cd20 ct20), sl20⟩) (c20 : PySem.W.codeIn K cd20 "is_delta" = true) (k20 : PySem.W.keepIn K (.ref f20) = true)
    {od21 an21 : Option Addr} {sl21 : Array (Option Value)} {oc21 kV21 dc21 pm21 cd21 ct21 : Value} {f21 : Addr}
    (a21 : PySem.W.nsIn K mainGlobals "parts_reason" = some (some (.ref f21))) (l21 : K.lookup f21 = some ⟨oc21, od21, .func (PySem.W.fnOf "parts_reason" "parts_reason" (defArgs s_parts_reason) (defBody s_parts_reason) (defScope s_parts_reason) .none kV21 dc21 pm21 an21 cd21 ct21), sl21⟩) (c21 : PySem.W.codeIn K cd21 "parts_reason" = true) (k21 : PySem.W.keepIn K (.ref f21) = true)
    {od22 an22 : Option Addr} {sl22 : Array (Option Value)} {oc22 kV22 dc22 pm22 cd22 ct22 : Value} {f22 : Addr}
    (a22 : PySem.W.nsIn K mainGlobals "chars_reason" = some (some (.ref f22))) (l22 : K.lookup f22 = some ⟨oc22, od22, .func (PySem.W.fnOf "chars_reason" "chars_reason" (defArgs s_chars_reason) (defBody s_chars_reason) (defScope s_chars_reason) .none kV22 dc22 pm22 an22 cd22 ct22), sl22⟩) (c22 : PySem.W.codeIn K cd22 "chars_reason" = true) (k22 : PySem.W.keepIn K (.ref f22) = true)
    {od23 an23 : Option Addr} {sl23 : Array (Option Value)} {oc23 kV23 dc23 pm23 cd23 ct23 : Value} {f23 : Addr}
    (a23 : PySem.W.nsIn K mainGlobals "features_reason" = some (some (.ref f23))) (l23 : K.lookup f23 = some ⟨oc23, od23, .func (PySem.W.fnOf "features_reason" "features_reason" (defArgs s_features_reason) (defBody s_features_reason) (defScope s_features_reason) .none kV23 dc23 pm23 an23 cd23 ct23), sl23⟩) (c23 : PySem.W.codeIn K cd23 "features_reason" = true) (k23 : PySem.W.keepIn K (.ref f23) = true)
    {od24 an24 : Option Addr} {sl24 : Array (Option Value)} {oc24 kV24 dc24 pm24 cd24 ct24 : Value} {f24 : Addr}
    (a24 : PySem.W.nsIn K mainGlobals "axes_reason" = some (some (.ref f24))) (l24 : K.lookup f24 = some ⟨oc24, od24, .func (PySem.W.fnOf "axes_reason" "axes_reason" (defArgs s_axes_reason) (defBody s_axes_reason) (defScope s_axes_reason) .none kV24 dc24 pm24 an24 cd24 ct24), sl24⟩) (c24 : PySem.W.codeIn K cd24 "axes_reason" = true) (k24 : PySem.W.keepIn K (.ref f24) = true)
    {od25 an25 : Option Addr} {sl25 : Array (Option Value)} {oc25 kV25 dc25 pm25 cd25 ct25 : Value} {f25 : Addr}
    (a25 : PySem.W.nsIn K mainGlobals "regions_reason" = some (some (.ref f25))) (l25 : K.lookup f25 = some ⟨oc25, od25, .func (PySem.W.fnOf "regions_reason" "regions_reason" (defArgs s_regions_reason) (defBody s_regions_reason) (defScope s_regions_reason) .none kV25 dc25 pm25 an25 cd25 ct25), sl25⟩) (c25 : PySem.W.codeIn K cd25 "regions_reason" = true) (k25 : PySem.W.keepIn K (.ref f25) = true)
    {od26 an26 : Option Addr} {sl26 : Array (Option Value)} {oc26 kV26 dc26 pm26 cd26 ct26 : Value} {f26 : Addr}
    (a26 : PySem.W.nsIn K mainGlobals "is_tent" = some (some (.ref f26))) (l26 : K.lookup f26 = some ⟨oc26, od26, .func (PySem.W.fnOf "is_tent" "is_tent" (defArgs s_is_tent) (defBody s_is_tent) (defScope s_is_tent) .none kV26 dc26 pm26 an26 cd26 ct26), sl26⟩) (c26 : PySem.W.codeIn K cd26 "is_tent" = true) (k26 : PySem.W.keepIn K (.ref f26) = true)
    {od27 an27 : Option Addr} {sl27 : Array (Option Value)} {oc27 kV27 dc27 pm27 cd27 ct27 : Value} {f27 : Addr}
    (a27 : PySem.W.nsIn K mainGlobals "functions_reason" = some (some (.ref f27))) (l27 : K.lookup f27 = some ⟨oc27, od27, .func (PySem.W.fnOf "functions_reason" "functions_reason" (defArgs s_functions_reason) (defBody s_functions_reason) (defScope s_functions_reason) .none kV27 dc27 pm27 an27 cd27 ct27), sl27⟩) (c27 : PySem.W.codeIn K cd27 "functions_reason" = true) (k27 : PySem.W.keepIn K (.ref f27) = true)
    {od28 an28 : Option Addr} {sl28 : Array (Option Value)} {oc28 kV28 dc28 pm28 cd28 ct28 : Value} {f28 : Addr}
    (a28 : PySem.W.nsIn K mainGlobals "presets_reason" = some (some (.ref f28))) (l28 : K.lookup f28 = some ⟨oc28, od28, .func (PySem.W.fnOf "presets_reason" "presets_reason" (defArgs s_presets_reason) (defBody s_presets_reason) (defScope s_presets_reason) .none kV28 dc28 pm28 an28 cd28 ct28), sl28⟩) (c28 : PySem.W.codeIn K cd28 "presets_reason" = true) (k28 : PySem.W.keepIn K (.ref f28) = true)
    {od29 an29 : Option Addr} {sl29 : Array (Option Value)} {oc29 kV29 dc29 pm29 cd29 ct29 : Value} {f29 : Addr}
    (a29 : PySem.W.nsIn K mainGlobals "copied_glyph" = some (some (.ref f29))) (l29 : K.lookup f29 = some ⟨oc29, od29, .func (PySem.W.fnOf "copied_glyph" "copied_glyph" (defArgs s_copied_glyph) (defBody s_copied_glyph) (defScope s_copied_glyph) .none kV29 dc29 pm29 an29 cd29 ct29), sl29⟩) (c29 : PySem.W.codeIn K cd29 "copied_glyph" = true) (k29 : PySem.W.keepIn K (.ref f29) = true)
    {od30 an30 : Option Addr} {sl30 : Array (Option Value)} {oc30 kV30 dc30 pm30 cd30 ct30 : Value} {f30 : Addr}
    (a30 : PySem.W.nsIn K mainGlobals "copied_rule" = some (some (.ref f30))) (l30 : K.lookup f30 = some ⟨oc30, od30, .func (PySem.W.fnOf "copied_rule" "copied_rule" (defArgs s_copied_rule) (defBody s_copied_rule) (defScope s_copied_rule) .none kV30 dc30 pm30 an30 cd30 ct30), sl30⟩) (c30 : PySem.W.codeIn K cd30 "copied_rule" = true) (k30 : PySem.W.keepIn K (.ref f30) = true)
    {od31 an31 : Option Addr} {sl31 : Array (Option Value)} {oc31 kV31 dc31 pm31 cd31 ct31 : Value} {f31 : Addr}
    (a31 : PySem.W.nsIn K mainGlobals "copied_lookup" = some (some (.ref f31))) (l31 : K.lookup f31 = some ⟨oc31, od31, .func (PySem.W.fnOf "copied_lookup" "copied_lookup" (defArgs s_copied_lookup) (defBody s_copied_lookup) (defScope s_copied_lookup) .none kV31 dc31 pm31 an31 cd31 ct31), sl31⟩) (c31 : PySem.W.codeIn K cd31 "copied_lookup" = true) (k31 : PySem.W.keepIn K (.ref f31) = true)
    {od32 an32 : Option Addr} {sl32 : Array (Option Value)} {oc32 kV32 dc32 pm32 cd32 ct32 : Value} {f32 : Addr}
    (a32 : PySem.W.nsIn K mainGlobals "_law_deck" = some (some (.ref f32))) (l32 : K.lookup f32 = some ⟨oc32, od32, .func (PySem.W.fnOf "_law_deck" "_law_deck" (defArgs s_law_deck) (defBody s_law_deck) (defScope s_law_deck) .none kV32 dc32 pm32 an32 cd32 ct32), sl32⟩) (c32 : PySem.W.codeIn K cd32 "_law_deck" = true) (k32 : PySem.W.keepIn K (.ref f32) = true)
    {od33 an33 : Option Addr} {sl33 : Array (Option Value)} {oc33 kV33 dc33 pm33 cd33 ct33 : Value} {f33 : Addr}
    (a33 : PySem.W.nsIn K mainGlobals "_law_draw" = some (some (.ref f33))) (l33 : K.lookup f33 = some ⟨oc33, od33, .func (PySem.W.fnOf "_law_draw" "_law_draw" (defArgs s_law_draw) (defBody s_law_draw) (defScope s_law_draw) .none kV33 dc33 pm33 an33 cd33 ct33), sl33⟩) (c33 : PySem.W.codeIn K cd33 "_law_draw" = true) (k33 : PySem.W.keepIn K (.ref f33) = true)
    {od34 an34 : Option Addr} {sl34 : Array (Option Value)} {oc34 kV34 dc34 pm34 cd34 ct34 : Value} {f34 : Addr}
    (a34 : PySem.W.nsIn K mainGlobals "_law_same" = some (some (.ref f34))) (l34 : K.lookup f34 = some ⟨oc34, od34, .func (PySem.W.fnOf "_law_same" "_law_same" (defArgs s_law_same) (defBody s_law_same) (defScope s_law_same) .none kV34 dc34 pm34 an34 cd34 ct34), sl34⟩) (c34 : PySem.W.codeIn K cd34 "_law_same" = true) (k34 : PySem.W.keepIn K (.ref f34) = true)
    {od35 an35 : Option Addr} {sl35 : Array (Option Value)} {oc35 kV35 dc35 pm35 cd35 ct35 : Value} {f35 : Addr}
    (a35 : PySem.W.nsIn K mainGlobals "_law_same_list" = some (some (.ref f35))) (l35 : K.lookup f35 = some ⟨oc35, od35, .func (PySem.W.fnOf "_law_same_list" "_law_same_list" (defArgs s_law_same_list) (defBody s_law_same_list) (defScope s_law_same_list) .none kV35 dc35 pm35 an35 cd35 ct35), sl35⟩) (c35 : PySem.W.codeIn K cd35 "_law_same_list" = true) (k35 : PySem.W.keepIn K (.ref f35) = true)
    {od36 an36 : Option Addr} {sl36 : Array (Option Value)} {oc36 kV36 dc36 pm36 cd36 ct36 : Value} {f36 : Addr}
    (a36 : PySem.W.nsIn K mainGlobals "law" = some (some (.ref f36))) (l36 : K.lookup f36 = some ⟨oc36, od36, .func (PySem.W.fnOf "law" "law" (defArgs s_law) (defBody s_law) (defScope s_law) .none kV36 dc36 pm36 an36 cd36 ct36), sl36⟩) (c36 : PySem.W.codeIn K cd36 "law" = true) (k36 : PySem.W.keepIn K (.ref f36) = true)
    {od37 an37 : Option Addr} {sl37 : Array (Option Value)} {oc37 kV37 dc37 pm37 cd37 ct37 : Value} {f37 : Addr} {TT37 : Addr} {od37_ : Option Addr} {sl37_ : Array (Option Value)} {oc37_ : Value} {nn37 : Nat} {tk37_0 : Tok}
    (a37 : PySem.W.nsIn K mainGlobals "ratio" = some (some (.ref f37))) (l37 : K.lookup f37 = some ⟨oc37, od37, .func (PySem.W.fnOf "ratio" "ratio" (defArgs s_ratio) (defBody s_ratio) (defScope s_ratio) (.ref TT37) kV37 dc37 pm37 an37 cd37 ct37), sl37⟩) (c37 : PySem.W.codeIn K cd37 "ratio" = true) (k37 : PySem.W.keepIn K (.ref f37) = true) (t37 : K.lookup TT37 = some ⟨oc37_, od37_, .seq #[.int 1 tk37_0] nn37, sl37_⟩)
    {od38 an38 : Option Addr} {sl38 : Array (Option Value)} {oc38 kV38 dc38 pm38 cd38 ct38 : Value} {f38 : Addr}
    (a38 : PySem.W.nsIn K mainGlobals "add" = some (some (.ref f38))) (l38 : K.lookup f38 = some ⟨oc38, od38, .func (PySem.W.fnOf "add" "add" (defArgs s_add) (defBody s_add) (defScope s_add) .none kV38 dc38 pm38 an38 cd38 ct38), sl38⟩) (c38 : PySem.W.codeIn K cd38 "add" = true) (k38 : PySem.W.keepIn K (.ref f38) = true)
    {od39 an39 : Option Addr} {sl39 : Array (Option Value)} {oc39 kV39 dc39 pm39 cd39 ct39 : Value} {f39 : Addr}
    (a39 : PySem.W.nsIn K mainGlobals "subtract" = some (some (.ref f39))) (l39 : K.lookup f39 = some ⟨oc39, od39, .func (PySem.W.fnOf "subtract" "subtract" (defArgs s_subtract) (defBody s_subtract) (defScope s_subtract) .none kV39 dc39 pm39 an39 cd39 ct39), sl39⟩) (c39 : PySem.W.codeIn K cd39 "subtract" = true) (k39 : PySem.W.keepIn K (.ref f39) = true)
    {od40 an40 : Option Addr} {sl40 : Array (Option Value)} {oc40 kV40 dc40 pm40 cd40 ct40 : Value} {f40 : Addr}
    (a40 : PySem.W.nsIn K mainGlobals "multiply" = some (some (.ref f40))) (l40 : K.lookup f40 = some ⟨oc40, od40, .func (PySem.W.fnOf "multiply" "multiply" (defArgs s_multiply) (defBody s_multiply) (defScope s_multiply) .none kV40 dc40 pm40 an40 cd40 ct40), sl40⟩) (c40 : PySem.W.codeIn K cd40 "multiply" = true) (k40 : PySem.W.keepIn K (.ref f40) = true)
    {od41 an41 : Option Addr} {sl41 : Array (Option Value)} {oc41 kV41 dc41 pm41 cd41 ct41 : Value} {f41 : Addr}
    (a41 : PySem.W.nsIn K mainGlobals "divide" = some (some (.ref f41))) (l41 : K.lookup f41 = some ⟨oc41, od41, .func (PySem.W.fnOf "divide" "divide" (defArgs s_divide) (defBody s_divide) (defScope s_divide) .none kV41 dc41 pm41 an41 cd41 ct41), sl41⟩) (c41 : PySem.W.codeIn K cd41 "divide" = true) (k41 : PySem.W.keepIn K (.ref f41) = true)
    {od42 an42 : Option Addr} {sl42 : Array (Option Value)} {oc42 kV42 dc42 pm42 cd42 ct42 : Value} {f42 : Addr}
    (a42 : PySem.W.nsIn K mainGlobals "compare" = some (some (.ref f42))) (l42 : K.lookup f42 = some ⟨oc42, od42, .func (PySem.W.fnOf "compare" "compare" (defArgs s_compare) (defBody s_compare) (defScope s_compare) .none kV42 dc42 pm42 an42 cd42 ct42), sl42⟩) (c42 : PySem.W.codeIn K cd42 "compare" = true) (k42 : PySem.W.keepIn K (.ref f42) = true)
    {od43 an43 : Option Addr} {sl43 : Array (Option Value)} {oc43 kV43 dc43 pm43 cd43 ct43 : Value} {f43 : Addr}
    (a43 : PySem.W.nsIn K mainGlobals "nearest" = some (some (.ref f43))) (l43 : K.lookup f43 = some ⟨oc43, od43, .func (PySem.W.fnOf "nearest" "nearest" (defArgs s_nearest) (defBody s_nearest) (defScope s_nearest) .none kV43 dc43 pm43 an43 cd43 ct43), sl43⟩) (c43 : PySem.W.codeIn K cd43 "nearest" = true) (k43 : PySem.W.keepIn K (.ref f43) = true)
    {od44 an44 : Option Addr} {sl44 : Array (Option Value)} {oc44 kV44 dc44 pm44 cd44 ct44 : Value} {f44 : Addr}
    (a44 : PySem.W.nsIn K mainGlobals "shares" = some (some (.ref f44))) (l44 : K.lookup f44 = some ⟨oc44, od44, .func (PySem.W.fnOf "shares" "shares" (defArgs s_shares) (defBody s_shares) (defScope s_shares) .none kV44 dc44 pm44 an44 cd44 ct44), sl44⟩) (c44 : PySem.W.codeIn K cd44 "shares" = true) (k44 : PySem.W.keepIn K (.ref f44) = true)
    {od45 an45 : Option Addr} {sl45 : Array (Option Value)} {oc45 kV45 dc45 pm45 cd45 ct45 : Value} {f45 : Addr}
    (a45 : PySem.W.nsIn K mainGlobals "share_of" = some (some (.ref f45))) (l45 : K.lookup f45 = some ⟨oc45, od45, .func (PySem.W.fnOf "share_of" "share_of" (defArgs s_share_of) (defBody s_share_of) (defScope s_share_of) .none kV45 dc45 pm45 an45 cd45 ct45), sl45⟩) (c45 : PySem.W.codeIn K cd45 "share_of" = true) (k45 : PySem.W.keepIn K (.ref f45) = true)
    {od46 an46 : Option Addr} {sl46 : Array (Option Value)} {oc46 kV46 dc46 pm46 cd46 ct46 : Value} {f46 : Addr}
    (a46 : PySem.W.nsIn K mainGlobals "factor" = some (some (.ref f46))) (l46 : K.lookup f46 = some ⟨oc46, od46, .func (PySem.W.fnOf "factor" "factor" (defArgs s_factor) (defBody s_factor) (defScope s_factor) .none kV46 dc46 pm46 an46 cd46 ct46), sl46⟩) (c46 : PySem.W.codeIn K cd46 "factor" = true) (k46 : PySem.W.keepIn K (.ref f46) = true)
    {od47 an47 : Option Addr} {sl47 : Array (Option Value)} {oc47 kV47 dc47 pm47 cd47 ct47 : Value} {f47 : Addr}
    (a47 : PySem.W.nsIn K mainGlobals "factor_of_tent" = some (some (.ref f47))) (l47 : K.lookup f47 = some ⟨oc47, od47, .func (PySem.W.fnOf "factor_of_tent" "factor_of_tent" (defArgs s_factor_of_tent) (defBody s_factor_of_tent) (defScope s_factor_of_tent) .none kV47 dc47 pm47 an47 cd47 ct47), sl47⟩) (c47 : PySem.W.codeIn K cd47 "factor_of_tent" = true) (k47 : PySem.W.keepIn K (.ref f47) = true)
    {od48 an48 : Option Addr} {sl48 : Array (Option Value)} {oc48 kV48 dc48 pm48 cd48 ct48 : Value} {f48 : Addr}
    (a48 : PySem.W.nsIn K mainGlobals "glyph_at" = some (some (.ref f48))) (l48 : K.lookup f48 = some ⟨oc48, od48, .func (PySem.W.fnOf "glyph_at" "glyph_at" (defArgs s_glyph_at) (defBody s_glyph_at) (defScope s_glyph_at) .none kV48 dc48 pm48 an48 cd48 ct48), sl48⟩) (c48 : PySem.W.codeIn K cd48 "glyph_at" = true) (k48 : PySem.W.keepIn K (.ref f48) = true)
    {od49 an49 : Option Addr} {sl49 : Array (Option Value)} {oc49 kV49 dc49 pm49 cd49 ct49 : Value} {f49 : Addr}
    (a49 : PySem.W.nsIn K mainGlobals "factors_of" = some (some (.ref f49))) (l49 : K.lookup f49 = some ⟨oc49, od49, .func (PySem.W.fnOf "factors_of" "factors_of" (defArgs s_factors_of) (defBody s_factors_of) (defScope s_factors_of) .none kV49 dc49 pm49 an49 cd49 ct49), sl49⟩) (c49 : PySem.W.codeIn K cd49 "factors_of" = true) (k49 : PySem.W.keepIn K (.ref f49) = true)
    {od50 an50 : Option Addr} {sl50 : Array (Option Value)} {oc50 kV50 dc50 pm50 cd50 ct50 : Value} {f50 : Addr}
    (a50 : PySem.W.nsIn K mainGlobals "changed_glyph" = some (some (.ref f50))) (l50 : K.lookup f50 = some ⟨oc50, od50, .func (PySem.W.fnOf "changed_glyph" "changed_glyph" (defArgs s_changed_glyph) (defBody s_changed_glyph) (defScope s_changed_glyph) .none kV50 dc50 pm50 an50 cd50 ct50), sl50⟩) (c50 : PySem.W.codeIn K cd50 "changed_glyph" = true) (k50 : PySem.W.keepIn K (.ref f50) = true)
    {od51 an51 : Option Addr} {sl51 : Array (Option Value)} {oc51 kV51 dc51 pm51 cd51 ct51 : Value} {f51 : Addr}
    (a51 : PySem.W.nsIn K mainGlobals "changes_of" = some (some (.ref f51))) (l51 : K.lookup f51 = some ⟨oc51, od51, .func (PySem.W.fnOf "changes_of" "changes_of" (defArgs s_changes_of) (defBody s_changes_of) (defScope s_changes_of) .none kV51 dc51 pm51 an51 cd51 ct51), sl51⟩) (c51 : PySem.W.codeIn K cd51 "changes_of" = true) (k51 : PySem.W.keepIn K (.ref f51) = true)
    {od52 an52 : Option Addr} {sl52 : Array (Option Value)} {oc52 kV52 dc52 pm52 cd52 ct52 : Value} {f52 : Addr}
    (a52 : PySem.W.nsIn K mainGlobals "changed_outline" = some (some (.ref f52))) (l52 : K.lookup f52 = some ⟨oc52, od52, .func (PySem.W.fnOf "changed_outline" "changed_outline" (defArgs s_changed_outline) (defBody s_changed_outline) (defScope s_changed_outline) .none kV52 dc52 pm52 an52 cd52 ct52), sl52⟩) (c52 : PySem.W.codeIn K cd52 "changed_outline" = true) (k52 : PySem.W.keepIn K (.ref f52) = true)
    {od53 an53 : Option Addr} {sl53 : Array (Option Value)} {oc53 kV53 dc53 pm53 cd53 ct53 : Value} {f53 : Addr}
    (a53 : PySem.W.nsIn K mainGlobals "is_near" = some (some (.ref f53))) (l53 : K.lookup f53 = some ⟨oc53, od53, .func (PySem.W.fnOf "is_near" "is_near" (defArgs s_is_near) (defBody s_is_near) (defScope s_is_near) .none kV53 dc53 pm53 an53 cd53 ct53), sl53⟩) (c53 : PySem.W.codeIn K cd53 "is_near" = true) (k53 : PySem.W.keepIn K (.ref f53) = true)
    {od54 an54 : Option Addr} {sl54 : Array (Option Value)} {oc54 kV54 dc54 pm54 cd54 ct54 : Value} {f54 : Addr}
    (a54 : PySem.W.nsIn K mainGlobals "at_place" = some (some (.ref f54))) (l54 : K.lookup f54 = some ⟨oc54, od54, .func (PySem.W.fnOf "at_place" "at_place" (defArgs s_at_place) (defBody s_at_place) (defScope s_at_place) .none kV54 dc54 pm54 an54 cd54 ct54), sl54⟩) (c54 : PySem.W.codeIn K cd54 "at_place" = true) (k54 : PySem.W.keepIn K (.ref f54) = true)
    {od55 an55 : Option Addr} {sl55 : Array (Option Value)} {oc55 kV55 dc55 pm55 cd55 ct55 : Value} {f55 : Addr}
    (a55 : PySem.W.nsIn K mainGlobals "_law_gcd" = some (some (.ref f55))) (l55 : K.lookup f55 = some ⟨oc55, od55, .func (PySem.W.fnOf "_law_gcd" "_law_gcd" (defArgs s_law_gcd) (defBody s_law_gcd) (defScope s_law_gcd) .none kV55 dc55 pm55 an55 cd55 ct55), sl55⟩) (c55 : PySem.W.codeIn K cd55 "_law_gcd" = true) (k55 : PySem.W.keepIn K (.ref f55) = true)
    {od56 an56 : Option Addr} {sl56 : Array (Option Value)} {oc56 kV56 dc56 pm56 cd56 ct56 : Value} {f56 : Addr}
    (a56 : PySem.W.nsIn K mainGlobals "_law_ratio" = some (some (.ref f56))) (l56 : K.lookup f56 = some ⟨oc56, od56, .func (PySem.W.fnOf "_law_ratio" "_law_ratio" (defArgs s_law_ratio) (defBody s_law_ratio) (defScope s_law_ratio) .none kV56 dc56 pm56 an56 cd56 ct56), sl56⟩) (c56 : PySem.W.codeIn K cd56 "_law_ratio" = true) (k56 : PySem.W.keepIn K (.ref f56) = true)
    {od57 an57 : Option Addr} {sl57 : Array (Option Value)} {oc57 kV57 dc57 pm57 cd57 ct57 : Value} {f57 : Addr}
    (a57 : PySem.W.nsIn K mainGlobals "_law_axes" = some (some (.ref f57))) (l57 : K.lookup f57 = some ⟨oc57, od57, .func (PySem.W.fnOf "_law_axes" "_law_axes" (defArgs s_law_axes) (defBody s_law_axes) (defScope s_law_axes) .none kV57 dc57 pm57 an57 cd57 ct57), sl57⟩) (c57 : PySem.W.codeIn K cd57 "_law_axes" = true) (k57 : PySem.W.keepIn K (.ref f57) = true)
    {od58 an58 : Option Addr} {sl58 : Array (Option Value)} {oc58 kV58 dc58 pm58 cd58 ct58 : Value} {f58 : Addr}
    (a58 : PySem.W.nsIn K mainGlobals "_law_place" = some (some (.ref f58))) (l58 : K.lookup f58 = some ⟨oc58, od58, .func (PySem.W.fnOf "_law_place" "_law_place" (defArgs s_law_place) (defBody s_law_place) (defScope s_law_place) .none kV58 dc58 pm58 an58 cd58 ct58), sl58⟩) (c58 : PySem.W.codeIn K cd58 "_law_place" = true) (k58 : PySem.W.keepIn K (.ref f58) = true)
    {od59 an59 : Option Addr} {sl59 : Array (Option Value)} {oc59 kV59 dc59 pm59 cd59 ct59 : Value} {f59 : Addr}
    (a59 : PySem.W.nsIn K mainGlobals "_law_share" = some (some (.ref f59))) (l59 : K.lookup f59 = some ⟨oc59, od59, .func (PySem.W.fnOf "_law_share" "_law_share" (defArgs s_law_share) (defBody s_law_share) (defScope s_law_share) .none kV59 dc59 pm59 an59 cd59 ct59), sl59⟩) (c59 : PySem.W.codeIn K cd59 "_law_share" = true) (k59 : PySem.W.keepIn K (.ref f59) = true)
    {od60 an60 : Option Addr} {sl60 : Array (Option Value)} {oc60 kV60 dc60 pm60 cd60 ct60 : Value} {f60 : Addr}
    (a60 : PySem.W.nsIn K mainGlobals "_law_kind" = some (some (.ref f60))) (l60 : K.lookup f60 = some ⟨oc60, od60, .func (PySem.W.fnOf "_law_kind" "_law_kind" (defArgs s_law_kind) (defBody s_law_kind) (defScope s_law_kind) .none kV60 dc60 pm60 an60 cd60 ct60), sl60⟩) (c60 : PySem.W.codeIn K cd60 "_law_kind" = true) (k60 : PySem.W.keepIn K (.ref f60) = true)
    {od61 an61 : Option Addr} {sl61 : Array (Option Value)} {oc61 kV61 dc61 pm61 cd61 ct61 : Value} {f61 : Addr}
    (a61 : PySem.W.nsIn K mainGlobals "_law_asked" = some (some (.ref f61))) (l61 : K.lookup f61 = some ⟨oc61, od61, .func (PySem.W.fnOf "_law_asked" "_law_asked" (defArgs s_law_asked) (defBody s_law_asked) (defScope s_law_asked) .none kV61 dc61 pm61 an61 cd61 ct61), sl61⟩) (c61 : PySem.W.codeIn K cd61 "_law_asked" = true) (k61 : PySem.W.keepIn K (.ref f61) = true)
    (z_abs : PySem.W.nsIn K mainGlobals "abs" = some none)
    (z_all : PySem.W.nsIn K mainGlobals "all" = some none)
    (z_bool : PySem.W.nsIn K mainGlobals "bool" = some none)
    (z_enumerate : PySem.W.nsIn K mainGlobals "enumerate" = some none)
    (z_int : PySem.W.nsIn K mainGlobals "int" = some none)
    (z_isinstance : PySem.W.nsIn K mainGlobals "isinstance" = some none)
    (z_len : PySem.W.nsIn K mainGlobals "len" = some none)
    (z_list : PySem.W.nsIn K mainGlobals "list" = some none)
    (z_range : PySem.W.nsIn K mainGlobals "range" = some none)
    (z_set : PySem.W.nsIn K mainGlobals "set" = some none)
    (z_str : PySem.W.nsIn K mainGlobals "str" = some none)
    (z_sum : PySem.W.nsIn K mainGlobals "sum" = some none)
    (z_tuple : PySem.W.nsIn K mainGlobals "tuple" = some none)
    (z_zip : PySem.W.nsIn K mainGlobals "zip" = some none)
    {gt_ADVANCE : Tok} (g_ADVANCE : PySem.W.nsIn K mainGlobals "ADVANCE" = some (some (.int (-1) gt_ADVANCE)))
    {gt_DEEPEST : Tok} (g_DEEPEST : PySem.W.nsIn K mainGlobals "DEEPEST" = some (some (.int (4) gt_DEEPEST)))
    {gt_FARTHEST : Tok} (g_FARTHEST : PySem.W.nsIn K mainGlobals "FARTHEST" = some (some (.int (16384) gt_FARTHEST)))
    {gt_GREATEST_NUMBER : Tok} (g_GREATEST_NUMBER : PySem.W.nsIn K mainGlobals "GREATEST_NUMBER" = some (some (.int (2147483647) gt_GREATEST_NUMBER)))
    {gt_LEAST_NUMBER : Tok} (g_LEAST_NUMBER : PySem.W.nsIn K mainGlobals "LEAST_NUMBER" = some (some (.int (-2147483648) gt_LEAST_NUMBER)))
    {gt_LEAST_OF_CONTOUR : Tok} (g_LEAST_OF_CONTOUR : PySem.W.nsIn K mainGlobals "LEAST_OF_CONTOUR" = some (some (.int (2) gt_LEAST_OF_CONTOUR)))
    {gt_MOST_CONTOURS : Tok} (g_MOST_CONTOURS : PySem.W.nsIn K mainGlobals "MOST_CONTOURS" = some (some (.int (40) gt_MOST_CONTOURS)))
    {gt_MOST_POINTS : Tok} (g_MOST_POINTS : PySem.W.nsIn K mainGlobals "MOST_POINTS" = some (some (.int (200) gt_MOST_POINTS)))
    {gt_WHOLE : Tok} (g_WHOLE : PySem.W.nsIn K mainGlobals "WHOLE" = some (some (.int (64) gt_WHOLE)))
    (g_gcd : PySem.W.nsIn K mainGlobals "gcd" = some (some (.builtin "math.gcd")))
    {C_FleuronError : Addr} (g_FleuronError : PySem.W.nsIn K mainGlobals "FleuronError" = some (some (.ref C_FleuronError))) (sg_FleuronError : PySem.W.specialIn K (.ref C_FleuronError) "__getattribute__" = some (some (.builtin "type.__getattribute__"))) (ty_FleuronError : PySem.W.typeIn K (.ref C_FleuronError) = some (.type "type")) (rd_FleuronError : PySem.W.readsIn K C_FleuronError (.type "type") = true) (fc_FleuronError : PySem.W.findCls K (.ref C_FleuronError) (.type "type") "__init__" = some (.val (.builtin "ValueError.__init__"))) (be_FleuronError : PySem.W.subIn K (.ref C_FleuronError) (.type "BaseException") = some true) (hd_FleuronError : PySem.W.hasDictIn K C_FleuronError = true) (hn_ : PySem.W.specialIn K (.builtin "object.__class__") "__get__" = some (some (.builtin "getset_descriptor.__get__"))) (ht_ : PySem.W.takesIn K (.builtin "object.__class__") = some true) {C_ZeroDivisor N_ZeroDivisor fI_ZeroDivisor : Addr} {nm_ZeroDivisor qn_ZeroDivisor : Str} {bs_ZeroDivisor : List Value} {sn_ZeroDivisor : List Str} {su_ZeroDivisor : List Value} {ab_ZeroDivisor : Bool} {co_ZeroDivisor : Option Bool} {dd_ZeroDivisor : Option Addr} {m0_ZeroDivisor m1_ZeroDivisor m2_ZeroDivisor m3_ZeroDivisor m5_ZeroDivisor : Option Value} {oI_ZeroDivisor kI_ZeroDivisor dI_ZeroDivisor pI_ZeroDivisor cI_ZeroDivisor tI_ZeroDivisor : Value} {odI_ZeroDivisor anI_ZeroDivisor : Option Addr} {slI_ZeroDivisor : Array (Option Value)} (g_ZeroDivisor : PySem.W.nsIn K mainGlobals "ZeroDivisor" = some (some (.ref C_ZeroDivisor))) (xL_ZeroDivisor : K.lookup C_ZeroDivisor = some (excClassObj nm_ZeroDivisor qn_ZeroDivisor C_ZeroDivisor N_ZeroDivisor bs_ZeroDivisor [.ref C_FleuronError, .type "ValueError", .type "Exception", .type "BaseException", .type "object"] true sn_ZeroDivisor su_ZeroDivisor ab_ZeroDivisor co_ZeroDivisor dd_ZeroDivisor m0_ZeroDivisor m1_ZeroDivisor m2_ZeroDivisor m3_ZeroDivisor m5_ZeroDivisor "ValueError.__new__")) (sa_ZeroDivisor : PySem.W.findIn K (.ref C_ZeroDivisor) "__setattr__" = some (some (.builtin "object.__setattr__"))) (be_ZeroDivisor : PySem.W.subIn K (.ref C_ZeroDivisor) (.type "BaseException") = some true) (ty_ZeroDivisor : PySem.W.typeIn K (.ref C_ZeroDivisor) = some (.type "type")) (kC_ZeroDivisor : PySem.W.keepIn K (.ref C_ZeroDivisor) = true) (ga_ZeroDivisor : PySem.W.findIn K (.ref C_ZeroDivisor) "__getattribute__" = some (some (.builtin "BaseException.__getattribute__"))) (gg_ZeroDivisor : PySem.W.findIn K (.ref C_ZeroDivisor) "__getattr__" = some none) (hd_ZeroDivisor : PySem.W.hasDictIn K C_ZeroDivisor = true) (cl_ZeroDivisor : PySem.W.findIn K (.ref C_ZeroDivisor) "__class__" = some (some (.builtin "object.__class__"))) (mo_ZeroDivisor : PySem.W.mroIn K C_ZeroDivisor (.type "object") = some true) (in_ZeroDivisor : PySem.W.findIn K (.ref C_ZeroDivisor) "__init__" = some (some (.ref fI_ZeroDivisor))) (tf_ZeroDivisor : PySem.W.typeIn K (.ref fI_ZeroDivisor) = some (.type "function")) (li_ZeroDivisor : K.lookup fI_ZeroDivisor = some ⟨oI_ZeroDivisor, odI_ZeroDivisor, .func (PySem.W.fnOf "__init__" "ZeroDivisor.__init__" (defArgs s_ZeroDivisor) (defBody s_ZeroDivisor) (defScope s_ZeroDivisor) .none kI_ZeroDivisor dI_ZeroDivisor pI_ZeroDivisor anI_ZeroDivisor cI_ZeroDivisor tI_ZeroDivisor), slI_ZeroDivisor⟩) (ci_ZeroDivisor : PySem.W.codeIn K cI_ZeroDivisor "ZeroDivisor.__init__" = true) (ki_ZeroDivisor : PySem.W.keepIn K (.ref fI_ZeroDivisor) = true) (sb_ZeroDivisor : PySem.W.subIn K (.ref C_ZeroDivisor) (.ref C_FleuronError) = some true) {C_InvalidPlace N_InvalidPlace fI_InvalidPlace : Addr} {nm_InvalidPlace qn_InvalidPlace : Str} {bs_InvalidPlace : List Value} {sn_InvalidPlace : List Str} {su_InvalidPlace : List Value} {ab_InvalidPlace : Bool} {co_InvalidPlace : Option Bool} {dd_InvalidPlace : Option Addr} {m0_InvalidPlace m1_InvalidPlace m2_InvalidPlace m3_InvalidPlace m5_InvalidPlace : Option Value} {oI_InvalidPlace kI_InvalidPlace dI_InvalidPlace pI_InvalidPlace cI_InvalidPlace tI_InvalidPlace : Value} {odI_InvalidPlace anI_InvalidPlace : Option Addr} {slI_InvalidPlace : Array (Option Value)} (g_InvalidPlace : PySem.W.nsIn K mainGlobals "InvalidPlace" = some (some (.ref C_InvalidPlace))) (xL_InvalidPlace : K.lookup C_InvalidPlace = some (excClassObj nm_InvalidPlace qn_InvalidPlace C_InvalidPlace N_InvalidPlace bs_InvalidPlace [.ref C_FleuronError, .type "ValueError", .type "Exception", .type "BaseException", .type "object"] true sn_InvalidPlace su_InvalidPlace ab_InvalidPlace co_InvalidPlace dd_InvalidPlace m0_InvalidPlace m1_InvalidPlace m2_InvalidPlace m3_InvalidPlace m5_InvalidPlace "ValueError.__new__")) (sa_InvalidPlace : PySem.W.findIn K (.ref C_InvalidPlace) "__setattr__" = some (some (.builtin "object.__setattr__"))) (be_InvalidPlace : PySem.W.subIn K (.ref C_InvalidPlace) (.type "BaseException") = some true) (ty_InvalidPlace : PySem.W.typeIn K (.ref C_InvalidPlace) = some (.type "type")) (kC_InvalidPlace : PySem.W.keepIn K (.ref C_InvalidPlace) = true) (ga_InvalidPlace : PySem.W.findIn K (.ref C_InvalidPlace) "__getattribute__" = some (some (.builtin "BaseException.__getattribute__"))) (gg_InvalidPlace : PySem.W.findIn K (.ref C_InvalidPlace) "__getattr__" = some none) (hd_InvalidPlace : PySem.W.hasDictIn K C_InvalidPlace = true) (cl_InvalidPlace : PySem.W.findIn K (.ref C_InvalidPlace) "__class__" = some (some (.builtin "object.__class__"))) (mo_InvalidPlace : PySem.W.mroIn K C_InvalidPlace (.type "object") = some true) (in_InvalidPlace : PySem.W.findIn K (.ref C_InvalidPlace) "__init__" = some (some (.ref fI_InvalidPlace))) (tf_InvalidPlace : PySem.W.typeIn K (.ref fI_InvalidPlace) = some (.type "function")) (li_InvalidPlace : K.lookup fI_InvalidPlace = some ⟨oI_InvalidPlace, odI_InvalidPlace, .func (PySem.W.fnOf "__init__" "InvalidPlace.__init__" (defArgs s_InvalidPlace) (defBody s_InvalidPlace) (defScope s_InvalidPlace) .none kI_InvalidPlace dI_InvalidPlace pI_InvalidPlace anI_InvalidPlace cI_InvalidPlace tI_InvalidPlace), slI_InvalidPlace⟩) (ci_InvalidPlace : PySem.W.codeIn K cI_InvalidPlace "InvalidPlace.__init__" = true) (ki_InvalidPlace : PySem.W.keepIn K (.ref fI_InvalidPlace) = true) (sb_InvalidPlace : PySem.W.subIn K (.ref C_InvalidPlace) (.ref C_FleuronError) = some true) {C_UnknownGlyph N_UnknownGlyph fI_UnknownGlyph : Addr} {nm_UnknownGlyph qn_UnknownGlyph : Str} {bs_UnknownGlyph : List Value} {sn_UnknownGlyph : List Str} {su_UnknownGlyph : List Value} {ab_UnknownGlyph : Bool} {co_UnknownGlyph : Option Bool} {dd_UnknownGlyph : Option Addr} {m0_UnknownGlyph m1_UnknownGlyph m2_UnknownGlyph m3_UnknownGlyph m5_UnknownGlyph : Option Value} {oI_UnknownGlyph kI_UnknownGlyph dI_UnknownGlyph pI_UnknownGlyph cI_UnknownGlyph tI_UnknownGlyph : Value} {odI_UnknownGlyph anI_UnknownGlyph : Option Addr} {slI_UnknownGlyph : Array (Option Value)} (g_UnknownGlyph : PySem.W.nsIn K mainGlobals "UnknownGlyph" = some (some (.ref C_UnknownGlyph))) (xL_UnknownGlyph : K.lookup C_UnknownGlyph = some (excClassObj nm_UnknownGlyph qn_UnknownGlyph C_UnknownGlyph N_UnknownGlyph bs_UnknownGlyph [.ref C_FleuronError, .type "ValueError", .type "Exception", .type "BaseException", .type "object"] true sn_UnknownGlyph su_UnknownGlyph ab_UnknownGlyph co_UnknownGlyph dd_UnknownGlyph m0_UnknownGlyph m1_UnknownGlyph m2_UnknownGlyph m3_UnknownGlyph m5_UnknownGlyph "ValueError.__new__")) (sa_UnknownGlyph : PySem.W.findIn K (.ref C_UnknownGlyph) "__setattr__" = some (some (.builtin "object.__setattr__"))) (be_UnknownGlyph : PySem.W.subIn K (.ref C_UnknownGlyph) (.type "BaseException") = some true) (ty_UnknownGlyph : PySem.W.typeIn K (.ref C_UnknownGlyph) = some (.type "type")) (kC_UnknownGlyph : PySem.W.keepIn K (.ref C_UnknownGlyph) = true) (hd_UnknownGlyph : PySem.W.hasDictIn K C_UnknownGlyph = true) (fn_UnknownGlyph : PySem.W.findIn K (.ref C_UnknownGlyph) "number" = some none) (ga_UnknownGlyph : PySem.W.findIn K (.ref C_UnknownGlyph) "__getattribute__" = some (some (.builtin "BaseException.__getattribute__"))) (gg_UnknownGlyph : PySem.W.findIn K (.ref C_UnknownGlyph) "__getattr__" = some none) (in_UnknownGlyph : PySem.W.findIn K (.ref C_UnknownGlyph) "__init__" = some (some (.ref fI_UnknownGlyph))) (tf_UnknownGlyph : PySem.W.typeIn K (.ref fI_UnknownGlyph) = some (.type "function")) (li_UnknownGlyph : K.lookup fI_UnknownGlyph = some ⟨oI_UnknownGlyph, odI_UnknownGlyph, .func (PySem.W.fnOf "__init__" "UnknownGlyph.__init__" (defArgs s_UnknownGlyph) (defBody s_UnknownGlyph) (defScope s_UnknownGlyph) .none kI_UnknownGlyph dI_UnknownGlyph pI_UnknownGlyph anI_UnknownGlyph cI_UnknownGlyph tI_UnknownGlyph), slI_UnknownGlyph⟩) (ci_UnknownGlyph : PySem.W.codeIn K cI_UnknownGlyph "UnknownGlyph.__init__" = true) (ki_UnknownGlyph : PySem.W.keepIn K (.ref fI_UnknownGlyph) = true) {C_OutOfRange N_OutOfRange fI_OutOfRange : Addr} {nm_OutOfRange qn_OutOfRange : Str} {bs_OutOfRange : List Value} {sn_OutOfRange : List Str} {su_OutOfRange : List Value} {ab_OutOfRange : Bool} {co_OutOfRange : Option Bool} {dd_OutOfRange : Option Addr} {m0_OutOfRange m1_OutOfRange m2_OutOfRange m3_OutOfRange m5_OutOfRange : Option Value} {oI_OutOfRange kI_OutOfRange dI_OutOfRange pI_OutOfRange cI_OutOfRange tI_OutOfRange : Value} {odI_OutOfRange anI_OutOfRange : Option Addr} {slI_OutOfRange : Array (Option Value)} (g_OutOfRange : PySem.W.nsIn K mainGlobals "OutOfRange" = some (some (.ref C_OutOfRange))) (xL_OutOfRange : K.lookup C_OutOfRange = some (excClassObj nm_OutOfRange qn_OutOfRange C_OutOfRange N_OutOfRange bs_OutOfRange [.ref C_FleuronError, .type "ValueError", .type "Exception", .type "BaseException", .type "object"] true sn_OutOfRange su_OutOfRange ab_OutOfRange co_OutOfRange dd_OutOfRange m0_OutOfRange m1_OutOfRange m2_OutOfRange m3_OutOfRange m5_OutOfRange "ValueError.__new__")) (sa_OutOfRange : PySem.W.findIn K (.ref C_OutOfRange) "__setattr__" = some (some (.builtin "object.__setattr__"))) (be_OutOfRange : PySem.W.subIn K (.ref C_OutOfRange) (.type "BaseException") = some true) (ty_OutOfRange : PySem.W.typeIn K (.ref C_OutOfRange) = some (.type "type")) (kC_OutOfRange : PySem.W.keepIn K (.ref C_OutOfRange) = true) (hd_OutOfRange : PySem.W.hasDictIn K C_OutOfRange = true) (fn_OutOfRange : PySem.W.findIn K (.ref C_OutOfRange) "number" = some none) (ga_OutOfRange : PySem.W.findIn K (.ref C_OutOfRange) "__getattribute__" = some (some (.builtin "BaseException.__getattribute__"))) (gg_OutOfRange : PySem.W.findIn K (.ref C_OutOfRange) "__getattr__" = some none) (in_OutOfRange : PySem.W.findIn K (.ref C_OutOfRange) "__init__" = some (some (.ref fI_OutOfRange))) (tf_OutOfRange : PySem.W.typeIn K (.ref fI_OutOfRange) = some (.type "function")) (li_OutOfRange : K.lookup fI_OutOfRange = some ⟨oI_OutOfRange, odI_OutOfRange, .func (PySem.W.fnOf "__init__" "OutOfRange.__init__" (defArgs s_OutOfRange) (defBody s_OutOfRange) (defScope s_OutOfRange) .none kI_OutOfRange dI_OutOfRange pI_OutOfRange anI_OutOfRange cI_OutOfRange tI_OutOfRange), slI_OutOfRange⟩) (ci_OutOfRange : PySem.W.codeIn K cI_OutOfRange "OutOfRange.__init__" = true) (ki_OutOfRange : PySem.W.keepIn K (.ref fI_OutOfRange) = true) (cl_UnknownGlyph : PySem.W.findIn K (.ref C_UnknownGlyph) "__class__" = some (some (.builtin "object.__class__"))) (mo_UnknownGlyph : PySem.W.mroIn K C_UnknownGlyph (.type "object") = some true) (sb_UnknownGlyph : PySem.W.subIn K (.ref C_UnknownGlyph) (.ref C_FleuronError) = some true) (kb_InvalidPlace_UnknownGlyph : PySem.W.subIn K (.ref C_InvalidPlace) (.ref C_UnknownGlyph) = some false) (sx_UnknownGlyph : PySem.W.subIn K (.ref C_UnknownGlyph) (.ref C_UnknownGlyph) = some true) (kb_UnknownGlyph_InvalidPlace : PySem.W.subIn K (.ref C_UnknownGlyph) (.ref C_InvalidPlace) = some false) (sx_InvalidPlace : PySem.W.subIn K (.ref C_InvalidPlace) (.ref C_InvalidPlace) = some true) {C_Glyph fI_Glyph D_Glyph : Addr} {oI_Glyph dI_Glyph pI_Glyph cI_Glyph tI_Glyph : Value} {odI_Glyph anI_Glyph : Option Addr} {slI_Glyph : Array (Option Value)} (g_Glyph : PySem.W.nsIn K mainGlobals "Glyph" = some (some (.ref C_Glyph))) (pg_Glyph : PySem.W.plainGet K C_Glyph Str.empty = true) (hd_Glyph : PySem.W.hasDictIn K C_Glyph = true) (po_Glyph : PySem.W.plainOver K C_Glyph = true) (sa_Glyph : PySem.W.findIn K (.ref C_Glyph) "__setattr__" = some (some (.builtin "object.__setattr__"))) (mk_Glyph : PySem.W.makesIn K C_Glyph = true) (in_Glyph : PySem.W.findIn K (.ref C_Glyph) "__init__" = some (some (.ref fI_Glyph))) (fn_Glyph : PySem.W.isFn K (.ref fI_Glyph) = true) (kc_Glyph : PySem.W.keepIn K (.ref C_Glyph) = true) (li_Glyph : K.lookup fI_Glyph = some ⟨oI_Glyph, odI_Glyph, .func (PySem.W.fnOf "__init__" "Glyph.__init__" (defArgs s_Glyph) (defBody s_Glyph) (defScope s_Glyph) .none (.ref D_Glyph) dI_Glyph pI_Glyph anI_Glyph cI_Glyph tI_Glyph), slI_Glyph⟩) (ci_Glyph : PySem.W.codeIn K cI_Glyph "Glyph.__init__" = true) (ki_Glyph : PySem.W.keepIn K (.ref fI_Glyph) = true) {e_Glyph_parts : Addr} {oe_Glyph_parts : Option Addr} {ne_Glyph_parts : Nat} {se_Glyph_parts : Array (Option Value)} (kd_Glyph_parts : PySem.W.nsIn K D_Glyph "parts" = some (some (.ref e_Glyph_parts))) (em_Glyph_parts : K.lookup e_Glyph_parts = some ⟨.type "tuple", oe_Glyph_parts, .seq #[] ne_Glyph_parts, se_Glyph_parts⟩) {e_Glyph_anchors : Addr} {oe_Glyph_anchors : Option Addr} {ne_Glyph_anchors : Nat} {se_Glyph_anchors : Array (Option Value)} (kd_Glyph_anchors : PySem.W.nsIn K D_Glyph "anchors" = some (some (.ref e_Glyph_anchors))) (em_Glyph_anchors : K.lookup e_Glyph_anchors = some ⟨.type "tuple", oe_Glyph_anchors, .seq #[] ne_Glyph_anchors, se_Glyph_anchors⟩) (kd_Glyph_mark : PySem.W.nsIn K D_Glyph "mark" = some (some (.bool false))) {e_Glyph_deltas : Addr} {oe_Glyph_deltas : Option Addr} {ne_Glyph_deltas : Nat} {se_Glyph_deltas : Array (Option Value)} (kd_Glyph_deltas : PySem.W.nsIn K D_Glyph "deltas" = some (some (.ref e_Glyph_deltas))) (em_Glyph_deltas : K.lookup e_Glyph_deltas = some ⟨.type "tuple", oe_Glyph_deltas, .seq #[] ne_Glyph_deltas, se_Glyph_deltas⟩) {e_Glyph_hint : Addr} {oe_Glyph_hint : Option Addr} {ne_Glyph_hint : Nat} {se_Glyph_hint : Array (Option Value)} (kd_Glyph_hint : PySem.W.nsIn K D_Glyph "hint" = some (some (.ref e_Glyph_hint))) (em_Glyph_hint : K.lookup e_Glyph_hint = some ⟨.type "tuple", oe_Glyph_hint, .seq #[] ne_Glyph_hint, se_Glyph_hint⟩) (na_Glyph_advance : PySem.W.findIn K (.ref C_Glyph) "advance" = some none) (na_Glyph_outline : PySem.W.findIn K (.ref C_Glyph) "outline" = some none) (na_Glyph_parts : PySem.W.findIn K (.ref C_Glyph) "parts" = some none) (na_Glyph_anchors : PySem.W.findIn K (.ref C_Glyph) "anchors" = some none) (na_Glyph_mark : PySem.W.findIn K (.ref C_Glyph) "mark" = some none) (na_Glyph_deltas : PySem.W.findIn K (.ref C_Glyph) "deltas" = some none) (na_Glyph_hint : PySem.W.findIn K (.ref C_Glyph) "hint" = some none) {C_Rule fI_Rule D_Rule : Addr} {oI_Rule dI_Rule pI_Rule cI_Rule tI_Rule : Value} {odI_Rule anI_Rule : Option Addr} {slI_Rule : Array (Option Value)} (g_Rule : PySem.W.nsIn K mainGlobals "Rule" = some (some (.ref C_Rule))) (pg_Rule : PySem.W.plainGet K C_Rule Str.empty = true) (hd_Rule : PySem.W.hasDictIn K C_Rule = true) (po_Rule : PySem.W.plainOver K C_Rule = true) (sa_Rule : PySem.W.findIn K (.ref C_Rule) "__setattr__" = some (some (.builtin "object.__setattr__"))) (mk_Rule : PySem.W.makesIn K C_Rule = true) (in_Rule : PySem.W.findIn K (.ref C_Rule) "__init__" = some (some (.ref fI_Rule))) (fn_Rule : PySem.W.isFn K (.ref fI_Rule) = true) (kc_Rule : PySem.W.keepIn K (.ref C_Rule) = true) (li_Rule : K.lookup fI_Rule = some ⟨oI_Rule, odI_Rule, .func (PySem.W.fnOf "__init__" "Rule.__init__" (defArgs s_Rule) (defBody s_Rule) (defScope s_Rule) .none (.ref D_Rule) dI_Rule pI_Rule anI_Rule cI_Rule tI_Rule), slI_Rule⟩) (ci_Rule : PySem.W.codeIn K cI_Rule "Rule.__init__" = true) (ki_Rule : PySem.W.keepIn K (.ref fI_Rule) = true) {e_Rule_back : Addr} {oe_Rule_back : Option Addr} {ne_Rule_back : Nat} {se_Rule_back : Array (Option Value)} (kd_Rule_back : PySem.W.nsIn K D_Rule "back" = some (some (.ref e_Rule_back))) (em_Rule_back : K.lookup e_Rule_back = some ⟨.type "tuple", oe_Rule_back, .seq #[] ne_Rule_back, se_Rule_back⟩) {e_Rule_ahead : Addr} {oe_Rule_ahead : Option Addr} {ne_Rule_ahead : Nat} {se_Rule_ahead : Array (Option Value)} (kd_Rule_ahead : PySem.W.nsIn K D_Rule "ahead" = some (some (.ref e_Rule_ahead))) (em_Rule_ahead : K.lookup e_Rule_ahead = some ⟨.type "tuple", oe_Rule_ahead, .seq #[] ne_Rule_ahead, se_Rule_ahead⟩) {e_Rule_out : Addr} {oe_Rule_out : Option Addr} {ne_Rule_out : Nat} {se_Rule_out : Array (Option Value)} (kd_Rule_out : PySem.W.nsIn K D_Rule "out" = some (some (.ref e_Rule_out))) (em_Rule_out : K.lookup e_Rule_out = some ⟨.type "tuple", oe_Rule_out, .seq #[] ne_Rule_out, se_Rule_out⟩) {e_Rule_calls : Addr} {oe_Rule_calls : Option Addr} {ne_Rule_calls : Nat} {se_Rule_calls : Array (Option Value)} (kd_Rule_calls : PySem.W.nsIn K D_Rule "calls" = some (some (.ref e_Rule_calls))) (em_Rule_calls : K.lookup e_Rule_calls = some ⟨.type "tuple", oe_Rule_calls, .seq #[] ne_Rule_calls, se_Rule_calls⟩) {tk_Rule_extra : Tok} (kd_Rule_extra : PySem.W.nsIn K D_Rule "extra" = some (some (.int 0 tk_Rule_extra))) (na_Rule_inside : PySem.W.findIn K (.ref C_Rule) "inside" = some none) (na_Rule_back : PySem.W.findIn K (.ref C_Rule) "back" = some none) (na_Rule_ahead : PySem.W.findIn K (.ref C_Rule) "ahead" = some none) (na_Rule_out : PySem.W.findIn K (.ref C_Rule) "out" = some none) (na_Rule_calls : PySem.W.findIn K (.ref C_Rule) "calls" = some none) (na_Rule_extra : PySem.W.findIn K (.ref C_Rule) "extra" = some none) {C_Lookup fI_Lookup D_Lookup : Addr} {oI_Lookup dI_Lookup pI_Lookup cI_Lookup tI_Lookup : Value} {odI_Lookup anI_Lookup : Option Addr} {slI_Lookup : Array (Option Value)} (g_Lookup : PySem.W.nsIn K mainGlobals "Lookup" = some (some (.ref C_Lookup))) (pg_Lookup : PySem.W.plainGet K C_Lookup Str.empty = true) (hd_Lookup : PySem.W.hasDictIn K C_Lookup = true) (po_Lookup : PySem.W.plainOver K C_Lookup = true) (sa_Lookup : PySem.W.findIn K (.ref C_Lookup) "__setattr__" = some (some (.builtin "object.__setattr__"))) (mk_Lookup : PySem.W.makesIn K C_Lookup = true) (in_Lookup : PySem.W.findIn K (.ref C_Lookup) "__init__" = some (some (.ref fI_Lookup))) (fn_Lookup : PySem.W.isFn K (.ref fI_Lookup) = true) (kc_Lookup : PySem.W.keepIn K (.ref C_Lookup) = true) (li_Lookup : K.lookup fI_Lookup = some ⟨oI_Lookup, odI_Lookup, .func (PySem.W.fnOf "__init__" "Lookup.__init__" (defArgs s_Lookup) (defBody s_Lookup) (defScope s_Lookup) .none (.ref D_Lookup) dI_Lookup pI_Lookup anI_Lookup cI_Lookup tI_Lookup), slI_Lookup⟩) (ci_Lookup : PySem.W.codeIn K cI_Lookup "Lookup.__init__" = true) (ki_Lookup : PySem.W.keepIn K (.ref fI_Lookup) = true) (kd_Lookup_ignore : PySem.W.nsIn K D_Lookup "ignore" = some (some (.bool false))) (na_Lookup_kind : PySem.W.findIn K (.ref C_Lookup) "kind" = some none) (na_Lookup_rules : PySem.W.findIn K (.ref C_Lookup) "rules" = some none) (na_Lookup_ignore : PySem.W.findIn K (.ref C_Lookup) "ignore" = some none) {C_Font fI_Font D_Font : Addr} {oI_Font dI_Font pI_Font cI_Font tI_Font : Value} {odI_Font anI_Font : Option Addr} {slI_Font : Array (Option Value)} (g_Font : PySem.W.nsIn K mainGlobals "Font" = some (some (.ref C_Font))) (pg_Font : PySem.W.plainGet K C_Font Str.empty = true) (hd_Font : PySem.W.hasDictIn K C_Font = true) (po_Font : PySem.W.plainOver K C_Font = true) (sa_Font : PySem.W.findIn K (.ref C_Font) "__setattr__" = some (some (.builtin "object.__setattr__"))) (mk_Font : PySem.W.makesIn K C_Font = true) (in_Font : PySem.W.findIn K (.ref C_Font) "__init__" = some (some (.ref fI_Font))) (fn_Font : PySem.W.isFn K (.ref fI_Font) = true) (kc_Font : PySem.W.keepIn K (.ref C_Font) = true) (li_Font : K.lookup fI_Font = some ⟨oI_Font, odI_Font, .func (PySem.W.fnOf "__init__" "Font.__init__" (defArgs s_Font) (defBody s_Font) (defScope s_Font) .none (.ref D_Font) dI_Font pI_Font anI_Font cI_Font tI_Font), slI_Font⟩) (ci_Font : PySem.W.codeIn K cI_Font "Font.__init__" = true) (ki_Font : PySem.W.keepIn K (.ref fI_Font) = true) {e_Font_chars : Addr} {oe_Font_chars : Option Addr} {ne_Font_chars : Nat} {se_Font_chars : Array (Option Value)} (kd_Font_chars : PySem.W.nsIn K D_Font "chars" = some (some (.ref e_Font_chars))) (em_Font_chars : K.lookup e_Font_chars = some ⟨.type "tuple", oe_Font_chars, .seq #[] ne_Font_chars, se_Font_chars⟩) {e_Font_lookups : Addr} {oe_Font_lookups : Option Addr} {ne_Font_lookups : Nat} {se_Font_lookups : Array (Option Value)} (kd_Font_lookups : PySem.W.nsIn K D_Font "lookups" = some (some (.ref e_Font_lookups))) (em_Font_lookups : K.lookup e_Font_lookups = some ⟨.type "tuple", oe_Font_lookups, .seq #[] ne_Font_lookups, se_Font_lookups⟩) {e_Font_features : Addr} {oe_Font_features : Option Addr} {ne_Font_features : Nat} {se_Font_features : Array (Option Value)} (kd_Font_features : PySem.W.nsIn K D_Font "features" = some (some (.ref e_Font_features))) (em_Font_features : K.lookup e_Font_features = some ⟨.type "tuple", oe_Font_features, .seq #[] ne_Font_features, se_Font_features⟩) {e_Font_axes : Addr} {oe_Font_axes : Option Addr} {ne_Font_axes : Nat} {se_Font_axes : Array (Option Value)} (kd_Font_axes : PySem.W.nsIn K D_Font "axes" = some (some (.ref e_Font_axes))) (em_Font_axes : K.lookup e_Font_axes = some ⟨.type "tuple", oe_Font_axes, .seq #[] ne_Font_axes, se_Font_axes⟩) {e_Font_regions : Addr} {oe_Font_regions : Option Addr} {ne_Font_regions : Nat} {se_Font_regions : Array (Option Value)} (kd_Font_regions : PySem.W.nsIn K D_Font "regions" = some (some (.ref e_Font_regions))) (em_Font_regions : K.lookup e_Font_regions = some ⟨.type "tuple", oe_Font_regions, .seq #[] ne_Font_regions, se_Font_regions⟩) {e_Font_functions : Addr} {oe_Font_functions : Option Addr} {ne_Font_functions : Nat} {se_Font_functions : Array (Option Value)} (kd_Font_functions : PySem.W.nsIn K D_Font "functions" = some (some (.ref e_Font_functions))) (em_Font_functions : K.lookup e_Font_functions = some ⟨.type "tuple", oe_Font_functions, .seq #[] ne_Font_functions, se_Font_functions⟩) {e_Font_presets : Addr} {oe_Font_presets : Option Addr} {ne_Font_presets : Nat} {se_Font_presets : Array (Option Value)} (kd_Font_presets : PySem.W.nsIn K D_Font "presets" = some (some (.ref e_Font_presets))) (em_Font_presets : K.lookup e_Font_presets = some ⟨.type "tuple", oe_Font_presets, .seq #[] ne_Font_presets, se_Font_presets⟩) (na_Font_unit : PySem.W.findIn K (.ref C_Font) "unit" = some none) (na_Font_glyphs : PySem.W.findIn K (.ref C_Font) "glyphs" = some none) (na_Font_chars : PySem.W.findIn K (.ref C_Font) "chars" = some none) (na_Font_lookups : PySem.W.findIn K (.ref C_Font) "lookups" = some none) (na_Font_features : PySem.W.findIn K (.ref C_Font) "features" = some none) (na_Font_axes : PySem.W.findIn K (.ref C_Font) "axes" = some none) (na_Font_regions : PySem.W.findIn K (.ref C_Font) "regions" = some none) (na_Font_functions : PySem.W.findIn K (.ref C_Font) "functions" = some none) (na_Font_presets : PySem.W.findIn K (.ref C_Font) "presets" = some none) {A_WITH_CONTEXT : Addr} {od_WITH_CONTEXT : Option Addr} {nn_WITH_CONTEXT : Nat} {sl_WITH_CONTEXT : Array (Option Value)} {tk_WITH_CONTEXT_0 : Tok} {tk_WITH_CONTEXT_1 : Tok} (g_WITH_CONTEXT : PySem.W.nsIn K mainGlobals "WITH_CONTEXT" = some (some (.ref A_WITH_CONTEXT))) (t_WITH_CONTEXT : K.lookup A_WITH_CONTEXT = some ⟨.type "tuple", od_WITH_CONTEXT, .seq #[.str "chain" tk_WITH_CONTEXT_0, .str "reverse" tk_WITH_CONTEXT_1] nn_WITH_CONTEXT, sl_WITH_CONTEXT⟩) {A_WITH_OUT : Addr} {od_WITH_OUT : Option Addr} {nn_WITH_OUT : Nat} {sl_WITH_OUT : Array (Option Value)} {tk_WITH_OUT_0 : Tok} {tk_WITH_OUT_1 : Tok} {tk_WITH_OUT_2 : Tok} {tk_WITH_OUT_3 : Tok} (g_WITH_OUT : PySem.W.nsIn K mainGlobals "WITH_OUT" = some (some (.ref A_WITH_OUT))) (t_WITH_OUT : K.lookup A_WITH_OUT = some ⟨.type "tuple", od_WITH_OUT, .seq #[.str "single" tk_WITH_OUT_0, .str "multiple" tk_WITH_OUT_1, .str "ligature" tk_WITH_OUT_2, .str "reverse" tk_WITH_OUT_3] nn_WITH_OUT, sl_WITH_OUT⟩) {A_ANCHOR_KINDS : Addr} {od_ANCHOR_KINDS : Option Addr} {nn_ANCHOR_KINDS : Nat} {sl_ANCHOR_KINDS : Array (Option Value)} {tk_ANCHOR_KINDS_0 : Tok} {tk_ANCHOR_KINDS_1 : Tok} {tk_ANCHOR_KINDS_2 : Tok} {tk_ANCHOR_KINDS_3 : Tok} (g_ANCHOR_KINDS : PySem.W.nsIn K mainGlobals "ANCHOR_KINDS" = some (some (.ref A_ANCHOR_KINDS))) (t_ANCHOR_KINDS : K.lookup A_ANCHOR_KINDS = some ⟨.type "tuple", od_ANCHOR_KINDS, .seq #[.str "base" tk_ANCHOR_KINDS_0, .str "mark" tk_ANCHOR_KINDS_1, .str "entry" tk_ANCHOR_KINDS_2, .str "exit" tk_ANCHOR_KINDS_3] nn_ANCHOR_KINDS, sl_ANCHOR_KINDS⟩) {A_WORDS : Addr} {es_WORDS : Array DictEntry} {nn_WORDS : Nat} (g_WORDS : PySem.W.nsIn K mainGlobals "WORDS" = some (some (.ref A_WORDS))) (l_WORDS : K.lookup A_WORDS = some ⟨.type "dict", none, .dict es_WORDS nn_WORDS, #[]⟩) (kl_WORDS : PySem.W.KeysLit w.params es_WORDS.toList) (sm_WORDS : (A_WORDS == sysModules) = false) {t_WORDS_0 : Addr} {od_WORDS_0 : Option Addr} {nt_WORDS_0 : Nat} {sl_WORDS_0 : Array (Option Value)} {tk_WORDS_0_0 : Tok} {tk_WORDS_0_1 : Tok} (e_WORDS_0 : PySem.W.nsIn K A_WORDS "push" = some (some (.ref t_WORDS_0))) (lt_WORDS_0 : K.lookup t_WORDS_0 = some ⟨.type "tuple", od_WORDS_0, .seq #[.int 0 tk_WORDS_0_0, .int 1 tk_WORDS_0_1] nt_WORDS_0, sl_WORDS_0⟩) {t_WORDS_1 : Addr} {od_WORDS_1 : Option Addr} {nt_WORDS_1 : Nat} {sl_WORDS_1 : Array (Option Value)} {tk_WORDS_1_0 : Tok} {tk_WORDS_1_1 : Tok} (e_WORDS_1 : PySem.W.nsIn K A_WORDS "size" = some (some (.ref t_WORDS_1))) (lt_WORDS_1 : K.lookup t_WORDS_1 = some ⟨.type "tuple", od_WORDS_1, .seq #[.int 0 tk_WORDS_1_0, .int 1 tk_WORDS_1_1] nt_WORDS_1, sl_WORDS_1⟩) (e_WORDS_2 : PySem.W.nsIn K A_WORDS "take" = some none) {t_WORDS_3 : Addr} {od_WORDS_3 : Option Addr} {nt_WORDS_3 : Nat} {sl_WORDS_3 : Array (Option Value)} {tk_WORDS_3_0 : Tok} {tk_WORDS_3_1 : Tok} (e_WORDS_3 : PySem.W.nsIn K A_WORDS "jump" = some (some (.ref t_WORDS_3))) (lt_WORDS_3 : K.lookup t_WORDS_3 = some ⟨.type "tuple", od_WORDS_3, .seq #[.int 0 tk_WORDS_3_0, .int 0 tk_WORDS_3_1] nt_WORDS_3, sl_WORDS_3⟩) {t_WORDS_4 : Addr} {od_WORDS_4 : Option Addr} {nt_WORDS_4 : Nat} {sl_WORDS_4 : Array (Option Value)} {tk_WORDS_4_0 : Tok} {tk_WORDS_4_1 : Tok} (e_WORDS_4 : PySem.W.nsIn K A_WORDS "jumpzero" = some (some (.ref t_WORDS_4))) (lt_WORDS_4 : K.lookup t_WORDS_4 = some ⟨.type "tuple", od_WORDS_4, .seq #[.int 1 tk_WORDS_4_0, .int 0 tk_WORDS_4_1] nt_WORDS_4, sl_WORDS_4⟩) (e_WORDS_5 : PySem.W.nsIn K A_WORDS "jumpsmall" = some none) (e_WORDS_6 : PySem.W.nsIn K A_WORDS "end" = some none) {t_WORDS_7 : Addr} {od_WORDS_7 : Option Addr} {nt_WORDS_7 : Nat} {sl_WORDS_7 : Array (Option Value)} {tk_WORDS_7_0 : Tok} {tk_WORDS_7_1 : Tok} (e_WORDS_7 : PySem.W.nsIn K A_WORDS "drop" = some (some (.ref t_WORDS_7))) (lt_WORDS_7 : K.lookup t_WORDS_7 = some ⟨.type "tuple", od_WORDS_7, .seq #[.int 1 tk_WORDS_7_0, .int 0 tk_WORDS_7_1] nt_WORDS_7, sl_WORDS_7⟩) {t_WORDS_8 : Addr} {od_WORDS_8 : Option Addr} {nt_WORDS_8 : Nat} {sl_WORDS_8 : Array (Option Value)} {tk_WORDS_8_0 : Tok} {tk_WORDS_8_1 : Tok} (e_WORDS_8 : PySem.W.nsIn K A_WORDS "copy" = some (some (.ref t_WORDS_8))) (lt_WORDS_8 : K.lookup t_WORDS_8 = some ⟨.type "tuple", od_WORDS_8, .seq #[.int 1 tk_WORDS_8_0, .int 2 tk_WORDS_8_1] nt_WORDS_8, sl_WORDS_8⟩) {t_WORDS_9 : Addr} {od_WORDS_9 : Option Addr} {nt_WORDS_9 : Nat} {sl_WORDS_9 : Array (Option Value)} {tk_WORDS_9_0 : Tok} {tk_WORDS_9_1 : Tok} (e_WORDS_9 : PySem.W.nsIn K A_WORDS "swap" = some (some (.ref t_WORDS_9))) (lt_WORDS_9 : K.lookup t_WORDS_9 = some ⟨.type "tuple", od_WORDS_9, .seq #[.int 2 tk_WORDS_9_0, .int 2 tk_WORDS_9_1] nt_WORDS_9, sl_WORDS_9⟩) {t_WORDS_10 : Addr} {od_WORDS_10 : Option Addr} {nt_WORDS_10 : Nat} {sl_WORDS_10 : Array (Option Value)} {tk_WORDS_10_0 : Tok} {tk_WORDS_10_1 : Tok} (e_WORDS_10 : PySem.W.nsIn K A_WORDS "add" = some (some (.ref t_WORDS_10))) (lt_WORDS_10 : K.lookup t_WORDS_10 = some ⟨.type "tuple", od_WORDS_10, .seq #[.int 2 tk_WORDS_10_0, .int 1 tk_WORDS_10_1] nt_WORDS_10, sl_WORDS_10⟩) {t_WORDS_11 : Addr} {od_WORDS_11 : Option Addr} {nt_WORDS_11 : Nat} {sl_WORDS_11 : Array (Option Value)} {tk_WORDS_11_0 : Tok} {tk_WORDS_11_1 : Tok} (e_WORDS_11 : PySem.W.nsIn K A_WORDS "subtract" = some (some (.ref t_WORDS_11))) (lt_WORDS_11 : K.lookup t_WORDS_11 = some ⟨.type "tuple", od_WORDS_11, .seq #[.int 2 tk_WORDS_11_0, .int 1 tk_WORDS_11_1] nt_WORDS_11, sl_WORDS_11⟩) {t_WORDS_12 : Addr} {od_WORDS_12 : Option Addr} {nt_WORDS_12 : Nat} {sl_WORDS_12 : Array (Option Value)} {tk_WORDS_12_0 : Tok} {tk_WORDS_12_1 : Tok} (e_WORDS_12 : PySem.W.nsIn K A_WORDS "multiply" = some (some (.ref t_WORDS_12))) (lt_WORDS_12 : K.lookup t_WORDS_12 = some ⟨.type "tuple", od_WORDS_12, .seq #[.int 2 tk_WORDS_12_0, .int 1 tk_WORDS_12_1] nt_WORDS_12, sl_WORDS_12⟩) {t_WORDS_13 : Addr} {od_WORDS_13 : Option Addr} {nt_WORDS_13 : Nat} {sl_WORDS_13 : Array (Option Value)} {tk_WORDS_13_0 : Tok} {tk_WORDS_13_1 : Tok} (e_WORDS_13 : PySem.W.nsIn K A_WORDS "divide" = some (some (.ref t_WORDS_13))) (lt_WORDS_13 : K.lookup t_WORDS_13 = some ⟨.type "tuple", od_WORDS_13, .seq #[.int 2 tk_WORDS_13_0, .int 1 tk_WORDS_13_1] nt_WORDS_13, sl_WORDS_13⟩) {t_WORDS_14 : Addr} {od_WORDS_14 : Option Addr} {nt_WORDS_14 : Nat} {sl_WORDS_14 : Array (Option Value)} {tk_WORDS_14_0 : Tok} {tk_WORDS_14_1 : Tok} (e_WORDS_14 : PySem.W.nsIn K A_WORDS "negate" = some (some (.ref t_WORDS_14))) (lt_WORDS_14 : K.lookup t_WORDS_14 = some ⟨.type "tuple", od_WORDS_14, .seq #[.int 1 tk_WORDS_14_0, .int 1 tk_WORDS_14_1] nt_WORDS_14, sl_WORDS_14⟩) {t_WORDS_15 : Addr} {od_WORDS_15 : Option Addr} {nt_WORDS_15 : Nat} {sl_WORDS_15 : Array (Option Value)} {tk_WORDS_15_0 : Tok} {tk_WORDS_15_1 : Tok} (e_WORDS_15 : PySem.W.nsIn K A_WORDS "amount" = some (some (.ref t_WORDS_15))) (lt_WORDS_15 : K.lookup t_WORDS_15 = some ⟨.type "tuple", od_WORDS_15, .seq #[.int 1 tk_WORDS_15_0, .int 1 tk_WORDS_15_1] nt_WORDS_15, sl_WORDS_15⟩) {t_WORDS_16 : Addr} {od_WORDS_16 : Option Addr} {nt_WORDS_16 : Nat} {sl_WORDS_16 : Array (Option Value)} {tk_WORDS_16_0 : Tok} {tk_WORDS_16_1 : Tok} (e_WORDS_16 : PySem.W.nsIn K A_WORDS "lesser" = some (some (.ref t_WORDS_16))) (lt_WORDS_16 : K.lookup t_WORDS_16 = some ⟨.type "tuple", od_WORDS_16, .seq #[.int 2 tk_WORDS_16_0, .int 1 tk_WORDS_16_1] nt_WORDS_16, sl_WORDS_16⟩) {t_WORDS_17 : Addr} {od_WORDS_17 : Option Addr} {nt_WORDS_17 : Nat} {sl_WORDS_17 : Array (Option Value)} {tk_WORDS_17_0 : Tok} {tk_WORDS_17_1 : Tok} (e_WORDS_17 : PySem.W.nsIn K A_WORDS "greater" = some (some (.ref t_WORDS_17))) (lt_WORDS_17 : K.lookup t_WORDS_17 = some ⟨.type "tuple", od_WORDS_17, .seq #[.int 2 tk_WORDS_17_0, .int 1 tk_WORDS_17_1] nt_WORDS_17, sl_WORDS_17⟩) {t_WORDS_18 : Addr} {od_WORDS_18 : Option Addr} {nt_WORDS_18 : Nat} {sl_WORDS_18 : Array (Option Value)} {tk_WORDS_18_0 : Tok} {tk_WORDS_18_1 : Tok} (e_WORDS_18 : PySem.W.nsIn K A_WORDS "down" = some (some (.ref t_WORDS_18))) (lt_WORDS_18 : K.lookup t_WORDS_18 = some ⟨.type "tuple", od_WORDS_18, .seq #[.int 1 tk_WORDS_18_0, .int 1 tk_WORDS_18_1] nt_WORDS_18, sl_WORDS_18⟩) {t_WORDS_19 : Addr} {od_WORDS_19 : Option Addr} {nt_WORDS_19 : Nat} {sl_WORDS_19 : Array (Option Value)} {tk_WORDS_19_0 : Tok} {tk_WORDS_19_1 : Tok} (e_WORDS_19 : PySem.W.nsIn K A_WORDS "up" = some (some (.ref t_WORDS_19))) (lt_WORDS_19 : K.lookup t_WORDS_19 = some ⟨.type "tuple", od_WORDS_19, .seq #[.int 1 tk_WORDS_19_0, .int 1 tk_WORDS_19_1] nt_WORDS_19, sl_WORDS_19⟩) {t_WORDS_20 : Addr} {od_WORDS_20 : Option Addr} {nt_WORDS_20 : Nat} {sl_WORDS_20 : Array (Option Value)} {tk_WORDS_20_0 : Tok} {tk_WORDS_20_1 : Tok} (e_WORDS_20 : PySem.W.nsIn K A_WORDS "round" = some (some (.ref t_WORDS_20))) (lt_WORDS_20 : K.lookup t_WORDS_20 = some ⟨.type "tuple", od_WORDS_20, .seq #[.int 1 tk_WORDS_20_0, .int 1 tk_WORDS_20_1] nt_WORDS_20, sl_WORDS_20⟩) {t_WORDS_21 : Addr} {od_WORDS_21 : Option Addr} {nt_WORDS_21 : Nat} {sl_WORDS_21 : Array (Option Value)} {tk_WORDS_21_0 : Tok} {tk_WORDS_21_1 : Tok} (e_WORDS_21 : PySem.W.nsIn K A_WORDS "less" = some (some (.ref t_WORDS_21))) (lt_WORDS_21 : K.lookup t_WORDS_21 = some ⟨.type "tuple", od_WORDS_21, .seq #[.int 2 tk_WORDS_21_0, .int 1 tk_WORDS_21_1] nt_WORDS_21, sl_WORDS_21⟩) {t_WORDS_22 : Addr} {od_WORDS_22 : Option Addr} {nt_WORDS_22 : Nat} {sl_WORDS_22 : Array (Option Value)} {tk_WORDS_22_0 : Tok} {tk_WORDS_22_1 : Tok} (e_WORDS_22 : PySem.W.nsIn K A_WORDS "atmost" = some (some (.ref t_WORDS_22))) (lt_WORDS_22 : K.lookup t_WORDS_22 = some ⟨.type "tuple", od_WORDS_22, .seq #[.int 2 tk_WORDS_22_0, .int 1 tk_WORDS_22_1] nt_WORDS_22, sl_WORDS_22⟩) {t_WORDS_23 : Addr} {od_WORDS_23 : Option Addr} {nt_WORDS_23 : Nat} {sl_WORDS_23 : Array (Option Value)} {tk_WORDS_23_0 : Tok} {tk_WORDS_23_1 : Tok} (e_WORDS_23 : PySem.W.nsIn K A_WORDS "equal" = some (some (.ref t_WORDS_23))) (lt_WORDS_23 : K.lookup t_WORDS_23 = some ⟨.type "tuple", od_WORDS_23, .seq #[.int 2 tk_WORDS_23_0, .int 1 tk_WORDS_23_1] nt_WORDS_23, sl_WORDS_23⟩) {t_WORDS_24 : Addr} {od_WORDS_24 : Option Addr} {nt_WORDS_24 : Nat} {sl_WORDS_24 : Array (Option Value)} {tk_WORDS_24_0 : Tok} {tk_WORDS_24_1 : Tok} (e_WORDS_24 : PySem.W.nsIn K A_WORDS "not" = some (some (.ref t_WORDS_24))) (lt_WORDS_24 : K.lookup t_WORDS_24 = some ⟨.type "tuple", od_WORDS_24, .seq #[.int 1 tk_WORDS_24_0, .int 1 tk_WORDS_24_1] nt_WORDS_24, sl_WORDS_24⟩) {t_WORDS_25 : Addr} {od_WORDS_25 : Option Addr} {nt_WORDS_25 : Nat} {sl_WORDS_25 : Array (Option Value)} {tk_WORDS_25_0 : Tok} {tk_WORDS_25_1 : Tok} (e_WORDS_25 : PySem.W.nsIn K A_WORDS "and" = some (some (.ref t_WORDS_25))) (lt_WORDS_25 : K.lookup t_WORDS_25 = some ⟨.type "tuple", od_WORDS_25, .seq #[.int 2 tk_WORDS_25_0, .int 1 tk_WORDS_25_1] nt_WORDS_25, sl_WORDS_25⟩) {t_WORDS_26 : Addr} {od_WORDS_26 : Option Addr} {nt_WORDS_26 : Nat} {sl_WORDS_26 : Array (Option Value)} {tk_WORDS_26_0 : Tok} {tk_WORDS_26_1 : Tok} (e_WORDS_26 : PySem.W.nsIn K A_WORDS "or" = some (some (.ref t_WORDS_26))) (lt_WORDS_26 : K.lookup t_WORDS_26 = some ⟨.type "tuple", od_WORDS_26, .seq #[.int 2 tk_WORDS_26_0, .int 1 tk_WORDS_26_1] nt_WORDS_26, sl_WORDS_26⟩) {t_WORDS_27 : Addr} {od_WORDS_27 : Option Addr} {nt_WORDS_27 : Nat} {sl_WORDS_27 : Array (Option Value)} {tk_WORDS_27_0 : Tok} {tk_WORDS_27_1 : Tok} (e_WORDS_27 : PySem.W.nsIn K A_WORDS "look" = some (some (.ref t_WORDS_27))) (lt_WORDS_27 : K.lookup t_WORDS_27 = some ⟨.type "tuple", od_WORDS_27, .seq #[.int 0 tk_WORDS_27_0, .int 0 tk_WORDS_27_1] nt_WORDS_27, sl_WORDS_27⟩) {t_WORDS_28 : Addr} {od_WORDS_28 : Option Addr} {nt_WORDS_28 : Nat} {sl_WORDS_28 : Array (Option Value)} {tk_WORDS_28_0 : Tok} {tk_WORDS_28_1 : Tok} (e_WORDS_28 : PySem.W.nsIn K A_WORDS "go" = some (some (.ref t_WORDS_28))) (lt_WORDS_28 : K.lookup t_WORDS_28 = some ⟨.type "tuple", od_WORDS_28, .seq #[.int 0 tk_WORDS_28_0, .int 0 tk_WORDS_28_1] nt_WORDS_28, sl_WORDS_28⟩) {t_WORDS_29 : Addr} {od_WORDS_29 : Option Addr} {nt_WORDS_29 : Nat} {sl_WORDS_29 : Array (Option Value)} {tk_WORDS_29_0 : Tok} {tk_WORDS_29_1 : Tok} (e_WORDS_29 : PySem.W.nsIn K A_WORDS "mode" = some (some (.ref t_WORDS_29))) (lt_WORDS_29 : K.lookup t_WORDS_29 = some ⟨.type "tuple", od_WORDS_29, .seq #[.int 0 tk_WORDS_29_0, .int 0 tk_WORDS_29_1] nt_WORDS_29, sl_WORDS_29⟩) {t_WORDS_30 : Addr} {od_WORDS_30 : Option Addr} {nt_WORDS_30 : Nat} {sl_WORDS_30 : Array (Option Value)} {tk_WORDS_30_0 : Tok} {tk_WORDS_30_1 : Tok} (e_WORDS_30 : PySem.W.nsIn K A_WORDS "value" = some (some (.ref t_WORDS_30))) (lt_WORDS_30 : K.lookup t_WORDS_30 = some ⟨.type "tuple", od_WORDS_30, .seq #[.int 1 tk_WORDS_30_0, .int 1 tk_WORDS_30_1] nt_WORDS_30, sl_WORDS_30⟩) {t_WORDS_31 : Addr} {od_WORDS_31 : Option Addr} {nt_WORDS_31 : Nat} {sl_WORDS_31 : Array (Option Value)} {tk_WORDS_31_0 : Tok} {tk_WORDS_31_1 : Tok} (e_WORDS_31 : PySem.W.nsIn K A_WORDS "load" = some (some (.ref t_WORDS_31))) (lt_WORDS_31 : K.lookup t_WORDS_31 = some ⟨.type "tuple", od_WORDS_31, .seq #[.int 1 tk_WORDS_31_0, .int 1 tk_WORDS_31_1] nt_WORDS_31, sl_WORDS_31⟩) {t_WORDS_32 : Addr} {od_WORDS_32 : Option Addr} {nt_WORDS_32 : Nat} {sl_WORDS_32 : Array (Option Value)} {tk_WORDS_32_0 : Tok} {tk_WORDS_32_1 : Tok} (e_WORDS_32 : PySem.W.nsIn K A_WORDS "setvalue" = some (some (.ref t_WORDS_32))) (lt_WORDS_32 : K.lookup t_WORDS_32 = some ⟨.type "tuple", od_WORDS_32, .seq #[.int 2 tk_WORDS_32_0, .int 0 tk_WORDS_32_1] nt_WORDS_32, sl_WORDS_32⟩) {t_WORDS_33 : Addr} {od_WORDS_33 : Option Addr} {nt_WORDS_33 : Nat} {sl_WORDS_33 : Array (Option Value)} {tk_WORDS_33_0 : Tok} {tk_WORDS_33_1 : Tok} (e_WORDS_33 : PySem.W.nsIn K A_WORDS "save" = some (some (.ref t_WORDS_33))) (lt_WORDS_33 : K.lookup t_WORDS_33 = some ⟨.type "tuple", od_WORDS_33, .seq #[.int 2 tk_WORDS_33_0, .int 0 tk_WORDS_33_1] nt_WORDS_33, sl_WORDS_33⟩) {t_WORDS_34 : Addr} {od_WORDS_34 : Option Addr} {nt_WORDS_34 : Nat} {sl_WORDS_34 : Array (Option Value)} {tk_WORDS_34_0 : Tok} {tk_WORDS_34_1 : Tok} (e_WORDS_34 : PySem.W.nsIn K A_WORDS "get" = some (some (.ref t_WORDS_34))) (lt_WORDS_34 : K.lookup t_WORDS_34 = some ⟨.type "tuple", od_WORDS_34, .seq #[.int 1 tk_WORDS_34_0, .int 1 tk_WORDS_34_1] nt_WORDS_34, sl_WORDS_34⟩) {t_WORDS_35 : Addr} {od_WORDS_35 : Option Addr} {nt_WORDS_35 : Nat} {sl_WORDS_35 : Array (Option Value)} {tk_WORDS_35_0 : Tok} {tk_WORDS_35_1 : Tok} (e_WORDS_35 : PySem.W.nsIn K A_WORDS "origin" = some (some (.ref t_WORDS_35))) (lt_WORDS_35 : K.lookup t_WORDS_35 = some ⟨.type "tuple", od_WORDS_35, .seq #[.int 1 tk_WORDS_35_0, .int 1 tk_WORDS_35_1] nt_WORDS_35, sl_WORDS_35⟩) {t_WORDS_36 : Addr} {od_WORDS_36 : Option Addr} {nt_WORDS_36 : Nat} {sl_WORDS_36 : Array (Option Value)} {tk_WORDS_36_0 : Tok} {tk_WORDS_36_1 : Tok} (e_WORDS_36 : PySem.W.nsIn K A_WORDS "move" = some (some (.ref t_WORDS_36))) (lt_WORDS_36 : K.lookup t_WORDS_36 = some ⟨.type "tuple", od_WORDS_36, .seq #[.int 2 tk_WORDS_36_0, .int 0 tk_WORDS_36_1] nt_WORDS_36, sl_WORDS_36⟩) {t_WORDS_37 : Addr} {od_WORDS_37 : Option Addr} {nt_WORDS_37 : Nat} {sl_WORDS_37 : Array (Option Value)} {tk_WORDS_37_0 : Tok} {tk_WORDS_37_1 : Tok} (e_WORDS_37 : PySem.W.nsIn K A_WORDS "set" = some (some (.ref t_WORDS_37))) (lt_WORDS_37 : K.lookup t_WORDS_37 = some ⟨.type "tuple", od_WORDS_37, .seq #[.int 2 tk_WORDS_37_0, .int 0 tk_WORDS_37_1] nt_WORDS_37, sl_WORDS_37⟩) {t_WORDS_38 : Addr} {od_WORDS_38 : Option Addr} {nt_WORDS_38 : Nat} {sl_WORDS_38 : Array (Option Value)} {tk_WORDS_38_0 : Tok} {tk_WORDS_38_1 : Tok} (e_WORDS_38 : PySem.W.nsIn K A_WORDS "align" = some (some (.ref t_WORDS_38))) (lt_WORDS_38 : K.lookup t_WORDS_38 = some ⟨.type "tuple", od_WORDS_38, .seq #[.int 2 tk_WORDS_38_0, .int 0 tk_WORDS_38_1] nt_WORDS_38, sl_WORDS_38⟩) {t_WORDS_39 : Addr} {od_WORDS_39 : Option Addr} {nt_WORDS_39 : Nat} {sl_WORDS_39 : Array (Option Value)} {tk_WORDS_39_0 : Tok} {tk_WORDS_39_1 : Tok} (e_WORDS_39 : PySem.W.nsIn K A_WORDS "between" = some (some (.ref t_WORDS_39))) (lt_WORDS_39 : K.lookup t_WORDS_39 = some ⟨.type "tuple", od_WORDS_39, .seq #[.int 0 tk_WORDS_39_0, .int 0 tk_WORDS_39_1] nt_WORDS_39, sl_WORDS_39⟩) {t_WORDS_40 : Addr} {od_WORDS_40 : Option Addr} {nt_WORDS_40 : Nat} {sl_WORDS_40 : Array (Option Value)} {tk_WORDS_40_0 : Tok} {tk_WORDS_40_1 : Tok} (e_WORDS_40 : PySem.W.nsIn K A_WORDS "call" = some (some (.ref t_WORDS_40))) (lt_WORDS_40 : K.lookup t_WORDS_40 = some ⟨.type "tuple", od_WORDS_40, .seq #[.int 0 tk_WORDS_40_0, .int 0 tk_WORDS_40_1] nt_WORDS_40, sl_WORDS_40⟩) {t_WORDS_41 : Addr} {od_WORDS_41 : Option Addr} {nt_WORDS_41 : Nat} {sl_WORDS_41 : Array (Option Value)} {tk_WORDS_41_0 : Tok} {tk_WORDS_41_1 : Tok} (e_WORDS_41 : PySem.W.nsIn K A_WORDS "repeat" = some (some (.ref t_WORDS_41))) (lt_WORDS_41 : K.lookup t_WORDS_41 = some ⟨.type "tuple", od_WORDS_41, .seq #[.int 1 tk_WORDS_41_0, .int 0 tk_WORDS_41_1] nt_WORDS_41, sl_WORDS_41⟩) (e_WORDS_42 : PySem.W.nsIn K A_WORDS "nothing" = some none) :
    ∃ fd : FuncData, (∀ (s : Shared) (v : Value), BindsTo s fd ⟨[v], []⟩ [("script", v)]) ∧ ∀ base : Heap, K.In base → base.Ns mainGlobals mg → FnOk l.prog w K mg base CX0 14 fa fd ["script"] (spLaw K) := by
  have e := hfa.symm.trans (PySem.W.mg_of X G a36)
  cases e
  have T : Txt K mg := ⟨PySem.W.mg_none_of X G z_abs, PySem.W.mg_none_of X G z_all, PySem.W.mg_none_of X G z_bool, PySem.W.mg_none_of X G z_enumerate, PySem.W.mg_none_of X G z_int, PySem.W.mg_none_of X G z_isinstance, PySem.W.mg_none_of X G z_len, PySem.W.mg_none_of X G z_list, PySem.W.mg_none_of X G z_range, PySem.W.mg_none_of X G z_set, PySem.W.mg_none_of X G z_str, PySem.W.mg_none_of X G z_sum, PySem.W.mg_none_of X G z_tuple, PySem.W.mg_none_of X G z_zip, ⟨_, PySem.W.mg_of X G g_ADVANCE, _, rfl⟩, ⟨_, PySem.W.mg_of X G g_DEEPEST, _, rfl⟩, ⟨_, PySem.W.mg_of X G g_FARTHEST, _, rfl⟩, ⟨_, PySem.W.mg_of X G g_GREATEST_NUMBER, _, rfl⟩, ⟨_, PySem.W.mg_of X G g_LEAST_NUMBER, _, rfl⟩, ⟨_, PySem.W.mg_of X G g_LEAST_OF_CONTOUR, _, rfl⟩, ⟨_, PySem.W.mg_of X G g_MOST_CONTOURS, _, rfl⟩, ⟨_, PySem.W.mg_of X G g_MOST_POINTS, _, rfl⟩, ⟨_, PySem.W.mg_of X G g_WHOLE, _, rfl⟩, PySem.W.mg_of X G g_gcd, ⟨_, _, fun_mk l0 c0 k0, PySem.W.mg_of X G a0⟩, ⟨_, _, fun_mk l1 c1 k1, PySem.W.mg_of X G a1⟩, ⟨_, _, fun_mk l2 c2 k2, PySem.W.mg_of X G a2⟩, ⟨_, _, fun_mk l3 c3 k3, PySem.W.mg_of X G a3⟩, ⟨_, _, fun_mk l4 c4 k4, PySem.W.mg_of X G a4⟩, ⟨_, _, fun_mk l5 c5 k5, PySem.W.mg_of X G a5⟩, ⟨_, _, fun_mk l6 c6 k6, PySem.W.mg_of X G a6⟩, ⟨_, _, fun_mk l7 c7 k7, PySem.W.mg_of X G a7⟩, ⟨_, _, fun_mk l8 c8 k8, PySem.W.mg_of X G a8⟩, ⟨_, _, fun_mk l9 c9 k9, PySem.W.mg_of X G a9⟩, ⟨_, _, fun_mk l10 c10 k10, PySem.W.mg_of X G a10⟩, ⟨_, _, fun_mk l11 c11 k11, PySem.W.mg_of X G a11⟩, ⟨_, _, fun_mk l12 c12 k12, PySem.W.mg_of X G a12⟩, ⟨_, _, fun_mk l13 c13 k13, PySem.W.mg_of X G a13⟩, ⟨_, _, fun_mk l14 c14 k14, PySem.W.mg_of X G a14⟩, ⟨_, _, fun_mk l15 c15 k15, PySem.W.mg_of X G a15⟩, ⟨_, _, fun_mk l16 c16 k16, PySem.W.mg_of X G a16⟩, ⟨_, _, fun_mk l17 c17 k17, PySem.W.mg_of X G a17⟩, ⟨_, _, fun_mk l18 c18 k18, PySem.W.mg_of X G a18⟩, ⟨_, _, fun_mk l19 c19 k19, PySem.W.mg_of X G a19⟩, ⟨_, _, fun_mk l20 c20 k20, PySem.W.mg_of X G a20⟩, ⟨_, _, fun_mk l21 c21 k21, PySem.W.mg_of X G a21⟩, ⟨_, _, fun_mk l22 c22 k22, PySem.W.mg_of X G a22⟩, ⟨_, _, fun_mk l23 c23 k23, PySem.W.mg_of X G a23⟩, ⟨_, _, fun_mk l24 c24 k24, PySem.W.mg_of X G a24⟩, ⟨_, _, fun_mk l25 c25 k25, PySem.W.mg_of X G a25⟩, ⟨_, _, fun_mk l26 c26 k26, PySem.W.mg_of X G a26⟩, ⟨_, _, fun_mk l27 c27 k27, PySem.W.mg_of X G a27⟩, ⟨_, _, fun_mk l28 c28 k28, PySem.W.mg_of X G a28⟩, ⟨_, _, fun_mk l29 c29 k29, PySem.W.mg_of X G a29⟩, ⟨_, _, fun_mk l30 c30 k30, PySem.W.mg_of X G a30⟩, ⟨_, _, fun_mk l31 c31 k31, PySem.W.mg_of X G a31⟩, ⟨_, _, fun_mk l32 c32 k32, PySem.W.mg_of X G a32⟩, ⟨_, _, fun_mk l33 c33 k33, PySem.W.mg_of X G a33⟩, ⟨_, _, fun_mk l34 c34 k34, PySem.W.mg_of X G a34⟩, ⟨_, _, fun_mk l35 c35 k35, PySem.W.mg_of X G a35⟩, ⟨_, _, fun_mk l36 c36 k36, PySem.W.mg_of X G a36⟩, ⟨_, _, ⟨⟨_, _, _, _, _, _, _, _, _, _, rfl, l37, c37, .inr ⟨List.cons_ne_nil _ _, _, _, [_], _, rfl, t37, rfl, .cons ⟨_, rfl⟩ .nil⟩, .inl rfl⟩, k37⟩, PySem.W.mg_of X G a37⟩, ⟨_, _, fun_mk l38 c38 k38, PySem.W.mg_of X G a38⟩, ⟨_, _, fun_mk l39 c39 k39, PySem.W.mg_of X G a39⟩, ⟨_, _, fun_mk l40 c40 k40, PySem.W.mg_of X G a40⟩, ⟨_, _, fun_mk l41 c41 k41, PySem.W.mg_of X G a41⟩, ⟨_, _, fun_mk l42 c42 k42, PySem.W.mg_of X G a42⟩, ⟨_, _, fun_mk l43 c43 k43, PySem.W.mg_of X G a43⟩, ⟨_, _, fun_mk l44 c44 k44, PySem.W.mg_of X G a44⟩, ⟨_, _, fun_mk l45 c45 k45, PySem.W.mg_of X G a45⟩, ⟨_, _, fun_mk l46 c46 k46, PySem.W.mg_of X G a46⟩, ⟨_, _, fun_mk l47 c47 k47, PySem.W.mg_of X G a47⟩, ⟨_, _, fun_mk l48 c48 k48, PySem.W.mg_of X G a48⟩, ⟨_, _, fun_mk l49 c49 k49, PySem.W.mg_of X G a49⟩, ⟨_, _, fun_mk l50 c50 k50, PySem.W.mg_of X G a50⟩, ⟨_, _, fun_mk l51 c51 k51, PySem.W.mg_of X G a51⟩, ⟨_, _, fun_mk l52 c52 k52, PySem.W.mg_of X G a52⟩, ⟨_, _, fun_mk l53 c53 k53, PySem.W.mg_of X G a53⟩, ⟨_, _, fun_mk l54 c54 k54, PySem.W.mg_of X G a54⟩, ⟨_, _, fun_mk l55 c55 k55, PySem.W.mg_of X G a55⟩, ⟨_, _, fun_mk l56 c56 k56, PySem.W.mg_of X G a56⟩, ⟨_, _, fun_mk l57 c57 k57, PySem.W.mg_of X G a57⟩, ⟨_, _, fun_mk l58 c58 k58, PySem.W.mg_of X G a58⟩, ⟨_, _, fun_mk l59 c59 k59, PySem.W.mg_of X G a59⟩, ⟨_, _, fun_mk l60 c60 k60, PySem.W.mg_of X G a60⟩, ⟨_, _, fun_mk l61 c61 k61, PySem.W.mg_of X G a61⟩, (by rw [adr_of (PySem.W.mg_of X G g_FleuronError)]; exact PySem.W.mg_of X G g_FleuronError), (by rw [adr_of (PySem.W.mg_of X G g_FleuronError)]; exact ⟨sg_FleuronError, ty_FleuronError, rd_FleuronError, fc_FleuronError⟩), ⟨by rw [adr_of (PySem.W.mg_of X G g_ZeroDivisor)]; exact PySem.W.mg_of X G g_ZeroDivisor, by rw [adr_of (PySem.W.mg_of X G g_ZeroDivisor)]; exact ⟨⟨_, _, _, _, _, _, _, _, _, _, _, _, _, _, _, xL_ZeroDivisor, by rfl⟩, sa_ZeroDivisor, be_ZeroDivisor, ty_ZeroDivisor, kC_ZeroDivisor⟩, by rw [adr_of (PySem.W.mg_of X G g_ZeroDivisor)]; exact ⟨ga_ZeroDivisor, gg_ZeroDivisor, be_ZeroDivisor, hd_ZeroDivisor, cl_ZeroDivisor, hn_, ht_, mo_ZeroDivisor⟩, by rw [adr_of (PySem.W.mg_of X G g_ZeroDivisor)]; exact ⟨_, _, in_ZeroDivisor, tf_ZeroDivisor, fun_mk li_ZeroDivisor ci_ZeroDivisor ki_ZeroDivisor⟩⟩, (by rw [adr_of (PySem.W.mg_of X G g_ZeroDivisor)]; rw [adr_of (PySem.W.mg_of X G g_FleuronError)]; exact PySem.W.exm_ref be_FleuronError hd_FleuronError ty_FleuronError sb_ZeroDivisor), ⟨by rw [adr_of (PySem.W.mg_of X G g_InvalidPlace)]; exact PySem.W.mg_of X G g_InvalidPlace, by rw [adr_of (PySem.W.mg_of X G g_InvalidPlace)]; exact ⟨⟨_, _, _, _, _, _, _, _, _, _, _, _, _, _, _, xL_InvalidPlace, by rfl⟩, sa_InvalidPlace, be_InvalidPlace, ty_InvalidPlace, kC_InvalidPlace⟩, by rw [adr_of (PySem.W.mg_of X G g_InvalidPlace)]; exact ⟨ga_InvalidPlace, gg_InvalidPlace, be_InvalidPlace, hd_InvalidPlace, cl_InvalidPlace, hn_, ht_, mo_InvalidPlace⟩, by rw [adr_of (PySem.W.mg_of X G g_InvalidPlace)]; exact ⟨_, _, in_InvalidPlace, tf_InvalidPlace, fun_mk li_InvalidPlace ci_InvalidPlace ki_InvalidPlace⟩⟩, (by rw [adr_of (PySem.W.mg_of X G g_InvalidPlace)]; rw [adr_of (PySem.W.mg_of X G g_FleuronError)]; exact PySem.W.exm_ref be_FleuronError hd_FleuronError ty_FleuronError sb_InvalidPlace), ⟨by rw [adr_of (PySem.W.mg_of X G g_UnknownGlyph)]; exact PySem.W.mg_of X G g_UnknownGlyph, by rw [adr_of (PySem.W.mg_of X G g_UnknownGlyph)]; exact ⟨⟨_, _, _, _, _, _, _, _, _, _, _, _, _, _, _, xL_UnknownGlyph, by rfl⟩, sa_UnknownGlyph, be_UnknownGlyph, ty_UnknownGlyph, kC_UnknownGlyph⟩, by rw [adr_of (PySem.W.mg_of X G g_UnknownGlyph)]; exact fn_UnknownGlyph, by rw [adr_of (PySem.W.mg_of X G g_UnknownGlyph)]; exact ⟨ga_UnknownGlyph, gg_UnknownGlyph, be_UnknownGlyph, hd_UnknownGlyph⟩, by rw [adr_of (PySem.W.mg_of X G g_UnknownGlyph)]; exact ⟨_, _, in_UnknownGlyph, tf_UnknownGlyph, fun_mk li_UnknownGlyph ci_UnknownGlyph ki_UnknownGlyph⟩⟩, ⟨by rw [adr_of (PySem.W.mg_of X G g_OutOfRange)]; exact PySem.W.mg_of X G g_OutOfRange, by rw [adr_of (PySem.W.mg_of X G g_OutOfRange)]; exact ⟨⟨_, _, _, _, _, _, _, _, _, _, _, _, _, _, _, xL_OutOfRange, by rfl⟩, sa_OutOfRange, be_OutOfRange, ty_OutOfRange, kC_OutOfRange⟩, by rw [adr_of (PySem.W.mg_of X G g_OutOfRange)]; exact fn_OutOfRange, by rw [adr_of (PySem.W.mg_of X G g_OutOfRange)]; exact ⟨ga_OutOfRange, gg_OutOfRange, be_OutOfRange, hd_OutOfRange⟩, by rw [adr_of (PySem.W.mg_of X G g_OutOfRange)]; exact ⟨_, _, in_OutOfRange, tf_OutOfRange, fun_mk li_OutOfRange ci_OutOfRange ki_OutOfRange⟩⟩, (by rw [adr_of (PySem.W.mg_of X G g_UnknownGlyph)]; exact ⟨ga_UnknownGlyph, gg_UnknownGlyph, be_UnknownGlyph, hd_UnknownGlyph, cl_UnknownGlyph, hn_, ht_, mo_UnknownGlyph⟩), (by rw [adr_of (PySem.W.mg_of X G g_UnknownGlyph)]; rw [adr_of (PySem.W.mg_of X G g_FleuronError)]; exact PySem.W.exm_ref be_FleuronError hd_FleuronError ty_FleuronError sb_UnknownGlyph), (by rw [adr_of (PySem.W.mg_of X G g_InvalidPlace)]; exact Fl.kit_self K _), (by rw [adr_of (PySem.W.mg_of X G g_InvalidPlace)]; rw [adr_of (PySem.W.mg_of X G g_UnknownGlyph)]; exact Fl.kit_no kb_InvalidPlace_UnknownGlyph sx_UnknownGlyph hd_UnknownGlyph ty_UnknownGlyph), (by rw [adr_of (PySem.W.mg_of X G g_UnknownGlyph)]; rw [adr_of (PySem.W.mg_of X G g_InvalidPlace)]; exact Fl.kit_no kb_UnknownGlyph_InvalidPlace sx_InvalidPlace hd_InvalidPlace ty_InvalidPlace), (by rw [adr_of (PySem.W.mg_of X G g_UnknownGlyph)]; exact Fl.kit_self K _), ⟨e_Glyph_parts, e_Glyph_anchors, e_Glyph_deltas, e_Glyph_hint, ⟨_, #[], _, em_Glyph_parts, rfl, rfl, (show (0 : Nat) ≤ sizeLine by decide), .nil⟩, ⟨_, #[], _, em_Glyph_anchors, rfl, rfl, (show (0 : Nat) ≤ sizeLine by decide), .nil⟩, ⟨_, #[], _, em_Glyph_deltas, rfl, rfl, (show (0 : Nat) ≤ sizeLine by decide), .nil⟩, ⟨_, #[], _, em_Glyph_hint, rfl, rfl, (show (0 : Nat) ≤ sizeLine by decide), .nil⟩, ⟨by rw [adr_of (PySem.W.mg_of X G g_Glyph)]; exact PySem.W.mg_of X G g_Glyph, by rw [adr_of (PySem.W.mg_of X G g_Glyph)]; exact ⟨pg_Glyph, hd_Glyph, po_Glyph, sa_Glyph⟩, by rw [adr_of (PySem.W.mg_of X G g_Glyph)]; exact (List.forall_mem_cons.mpr ⟨na_Glyph_advance, (List.forall_mem_cons.mpr ⟨na_Glyph_outline, (List.forall_mem_cons.mpr ⟨na_Glyph_parts, (List.forall_mem_cons.mpr ⟨na_Glyph_anchors, (List.forall_mem_cons.mpr ⟨na_Glyph_mark, (List.forall_mem_cons.mpr ⟨na_Glyph_deltas, (List.forall_mem_cons.mpr ⟨na_Glyph_hint, (List.forall_mem_nil _)⟩)⟩)⟩)⟩)⟩)⟩)⟩), by rw [adr_of (PySem.W.mg_of X G g_Glyph)]; exact ⟨fI_Glyph, _, ⟨mk_Glyph, in_Glyph, fn_Glyph, kc_Glyph⟩, ⟨⟨_, _, _, _, _, _, _, _, _, _, rfl, li_Glyph, ci_Glyph, .inl ⟨rfl, rfl⟩, .inr ⟨D_Glyph, rfl, (List.forall_mem_cons.mpr ⟨⟨_, kd_Glyph_parts, rfl⟩, (List.forall_mem_cons.mpr ⟨⟨_, kd_Glyph_anchors, rfl⟩, (List.forall_mem_cons.mpr ⟨⟨_, kd_Glyph_mark, rfl⟩, (List.forall_mem_cons.mpr ⟨⟨_, kd_Glyph_deltas, rfl⟩, (List.forall_mem_cons.mpr ⟨⟨_, kd_Glyph_hint, rfl⟩, (List.forall_mem_nil _)⟩)⟩)⟩)⟩)⟩)⟩⟩, ki_Glyph⟩⟩⟩⟩, ⟨e_Rule_back, e_Rule_ahead, e_Rule_out, e_Rule_calls, ⟨_, #[], _, em_Rule_back, rfl, rfl, (show (0 : Nat) ≤ sizeLine by decide), .nil⟩, ⟨_, #[], _, em_Rule_ahead, rfl, rfl, (show (0 : Nat) ≤ sizeLine by decide), .nil⟩, ⟨_, #[], _, em_Rule_out, rfl, rfl, (show (0 : Nat) ≤ sizeLine by decide), .nil⟩, ⟨_, #[], _, em_Rule_calls, rfl, rfl, (show (0 : Nat) ≤ sizeLine by decide), .nil⟩, ⟨by rw [adr_of (PySem.W.mg_of X G g_Rule)]; exact PySem.W.mg_of X G g_Rule, by rw [adr_of (PySem.W.mg_of X G g_Rule)]; exact ⟨pg_Rule, hd_Rule, po_Rule, sa_Rule⟩, by rw [adr_of (PySem.W.mg_of X G g_Rule)]; exact (List.forall_mem_cons.mpr ⟨na_Rule_inside, (List.forall_mem_cons.mpr ⟨na_Rule_back, (List.forall_mem_cons.mpr ⟨na_Rule_ahead, (List.forall_mem_cons.mpr ⟨na_Rule_out, (List.forall_mem_cons.mpr ⟨na_Rule_calls, (List.forall_mem_cons.mpr ⟨na_Rule_extra, (List.forall_mem_nil _)⟩)⟩)⟩)⟩)⟩)⟩), by rw [adr_of (PySem.W.mg_of X G g_Rule)]; exact ⟨fI_Rule, _, ⟨mk_Rule, in_Rule, fn_Rule, kc_Rule⟩, ⟨⟨_, _, _, _, _, _, _, _, _, _, rfl, li_Rule, ci_Rule, .inl ⟨rfl, rfl⟩, .inr ⟨D_Rule, rfl, (List.forall_mem_cons.mpr ⟨⟨_, kd_Rule_back, rfl⟩, (List.forall_mem_cons.mpr ⟨⟨_, kd_Rule_ahead, rfl⟩, (List.forall_mem_cons.mpr ⟨⟨_, kd_Rule_out, rfl⟩, (List.forall_mem_cons.mpr ⟨⟨_, kd_Rule_calls, rfl⟩, (List.forall_mem_cons.mpr ⟨⟨_, kd_Rule_extra, ⟨_, rfl⟩⟩, (List.forall_mem_nil _)⟩)⟩)⟩)⟩)⟩)⟩⟩, ki_Rule⟩⟩⟩⟩, ⟨by rw [adr_of (PySem.W.mg_of X G g_Lookup)]; exact PySem.W.mg_of X G g_Lookup, by rw [adr_of (PySem.W.mg_of X G g_Lookup)]; exact ⟨pg_Lookup, hd_Lookup, po_Lookup, sa_Lookup⟩, by rw [adr_of (PySem.W.mg_of X G g_Lookup)]; exact (List.forall_mem_cons.mpr ⟨na_Lookup_kind, (List.forall_mem_cons.mpr ⟨na_Lookup_rules, (List.forall_mem_cons.mpr ⟨na_Lookup_ignore, (List.forall_mem_nil _)⟩)⟩)⟩), by rw [adr_of (PySem.W.mg_of X G g_Lookup)]; exact ⟨fI_Lookup, _, ⟨mk_Lookup, in_Lookup, fn_Lookup, kc_Lookup⟩, ⟨⟨_, _, _, _, _, _, _, _, _, _, rfl, li_Lookup, ci_Lookup, .inl ⟨rfl, rfl⟩, .inr ⟨D_Lookup, rfl, (List.forall_mem_cons.mpr ⟨⟨_, kd_Lookup_ignore, rfl⟩, (List.forall_mem_nil _)⟩)⟩⟩, ki_Lookup⟩⟩⟩, ⟨e_Font_chars, e_Font_lookups, e_Font_features, e_Font_axes, e_Font_regions, e_Font_functions, e_Font_presets, ⟨_, #[], _, em_Font_chars, rfl, rfl, (show (0 : Nat) ≤ sizeLine by decide), .nil⟩, ⟨_, #[], _, em_Font_lookups, rfl, rfl, (show (0 : Nat) ≤ sizeLine by decide), .nil⟩, ⟨_, #[], _, em_Font_features, rfl, rfl, (show (0 : Nat) ≤ sizeLine by decide), .nil⟩, ⟨_, #[], _, em_Font_axes, rfl, rfl, (show (0 : Nat) ≤ sizeLine by decide), .nil⟩, ⟨_, #[], _, em_Font_regions, rfl, rfl, (show (0 : Nat) ≤ sizeLine by decide), .nil⟩, ⟨_, #[], _, em_Font_functions, rfl, rfl, (show (0 : Nat) ≤ sizeLine by decide), .nil⟩, ⟨_, #[], _, em_Font_presets, rfl, rfl, (show (0 : Nat) ≤ sizeLine by decide), .nil⟩, ⟨by rw [adr_of (PySem.W.mg_of X G g_Font)]; exact PySem.W.mg_of X G g_Font, by rw [adr_of (PySem.W.mg_of X G g_Font)]; exact ⟨pg_Font, hd_Font, po_Font, sa_Font⟩, by rw [adr_of (PySem.W.mg_of X G g_Font)]; exact (List.forall_mem_cons.mpr ⟨na_Font_unit, (List.forall_mem_cons.mpr ⟨na_Font_glyphs, (List.forall_mem_cons.mpr ⟨na_Font_chars, (List.forall_mem_cons.mpr ⟨na_Font_lookups, (List.forall_mem_cons.mpr ⟨na_Font_features, (List.forall_mem_cons.mpr ⟨na_Font_axes, (List.forall_mem_cons.mpr ⟨na_Font_regions, (List.forall_mem_cons.mpr ⟨na_Font_functions, (List.forall_mem_cons.mpr ⟨na_Font_presets, (List.forall_mem_nil _)⟩)⟩)⟩)⟩)⟩)⟩)⟩)⟩)⟩), by rw [adr_of (PySem.W.mg_of X G g_Font)]; exact ⟨fI_Font, _, ⟨mk_Font, in_Font, fn_Font, kc_Font⟩, ⟨⟨_, _, _, _, _, _, _, _, _, _, rfl, li_Font, ci_Font, .inl ⟨rfl, rfl⟩, .inr ⟨D_Font, rfl, (List.forall_mem_cons.mpr ⟨⟨_, kd_Font_chars, rfl⟩, (List.forall_mem_cons.mpr ⟨⟨_, kd_Font_lookups, rfl⟩, (List.forall_mem_cons.mpr ⟨⟨_, kd_Font_features, rfl⟩, (List.forall_mem_cons.mpr ⟨⟨_, kd_Font_axes, rfl⟩, (List.forall_mem_cons.mpr ⟨⟨_, kd_Font_regions, rfl⟩, (List.forall_mem_cons.mpr ⟨⟨_, kd_Font_functions, rfl⟩, (List.forall_mem_cons.mpr ⟨⟨_, kd_Font_presets, rfl⟩, (List.forall_mem_nil _)⟩)⟩)⟩)⟩)⟩)⟩)⟩)⟩⟩, ki_Font⟩⟩⟩⟩, (by rw [adr_of (PySem.W.mg_of X G g_WITH_CONTEXT)]; exact PySem.W.mg_of X G g_WITH_CONTEXT), (fun H => by rw [adr_of (PySem.W.mg_of X G g_WITH_CONTEXT)]; exact .inr ⟨_, _, _, t_WITH_CONTEXT, rfl, rfl, (show (2 : Nat) ≤ sizeLine by decide), .cons ⟨_, rfl⟩ (.cons ⟨_, rfl⟩ (.nil))⟩), (by rw [adr_of (PySem.W.mg_of X G g_WITH_OUT)]; exact PySem.W.mg_of X G g_WITH_OUT), (fun H => by rw [adr_of (PySem.W.mg_of X G g_WITH_OUT)]; exact .inr ⟨_, _, _, t_WITH_OUT, rfl, rfl, (show (4 : Nat) ≤ sizeLine by decide), .cons ⟨_, rfl⟩ (.cons ⟨_, rfl⟩ (.cons ⟨_, rfl⟩ (.cons ⟨_, rfl⟩ (.nil))))⟩), (by rw [adr_of (PySem.W.mg_of X G g_ANCHOR_KINDS)]; exact PySem.W.mg_of X G g_ANCHOR_KINDS), (fun H => by rw [adr_of (PySem.W.mg_of X G g_ANCHOR_KINDS)]; exact .inr ⟨_, _, _, t_ANCHOR_KINDS, rfl, rfl, (show (4 : Nat) ≤ sizeLine by decide), .cons ⟨_, rfl⟩ (.cons ⟨_, rfl⟩ (.cons ⟨_, rfl⟩ (.cons ⟨_, rfl⟩ (.nil))))⟩)⟩
  have I : WoK K w mg := ⟨(by rw [adr_of (PySem.W.mg_of X G g_WORDS)]; exact PySem.W.mg_of X G g_WORDS), (by rw [adr_of (PySem.W.mg_of X G g_WORDS)]; exact ⟨_, _, l_WORDS, kl_WORDS, sm_WORDS⟩), (by rw [adr_of (PySem.W.mg_of X G g_WORDS)]; exact (List.forall_mem_cons.mpr ⟨⟨_, e_WORDS_0, fun _ h => by subst h; exact ⟨_, rfl, fun H => .inr ⟨_, _, _, lt_WORDS_0, rfl, rfl, (show (2 : Nat) ≤ sizeLine by decide), .cons ⟨_, rfl⟩ (.cons ⟨_, rfl⟩ (.nil))⟩⟩⟩, (List.forall_mem_cons.mpr ⟨⟨_, e_WORDS_1, fun _ h => by subst h; exact ⟨_, rfl, fun H => .inr ⟨_, _, _, lt_WORDS_1, rfl, rfl, (show (2 : Nat) ≤ sizeLine by decide), .cons ⟨_, rfl⟩ (.cons ⟨_, rfl⟩ (.nil))⟩⟩⟩, (List.forall_mem_cons.mpr ⟨⟨_, e_WORDS_2, fun _ h => by subst h; rfl⟩, (List.forall_mem_cons.mpr ⟨⟨_, e_WORDS_3, fun _ h => by subst h; exact ⟨_, rfl, fun H => .inr ⟨_, _, _, lt_WORDS_3, rfl, rfl, (show (2 : Nat) ≤ sizeLine by decide), .cons ⟨_, rfl⟩ (.cons ⟨_, rfl⟩ (.nil))⟩⟩⟩, (List.forall_mem_cons.mpr ⟨⟨_, e_WORDS_4, fun _ h => by subst h; exact ⟨_, rfl, fun H => .inr ⟨_, _, _, lt_WORDS_4, rfl, rfl, (show (2 : Nat) ≤ sizeLine by decide), .cons ⟨_, rfl⟩ (.cons ⟨_, rfl⟩ (.nil))⟩⟩⟩, (List.forall_mem_cons.mpr ⟨⟨_, e_WORDS_5, fun _ h => by subst h; rfl⟩, (List.forall_mem_cons.mpr ⟨⟨_, e_WORDS_6, fun _ h => by subst h; rfl⟩, (List.forall_mem_cons.mpr ⟨⟨_, e_WORDS_7, fun _ h => by subst h; exact ⟨_, rfl, fun H => .inr ⟨_, _, _, lt_WORDS_7, rfl, rfl, (show (2 : Nat) ≤ sizeLine by decide), .cons ⟨_, rfl⟩ (.cons ⟨_, rfl⟩ (.nil))⟩⟩⟩, (List.forall_mem_cons.mpr ⟨⟨_, e_WORDS_8, fun _ h => by subst h; exact ⟨_, rfl, fun H => .inr ⟨_, _, _, lt_WORDS_8, rfl, rfl, (show (2 : Nat) ≤ sizeLine by decide), .cons ⟨_, rfl⟩ (.cons ⟨_, rfl⟩ (.nil))⟩⟩⟩, (List.forall_mem_cons.mpr ⟨⟨_, e_WORDS_9, fun _ h => by subst h; exact ⟨_, rfl, fun H => .inr ⟨_, _, _, lt_WORDS_9, rfl, rfl, (show (2 : Nat) ≤ sizeLine by decide), .cons ⟨_, rfl⟩ (.cons ⟨_, rfl⟩ (.nil))⟩⟩⟩, (List.forall_mem_cons.mpr ⟨⟨_, e_WORDS_10, fun _ h => by subst h; exact ⟨_, rfl, fun H => .inr ⟨_, _, _, lt_WORDS_10, rfl, rfl, (show (2 : Nat) ≤ sizeLine by decide), .cons ⟨_, rfl⟩ (.cons ⟨_, rfl⟩ (.nil))⟩⟩⟩, (List.forall_mem_cons.mpr ⟨⟨_, e_WORDS_11, fun _ h => by subst h; exact ⟨_, rfl, fun H => .inr ⟨_, _, _, lt_WORDS_11, rfl, rfl, (show (2 : Nat) ≤ sizeLine by decide), .cons ⟨_, rfl⟩ (.cons ⟨_, rfl⟩ (.nil))⟩⟩⟩, (List.forall_mem_cons.mpr ⟨⟨_, e_WORDS_12, fun _ h => by subst h; exact ⟨_, rfl, fun H => .inr ⟨_, _, _, lt_WORDS_12, rfl, rfl, (show (2 : Nat) ≤ sizeLine by decide), .cons ⟨_, rfl⟩ (.cons ⟨_, rfl⟩ (.nil))⟩⟩⟩, (List.forall_mem_cons.mpr ⟨⟨_, e_WORDS_13, fun _ h => by subst h; exact ⟨_, rfl, fun H => .inr ⟨_, _, _, lt_WORDS_13, rfl, rfl, (show (2 : Nat) ≤ sizeLine by decide), .cons ⟨_, rfl⟩ (.cons ⟨_, rfl⟩ (.nil))⟩⟩⟩, (List.forall_mem_cons.mpr ⟨⟨_, e_WORDS_14, fun _ h => by subst h; exact ⟨_, rfl, fun H => .inr ⟨_, _, _, lt_WORDS_14, rfl, rfl, (show (2 : Nat) ≤ sizeLine by decide), .cons ⟨_, rfl⟩ (.cons ⟨_, rfl⟩ (.nil))⟩⟩⟩, (List.forall_mem_cons.mpr ⟨⟨_, e_WORDS_15, fun _ h => by subst h; exact ⟨_, rfl, fun H => .inr ⟨_, _, _, lt_WORDS_15, rfl, rfl, (show (2 : Nat) ≤ sizeLine by decide), .cons ⟨_, rfl⟩ (.cons ⟨_, rfl⟩ (.nil))⟩⟩⟩, (List.forall_mem_cons.mpr ⟨⟨_, e_WORDS_16, fun _ h => by subst h; exact ⟨_, rfl, fun H => .inr ⟨_, _, _, lt_WORDS_16, rfl, rfl, (show (2 : Nat) ≤ sizeLine by decide), .cons ⟨_, rfl⟩ (.cons ⟨_, rfl⟩ (.nil))⟩⟩⟩, (List.forall_mem_cons.mpr ⟨⟨_, e_WORDS_17, fun _ h => by subst h; exact ⟨_, rfl, fun H => .inr ⟨_, _, _, lt_WORDS_17, rfl, rfl, (show (2 : Nat) ≤ sizeLine by decide), .cons ⟨_, rfl⟩ (.cons ⟨_, rfl⟩ (.nil))⟩⟩⟩, (List.forall_mem_cons.mpr ⟨⟨_, e_WORDS_18, fun _ h => by subst h; exact ⟨_, rfl, fun H => .inr ⟨_, _, _, lt_WORDS_18, rfl, rfl, (show (2 : Nat) ≤ sizeLine by decide), .cons ⟨_, rfl⟩ (.cons ⟨_, rfl⟩ (.nil))⟩⟩⟩, (List.forall_mem_cons.mpr ⟨⟨_, e_WORDS_19, fun _ h => by subst h; exact ⟨_, rfl, fun H => .inr ⟨_, _, _, lt_WORDS_19, rfl, rfl, (show (2 : Nat) ≤ sizeLine by decide), .cons ⟨_, rfl⟩ (.cons ⟨_, rfl⟩ (.nil))⟩⟩⟩, (List.forall_mem_cons.mpr ⟨⟨_, e_WORDS_20, fun _ h => by subst h; exact ⟨_, rfl, fun H => .inr ⟨_, _, _, lt_WORDS_20, rfl, rfl, (show (2 : Nat) ≤ sizeLine by decide), .cons ⟨_, rfl⟩ (.cons ⟨_, rfl⟩ (.nil))⟩⟩⟩, (List.forall_mem_cons.mpr ⟨⟨_, e_WORDS_21, fun _ h => by subst h; exact ⟨_, rfl, fun H => .inr ⟨_, _, _, lt_WORDS_21, rfl, rfl, (show (2 : Nat) ≤ sizeLine by decide), .cons ⟨_, rfl⟩ (.cons ⟨_, rfl⟩ (.nil))⟩⟩⟩, (List.forall_mem_cons.mpr ⟨⟨_, e_WORDS_22, fun _ h => by subst h; exact ⟨_, rfl, fun H => .inr ⟨_, _, _, lt_WORDS_22, rfl, rfl, (show (2 : Nat) ≤ sizeLine by decide), .cons ⟨_, rfl⟩ (.cons ⟨_, rfl⟩ (.nil))⟩⟩⟩, (List.forall_mem_cons.mpr ⟨⟨_, e_WORDS_23, fun _ h => by subst h; exact ⟨_, rfl, fun H => .inr ⟨_, _, _, lt_WORDS_23, rfl, rfl, (show (2 : Nat) ≤ sizeLine by decide), .cons ⟨_, rfl⟩ (.cons ⟨_, rfl⟩ (.nil))⟩⟩⟩, (List.forall_mem_cons.mpr ⟨⟨_, e_WORDS_24, fun _ h => by subst h; exact ⟨_, rfl, fun H => .inr ⟨_, _, _, lt_WORDS_24, rfl, rfl, (show (2 : Nat) ≤ sizeLine by decide), .cons ⟨_, rfl⟩ (.cons ⟨_, rfl⟩ (.nil))⟩⟩⟩, (List.forall_mem_cons.mpr ⟨⟨_, e_WORDS_25, fun _ h => by subst h; exact ⟨_, rfl, fun H => .inr ⟨_, _, _, lt_WORDS_25, rfl, rfl, (show (2 : Nat) ≤ sizeLine by decide), .cons ⟨_, rfl⟩ (.cons ⟨_, rfl⟩ (.nil))⟩⟩⟩, (List.forall_mem_cons.mpr ⟨⟨_, e_WORDS_26, fun _ h => by subst h; exact ⟨_, rfl, fun H => .inr ⟨_, _, _, lt_WORDS_26, rfl, rfl, (show (2 : Nat) ≤ sizeLine by decide), .cons ⟨_, rfl⟩ (.cons ⟨_, rfl⟩ (.nil))⟩⟩⟩, (List.forall_mem_cons.mpr ⟨⟨_, e_WORDS_27, fun _ h => by subst h; exact ⟨_, rfl, fun H => .inr ⟨_, _, _, lt_WORDS_27, rfl, rfl, (show (2 : Nat) ≤ sizeLine by decide), .cons ⟨_, rfl⟩ (.cons ⟨_, rfl⟩ (.nil))⟩⟩⟩, (List.forall_mem_cons.mpr ⟨⟨_, e_WORDS_28, fun _ h => by subst h; exact ⟨_, rfl, fun H => .inr ⟨_, _, _, lt_WORDS_28, rfl, rfl, (show (2 : Nat) ≤ sizeLine by decide), .cons ⟨_, rfl⟩ (.cons ⟨_, rfl⟩ (.nil))⟩⟩⟩, (List.forall_mem_cons.mpr ⟨⟨_, e_WORDS_29, fun _ h => by subst h; exact ⟨_, rfl, fun H => .inr ⟨_, _, _, lt_WORDS_29, rfl, rfl, (show (2 : Nat) ≤ sizeLine by decide), .cons ⟨_, rfl⟩ (.cons ⟨_, rfl⟩ (.nil))⟩⟩⟩, (List.forall_mem_cons.mpr ⟨⟨_, e_WORDS_30, fun _ h => by subst h; exact ⟨_, rfl, fun H => .inr ⟨_, _, _, lt_WORDS_30, rfl, rfl, (show (2 : Nat) ≤ sizeLine by decide), .cons ⟨_, rfl⟩ (.cons ⟨_, rfl⟩ (.nil))⟩⟩⟩, (List.forall_mem_cons.mpr ⟨⟨_, e_WORDS_31, fun _ h => by subst h; exact ⟨_, rfl, fun H => .inr ⟨_, _, _, lt_WORDS_31, rfl, rfl, (show (2 : Nat) ≤ sizeLine by decide), .cons ⟨_, rfl⟩ (.cons ⟨_, rfl⟩ (.nil))⟩⟩⟩, (List.forall_mem_cons.mpr ⟨⟨_, e_WORDS_32, fun _ h => by subst h; exact ⟨_, rfl, fun H => .inr ⟨_, _, _, lt_WORDS_32, rfl, rfl, (show (2 : Nat) ≤ sizeLine by decide), .cons ⟨_, rfl⟩ (.cons ⟨_, rfl⟩ (.nil))⟩⟩⟩, (List.forall_mem_cons.mpr ⟨⟨_, e_WORDS_33, fun _ h => by subst h; exact ⟨_, rfl, fun H => .inr ⟨_, _, _, lt_WORDS_33, rfl, rfl, (show (2 : Nat) ≤ sizeLine by decide), .cons ⟨_, rfl⟩ (.cons ⟨_, rfl⟩ (.nil))⟩⟩⟩, (List.forall_mem_cons.mpr ⟨⟨_, e_WORDS_34, fun _ h => by subst h; exact ⟨_, rfl, fun H => .inr ⟨_, _, _, lt_WORDS_34, rfl, rfl, (show (2 : Nat) ≤ sizeLine by decide), .cons ⟨_, rfl⟩ (.cons ⟨_, rfl⟩ (.nil))⟩⟩⟩, (List.forall_mem_cons.mpr ⟨⟨_, e_WORDS_35, fun _ h => by subst h; exact ⟨_, rfl, fun H => .inr ⟨_, _, _, lt_WORDS_35, rfl, rfl, (show (2 : Nat) ≤ sizeLine by decide), .cons ⟨_, rfl⟩ (.cons ⟨_, rfl⟩ (.nil))⟩⟩⟩, (List.forall_mem_cons.mpr ⟨⟨_, e_WORDS_36, fun _ h => by subst h; exact ⟨_, rfl, fun H => .inr ⟨_, _, _, lt_WORDS_36, rfl, rfl, (show (2 : Nat) ≤ sizeLine by decide), .cons ⟨_, rfl⟩ (.cons ⟨_, rfl⟩ (.nil))⟩⟩⟩, (List.forall_mem_cons.mpr ⟨⟨_, e_WORDS_37, fun _ h => by subst h; exact ⟨_, rfl, fun H => .inr ⟨_, _, _, lt_WORDS_37, rfl, rfl, (show (2 : Nat) ≤ sizeLine by decide), .cons ⟨_, rfl⟩ (.cons ⟨_, rfl⟩ (.nil))⟩⟩⟩, (List.forall_mem_cons.mpr ⟨⟨_, e_WORDS_38, fun _ h => by subst h; exact ⟨_, rfl, fun H => .inr ⟨_, _, _, lt_WORDS_38, rfl, rfl, (show (2 : Nat) ≤ sizeLine by decide), .cons ⟨_, rfl⟩ (.cons ⟨_, rfl⟩ (.nil))⟩⟩⟩, (List.forall_mem_cons.mpr ⟨⟨_, e_WORDS_39, fun _ h => by subst h; exact ⟨_, rfl, fun H => .inr ⟨_, _, _, lt_WORDS_39, rfl, rfl, (show (2 : Nat) ≤ sizeLine by decide), .cons ⟨_, rfl⟩ (.cons ⟨_, rfl⟩ (.nil))⟩⟩⟩, (List.forall_mem_cons.mpr ⟨⟨_, e_WORDS_40, fun _ h => by subst h; exact ⟨_, rfl, fun H => .inr ⟨_, _, _, lt_WORDS_40, rfl, rfl, (show (2 : Nat) ≤ sizeLine by decide), .cons ⟨_, rfl⟩ (.cons ⟨_, rfl⟩ (.nil))⟩⟩⟩, (List.forall_mem_cons.mpr ⟨⟨_, e_WORDS_41, fun _ h => by subst h; exact ⟨_, rfl, fun H => .inr ⟨_, _, _, lt_WORDS_41, rfl, rfl, (show (2 : Nat) ≤ sizeLine by decide), .cons ⟨_, rfl⟩ (.cons ⟨_, rfl⟩ (.nil))⟩⟩⟩, (List.forall_mem_cons.mpr ⟨⟨_, e_WORDS_42, fun _ h => by subst h; rfl⟩, (List.forall_mem_nil _)⟩)⟩)⟩)⟩)⟩)⟩)⟩)⟩)⟩)⟩)⟩)⟩)⟩)⟩)⟩)⟩)⟩)⟩)⟩)⟩)⟩)⟩)⟩)⟩)⟩)⟩)⟩)⟩)⟩)⟩)⟩)⟩)⟩)⟩)⟩)⟩)⟩)⟩)⟩)⟩)⟩)⟩)⟩))⟩
  exact ⟨PySem.W.fnOf "law" "law" (defArgs s_law) (defBody s_law) (defScope s_law) .none kV36 dc36 pm36 an36 cd36 ct36, fun s v => .of_eq rfl, fun base _ _ => ok_law T I (fun_mk l36 c36 k36)⟩
end K40
open PySem PySem.W PyProof.Rows
set_option maxHeartbeats 0 in
theorem PySem.Challenge.cw_fleuron_k40_places_and_shares_holds : PySem.Challenge.rw_fleuron_k40_places_and_shares.Holds := by
  w_on; o_law; k_head; (case hw => w_witness2)
  k_fill
  refine L2.walk_of (l := PySem.Challenge.rw_fleuron_k40_places_and_shares) (n := 63) (k := 14) (x := "script") (CX := fun _ => L2.CX0) (sp := fun w => K40.spLaw _) rfl (by decide) rfl ⟨rfl, by decide, by decide⟩ (fun w h Y => PySem.W.kIn_of Y) ?F (fun _ _ a ns hl _ hS => ⟨a, ns, rfl, hS, hl, fun _ => rfl⟩) (fun _ _ _ _ _ h => h)
  case F =>
    intro w mg fa h KX G hmg
    refine' K40.all_mk KX G hmg ?a0 ?l0 ?c0 ?k0 ?a1 ?l1 ?c1 ?k1 ?a2 ?l2 ?c2 ?k2 ?a3 ?l3 ?c3 ?k3 ?a4 ?l4 ?c4 ?k4 ?a5 ?l5 ?c5 ?k5 ?a6 ?l6 ?c6 ?k6 ?a7 ?l7 ?c7 ?k7 ?a8 ?l8 ?c8 ?k8 ?a9 ?l9 ?c9 ?k9 ?a10 ?l10 ?c10 ?k10 ?a11 ?l11 ?c11 ?k11 ?a12 ?l12 ?c12 ?k12 ?a13 ?l13 ?c13 ?k13 ?a14 ?l14 ?c14 ?k14 ?a15 ?l15 ?c15 ?k15 ?a16 ?l16 ?c16 ?k16 ?a17 ?l17 ?c17 ?k17 ?a18 ?l18 ?c18 ?k18 ?a19 ?l19 ?c19 ?k19 ?a20 ?l20 ?c20 ?k20 ?a21 ?l21 ?c21 ?k21 ?a22 ?l22 ?c22 ?k22 ?a23 ?l23 ?c23 ?k23 ?a24 ?l24 ?c24 ?k24 ?a25 ?l25 ?c25 ?k25 ?a26 ?l26 ?c26 ?k26 ?a27 ?l27 ?c27 ?k27 ?a28 ?l28 ?c28 ?k28 ?a29 ?l29 ?c29 ?k29 ?a30 ?l30 ?c30 ?k30 ?a31 ?l31 ?c31 ?k31 ?a32 ?l32 ?c32 ?k32 ?a33 ?l33 ?c33 ?k33 ?a34 ?l34 ?c34 ?k34 ?a35 ?l35 ?c35 ?k35 ?a36 ?l36 ?c36 ?k36 ?a37 ?l37 ?c37 ?k37 ?t37 ?a38 ?l38 ?c38 ?k38 ?a39 ?l39 ?c39 ?k39 ?a40 ?l40 ?c40 ?k40 ?a41 ?l41 ?c41 ?k41 ?a42 ?l42 ?c42 ?k42 ?a43 ?l43 ?c43 ?k43 ?a44 ?l44 ?c44 ?k44 ?a45 ?l45 ?c45 ?k45 ?a46 ?l46 ?c46 ?k46 ?a47 ?l47 ?c47 ?k47 ?a48 ?l48 ?c48 ?k48 ?a49 ?l49 ?c49 ?k49 ?a50 ?l50 ?c50 ?k50 ?a51 ?l51 ?c51 ?k51 ?a52 ?l52 ?c52 ?k52 ?a53 ?l53 ?c53 ?k53 ?a54 ?l54 ?c54 ?k54 ?a55 ?l55 ?c55 ?k55 ?a56 ?l56 ?c56 ?k56 ?a57 ?l57 ?c57 ?k57 ?a58 ?l58 ?c58 ?k58 ?a59 ?l59 ?c59 ?k59 ?a60 ?l60 ?c60 ?k60 ?a61 ?l61 ?c61 ?k61 ?z_abs ?z_all ?z_bool ?z_enumerate ?z_int ?z_isinstance ?z_len ?z_list ?z_range ?z_set ?z_str ?z_sum ?z_tuple ?z_zip ?g_ADVANCE ?g_DEEPEST ?g_FARTHEST ?g_GREATEST_NUMBER ?g_LEAST_NUMBER ?g_LEAST_OF_CONTOUR ?g_MOST_CONTOURS ?g_MOST_POINTS ?g_WHOLE ?g_gcd ?g_FleuronError ?sg_FleuronError ?ty_FleuronError ?rd_FleuronError ?fc_FleuronError ?be_FleuronError ?hd_FleuronError ?hn_ ?ht_ ?g_ZeroDivisor ?xL_ZeroDivisor ?sa_ZeroDivisor ?be_ZeroDivisor ?ty_ZeroDivisor ?kC_ZeroDivisor ?ga_ZeroDivisor ?gg_ZeroDivisor ?hd_ZeroDivisor ?cl_ZeroDivisor ?mo_ZeroDivisor ?in_ZeroDivisor ?tf_ZeroDivisor ?li_ZeroDivisor ?ci_ZeroDivisor ?ki_ZeroDivisor ?sb_ZeroDivisor ?g_InvalidPlace ?xL_InvalidPlace ?sa_InvalidPlace ?be_InvalidPlace ?ty_InvalidPlace ?kC_InvalidPlace ?ga_InvalidPlace ?gg_InvalidPlace ?hd_InvalidPlace ?cl_InvalidPlace ?mo_InvalidPlace ?in_InvalidPlace ?tf_InvalidPlace ?li_InvalidPlace ?ci_InvalidPlace ?ki_InvalidPlace ?sb_InvalidPlace ?g_UnknownGlyph ?xL_UnknownGlyph ?sa_UnknownGlyph ?be_UnknownGlyph ?ty_UnknownGlyph ?kC_UnknownGlyph ?hd_UnknownGlyph ?fn_UnknownGlyph ?ga_UnknownGlyph ?gg_UnknownGlyph ?in_UnknownGlyph ?tf_UnknownGlyph ?li_UnknownGlyph ?ci_UnknownGlyph ?ki_UnknownGlyph ?g_OutOfRange ?xL_OutOfRange ?sa_OutOfRange ?be_OutOfRange ?ty_OutOfRange ?kC_OutOfRange ?hd_OutOfRange ?fn_OutOfRange ?ga_OutOfRange ?gg_OutOfRange ?in_OutOfRange ?tf_OutOfRange ?li_OutOfRange ?ci_OutOfRange ?ki_OutOfRange ?cl_UnknownGlyph ?mo_UnknownGlyph ?sb_UnknownGlyph ?kb_InvalidPlace_UnknownGlyph ?sx_UnknownGlyph ?kb_UnknownGlyph_InvalidPlace ?sx_InvalidPlace ?g_Glyph ?pg_Glyph ?hd_Glyph ?po_Glyph ?sa_Glyph ?mk_Glyph ?in_Glyph ?fn_Glyph ?kc_Glyph ?li_Glyph ?ci_Glyph ?ki_Glyph ?kd_Glyph_parts ?em_Glyph_parts ?kd_Glyph_anchors ?em_Glyph_anchors ?kd_Glyph_mark ?kd_Glyph_deltas ?em_Glyph_deltas ?kd_Glyph_hint ?em_Glyph_hint ?na_Glyph_advance ?na_Glyph_outline ?na_Glyph_parts ?na_Glyph_anchors ?na_Glyph_mark ?na_Glyph_deltas ?na_Glyph_hint ?g_Rule ?pg_Rule ?hd_Rule ?po_Rule ?sa_Rule ?mk_Rule ?in_Rule ?fn_Rule ?kc_Rule ?li_Rule ?ci_Rule ?ki_Rule ?kd_Rule_back ?em_Rule_back ?kd_Rule_ahead ?em_Rule_ahead ?kd_Rule_out ?em_Rule_out ?kd_Rule_calls ?em_Rule_calls ?kd_Rule_extra ?na_Rule_inside ?na_Rule_back ?na_Rule_ahead ?na_Rule_out ?na_Rule_calls ?na_Rule_extra ?g_Lookup ?pg_Lookup ?hd_Lookup ?po_Lookup ?sa_Lookup ?mk_Lookup ?in_Lookup ?fn_Lookup ?kc_Lookup ?li_Lookup ?ci_Lookup ?ki_Lookup ?kd_Lookup_ignore ?na_Lookup_kind ?na_Lookup_rules ?na_Lookup_ignore ?g_Font ?pg_Font ?hd_Font ?po_Font ?sa_Font ?mk_Font ?in_Font ?fn_Font ?kc_Font ?li_Font ?ci_Font ?ki_Font ?kd_Font_chars ?em_Font_chars ?kd_Font_lookups ?em_Font_lookups ?kd_Font_features ?em_Font_features ?kd_Font_axes ?em_Font_axes ?kd_Font_regions ?em_Font_regions ?kd_Font_functions ?em_Font_functions ?kd_Font_presets ?em_Font_presets ?na_Font_unit ?na_Font_glyphs ?na_Font_chars ?na_Font_lookups ?na_Font_features ?na_Font_axes ?na_Font_regions ?na_Font_functions ?na_Font_presets ?g_WITH_CONTEXT ?t_WITH_CONTEXT ?g_WITH_OUT ?t_WITH_OUT ?g_ANCHOR_KINDS ?t_ANCHOR_KINDS ?g_WORDS ?l_WORDS ?kl_WORDS ?sm_WORDS ?e_WORDS_0 ?lt_WORDS_0 ?e_WORDS_1 ?lt_WORDS_1 ?e_WORDS_2 ?e_WORDS_3 ?lt_WORDS_3 ?e_WORDS_4 ?lt_WORDS_4 ?e_WORDS_5 ?e_WORDS_6 ?e_WORDS_7 ?lt_WORDS_7 ?e_WORDS_8 ?lt_WORDS_8 ?e_WORDS_9 ?lt_WORDS_9 ?e_WORDS_10 ?lt_WORDS_10 ?e_WORDS_11 ?lt_WORDS_11 ?e_WORDS_12 ?lt_WORDS_12 ?e_WORDS_13 ?lt_WORDS_13 ?e_WORDS_14 ?lt_WORDS_14 ?e_WORDS_15 ?lt_WORDS_15 ?e_WORDS_16 ?lt_WORDS_16 ?e_WORDS_17 ?lt_WORDS_17 ?e_WORDS_18 ?lt_WORDS_18 ?e_WORDS_19 ?lt_WORDS_19 ?e_WORDS_20 ?lt_WORDS_20 ?e_WORDS_21 ?lt_WORDS_21 ?e_WORDS_22 ?lt_WORDS_22 ?e_WORDS_23 ?lt_WORDS_23 ?e_WORDS_24 ?lt_WORDS_24 ?e_WORDS_25 ?lt_WORDS_25 ?e_WORDS_26 ?lt_WORDS_26 ?e_WORDS_27 ?lt_WORDS_27 ?e_WORDS_28 ?lt_WORDS_28 ?e_WORDS_29 ?lt_WORDS_29 ?e_WORDS_30 ?lt_WORDS_30 ?e_WORDS_31 ?lt_WORDS_31 ?e_WORDS_32 ?lt_WORDS_32 ?e_WORDS_33 ?lt_WORDS_33 ?e_WORDS_34 ?lt_WORDS_34 ?e_WORDS_35 ?lt_WORDS_35 ?e_WORDS_36 ?lt_WORDS_36 ?e_WORDS_37 ?lt_WORDS_37 ?e_WORDS_38 ?lt_WORDS_38 ?e_WORDS_39 ?lt_WORDS_39 ?e_WORDS_40 ?lt_WORDS_40 ?e_WORDS_41 ?lt_WORDS_41 ?e_WORDS_42
    (case a0 => k_is); (case l0 => k_is); (case c0 => k_is); (case k0 => k_is); (case a1 => k_is); (case l1 => k_is); (case c1 => k_is); (case k1 => k_is); (case a2 => k_is); (case l2 => k_is); (case c2 => k_is); (case k2 => k_is); (case a3 => k_is); (case l3 => k_is); (case c3 => k_is); (case k3 => k_is); (case a4 => k_is); (case l4 => k_is); (case c4 => k_is); (case k4 => k_is); (case a5 => k_is); (case l5 => k_is); (case c5 => k_is); (case k5 => k_is); (case a6 => k_is); (case l6 => k_is); (case c6 => k_is); (case k6 => k_is); (case a7 => k_is); (case l7 => k_is); (case c7 => k_is); (case k7 => k_is); (case a8 => k_is); (case l8 => k_is); (case c8 => k_is); (case k8 => k_is); (case a9 => k_is); (case l9 => k_is); (case c9 => k_is); (case k9 => k_is); (case a10 => k_is); (case l10 => k_is); (case c10 => k_is); (case k10 => k_is); (case a11 => k_is); (case l11 => k_is); (case c11 => k_is); (case k11 => k_is); (case a12 => k_is); (case l12 => k_is); (case c12 => k_is); (case k12 => k_is); (case a13 => k_is); (case l13 => k_is); (case c13 => k_is); (case k13 => k_is); (case a14 => k_is); (case l14 => k_is); (case c14 => k_is); (case k14 => k_is); (case a15 => k_is); (case l15 => k_is); (case c15 => k_is); (case k15 => k_is); (case a16 => k_is); (case l16 => k_is); (case c16 => k_is); (case k16 => k_is); (case a17 => k_is); (case l17 => k_is); (case c17 => k_is); (case k17 => k_is); (case a18 => k_is); (case l18 => k_is); (case c18 => k_is); (case k18 => k_is); (case a19 => k_is); (case l19 => k_is); (case c19 => k_is); (case k19 => k_is); (case a20 => k_is); (case l20 => k_is); (case c20 => k_is); (case k20 => k_is); (case a21 => k_is); (case l21 => k_is); (case c21 => k_is); (case k21 => k_is); (case a22 => k_is); (case l22 => k_is); (case c22 => k_is); (case k22 => k_is); (case a23 => k_is); (case l23 => k_is); (case c23 => k_is); (case k23 => k_is); (case a24 => k_is); (case l24 => k_is); (case c24 => k_is); (case k24 => k_is); (case a25 => k_is); (case l25 => k_is); (case c25 => k_is); (case k25 => k_is); (case a26 => k_is); (case l26 => k_is); (case c26 => k_is); (case k26 => k_is); (case a27 => k_is); (case l27 => k_is); (case c27 => k_is); (case k27 => k_is); (case a28 => k_is); (case l28 => k_is); (case c28 => k_is); (case k28 => k_is); (case a29 => k_is); (case l29 => k_is); (case c29 => k_is); (case k29 => k_is); (case a30 => k_is); (case l30 => k_is); (case c30 => k_is); (case k30 => k_is); (case a31 => k_is); (case l31 => k_is); (case c31 => k_is); (case k31 => k_is); (case a32 => k_is); (case l32 => k_is); (case c32 => k_is); (case k32 => k_is); (case a33 => k_is); (case l33 => k_is); (case c33 => k_is); (case k33 => k_is); (case a34 => k_is); (case l34 => k_is); (case c34 => k_is); (case k34 => k_is); (case a35 => k_is); (case l35 => k_is); (case c35 => k_is); (case k35 => k_is); (case a36 => k_is); (case l36 => k_is); (case c36 => k_is); (case k36 => k_is); (case a37 => k_is); (case l37 => k_is); (case c37 => k_is); (case k37 => k_is); (case t37 => k_is); (case a38 => k_is); (case l38 => k_is); (case c38 => k_is); (case k38 => k_is); (case a39 => k_is); (case l39 => k_is); (case c39 => k_is); (case k39 => k_is); (case a40 => k_is); (case l40 => k_is); (case c40 => k_is); (case k40 => k_is); (case a41 => k_is); (case l41 => k_is); (case c41 => k_is); (case k41 => k_is); (case a42 => k_is); (case l42 => k_is); (case c42 => k_is); (case k42 => k_is); (case a43 => k_is); (case l43 => k_is); (case c43 => k_is); (case k43 => k_is); (case a44 => k_is); (case l44 => k_is); (case c44 => k_is); (case k44 => k_is); (case a45 => k_is); (case l45 => k_is); (case c45 => k_is); (case k45 => k_is); (case a46 => k_is); (case l46 => k_is); (case c46 => k_is); (case k46 => k_is); (case a47 => k_is); (case l47 => k_is); (case c47 => k_is); (case k47 => k_is); (case a48 => k_is); (case l48 => k_is); (case c48 => k_is); (case k48 => k_is); (case a49 => k_is); (case l49 => k_is); (case c49 => k_is); (case k49 => k_is); (case a50 => k_is); (case l50 => k_is); (case c50 => k_is); (case k50 => k_is); (case a51 => k_is); (case l51 => k_is); (case c51 => k_is); (case k51 => k_is); (case a52 => k_is); (case l52 => k_is); (case c52 => k_is); (case k52 => k_is); (case a53 => k_is); (case l53 => k_is); (case c53 => k_is); (case k53 => k_is); (case a54 => k_is); (case l54 => k_is); (case c54 => k_is); (case k54 => k_is); (case a55 => k_is); (case l55 => k_is); (case c55 => k_is); (case k55 => k_is); (case a56 => k_is); (case l56 => k_is); (case c56 => k_is); (case k56 => k_is); (case a57 => k_is); (case l57 => k_is); (case c57 => k_is); (case k57 => k_is); (case a58 => k_is); (case l58 => k_is); (case c58 => k_is); (case k58 => k_is); (case a59 => k_is); (case l59 => k_is); (case c59 => k_is); (case k59 => k_is); (case a60 => k_is); (case l60 => k_is); (case c60 => k_is); (case k60 => k_is); (case a61 => k_is); (case l61 => k_is); (case c61 => k_is); (case k61 => k_is); (case z_abs => k_is); (case z_all => k_is); (case z_bool => k_is); (case z_enumerate => k_is); (case z_int => k_is); (case z_isinstance => k_is); (case z_len => k_is); (case z_list => k_is); (case z_range => k_is); (case z_set => k_is); (case z_str => k_is); (case z_sum => k_is); (case z_tuple => k_is); (case z_zip => k_is); (case g_ADVANCE => k_is); (case g_DEEPEST => k_is); (case g_FARTHEST => k_is); (case g_GREATEST_NUMBER => k_is); (case g_LEAST_NUMBER => k_is); (case g_LEAST_OF_CONTOUR => k_is); (case g_MOST_CONTOURS => k_is); (case g_MOST_POINTS => k_is); (case g_WHOLE => k_is); (case g_gcd => k_is); (case g_FleuronError => k_is); (case sg_FleuronError => k_is); (case ty_FleuronError => k_is); (case rd_FleuronError => k_is); (case fc_FleuronError => k_is); (case be_FleuronError => k_is); (case hd_FleuronError => k_is); (case hn_ => k_is); (case ht_ => k_is); (case g_ZeroDivisor => k_is); (case xL_ZeroDivisor => k_is); (case sa_ZeroDivisor => k_is); (case be_ZeroDivisor => k_is); (case ty_ZeroDivisor => k_is); (case kC_ZeroDivisor => k_is); (case ga_ZeroDivisor => k_is); (case gg_ZeroDivisor => k_is); (case hd_ZeroDivisor => k_is); (case cl_ZeroDivisor => k_is); (case mo_ZeroDivisor => k_is); (case in_ZeroDivisor => k_is); (case tf_ZeroDivisor => k_is); (case li_ZeroDivisor => k_is); (case ci_ZeroDivisor => k_is); (case ki_ZeroDivisor => k_is); (case sb_ZeroDivisor => k_is); (case g_InvalidPlace => k_is); (case xL_InvalidPlace => k_is); (case sa_InvalidPlace => k_is); (case be_InvalidPlace => k_is); (case ty_InvalidPlace => k_is); (case kC_InvalidPlace => k_is); (case ga_InvalidPlace => k_is); (case gg_InvalidPlace => k_is); (case hd_InvalidPlace => k_is); (case cl_InvalidPlace => k_is); (case mo_InvalidPlace => k_is); (case in_InvalidPlace => k_is); (case tf_InvalidPlace => k_is); (case li_InvalidPlace => k_is); (case ci_InvalidPlace => k_is); (case ki_InvalidPlace => k_is); (case sb_InvalidPlace => k_is); (case g_UnknownGlyph => k_is); (case xL_UnknownGlyph => k_is); (case sa_UnknownGlyph => k_is); (case be_UnknownGlyph => k_is); (case ty_UnknownGlyph => k_is); (case kC_UnknownGlyph => k_is); (case hd_UnknownGlyph => k_is); (case fn_UnknownGlyph => k_is); (case ga_UnknownGlyph => k_is); (case gg_UnknownGlyph => k_is); (case in_UnknownGlyph => k_is); (case tf_UnknownGlyph => k_is); (case li_UnknownGlyph => k_is); (case ci_UnknownGlyph => k_is); (case ki_UnknownGlyph => k_is); (case g_OutOfRange => k_is); (case xL_OutOfRange => k_is); (case sa_OutOfRange => k_is); (case be_OutOfRange => k_is); (case ty_OutOfRange => k_is); (case kC_OutOfRange => k_is); (case hd_OutOfRange => k_is); (case fn_OutOfRange => k_is); (case ga_OutOfRange => k_is); (case gg_OutOfRange => k_is); (case in_OutOfRange => k_is); (case tf_OutOfRange => k_is); (case li_OutOfRange => k_is); (case ci_OutOfRange => k_is); (case ki_OutOfRange => k_is); (case cl_UnknownGlyph => k_is); (case mo_UnknownGlyph => k_is); (case sb_UnknownGlyph => k_is); (case kb_InvalidPlace_UnknownGlyph => k_is); (case sx_UnknownGlyph => k_is); (case kb_UnknownGlyph_InvalidPlace => k_is); (case sx_InvalidPlace => k_is); (case g_Glyph => k_is); (case pg_Glyph => k_is); (case hd_Glyph => k_is); (case po_Glyph => k_is); (case sa_Glyph => k_is); (case mk_Glyph => k_is); (case in_Glyph => k_is); (case fn_Glyph => k_is); (case kc_Glyph => k_is); (case li_Glyph => k_is); (case ci_Glyph => k_is); (case ki_Glyph => k_is); (case kd_Glyph_parts => k_is); (case em_Glyph_parts => k_is); (case kd_Glyph_anchors => k_is); (case em_Glyph_anchors => k_is); (case kd_Glyph_mark => k_is); (case kd_Glyph_deltas => k_is); (case em_Glyph_deltas => k_is); (case kd_Glyph_hint => k_is); (case em_Glyph_hint => k_is); (case na_Glyph_advance => k_is); (case na_Glyph_outline => k_is); (case na_Glyph_parts => k_is); (case na_Glyph_anchors => k_is); (case na_Glyph_mark => k_is); (case na_Glyph_deltas => k_is); (case na_Glyph_hint => k_is); (case g_Rule => k_is); (case pg_Rule => k_is); (case hd_Rule => k_is); (case po_Rule => k_is); (case sa_Rule => k_is); (case mk_Rule => k_is); (case in_Rule => k_is); (case fn_Rule => k_is); (case kc_Rule => k_is); (case li_Rule => k_is); (case ci_Rule => k_is); (case ki_Rule => k_is); (case kd_Rule_back => k_is); (case em_Rule_back => k_is); (case kd_Rule_ahead => k_is); (case em_Rule_ahead => k_is); (case kd_Rule_out => k_is); (case em_Rule_out => k_is); (case kd_Rule_calls => k_is); (case em_Rule_calls => k_is); (case kd_Rule_extra => k_is); (case na_Rule_inside => k_is); (case na_Rule_back => k_is); (case na_Rule_ahead => k_is); (case na_Rule_out => k_is); (case na_Rule_calls => k_is); (case na_Rule_extra => k_is); (case g_Lookup => k_is); (case pg_Lookup => k_is); (case hd_Lookup => k_is); (case po_Lookup => k_is); (case sa_Lookup => k_is); (case mk_Lookup => k_is); (case in_Lookup => k_is); (case fn_Lookup => k_is); (case kc_Lookup => k_is); (case li_Lookup => k_is); (case ci_Lookup => k_is); (case ki_Lookup => k_is); (case kd_Lookup_ignore => k_is); (case na_Lookup_kind => k_is); (case na_Lookup_rules => k_is); (case na_Lookup_ignore => k_is); (case g_Font => k_is); (case pg_Font => k_is); (case hd_Font => k_is); (case po_Font => k_is); (case sa_Font => k_is); (case mk_Font => k_is); (case in_Font => k_is); (case fn_Font => k_is); (case kc_Font => k_is); (case li_Font => k_is); (case ci_Font => k_is); (case ki_Font => k_is); (case kd_Font_chars => k_is); (case em_Font_chars => k_is); (case kd_Font_lookups => k_is); (case em_Font_lookups => k_is); (case kd_Font_features => k_is); (case em_Font_features => k_is); (case kd_Font_axes => k_is); (case em_Font_axes => k_is); (case kd_Font_regions => k_is); (case em_Font_regions => k_is); (case kd_Font_functions => k_is); (case em_Font_functions => k_is); (case kd_Font_presets => k_is); (case em_Font_presets => k_is); (case na_Font_unit => k_is); (case na_Font_glyphs => k_is); (case na_Font_chars => k_is); (case na_Font_lookups => k_is); (case na_Font_features => k_is); (case na_Font_axes => k_is); (case na_Font_regions => k_is); (case na_Font_functions => k_is); (case na_Font_presets => k_is); (case g_WITH_CONTEXT => k_is); (case t_WITH_CONTEXT => k_is); (case g_WITH_OUT => k_is); (case t_WITH_OUT => k_is); (case g_ANCHOR_KINDS => k_is); (case t_ANCHOR_KINDS => k_is); (case g_WORDS => k_is); (case l_WORDS => k_is); (case kl_WORDS => k_keys); (case sm_WORDS => rfl); (case e_WORDS_0 => k_is); (case lt_WORDS_0 => k_is); (case e_WORDS_1 => k_is); (case lt_WORDS_1 => k_is); (case e_WORDS_2 => k_is); (case e_WORDS_3 => k_is); (case lt_WORDS_3 => k_is); (case e_WORDS_4 => k_is); (case lt_WORDS_4 => k_is); (case e_WORDS_5 => k_is); (case e_WORDS_6 => k_is); (case e_WORDS_7 => k_is); (case lt_WORDS_7 => k_is); (case e_WORDS_8 => k_is); (case lt_WORDS_8 => k_is); (case e_WORDS_9 => k_is); (case lt_WORDS_9 => k_is); (case e_WORDS_10 => k_is); (case lt_WORDS_10 => k_is); (case e_WORDS_11 => k_is); (case lt_WORDS_11 => k_is); (case e_WORDS_12 => k_is); (case lt_WORDS_12 => k_is); (case e_WORDS_13 => k_is); (case lt_WORDS_13 => k_is); (case e_WORDS_14 => k_is); (case lt_WORDS_14 => k_is); (case e_WORDS_15 => k_is); (case lt_WORDS_15 => k_is); (case e_WORDS_16 => k_is); (case lt_WORDS_16 => k_is); (case e_WORDS_17 => k_is); (case lt_WORDS_17 => k_is); (case e_WORDS_18 => k_is); (case lt_WORDS_18 => k_is); (case e_WORDS_19 => k_is); (case lt_WORDS_19 => k_is); (case e_WORDS_20 => k_is); (case lt_WORDS_20 => k_is); (case e_WORDS_21 => k_is); (case lt_WORDS_21 => k_is); (case e_WORDS_22 => k_is); (case lt_WORDS_22 => k_is); (case e_WORDS_23 => k_is); (case lt_WORDS_23 => k_is); (case e_WORDS_24 => k_is); (case lt_WORDS_24 => k_is); (case e_WORDS_25 => k_is); (case lt_WORDS_25 => k_is); (case e_WORDS_26 => k_is); (case lt_WORDS_26 => k_is); (case e_WORDS_27 => k_is); (case lt_WORDS_27 => k_is); (case e_WORDS_28 => k_is); (case lt_WORDS_28 => k_is); (case e_WORDS_29 => k_is); (case lt_WORDS_29 => k_is); (case e_WORDS_30 => k_is); (case lt_WORDS_30 => k_is); (case e_WORDS_31 => k_is); (case lt_WORDS_31 => k_is); (case e_WORDS_32 => k_is); (case lt_WORDS_32 => k_is); (case e_WORDS_33 => k_is); (case lt_WORDS_33 => k_is); (case e_WORDS_34 => k_is); (case lt_WORDS_34 => k_is); (case e_WORDS_35 => k_is); (case lt_WORDS_35 => k_is); (case e_WORDS_36 => k_is); (case lt_WORDS_36 => k_is); (case e_WORDS_37 => k_is); (case lt_WORDS_37 => k_is); (case e_WORDS_38 => k_is); (case lt_WORDS_38 => k_is); (case e_WORDS_39 => k_is); (case lt_WORDS_39 => k_is); (case e_WORDS_40 => k_is); (case lt_WORDS_40 => k_is); (case e_WORDS_41 => k_is); (case lt_WORDS_41 => k_is); (case e_WORDS_42 => k_is)
