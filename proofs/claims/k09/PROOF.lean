import PyProof.Rows.All
import Wide.All
import OpenK.AllK
import Wide.FinOn
import HandS.ForMost
import HandS.Style
import HandS.Wide
import HandS.IsInst
import HandS.Steps
import HandS.Codes
import HandS.Evl
import HandS.Walk
import HandS.ForExc
import HandS.ExcInit
import HandS.ExcInitHot
import HandS.ExcField
import HandS.ExcIs
import HandS.RaiseFrom
import HandS.TryMany
import HandS.SuiteRaise
import KE.KTypeName
import PySem.Challenge.RW_formkeeper_k09_numbers_as_octets
set_option Elab.async false
set_option linter.all false
set_option maxRecDepth 100000
/-! common words of these proofs (own text) -/
namespace FK
open PySem PySem.Spec PyProof.Rows L2 Evl

/-! ### heaps -/
theorem same_upd {H : Hp} {p : Addr} {o : HO} (h : H p = none) : Same H (upd H p o) := fun b x e => by
  rw [upd_ne (ne_of_none e h)]
  exact e
/-- an object of the callee's own may change -/
theorem same_mut {H H' : Hp} {p : Addr} {o : HO} (e : Same H H') (h : H p = none) : Same H (upd H' p o) := fun a u ha => by
  rw [upd_ne (ne_of_none ha h)]
  exact e a u ha
theorem sqt_same {K : PySem.W.Frag} {H H' : Hp} {a : Addr} {xs : List V} (e : Same H H') (h : SqT K H a xs) : SqT K H' a xs := by
  rcases h with (h | ⟨o, h⟩) | h
  · exact .inl (.inl (e _ _ h))
  · exact .inl (.inr ⟨o, e _ _ h⟩)
  · exact .inr h
theorem hu64 {A : Around} {k : Nat} (hr : Room k A) : A.units + 64 < cLine := hr.units

/-! ### a def that may be called by its name -/
structure Cal (CX : CXT) (P : Program) (w : World) (K : PySem.W.Frag) (mg : Str → Option Value) (base : Heap) (k : Nat) (x : Str) (sp : Sp) : Prop where
  ex : ∃ (f : Addr) (fd : FuncData) (ps : List Str), FnOk P w K mg base CX k f fd ps sp ∧ mg x = some (.ref f) ∧ PySem.W.keepIn K (.ref f) = true ∧ Binds K fd ps []
structure Def (K : PySem.W.Frag) (mg : Str → Option Value) (x : Str) (st : Stmt) (ps : List Str) : Prop where
  ex : ∃ (f : Addr) (fd : FuncData), Fun K x x st f fd ∧ mg x = some (.ref f) ∧ Binds K fd ps []
section
variable {P : Program} {w : World} {K : PySem.W.Frag} {mg : Str → Option Value} {base : Heap}
theorem cal0 {x : Str} {st : Stmt} {N ps : List Str} {k : Nat} {sp : Sp} (D : Def K mg x st ps) (S : FnScope N ps (defScope st)) (len : ∀ vs H Q E, sp vs H Q E → vs.length = ps.length)
    (hbody : ∀ (f : Addr) (cdv : Value) (A : Around) (outer : List Env) (s : Shared) (H : Hp) (vs : List V) (Q : VK) (E : XK), Room k (A.deeper (envOfC x (defScope st) s.heap.objs.size f cdv)) → sp vs H Q E →
      ∃ t, PSs (cxOf CX0 P w K mg base N x (defScope st) f cdv A outer s H E).nox (defBody st) t ∧ t { nx := fun _ H' => Q .non H', rt := Q } (start N vs) H) : Cal CX0 P w K mg base (k + 1) x sp := by
  obtain ⟨f, fd, F, m, b⟩ := D.ex
  exact ⟨f, fd, ps, F.ok S len (hbody f), m, F.kp, b⟩
end
section
variable {X : Cx} {k j : Nat} {x : Str} {sp : Sp} {p pos : Pos} {e : Expr} {es : List Expr} {t : TA}
theorem pe_c (c : Cal CX0 X.prog X.w X.K X.mg X.base k x sp) (hr : Room j X.A) (hk : k ≤ j) (hg : Gl X x) (ha : PA X (e :: es) t)
    (hdb : (x == ("__debug__" : Str)) = false := by decide) (he : starEach (e :: es) X.env = (false, eval e X.env) :: starEach es X.env := by rfl) (hpl : (backTo pos (starEach es X.env)).any (·.1) = false := by rfl) :
    PE X (.Call (.Name x p) (e :: es) [] pos) (tCall sp [] E0 t) := by
  obtain ⟨f, fd, ps, F, hm, kp, b⟩ := c.ex
  exact pe_call F (hr.mono hk) hg hm kp b .nil pass0 ha hdb he hpl
theorem pe_gc {v : V} (hg : Gl X x) (h : ∃ u, X.mg x = some u ∧ RelV v u) (hd : (x == ("__debug__" : Str)) = false := by decide) : PE X (.Name x pos) (tC v) := by
  obtain ⟨u, hm, r⟩ := h
  exact pe_glob hg hm r hd
end
/-- the def of the module at its place -/
theorem def_mk {K : PySem.W.Frag} {mg : Str → Option Value} {h : Heap} {x : Str} {st : Stmt} {f : Addr} {oc : Value} {od an : Option Addr} {osl : Array (Option Value)} {kV doc pm cdv ct : Value} {ps : List Str} (X : K.In h) (G : h.Ns mainGlobals mg)
    (a : PySem.W.nsIn K mainGlobals x = some (some (.ref f))) (l : K.lookup f = some ⟨oc, od, .func (PySem.W.fnOf x x (defArgs st) (defBody st) (defScope st) .none kV doc pm an cdv ct), osl⟩)
    (c : PySem.W.codeIn K cdv x = true) (k : PySem.W.keepIn K (.ref f) = true)
    (b : ∀ (kV doc pm : Value) (an : Option Addr) (cdv ct : Value) (us : List Value), us.length = ps.length → bindArgs (PySem.W.fnOf x x (defArgs st) (defBody st) (defScope st) .none kV doc pm an cdv ct) ⟨us, []⟩ = pure (ps.zip us)) : Def K mg x st ps :=
  ⟨f, _, fun_mk l c k, PySem.W.mg_of X G a, (fun_mk l c k).binds b⟩

/-! ### loops and items -/
/-- sign by sign -/
theorem for_str {x : List Nat} {g : TG} {tb : TS} {D : Ends} {σ : L2.St} {H : Hp} (Pv : Nat → L2.St → Hp → Prop) (h0 : Pv 0 σ H)
    (hs : ∀ i c σ H, x[i]? = some c → Pv i σ H → g (.str (SX.S [c])) σ H fun σ2 H2 => tb { D with nx := Pv (i + 1), ct := Pv (i + 1), bk := D.nx } σ2 H2) (hd : ∀ σ H, Pv x.length σ H → D.nx σ H) :
    ∃ W : Nat → Nat → L2.St → Hp → Prop, (∃ m, W 0 m σ H) ∧ ∀ i m σ H, W i m σ H →
      ((Its (SX.S x)).stop i H ∧ D.nx σ H) ∨ ((Its (SX.S x)).go i H ∧ ∃ N : L2.St → Hp → Prop, (∀ σ' H', N σ' H' → ∃ m', m' < m ∧ W (i + 1) m' σ' H') ∧ ∀ v H', (Its (SX.S x)).yld i H v H' → g v σ H' fun σ2 H2 => tb { D with nx := N, ct := N, bk := D.nx } σ2 H2) := by
  have hz : (SX.S x).cps.size = x.length := by simp [SX.S]
  refine ⟨fun i m σ H => m = x.length - i ∧ i ≤ x.length ∧ Pv i σ H, ⟨x.length, by simp, Nat.zero_le _, h0⟩, ?_⟩
  rintro i m σ H ⟨rfl, hi, p⟩
  by_cases hlt : i < x.length
  · refine .inr ⟨by show i < (SX.S x).cps.size; omega, Pv (i + 1), fun σ' H' p' => ⟨x.length - (i + 1), by omega, rfl, hlt, p'⟩, fun v H' y => ?_⟩
    obtain ⟨e, c, hc, hv⟩ := y
    subst e hv
    have hc' : x[i]? = some c := by simpa [SX.S] using hc
    exact hs i c σ _ hc' p
  · have e : i = x.length := by omega
    subst e
    exact .inl ⟨by show (SX.S x).cps.size ≤ _; omega, hd σ H p⟩
theorem atI_ints {ns : List Int} {i : Int} (h0 : 0 ≤ i) (h1 : i < ns.length) : atI (ns.map V.int) i = some (.int (ns.getD i.toNat 0)) := by
  obtain ⟨j, rfl⟩ := Int.eq_ofNat_of_zero_le h0
  have hj : j < ns.length := by omega
  refine atI_nat (j := j) ?_
  rw [List.getElem?_map, List.getElem?_eq_getElem hj]
  simp [List.getD, List.getElem?_eq_getElem hj]
theorem getD_mem {ns : List Int} {i : Nat} (h : i < ns.length) : ns.getD i 0 ∈ ns := by
  simp [List.getD, List.getElem?_eq_getElem h]
theorem getD_of {ns : List Int} {i : Nat} {Pp : Int → Prop} (h : ∀ n ∈ ns, Pp n) (hi : i < ns.length) : Pp (ns.getD i 0) := h _ (getD_mem hi)

theorem atI_any {xs : List V} {i : Int} {Pp : V → Prop} (h0 : 0 ≤ i) (h1 : i < xs.length) (h : ∀ x ∈ xs, Pp x) : ∃ v, atI xs i = some v ∧ Pp v := by
  obtain ⟨j, rfl⟩ := Int.eq_ofNat_of_zero_le h0
  have hj : j < xs.length := by omega
  exact ⟨xs[j], atI_nat (List.getElem?_eq_getElem hj), h _ (List.getElem_mem hj)⟩
theorem cutV_int {xs : List V} {i j : Int} (h0 : 0 ≤ i) (h1 : 0 ≤ j) : cutV xs (some i) (some j) = (xs.drop i.toNat).take (j.toNat - i.toNat) := by
  obtain ⟨i, rfl⟩ := Int.eq_ofNat_of_zero_le h0
  obtain ⟨j, rfl⟩ := Int.eq_ofNat_of_zero_le h1
  unfold cutV
  rw [HT.sIx_nat, HT.sIx_nat]
  show _ = (xs.drop i).take (j - i)
  by_cases hi : i ≤ xs.length
  · rw [Nat.min_eq_left hi]
    by_cases hj : j ≤ xs.length
    · rw [Nat.min_eq_left hj]
    · rw [Nat.min_eq_right (by omega), List.take_of_length_le (by rw [List.length_drop]; omega), List.take_of_length_le (by rw [List.length_drop]; omega)]
  · rw [Nat.min_eq_right (show xs.length ≤ i by omega), List.drop_of_length_le (Nat.le_refl _), List.drop_of_length_le (show xs.length ≤ i by omega), List.take_nil, List.take_nil]
theorem cutV_to {xs : List V} {j : Int} (h1 : 0 ≤ j) : cutV xs none (some j) = xs.take j.toNat := by
  have e := cutV_int (xs := xs) (i := 0) (Int.le_refl 0) h1
  rw [show cutV xs none (some j) = cutV xs (some 0) (some j) from by unfold cutV; rw [HT.sIx_none]; rw [show HT.sIx xs.length 0 (some (0 : Int)) = 0 from (HT.sIx_nat xs.length 0 0).trans (Nat.zero_min _)], e]
  rfl
/-! ### a block over every heap that has what the base has -/
def R (t : TS) (D : Ends) (σ : L2.St) (B : Hp) : Prop := ∀ H, Ex B H → t D σ H
/-- a new object -/
def EvN (te : TE) (σ : L2.St) (B : Hp) (o : HO) : Prop := ∀ H1, Ex B H1 → ∀ Q : VK, (∀ p H2, H1 p = none → Ex H1 H2 → H2 p = some o → Q (.ref p) H2) → te σ H1 Q
/-- a value of which this holds -/
def EvP (te : TE) (σ : L2.St) (B : Hp) (Pp : V → Hp → Prop) : Prop := ∀ H1, Ex B H1 → ∀ Q : VK, (∀ v H2, Ex H1 H2 → Pp v H2 → Q v H2) → te σ H1 Q
def EvAP (ta : TA) (σ : L2.St) (B : Hp) (Pp : List V → Hp → Prop) : Prop := ∀ H1, Ex B H1 → ∀ Q : List V → Hp → Prop, (∀ vs H2, Ex H1 H2 → Pp vs H2 → Q vs H2) → ta σ H1 Q
section
variable {K : PySem.W.Frag} {σ : L2.St} {B B' : Hp} {ta tb te tx tl : TE} {t u : TT} {x y z v : V} {D : Ends} {tu tw tz : TS} {g : TG} {o : HO} {Pp : V → Hp → Prop}
theorem R.go (h : R tz D σ B) : tz D σ B := h B (Ex.refl B)
theorem R.mono (h : R tz D σ B) (e : Ex B B') : R tz D σ B' := fun H a => h H (e.trans a)
theorem ex_up {H : Hp} {p : Addr} (e : Ex B H) (h : H p = some o) : Ex (upd B p o) H := fun a u ha => by
  by_cases c : a = p
  · subst c
    rw [upd_same] at ha
    cases ha
    exact h
  · rw [upd_ne c] at ha
    exact e a u ha
theorem ex_mut {H : Hp} {p : Addr} (e : Ex B H) : Ex (upd B p o) (upd H p o) := fun a u ha => by
  by_cases c : a = p
  · subst c
    rw [upd_same] at ha ⊢
    exact ha
  · rw [upd_ne c] at ha ⊢
    exact e a u ha
theorem r_asg {i : Nat} (h : Ev te σ B v) (k : R tz D (σ.set i (some v)) B) : R (tSeq (tAsg te (gName i)) tz) D σ B := fun H a => q_asg (h.mono a) fun H1 e => k H1 (a.trans e)
theorem r_asgN {i : Nat} (h : EvN te σ B o) (k : ∀ p, B p = none → R tz D (σ.set i (some (.ref p))) (upd B p o)) : R (tSeq (tAsg te (gName i)) tz) D σ B := fun H a =>
  h H a _ fun p H2 hp e hh => k p (fresh_back a hp) H2 (ex_up (a.trans e) hh)
/-- .. the base taken as it is then -/
theorem r_new {i : Nat} (h : EvN te σ B o) (k : ∀ p B', B p = none → Ex B B' → B' p = some o → R tz D (σ.set i (some (.ref p))) B') : R (tSeq (tAsg te (gName i)) tz) D σ B := r_asgN h fun p hp => k p _ hp (Ex.new hp) upd_same
theorem r_asgP {i : Nat} (h : EvP te σ B Pp) (k : ∀ v B', Ex B B' → Pp v B' → R tz D (σ.set i (some v)) B') : R (tSeq (tAsg te (gName i)) tz) D σ B := fun H a =>
  h H a _ fun v H2 e hh => k v H2 (a.trans e) hh H2 (Ex.refl H2)
theorem r_if {b : Bool} (h : EvT t σ B b) (h1 : b = true → R tu { D with nx := tz D } σ B) (h2 : b = false → R tw { D with nx := tz D } σ B) : R (tSeq (tIfS t tu tw) tz) D σ B := fun H a =>
  q_if (h.mono a) (fun hb H1 e => h1 hb H1 (a.trans e)) (fun hb H1 e => h2 hb H1 (a.trans e))
/-- an if without else -/
theorem r_when {b : Bool} (h : EvT t σ B b) (h1 : b = true → R tu { D with nx := tz D } σ B) (h2 : b = false → R tz D σ B) : R (tSeq (tIfS t tu tNext) tz) D σ B := r_if h h1 h2
/-- what follows is shown once, from Mid -/
theorem r_whenK (Mid : L2.St → Hp → Prop) {b : Bool} (h : EvT t σ B b) (k : ∀ σ' B', Mid σ' B' → R tz D σ' B') (h1 : (∀ σ' B', Mid σ' B' → R tz D σ' B') → b = true → R tu { D with nx := tz D } σ B) (h2 : (∀ σ' B', Mid σ' B' → R tz D σ' B') → b = false → R tz D σ B) :
    R (tSeq (tIfS t tu tNext) tz) D σ B := r_when h (h1 k) (h2 k)
theorem r_ifK (Mid : L2.St → Hp → Prop) {b : Bool} (h : EvT t σ B b) (k : ∀ σ' B', Mid σ' B' → R tz D σ' B') (h1 : (∀ σ' B', Mid σ' B' → R tz D σ' B') → b = true → R tu { D with nx := tz D } σ B) (h2 : (∀ σ' B', Mid σ' B' → R tz D σ' B') → b = false → R tw { D with nx := tz D } σ B) :
    R (tSeq (tIfS t tu tw) tz) D σ B := r_if h (h1 k) (h2 k)
theorem r_next (k : ∀ H, Ex B H → D.nx σ H) : R tNext D σ B := k
theorem r_on {D : Ends} (k : R tz D σ B) : R tNext { D with nx := tz D } σ B := k
theorem r_ret (h : Ev te σ B v) (k : ∀ H, Ex B H → D.rt v H) : R (tSeq (tRet te) tz) D σ B := fun H a => h H a _ fun H1 e => k H1 (a.trans e)
theorem r_retN (h : EvN te σ B o) (k : ∀ p, B p = none → ∀ H, Ex (upd B p o) H → D.rt (.ref p) H) : R (tSeq (tRet te) tz) D σ B := fun H a => h H a _ fun p H2 hp e hh => k p (fresh_back a hp) H2 (ex_up (a.trans e) hh)
theorem r_retP (h : EvP te σ B Pp) (k : ∀ v B', Ex B B' → Pp v B' → D.rt v B') : R (tSeq (tRet te) tz) D σ B := fun H a => h H a _ fun v H2 e hh => k v H2 (a.trans e) hh
theorem r_brk (k : ∀ H, Ex B H → D.bk σ H) : R (tSeq tBreak tz) D σ B := k
theorem r_cont (k : ∀ H, Ex B H → D.ct σ H) : R (tSeq tCont tz) D σ B := k
theorem r_drop (h : Ev te σ B v) (k : R tz D σ B) : R (tSeq (tDrop te) tz) D σ B := fun H a => q_drop (h.mono a) fun H1 e => k H1 (a.trans e)
theorem r_aug {i : Nat} {f : Int → Int → Int} {a b : Int} (hx : σ[i]? = some (some (.int a))) (h : Ev te σ B (.int b)) (k : R tz D (σ.set i (some (.int (f a b)))) B) : R (tSeq (tAug i te (ipI f)) tz) D σ B := fun H e => q_aug hx (h.mono e) fun H1 e1 => k H1 (e.trans e1)
theorem r_app {l : Addr} {xs : List V} (hl : B l = some (.lst xs)) (ha : Ev ta σ B (.ref l)) (h : Ev te σ B v) (hz : xs.length < 100000) (k : R tz D σ (upd B l (.lst (xs ++ [v])))) :
    R (tSeq (tDrop (tBM K "list" rAppend ta (tCons te tNil))) tz) D σ B := fun H a => q_app (a l _ hl) (ha.mono a) (h.mono a) hz fun H1 e => k _ (ex_mut (a.trans e))
theorem r_appN {l : Addr} {xs : List V} (hl : B l = some (.lst xs)) (ha : Ev ta σ B (.ref l)) (h : EvN te σ B o) (hz : xs.length < 100000) (k : ∀ p, B p = none → R tz D σ (upd (upd B p o) l (.lst (xs ++ [.ref p])))) :
    R (tSeq (tDrop (tBM K "list" rAppend ta (tCons te tNil))) tz) D σ B := fun H a => ha H a _ fun H1 e1 =>
  ⟨Or.inl ⟨rfl, xs, sq_of (e1 l _ (a l _ hl))⟩, h H1 (a.trans e1) _ fun p H2 hp e2 h2 => ⟨l, xs, .ref p, rfl, rfl, e2 l _ (e1 l _ (a l _ hl)), sz_lt hz, k p (fresh_back (a.trans e1) hp) _ (ex_mut (ex_up ((a.trans e1).trans e2) h2))⟩⟩
/-- the word of a loop, over its bases -/
def Up (Pv : Nat → L2.St → Hp → Prop) (i : Nat) (σ : L2.St) (H : Hp) : Prop := ∃ B, Ex B H ∧ Pv i σ B
theorem up_of {Pv : Nat → L2.St → Hp → Prop} {i : Nat} (h : Pv i σ B) : ∀ H, Ex B H → Up Pv i σ H := fun H e => ⟨B, e, h⟩
theorem r_up {Pv : Nat → L2.St → Hp → Prop} {i : Nat} {rt : VK} {bk ct : L2.St → Hp → Prop} (h : Pv i σ B) : R tNext { nx := Up Pv i, rt := rt, bk := bk, ct := ct } σ B := fun H e => ⟨B, e, h⟩
abbrev Lp (Pv : Nat → L2.St → Hp → Prop) (i : Nat) (D : Ends) (tz : TS) : Ends := { nx := Up Pv (i + 1), rt := D.rt, bk := tz D, ct := Up Pv (i + 1) }
theorem r_forL {a : Addr} {xs : List V} {j : Nat} (h : Ev tl σ B (.ref a)) (hx : SqL K B a xs) (Pv : Nat → L2.St → Hp → Prop) (h0 : Pv 0 σ B) (hl : ∀ i σ' B', i ≤ xs.length → Pv i σ' B' → SqL K B' a xs)
    (hs : ∀ i x σ' B', xs[i]? = some x → Pv i σ' B' → R tu (Lp Pv i D tz) (σ'.set j (some x)) B') (hd : ∀ σ' B', Pv xs.length σ' B' → R tz D σ' B') : R (tSeq (tFor (iList K tl) (gName j) tu) tz) D σ B := fun H e =>
  q_forLn (h.mono e) (ex_l e hx) (Up Pv) (fun H1 e1 => ⟨B, e.trans e1, h0⟩) (fun i σ' H' hi ⟨B', e', p⟩ => ex_l e' (hl i σ' B' hi p)) (fun i x σ' H' hx' ⟨B', e', p⟩ => hs i x σ' B' hx' p H' e') fun σ' H' ⟨B', e', p⟩ => hd σ' B' p H' e'
theorem r_forN {xs : List V} {j : Nat} (h : EvN tl σ B (.lst xs)) (Pv : Addr → Nat → L2.St → Hp → Prop) (h0 : ∀ p, B p = none → Pv p 0 σ (upd B p (.lst xs))) (hl : ∀ p i σ' B', i ≤ xs.length → Pv p i σ' B' → SqL K B' p xs)
    (hs : ∀ p i x σ' B', xs[i]? = some x → Pv p i σ' B' → R tu (Lp (Pv p) i D tz) (σ'.set j (some x)) B') (hd : ∀ p σ' B', Pv p xs.length σ' B' → R tz D σ' B') : R (tSeq (tFor (iList K tl) (gName j) tu) tz) D σ B := fun H e =>
  h H e _ fun p H1 hp e1 h1 => ⟨p, rfl, ⟨xs, sq_of h1⟩, for_list (Up (Pv p)) ⟨_, ex_up (e.trans e1) h1, h0 p (fresh_back e hp)⟩ (fun i σ' H' hi ⟨B', e', q⟩ => ex_l e' (hl p i σ' B' hi q))
    (fun i x σ' H' hx' ⟨B', e', q⟩ => hs p i x σ' B' hx' q H' e') fun σ' H' ⟨B', e', q⟩ => hd p σ' B' q H' e'⟩
theorem r_forR1 {ta : TA} {j : Nat} {n : Int} (h : EvA ta σ B [.int n]) (hn : 0 ≤ n ∧ n ≤ 100000) (Pv : Nat → L2.St → Hp → Prop) (h0 : Pv 0 σ B)
    (hs : ∀ (i : Nat) σ' B', (i : Int) < n → Pv i σ' B' → R tu (Lp Pv i D tz) (σ'.set j (some (.int (i : Int)))) B') (hd : ∀ σ' B', Pv n.toNat σ' B' → R tz D σ' B') : R (tSeq (tFor (iRng1 ta) (gName j) tu) tz) D σ B := fun H e =>
  q_forR1 (h.mono e) hn (Up Pv) (fun H1 e1 => ⟨B, e.trans e1, h0⟩) (fun i σ' H' hi ⟨B', e', p⟩ => hs i σ' B' hi p H' e') fun σ' H' ⟨B', e', p⟩ => hd σ' B' p H' e'
theorem r_forR2 {ta : TA} {j : Nat} {lo n : Int} (h : EvA ta σ B [.int lo, .int n]) (hn : 0 ≤ lo ∧ lo ≤ 100000 ∧ -100000 ≤ n ∧ n ≤ 100000) (Pv : Nat → L2.St → Hp → Prop) (h0 : Pv 0 σ B)
    (hs : ∀ (i : Nat) σ' B', lo + (i : Int) < n → Pv i σ' B' → R tu (Lp Pv i D tz) (σ'.set j (some (.int (lo + (i : Int))))) B') (hd : ∀ σ' B', Pv (n - lo).toNat σ' B' → R tz D σ' B') : R (tSeq (tFor (iRng2 ta) (gName j) tu) tz) D σ B := fun H e =>
  q_forR2 (h.mono e) hn (Up Pv) (fun H1 e1 => ⟨B, e.trans e1, h0⟩) (fun i σ' H' hi ⟨B', e', p⟩ => hs i σ' B' hi p H' e') fun σ' H' ⟨B', e', p⟩ => hd σ' B' p H' e'
theorem r_forS {s : List Nat} {j : Nat} (h : Ev tl σ B (.str (SX.S s))) (Pv : Nat → L2.St → Hp → Prop) (h0 : Pv 0 σ B)
    (hs : ∀ (i c : Nat) σ' B', s[i]? = some c → Pv i σ' B' → R tu (Lp Pv i D tz) (σ'.set j (some (.str (SX.S [c])))) B') (hd : ∀ σ' B', Pv s.length σ' B' → R tz D σ' B') : R (tSeq (tFor (iStr tl) (gName j) tu) tz) D σ B := fun H e =>
  h H e _ fun H1 e1 => ⟨_, rfl, for_str (x := s) (Up Pv) ⟨B, e.trans e1, h0⟩ (fun i c σ' H' hc ⟨B', e', p⟩ => hs i c σ' B' hc p H' e') fun σ' H' ⟨B', e', p⟩ => hd σ' B' p H' e'⟩
/-- while, by a word and a number that falls -/
theorem r_while (Pv : Nat → L2.St → Hp → Prop) (m0 : Nat) (h0 : Pv m0 σ B)
    (hs : ∀ m σ' B', Pv m σ' B' → ∃ b, EvT t σ' B' b ∧ (b = true → R tu { D with nx := fun σ2 H2 => ∃ m', m' < m ∧ Up Pv m' σ2 H2, ct := fun σ2 H2 => ∃ m', m' < m ∧ Up Pv m' σ2 H2, bk := tz D } σ' B') ∧ (b = false → R tz D σ' B')) : R (tSeq (tWhile t tu) tz) D σ B := fun H e =>
  q_while (Up Pv) m0 ⟨B, e, h0⟩ fun m σ' H' ⟨B', e', p⟩ => by
    obtain ⟨b, hb, h1, h2⟩ := hs m σ' B' p
    exact ⟨b, hb.mono e', fun hb H1 e1 => ⟨fun σ2 H2 => ∃ m', m' < m ∧ Up Pv m' σ2 H2, fun _ _ q => q, h1 hb H1 (e'.trans e1)⟩, fun hb H1 e1 => h2 hb H1 (e'.trans e1)⟩

/-! ### expressions -/
theorem EvN.mono (e : Ex B B') (h : EvN te σ B o) : EvN te σ B' o := fun H1 a Q q => h H1 (e.trans a) Q q
theorem EvP.mono (e : Ex B B') (h : EvP te σ B Pp) : EvP te σ B' Pp := fun H1 a Q q => h H1 (e.trans a) Q q
theorem ev_slice_str {tl th : TO} {s : List Nat} {lo hi : Option Int} (h : Ev te σ B (.str (SX.S s))) (h1 : EvO tl σ B lo) (h2 : EvO th σ B hi) (hz : s.length ≤ 100000) : Ev (tSl rSlS te tl th) σ B (.str (cutS (SX.S s) lo hi)) := fun H1 e _ q =>
  h H1 e _ fun H2 e2 => h1 H2 (e.trans e2) _ fun H3 e3 => h2 H3 ((e.trans e2).trans e3) _ fun H4 e4 => ⟨_, rfl, by rw [SX.S_len]; exact sz_of hz, q H4 ((e2.trans e3).trans e4)⟩
theorem ev_chain {r r' : R2} {a b : Bool} (ha : Ev ta σ B x) (hb : Ev tb σ B y) (hr : RV r x y B (.bl a)) (hc : a = true → Ev tx σ B z) (hr' : a = true → RV r' y z B (.bl b)) : Ev (tChain r r' ta tb tx) σ B (.bl (a && b)) := fun H1 e Q q =>
  ha H1 e _ fun H2 e2 => hb H2 (e.trans e2) _ fun H3 e3 => hr H3 ((e.trans e2).trans e3) _ fun H4 e4 => ⟨a, rfl, by
    cases a with
    | true =>
      show tx σ H4 _
      exact hc rfl H4 (((e.trans e2).trans e3).trans e4) _ fun H5 e5 => hr' rfl H5 ((((e.trans e2).trans e3).trans e4).trans e5) _ fun H6 e6 => q H6 ((((e2.trans e3).trans e4).trans e5).trans e6)
    | false =>
      show Q (.bl false) H4
      exact q H4 ((e2.trans e3).trans e4)⟩
theorem ev_lenS {s : List Nat} (ha : Ev ta σ B (.str (SX.S s))) (hz : s.length ≤ 100000) : Ev (tCB (fun xs H Q => ∃ z, xs = [.str z] ∧ z.length ≤ sizeLine ∧ Q (.int z.length) H) (tCons ta tNil)) σ B (.int (s.length : Int)) := fun H1 e Q q =>
  ha H1 e _ fun H2 e2 => ⟨_, rfl, by rw [SX.S_len]; exact sz_of hz, by rw [SX.S_len]; exact q H2 e2⟩
theorem ev_lenN {xs : List V} (ha : EvN ta σ B (.lst xs)) : Ev (tCB (rLenS K) (tCons ta tNil)) σ B (.int (xs.length : Int)) := fun H1 e Q q => ha H1 e _ fun p H2 _ e2 h2 => ⟨p, xs, rfl, Or.inl (sq_of h2), q H2 e2⟩
theorem ev_int {i : Int} (ha : Ev ta σ B (.int i)) : Ev (tCB (fun xs H Q => (∃ i, xs = [V.int i] ∧ Q (.int i) H) ∨ ∃ k, xs = [.bl k] ∧ Q (.int (if k then 1 else 0)) H) (tCons ta tNil)) σ B (.int i) := fun H1 e Q q =>
  ha H1 e _ fun H2 e2 => .inl ⟨i, rfl, q H2 e2⟩
theorem ev_ord {c : Nat} (ha : Ev ta σ B (.str (SX.S [c]))) : Ev (tCB (fun xs H Q => ∃ x, xs = [V.str x] ∧ x.length = 1 ∧ Q (.int (x.cps.getD 0 0 : Nat)) H) (tCons ta tNil)) σ B (.int (c : Int)) := fun H1 e Q q =>
  ha H1 e _ fun H2 e2 => ⟨_, rfl, rfl, q H2 e2⟩
theorem rv_cmp {p : Int → Int → Bool} {i j : Int} : RV (rI0 fun i j => .bl (p i j)) (.int i) (.int j) B (.bl (p i j)) := rv_I0
theorem rv_ar {f : Int → Int → Int} {i j : Int} : RV (rI0 fun i j => .int (f i j)) (.int i) (.int j) B (.int (f i j)) := rv_I0
theorem rv_arC {C : Int → Int → Prop} {f : Int → Int → Int} {i j : Int} (hc : C i j) : RV (rI C fun i j => .int (f i j)) (.int i) (.int j) B (.int (f i j)) := rv_I hc
theorem rv_addS {a b : List Nat} (hz : a.length + b.length ≤ 100000) : RV (fun x y H Q => ∃ i j, x = V.str i ∧ y = .str j ∧ i.length + j.length ≤ sizeLine ∧ Q (.str (i ++ j)) H) (.str (SX.S a)) (.str (SX.S b)) B (.str (SX.S (a ++ b))) := fun H1 _ _ q =>
  ⟨_, _, rfl, rfl, by rw [SX.S_len, SX.S_len]; exact sz_of hz, by rw [SX.S_cat]; exact q H1 (Ex.refl H1)⟩
/-- a sign of a text -/
theorem rv_inS {c : Nat} {s : List Nat} : RV (fun x y H Q => ∃ (c : Nat) (z : Str), x = .str ⟨#[c]⟩ ∧ y = .str z ∧ Q (.bl (decide (c ∈ z.cps.toList))) H) (.str (SX.S [c])) (.str (SX.S s)) B (.bl (decide (c ∈ s))) := fun H1 _ _ q => ⟨c, SX.S s, rfl, rfl, q H1 (Ex.refl H1)⟩
theorem rv_niS {c : Nat} {s : List Nat} : RV (fun x y H Q => ∃ (c : Nat) (z : Str), x = .str ⟨#[c]⟩ ∧ y = .str z ∧ Q (.bl (!decide (c ∈ z.cps.toList))) H) (.str (SX.S [c])) (.str (SX.S s)) B (.bl (!decide (c ∈ s))) := fun H1 _ _ q => ⟨c, SX.S s, rfl, rfl, q H1 (Ex.refl H1)⟩
theorem rv_ixSt {s : List Nat} {i : Int} (hz : s.length ≤ 100000) (h0 : 0 ≤ i) (h1 : i < s.length) : RV rIxS (.str (SX.S s)) (.int i) B (.str (SX.S [s.getD i.toNat 0])) := by
  refine rv_ixS (by rw [SX.S_len]; exact hz) ?_
  obtain ⟨j, rfl⟩ := Int.eq_ofNat_of_zero_le h0
  have hj : j < s.length := by omega
  refine atI_nat (j := j) ?_
  simp [SX.S, List.getD, List.getElem?_eq_getElem hj]
theorem rv_ixI {ns : List Int} {p : Addr} {i : Int} (h : SqL K B p (ns.map V.int)) (h0 : 0 ≤ i) (h1 : i < ns.length) : RV (rIxL K) (.ref p) (.int i) B (.int (ns.getD i.toNat 0)) := rv_ixL h (atI_ints h0 h1)
theorem rv_isB {a b : Bool} : RV rIsB (.bl a) (.bl b) B (.bl (decide (a = b))) := fun H1 _ _ q => ⟨a, b, rfl, rfl, q H1 (Ex.refl H1)⟩
theorem rv_isN : RV (fun x y H Q => y = .non ∧ Q (.bl (decide (x = .non))) H) x .non B (.bl (decide (x = .non))) := fun H1 _ _ q => ⟨rfl, q H1 (Ex.refl H1)⟩
theorem rv_notN : RV (fun x y H Q => y = .non ∧ Q (.bl (!decide (x = .non))) H) x .non B (.bl (!decide (x = .non))) := fun H1 _ _ q => ⟨rfl, q H1 (Ex.refl H1)⟩
theorem en_lst {ta : TA} {vs : List V} (h : EvA ta σ B vs) (hl : vs.length ≤ 100000) : EvN (tLst ta) σ B (.lst vs) := el_lst h hl
theorem en_tup {ta : TA} {vs : List V} (h : EvA ta σ B vs) (hl : vs.length ≤ 100000) : EvN (tTup ta) σ B (.tup vs) := eu_tup h hl
theorem en_sl {tl th : TO} {a : Addr} {xs : List V} {lo hi : Option Int} (h : Ev te σ B (.ref a)) (h1 : EvO tl σ B lo) (h2 : EvO th σ B hi) (hs : SqL K B a xs) : EvN (tSl (rSlL K) te tl th) σ B (.lst (cutV xs lo hi)) := el_sl h h1 h2 hs
theorem en_dict : EvN tDNewK σ B (.dK []) := fun H1 _ Q q => fun p hp => q p _ hp (Ex.new hp) upd_same
/-- both operands new lists -/
theorem en_cat {xs ys : List V} (ha : EvN ta σ B (.lst xs)) (hb : EvN tb σ B (.lst ys)) (hz : xs.length + ys.length ≤ 100000) : EvN (tOp rCat ta tb) σ B (.lst (xs ++ ys)) := fun H1 e Q k =>
  ha H1 e _ fun p H2 hp1 e2 hp => hb H2 (e.trans e2) _ fun q H3 _ e3 hq => ⟨p, q, xs, ys, rfl, rfl, e3 p _ hp, hq, sz_of hz, fun r hr => k r _ (fresh_back (e2.trans e3) hr) ((e2.trans e3).trans (Ex.new hr)) upd_same⟩
theorem en_catV {xs ys : List V} {a b : Addr} (ha : Ev ta σ B (.ref a)) (hb : Ev tb σ B (.ref b)) (h1 : B a = some (.lst xs)) (h2 : B b = some (.lst ys)) (hz : xs.length + ys.length ≤ 100000) : EvN (tOp rCat ta tb) σ B (.lst (xs ++ ys)) := fun H1 e Q k =>
  ha H1 e _ fun H2 e2 => hb H2 (e.trans e2) _ fun H3 e3 => ⟨a, b, xs, ys, rfl, rfl, ((e.trans e2).trans e3) a _ h1, ((e.trans e2).trans e3) b _ h2, sz_of hz, fun r hr => k r _ (fresh_back (e2.trans e3) hr) ((e2.trans e3).trans (Ex.new hr)) upd_same⟩
theorem en_catVN {xs ys : List V} {a : Addr} (ha : Ev ta σ B (.ref a)) (hb : EvN tb σ B (.lst ys)) (h1 : B a = some (.lst xs)) (hz : xs.length + ys.length ≤ 100000) : EvN (tOp rCat ta tb) σ B (.lst (xs ++ ys)) := fun H1 e Q k =>
  ha H1 e _ fun H2 e2 => hb H2 (e.trans e2) _ fun q H3 _ e3 hq => ⟨a, q, xs, ys, rfl, rfl, ((e.trans e2).trans e3) a _ h1, hq, sz_of hz, fun r hr => k r _ (fresh_back (e2.trans e3) hr) ((e2.trans e3).trans (Ex.new hr)) upd_same⟩
theorem en_catNV {xs ys : List V} {b : Addr} (ha : EvN ta σ B (.lst xs)) (hb : Ev tb σ B (.ref b)) (h1 : B b = some (.lst ys)) (hz : xs.length + ys.length ≤ 100000) : EvN (tOp rCat ta tb) σ B (.lst (xs ++ ys)) := fun H1 e Q k =>
  ha H1 e _ fun p H2 hp1 e2 hp => hb H2 (e.trans e2) _ fun H3 e3 => ⟨p, b, xs, ys, rfl, rfl, e3 p _ hp, ((e.trans e2).trans e3) b _ h1, sz_of hz, fun r hr => k r _ (fresh_back (e2.trans e3) hr) ((e2.trans e3).trans (Ex.new hr)) upd_same⟩
/-- an item of a new list -/
theorem ev_ixN {xs : List V} {i : Int} (ha : EvN ta σ B (.lst xs)) (hb : ∀ B', Ex B B' → Ev tb σ B' (.int i)) (h : atI xs i = some v) : Ev (tOp (rIxL K) ta tb) σ B v := ev_opL1 ha hb fun p H1 hp _ => rv_ixL (sq_of hp) h
/-- sep.join(a new list) -/
theorem ev_joinN {a : Str} {ys : List Str} (ha : Ev ta σ B (.str a)) (hb : EvN tb σ B (.lst (ys.map V.str))) (hz : (ys.map (·.length)).sum + ys.length * a.length ≤ 16777216) :
    Ev (tM1 (fun x xs H Q => ∃ a p, ∃ ys : List Str, x = .str a ∧ xs = [.ref p] ∧ (SqL K H p (ys.map V.str) ∨ SqT K H p (ys.map V.str)) ∧ (ys.map (·.length)).sum + ys.length * a.length ≤ 16777216 ∧ Q (.str (Txt.join a ys)) H) ta tb) σ B (.str (Txt.join a ys)) := fun H1 e Q q =>
  ha H1 e _ fun H2 e2 => ⟨⟨a, rfl⟩, hb H2 (e.trans e2) _ fun p H3 _ e3 hp => ⟨a, p, ys, rfl, rfl, .inl (sq_of hp), hz, q H3 (e2.trans e3)⟩⟩
theorem ev_cS {x : Str} : Ev (tC (.str x)) σ B (.str (SX.S x.cps.toList)) := by
  rw [SX.S_tl]
  exact ev_c
theorem joinL_signs : ∀ cs : List Nat, TL.joinL [] (cs.map fun c => [c]) = cs
  | [] => rfl
  | [c] => rfl
  | c :: d :: r => by
    show [c] ++ ([] ++ TL.joinL [] ((d :: r).map fun c => [c])) = _
    rw [joinL_signs (d :: r)]
    rfl
theorem joinL_len (a : List Nat) : ∀ ys : List (List Nat), (TL.joinL a ys).length ≤ (ys.map (·.length)).sum + ys.length * a.length
  | [] => Nat.zero_le _
  | [y] => by
    show y.length ≤ _
    simp
  | y :: z :: r => by
    have ih := joinL_len a (z :: r)
    show (y ++ (a ++ TL.joinL a (z :: r))).length ≤ _
    rw [List.length_append, List.length_append]
    simp only [List.map_cons, List.sum_cons, List.length_cons, Nat.succ_mul] at ih ⊢
    omega
/-- sep.join(a new list of texts) -/
theorem ev_joinS {a : List Nat} {ys : List (List Nat)} (ha : Ev ta σ B (.str (SX.S a))) (hb : EvN tb σ B (.lst (ys.map fun l => V.str (SX.S l)))) (hz : (ys.map (·.length)).sum + ys.length * a.length ≤ 16777216) :
    Ev (tM1 (fun x xs H Q => ∃ a p, ∃ ys : List Str, x = .str a ∧ xs = [.ref p] ∧ (SqL K H p (ys.map V.str) ∨ SqT K H p (ys.map V.str)) ∧ (ys.map (·.length)).sum + ys.length * a.length ≤ 16777216 ∧ Q (.str (Txt.join a ys)) H) ta tb) σ B (.str (SX.S (TL.joinL a ys))) := by
  rw [← SX.join_S]
  refine ev_joinN ha (by rw [List.map_map]; exact hb) ?_
  rw [SX.lens, List.length_map, SX.S_len]
  exact hz
theorem sum_ones : ∀ cs : List Nat, ((cs.map fun c => [c]).map (·.length)).sum = cs.length
  | [] => rfl
  | c :: r => by
    have ih := sum_ones r
    simp only [List.map_cons, List.sum_cons, List.length_cons, List.length_nil] at ih ⊢
    omega
/-- ''.join(a new list of single signs) -/
theorem ev_joinC {a cs : List Nat} (ha : Ev ta σ B (.str (SX.S a))) (h0 : a = []) (hb : EvN tb σ B (.lst (cs.map fun c => V.str (SX.S [c])))) (hz : cs.length ≤ 100000) :
    Ev (tM1 (fun x xs H Q => ∃ a p, ∃ ys : List Str, x = .str a ∧ xs = [.ref p] ∧ (SqL K H p (ys.map V.str) ∨ SqT K H p (ys.map V.str)) ∧ (ys.map (·.length)).sum + ys.length * a.length ≤ 16777216 ∧ Q (.str (Txt.join a ys)) H) ta tb) σ B (.str (SX.S cs)) := by
  subst h0
  have e := ev_joinS (K := K) (a := []) (ys := cs.map fun c => [c]) ha (by rw [List.map_map]; exact hb) (by rw [sum_ones]; simp; omega)
  rw [joinL_signs] at e
  exact e
theorem en_splitS {a b : List Nat} (ha : Ev ta σ B (.str (SX.S a))) (hb : Ev tb σ B (.str (SX.S b))) (h0 : b ≠ []) (hk : b.all (· < 256) = true) (hz : a.length ≤ 100000) :
    EvN (tM1 (fun x xs H Q => ∃ a b, x = .str a ∧ xs = [.str b] ∧ (b.length == 0) = false ∧ a.length + 2 ≤ sizeLine ∧ rNewStrs (Txt.split a b) H Q) ta tb) σ B (.lst ((TL.spl b 0 [] a).map fun l => V.str (SX.S l))) := by
  have e : (TL.spl b 0 [] a).map (fun l => V.str (SX.S l)) = (Txt.split (SX.S a) (SX.S b)).map V.str := by
    rw [SX.split_S h0 hk, List.map_map]
    rfl
  rw [e]
  exact fun H1 e Q q => ha H1 e _ fun H2 e2 => ⟨⟨_, rfl⟩, hb H2 (e.trans e2) _ fun H3 e3 => ⟨_, _, rfl, rfl, by
    rw [SX.S_len]
    cases b with
    | nil => exact absurd rfl h0
    | cons c r => rfl, by rw [SX.S_len]; exact Nat.le_trans (Nat.add_le_add_right hz 2) (by decide), fun p hp => q p _ (fresh_back (e2.trans e3) hp) ((e2.trans e3).trans (Ex.new hp)) upd_same⟩⟩
theorem spl_len (S : List Nat) : ∀ (l acc : List Nat) (k : Nat), ∀ p ∈ TL.spl S k acc l, p.length ≤ acc.length + l.length
  | [], acc, 0, p, h => by
    rw [TL.spl_nil] at h
    simp at h
    subst h
    omega
  | [], acc, k + 1, p, h => by
    rw [TL.spl_nil] at h
    simp at h
    subst h
    omega
  | c :: r, acc, 0, p, h => by
    unfold TL.spl at h
    split at h
    · rcases List.mem_cons.mp h with h | h
      · subst h
        omega
      · have := spl_len S r [] _ p h
        simp at this ⊢
        omega
    · have := spl_len S r _ _ p h
      simp at this ⊢
      omega
  | c :: r, acc, k + 1, p, h => by
    unfold TL.spl at h
    have := spl_len S r acc k p h
    simp at this ⊢
    omega
/-- what a for (of a comprehension) goes over, the heap as it was -/
def EvI (wi : TI) (σ : L2.St) (B : Hp) (xs : List V) : Prop := ∀ H1, Ex B H1 → ∀ R : It → Hp → Prop, (∀ (J : It) (H2 : Hp) (G : Hp → Prop), Ex H1 H2 → Walk J xs.length G (YAt xs) → (∀ H3, Ex H2 H3 → G H3) → R J H2) → wi σ H1 R
theorem ei_list {a : Addr} {xs : List V} (h : Ev tl σ B (.ref a)) (hx : SqL K B a xs) : EvI (iList K tl) σ B xs := fun H1 e R k => h H1 e _ fun H2 e2 => ⟨a, rfl, ⟨xs, ex_l (e.trans e2) hx⟩, k _ H2 _ e2 walk_list fun H3 e3 => ex_l ((e.trans e2).trans e3) hx⟩
theorem ei_listN {xs : List V} (h : EvN tl σ B (.lst xs)) : EvI (iList K tl) σ B xs := fun H1 e R k => h H1 e _ fun p H2 hp e2 h2 => ⟨p, rfl, ⟨xs, sq_of h2⟩, k _ H2 _ e2 walk_list fun H3 e3 => sq_of (e3 p _ h2)⟩
theorem ei_str {s : List Nat} (h : Ev tl σ B (.str (SX.S s))) : EvI (iStr tl) σ B (s.map fun c => .str (SX.S [c])) := fun H1 e R k => h H1 e _ fun H2 e2 => ⟨_, rfl, k _ H2 (fun _ => True) e2 (by
  have hz : (SX.S s).cps.size = s.length := by simp [SX.S]
  have w := walk_str (z := SX.S s)
  rw [hz] at w
  rw [List.length_map]
  refine w.mono (fun _ h => h) fun i H x H' hi _ y => ?_
  obtain ⟨y1, c, hc, hv⟩ := y
  refine ⟨y1, ?_⟩
  have hc' : s[i]? = some c := by simpa [SX.S] using hc
  rw [List.getElem?_map, hc', hv]
  rfl) fun _ _ => trivial⟩
theorem ei_range1 {ta : TA} {n : Int} (h : EvA ta σ B [.int n]) (hn : 0 ≤ n ∧ n ≤ 100000) : EvI (iRng1 ta) σ B ((List.range n.toNat).map fun i : Nat => V.int (i : Int)) := fun H1 e R k => h H1 e _ fun H2 e2 => by
  refine ⟨n, rfl, by omega, by omega, k _ H2 (fun _ => True) e2 ?_ fun _ _ => trivial⟩
  rw [List.length_map, List.length_range]
  refine walk_range.mono (fun _ h => h) fun i H x H' hi _ y => ⟨y.1, ?_⟩
  rw [List.getElem?_map, List.getElem?_range hi, y.2]
  show some (V.int (i : Int)) = some (V.int ((0 : Int) + (i : Int)))
  rw [Int.zero_add]
/-- a comprehension of values -/
theorem en_lc {wi : TI} {xs : List V} {j : Nat} {vs : List Nat} (p : V → Bool) (f : V → V) (h : EvI wi σ B xs) (hz : xs.length ≤ 100000) (hw : ∀ x, wipe ((wipe σ vs).set j (some x)) vs = wipe σ vs)
    (ht : ∀ x ∈ xs, ∀ B', Ex B B' → EvT t ((wipe σ vs).set j (some x)) B' (p x)) (he : ∀ x ∈ xs, ∀ B', Ex B B' → p x = true → Ev te ((wipe σ vs).set j (some x)) B' (f x)) : EvN (tLc wi (gName j) t te vs) σ B (.lst ((xs.filter p).map f)) := fun H1 e Q q =>
  h H1 e _ fun J H2 G e2 w hG => fun Dl hD => lc_it w (fun i H => H2 Dl = none ∧ Ex H2 H ∧ H Dl = some (.lst (((xs.take i).filter p).map f))) ⟨hD, Ex.new hD, upd_same⟩ (fun i H _ a => hG H a.2.1) (fun i x H H' hi a y => by
    obtain ⟨a1, a2, a3⟩ := a
    obtain ⟨y1, y2⟩ := y
    subst y1
    have hm : x ∈ xs := List.mem_of_getElem? y2
    have eB : Ex B H' := (e.trans e2).trans a2
    have et : (xs.take (i + 1)).filter p = (xs.take i).filter p ++ [x].filter p := by
      rw [List.take_add_one, y2, List.filter_append]
      rfl
    refine ⟨hw x, ht x hm H' eB H' (Ex.refl H') _ fun H3 e3 => ?_⟩
    cases hp : p x with
    | true =>
      refine he x hm H' eB hp H3 e3 _ fun H4 e4 => ⟨_, e4 Dl _ (e3 Dl _ a3), ?_, a1, Ex.mut ((a2.trans e3).trans e4) a1, ?_⟩
      · rw [List.length_map]
        have h1 := List.length_filter_le p (xs.take i)
        rw [List.length_take] at h1
        exact Nat.lt_of_le_of_lt (Nat.le_trans h1 (Nat.le_trans (Nat.min_le_right _ _) hz)) (by decide)
      · rw [upd_same, et, List.map_append, List.filter_cons, if_pos hp]
        rfl
    | false =>
      refine ⟨a1, a2.trans e3, ?_⟩
      rw [et, List.filter_cons, if_neg (by rw [hp]; decide)]
      show H3 Dl = some (.lst (((xs.take i).filter p ++ []).map f))
      rw [List.append_nil]
      exact e3 Dl _ a3) fun H a => q Dl H (fresh_back e2 a.1) (e2.trans a.2.1) (by
        have a3 := a.2.2
        rw [List.take_length] at a3
        exact a3)
theorem et_yes : EvT tYes σ B true := fun H1 _ _ q => q H1 (Ex.refl H1)
theorem filter_yes {α : Type} (xs : List α) : xs.filter (fun _ => true) = xs := List.filter_eq_self.mpr fun _ _ => rfl
/-- .. without a test -/
theorem en_lcA {wi : TI} {xs : List V} {j : Nat} {vs : List Nat} (f : V → V) (h : EvI wi σ B xs) (hz : xs.length ≤ 100000) (hw : ∀ x, wipe ((wipe σ vs).set j (some x)) vs = wipe σ vs)
    (he : ∀ x ∈ xs, ∀ B', Ex B B' → Ev te ((wipe σ vs).set j (some x)) B' (f x)) : EvN (tLc wi (gName j) tYes te vs) σ B (.lst (xs.map f)) := by
  have e := en_lc (t := tYes) (fun _ => true) f h hz hw (fun _ _ _ _ => et_yes) fun x hx B' a _ => he x hx B' a
  rw [filter_yes] at e
  exact e
/-- over ints -/
theorem en_lcI {wi : TI} {ns : List Int} {j : Nat} {vs : List Nat} (f : Int → V) (h : EvI wi σ B (ns.map V.int)) (hz : ns.length ≤ 100000) (hw : ∀ x, wipe ((wipe σ vs).set j (some x)) vs = wipe σ vs)
    (he : ∀ n ∈ ns, ∀ B', Ex B B' → Ev te ((wipe σ vs).set j (some (.int n))) B' (f n)) : EvN (tLc wi (gName j) tYes te vs) σ B (.lst (ns.map f)) := by
  have e := en_lcA (te := te) (σ := σ) (B := B) (j := j) (vs := vs) (fun x => match x with | .int n => f n | _ => .non) h (by rw [List.length_map]; exact hz) hw fun x hx B' a => by
    obtain ⟨n, hn, rfl⟩ := List.mem_map.mp hx
    exact he n hn B' a
  rw [List.map_map] at e
  exact e
/-- over the signs of a text -/
theorem en_lcS {wi : TI} {s : List Nat} {j : Nat} {vs : List Nat} (f : Nat → V) (h : EvI wi σ B (s.map fun c => .str (SX.S [c]))) (hz : s.length ≤ 100000) (hw : ∀ x, wipe ((wipe σ vs).set j (some x)) vs = wipe σ vs)
    (he : ∀ c ∈ s, ∀ B', Ex B B' → Ev te ((wipe σ vs).set j (some (.str (SX.S [c])))) B' (f c)) : EvN (tLc wi (gName j) tYes te vs) σ B (.lst (s.map f)) := by
  have e := en_lcA (te := te) (σ := σ) (B := B) (j := j) (vs := vs) (fun x => match x with | .str z => f (z.cps.getD 0 0) | _ => .non) h (by rw [List.length_map]; exact hz) hw fun x hx B' a => by
    obtain ⟨c, hc, rfl⟩ := List.mem_map.mp hx
    exact he c hc B' a
  rw [List.map_map] at e
  exact e
theorem en_split {a b : Str} (ha : Ev ta σ B (.str a)) (hb : Ev tb σ B (.str b)) (h0 : (b.length == 0) = false) (hz : a.length + 2 ≤ sizeLine) :
    EvN (tM1 (fun x xs H Q => ∃ a b, x = .str a ∧ xs = [.str b] ∧ (b.length == 0) = false ∧ a.length + 2 ≤ sizeLine ∧ rNewStrs (Txt.split a b) H Q) ta tb) σ B (.lst ((Txt.split a b).map V.str)) := fun H1 e Q q =>
  ha H1 e _ fun H2 e2 => ⟨⟨a, rfl⟩, hb H2 (e.trans e2) _ fun H3 e3 => ⟨a, b, rfl, rfl, h0, hz, fun p hp => q p _ (fresh_back (e2.trans e3) hp) ((e2.trans e3).trans (Ex.new hp)) upd_same⟩⟩
theorem ev_isi {ta : TA} {c : V} {tv uv : Value} {b : Bool} (h : EvA ta σ B [x, c]) (hc : ClsV c uv) (ht : ∀ H, Ex B H → TyX K H x tv) (hb : PySem.W.kitOne K tv uv = some b) : Ev (tCB (rIsi K) ta) σ B (.bl b) := fun H1 e Q q =>
  h H1 e _ fun H2 e2 => ⟨x, c, tv, uv, b, rfl, hc, ht H2 (e.trans e2), hb, q H2 e2⟩
end
/-- promises: a value; a new object -/
def PV (pre : List V → Hp → V → Prop) : Sp := fun vs H Q _ => ∃ z, pre vs H z ∧ ∀ H2, Ex H H2 → Q z H2
def PN (pre : List V → Hp → HO → Prop) : Sp := fun vs H Q _ => ∃ o, pre vs H o ∧ ∀ p H2, H p = none → Ex H H2 → H2 p = some o → Q (.ref p) H2
section
variable {σ : L2.St} {B : Hp} {ta : TA} {vs : List V} {E : XK} {z : V} {o : HO}
theorem ev_pv {pre : List V → Hp → V → Prop} (h : EvA ta σ B vs) (hp : ∀ H, Ex B H → pre (vs ++ []) H z) : Ev (tCall (PV pre) [] E ta) σ B z := fun H1 e Q q =>
  h H1 e _ fun H2 e2 => ⟨z, hp H2 (e.trans e2), fun H3 e3 => q H3 (e2.trans e3)⟩
theorem en_pn {pre : List V → Hp → HO → Prop} (h : EvA ta σ B vs) (hp : ∀ H, Ex B H → pre (vs ++ []) H o) : EvN (tCall (PN pre) [] E ta) σ B o := fun H1 e Q q =>
  h H1 e _ fun H2 e2 => ⟨o, hp H2 (e.trans e2), fun p H3 hp' e3 h3 => q p H3 (fresh_back e2 hp') (e2.trans e3) h3⟩
end
/-- .. a new object of which this is known -/
def EvNd (te : TE) (σ : L2.St) (B : Hp) (F : HO → Prop) : Prop := ∀ H1, Ex B H1 → ∀ Q : VK, (∀ p H2 o, H1 p = none → Ex H1 H2 → H2 p = some o → F o → Q (.ref p) H2) → te σ H1 Q
def PNd (pre : List V → Hp → (HO → Prop) → Prop) : Sp := fun vs H Q _ => ∃ F, pre vs H F ∧ ∀ p H2 o, H p = none → Ex H H2 → H2 p = some o → F o → Q (.ref p) H2
section
variable {σ : L2.St} {B : Hp} {te : TE} {tz : TS} {D : Ends} {ta : TA} {vs : List V} {E : XK} {F : HO → Prop}
theorem en_pnd {pre : List V → Hp → (HO → Prop) → Prop} (h : EvA ta σ B vs) (hp : ∀ H, Ex B H → pre (vs ++ []) H F) : EvNd (tCall (PNd pre) [] E ta) σ B F := fun H1 e Q q =>
  h H1 e _ fun H2 e2 => ⟨F, hp H2 (e.trans e2), fun p H3 o hp' e3 h3 hf => q p H3 o (fresh_back e2 hp') (e2.trans e3) h3 hf⟩
theorem r_asgNd {i : Nat} (h : EvNd te σ B F) (k : ∀ p o, B p = none → F o → R tz D (σ.set i (some (.ref p))) (upd B p o)) : R (tSeq (tAsg te (gName i)) tz) D σ B := fun H a =>
  h H a _ fun p H2 o hp e hh hf => k p o (fresh_back a hp) hf H2 (ex_up (a.trans e) hh)
theorem r_newd {i : Nat} (h : EvNd te σ B F) (k : ∀ p B' o, B p = none → Ex B B' → B' p = some o → F o → R tz D (σ.set i (some (.ref p))) B') : R (tSeq (tAsg te (gName i)) tz) D σ B := r_asgNd h fun p o hp hf => k p _ o hp (Ex.new hp) upd_same hf
end

/-! ### draws -/
/-- a new list of so many ints below the bound -/
def DrawO (m b : Int) (o : HO) : Prop := ∃ ns : List Int, o = .lst (ns.map V.int) ∧ (ns.length : Int) = m ∧ ∀ n ∈ ns, 0 ≤ n ∧ n < b
def spDraw : Sp := PNd fun vs _ F => ∃ c m b : Int, vs = [.int c, .int m, .int b] ∧ 0 ≤ m ∧ m ≤ 1000 ∧ 0 < b ∧ b < 1073741824 ∧ F = DrawO m b
end FK

set_option Elab.async false
set_option linter.all false
set_option maxRecDepth 100000
set_option maxHeartbeats 4000000
/-! the errors of a program of ours: made by an __init__ that reads the class's name (own text) -/
namespace FkE
open PySem PySem.W PySem.Calls PyProof.Rows Builtin Builtin.ObjectAttr Builtin.Getset_descriptor
section
variable {prog : Program} {w : World} {A : Around} {E : Value → Shared → Prop} {s : Shared} {K : Frag} {x C : Addr} {ox : Obj} {od : Option Obj} {expr : Bool}
theorem find_data {n : Str} {a g : Value} (hc : (clsIn K C).isSome = true) (ha : findIn K (.ref C) n = some (some a)) (hg : specialIn K a "__get__" = some (some g)) (ht : takesIn K a = some true) : findObj K C od n = some (.bind g a) := by
  obtain ⟨cd, hcd⟩ := Option.isSome_iff_exists.mp hc
  simp only [findObj, hcd, Option.bind_some, ha, hg, ht]
/-- e.__class__ of an error -/
theorem exc_clsBy {Q : Value → Shared → Prop} {gt : Option Value} {fill : Bool} {t : Tok} (X : K.In s.heap) (I : InstAt s.heap x ox C od) (ga : findIn K (.ref C) "__getattribute__" = some (some (.builtin "BaseException.__getattribute__"))) (gg : findIn K (.ref C) "__getattr__" = some gt)
    (sb : subIn K (.ref C) (.type "BaseException") = some true) (hf : findObj K C od "__class__" = some (.bind (.builtin "getset_descriptor.__get__") (.builtin "object.__class__"))) (hm : mroIn K C (.type "object") = some true) (h : Q (.ref C) s) :
    wpAny (model prog w) A (getAttrBy (.ref x) (.str "__class__" t) fill expr) Q E s := by
  obtain ⟨hp, g, d, tt, os⟩ := s
  have l0 := I.type (M := model prog w)
  have l1 := looks_findIn (M := model prog w) X ga
  have l2 := looks_findIn (M := model prog w) X gg
  have l3 := looks_find (M := model prog w) X I hf
  have no2 : (Value.builtin "BaseException.__getattribute__" == Value.builtin "object.__getattribute__") = false := by decide +kernel
  have no1 : (onTheHeap (Value.ref C) && Value.builtin "BaseException.__getattribute__" == Value.builtin "object.__getattribute__") = false := by rw [no2]; rfl
  have no0 : (expr && onTheHeap (Value.builtin "BaseException.__getattribute__")) = false := by cases expr <;> rfl
  simp only [getAttrBy]
  refine wpAny_holding (wpAny_bind (l0.at (wpAny_bind (l1.at ?_))))
  show wpAny _ _ (if (onTheHeap (Value.ref C) && Value.builtin "BaseException.__getattribute__" == Value.builtin "object.__getattribute__") = true then _ else _) _ _ _
  rw [no1, if_neg Bool.false_ne_true]
  simp only [getAttrByItsOwn, hookBefore]
  refine wpAny_bind ?_
  rw [if_pos (show onTheHeap (Value.ref C) = true from rfl)]
  refine l2.at (wpAny_bind (wpAny_attempt (wpAny_holding ?_)))
  unfold callGetattribute
  rw [no0, if_neg Bool.false_ne_true]
  unfold boundAndCalled
  rw [PySem.F.excAttr_ValueError.ga.bind (.ref x)]
  refine wpAny_bind (wpAny_pure ?_)
  show wpAny _ _ (call (.builtin "BaseException.__getattribute__") [.ref x, .str "__class__" t]) _ _ _
  refine wpAny_call (codeAny_call_builtin PySem.F.excAttr_ValueError.ga.plain PySem.F.entry_bexc_ga (@check_slot (model prog w) _ _ ⟨hp, g, d, tt, os⟩ "BaseException.__getattribute__" "BaseException" "__getattribute__" (.ref x) [.str "__class__" t] [] _ (by decide +kernel) (by decide +kernel) (l0.andThen (looks_subIn X sb)) (PySem.F.args_bexc_ga (.ref x) (.str "__class__" t)) ?_))
  unfold Builtin.«object.__getattribute__»
  refine wpAny_bind (wpAny_of_eq (a := ((Value.ref x : Value), [Value.str "__class__" t])) (by first | rfl | (simp only [slotArgs]; rfl)) ?_)
  refine wpAny_bind (wpAny_pure (wpAny_bind (l0.at (wpAny_bind (l3.at ?_)))))
  show wpAny _ _ (holding [Value.builtin "object.__class__"] (call (.builtin "getset_descriptor.__get__") [.builtin "object.__class__", .ref x, .ref C]) >>= ret) _ _ _
  refine wpAny_bind (wpAny_holding (wpAny_call (class_get (s := ⟨hp, g, d, tt, os⟩) X I hm (wpAny_pure ?_))))
  show wpAny _ _ (handedOut (.ref C)) _ _ _
  rw [handedOut_of (v := .ref C) rfl]
  exact wpAny_pure h
theorem exc_cls {Q : Value → Shared → Prop} {gt : Option Value} (X : K.In s.heap) (I : InstAt s.heap x ox C od) (ga : findIn K (.ref C) "__getattribute__" = some (some (.builtin "BaseException.__getattribute__"))) (gg : findIn K (.ref C) "__getattr__" = some gt)
    (sb : subIn K (.ref C) (.type "BaseException") = some true) (hf : findObj K C od "__class__" = some (.bind (.builtin "getset_descriptor.__get__") (.builtin "object.__class__"))) (hm : mroIn K C (.type "object") = some true) (h : Q (.ref C) { s with toks := s.toks + 1 }) :
    wpAny (model prog w) A (getAttr (.ref x) "__class__" expr) Q E s := wpAny_bind (wpAny_mkText (exc_clsBy (s := { s with toks := s.toks + 1 }) X I ga gg sb hf hm h))
theorem exc_cls? {Q : Option Value → Shared → Prop} {gt : Option Value} (X : K.In s.heap) (I : InstAt s.heap x ox C od) (ga : findIn K (.ref C) "__getattribute__" = some (some (.builtin "BaseException.__getattribute__"))) (gg : findIn K (.ref C) "__getattr__" = some gt)
    (sb : subIn K (.ref C) (.type "BaseException") = some true) (hf : findObj K C od "__class__" = some (.bind (.builtin "getset_descriptor.__get__") (.builtin "object.__class__"))) (hm : mroIn K C (.type "object") = some true) (h : Q (some (.ref C)) { s with toks := s.toks + 1 }) :
    wpAny (model prog w) A (getAttr? (.ref x) "__class__") Q E s := wpAny_bind (wpAny_mkText (wpAny_bind (wpAny_attempt (exc_clsBy (s := { s with toks := s.toks + 1 }) X I ga gg sb hf hm (wpAny_pure h)))))
/-- what isinstance asks of an error that has its dict -/
theorem kit_err (ga : findIn K (.ref C) "__getattribute__" = some (some (.builtin "BaseException.__getattribute__"))) (gg : findIn K (.ref C) "__getattr__" = some none) (sb : subIn K (.ref C) (.type "BaseException") = some true) (hd : hasDictIn K C = true)
    (ha : findIn K (.ref C) "__class__" = some (some (.builtin "object.__class__"))) (hn : specialIn K (.builtin "object.__class__") "__get__" = some (some (.builtin "getset_descriptor.__get__"))) (ht : takesIn K (.builtin "object.__class__") = some true) (hm : mroIn K C (.type "object") = some true) :
    KitX K (.ref x) (.ref C) (fun h => ∃ od, InstAt h x ox C od) where
  ty := fun _ _ _ ⟨_, I⟩ => I.type
  it := fun _ _ X _ => by
    obtain ⟨cd, hc, _⟩ := any_some hd
    unfold clsIn at hc
    split at hc
    · rename_i c' d' cd' sl' ho
      intro A' Q' E' s' k q
      unfold isType loadHead
      exact wpAny_bind (wpAny_loadPart (k _ _ (X _ _ ho)) (wpAny_pure q))
    · cases hc
  ne := fun h tp dd its n sl X htp => by
    obtain ⟨cd, hc, _⟩ := any_some hd
    cases q : (Value.ref C == Value.ref tp) with
    | false => rfl
    | true =>
      have e : C = tp := Value.ref.inj (beq_iff_eq.mp q)
      subst e
      unfold clsIn at hc
      split at hc
      · rename_i ho
        cases (X _ _ ho).symm.trans htp
      · cases hc
  ca := fun X ⟨_, I⟩ k => exc_cls? X I ga gg sb (find_data (by obtain ⟨cd, hc, _⟩ := any_some hd; rw [hc]; rfl) ha hn ht) hm k
/-- C.__name__ -/
structure NmC (K : Frag) (C : Addr) (nm : Str) : Prop where
  rd : readsIn K C (.type "type") = true
  fd : findCls K (.ref C) (.type "type") "__name__" = some (.get (.builtin "getset_descriptor.__get__") (.builtin "type.__name__") (.ref C) (.type "type"))
  ob : ∃ (o : Obj) (t : Tok), K.lookup C = some o ∧ o.cls = .type "type" ∧ (o.slots[2]?).join = some (.str nm t)
theorem name_run {R : Result → Shared → Prop} {tp v : Value} {o : Obj} (ho : s.heap.get? C = some o) (hc : o.cls = .type "type") (hs : (o.slots[2]?).join = some v) (h : R (.ok (.ret v)) s) :
    codeAny (model prog w) A (.call (.builtin "getset_descriptor.__get__") ⟨[.builtin "type.__name__", .ref C, tp], []⟩) R s := by
  obtain ⟨hh, g, dr, t, os⟩ := s
  have l0 : Looks (model prog w) hh (typeOf (.ref C)) (.type "type") := fun A Q E s k q => by
    refine wpAny_bind (wpAny_loadPart (k _ _ ho) (wpAny_pure ?_))
    rw [hc]
    exact q
  have l1 : Looks (model prog w) hh (isSubtype (.type "type") (.type "type")) true := Looks.of_pure (by rw [isSubtype_type]; kernel_rfl)
  refine codeAny_call_builtin KF.slot_gs.plain KF.entry_gs (KF.slot_gs.check _ _ _ _ _ _ _ _ ktyn_type (KF.args_gs _ _ _) ?_)
  unfold Builtin.«getset_descriptor.__get__» descrGet
  rw [dga_obj]
  refine wpAny_bind (wpAny_pure ?_)
  unfold descrGetter descrCheckInstance descrNameAndClass isInstance
  simp only [ktyn_owner]
  repeat lk
  refine ⟨Code.quiet_builtin _ (by decide +kernel), codeAny_builtin ktyn_entry ?_⟩
  unfold Builtin.«type.__name__»
  show wpAny _ _ (keptObject (.ref C) 2 "__name__" _) _ _ _
  unfold keptObject slotAt
  refine wpAny_bind (wpAny_bind (wpAny_loadPart ho (wpAny_pure ?_)))
  rw [hs]
  first
    | exact wpAny_pure h
    | exact wpAny_bind (wpAny_pure (wpAny_pure h))
    | exact wpAny_pure (wpAny_pure h)
theorem name_get {Q : Value → Shared → Prop} {nm : Str} (X : K.In s.heap) (N : NmC K C nm) (h : ∀ t, Q (.str nm t) { s with toks := s.toks + 1 }) : wpAny (model prog w) A (getAttr (.ref C) "__name__" expr) Q E s := by
  obtain ⟨o, t, hl, hc, hs⟩ := N.ob
  exact cls_bind X N.rd N.fd (wpAny_call (name_run (X C o hl) hc hs (handed_on rfl (h t))))
end
end FkE
namespace FK
open PySem PySem.Spec PyProof.Rows L2 Evl FkE
/-- e.__class__, e an error that is being made and has its dict -/
def tClsE (K : PySem.W.Frag) (te : TE) : TE := fun σ H Q => te σ H fun x H1 => ∃ (a C dx : Addr) (fs : List (Str × V)), x = .ref a ∧ H1 a = some (exo a C (some dx)) ∧ H1 dx = some (exd dx fs) ∧ ExcC K C ∧ Q (.ref C) H1
theorem pe_clsE {X : Cx} {e : Expr} {te : TE} {pos : Pos} (he : PE X e te) (hb : attributeBase e "__class__" X.env (eval e X.env) = eval e X.env := by rfl) : PE X (.Attribute e "__class__" pos) (tClsE X.K te) := by
  refine ⟨fun pins s σ H Q I h => attr_of hb (thn (he.run pins s σ H _ I h) fun u s1 ⟨x, H1, I1, rx, a, C, dx, fs, ex, ea, ed, T, q⟩ => ?_)⟩
  subst ex
  obtain rfl : u = Value.ref a := rx
  obtain ⟨t1, ho⟩ := exo_at I1.hok ea
  obtain ⟨mA, ⟨od, es, ep, hd, _⟩, _⟩ := exd_at I1.hok ed
  have J : PySem.W.InstAt s1.heap a ({ cls := .ref C, dict := some dx, data := .fields #[.ref t1, .none, .none, .none, .bool false, .none] } : Obj) C (some od) := ⟨ho, rfl, by unfold PySem.W.notCls; rfl, hd⟩
  exact exc_cls I1.kIn J T.hg T.hk T.hs (find_data (by obtain ⟨cd, hc, _⟩ := PySem.W.any_some T.hd; rw [hc]; rfl) T.ha T.hn T.ht) T.hm ⟨.ref C, H1, I1.tok _, rfl, q⟩
/-- e.__name__, e a class of one's own -/
def tNmC (K : PySem.W.Frag) (te : TE) : TE := fun σ H Q => te σ H fun x H1 => ∃ (C : Addr) (nm : Str), x = .ref C ∧ NmC K C nm ∧ Q (.str nm) H1
theorem pe_nmC {X : Cx} {e : Expr} {te : TE} {pos : Pos} (he : PE X e te) (hb : attributeBase e "__name__" X.env (eval e X.env) = eval e X.env := by rfl) : PE X (.Attribute e "__name__" pos) (tNmC X.K te) := by
  refine ⟨fun pins s σ H Q I h => attr_of hb (thn (he.run pins s σ H _ I h) fun u s1 ⟨x, H1, I1, rx, C, nm, ex, N, q⟩ => ?_)⟩
  subst ex
  obtain rfl : u = Value.ref C := rx
  exact name_get I1.kIn N fun t => ⟨.str nm, H1, I1.tok _, ⟨t, rfl⟩, q⟩
/-! ### making and raising -/
/-- what an error made so knows -/
def errF (nm : Str) (v : V) : List (Str × V) := [("name", .str nm), ("place", v)]
/-- what is asked of an error class -/
structure ErrK (K : PySem.W.Frag) (C : Addr) (nm : Str) : Prop where
  ox : OexC K C
  ex : ExcC K C
  nm : NmC K C nm
  np : PySem.W.findIn K (.ref C) "place" = some none
  nn : PySem.W.findIn K (.ref C) "name" = some none
theorem ErrK.xf {K : PySem.W.Frag} {C : Addr} {nm : Str} (Z : ErrK K C nm) : XfC K C := ⟨Z.ex.hg, Z.ex.hk, Z.ex.hs, Z.ex.hd⟩
/-- the __init__'s promise -/
def spInit (K : PySem.W.Frag) : Sp := fun vs H Q _ => ∃ (a C : Addr) (nm : Str) (v : V), vs = [.ref a, v] ∧ ErrK K C nm ∧ H a = some (exo a C none) ∧
  ∀ d, H d = none → d ≠ a → Q .non (upd (upd (upd H d (exd d [("place", v)])) a (exo a C (some d))) d (exd d (errF nm v)))
/-- an error class under its name, with what its making leans on -/
structure ErrC (P : Program) (w : World) (K : PySem.W.Frag) (mg : Str → Option Value) (base : Heap) (x : Str) (C : Addr) : Prop where
  gC : mg x = some (.ref C)
  k : ErrK K C x
  ini : ∃ (fI : Addr) (fd : FuncData), PySem.W.findIn K (.ref C) "__init__" = some (some (.ref fI)) ∧ PySem.W.typeIn K (.ref fI) = some (.type "function") ∧
    FnOk P w K mg base CX0 1 fI fd ["self", "place"] (spInit K) ∧ Binds K fd ["self", "place"] []
/-- raise x(e) -/
def tRz (K : PySem.W.Frag) (C : Addr) (te : TE) (W : WX) : TS := fun _ σ H => tMkO C (spInit K) [] (tCons te tNil) σ H fun cls d H' => W cls d σ H'
theorem ps_raiseC {X : Cx} {W : WX} {x : Str} {C : Addr} {e : Expr} {te : TE} {j : Nat} {p pos pos' : Pos} (Z : ErrC X.prog X.w X.K X.mg X.base x C) (hc : X.calm = true) (tk : Takes X W) (hr : Room j X.A) (hj : 2 ≤ j) (hg : Gl X x) (ha : PA X [e] (tCons te tNil))
    (hdb : (x == ("__debug__" : Str)) = false := by decide) (hst : starEach [e] X.env = (false, eval e X.env) :: starEach [] X.env := by rfl) (hpl : (backTo pos (starEach [] X.env)).any (·.1) = false := by rfl) :
    PS X (.Raise (some (.Call (.Name x p) [e] [] pos)) none pos') (tRz X.K C te W) := by
  obtain ⟨fI, fd, iC, tI, F, b⟩ := Z.ini
  exact ps_raise (pos := pos') hc tk (pmk_oex (es := []) (dvs := []) (ds := []) Z.k.ox iC tI F (hr.mono hj) b .nil pass0 hg Z.gC ha hdb hst hpl)
theorem del_upd {H : Hp} {a : Addr} {o : HO} (h : H a = none) : del (upd H a o) a = H := by
  funext b
  by_cases c : b = a
  · subst c
    rw [del_same, h]
  · rw [del_ne c, upd_ne c]
section
variable {K : PySem.W.Frag} {σ : L2.St} {B : Hp} {te : TE} {tz : TS} {D : Ends} {v : V} {W : WX} {C : Addr} {x : Str}
theorem r_raise (Z : ErrK K C x) (h : Ev te σ B v) (k : ∀ d H, B d = none → Ex B H → H d = some (.xd (errF x v)) → W (.ref C) (some d) σ H) : R (tSeq (tRz K C te W) tz) D σ B := fun H e =>
  h H e _ fun H1 e1 => ⟨(by decide : 1 ≤ 1000), fun a na => ⟨a, C, x, v, rfl, Z, upd_same, fun d nd hda => ⟨rfl, d, errF x v, by rw [upd_ne (Ne.symm hda), upd_same], upd_same, by rw [upd_ne hda] at nd; exact nd, by
    rw [upd_ne hda] at nd
    have hb : upd (del (upd (upd (upd (upd H1 a (exo a C none)) d (exd d [("place", v)])) a (exo a C (some d))) d (exd d (errF x v))) a) d (.xd (errF x v)) = upd H1 d (.xd (errF x v)) := by
      funext b
      by_cases c : b = d
      · subst c
        rw [upd_same, upd_same]
      · rw [upd_ne c, upd_ne c]
        by_cases c2 : b = a
        · subst c2
          rw [del_same, na]
        · rw [del_ne c2, upd_ne c, upd_ne c2, upd_ne c, upd_ne c2]
    rw [hb]
    exact k d _ (fresh_back (e.trans e1) nd) ((e.trans e1).trans (Ex.new nd)) upd_same⟩⟩⟩
end
/-! ### defs that may raise -/
/-- what comes of a call: a value, a new object, an error -/
inductive Out where
  | val (z : V) | new (o : HO) | err (x : Str) (v : V)
def spO (mg : Str → Option Value) (pre : List V → Hp → Out → Prop) : Sp := fun vs H Q E => ∃ r, pre vs H r ∧ match r with
  | .val z => ∀ H2, Ex H H2 → Q z H2
  | .new o => ∀ p H2, H p = none → Ex H H2 → H2 p = some o → Q (.ref p) H2
  | .err x v => ∀ C d H2, mg x = some (.ref C) → H d = none → Ex H H2 → H2 d = some (.xd (errF x v)) → E (.ref C) (some d) H2
structure CalX (P : Program) (w : World) (K : PySem.W.Frag) (mg : Str → Option Value) (base : Heap) (k : Nat) (x : Str) (sp : Sp) : Prop where
  ex : ∃ (f : Addr) (fd : FuncData) (ps : List Str), FnOk P w K mg base (L2.CX P w) k f fd ps sp ∧ mg x = some (.ref f) ∧ PySem.W.keepIn K (.ref f) = true ∧ Binds K fd ps []
section
variable {P : Program} {w : World} {K : PySem.W.Frag} {mg : Str → Option Value} {base : Heap}
theorem calX {x : Str} {st : Stmt} {N ps : List Str} {k : Nat} {sp : Sp} (D : Def K mg x st ps) (S : FnScope N ps (defScope st)) (len : ∀ vs H Q E, sp vs H Q E → vs.length = ps.length)
    (hbody : ∀ (f : Addr) (cdv : Value) (A : Around) (outer : List Env) (s : Shared) (H : Hp) (vs : List V) (Q : VK) (E : XK), Room k (A.deeper (envOfC x (defScope st) s.heap.objs.size f cdv)) → sp vs H Q E →
      ∃ t, PSs (cxOf (L2.CX P w) P w K mg base N x (defScope st) f cdv A outer s H E) (defBody st) t ∧ t { nx := fun _ H' => Q .non H', rt := Q } (start N vs) H) : CalX P w K mg base (k + 1) x sp := by
  obtain ⟨f, fd, F, m, b⟩ := D.ex
  exact ⟨f, fd, ps, F.okX S len (hbody f), m, F.kp, b⟩
end
section
variable {X : Cx} {k j : Nat} {x : Str} {sp : Sp} {p pos : Pos} {e : Expr} {es : List Expr} {t : TA} {W : WX}
theorem pe_cX (c : CalX X.prog X.w X.K X.mg X.base k x sp) (tk : Takes X W) (hr : Room j X.A) (hk : k ≤ j) (hg : Gl X x) (ha : PA X (e :: es) t)
    (hdb : (x == ("__debug__" : Str)) = false := by decide) (he : starEach (e :: es) X.env = (false, eval e X.env) :: starEach es X.env := by rfl) (hpl : (backTo pos (starEach es X.env)).any (·.1) = false := by rfl) :
    PE X (.Call (.Name x p) (e :: es) [] pos) (tCallS sp (WE W) t) := by
  obtain ⟨f, fd, ps, F, hm, kp, b⟩ := c.ex
  exact pe_callS F (hr.mono hk) hg hm kp b (fun σ => passAt tk σ) ha hdb he hpl
end
section
variable {mg : Str → Option Value} {σ : L2.St} {B : Hp} {ta : TA} {te : TE} {tz : TS} {D : Ends} {vs : List V} {W : WX} {z v : V} {o : HO} {x : Str} {pre : List V → Hp → Out → Prop}
theorem ev_cx (h : EvA ta σ B vs) (hp : ∀ H, Ex B H → pre vs H (.val z)) : Ev (tCallS (spO mg pre) (WE W) ta) σ B z := fun H1 e Q q => h H1 e _ fun H2 e2 => ⟨.val z, hp H2 (e.trans e2), fun H3 e3 => q H3 (e2.trans e3)⟩
theorem en_cx (h : EvA ta σ B vs) (hp : ∀ H, Ex B H → pre vs H (.new o)) : EvN (tCallS (spO mg pre) (WE W) ta) σ B o := fun H1 e Q q => h H1 e _ fun H2 e2 => ⟨.new o, hp H2 (e.trans e2), fun p H3 np e3 h3 => q p H3 (fresh_back e2 np) (e2.trans e3) h3⟩
/-- it raises -/
def EvE (mg : Str → Option Value) (W : WX) (te : TE) (σ : L2.St) (B : Hp) (x : Str) (v : V) : Prop := ∀ H1, Ex B H1 → ∀ Q : VK, (∀ C d H2, mg x = some (.ref C) → B d = none → Ex B H2 → H2 d = some (.xd (errF x v)) → W (.ref C) (some d) σ H2) → te σ H1 Q
theorem ee_cx (h : EvA ta σ B vs) (hp : ∀ H, Ex B H → pre vs H (.err x v)) : EvE mg W (tCallS (spO mg pre) (WE W) ta) σ B x v := fun H1 e Q q => h H1 e _ fun H2 e2 => ⟨.err x v, hp H2 (e.trans e2), fun C d H3 m nd e3 h3 => q C d H3 m (fresh_back (e.trans e2) nd) ((e.trans e2).trans e3) h3⟩
theorem r_retE (h : EvE mg W te σ B x v) (k : ∀ C d H, mg x = some (.ref C) → B d = none → Ex B H → H d = some (.xd (errF x v)) → W (.ref C) (some d) σ H) : R (tSeq (tRet te) tz) D σ B := fun H e => h H e _ k
theorem r_asgE {i : Nat} (h : EvE mg W te σ B x v) (k : ∀ C d H, mg x = some (.ref C) → B d = none → Ex B H → H d = some (.xd (errF x v)) → W (.ref C) (some d) σ H) : R (tSeq (tAsg te (gName i)) tz) D σ B := fun H e => h H e _ k
end
/-- isinstance(e, c), e the error that the suite holds, with its dict -/
def rIsD (K : PySem.W.Frag) (C a d : Addr) : List V → Hp → VK → Prop := fun xs H Q => ∃ (c : V) (cv : Value) (b : Bool) (fs : List (Str × V)), xs = [.ref a, c] ∧ ClsV c cv ∧ PySem.W.kitOne K (.ref C) cv = some b ∧ H d = some (.xd fs) ∧ Q (.bl b) H
theorem call_isD {X : Cx} {a C d : Addr} {oe : Obj} {pn : List (Addr × Obj)} (T : ExcC X.K C) (hz : Zc (.ref C) (some d) oe) (hf : ∃ vs, oe.data = .fields vs) : CallR (X.suite a ((a, oe) :: pn)) (.builtin "isinstance") (rIsD X.K C a d) := by
  intro pins s σ H xs us Q I r h
  obtain ⟨c, cv, b, fs, rfl, hcv, e, hd, q⟩ := h
  cases r with
  | cons rx rr =>
    cases rr with
    | cons rt rr =>
      cases rr
      cases rx
      have ec := hcv.eq rt
      subst ec
      obtain ⟨hget, _⟩ := I.pin (a, oe) (List.mem_append.mpr (.inl List.mem_cons_self))
      obtain ⟨vs, hv⟩ := hf
      have hxd : ObjOk X.prog X.w H s.heap d (.xd fs) := I.hok d _ hd
      obtain ⟨mA, ⟨od, es, ep, ho, _⟩, _⟩ := hxd
      have J : PySem.W.InstAt s.heap a oe C (some od) := ⟨hget, hz.1, by unfold PySem.W.notCls; rw [hv] <;> rfl, by rw [hz.2]; exact ho⟩
      exact PySem.W.kia_one (kit_err T.hg T.hk T.hs T.hd T.ha T.hn T.ht T.hm) I.kIn ⟨_, J⟩ e (fun z => nomatch z) fun tk => ⟨.bl b, H, I.kept (t' := tk) fun _ _ z => z, rfl, q⟩
end FK

set_option Elab.async false
set_option linter.all false
set_option maxRecDepth 100000
/-! suites, data compared whole, further words (own text) -/
namespace FK
open PySem PySem.Spec PyProof.Rows L2 Evl FkE
theorem ErrC.g {P : Program} {w : World} {K : PySem.W.Frag} {mg : Str → Option Value} {base : Heap} {x : Str} {C : Addr} (Z : ErrC P w K mg base x C) : ∃ u, mg x = some u ∧ RelV (.ref C) u := ⟨_, Z.gC, rfl⟩
/-! ### data -/
section
variable {K : PySem.W.Frag} {H H' : Hp}
mutual
theorem dp_ex (e : Ex H H') : ∀ (d : PyData) (v : V), Dp K H v d → Dp K H' v d
  | .none, _, h => by
    cases h
    exact .non
  | .bool b, _, h => by
    cases h
    exact .bl b
  | .int i, _, h => by
    cases h
    exact .int i
  | .str x, _, h => by
    cases h
    exact .str x
  | .list ds, _, h => by
    cases h with
    | lst a b => exact .lst (ex_l e a) (dpa_ex e ds _ b)
  | .tuple ds, _, h => by
    cases h with
    | tup a b => exact .tup (ex_t e a) (dpa_ex e ds _ b)
  | .dict ds, _, h => nomatch h
theorem dpa_ex (e : Ex H H') : ∀ (ds : List PyData) (vs : List V), DpAll K H vs ds → DpAll K H' vs ds
  | [], _, h => by
    cases h
    exact .nil
  | d :: ds, _, h => by
    cases h with
    | cons a b => exact .cons (dp_ex e d _ a) (dpa_ex e ds _ b)
end
theorem dpa_ints : ∀ ns : List Int, DpAll K H (ns.map V.int) (ns.map PyData.int)
  | [] => .nil
  | n :: r => .cons (.int n) (dpa_ints r)
theorem eqvA_ints : ∀ xs ys : List Int, PyData.eqvAll (xs.map PyData.int) (ys.map PyData.int) = decide (xs = ys)
  | [], [] => by simp [PyData.eqvAll]
  | [], y :: ys => by simp [PyData.eqvAll]
  | x :: xs, [] => by simp [PyData.eqvAll]
  | x :: xs, y :: ys => by
    have ih := eqvA_ints xs ys
    show (PyData.eqv (.int x) (.int y) && PyData.eqvAll (xs.map PyData.int) (ys.map PyData.int)) = _
    rw [ih]
    have e : PyData.eqv (.int x) (.int y) = decide (x = y) := by
      simp only [PyData.eqv]
      rfl
    rw [e]
    by_cases h1 : x = y <;> by_cases h2 : xs = ys <;> simp [h1, h2]
theorem eqv_ints (xs ys : List Int) : PyData.eqv (.list (xs.map PyData.int)) (.list (ys.map PyData.int)) = decide (xs = ys) := by
  rw [PyData.eqv, eqvA_ints]
end
section
variable {K : PySem.W.Frag} {σ : L2.St} {B : Hp} {ta tb te : TE} {v : V} {d e : PyData}
/-- a value that this data is -/
def EvD (K : PySem.W.Frag) (te : TE) (σ : L2.St) (B : Hp) (d : PyData) : Prop := EvP te σ B fun v H => Dp K H v d
theorem ed_ev (h : Ev te σ B v) (hd : Dp K B v d) : EvD K te σ B d := fun H1 a Q q => h H1 a _ fun H2 e2 => q v H2 e2 (dp_ex (a.trans e2) d v hd)
theorem ed_tup {vs : List V} {ds : List PyData} (h : EvN te σ B (.tup vs)) (hd : DpAll K B vs ds) : EvD K te σ B (.tuple ds) := fun H1 a Q q => h H1 a _ fun p H2 _ e2 h2 => q _ H2 e2 (.tup (st_of h2) (dpa_ex (a.trans e2) ds vs hd))
theorem ed_lst {vs : List V} {ds : List PyData} (h : EvN te σ B (.lst vs)) (hd : DpAll K B vs ds) : EvD K te σ B (.list ds) := fun H1 a Q q => h H1 a _ fun p H2 _ e2 h2 => q _ H2 e2 (.lst (sq_of h2) (dpa_ex (a.trans e2) ds vs hd))
theorem ev_eqD (ha : EvD K ta σ B d) (hb : EvD K tb σ B e) (sd : SeqAt.shaped d = true) (se : SeqAt.shaped e = true) : Ev (tOp (rEqD K) ta tb) σ B (.bl (PyData.eqv d e)) := fun H1 a Q q =>
  ha H1 a _ fun v H2 e2 hv => hb H2 (a.trans e2) _ fun u H3 e3 hu => ⟨d, e, dp_ex e3 d v hv, hu, sd, se, q H3 (e2.trans e3)⟩
theorem ev_neD (ha : EvD K ta σ B d) (hb : EvD K tb σ B e) (sd : SeqAt.shaped d = true) (se : SeqAt.shaped e = true) : Ev (tOp (rNeD K) ta tb) σ B (.bl (!PyData.eqv d e)) := fun H1 a Q q =>
  ha H1 a _ fun v H2 e2 hv => hb H2 (a.trans e2) _ fun u H3 e3 hu => ⟨d, e, dp_ex e3 d v hv, hu, sd, se, q H3 (e2.trans e3)⟩
end
/-- try: .. except c as slot i: .. -/
def tTryA (K : PySem.W.Frag) (c : Value) (i : Nat) (tb : WX → TS) (ts : Addr → Value → Option Addr → TS) (Wout : WX) : TS := fun D σ H => tb (wAs K c i ts Wout D) D σ H
theorem ps_tryA {X : Cx} {st : Stmt} {c : Value} {i : Nat} {tb : WX → TS} {ts : Addr → Value → Option Addr → TS} {Wout : WX} (h : PS X st (fun D σ H => tb (wAs X.K c i ts Wout D) D σ H)) : PS X st (tTryA X.K c i tb ts Wout) := h
/-! ### statements -/
theorem ip_mul {X : Cx} : PIp X .Mult (rI CMul fun i j => .int (i * j)) := fun pins s σ H x y u v Q I rx ry h => iop_mul pins s σ H x y u v Q I rx ry h
section
variable {K : PySem.W.Frag} {σ : L2.St} {B : Hp} {ta tb te tl : TE} {tz : TS} {D : Ends} {v : V}
theorem r_augC {C : Int → Int → Prop} {i : Nat} {f : Int → Int → Int} {a b : Int} (hx : σ[i]? = some (some (.int a))) (h : Ev te σ B (.int b)) (hc : C a b) (k : R tz D (σ.set i (some (.int (f a b)))) B) : R (tSeq (tAug i te (rI C fun i j => .int (f i j))) tz) D σ B := fun H e =>
  ⟨_, hx, h H e _ fun H1 e1 => ⟨a, b, rfl, rfl, hc, k H1 (e.trans e1)⟩⟩
theorem r_try {tb : WX → TS} {c : Value} {i : Nat} {ts : Addr → Value → Option Addr → TS} {Wout : WX} (h : R (tb (wAs K c i ts Wout { D with nx := tz D })) { D with nx := tz D } σ B) : R (tSeq (tTryA K c i tb ts Wout) tz) D σ B := h
theorem r_setL {l : Addr} {xs : List V} {j : Nat} (hl : B l = some (.lst xs)) (h : Ev te σ B v) (ho : Ev ta σ B (.ref l)) (hi : Ev tb σ B (.int (j : Int))) (hj : j < xs.length) (k : R tz D σ (upd B l (.lst (xs.set j v)))) :
    R (tSeq (tAsg te (gSub ta tb rSetL)) tz) D σ B := fun H a => q_setL (a l _ hl) (h.mono a) (ho.mono a) (hi.mono a) hj fun H1 e => k _ (ex_mut (a.trans e))
end
/-! ### suites -/
/-- a suite that is read for the errors of our making alone -/
def tOn (K : PySem.W.Frag) (f : Addr → Addr → TS) (cls : Value) (d : Option Addr) : TS := fun D σ H => ∃ C dd nm, cls = .ref C ∧ d = some dd ∧ ErrK K C nm ∧ f C dd D σ H
theorem pss_on {X' : Cx} {K : PySem.W.Frag} {f : Addr → Addr → TS} {cls : Value} {d : Option Addr} {oe : Obj} {body : List Stmt} (hz : Zc cls d oe) (h : ∀ C dd nm, ErrK K C nm → Zc (.ref C) (some dd) oe → PSs X' body (f C dd)) : PSs X' body (tOn K f cls d) :=
  ⟨fun pins s σ H D I ⟨C, dd, nm, e1, e2, Z, hf⟩ => by
    subst e1 e2
    exact (h C dd nm Z hz).run pins s σ H D I hf⟩
section
variable {K : PySem.W.Frag} {σ : L2.St} {B : Hp} {ta : TA} {te : TE} {v c : V} {W : WX} {C a d : Addr} {cv : Value} {b : Bool} {fs : List (Str × V)} {x : Str}
/-- what the clause does with the error -/
theorem was_on {i : Nat} {f : Addr → Addr → Addr → TS} {Wout : WX} {D : Ends} {H : Hp} {cF : Value} (Z : ErrK K C x) (hx : PySem.W.exmOne K (.ref C) cF = some true)
    (h : ∀ a, H a = none → f a C d { nx := fun σ' H' => D.nx (σ'.set i none) H', rt := D.rt, bk := fun σ' H' => D.bk (σ'.set i none) H', ct := fun σ' H' => D.ct (σ'.set i none) H' } (σ.set i (some (.ref a))) H) :
    wAs K cF i (fun a => tOn K (f a)) Wout D (.ref C) (some d) σ H := ⟨true, hx, fun _ a ha => ⟨C, d, x, rfl, rfl, Z, h a ha⟩, fun q => nomatch q⟩
theorem ev_isD (h : EvA ta σ B [.ref a, c]) (hc : ClsV c cv) (hk : PySem.W.kitOne K (.ref C) cv = some b) (hd : B d = some (.xd fs)) : Ev (tCB (rIsD K C a d) ta) σ B (.bl b) := fun H1 e Q q =>
  h H1 e _ fun H2 e2 => ⟨c, cv, b, fs, rfl, hc, hk, (e.trans e2) d _ hd, q H2 e2⟩
theorem ev_xf {f : Str} (h : Ev te σ B (.ref a)) (hd : B d = some (.xd fs)) (hl : fs.lookup f = some v) : Ev (tXf a (.ref C) (some d) C f te) σ B v := fun H1 e Q q =>
  h H1 e _ fun H2 e2 => ⟨rfl, rfl, d, fs, v, rfl, (e.trans e2) d _ hd, hl, q H2 e2⟩
theorem lk_name {v : V} : (errF x v).lookup ("name" : Str) = some (V.str x) := by simp [errF, List.lookup]
theorem lk_place {v : V} : (errF x v).lookup ("place" : Str) = some v := by
  have e : ((Str.ofString "place") == (Str.ofString "name")) = false := by decide +kernel
  simp [errF, List.lookup, e]
end
/-! ### classes among classes -/
section
variable {K : PySem.W.Frag} {C F : Addr} {b : Bool}
theorem kcls_of (ic : PySem.W.isClsIn K F = true) (ty : PySem.W.typeIn K (.ref F) = some (.type "type")) (sb : PySem.W.subIn K (.ref C) (.ref F) = some b) : PySem.W.kitCls K (.ref C) (.ref F) = some b := by
  have e : ((PySem.W.clsIn K F).isSome && PySem.W.typeIn K (.ref F) == some (.type "type")) = true := by
    have ic' : (PySem.W.clsIn K F).isSome = true := ic
    rw [ic', ty]
    rfl
  show (if ((PySem.W.clsIn K F).isSome && PySem.W.typeIn K (.ref F) == some (.type "type")) = true then PySem.W.subIn K (.ref C) (.ref F) else none) = some b
  rw [if_pos e]
  exact sb
theorem exm_of (ex : PySem.W.subIn K (.ref F) (.type "BaseException") = some true) (ic : PySem.W.isClsIn K F = true) (ty : PySem.W.typeIn K (.ref F) = some (.type "type")) (sb : PySem.W.subIn K (.ref C) (.ref F) = some b) : PySem.W.exmOne K (.ref C) (.ref F) = some b := by
  have e : (PySem.W.subIn K (.ref F) (.type "BaseException") == some true) = true := by
    rw [ex]
    rfl
  show (if (PySem.W.subIn K (.ref F) (.type "BaseException") == some true) = true then PySem.W.kitCls K (.ref C) (.ref F) else none) = some b
  rw [if_pos e]
  exact kcls_of ic ty sb
theorem kit_of (ne : (Value.ref C == Value.ref F) = false) (ic : PySem.W.isClsIn K F = true) (ty : PySem.W.typeIn K (.ref F) = some (.type "type")) (sb : PySem.W.subIn K (.ref C) (.ref F) = some b) : PySem.W.kitOne K (.ref C) (.ref F) = some b := by
  show (if (Value.ref C == Value.ref F) = true then some true else PySem.W.kitCls K (.ref C) (.ref F)) = some b
  rw [ne, if_neg Bool.false_ne_true]
  exact kcls_of ic ty sb
end
/-! ### rules within a suite, the written part told from outside -/
section
variable {X : Cx} {a : Addr} {pn : List (Addr × Obj)} {o e : Expr} {es : List Expr} {to : TE} {t : TA} {name : Str} {apos cpos : Pos} {T id : String} {r : V → List V → Hp → VK → Prop}
theorem ix_listS : IxR (X.suite a pn) (rIxL X.K) := ix_list
theorem ix_tupS : IxR (X.suite a pn) (rIxT X.K) := ix_tup
theorem sl_listS : SlR (X.suite a pn) (rSlL X.K) := sl_list
theorem call_len_seqS : CallR (X.suite a pn) (.builtin "len") (fun xs H Q => ∃ p ys, xs = [.ref p] ∧ (SqL X.K H p ys ∨ SqT X.K H p ys) ∧ Q (.int ys.length) H) := call_len_seq
theorem op_eqDS (hu : X.A.units + 64 < cLine) : OpR (X.suite a pn) (compareOp .Eq) (rEqD X.K) := op_eqD hu
theorem op_neDS (hu : X.A.units + 64 < cLine) : OpR (X.suite a pn) (compareOp .NotEq) (rNeD X.K) := op_neD hu
theorem pe_bmS (pa : PlainAttrs T) (slot : Slot T name id) (hty : typeOf (.builtin id) = pure (.type "method_descriptor")) (hm : MtR (X.suite a pn) id r) (ho : PE (X.suite a pn) o to) (ha : PA (X.suite a pn) (e :: es) t) (hbase : attributeBase o name X.env (eval o X.env) = eval o X.env := by rfl) (hfew : ((backTo cpos (starEach (e :: es) X.env)).all (fun x => !x.1) && (backToKw cpos (keywordEach [] X.env)).all (fun x => x.1.isSome) && decide ((e :: es).length + ([] : List Keyword).length + (if ([] : List Keyword).isEmpty then 0 else 1) < 30)) = true := by rfl) (hline : (apos.endLine == cpos.line) = true := by rfl) (hs : starEach (e :: es) X.env = (false, eval e X.env) :: starEach es X.env := by rfl) (hplain : (backTo cpos (starEach es X.env)).any (·.1) = false := by rfl) : PE (X.suite a pn) (.Call (.Attribute o name apos) (e :: es) [] cpos) (tBM X.K T r to t) := pe_bm pa slot hty hm ho ha hbase hfew hline hs hplain
end
/-! ### further expressions -/
section
variable {K : PySem.W.Frag} {σ : L2.St} {B : Hp} {ta tb te : TE}
theorem en_list {a : Addr} {xs : List V} (h : Ev te σ B (.ref a)) (hx : SqL K B a xs) : EvN (tCB (fun xs H Q => ∃ p ys, xs = [.ref p] ∧ (SqL K H p ys ∨ SqT K H p ys) ∧ ∀ l, H l = none → Q (.ref l) (upd H l (.lst ys))) (tCons te tNil)) σ B (.lst xs) := fun H1 e Q q =>
  h H1 e _ fun H2 e2 => ⟨a, xs, rfl, .inl (ex_l (e.trans e2) hx), fun l hl => q l _ (fresh_back e2 hl) (e2.trans (Ex.new hl)) upd_same⟩
theorem en_rep {xs : List V} {k : Int} (ha : EvN ta σ B (.lst xs)) (hb : Ev tb σ B (.int k)) (h0 : 0 ≤ k) (h1 : k ≤ 100000) (hz : xs.length * k.toNat ≤ 100000) : EvN (tOp rRep ta tb) σ B (.lst (List.replicate k.toNat xs).flatten) := fun H1 e Q q =>
  ha H1 e _ fun p H2 hp e2 h2 => hb H2 (e.trans e2) _ fun H3 e3 => ⟨p, k, xs, rfl, rfl, e3 p _ h2, by omega, by omega, sz_of hz, fun r hr => q r _ (fresh_back (e2.trans e3) hr) ((e2.trans e3).trans (Ex.new hr)) upd_same⟩
theorem en_slN {tl th : TO} {xs : List V} {lo hi : Option Int} (h : EvN te σ B (.lst xs)) (h1 : EvO tl σ B lo) (h2 : EvO th σ B hi) : EvN (tSl (rSlL K) te tl th) σ B (.lst (cutV xs lo hi)) := fun H1 e Q q =>
  h H1 e _ fun p H2 hp e2 hh => h1 H2 (e.trans e2) _ fun H3 e3 => h2 H3 ((e.trans e2).trans e3) _ fun H4 e4 => ⟨p, xs, rfl, sq_of (e4 p _ (e3 p _ hh)), fun r hr => q r _ (fresh_back ((e2.trans e3).trans e4) hr) (((e2.trans e3).trans e4).trans (Ex.new hr)) upd_same⟩
end
/-! ### arguments of which some are new; calls that give a value of which something is known -/
def PVd (pre : List V → Hp → (V → Prop) → Prop) : Sp := fun vs H Q _ => ∃ F, pre vs H F ∧ ∀ v H2, Ex H H2 → F v → Q v H2
section
variable {K : PySem.W.Frag} {σ : L2.St} {B : Hp} {ta ts : TA} {te tl : TE} {tz : TS} {D : Ends} {tu : TS} {v z : V} {o : HO} {vs : List V} {E : XK} {W : WX} {Pp : List V → Hp → Prop} {mg : Str → Option Value} {x : Str}
theorem eap_nil : EvAP tNil σ B (fun vs _ => vs = []) := fun H1 _ Q q => q [] H1 (Ex.refl H1) rfl
theorem eap_v (h : Ev te σ B v) (t : EvAP ts σ B Pp) : EvAP (tCons te ts) σ B (fun vs H => ∃ r, vs = v :: r ∧ Pp r H) := fun H1 e Q q =>
  h H1 e _ fun H2 e2 => t H2 (e.trans e2) _ fun r H3 e3 hr => q _ H3 (e2.trans e3) ⟨r, rfl, hr⟩
theorem eap_n (h : EvN te σ B o) (t : EvAP ts σ B Pp) : EvAP (tCons te ts) σ B (fun vs H => ∃ p r, vs = .ref p :: r ∧ H p = some o ∧ Pp r H) := fun H1 e Q q =>
  h H1 e _ fun p H2 _ e2 hp => t H2 (e.trans e2) _ fun r H3 e3 hr => q _ H3 (e2.trans e3) ⟨p, r, rfl, e3 p _ hp, hr⟩
theorem ev_pvA {pre : List V → Hp → V → Prop} (h : EvAP ta σ B Pp) (hp : ∀ vs H, Ex B H → Pp vs H → pre (vs ++ []) H z) : Ev (tCall (PV pre) [] E ta) σ B z := fun H1 e Q q =>
  h H1 e _ fun vs H2 e2 hv => ⟨z, hp vs H2 (e.trans e2) hv, fun H3 e3 => q H3 (e2.trans e3)⟩
theorem en_pnA {pre : List V → Hp → HO → Prop} (h : EvAP ta σ B Pp) (hp : ∀ vs H, Ex B H → Pp vs H → pre (vs ++ []) H o) : EvN (tCall (PN pre) [] E ta) σ B o := fun H1 e Q q =>
  h H1 e _ fun vs H2 e2 hv => ⟨o, hp vs H2 (e.trans e2) hv, fun p H3 hp' e3 h3 => q p H3 (fresh_back e2 hp') (e2.trans e3) h3⟩
theorem ev_cxA {pre : List V → Hp → Out → Prop} (h : EvAP ta σ B Pp) (hp : ∀ vs H, Ex B H → Pp vs H → pre vs H (.val z)) : Ev (tCallS (spO mg pre) (WE W) ta) σ B z := fun H1 e Q q => h H1 e _ fun vs H2 e2 hv => ⟨.val z, hp vs H2 (e.trans e2) hv, fun H3 e3 => q H3 (e2.trans e3)⟩
theorem en_cxA {pre : List V → Hp → Out → Prop} (h : EvAP ta σ B Pp) (hp : ∀ vs H, Ex B H → Pp vs H → pre vs H (.new o)) : EvN (tCallS (spO mg pre) (WE W) ta) σ B o := fun H1 e Q q => h H1 e _ fun vs H2 e2 hv => ⟨.new o, hp vs H2 (e.trans e2) hv, fun p H3 np e3 h3 => q p H3 (fresh_back e2 np) (e2.trans e3) h3⟩
theorem ep_pvd {pre : List V → Hp → (V → Prop) → Prop} {F : V → Prop} (h : EvA ta σ B vs) (hp : ∀ H, Ex B H → pre (vs ++ []) H F) : EvP (tCall (PVd pre) [] E ta) σ B (fun v _ => F v) := fun H1 e Q q =>
  h H1 e _ fun H2 e2 => ⟨F, hp H2 (e.trans e2), fun v H3 e3 hf => q v H3 (e2.trans e3) hf⟩
theorem ev_max2 {i j : Int} (h : EvA ta σ B [.int i, .int j]) : Ev (tCB (fun xs H Q => ∃ i j, xs = [V.int i, .int j] ∧ Q (.int (if j > i then j else i)) H) ta) σ B (.int (if j > i then j else i)) := fun H1 e Q q => h H1 e _ fun H2 e2 => ⟨i, j, rfl, q H2 e2⟩
theorem ev_min2 {i j : Int} (h : EvA ta σ B [.int i, .int j]) : Ev (tCB (fun xs H Q => ∃ i j, xs = [V.int i, .int j] ∧ Q (.int (if j < i then j else i)) H) ta) σ B (.int (if j < i then j else i)) := fun H1 e Q q => h H1 e _ fun H2 e2 => ⟨i, j, rfl, q H2 e2⟩
/-- a for whose end is reached from several places -/
theorem r_forR1K {j : Nat} {n : Int} (Mid : L2.St → Hp → Prop) (h : EvA ta σ B [.int n]) (hn : 0 ≤ n ∧ n ≤ 100000) (Pv : Nat → L2.St → Hp → Prop) (h0 : Pv 0 σ B) (k : ∀ σ' B', Mid σ' B' → R tz D σ' B')
    (hs : (∀ σ' B', Mid σ' B' → R tz D σ' B') → ∀ (i : Nat) σ' B', (i : Int) < n → Pv i σ' B' → R tu (Lp Pv i D tz) (σ'.set j (some (.int (i : Int)))) B') (hd : ∀ σ' B', Pv n.toNat σ' B' → Mid σ' B') : R (tSeq (tFor (iRng1 ta) (gName j) tu) tz) D σ B :=
  r_forR1 h hn Pv h0 (hs k) fun σ' B' p => k σ' B' (hd σ' B' p)
theorem r_forR2K {j : Nat} {lo n : Int} (Mid : L2.St → Hp → Prop) (h : EvA ta σ B [.int lo, .int n]) (hn : 0 ≤ lo ∧ lo ≤ 100000 ∧ -100000 ≤ n ∧ n ≤ 100000) (Pv : Nat → L2.St → Hp → Prop) (h0 : Pv 0 σ B) (k : ∀ σ' B', Mid σ' B' → R tz D σ' B')
    (hs : (∀ σ' B', Mid σ' B' → R tz D σ' B') → ∀ (i : Nat) σ' B', lo + (i : Int) < n → Pv i σ' B' → R tu (Lp Pv i D tz) (σ'.set j (some (.int (lo + (i : Int))))) B') (hd : ∀ σ' B', Pv (n - lo).toNat σ' B' → Mid σ' B') : R (tSeq (tFor (iRng2 ta) (gName j) tu) tz) D σ B :=
  r_forR2 h hn Pv h0 (hs k) fun σ' B' p => k σ' B' (hd σ' B' p)
end
end FK

set_option Elab.async false
set_option linter.all false
set_option maxRecDepth 100000
namespace K09
open PySem PySem.Spec PyProof.Rows L2 Evl FK FkE
def topS (i : Nat) : Stmt := PySem.Challenge.pw_formkeeper_k09_numbers_as_octets.main.body.getD i (.Pass ⟨0, 0, 0, 0⟩)
abbrev s_FormkeeperError___init__ : Stmt := inClass (topS 1) 0
theorem sc_FormkeeperError___init__ : FnScope ["self", "place"] ["self", "place"] (defScope s_FormkeeperError___init__) := ⟨rfl, rfl, rfl, by decide +kernel, rfl, by decide +kernel, by decide +kernel⟩
abbrev s_write_number : Stmt := topS 7
theorem sc_write_number : FnScope ["n", "rest", "octets"] ["n"] (defScope s_write_number) := ⟨rfl, rfl, rfl, by decide +kernel, rfl, by decide +kernel, by decide +kernel⟩
abbrev s_read_number : Stmt := topS 8
theorem sc_read_number : FnScope ["octets", "at", "found", "worth", "place", "octet"] ["octets", "at"] (defScope s_read_number) := ⟨rfl, rfl, rfl, by decide +kernel, rfl, by decide +kernel, by decide +kernel⟩
abbrev s__law_draw : Stmt := topS 10
theorem sc__law_draw : FnScope ["cell", "many", "bound", "numbers", "k", "seed", "mixed"] ["cell", "many", "bound"] (defScope s__law_draw) := ⟨rfl, rfl, rfl, by decide +kernel, rfl, by decide +kernel, by decide +kernel⟩
abbrev s__law_is_integer : Stmt := topS 11
theorem sc__law_is_integer : FnScope ["actual"] ["actual"] (defScope s__law_is_integer) := ⟨rfl, rfl, rfl, by decide +kernel, rfl, by decide +kernel, by decide +kernel⟩
abbrev s__law_same : Stmt := topS 12
theorem sc__law_same : FnScope ["actual", "expected", "k"] ["actual", "expected"] (defScope s__law_same) := ⟨rfl, rfl, rfl, by decide +kernel, rfl, by decide +kernel, by decide +kernel⟩
abbrev s__law_octets_of : Stmt := topS 13
theorem sc__law_octets_of : FnScope ["n", "rest", "octets", "k"] ["n"] (defScope s__law_octets_of) := ⟨rfl, rfl, rfl, by decide +kernel, rfl, by decide +kernel, by decide +kernel⟩
abbrev s__law_due : Stmt := topS 14
theorem sc__law_due : FnScope ["octets", "at", "rest", "k"] ["octets", "at"] (defScope s__law_due) := ⟨rfl, rfl, rfl, by decide +kernel, rfl, by decide +kernel, by decide +kernel⟩
abbrev s__law_told : Stmt := topS 15
theorem sc__law_told : FnScope ["octets", "at", "error", "names"] ["octets", "at"] (defScope s__law_told) := ⟨rfl, rfl, rfl, by decide +kernel, rfl, by decide +kernel, by decide +kernel⟩
abbrev s__law_number : Stmt := topS 16
theorem sc__law_number : FnScope ["numbers", "size"] ["numbers"] (defScope s__law_number) := ⟨rfl, rfl, rfl, by decide +kernel, rfl, by decide +kernel, by decide +kernel⟩
abbrev s_law : Stmt := topS 17
theorem sc_law : FnScope ["script", "cell", "numbers", "n", "octets", "before", "behind", "told", "data", "at", "handed", "number"] ["script"] (defScope s_law) := ⟨rfl, rfl, rfl, by decide +kernel, rfl, by decide +kernel, by decide +kernel⟩
/-! ### numbers as octets -/
def zz (n : Int) : Nat := (if 0 ≤ n then 2 * n else -2 * n - 1).toNat
def unz (g : Int) : Int := if g % 2 = 0 then g / 2 else -(g / 2) - 1
theorem zz_nn {n : Int} (h : 0 ≤ n) : ((zz n : Nat) : Int) = 2 * n := by
  unfold zz
  rw [if_pos h]
  omega
theorem zz_neg {n : Int} (h : ¬ 0 ≤ n) : ((zz n : Nat) : Int) = -2 * n - 1 := by
  unfold zz
  rw [if_neg h]
  omega
theorem unz_zz (n : Int) : unz (zz n : Int) = n := by
  unfold unz
  by_cases h : 0 ≤ n
  · rw [zz_nn h, if_pos (by omega)]
    omega
  · rw [zz_neg h, if_neg (by omega)]
    omega
def wI (r : Nat) : List Int := if h : r < 128 then [(r : Int)] else (128 + ((r % 128 : Nat) : Int)) :: wI (r / 128)
termination_by r
decreasing_by omega
theorem wI_lt {r : Nat} (h : r < 128) : wI r = [(r : Int)] := (wI.eq_1 r).trans (dif_pos h)
theorem wI_ge {r : Nat} (h : ¬ r < 128) : wI r = (128 + ((r % 128 : Nat) : Int)) :: wI (r / 128) := (wI.eq_1 r).trans (dif_neg h)
theorem wI_len : ∀ (j r : Nat), r < 128 ^ (j + 1) → 1 ≤ (wI r).length ∧ (wI r).length ≤ j + 1
  | 0, r, h => by
    rw [wI_lt (by omega)]
    simp
  | j + 1, r, h => by
    by_cases hr : r < 128
    · rw [wI_lt hr]
      simp
    · have := wI_len j (r / 128) (by rw [Nat.pow_succ] at h; omega)
      rw [wI_ge hr]
      simp
      omega
theorem wI_last : ∀ (j r : Nat), r < 128 ^ (j + 1) → 0 ≤ (wI r).getD ((wI r).length - 1) 0 ∧ (wI r).getD ((wI r).length - 1) 0 < 128
  | 0, r, h => by
    rw [wI_lt (by omega)]
    simp
    omega
  | j + 1, r, h => by
    by_cases hr : r < 128
    · rw [wI_lt hr]
      simp
      omega
    · have h2 : r / 128 < 128 ^ (j + 1) := by
        rw [Nat.pow_succ] at h
        omega
      have := wI_last j (r / 128) h2
      have hl := wI_len j (r / 128) h2
      rw [wI_ge hr]
      generalize wI (r / 128) = l at *
      cases l with
      | nil => simp at hl
      | cons a t => simpa using this
inductive Rs where
  | ok (n e : Int) | er (x : Str) (v : Int)
def rdL (L a : Int) : Nat → List Int → Nat → Int → Rs
  | 0, _, _, _ => .er "InvalidData" a
  | _ + 1, [], _, _ => .er "Truncated" L
  | j + 1, o :: r, k, f =>
    if o < 128 then
      if (o = 0 ∧ 0 < k) ∨ 18446744073709551616 ≤ f + o % 128 * 128 ^ k then .er "InvalidData" a else .ok (unz (f + o % 128 * 128 ^ k)) (a + k + 1)
    else rdL L a j r (k + 1) (f + o % 128 * 128 ^ k)
def rd (ns : List Int) (a : Nat) : Rs := rdL ns.length a 10 (ns.drop a) 0 0
theorem rd_wI (L a : Int) (c : List Int) : ∀ (j r k : Nat) (f : Int), 0 ≤ f → r < 128 ^ (j + 1) → f + r * 128 ^ k < 18446744073709551616 → (0 < k → 0 < r) → rdL L a (j + 1) (wI r ++ c) k f = .ok (unz (f + r * 128 ^ k)) (a + k + (wI r).length)
  | 0, r, k, f, hf, h, hs, h0 => by
    rw [wI_lt (by omega)]
    show (if ((r : Nat) : Int) < 128 then _ else _) = _
    have e : ((r : Nat) : Int) % 128 = r := by omega
    rw [if_pos (by omega), e, if_neg (by omega)]
    simp
  | j + 1, r, k, f, hf, h, hs, h0 => by
    by_cases hr : r < 128
    · rw [wI_lt hr]
      show (if ((r : Nat) : Int) < 128 then _ else _) = _
      have e : ((r : Nat) : Int) % 128 = r := by omega
      rw [if_pos (by omega), e, if_neg (by omega)]
      simp
    · have e2 : (128 + ((r % 128 : Nat) : Int)) % 128 = ((r % 128 : Nat) : Int) := by omega
      have e3 : f + ((r % 128 : Nat) : Int) * 128 ^ k + ((r / 128 : Nat) : Int) * 128 ^ (k + 1) = f + r * 128 ^ k := by
        rw [Int.pow_succ, Int.add_assoc]
        congr 1
        have : (r : Int) = ((r % 128 : Nat) : Int) + ((r / 128 : Nat) : Int) * 128 := by omega
        rw [this, Int.add_mul]
        congr 1
        rw [Int.mul_assoc, Int.mul_comm (128 ^ k) 128]
      have hp : (0 : Int) ≤ 128 ^ k := Int.le_of_lt (Int.pow_pos (by decide))
      have ih := rd_wI L a c j (r / 128) (k + 1) (f + ((r % 128 : Nat) : Int) * 128 ^ k) (Int.add_nonneg hf (Int.mul_nonneg (by omega) hp)) (by rw [Nat.pow_succ] at h; omega) (by rw [e3]; exact hs) (by omega)
      rw [wI_ge hr]
      show (if (128 + ((r % 128 : Nat) : Int)) < 128 then _ else rdL L a (j + 1) (wI (r / 128) ++ c) (k + 1) _) = _
      rw [if_neg (by omega), e2, ih, e3, List.length_cons]
      congr 1
      push_cast
      omega
theorem drop_cons {ns : List Int} {m : Nat} (h : m < ns.length) : ns.drop m = ns.getD m 0 :: ns.drop (m + 1) := by
  rw [List.drop_eq_getElem_cons h]
  simp [List.getD, List.getElem?_eq_getElem h]
def outOf : Rs → Out
  | .ok n e => .new (.tup [.int n, .int e])
  | .er x v => .err x (.int v)
def tupOf : Rs → List V
  | .ok n e => [.int n, .int e]
  | .er x v => [.str x, .int v]
def datOf : Rs → List PyData
  | .ok n e => [.int n, .int e]
  | .er x v => [.str x, .int v]
theorem rd_er : ∀ (L a : Int) (j : Nat) (ns : List Int) (k : Nat) (f : Int) (x : Str) (v : Int), rdL L a j ns k f = .er x v → x = "Truncated" ∨ x = "InvalidData"
  | L, a, 0, _, _, _, x, v, h => by
    cases h
    exact .inr rfl
  | L, a, j + 1, [], _, _, x, v, h => by
    cases h
    exact .inl rfl
  | L, a, j + 1, o :: r, k, f, x, v, h => by
    unfold rdL at h
    split at h
    · split at h
      · cases h
        exact .inr rfl
      · cases h
    · exact rd_er L a j r _ _ x v h
structure Tx (mg : Str → Option Value) : Prop where
  g_MOST_OCTETS_OF_NUMBER : ∃ u, mg "MOST_OCTETS_OF_NUMBER" = some u ∧ RelV (.int 10) u
  z_len : mg "len" = none
  z_int : mg "int" = none
  z_range : mg "range" = none
  z_isinstance : mg "isinstance" = none
  z_bool : mg "bool" = none
  z_list : mg "list" = none
  z_max : mg "max" = none
  z_min : mg "min" = none
def spWrite : Sp := PN fun vs _ o => ∃ n : Int, vs = [.int n] ∧ zz n < 18446744073709551616 ∧ o = .lst ((wI (zz n)).map V.int)
def preRead (K : PySem.W.Frag) (vs : List V) (H : Hp) (r : Rs) : Prop := ∃ (p : Addr) (ns : List Int) (a : Nat), vs = [.ref p, .int (a : Int)] ∧ SqL K H p (ns.map V.int) ∧ ns.length ≤ 1000 ∧ a ≤ 1000 ∧ r = rd ns a
def spRead (K : PySem.W.Frag) (mg : Str → Option Value) : Sp := spO mg fun vs H o => ∃ r, preRead K vs H r ∧ o = outOf r
def spTup (K : PySem.W.Frag) : Sp := PN fun vs H o => ∃ r, preRead K vs H r ∧ o = .tup (tupOf r)
section
variable {P : Program} {w : World} {K : PySem.W.Frag} {mg : Str → Option Value} {base : Heap}
theorem ok_init {f : Addr} {fd : FuncData} (F : Fun K "__init__" "FormkeeperError.__init__" s_FormkeeperError___init__ f fd) : FnOk P w K mg base CX0 1 f fd ["self", "place"] (spInit K) := by
  refine F.ok sc_FormkeeperError___init__ (fun vs H Q E h => ?_) (fun cdv A outer s H vs Q E hr h => ?_)
  · obtain ⟨_, _, _, _, rfl, _⟩ := h
    rfl
  obtain ⟨a, C, nm, v, rfl, Z, ha, q⟩ := h
  refine ⟨_, (pss_cons (ps_ost (pv 0) (pv 1)) (pss_cons (ps_ost (pv 0) (pe_nmC (pe_clsE (pv 0)))) pss_nil)), ?_⟩
  refine ⟨v, rfl, .ref a, rfl, a, C, rfl, Z.ox, Z.np, .inl ⟨ha, fun dx hdx hne => ?_⟩⟩
  exact ⟨.ref a, rfl, a, C, dx, [("place", v)], rfl, upd_same, (upd_ne hne).trans upd_same, Z.ex, C, nm, rfl, Z.nm, .ref a, rfl, a, C, rfl, Z.ox, Z.nn, .inr ⟨dx, [("place", v)], upd_same, (upd_ne hne).trans upd_same, by simp, q dx hdx hne⟩⟩

theorem ok_write (D : Def K mg "write_number" s_write_number ["n"]) (T : Tx mg) : Cal CX0 P w K mg base 1 "write_number" spWrite := by
  refine cal0 D sc_write_number (fun vs H Q E h => ?_) (fun f cdv A outer s H vs Q E hr h => ?_)
  · obtain ⟨_, ⟨n, rfl, _⟩, _⟩ := h
    rfl
  obtain ⟨_, ⟨n, rfl, hz, rfl⟩, q⟩ := h
  have hlen := (wI_len 9 (zz n) (by omega)).2
  refine ⟨_, (pss_cons (ps_set (i := 1) sc_write_number.nd rfl (.inl rfl) (pe_ifExp (pt_cmpR op_ge (pv 0) pe_int (nomark _)) (pe_op op_mul pe_int (pv 0)) (pe_op op_sub (pe_op op_mul (pe_un un_neg pe_int) (pv 0)) pe_int)))
    (pss_cons (ps_set (i := 2) sc_write_number.nd rfl (.inl rfl) (pe_lst pa_nil))
    (pss_cons (ps_while PassesOwn.never (pt_cmpR op_ge (pv 1) pe_int (nomark _))
      (pss_cons (ps_expr (pe_bm PySem.F.plainAttrs_list PySem.F.slot_list_append PySem.F.type_list_append mt_append (pv 2) (pa_cons (pe_op op_add pe_int (pe_op op_mod (pv 1) pe_int)) pa_nil)))
      (pss_cons (ps_set (i := 1) sc_write_number.nd rfl (.inl rfl) (pe_op op_fdiv (pv 1) pe_int)) pss_nil)))
    (pss_cons (ps_expr (pe_bm PySem.F.plainAttrs_list PySem.F.slot_list_append PySem.F.type_list_append mt_append (pv 2) (pa_cons (pv 1) pa_nil)))
    (pss_cons (ps_ret (pv 2)) pss_nil))))), R.go ?_⟩
  refine r_asg (v := .int (zz n : Int)) (ev_if (et_test (ev_op (ev_var rfl) ev_c rv_cmp)) (fun hb => by
      rw [zz_nn (by simpa using hb)]
      exact (ev_op ev_c (ev_var rfl) (rv_arC (.inl ⟨by decide, by decide⟩)))) (fun hb => by
      rw [zz_neg (by simpa using hb)]
      exact (ev_op (ev_op (ev_un ev_c ru_neg) (ev_var rfl) (rv_arC (.inl ⟨by decide, by decide⟩))) ev_c rv_ar))) ?_
  refine r_asgN (en_lst ea_nil (by decide)) (fun p np => ?_)
  refine r_while (fun m σ B => ∃ pre : List Int, σ = [some (.int n), some (.int (m : Int)), some (.ref p)] ∧ Ex H B ∧ B p = some (.lst (pre.map V.int)) ∧ pre ++ wI m = wI (zz n)) (zz n) ⟨[], rfl, Ex.new np, upd_same, rfl⟩ (fun m σ B hI => ?_)
  obtain ⟨pre, rfl, eB, hp, hI⟩ := hI
  have hl : pre.length ≤ 10 := by
    have := congrArg List.length hI
    rw [List.length_append] at this
    omega
  refine ⟨_, (et_test (ev_op (ev_var rfl) ev_c rv_cmp)), fun hb => ?_, fun hb => ?_⟩
  · have hm : ¬ m < 128 := by
      simp at hb
      omega
    refine r_app hp (ev_var rfl) (ev_op ev_c (ev_op (ev_var rfl) ev_c (rv_arC (by decide))) rv_ar) (by rw [List.length_map]; omega) ?_
    refine r_asg (ev_op (ev_var rfl) ev_c (rv_arC ⟨by decide, by decide⟩)) ?_
    refine r_next (fun H1 e1 => ⟨m / 128, by omega, _, e1, pre ++ [128 + ((m % 128 : Nat) : Int)], ?_, Ex.mut eB np, ?_, ?_⟩)
    · rfl
    · rw [upd_same, List.map_append]
      rfl
    · rw [List.append_assoc, ← hI, wI_ge hm]
      rfl
  · have hm : m < 128 := by
      simp at hb
      omega
    refine r_app hp (ev_var rfl) (ev_var rfl) (by rw [List.length_map]; omega) ?_
    refine r_ret (ev_var rfl) (fun H1 e1 => ?_)
    refine q p H1 np ((Ex.mut eB np).trans e1) (e1 p _ ?_)
    rw [upd_same, ← hI, wI_lt hm, List.map_append]
    rfl
theorem p128 (i : Nat) : (0 : Int) < 128 ^ i := Int.pow_pos (by decide)
theorem ok_read {C_T C_D : Addr} (D : Def K mg "read_number" s_read_number ["octets", "at"]) (T : Tx mg) (Z_Truncated : ErrC P w K mg base "Truncated" C_T) (Z_InvalidData : ErrC P w K mg base "InvalidData" C_D) : CalX P w K mg base 3 "read_number" (spRead K mg) := by
  refine calX D sc_read_number (fun vs H Q E h => ?_) (fun f cdv A outer s H vs Q E hr h => ?_)
  · obtain ⟨_, ⟨_, ⟨_, _, _, rfl, _⟩, _⟩, _⟩ := h
    rfl
  obtain ⟨_, ⟨r, ⟨p, ns, a, rfl, hS, hl, ha, rfl⟩, rfl⟩, q⟩ := h
  refine ⟨_, (pss_cons (ps_set (i := 2) sc_read_number.nd rfl (.inl rfl) pe_int)
    (pss_cons (ps_set (i := 3) sc_read_number.nd rfl (.inl rfl) pe_int)
    (pss_cons (ps_for (passes_of rfl) rfl (pi_range2 rfl T.z_range (pa_cons (pv 1) (pa_cons (pe_op op_add (pv 1) (pe_gc (by rfl) T.g_MOST_OCTETS_OF_NUMBER)) pa_nil))) (pg_name (i := 4) sc_read_number.nd rfl (.inl rfl))
      (pss_cons (ps_if (pt_cmpR op_ge (pv 4) (pe_callB call_len_seq (by rfl) T.z_len PySem.boot_len (pa_cons (pv 0) pa_nil)) (nomark _))
        (pss_cons (ps_raiseC Z_Truncated rfl (takes_of rfl rfl rfl rfl) hr (by decide) (by rfl) (pa_cons (pe_callB call_len_seq (by rfl) T.z_len PySem.boot_len (pa_cons (pv 0) pa_nil)) pa_nil)) pss_nil)
        pss_nil)
      (pss_cons (ps_set (i := 5) sc_read_number.nd rfl (.inl rfl) (pe_ix ix_list (pv 0) (pv 4) (fun _ _ => rfl)))
      (pss_cons (ps_aug (i := 2) sc_read_number.nd rfl (.inl rfl) (pe_op op_mul (pe_op op_mod (pv 5) pe_int) (pv 3)) ip_add)
      (pss_cons (ps_aug (i := 3) sc_read_number.nd rfl (.inl rfl) pe_int ip_mul)
      (pss_cons (ps_if (pt_cmpR op_lt (pv 5) pe_int (nomark _))
        (pss_cons (ps_if (pw_or (pw_and (pt_cmpR op_eq (pv 5) pe_int (nomark _)) (pw_and1 (pt_cmpR op_gt (pv 4) (pv 1) (nomark _)))).pt (pw_or1 (pt_cmpR op_ge (pv 2) (pe_op op_pow pe_int pe_int) (nomark _)))).pt
          (pss_cons (ps_raiseC Z_InvalidData rfl (takes_of rfl rfl rfl rfl) hr (by decide) (by rfl) (pa_cons (pv 1) pa_nil)) pss_nil)
          pss_nil)
        (pss_cons (ps_ret (pe_tup (pa_cons (pe_ifExp (pt_cmpR op_eq (pe_op op_mod (pv 2) pe_int) pe_int (nomark _)) (pe_op op_fdiv (pv 2) pe_int) (pe_op op_sub (pe_un un_neg (pe_op op_fdiv (pv 2) pe_int)) pe_int)) (pa_cons (pe_op op_add (pv 4) pe_int) pa_nil)))) pss_nil))
        pss_nil) pss_nil))))))
    (pss_cons (ps_raiseC Z_InvalidData rfl (takes_of rfl rfl rfl rfl) hr (by decide) (by rfl) (pa_cons (pv 1) pa_nil)) pss_nil)))), R.go ?_⟩
  refine r_asg ev_c ?_
  refine r_asg ev_c ?_
  refine r_forR2 (ea_cons (ev_var rfl) (ea_cons (ev_op (ev_var rfl) ev_c rv_ar) ea_nil)) ⟨by omega, by omega, by omega, by omega⟩ (fun i σ B => ∃ (g : Int) (y4 y5 : Option V), σ = [some (.ref p), some (.int (a : Int)), some (.int g), some (.int (128 ^ i)), y4, y5] ∧ Ex H B ∧ 0 ≤ g ∧ rdL ns.length a (10 - i) (ns.drop (a + i)) i g = rd ns a)
    ⟨0, none, none, rfl, Ex.refl _, by decide, rfl⟩ (fun i σ B hi hI => ?_) (fun σ B hI => ?_)
  · obtain ⟨g, y4, y5, rfl, eB, hg, hI⟩ := hI
    have hS' := ex_l eB hS
    have hi' : i < 10 := by omega
    obtain ⟨j, hj⟩ : ∃ j, 10 - i = j + 1 := ⟨9 - i, by omega⟩
    rw [hj] at hI
    refine r_when (et_test (ev_op (ev_var rfl) (ev_len (ev_var rfl) hS') rv_cmp)) (fun hb => ?_) (fun hb => ?_)
    · have hb' : ns.length ≤ a + i := by
        simp at hb
        omega
      rw [List.drop_of_length_le hb'] at hI
      have hI : Rs.er "Truncated" ns.length = rd ns a := hI
      rw [← hI] at q
      refine r_raise Z_Truncated.k (ev_len (ev_var rfl) hS') (fun d H1 nd e1 hd => ?_)
      refine q C_T d H1 Z_Truncated.gC (fresh_back eB nd) (eB.trans e1) ?_
      rw [hd, List.length_map]
    · have hb' : a + i < ns.length := by
        simp at hb
        omega
      rw [drop_cons hb'] at hI
      have eo : ns.getD ((a : Int) + (i : Int)).toNat 0 = ns.getD (a + i) 0 := by
        congr 1
      refine r_asg (ev_op (ev_var rfl) (ev_var rfl) (rv_ixI hS' (by omega) (by omega))) ?_
      rw [eo]
      generalize ns.getD (a + i) 0 = o at *
      have hm0 : 0 ≤ o % 128 := Int.emod_nonneg _ (by decide)
      have hm1 : o % 128 < 128 := Int.emod_lt_of_pos _ (by decide)
      refine r_aug rfl (ev_op (ev_op (ev_var rfl) ev_c (rv_arC (by decide))) (ev_var rfl) (rv_arC (.inl ⟨by omega, by omega⟩))) ?_
      refine r_augC rfl ev_c (.inr ⟨by decide, by decide⟩) ?_
      have hn : 0 ≤ g + o % 128 * 128 ^ i := Int.add_nonneg hg (Int.mul_nonneg hm0 (Int.le_of_lt (p128 i)))
      refine r_when (et_test (ev_op (ev_var rfl) ev_c rv_cmp)) (fun hb2 => ?_) (fun hb2 => ?_)
      · have h2 : o < 128 := by simpa using hb2
        have hI : (if o < 128 then (if (o = 0 ∧ 0 < i) ∨ 18446744073709551616 ≤ g + o % 128 * 128 ^ i then Rs.er "InvalidData" (a : Int) else .ok (unz (g + o % 128 * 128 ^ i)) ((a : Int) + i + 1)) else _) = rd ns a := hI
        rw [if_pos h2] at hI
        generalize g + o % 128 * 128 ^ i = G at *
        refine r_when (et_or (et_and (et_test (ev_op (ev_var rfl) ev_c (rv_eq rfl))) (fun hb => (et_test (ev_op (ev_var rfl) (ev_var rfl) rv_cmp)))) (fun hb => (et_test (ev_op (ev_var rfl) (ev_op ev_c ev_c (rv_arC ⟨by decide, by decide, by decide⟩)) rv_cmp)))) (fun hb3 => ?_) (fun hb3 => ?_)
        · have h3 : (o = 0 ∧ 0 < i) ∨ 18446744073709551616 ≤ G := by
            simp at hb3
            rcases hb3 with ⟨x, y⟩ | x
            · exact .inl ⟨x, by omega⟩
            · exact .inr x
          rw [if_pos h3] at hI
          rw [← hI] at q
          exact r_raise Z_InvalidData.k (ev_var rfl) (fun d H1 nd e1 hd => q C_D d H1 Z_InvalidData.gC (fresh_back eB nd) (eB.trans e1) hd)
        · have h3 : ¬ ((o = 0 ∧ 0 < i) ∨ 18446744073709551616 ≤ G) := by
            simp at hb3
            intro h
            rcases h with ⟨x, y⟩ | x
            · have := hb3.1 x
              omega
            · have := hb3.2
              omega
          rw [if_neg h3] at hI
          rw [← hI] at q
          refine r_retN (o := .tup [.int (unz G), .int ((a : Int) + i + 1)]) (en_tup (ea_cons (ev_if (et_test (ev_op (ev_op (ev_var rfl) ev_c (rv_arC (by decide))) ev_c (rv_eq rfl))) (fun hb => ?_) (fun hb => ?_)) (ea_cons (ev_op (ev_var rfl) ev_c rv_ar) ea_nil)) (by simp)) (fun p1 np H1 e1 => ?_)
          · have e : unz G = G / 2 := if_pos (by simpa using hb)
            rw [e]
            exact (ev_op (ev_var rfl) ev_c (rv_arC ⟨by decide, by decide⟩))
          · have e : unz G = -(G / 2) - 1 := if_neg (by simpa using hb)
            rw [e]
            exact (ev_op (ev_un (ev_op (ev_var rfl) ev_c (rv_arC ⟨by decide, by decide⟩)) ru_neg) ev_c rv_ar)
          · exact q p1 H1 (fresh_back eB np) (eB.trans ((Ex.new np).trans e1)) (e1 p1 _ upd_same)
      · have h2 : ¬ o < 128 := by simpa using hb2
        refine r_up ⟨g + o % 128 * 128 ^ i, _, _, rfl, eB, hn, ?_⟩
        have hI : (if o < 128 then _ else rdL ns.length a j (ns.drop (a + i + 1)) (i + 1) (g + o % 128 * 128 ^ i)) = rd ns a := hI
        rw [if_neg h2] at hI
        rw [show 10 - (i + 1) = j by omega]
        exact hI
  · obtain ⟨g, y4, y5, rfl, eB, hg, hI⟩ := hI
    have e : (10 - ((a : Int) + 10 - a).toNat) = 0 := by omega
    rw [e] at hI
    have hI : Rs.er "InvalidData" (a : Int) = rd ns a := hI
    rw [← hI] at q
    exact r_raise Z_InvalidData.k (ev_var rfl) (fun d H1 nd e1 hd => q C_D d H1 Z_InvalidData.gC (fresh_back eB nd) (eB.trans e1) hd)
theorem ok_draw (D : Def K mg "_law_draw" s__law_draw ["cell", "many", "bound"]) (T : Tx mg) : Cal CX0 P w K mg base 1 "_law_draw" spDraw := by
  refine cal0 D sc__law_draw (fun vs H Q E h => ?_) (fun f cdv A outer s H vs Q E hr h => ?_)
  · obtain ⟨_, ⟨c, m, b, rfl, _⟩, _⟩ := h
    rfl
  obtain ⟨_, ⟨c, m, b, rfl, hm0, hm1, hb0, hb1, rfl⟩, q⟩ := h
  refine ⟨_, (pss_cons (ps_set (i := 3) sc__law_draw.nd rfl (.inl rfl) (pe_lst pa_nil))
    (pss_cons (ps_if (pt_cmpR op_ge (pv 0) (pe_op op_pow pe_int pe_int) (nomark _))
      (pss_cons (ps_for PassesOwn.never rfl (pi_range1 rfl T.z_range (pa_cons (pv 1) pa_nil)) (pg_name (i := 4) sc__law_draw.nd rfl (.inl rfl))
        (pss_cons (ps_expr (pe_bm PySem.F.plainAttrs_list PySem.F.slot_list_append PySem.F.type_list_append mt_append (pv 3) (pa_cons (pe_op op_mod (pe_callTy call_int1 (by rfl) T.z_int (by decide +kernel) (pa_cons (pv 0) pa_nil)) (pv 2)) pa_nil)))
        (pss_cons (ps_set (i := 0) sc__law_draw.nd rfl (.inl rfl) (pe_op op_fdiv (pv 0) (pv 2))) pss_nil)))
      (pss_cons (ps_ret (pv 3)) pss_nil))
      pss_nil)
    (pss_cons (ps_set (i := 5) sc__law_draw.nd rfl (.inl rfl) (pe_op op_mod (pe_callTy call_int1 (by rfl) T.z_int (by decide +kernel) (pa_cons (pv 0) pa_nil)) pe_int))
    (pss_cons (ps_for PassesOwn.never rfl (pi_range1 rfl T.z_range (pa_cons (pv 1) pa_nil)) (pg_name (i := 4) sc__law_draw.nd rfl (.inl rfl))
      (pss_cons (ps_set (i := 5) sc__law_draw.nd rfl (.inl rfl) (pe_op op_mod (pe_callTy call_int1 (by rfl) T.z_int (by decide +kernel) (pa_cons (pe_op op_add (pe_op op_add (pe_op op_mul (pv 5) pe_int) pe_int) (pv 4)) pa_nil)) pe_int))
      (pss_cons (ps_set (i := 6) sc__law_draw.nd rfl (.inl rfl) (pe_op op_mod (pe_callTy call_int1 (by rfl) T.z_int (by decide +kernel) (pa_cons (pe_op op_add (pe_op op_mul (pv 5) pe_int) (pe_op op_mul pe_int (pv 4))) pa_nil)) pe_int))
      (pss_cons (ps_expr (pe_bm PySem.F.plainAttrs_list PySem.F.slot_list_append PySem.F.type_list_append mt_append (pv 3) (pa_cons (pe_op op_mod (pe_callTy call_int1 (by rfl) T.z_int (by decide +kernel) (pa_cons (pe_op op_fdiv (pv 6) pe_int) pa_nil)) (pv 2)) pa_nil))) pss_nil))))
    (pss_cons (ps_ret (pv 3)) pss_nil))))), R.go ?_⟩
  refine r_asgN (en_lst ea_nil (by decide)) (fun p np => ?_)
  refine r_when (et_test (ev_op (ev_var rfl) (ev_op ev_c ev_c (rv_arC ⟨by decide, by decide, by decide⟩)) rv_cmp)) (fun hb => ?_) (fun hb => ?_)
  · refine r_forR1 (ea_cons (ev_var rfl) ea_nil) ⟨hm0, by omega⟩ (fun i σ B => ∃ c y4, ∃ ns : List Int, σ = [some (.int c), some (.int m), some (.int b), some (.ref p), y4, none, none] ∧ Ex H B ∧ B p = some (.lst (ns.map V.int)) ∧ ns.length = i ∧ ∀ n ∈ ns, 0 ≤ n ∧ n < b)
      ⟨c, none, [], rfl, Ex.new np, upd_same, rfl, fun _ h => nomatch h⟩ (fun i σ B hi hI => ?_) (fun σ B hI => ?_)
    · obtain ⟨c, y4, ns, rfl, eB, hp, hl, hn⟩ := hI
      refine r_app hp (ev_var rfl) (ev_op (ev_int (ev_var rfl)) (ev_var rfl) (rv_arC hb0)) (by rw [List.length_map]; omega) ?_
      refine r_asg (ev_op (ev_var rfl) (ev_var rfl) (rv_arC ⟨hb0, hb1⟩)) ?_
      refine r_up ⟨_, _, ns ++ [c % b], rfl, Ex.mut eB np, ?_, ?_, fun n h => ?_⟩
      · rw [upd_same, List.map_append]
        rfl
      · rw [List.length_append, hl]
        rfl
      · rcases List.mem_append.mp h with h | h
        · exact hn n h
        · rw [List.mem_singleton.mp h]
          exact ⟨Int.emod_nonneg _ (by omega), Int.emod_lt_of_pos _ hb0⟩
    · obtain ⟨c, y4, ns, rfl, eB, hp, hl, hn⟩ := hI
      refine r_ret (ev_var rfl) (fun H1 e1 => ?_)
      exact q p H1 _ np (eB.trans e1) (e1 p _ hp) ⟨ns, rfl, by omega, hn⟩
  refine r_asg (ev_op (ev_int (ev_var rfl)) ev_c (rv_arC (by decide))) ?_
  refine r_forR1 (ea_cons (ev_var rfl) ea_nil) ⟨hm0, by omega⟩ (fun i σ B => ∃ y4 s y6, ∃ ns : List Int, σ = [some (.int c), some (.int m), some (.int b), some (.ref p), y4, some (.int s), y6] ∧ Ex H B ∧ B p = some (.lst (ns.map V.int)) ∧ ns.length = i ∧ ∀ n ∈ ns, 0 ≤ n ∧ n < b)
    ⟨none, _, none, [], rfl, Ex.new np, upd_same, rfl, fun _ h => nomatch h⟩ (fun i σ B hi hI => ?_) (fun σ B hI => ?_)
  · obtain ⟨y4, s, y6, ns, rfl, eB, hp, hl, hn⟩ := hI
    refine r_asg (ev_op (ev_int (ev_op (ev_op (ev_op (ev_var rfl) ev_c (rv_arC (.inr ⟨by decide, by decide⟩))) ev_c rv_ar) (ev_var rfl) rv_ar)) ev_c (rv_arC (by decide))) ?_
    refine r_asg (ev_op (ev_int (ev_op (ev_op (ev_var rfl) ev_c (rv_arC (.inr ⟨by decide, by decide⟩))) (ev_op ev_c (ev_var rfl) (rv_arC (.inl ⟨by decide, by decide⟩))) rv_ar)) ev_c (rv_arC (by decide))) ?_
    refine r_app hp (ev_var rfl) (ev_op (ev_int (ev_op (ev_var rfl) ev_c (rv_arC ⟨by decide, by decide⟩))) (ev_var rfl) (rv_arC hb0)) (by rw [List.length_map]; omega) ?_
    refine r_up ⟨_, _, _, ns ++ [_], rfl, Ex.mut eB np, by rw [upd_same, List.map_append]; rfl, ?_, fun n h => ?_⟩
    · rw [List.length_append, hl]
      rfl
    · rcases List.mem_append.mp h with h | h
      · exact hn n h
      · rw [List.mem_singleton.mp h]
        exact ⟨Int.emod_nonneg _ (by omega), Int.emod_lt_of_pos _ hb0⟩
  · obtain ⟨y4, s, y6, ns, rfl, eB, hp, hl, hn⟩ := hI
    refine r_ret (ev_var rfl) (fun H1 e1 => ?_)
    exact q p H1 _ np (eB.trans e1) (e1 p _ hp) ⟨ns, rfl, by omega, hn⟩
/-- a drawn list: its items -/
theorem draw_at {m b : Int} {o : HO} (h : DrawO m b o) : ∃ ns : List Int, o = .lst (ns.map V.int) ∧ (ns.length : Int) = m ∧ ∀ i : Nat, (i : Int) < m → 0 ≤ ns.getD i 0 ∧ ns.getD i 0 < b := by
  obtain ⟨ns, e, hl, hn⟩ := h
  exact ⟨ns, e, hl, fun i hi => getD_of hn (by omega)⟩

theorem kit_ii : PySem.W.kitOne K (.type "int") (.type "int") = some true := rfl
theorem kit_ib : PySem.W.kitOne K (.type "int") (.type "bool") = some false := rfl
theorem kit_ll : PySem.W.kitOne K (.type "list") (.type "list") = some true := rfl
def spIsInt : Sp := PV fun vs _ z => ∃ n : Int, vs = [.int n] ∧ z = .bl true
theorem ok_isint (D : Def K mg "_law_is_integer" s__law_is_integer ["actual"]) (T : Tx mg) : Cal CX0 P w K mg base 1 "_law_is_integer" spIsInt := by
  refine cal0 D sc__law_is_integer (fun vs H Q E h => ?_) (fun f cdv A outer s H vs Q E hr h => ?_)
  · obtain ⟨_, ⟨n, rfl, _⟩, _⟩ := h
    rfl
  obtain ⟨_, ⟨n, rfl, rfl⟩, q⟩ := h
  refine ⟨_, (pss_cons (ps_ret (pe_and (pe_callB call_isi (by rfl) T.z_isinstance (by decide +kernel) (pa_cons (pv 0) (pa_cons (pe_bltn (v := .ty "int") (by rfl) T.z_int (by decide +kernel) rfl) pa_nil))) (pe_one (pe_not (pe_callB call_isi (by rfl) T.z_isinstance (by decide +kernel) (pa_cons (pv 0) (pa_cons (pe_bltn (v := .ty "bool") (by rfl) T.z_bool (by decide +kernel) rfl) pa_nil))))))) pss_nil), R.go ?_⟩
  refine r_ret (ev_andV (ev_isi (ea_cons (ev_var rfl) (ea_cons ev_c ea_nil)) (.ty "int") (fun _ _ => .base (.int _)) kit_ii) (fun hb => (ev_notV (ev_isi (ea_cons (ev_var rfl) (ea_cons ev_c ea_nil)) (.ty "bool") (fun _ _ => .base (.int _)) kit_ib)))) (fun H1 e1 => ?_)
  exact q H1 e1
def spSame (K : PySem.W.Frag) : Sp := PV fun vs H z => ∃ (p q : Addr) (ns : List Int), vs = [.ref p, .ref q] ∧ H p = some (.lst (ns.map V.int)) ∧ SqL K H q (ns.map V.int) ∧ ns.length ≤ 1000 ∧ z = .bl true
theorem ok_same (D : Def K mg "_law_same" s__law_same ["actual", "expected"]) (T : Tx mg) (c__law_is_integer : Cal CX0 P w K mg base 1 "_law_is_integer" spIsInt) : Cal CX0 P w K mg base 2 "_law_same" (spSame K) := by
  refine cal0 D sc__law_same (fun vs H Q E h => ?_) (fun f cdv A outer s H vs Q E hr h => ?_)
  · obtain ⟨_, ⟨_, _, _, rfl, _⟩, _⟩ := h
    rfl
  obtain ⟨_, ⟨p, p', ns, rfl, hp, hq, hl, rfl⟩, q⟩ := h
  refine ⟨_, (pss_cons (ps_if (pw_or (pt_not (pt_val (pe_callB call_isi (by rfl) T.z_isinstance (by decide +kernel) (pa_cons (pv 0) (pa_cons (pe_bltn (v := .ty "list") (by rfl) T.z_list (by decide +kernel) rfl) pa_nil))))) (pw_or1 (pt_cmpR op_ne (pe_callB call_len_seq (by rfl) T.z_len PySem.boot_len (pa_cons (pv 0) pa_nil)) (pe_callB call_len_seq (by rfl) T.z_len PySem.boot_len (pa_cons (pv 1) pa_nil)) (nomark _)))).pt
      (pss_cons (ps_ret pe_bl) pss_nil)
      pss_nil)
    (pss_cons (ps_for PassesOwn.never rfl (pi_range1 rfl T.z_range (pa_cons (pe_callB call_len_seq (by rfl) T.z_len PySem.boot_len (pa_cons (pv 1) pa_nil)) pa_nil)) (pg_name (i := 2) sc__law_same.nd rfl (.inl rfl))
      (pss_cons (ps_if (pw_or (pt_not (pt_val (pe_c c__law_is_integer hr (by decide) (by rfl) (pa_cons (pe_ix ix_list (pv 0) (pv 2) (fun _ _ => rfl)) pa_nil)))) (pw_or1 (pt_cmpR op_ne (pe_ix ix_list (pv 0) (pv 2) (fun _ _ => rfl)) (pe_ix ix_list (pv 1) (pv 2) (fun _ _ => rfl)) (nomark _)))).pt
        (pss_cons (ps_ret pe_bl) pss_nil)
        pss_nil) pss_nil))
    (pss_cons (ps_ret pe_bl) pss_nil))), R.go ?_⟩
  refine r_when (et_or (et_not (et_B (ev_isi (ea_cons (ev_var rfl) (ea_cons ev_c ea_nil)) (.ty "list") (fun H1 e1 => .base (.lst (e1 p _ hp))) kit_ll))) (fun hb => (et_test (ev_op (ev_len (ev_var rfl) (sq_of hp)) (ev_len (ev_var rfl) hq) (rv_ne rfl))))) (fun hb => ?_) (fun hb => ?_)
  · simp at hb
  refine r_forR1 (ea_cons (ev_len (ev_var rfl) hq) ea_nil) ⟨by omega, by rw [List.length_map]; omega⟩ (fun i σ B => ∃ y, σ = [some (.ref p), some (.ref p'), y] ∧ Ex H B) ⟨none, rfl, Ex.refl _⟩ (fun i σ B hi hI => ?_) (fun σ B hI => ?_)
  · obtain ⟨y, rfl, eB⟩ := hI
    rw [List.length_map] at hi
    have h1 : SqL K B p (ns.map V.int) := sq_of (eB p _ hp)
    have h2 := ex_l eB hq
    refine r_when (et_or (et_not (et_B (ev_pv (ea_cons (ev_op (ev_var rfl) (ev_var rfl) (rv_ixI h1 (by omega) hi)) ea_nil) (fun H _ => ⟨_, rfl, rfl⟩)))) (fun hb => (et_test (ev_op (ev_op (ev_var rfl) (ev_var rfl) (rv_ixI h1 (by omega) hi)) (ev_op (ev_var rfl) (ev_var rfl) (rv_ixI h2 (by omega) hi)) (rv_ne rfl))))) (fun hb => ?_) (fun hb => ?_)
    · simp at hb
    · exact r_up ⟨_, rfl, eB⟩
  · obtain ⟨y, rfl, eB⟩ := hI
    exact r_ret ev_c (fun H1 e1 => q H1 (eB.trans e1))
theorem ok_octets_of (D : Def K mg "_law_octets_of" s__law_octets_of ["n"]) (T : Tx mg) : Cal CX0 P w K mg base 1 "_law_octets_of" spWrite := by
  refine cal0 D sc__law_octets_of (fun vs H Q E h => ?_) (fun f cdv A outer s H vs Q E hr h => ?_)
  · obtain ⟨_, ⟨n, rfl, _⟩, _⟩ := h
    rfl
  obtain ⟨_, ⟨n, rfl, hz, rfl⟩, q⟩ := h
  have hlen := (wI_len 9 (zz n) (by omega)).2
  refine ⟨_, (pss_cons (ps_set (i := 1) sc__law_octets_of.nd rfl (.inl rfl) (pe_op op_mul pe_int (pv 0)))
    (pss_cons (ps_if (pt_cmpR op_lt (pv 0) pe_int (nomark _))
      (pss_cons (ps_set (i := 1) sc__law_octets_of.nd rfl (.inl rfl) (pe_op op_sub (pe_op op_mul (pe_un un_neg pe_int) (pv 0)) pe_int)) pss_nil)
      pss_nil)
    (pss_cons (ps_set (i := 2) sc__law_octets_of.nd rfl (.inl rfl) (pe_lst pa_nil))
    (pss_cons (ps_for PassesOwn.never rfl (pi_range1 rfl T.z_range (pa_cons pe_int pa_nil)) (pg_name (i := 3) sc__law_octets_of.nd rfl (.inl rfl))
      (pss_cons (ps_if (pt_cmpR op_lt (pv 1) pe_int (nomark _))
        (pss_cons ps_break pss_nil)
        pss_nil)
      (pss_cons (ps_expr (pe_bm PySem.F.plainAttrs_list PySem.F.slot_list_append PySem.F.type_list_append mt_append (pv 2) (pa_cons (pe_op op_add pe_int (pe_op op_mod (pe_callTy call_int1 (by rfl) T.z_int (by decide +kernel) (pa_cons (pv 1) pa_nil)) pe_int)) pa_nil)))
      (pss_cons (ps_set (i := 1) sc__law_octets_of.nd rfl (.inl rfl) (pe_op op_fdiv (pv 1) pe_int)) pss_nil))))
    (pss_cons (ps_ret (pe_op op_cat (pv 2) (pe_lst (pa_cons (pv 1) pa_nil)))) pss_nil))))), R.go ?_⟩
  refine r_asg (ev_op ev_c (ev_var rfl) (rv_arC (.inl ⟨by decide, by decide⟩))) ?_
  refine r_whenK (fun σ' B' => H = B' ∧ σ' = [some (.int n), some (.int (zz n : Int)), none, none]) (et_test (ev_op (ev_var rfl) ev_c rv_cmp)) (fun σ' B' hM => ?_) (fun k hb => ?_) (fun k hb => ?_)
  · obtain ⟨rfl, rfl⟩ := hM
    refine r_asgN (en_lst ea_nil (by decide)) (fun p np => ?_)
    refine r_forR1K (fun σ' B' => ∃ (pre : List Int) (m : Nat) (y : Option V), σ' = [some (.int n), some (.int (m : Int)), some (.ref p), y] ∧ Ex B' B' ∧ (∀ H1, Ex B' H1 → H1 p = some (.lst (pre.map V.int))) ∧ Ex H B' ∧ pre ++ [(m : Int)] = wI (zz n)) (ea_cons ev_c ea_nil) ⟨by decide, by decide⟩
      (fun i σ B => ∃ (pre : List Int) (m : Nat) (y : Option V), σ = [some (.int n), some (.int (m : Int)), some (.ref p), y] ∧ Ex H B ∧ B p = some (.lst (pre.map V.int)) ∧ pre ++ wI m = wI (zz n) ∧ m * 128 ^ i ≤ zz n)
      ⟨[], zz n, none, rfl, Ex.new np, upd_same, rfl, by simp⟩ (fun σ' B' hM => ?_) (fun k i σ B hi hI => ?_) (fun σ B hI => ?_)
    · obtain ⟨pre, m, y, rfl, _, hp, eB, hw⟩ := hM
      have hpl : pre.length ≤ 10 := by
        have := congrArg List.length hw
        rw [List.length_append] at this
        omega
      refine r_retN (en_catVN (ev_var rfl) (en_lst (ea_cons (ev_var rfl) ea_nil) (by simp)) (hp B' (Ex.refl _)) (by simp; omega)) (fun p1 np1 H1 e1 => ?_)
      refine q p1 H1 (fresh_back eB np1) (eB.trans ((Ex.new np1).trans e1)) (e1 p1 _ ?_)
      rw [upd_same, ← hw, List.map_append]
      rfl
    · obtain ⟨pre, m, y, rfl, eB, hp, hw, hm⟩ := hI
      have hpl : pre.length ≤ 10 := by
        have := congrArg List.length hw
        rw [List.length_append] at this
        omega
      refine r_when (et_test (ev_op (ev_var rfl) ev_c rv_cmp)) (fun hb => ?_) (fun hb => ?_)
      · have h1 : m < 128 := by
          simp at hb
          omega
        rw [wI_lt h1] at hw
        exact r_brk (fun H1 e1 => k _ H1 ⟨pre, m, _, rfl, Ex.refl _, fun H2 e2 => e2 p _ (e1 p _ hp), eB.trans e1, hw⟩ H1 (Ex.refl _))
      · have h1 : ¬ m < 128 := by
          simp at hb
          omega
        refine r_app hp (ev_var rfl) (ev_op ev_c (ev_op (ev_int (ev_var rfl)) ev_c (rv_arC (by decide))) rv_ar) (by rw [List.length_map]; omega) ?_
        refine r_asg (ev_op (ev_var rfl) ev_c (rv_arC ⟨by decide, by decide⟩)) ?_
        refine r_up ⟨pre ++ [128 + ((m % 128 : Nat) : Int)], m / 128, _, rfl, Ex.mut eB np, ?_, ?_, ?_⟩
        · rw [upd_same, List.map_append]
          rfl
        · rw [List.append_assoc, ← hw, wI_ge h1]
          rfl
        · refine Nat.le_trans ?_ hm
          rw [Nat.pow_succ, Nat.mul_comm (128 ^ i), ← Nat.mul_assoc]
          exact Nat.mul_le_mul_right _ (by omega)
    · obtain ⟨pre, m, y, rfl, eB, hp, hw, hm⟩ := hI
      have h1 : m < 128 := by
        have h2 : m * 128 ^ 11 ≤ zz n := hm
        omega
      rw [wI_lt h1] at hw
      exact ⟨pre, m, y, rfl, Ex.refl _, fun H2 e2 => e2 p _ hp, eB, hw⟩
  · have hn : ¬ 0 ≤ n := by
      simp at hb
      omega
    refine r_asg (v := .int (zz n : Int)) ?_ ?_
    · rw [zz_neg hn]
      exact (ev_op (ev_op (ev_un ev_c ru_neg) (ev_var rfl) (rv_arC (.inl ⟨by decide, by decide⟩))) ev_c rv_ar)
    · exact r_on (k _ _ ⟨rfl, rfl⟩)
  · have hn : 0 ≤ n := by
      simp at hb
      omega
    refine k _ _ ⟨rfl, ?_⟩
    rw [zz_nn hn]
    rfl
theorem two7 (k : Nat) : (2 : Int) ^ ((7 : Int) * (k : Int)).toNat = 128 ^ k := by
  rw [show ((7 : Int) * (k : Int)).toNat = 7 * k by omega, Int.pow_mul]
  rfl
theorem ok_due (D : Def K mg "_law_due" s__law_due ["octets", "at"]) (T : Tx mg) : Cal CX0 P w K mg base 1 "_law_due" (spTup K) := by
  refine cal0 D sc__law_due (fun vs H Q E h => ?_) (fun f cdv A outer s H vs Q E hr h => ?_)
  · obtain ⟨_, ⟨_, ⟨_, _, _, rfl, _⟩, _⟩, _⟩ := h
    rfl
  obtain ⟨_, ⟨r, ⟨p, ns, a, rfl, hS, hl, ha, rfl⟩, rfl⟩, q⟩ := h
  refine ⟨_, (pss_cons (ps_set (i := 2) sc__law_due.nd rfl (.inl rfl) pe_int)
    (pss_cons (ps_for PassesOwn.never rfl (pi_range1 rfl T.z_range (pa_cons pe_int pa_nil)) (pg_name (i := 3) sc__law_due.nd rfl (.inl rfl))
      (pss_cons (ps_if (pt_cmpR op_ge (pe_op op_add (pv 1) (pv 3)) (pe_callB call_len_seq (by rfl) T.z_len PySem.boot_len (pa_cons (pv 0) pa_nil)) (nomark _))
        (pss_cons (ps_ret (pe_tup (pa_cons pe_str (pa_cons (pe_callB call_len_seq (by rfl) T.z_len PySem.boot_len (pa_cons (pv 0) pa_nil)) pa_nil)))) pss_nil)
        pss_nil)
      (pss_cons (ps_set (i := 2) sc__law_due.nd rfl (.inl rfl) (pe_op op_add (pv 2) (pe_op op_shl (pe_op op_mod (pe_callTy call_int1 (by rfl) T.z_int (by decide +kernel) (pa_cons (pe_ix ix_list (pv 0) (pe_op op_add (pv 1) (pv 3)) (fun _ _ => rfl)) pa_nil)) pe_int) (pe_op op_mul pe_int (pv 3)))))
      (pss_cons (ps_if (pt_cmpR op_lt (pe_ix ix_list (pv 0) (pe_op op_add (pv 1) (pv 3)) (fun _ _ => rfl)) pe_int (nomark _))
        (pss_cons (ps_if (pw_or (pw_and (pt_cmpR op_eq (pe_ix ix_list (pv 0) (pe_op op_add (pv 1) (pv 3)) (fun _ _ => rfl)) pe_int (nomark _)) (pw_and1 (pt_cmpR op_gt (pv 3) pe_int (nomark _)))).pt (pw_or1 (pt_cmpR op_ge (pv 2) (pe_op op_shl pe_int pe_int) (nomark _)))).pt
          (pss_cons (ps_ret (pe_tup (pa_cons pe_str (pa_cons (pv 1) pa_nil)))) pss_nil)
          pss_nil)
        (pss_cons (ps_if (pt_cmpR op_eq (pe_op op_mod (pe_callTy call_int1 (by rfl) T.z_int (by decide +kernel) (pa_cons (pv 2) pa_nil)) pe_int) pe_int (nomark _))
          (pss_cons (ps_ret (pe_tup (pa_cons (pe_op op_sub pe_int (pe_op op_fdiv (pe_op op_add (pv 2) pe_int) pe_int)) (pa_cons (pe_op op_add (pe_op op_add (pv 1) (pv 3)) pe_int) pa_nil)))) pss_nil)
          pss_nil)
        (pss_cons (ps_ret (pe_tup (pa_cons (pe_op op_fdiv (pv 2) pe_int) (pa_cons (pe_op op_add (pe_op op_add (pv 1) (pv 3)) pe_int) pa_nil)))) pss_nil)))
        pss_nil) pss_nil))))
    (pss_cons (ps_ret (pe_tup (pa_cons pe_str (pa_cons (pv 1) pa_nil)))) pss_nil))), R.go ?_⟩
  refine r_asg ev_c ?_
  refine r_forR1 (ea_cons ev_c ea_nil) ⟨by decide, by decide⟩ (fun i σ B => ∃ (g : Int) (y3 : Option V), σ = [some (.ref p), some (.int (a : Int)), some (.int g), y3] ∧ Ex H B ∧ 0 ≤ g ∧ rdL ns.length a (10 - i) (ns.drop (a + i)) i g = rd ns a)
    ⟨0, none, rfl, Ex.refl _, by decide, rfl⟩ (fun i σ B hi hI => ?_) (fun σ B hI => ?_)
  · obtain ⟨g, y3, rfl, eB, hg, hI⟩ := hI
    have hS' := ex_l eB hS
    have hi' : i < 10 := by omega
    obtain ⟨j, hj⟩ : ∃ j, 10 - i = j + 1 := ⟨9 - i, by omega⟩
    rw [hj] at hI
    have fin : ∀ {xs : List V} {p1 : Addr} {H1 : Hp}, B p1 = none → Ex (upd B p1 (.tup xs)) H1 → xs = tupOf (rd ns a) → Q (.ref p1) H1 := fun np e1 e => q _ _ (fresh_back eB np) (eB.trans ((Ex.new np).trans e1)) (e ▸ e1 _ _ upd_same)
    refine r_when (et_test (ev_op (ev_op (ev_var rfl) (ev_var rfl) rv_ar) (ev_len (ev_var rfl) hS') rv_cmp)) (fun hb => ?_) (fun hb => ?_)
    · have hb' : ns.length ≤ a + i := by
        simp at hb
        omega
      rw [List.drop_of_length_le hb'] at hI
      have hI : Rs.er "Truncated" ns.length = rd ns a := hI
      refine r_retN (en_tup (ea_cons ev_c (ea_cons (ev_len (ev_var rfl) hS') ea_nil)) (by simp)) (fun p1 np H1 e1 => fin np e1 ?_)
      rw [← hI, List.length_map]
      rfl
    · have hb' : a + i < ns.length := by
        simp at hb
        omega
      rw [drop_cons hb'] at hI
      have eo : ns.getD ((a : Int) + (i : Int)).toNat 0 = ns.getD (a + i) 0 := by
        congr 1
      have ho : ∀ {σ : L2.St} {ta : TE} {tb : TE}, Ev ta σ B (.ref p) → Ev tb σ B (.int ((a : Int) + (i : Int))) → Ev (tOp (rIxL K) ta tb) σ B (.int (ns.getD (a + i) 0)) := fun h1 h2 => eo ▸ ev_op h1 h2 (rv_ixI hS' (by omega) (by omega))
      have hA : (ns.getD (a + i) 0) % 128 * 2 ^ ((7 : Int) * (i : Int)).toNat = (ns.getD (a + i) 0) % 128 * 128 ^ i := by rw [two7]
      generalize ns.getD (a + i) 0 = o at *
      have hm0 : 0 ≤ o % 128 := Int.emod_nonneg _ (by decide)
      have hm1 : o % 128 < 128 := Int.emod_lt_of_pos _ (by decide)
      refine r_asg (ev_op (ev_var rfl) (ev_op (ev_op (ev_int (ho (ev_var rfl) (ev_op (ev_var rfl) (ev_var rfl) rv_ar))) ev_c (rv_arC (by decide))) (ev_op ev_c (ev_var rfl) (rv_arC (.inl ⟨by decide, by decide⟩))) (rv_arC ⟨by omega, by omega, by omega⟩)) rv_ar) ?_
      rw [hA]
      have hn : 0 ≤ g + o % 128 * 128 ^ i := Int.add_nonneg hg (Int.mul_nonneg hm0 (Int.le_of_lt (p128 i)))
      refine r_when (et_test (ev_op (ho (ev_var rfl) (ev_op (ev_var rfl) (ev_var rfl) rv_ar)) ev_c rv_cmp)) (fun hb2 => ?_) (fun hb2 => ?_)
      · have h2 : o < 128 := by simpa using hb2
        have hI : (if o < 128 then (if (o = 0 ∧ 0 < i) ∨ 18446744073709551616 ≤ g + o % 128 * 128 ^ i then Rs.er "InvalidData" (a : Int) else .ok (unz (g + o % 128 * 128 ^ i)) ((a : Int) + i + 1)) else _) = rd ns a := hI
        rw [if_pos h2] at hI
        generalize g + o % 128 * 128 ^ i = G at *
        refine r_when (et_or (et_and (et_test (ev_op (ho (ev_var rfl) (ev_op (ev_var rfl) (ev_var rfl) rv_ar)) ev_c (rv_eq rfl))) (fun hb => (et_test (ev_op (ev_var rfl) ev_c rv_cmp)))) (fun hb => (et_test (ev_op (ev_var rfl) (ev_op ev_c ev_c (rv_arC ⟨by decide, by decide, by decide⟩)) rv_cmp)))) (fun hb3 => ?_) (fun hb3 => ?_)
        · have h3 : (o = 0 ∧ 0 < i) ∨ 18446744073709551616 ≤ G := by
            simp at hb3
            rcases hb3 with ⟨x, y⟩ | x
            · exact .inl ⟨x, by omega⟩
            · exact .inr x
          rw [if_pos h3] at hI
          exact r_retN (en_tup (ea_cons ev_c (ea_cons (ev_var rfl) ea_nil)) (by simp)) (fun p1 np H1 e1 => fin np e1 (by rw [← hI]; rfl))
        · have h3 : ¬ ((o = 0 ∧ 0 < i) ∨ 18446744073709551616 ≤ G) := by
            simp at hb3
            intro h
            rcases h with ⟨x, y⟩ | x
            · have := hb3.1 x
              omega
            · have := hb3.2
              omega
          rw [if_neg h3] at hI
          refine r_when (et_test (ev_op (ev_op (ev_int (ev_var rfl)) ev_c (rv_arC (by decide))) ev_c (rv_eq rfl))) (fun hb => ?_) (fun hb => ?_)
          · have hG : G % 2 = 1 := by simpa using hb
            refine r_retN (en_tup (ea_cons (ev_op ev_c (ev_op (ev_op (ev_var rfl) ev_c rv_ar) ev_c (rv_arC ⟨by decide, by decide⟩)) rv_ar) (ea_cons (ev_op (ev_op (ev_var rfl) (ev_var rfl) rv_ar) ev_c rv_ar) ea_nil)) (by simp)) (fun p1 np H1 e1 => fin np e1 ?_)
            rw [← hI]
            have e : unz G = 0 - (G + 1) / 2 := by
              unfold unz
              rw [if_neg (by omega)]
              omega
            show _ = [V.int (unz G), _]
            rw [e]
          · have hG : ¬ G % 2 = 1 := by simpa using hb
            refine r_retN (en_tup (ea_cons (ev_op (ev_var rfl) ev_c (rv_arC ⟨by decide, by decide⟩)) (ea_cons (ev_op (ev_op (ev_var rfl) (ev_var rfl) rv_ar) ev_c rv_ar) ea_nil)) (by simp)) (fun p1 np H1 e1 => fin np e1 ?_)
            rw [← hI]
            have e : unz G = G / 2 := by
              unfold unz
              rw [if_pos (by omega)]
            show _ = [V.int (unz G), _]
            rw [e]
      · have h2 : ¬ o < 128 := by simpa using hb2
        refine r_up ⟨g + o % 128 * 128 ^ i, _, rfl, eB, hn, ?_⟩
        have hI : (if o < 128 then _ else rdL ns.length a j (ns.drop (a + i + 1)) (i + 1) (g + o % 128 * 128 ^ i)) = rd ns a := hI
        rw [if_neg h2] at hI
        rw [show 10 - (i + 1) = j by omega]
        exact hI
  · obtain ⟨g, y3, rfl, eB, hg, hI⟩ := hI
    have hI : Rs.er "InvalidData" (a : Int) = rd ns a := hI
    exact r_retN (en_tup (ea_cons ev_c (ea_cons (ev_var rfl) ea_nil)) (by simp)) (fun p1 np H1 e1 => q p1 H1 (fresh_back eB np) (eB.trans ((Ex.new np).trans e1)) (by rw [← hI]; exact e1 p1 _ upd_same))
theorem kit_self {C : Addr} : PySem.W.kitOne K (.ref C) (.ref C) = some true := by simp [PySem.W.kitOne]
/-- what is asked of the classes together -/
structure KF (K : PySem.W.Frag) (C_F C_T C_D C_X : Addr) : Prop where
  xT : PySem.W.exmOne K (.ref C_T) (.ref C_F) = some true
  xD : PySem.W.exmOne K (.ref C_D) (.ref C_F) = some true
  tD : PySem.W.kitOne K (.ref C_T) (.ref C_D) = some false
  dT : PySem.W.kitOne K (.ref C_D) (.ref C_T) = some false
  tX : PySem.W.kitOne K (.ref C_T) (.ref C_X) = some false
  dX : PySem.W.kitOne K (.ref C_D) (.ref C_X) = some false
theorem ok_told {C_FormkeeperError C_T C_D C_X : Addr} (D : Def K mg "_law_told" s__law_told ["octets", "at"]) (T : Tx mg) (Z_FormkeeperError : mg "FormkeeperError" = some (.ref C_FormkeeperError)) (Z_Truncated : ErrC P w K mg base "Truncated" C_T) (Z_InvalidData : ErrC P w K mg base "InvalidData" C_D)
    (Z_InvalidText : ErrC P w K mg base "InvalidText" C_X) (k : KF K C_FormkeeperError C_T C_D C_X) (c_read_number : CalX P w K mg base 3 "read_number" (spRead K mg)) : Cal CX0 P w K mg base 4 "_law_told" (spTup K) := by
  refine cal0 D sc__law_told (fun vs H Q E h => ?_) (fun f cdv A outer s H vs Q E hr h => ?_)
  · obtain ⟨_, ⟨_, ⟨_, _, _, rfl, _⟩, _⟩, _⟩ := h
    rfl
  obtain ⟨_, ⟨r, ⟨p, ns, a, rfl, hS, hl, ha, rfl⟩, rfl⟩, q⟩ := h
  refine ⟨_, (pss_cons (ps_tryA (ps_try_as (i := 2) (c := .ref C_FormkeeperError) (Wout := fun _ _ _ _ => False) rfl rfl sc__law_told.nd rfl rfl ⟨rfl, by decide, .inl Z_FormkeeperError⟩ takes0
      (fun W pn xe tk hp => (pss_cons (ps_ret (pe_cX c_read_number tk hr (by decide) (by rfl) (pa_cons (pv 0) (pa_cons (pv 1) pa_nil)))) pss_nil))
      (fun a oe cls d pn hz hf => pss_on hz (fun C dd nm Z hz => (pss_cons (ps_set (i := 3) sc__law_told.nd rfl (.inl rfl) (pe_lst pa_nil))
        (pss_cons (ps_if (pt_val (pe_callB (call_isD Z.ex hz hf) (by rfl) T.z_isinstance (by decide +kernel) (pa_cons (pv 2) (pa_cons (pe_gc (by rfl) Z_Truncated.g) pa_nil))))
          (pss_cons (ps_expr (pe_bmS PySem.F.plainAttrs_list PySem.F.slot_list_append PySem.F.type_list_append mt_append (pv 3) (pa_cons pe_str pa_nil))) pss_nil)
          pss_nil)
        (pss_cons (ps_if (pt_val (pe_callB (call_isD Z.ex hz hf) (by rfl) T.z_isinstance (by decide +kernel) (pa_cons (pv 2) (pa_cons (pe_gc (by rfl) Z_InvalidData.g) pa_nil))))
          (pss_cons (ps_expr (pe_bmS PySem.F.plainAttrs_list PySem.F.slot_list_append PySem.F.type_list_append mt_append (pv 3) (pa_cons pe_str pa_nil))) pss_nil)
          pss_nil)
        (pss_cons (ps_if (pw_or (pt_val (pe_callB (call_isD Z.ex hz hf) (by rfl) T.z_isinstance (by decide +kernel) (pa_cons (pv 2) (pa_cons (pe_gc (by rfl) Z_InvalidText.g) pa_nil)))) (pw_or (pt_cmpR op_ne (pe_callB call_len_seqS (by rfl) T.z_len PySem.boot_len (pa_cons (pv 3) pa_nil)) pe_int (nomark _)) (pw_or1 (pt_cmpR op_ne (pe_xf Z.xf Z.nn hz hf (pv 2)) (pe_ix ix_listS (pv 3) pe_int (fun _ _ => rfl)) (nomark _))))).pt
          (pss_cons (ps_ret (pe_tup (pa_cons pe_str (pa_cons pe_int pa_nil)))) pss_nil)
          pss_nil)
        (pss_cons (ps_ret (pe_tup (pa_cons (pe_ix ix_listS (pv 3) pe_int (fun _ _ => rfl)) (pa_cons (pe_xf Z.xf Z.np hz hf (pv 2)) pa_nil)))) pss_nil))))))))) pss_nil), R.go ?_⟩
  refine r_try ?_
  cases hr : rd ns a with
  | ok n e =>
    refine r_retN (en_cx (o := .tup [.int n, .int e]) (ea_cons (ev_var rfl) (ea_cons (ev_var rfl) ea_nil)) (fun H1 e1 => ⟨_, ⟨p, ns, a, rfl, ex_l e1 hS, hl, ha, rfl⟩, by rw [hr]; rfl⟩)) (fun p1 np H1 e1 => ?_)
    rw [hr] at q
    exact q p1 H1 np ((Ex.new np).trans e1) (e1 p1 _ upd_same)
  | er x v =>
    obtain ⟨C0, b, hC, Z, hX, h1, h2, h3, hx⟩ : ∃ (C0 : Addr) (b : Bool), mg x = some (.ref C0) ∧ ErrK K C0 x ∧ PySem.W.exmOne K (.ref C0) (.ref C_FormkeeperError) = some true ∧ PySem.W.kitOne K (.ref C0) (.ref C_T) = some b ∧ PySem.W.kitOne K (.ref C0) (.ref C_D) = some (!b) ∧
        PySem.W.kitOne K (.ref C0) (.ref C_X) = some false ∧ x = (if b = true then "Truncated" else "InvalidData" : Str) := by
      rcases rd_er _ _ _ _ _ _ _ _ hr with rfl | rfl
      · exact ⟨C_T, true, Z_Truncated.gC, Z_Truncated.k, k.xT, kit_self, k.tD, k.tX, rfl⟩
      · exact ⟨C_D, false, Z_InvalidData.gC, Z_InvalidData.k, k.xD, k.dT, kit_self, k.dX, rfl⟩
    refine r_retE (x := x) (v := .int v) (ee_cx (ea_cons (ev_var rfl) (ea_cons (ev_var rfl) ea_nil)) (fun H1 e1 => ⟨_, ⟨p, ns, a, rfl, ex_l e1 hS, hl, ha, rfl⟩, by rw [hr]; rfl⟩)) (fun C d H1 m nd e1 hd => ?_)
    rw [hC] at m
    cases m
    rw [hr] at q
    refine was_on Z hX (fun a0 na => R.go ?_)
    refine r_new (en_lst ea_nil (by decide)) (fun p3 B2 np3 e2 h3 => ?_)
    have d2 := e2 d _ hd
    refine r_whenK (fun σ' B' => σ' = [some (.ref p), some (.int (a : Int)), some (.ref a0), some (.ref p3)] ∧ Ex H1 B' ∧ B' p3 = some (.lst (if b = true then [V.str "Truncated"] else []))) (et_B (ev_isD (ea_cons (ev_var rfl) (ea_cons ev_c ea_nil)) (.own C_T) h1 d2)) (fun σ' B' hM => ?_) (fun k hb => ?_) (fun k hb => ?_)
    · obtain ⟨rfl, e3, hp3⟩ := hM
      refine r_whenK (fun σ' B' => σ' = [some (.ref p), some (.int (a : Int)), some (.ref a0), some (.ref p3)] ∧ Ex H1 B' ∧ B' p3 = some (.lst [V.str x])) (et_B (ev_isD (ea_cons (ev_var rfl) (ea_cons ev_c ea_nil)) (.own C_D) h2 (e3 d _ hd))) (fun σ' B' hM => ?_) (fun k hb => ?_) (fun k hb => ?_)
      · obtain ⟨rfl, e3, hp3⟩ := hM
        refine r_when (et_or (et_B (ev_isD (ea_cons (ev_var rfl) (ea_cons ev_c ea_nil)) (.own C_X) ‹_› (e3 d _ hd))) (fun hb => (et_or (et_test (ev_op (ev_len (ev_var rfl) (sq_of hp3)) ev_c (rv_ne rfl))) (fun hb => (et_test (ev_op (ev_xf (ev_var rfl) (e3 d _ hd) lk_name) (ev_op (ev_var rfl) ev_c (rv_ixL (sq_of hp3) rfl)) (rv_ne rfl))))))) (fun hb => ?_) (fun hb => ?_)
        · simp at hb
        · refine r_retN (en_tup (ea_cons (ev_op (ev_var rfl) ev_c (rv_ixL (sq_of hp3) rfl)) (ea_cons (ev_xf (ev_var rfl) (e3 d _ hd) lk_place) ea_nil)) (by simp)) (fun p1 np H3 e4 => ?_)
          exact q p1 H3 (fresh_back (e1.trans e3) np) ((e1.trans e3).trans ((Ex.new np).trans e4)) (e4 p1 _ upd_same)
      · have hb' : b = false := by simpa using hb
        subst hb'
        refine r_app hp3 (ev_var rfl) ev_c (by decide) ?_
        refine r_on (k _ _ ⟨rfl, Ex.mut e3 np3, ?_⟩)
        rw [upd_same, hx]
        rfl
      · have hb' : b = true := by simpa using hb
        subst hb'
        exact k _ _ ⟨rfl, e3, by rw [hp3, hx]; rfl⟩
    · have hb' : b = true := hb
      subst hb'
      refine r_app h3 (ev_var rfl) ev_c (by decide) ?_
      exact r_on (k _ _ ⟨rfl, Ex.mut e2 np3, upd_same⟩)
    · have hb' : b = false := hb
      subst hb'
      exact k _ _ ⟨rfl, e2, h3⟩
def spNum (K : PySem.W.Frag) : Sp := PVd fun vs H F => ∃ (p : Addr) (ns : List Int), vs = [.ref p] ∧ SqL K H p (ns.map V.int) ∧ ns.length = 20 ∧ (∀ i : Nat, i < 20 → 0 ≤ ns.getD i 0 ∧ ns.getD i 0 < 1048576) ∧ F = fun v => ∃ n : Int, v = .int n ∧ -9223372036854775808 ≤ n ∧ n < 9223372036854775808
theorem e63 : (1 : Int) * 2 ^ (Int.toNat 63) = 9223372036854775808 := by decide
theorem e64 : (1 : Int) * 2 ^ (Int.toNat 64) = 18446744073709551616 := by decide
def IsI (x : V) : Prop := ∃ n : Int, x = .int n
theorem ok_number (D : Def K mg "_law_number" s__law_number ["numbers"]) (T : Tx mg) : Cal CX0 P w K mg base 1 "_law_number" (spNum K) := by
  refine cal0 D sc__law_number (fun vs H Q E h => ?_) (fun f cdv A outer s H vs Q E hr h => ?_)
  · obtain ⟨_, ⟨p, ns, rfl, _⟩, _⟩ := h
    rfl
  obtain ⟨_, ⟨p, ns, rfl, hS, hl, hn, rfl⟩, q⟩ := h
  have n1 := hn 1 (by decide)
  have n2 := hn 2 (by decide)
  have n3 := hn 3 (by decide)
  have n4 := hn 4 (by decide)
  refine ⟨_, (pss_cons (ps_if (pt_cmpR op_eq (pe_op op_mod (pe_ix ix_list (pv 0) pe_int (fun _ _ => rfl)) pe_int) pe_int (nomark _))
      (pss_cons (ps_ret (pe_op op_sub (pe_op op_mod (pe_ix ix_list (pv 0) pe_int (fun _ _ => rfl)) pe_int) pe_int)) pss_nil)
      pss_nil)
    (pss_cons (ps_if (pt_cmpR op_eq (pe_op op_mod (pe_ix ix_list (pv 0) pe_int (fun _ _ => rfl)) pe_int) pe_int (nomark _))
      (pss_cons (ps_set (i := 1) sc__law_number.nd rfl (.inl rfl) (pe_op op_shl pe_int (pe_op op_mod (pe_ix ix_list (pv 0) pe_int (fun _ _ => rfl)) pe_int)))
      (pss_cons (ps_ret (pe_callB (call_max2 rfl) (by rfl) T.z_max (by decide +kernel) (pa_cons (pe_op op_sub pe_int (pe_op op_shl pe_int pe_int)) (pa_cons (pe_callB (call_min2 rfl) (by rfl) T.z_min (by decide +kernel) (pa_cons (pe_op op_sub (pe_op op_shl pe_int pe_int) pe_int) (pa_cons (pe_op op_sub (pe_op op_add (pe_ix ix_list (pe_lst (pa_cons (pv 1) (pa_cons (pe_op op_sub pe_int (pv 1)) pa_nil))) (pe_op op_mod (pe_ix ix_list (pv 0) pe_int (fun _ _ => rfl)) pe_int) (fun _ _ => rfl)) (pe_op op_mod (pe_ix ix_list (pv 0) pe_int (fun _ _ => rfl)) pe_int)) pe_int) pa_nil))) pa_nil)))) pss_nil))
      pss_nil)
    (pss_cons (ps_ret (pe_op op_sub (pe_op op_mod (pe_callTy call_int1 (by rfl) T.z_int (by decide +kernel) (pa_cons (pe_op op_add (pe_op op_add (pe_op op_add (pe_ix ix_list (pv 0) pe_int (fun _ _ => rfl)) (pe_op op_shl (pe_ix ix_list (pv 0) pe_int (fun _ _ => rfl)) pe_int)) (pe_op op_shl (pe_ix ix_list (pv 0) pe_int (fun _ _ => rfl)) pe_int)) (pe_op op_shl (pe_ix ix_list (pv 0) pe_int (fun _ _ => rfl)) pe_int)) pa_nil)) (pe_op op_shl pe_int pe_int)) (pe_op op_shl pe_int pe_int))) pss_nil))), R.go ?_⟩
  refine r_when (et_test (ev_op (ev_op (ev_op (ev_var rfl) ev_c (rv_ixI hS (by decide) (by omega))) ev_c (rv_arC (by decide))) ev_c (rv_eq rfl))) (fun hb => ?_) (fun hb => ?_)
  · refine r_ret (ev_op (ev_op (ev_op (ev_var rfl) ev_c (rv_ixI hS (by decide) (by omega))) ev_c (rv_arC (by decide))) ev_c rv_ar) (fun H1 e1 => q _ H1 e1 ⟨_, rfl, ?_, ?_⟩)
    · omega
    · omega
  refine r_when (et_test (ev_op (ev_op (ev_op (ev_var rfl) ev_c (rv_ixI hS (by decide) (by omega))) ev_c (rv_arC (by decide))) ev_c (rv_eq rfl))) (fun hb => ?_) (fun hb => ?_)
  · refine r_asg (ev_op ev_c (ev_op (ev_op (ev_var rfl) ev_c (rv_ixI hS (by decide) (by omega))) ev_c (rv_arC (by decide))) (rv_arC ⟨by omega, by omega, by decide⟩)) ?_
    generalize (1 : Int) * 2 ^ (ns.getD (Int.toNat 1) 0 % 64).toNat = sz
    obtain ⟨v, hv, i, rfl⟩ := atI_any (xs := [V.int sz, V.int (0 - sz)]) (i := ns.getD (Int.toNat 2) 0 % 2) (Pp := IsI) (Int.emod_nonneg _ (by decide)) (Int.emod_lt_of_pos _ (by decide)) (fun x hx => by
      simp only [List.mem_cons, List.not_mem_nil, or_false] at hx
      rcases hx with rfl | rfl
      · exact ⟨_, rfl⟩
      · exact ⟨_, rfl⟩)
    refine r_ret (ev_max2 (ea_cons (ev_op ev_c (ev_op ev_c ev_c (rv_arC ⟨by decide, by decide, by decide⟩)) rv_ar) (ea_cons (ev_min2 (ea_cons (ev_op (ev_op ev_c ev_c (rv_arC ⟨by decide, by decide, by decide⟩)) ev_c rv_ar) (ea_cons (ev_op (ev_op (ev_ixN (en_lst (ea_cons (ev_var rfl) (ea_cons (ev_op ev_c (ev_var rfl) rv_ar) ea_nil)) (by simp)) (fun B' e' => (ev_op (ev_op (ev_var rfl) ev_c (rv_ixI (ex_l e' hS) (by decide) (by omega))) ev_c (rv_arC (by decide)))) hv) (ev_op (ev_op (ev_var rfl) ev_c (rv_ixI hS (by decide) (by omega))) ev_c (rv_arC (by decide))) rv_ar) ev_c rv_ar) ea_nil))) ea_nil))) (fun H1 e1 => q _ H1 e1 ⟨_, rfl, ?_, ?_⟩)
    · rw [e63]
      split <;> split <;> omega
    · rw [e63]
      split <;> split <;> omega
  refine r_ret (ev_op (ev_op (ev_int (ev_op (ev_op (ev_op (ev_op (ev_var rfl) ev_c (rv_ixI hS (by decide) (by omega))) (ev_op (ev_op (ev_var rfl) ev_c (rv_ixI hS (by decide) (by omega))) ev_c (rv_arC ⟨by decide, by decide, by show Int.natAbs (ns.getD 2 0) < _; omega⟩)) rv_ar) (ev_op (ev_op (ev_var rfl) ev_c (rv_ixI hS (by decide) (by omega))) ev_c (rv_arC ⟨by decide, by decide, by show Int.natAbs (ns.getD 3 0) < _; omega⟩)) rv_ar) (ev_op (ev_op (ev_var rfl) ev_c (rv_ixI hS (by decide) (by omega))) ev_c (rv_arC ⟨by decide, by decide, by show Int.natAbs (ns.getD 4 0) < _; omega⟩)) rv_ar)) (ev_op ev_c ev_c (rv_arC ⟨by decide, by decide, by decide⟩)) (rv_arC (by decide))) (ev_op ev_c ev_c (rv_arC ⟨by decide, by decide, by decide⟩)) rv_ar) (fun H1 e1 => q _ H1 e1 ⟨_, rfl, ?_, ?_⟩)
  · rw [e63, e64]
    omega
  · rw [e63, e64]
    omega
def spLaw (K : PySem.W.Frag) : Sp := PV fun vs H z => ∃ (a : Addr) (ns : List Int), vs = [.ref a] ∧ SqL K H a (ns.map V.int) ∧ ns.length ≤ 63 ∧ z = .bl true
theorem shaped_tup (r : Rs) (h : ∀ x v, r = .er x v → x = "Truncated" ∨ x = "InvalidData") : SeqAt.shaped (.tuple (datOf r)) = true := by
  cases r with
  | ok n e => rfl
  | er x v => 
    have e : ∀ (x : Str) (v : Int), PyData.canLay0 (.str x) = true → SeqAt.shaped (.tuple (datOf (.er x v))) = true := fun x v h => by simp [SeqAt.shaped, datOf, PyData.canLay0, PyData.canLayAll0, PyData.depth, PyData.depthAll] at h ⊢; exact h
    rcases h x v rfl with rfl | rfl
    · exact e _ v (by decide +kernel)
    · exact e _ v (by decide +kernel)
theorem eqv_tup (r : Rs) : PyData.eqv (.tuple (datOf r)) (.tuple (datOf r)) = true := by
  cases r <;> simp [datOf, PyData.eqv, PyData.eqvAll]
theorem dpa_tup {H : Hp} (r : Rs) : DpAll K H (tupOf r) (datOf r) := by
  cases r with
  | ok n e => exact .cons (.int _) (.cons (.int _) .nil)
  | er x v => exact .cons (.str _) (.cons (.int _) .nil)
theorem zz_lt {n : Int} (h0 : -9223372036854775808 ≤ n) (h1 : n < 9223372036854775808) : zz n < 18446744073709551616 := by
  by_cases h : 0 ≤ n
  · have := zz_nn h
    omega
  · have := zz_neg h
    omega
theorem ok_law {f : Addr} {fd : FuncData} (F : Fun K "law" "law" s_law f fd) (T : Tx mg) (c_write_number : Cal CX0 P w K mg base 1 "write_number" spWrite) (c_read_number : CalX P w K mg base 3 "read_number" (spRead K mg)) (c__law_draw : Cal CX0 P w K mg base 1 "_law_draw" spDraw)
    (c__law_is_integer : Cal CX0 P w K mg base 1 "_law_is_integer" spIsInt) (c__law_same : Cal CX0 P w K mg base 2 "_law_same" (spSame K)) (c__law_octets_of : Cal CX0 P w K mg base 1 "_law_octets_of" spWrite) (c__law_due : Cal CX0 P w K mg base 1 "_law_due" (spTup K))
    (c__law_told : Cal CX0 P w K mg base 4 "_law_told" (spTup K)) (c__law_number : Cal CX0 P w K mg base 1 "_law_number" (spNum K)) : FnOk P w K mg base CX0 5 f fd ["script"] (spLaw K) := by
  refine F.ok sc_law (fun vs H Q E h => ?_) (fun cdv A outer s H vs Q E hr h => ?_)
  · obtain ⟨_, ⟨a, ns, rfl, _⟩, _⟩ := h
    rfl
  obtain ⟨_, ⟨a, ns, rfl, hS, hl, rfl⟩, q⟩ := h
  refine ⟨_, (pss_cons (ps_for PassesOwn.never rfl (pi_list (pe_op op_cat (pe_slice sl_list (pv 0) po_none (po_some pe_int)) (pe_lst (pa_cons pe_int pa_nil)))) (pg_name (i := 1) sc_law.nd rfl (.inl rfl))
      (pss_cons (ps_set (i := 2) sc_law.nd rfl (.inl rfl) (pe_c c__law_draw hr (by decide) (by rfl) (pa_cons (pv 1) (pa_cons pe_int (pa_cons (pe_op op_shl pe_int pe_int) pa_nil)))))
      (pss_cons (ps_set (i := 3) sc_law.nd rfl (.inl rfl) (pe_c c__law_number hr (by decide) (by rfl) (pa_cons (pv 2) pa_nil)))
      (pss_cons (ps_set (i := 4) sc_law.nd rfl (.inl rfl) (pe_c c_write_number hr (by decide) (by rfl) (pa_cons (pv 3) pa_nil)))
      (pss_cons (ps_if (pt_not (pt_val (pe_c c__law_same hr (by decide) (by rfl) (pa_cons (pv 4) (pa_cons (pe_c c__law_octets_of hr (by decide) (by rfl) (pa_cons (pv 3) pa_nil)) pa_nil)))))
        (pss_cons (ps_ret pe_bl) pss_nil)
        pss_nil)
      (pss_cons (ps_setLc (i := 5) (hsw := sw_true rfl rfl rfl (by decide +kernel)) (hy := rfl) (hyl := rfl) (own := [("number", 11)]) (g := gName 11) (tt := tYes) (hc := rfl) (hN := sc_law.nd) (hi := (pi_list (pe_slice sl_list (pv 2) (po_some pe_int) (po_some (pe_op op_add pe_int (pe_op op_mod (pe_ix ix_list (pv 2) pe_int (fun _ _ => rfl)) pe_int)))))) (ok := blkOk_by (N := ["script", "cell", "numbers", "n", "octets", "before", "behind", "told", "data", "at", "handed", "number"]) (sc := defScope s_law) (by decide +kernel)) (hg := fun _ _ _ _ _ => (pg_name (i := 11) sc_law.nd rfl (.inl rfl))) (ht := fun _ _ _ _ _ => pts_nil) (he := fun _ _ _ _ _ => (pe_op op_mod (pv 11) pe_int)))
      (pss_cons (ps_setLc (i := 6) (hsw := sw_true rfl rfl rfl (by decide +kernel)) (hy := rfl) (hyl := rfl) (own := [("number", 11)]) (g := gName 11) (tt := tYes) (hc := rfl) (hN := sc_law.nd) (hi := (pi_list (pe_slice sl_list (pv 2) (po_some pe_int) (po_some (pe_op op_add pe_int (pe_op op_mod (pe_ix ix_list (pv 2) pe_int (fun _ _ => rfl)) pe_int)))))) (ok := blkOk_by (N := ["script", "cell", "numbers", "n", "octets", "before", "behind", "told", "data", "at", "handed", "number"]) (sc := defScope s_law) (by decide +kernel)) (hg := fun _ _ _ _ _ => (pg_name (i := 11) sc_law.nd rfl (.inl rfl))) (ht := fun _ _ _ _ _ => pts_nil) (he := fun _ _ _ _ _ => (pe_op op_mod (pv 11) pe_int)))
      (pss_cons (ps_set (i := 7) sc_law.nd rfl (.inl rfl) (pe_cX c_read_number takes0 hr (by decide) (by rfl) (pa_cons (pe_op op_cat (pe_op op_cat (pv 5) (pv 4)) (pv 6)) (pa_cons (pe_callB call_len_seq (by rfl) T.z_len PySem.boot_len (pa_cons (pv 5) pa_nil)) pa_nil))))
      (pss_cons (ps_if (pw_or (pt_cmpR (op_neD (hu64 hr)) (pv 7) (pe_tup (pa_cons (pv 3) (pa_cons (pe_op op_add (pe_callB call_len_seq (by rfl) T.z_len PySem.boot_len (pa_cons (pv 5) pa_nil)) (pe_callB call_len_seq (by rfl) T.z_len PySem.boot_len (pa_cons (pv 4) pa_nil))) pa_nil))) (nomark _)) (pw_or1 (pt_not (pt_val (pe_c c__law_is_integer hr (by decide) (by rfl) (pa_cons (pe_ix ix_tup (pv 7) pe_int (fun _ _ => rfl)) pa_nil)))))).pt
        (pss_cons (ps_ret pe_bl) pss_nil)
        pss_nil)
      (pss_cons (ps_set (i := 8) sc_law.nd rfl (.inl rfl) (pe_op op_cat (pe_lc (own := [("number", 11)]) (g := gName 11) (tt := tYes) rfl sc_law.nd (pi_list (pe_slice sl_list (pv 2) (po_some pe_int) (po_some (pe_op op_add pe_int (pe_op op_mod (pe_ix ix_list (pv 2) pe_int (fun _ _ => rfl)) pe_int))))) (blkOk_by (N := ["script", "cell", "numbers", "n", "octets", "before", "behind", "told", "data", "at", "handed", "number"]) (sc := defScope s_law) (by decide +kernel)) (fun _ _ _ _ _ => (pg_name (i := 11) sc_law.nd rfl (.inl rfl))) (fun _ _ _ _ _ => pts_nil) (fun _ _ _ _ _ => (pe_op op_add pe_int (pe_op op_mod (pv 11) pe_int)))) (pe_op op_rep (pe_lst (pa_cons (pe_op op_mod (pe_ix ix_list (pv 2) pe_int (fun _ _ => rfl)) pe_int) pa_nil)) (pe_op op_mod (pe_ix ix_list (pv 2) pe_int (fun _ _ => rfl)) pe_int))))
      (pss_cons (ps_if (pt_cmpR op_eq (pe_op op_mod (pe_ix ix_list (pv 2) pe_int (fun _ _ => rfl)) pe_int) pe_int (nomark _))
        (pss_cons (ps_set (i := 8) sc_law.nd rfl (.inl rfl) (pe_op op_cat (pe_op op_rep (pe_lst (pa_cons pe_int pa_nil)) pe_int) (pe_lst (pa_cons (pe_op op_mod (pe_ix ix_list (pv 2) pe_int (fun _ _ => rfl)) pe_int) (pa_cons pe_int pa_nil))))) pss_nil)
        pss_nil)
      (pss_cons (ps_if (pt_cmpR op_eq (pe_op op_mod (pe_ix ix_list (pv 2) pe_int (fun _ _ => rfl)) pe_int) pe_int (nomark _))
        (pss_cons (ps_set (i := 8) sc_law.nd rfl (.inl rfl) (pe_op op_cat (pe_slice sl_list (pv 4) po_none (po_some (pe_op op_sub (pe_callB call_len_seq (by rfl) T.z_len PySem.boot_len (pa_cons (pv 4) pa_nil)) pe_int))) (pe_lst (pa_cons (pe_op op_add (pe_ix ix_list (pv 4) (pe_op op_sub (pe_callB call_len_seq (by rfl) T.z_len PySem.boot_len (pa_cons (pv 4) pa_nil)) pe_int) (fun _ _ => rfl)) pe_int) (pa_cons pe_int pa_nil))))) pss_nil)
        pss_nil)
      (pss_cons (ps_set (i := 9) sc_law.nd rfl (.inl rfl) (pe_op op_mod (pe_ix ix_list (pv 2) pe_int (fun _ _ => rfl)) (pe_op op_add (pe_callB call_len_seq (by rfl) T.z_len PySem.boot_len (pa_cons (pv 8) pa_nil)) pe_int)))
      (pss_cons (ps_if (pt_cmpR op_eq (pe_op op_mod (pe_ix ix_list (pv 2) pe_int (fun _ _ => rfl)) pe_int) pe_int (nomark _))
        (pss_cons (ps_set (i := 9) sc_law.nd rfl (.inl rfl) pe_int) pss_nil)
        pss_nil)
      (pss_cons (ps_set (i := 10) sc_law.nd rfl (.inl rfl) (pe_callTy call_list_of (by rfl) T.z_list (by decide +kernel) (pa_cons (pv 8) pa_nil)))
      (pss_cons (ps_if (pw_or (pt_cmpR (op_neD (hu64 hr)) (pe_c c__law_told hr (by decide) (by rfl) (pa_cons (pv 10) (pa_cons (pv 9) pa_nil))) (pe_c c__law_due hr (by decide) (by rfl) (pa_cons (pv 8) (pa_cons (pv 9) pa_nil))) (nomark _)) (pw_or1 (pt_cmpR (op_neD (hu64 hr)) (pv 10) (pv 8) (nomark _)))).pt
        (pss_cons (ps_ret pe_bl) pss_nil)
        pss_nil) pss_nil))))))))))))))))
    (pss_cons (ps_ret pe_bl) pss_nil)), R.go ?_⟩
  have hx0 : cutV (ns.map V.int) none (some 16) ++ [V.int 2] = (ns.take 16 ++ [2]).map V.int := by
    rw [cutV_to (by decide), List.map_append, List.map_take]
    rfl
  refine r_forN (xs := (ns.take 16 ++ [2]).map V.int) (by rw [← hx0]; exact (en_cat (en_sl (ev_var rfl) eo_none (eo_some ev_c) hS) (en_lst (ea_cons ev_c ea_nil) (by decide)) (by
      have := cutV_length (ns.map V.int) none (some 16)
      rw [List.length_map] at this
      show _ + 1 ≤ _
      omega))) (fun p i σ B => ∃ y1 y2 y3 y4 y5 y6 y7 y8 y9 y10 y11, σ = [some (.ref a), y1, y2, y3, y4, y5, y6, y7, y8, y9, y10, y11] ∧ Ex H B ∧ B p = some (.lst ((ns.take 16 ++ [2]).map V.int)))
    (fun p hp => ⟨none, none, none, none, none, none, none, none, none, none, none, rfl, Ex.new hp, upd_same⟩) (fun p i σ B _ hI => ?_) (fun p i x σ B hx hI => ?_) (fun p σ B hI => ?_)
  · obtain ⟨_, _, _, _, _, _, _, _, _, _, _, _, _, h⟩ := hI
    exact sq_of h
  · obtain ⟨y1, y2, y3, y4, y5, y6, y7, y8, y9, y10, y11, rfl, eB, hp⟩ := hI
    rw [List.getElem?_map] at hx
    obtain ⟨c, _, rfl⟩ := Option.map_eq_some_iff.mp hx
    refine r_newd (en_pnd (ea_cons (ev_var rfl) (ea_cons ev_c (ea_cons (ev_op ev_c ev_c (rv_arC ⟨by decide, by decide, by decide⟩)) ea_nil))) (fun H _ => ⟨c, 20, _, rfl, by decide, by decide, by decide, by decide, rfl⟩)) (fun pn B1 o hpn e1 hq1 ho => ?_)
    obtain ⟨ds, rfl, hdl, hd⟩ := draw_at ho
    have hd' : ∀ i : Nat, i < 20 → 0 ≤ ds.getD i 0 ∧ ds.getD i 0 < 1048576 := fun i hi => hd i (by omega)
    have eB1 : Ex H B1 := eB.trans e1
    have hp1 := e1 p _ hp
    have hq1 : SqL K B1 pn (ds.map V.int) := sq_of hq1
    refine r_asgP (ep_pvd (ea_cons (ev_var rfl) ea_nil) (fun H e => ⟨pn, ds, rfl, ex_l e hq1, by omega, hd', rfl⟩)) (fun v B2 e2 hv => ?_)
    obtain ⟨n, rfl, hn0, hn1⟩ := hv
    have hzl := zz_lt hn0 hn1
    refine r_new (en_pn (ea_cons (ev_var rfl) ea_nil) (fun H _ => ⟨n, rfl, hzl, rfl⟩)) (fun po B3 hpo e3 ho3 => ?_)
    have hwl := wI_len 9 (zz n) (by omega)
    refine r_when (et_not (et_B (ev_pvA (eap_v (ev_var rfl) (eap_n (en_pn (ea_cons (ev_var rfl) ea_nil) (fun H _ => ⟨n, rfl, hzl, rfl⟩)) eap_nil)) (by
      rintro _ H1 e ⟨_, rfl, p2, _, rfl, hp2, rfl⟩
      exact ⟨po, p2, _, rfl, e po _ ho3, sq_of hp2, by omega, rfl⟩)))) (fun hb => by simp at hb) (fun hb => ?_)
    have hq3 : SqL K B3 pn (ds.map V.int) := ex_l (e2.trans e3) hq1
    have d5 := hd' 5 (by decide)
    have d6 := hd' 6 (by decide)
    have d7 := hd' 7 (by decide)
    have cut : ∀ (i : Nat) (j : Int), 0 ≤ j → cutV (ds.map V.int) (some (i : Int)) (some j) = ((ds.drop i).take (j.toNat - i)).map V.int := fun i j hj => by
      rw [cutV_int (by omega) hj, List.map_take, List.map_drop]
      rfl
    refine r_new (o := .lst ((((ds.drop 5).take ((5 + ds.getD 5 0 % 4).toNat - 5)).map (· % 256)).map V.int)) (by
      rw [List.map_map]
      exact en_lcI (fun n => V.int (n % 256)) (ei_listN (by rw [← cut 5 _ (by omega)]; exact en_sl (ev_var rfl) (eo_some ev_c) (eo_some (ev_op ev_c (ev_op (ev_op (ev_var rfl) ev_c (rv_ixI hq3 (by decide) (by omega))) ev_c (rv_arC (by decide))) rv_ar)) hq3)) (by rw [List.length_take]; omega) (fun _ => rfl) (fun n _ B' e' => (ev_op (ev_var rfl) ev_c (rv_arC (by decide))))) (fun pb B4 hpb e4 hb4 => ?_)
    have hbl : (((ds.drop 5).take ((5 + ds.getD 5 0 % 4).toNat - 5)).map (· % 256)).length ≤ 20 := by
      rw [List.length_map, List.length_take, List.length_drop]
      omega
    generalize (((ds.drop 5).take ((5 + ds.getD 5 0 % 4).toNat - 5)).map (· % 256)) = bs at hb4 hbl
    have hq4 := ex_l e4 hq3
    refine r_new (o := .lst ((((ds.drop 9).take ((9 + ds.getD 6 0 % 3).toNat - 9)).map (· % 256)).map V.int)) (by
      rw [List.map_map]
      exact en_lcI (fun n => V.int (n % 256)) (ei_listN (by rw [← cut 9 _ (by omega)]; exact en_sl (ev_var rfl) (eo_some ev_c) (eo_some (ev_op ev_c (ev_op (ev_op (ev_var rfl) ev_c (rv_ixI hq4 (by decide) (by omega))) ev_c (rv_arC (by decide))) rv_ar)) hq4)) (by rw [List.length_take]; omega) (fun _ => rfl) (fun n _ B' e' => (ev_op (ev_var rfl) ev_c (rv_arC (by decide))))) (fun ph B5 hph e5 hb5 => ?_)
    have hhl : (((ds.drop 9).take ((9 + ds.getD 6 0 % 3).toNat - 9)).map (· % 256)).length ≤ 20 := by
      rw [List.length_map, List.length_take, List.length_drop]
      omega
    generalize (((ds.drop 9).take ((9 + ds.getD 6 0 % 3).toNat - 9)).map (· % 256)) = hs at hb5 hhl
    have hb5b := e5 pb _ hb4
    have ho5 := e5 po _ (e4 po _ ho3)
    have hrd : rd (bs ++ wI (zz n) ++ hs) bs.length = .ok n ((bs.length : Int) + (wI (zz n)).length) := by
      unfold rd
      rw [List.append_assoc, List.drop_left]
      refine (rd_wI _ _ hs 9 (zz n) 0 0 (by decide) (by omega) (by simp; omega) (fun h => absurd h (by decide))).trans ?_
      rw [show (0 : Int) + (zz n : Int) * 128 ^ 0 = (zz n : Int) by simp, unz_zz]
      simp
    refine r_new (en_cxA (eap_n (en_catNV (en_catV (ev_var rfl) (ev_var rfl) hb5b ho5 (by simp; omega)) (ev_var rfl) hb5 (by simp; omega)) (eap_v (ev_len (ev_var rfl) (sq_of hb5b)) eap_nil)) (o := .tup [.int n, .int ((bs.length : Int) + (wI (zz n)).length)]) (by
      rintro _ H1 e ⟨p1, _, rfl, hp1, _, rfl, rfl⟩
      refine ⟨_, ⟨p1, bs ++ wI (zz n) ++ hs, bs.length, by simp, ?_, by simp; omega, by omega, rfl⟩, by rw [hrd]; rfl⟩
      rw [List.map_append, List.map_append]
      exact sq_of hp1)) (fun pt B6 hpt e6 ht => ?_)
    have hb6 := e6 pb _ hb5b
    have ho6 := e6 po _ ho5
    have hq6 : SqL K B6 pn (ds.map V.int) := ex_l (e5.trans e6) hq4
    refine r_when (et_or (et_test (ev_neD (d := .tuple [.int n, .int ((bs.length : Int) + (wI (zz n)).length)]) (e := .tuple [.int n, .int ((bs.length : Int) + (wI (zz n)).length)]) (ed_ev (ev_var rfl) (.tup (st_of ht) (.cons (.int _) (.cons (.int _) .nil)))) (ed_tup (en_tup (ea_cons (ev_var rfl) (ea_cons (ev_op (ev_len (ev_var rfl) (sq_of hb6)) (ev_len (ev_var rfl) (sq_of ho6)) rv_ar) ea_nil)) (by simp)) (by
        rw [List.length_map, List.length_map]
        exact .cons (.int _) (.cons (.int _) .nil))) rfl rfl)) (fun hb => (et_not (et_B (ev_pv (ea_cons (ev_op (ev_var rfl) ev_c (rv_ixT (st_of ht) rfl)) ea_nil) (fun H _ => ⟨n, rfl, rfl⟩)))))) (fun hb => ?_) (fun hb => ?_)
    · exfalso
      simp [PyData.eqv, PyData.eqvAll] at hb
    have d9 := hd' 9 (by decide)
    have d10 := hd' 10 (by decide)
    have d13 := hd' 13 (by decide)
    refine r_new (o := .lst ((((ds.drop 8).take ((8 + ds.getD 7 0 % 12).toNat - 8)).map (128 + · % 128) ++ (List.replicate (ds.getD 10 0 % 2).toNat [ds.getD 9 0 % 128]).flatten).map V.int)) (by
      rw [List.map_append, List.map_map, List.map_flatten, List.map_replicate]
      refine en_cat (en_lcI (fun n => V.int (128 + n % 128)) (ei_listN (by rw [← cut 8 _ (by omega)]; exact en_sl (ev_var rfl) (eo_some ev_c) (eo_some (ev_op ev_c (ev_op (ev_op (ev_var rfl) ev_c (rv_ixI hq6 (by decide) (by omega))) ev_c (rv_arC (by decide))) rv_ar)) hq6)) (by rw [List.length_take]; omega) (fun _ => rfl) (fun n _ B' e' => (ev_op ev_c (ev_op (ev_var rfl) ev_c (rv_arC (by decide))) rv_ar)))
        (en_rep (en_lst (ea_cons (ev_op (ev_op (ev_var rfl) ev_c (rv_ixI hq6 (by decide) (by omega))) ev_c (rv_arC (by decide))) ea_nil) (by simp)) (ev_op (ev_op (ev_var rfl) ev_c (rv_ixI hq6 (by decide) (by omega))) ev_c (rv_arC (by decide))) (Int.emod_nonneg _ (by decide)) ?_ ?_) ?_
      · show ds.getD 10 0 % 2 ≤ _
        omega
      · show 1 * (ds.getD 10 0 % 2).toNat ≤ _
        omega
      · simp
        omega) (fun pd B7 hpd e7 hd7 => ?_)
    have hdl7 : (((ds.drop 8).take ((8 + ds.getD 7 0 % 12).toNat - 8)).map (128 + · % 128) ++ (List.replicate (ds.getD 10 0 % 2).toNat [ds.getD 9 0 % 128]).flatten).length ≤ 100 := by
      simp
      omega
    generalize (((ds.drop 8).take ((8 + ds.getD 7 0 % 12).toNat - 8)).map (128 + · % 128) ++ (List.replicate (ds.getD 10 0 % 2).toNat [ds.getD 9 0 % 128]).flatten) = zs at hd7 hdl7
    have hq7 := ex_l e7 hq6
    have ho7 := e7 po _ ho6
    refine r_whenK (fun σ' B' => ∃ (pd : Addr) (zs : List Int), Ex B7 B' ∧ σ' = [some (.ref a), some (.int c), some (.ref pn), some (.int n), some (.ref po), some (.ref pb), some (.ref ph), some (.ref pt), some (.ref pd), y9, y10, y11] ∧ B' pd = some (.lst (zs.map V.int)) ∧ zs.length ≤ 100)
      (et_test (ev_op (ev_op (ev_op (ev_var rfl) ev_c (rv_ixI hq7 (by decide) (by omega))) ev_c (rv_arC (by decide))) ev_c (rv_eq rfl))) (fun σ' B' hM => ?_) (fun k hb => ?_) (fun k hb => k _ _ ⟨pd, zs, Ex.refl _, rfl, hd7, hdl7⟩)
    rotate_left
    · refine r_new (o := .lst (((List.replicate 9 [(255 : Int)]).flatten ++ [ds.getD 12 0 % 4, 1]).map V.int)) (en_cat (en_rep (en_lst (ea_cons ev_c ea_nil) (by decide)) ev_c (by decide) (by decide) (by decide)) (en_lst (ea_cons (ev_op (ev_op (ev_var rfl) ev_c (rv_ixI hq7 (by decide) (by omega))) ev_c (rv_arC (by decide))) (ea_cons ev_c ea_nil)) (by simp)) (by simp)) (fun pd2 B8 hpd2 e8 hd8 => ?_)
      exact r_on (k _ _ ⟨pd2, _, e8, rfl, hd8, by simp⟩)
    clear hd7 hdl7 hpd
    obtain ⟨pd, zs, e8, rfl, hd8, hdl8⟩ := hM
    have hq8 := ex_l e8 hq7
    have ho8 := e8 po _ ho7
    refine r_whenK (fun σ' B'' => ∃ (pd : Addr) (zs : List Int), Ex B' B'' ∧ σ' = [some (.ref a), some (.int c), some (.ref pn), some (.int n), some (.ref po), some (.ref pb), some (.ref ph), some (.ref pt), some (.ref pd), y9, y10, y11] ∧ B'' pd = some (.lst (zs.map V.int)) ∧ zs.length ≤ 100)
      (et_test (ev_op (ev_op (ev_op (ev_var rfl) ev_c (rv_ixI hq8 (by decide) (by omega))) ev_c (rv_arC (by decide))) ev_c (rv_eq rfl))) (fun σ' B'' hM => ?_) (fun k hb => ?_) (fun k hb => k _ _ ⟨pd, zs, Ex.refl _, rfl, hd8, hdl8⟩)
    rotate_left
    · have hc : cutV ((wI (zz n)).map V.int) none (some ((((wI (zz n)).map V.int).length : Int) - 1)) = ((wI (zz n)).take ((wI (zz n)).length - 1)).map V.int := by
        rw [cutV_to (by rw [List.length_map]; omega), List.map_take, List.length_map]
        congr 1
        omega
      refine r_new (o := .lst (((wI (zz n)).take ((wI (zz n)).length - 1) ++ [(wI (zz n)).getD ((((wI (zz n)).map V.int).length : Int) - 1).toNat 0 + 128, 0]).map V.int)) (by
        rw [List.map_append, ← hc]
        refine en_cat (en_sl (ev_var rfl) eo_none (eo_some (ev_op (ev_len (ev_var rfl) (sq_of ho8)) ev_c rv_ar)) (sq_of ho8)) (en_lst (ea_cons (ev_op (ev_op (ev_var rfl) (ev_op (ev_len (ev_var rfl) (sq_of ho8)) ev_c rv_ar) (rv_ixI (sq_of ho8) (by rw [List.length_map]; omega) (by rw [List.length_map]; omega))) ev_c rv_ar) (ea_cons ev_c ea_nil)) (by simp)) ?_
        rw [hc]
        simp
        omega) (fun pd2 B8 hpd2 e8 hd8 => ?_)
      exact r_on (k _ _ ⟨pd2, _, e8, rfl, hd8, by simp; omega⟩)
    clear hd8 hdl8
    obtain ⟨pd, zs, e9, rfl, hd9, hdl9⟩ := hM
    have hq9 := ex_l e9 hq8
    have hpos : (0 : Int) < ((zs.map V.int).length : Int) + 1 := by omega
    refine r_asg (ev_op (ev_op (ev_var rfl) ev_c (rv_ixI hq9 (by decide) (by omega))) (ev_op (ev_len (ev_var rfl) (sq_of hd9)) ev_c rv_ar) (rv_arC hpos)) ?_
    have a0 := Int.emod_nonneg (ds.getD (Int.toNat 13) 0) (show ((zs.map V.int).length : Int) + 1 ≠ 0 by omega)
    have a1 := Int.emod_lt_of_pos (ds.getD (Int.toNat 13) 0) hpos
    rw [List.length_map] at a1
    refine r_whenK (fun σ' B3' => B'' = B3' ∧ ∃ (t : Nat), t ≤ 1000 ∧ σ' = [some (.ref a), some (.int c), some (.ref pn), some (.int n), some (.ref po), some (.ref pb), some (.ref ph), some (.ref pt), some (.ref pd), some (.int (t : Int)), y10, y11])
      (et_test (ev_op (ev_op (ev_op (ev_var rfl) ev_c (rv_ixI hq9 (by decide) (by omega))) ev_c (rv_arC (by decide))) ev_c (rv_eq rfl))) (fun σ' B3' hM => ?_) (fun k hb => ?_) (fun k hb => ?_)
    · obtain ⟨rfl, t, ht, rfl⟩ := hM
      refine r_new (en_list (ev_var rfl) (sq_of hd9)) (fun pl B4' hpl e10 hl10 => ?_)
      have hd10 := e10 pd _ hd9
      have hpre : ∀ {p1 : Addr} {H1 : Hp}, H1 p1 = some (.lst (zs.map V.int)) → preRead K ([V.ref p1, .int (t : Int)] ++ []) H1 (rd zs t) := fun hh => ⟨_, zs, t, rfl, sq_of hh, by omega, ht, rfl⟩
      have hsh := shaped_tup (rd zs t) (fun x v h => rd_er _ _ _ _ _ _ _ _ h)
      refine r_when (et_or (et_test (ev_neD (ed_tup (en_pn (ea_cons (ev_var rfl) (ea_cons (ev_var rfl) ea_nil)) (fun H1 e => ⟨rd zs t, hpre (e pl _ hl10), rfl⟩)) (dpa_tup _)) (ed_tup (en_pn (ea_cons (ev_var rfl) (ea_cons (ev_var rfl) ea_nil)) (fun H1 e => ⟨rd zs t, hpre (e pd _ hd10), rfl⟩)) (dpa_tup _)) hsh hsh)) (fun hb => (et_test (ev_neD (ed_ev (ev_var rfl) (.lst (sq_of hl10) (dpa_ints _))) (ed_ev (ev_var rfl) (.lst (sq_of hd10) (dpa_ints _))) (PySem.W.ke_shaped_ints _) (PySem.W.ke_shaped_ints _))))) (fun hb => ?_) (fun hb => ?_)
      · exfalso
        rw [eqv_tup, eqv_ints] at hb
        simp at hb
      · have eF : Ex B1 B4' := ((((((((e2.trans e3).trans e4).trans e5).trans e6).trans e7).trans e8).trans e9).trans e10)
        exact r_up ⟨_, _, _, _, _, _, _, _, _, _, _, rfl, eB1.trans eF, eF p _ hp1⟩
    · refine r_asg ev_c ?_
      exact r_on (k _ _ ⟨rfl, 0, by omega, rfl⟩)
    · refine k _ _ ⟨rfl, (ds.getD (Int.toNat 13) 0 % (((zs.map V.int).length : Int) + 1)).toNat, by rw [List.length_map] at *; omega, ?_⟩
      rw [Int.toNat_of_nonneg a0]
      rfl
  · obtain ⟨y1, y2, y3, y4, y5, y6, y7, y8, y9, y10, y11, rfl, eB, hp⟩ := hI
    exact r_ret ev_c (fun H1 e1 => q H1 (eB.trans e1))
end
theorem all_mk {l : PySem.W.OpenLaw} {w : World} {K : PySem.W.Frag} {h : Heap} {mg : Str → Option Value} {fa : Addr} (X : K.In h) (G : h.Ns mainGlobals mg) (hfa : mg "law" = some (.ref fa))
    {f_write_number : Addr} {od_write_number an_write_number : Option Addr} {sl_write_number : Array (Option Value)} {oc_write_number kV_write_number dc_write_number pm_write_number cd_write_number ct_write_number : Value} (a_write_number : PySem.W.nsIn K mainGlobals "write_number" = some (some (.ref f_write_number))) (l_write_number : K.lookup f_write_number = some ⟨oc_write_number, od_write_number, .func (PySem.W.fnOf "write_number" "write_number" (defArgs s_write_number) (defBody s_write_number) (defScope s_write_number) .none kV_write_number dc_write_number pm_write_number an_write_number cd_write_number ct_write_number), sl_write_number⟩) (c_write_number : PySem.W.codeIn K cd_write_number "write_number" = true) (k_write_number : PySem.W.keepIn K (.ref f_write_number) = true)
    {f_read_number : Addr} {od_read_number an_read_number : Option Addr} {sl_read_number : Array (Option Value)} {oc_read_number kV_read_number dc_read_number pm_read_number cd_read_number ct_read_number : Value} (a_read_number : PySem.W.nsIn K mainGlobals "read_number" = some (some (.ref f_read_number))) (l_read_number : K.lookup f_read_number = some ⟨oc_read_number, od_read_number, .func (PySem.W.fnOf "read_number" "read_number" (defArgs s_read_number) (defBody s_read_number) (defScope s_read_number) .none kV_read_number dc_read_number pm_read_number an_read_number cd_read_number ct_read_number), sl_read_number⟩) (c_read_number : PySem.W.codeIn K cd_read_number "read_number" = true) (k_read_number : PySem.W.keepIn K (.ref f_read_number) = true)
    {f__law_draw : Addr} {od__law_draw an__law_draw : Option Addr} {sl__law_draw : Array (Option Value)} {oc__law_draw kV__law_draw dc__law_draw pm__law_draw cd__law_draw ct__law_draw : Value} (a__law_draw : PySem.W.nsIn K mainGlobals "_law_draw" = some (some (.ref f__law_draw))) (l__law_draw : K.lookup f__law_draw = some ⟨oc__law_draw, od__law_draw, .func (PySem.W.fnOf "_law_draw" "_law_draw" (defArgs s__law_draw) (defBody s__law_draw) (defScope s__law_draw) .none kV__law_draw dc__law_draw pm__law_draw an__law_draw cd__law_draw ct__law_draw), sl__law_draw⟩) (c__law_draw : PySem.W.codeIn K cd__law_draw "_law_draw" = true) (k__law_draw : PySem.W.keepIn K (.ref f__law_draw) = true)
    {f__law_is_integer : Addr} {od__law_is_integer an__law_is_integer : Option Addr} {sl__law_is_integer : Array (Option Value)} {oc__law_is_integer kV__law_is_integer dc__law_is_integer pm__law_is_integer cd__law_is_integer ct__law_is_integer : Value} (a__law_is_integer : PySem.W.nsIn K mainGlobals "_law_is_integer" = some (some (.ref f__law_is_integer))) (l__law_is_integer : K.lookup f__law_is_integer = some ⟨oc__law_is_integer, od__law_is_integer, .func (PySem.W.fnOf "_law_is_integer" "_law_is_integer" (defArgs s__law_is_integer) (defBody s__law_is_integer) (defScope s__law_is_integer) .none kV__law_is_integer dc__law_is_integer pm__law_is_integer an__law_is_integer cd__law_is_integer ct__law_is_integer), sl__law_is_integer⟩) (c__law_is_integer : PySem.W.codeIn K cd__law_is_integer "_law_is_integer" = true) (k__law_is_integer : PySem.W.keepIn K (.ref f__law_is_integer) = true)
    {f__law_same : Addr} {od__law_same an__law_same : Option Addr} {sl__law_same : Array (Option Value)} {oc__law_same kV__law_same dc__law_same pm__law_same cd__law_same ct__law_same : Value} (a__law_same : PySem.W.nsIn K mainGlobals "_law_same" = some (some (.ref f__law_same))) (l__law_same : K.lookup f__law_same = some ⟨oc__law_same, od__law_same, .func (PySem.W.fnOf "_law_same" "_law_same" (defArgs s__law_same) (defBody s__law_same) (defScope s__law_same) .none kV__law_same dc__law_same pm__law_same an__law_same cd__law_same ct__law_same), sl__law_same⟩) (c__law_same : PySem.W.codeIn K cd__law_same "_law_same" = true) (k__law_same : PySem.W.keepIn K (.ref f__law_same) = true)
    {f__law_octets_of : Addr} {od__law_octets_of an__law_octets_of : Option Addr} {sl__law_octets_of : Array (Option Value)} {oc__law_octets_of kV__law_octets_of dc__law_octets_of pm__law_octets_of cd__law_octets_of ct__law_octets_of : Value} (a__law_octets_of : PySem.W.nsIn K mainGlobals "_law_octets_of" = some (some (.ref f__law_octets_of))) (l__law_octets_of : K.lookup f__law_octets_of = some ⟨oc__law_octets_of, od__law_octets_of, .func (PySem.W.fnOf "_law_octets_of" "_law_octets_of" (defArgs s__law_octets_of) (defBody s__law_octets_of) (defScope s__law_octets_of) .none kV__law_octets_of dc__law_octets_of pm__law_octets_of an__law_octets_of cd__law_octets_of ct__law_octets_of), sl__law_octets_of⟩) (c__law_octets_of : PySem.W.codeIn K cd__law_octets_of "_law_octets_of" = true) (k__law_octets_of : PySem.W.keepIn K (.ref f__law_octets_of) = true)
    {f__law_due : Addr} {od__law_due an__law_due : Option Addr} {sl__law_due : Array (Option Value)} {oc__law_due kV__law_due dc__law_due pm__law_due cd__law_due ct__law_due : Value} (a__law_due : PySem.W.nsIn K mainGlobals "_law_due" = some (some (.ref f__law_due))) (l__law_due : K.lookup f__law_due = some ⟨oc__law_due, od__law_due, .func (PySem.W.fnOf "_law_due" "_law_due" (defArgs s__law_due) (defBody s__law_due) (defScope s__law_due) .none kV__law_due dc__law_due pm__law_due an__law_due cd__law_due ct__law_due), sl__law_due⟩) (c__law_due : PySem.W.codeIn K cd__law_due "_law_due" = true) (k__law_due : PySem.W.keepIn K (.ref f__law_due) = true)
    {f__law_told : Addr} {od__law_told an__law_told : Option Addr} {sl__law_told : Array (Option Value)} {oc__law_told kV__law_told dc__law_told pm__law_told cd__law_told ct__law_told : Value} (a__law_told : PySem.W.nsIn K mainGlobals "_law_told" = some (some (.ref f__law_told))) (l__law_told : K.lookup f__law_told = some ⟨oc__law_told, od__law_told, .func (PySem.W.fnOf "_law_told" "_law_told" (defArgs s__law_told) (defBody s__law_told) (defScope s__law_told) .none kV__law_told dc__law_told pm__law_told an__law_told cd__law_told ct__law_told), sl__law_told⟩) (c__law_told : PySem.W.codeIn K cd__law_told "_law_told" = true) (k__law_told : PySem.W.keepIn K (.ref f__law_told) = true)
    {f__law_number : Addr} {od__law_number an__law_number : Option Addr} {sl__law_number : Array (Option Value)} {oc__law_number kV__law_number dc__law_number pm__law_number cd__law_number ct__law_number : Value} (a__law_number : PySem.W.nsIn K mainGlobals "_law_number" = some (some (.ref f__law_number))) (l__law_number : K.lookup f__law_number = some ⟨oc__law_number, od__law_number, .func (PySem.W.fnOf "_law_number" "_law_number" (defArgs s__law_number) (defBody s__law_number) (defScope s__law_number) .none kV__law_number dc__law_number pm__law_number an__law_number cd__law_number ct__law_number), sl__law_number⟩) (c__law_number : PySem.W.codeIn K cd__law_number "_law_number" = true) (k__law_number : PySem.W.keepIn K (.ref f__law_number) = true)
    {f_law : Addr} {od_law an_law : Option Addr} {sl_law : Array (Option Value)} {oc_law kV_law dc_law pm_law cd_law ct_law : Value} (a_law : PySem.W.nsIn K mainGlobals "law" = some (some (.ref f_law))) (l_law : K.lookup f_law = some ⟨oc_law, od_law, .func (PySem.W.fnOf "law" "law" (defArgs s_law) (defBody s_law) (defScope s_law) .none kV_law dc_law pm_law an_law cd_law ct_law), sl_law⟩) (c_law : PySem.W.codeIn K cd_law "law" = true) (k_law : PySem.W.keepIn K (.ref f_law) = true)
    {t_MOST_OCTETS_OF_NUMBER : Tok} (g_MOST_OCTETS_OF_NUMBER : PySem.W.nsIn K mainGlobals "MOST_OCTETS_OF_NUMBER" = some (some (.int 10 t_MOST_OCTETS_OF_NUMBER)))
    (z_len : PySem.W.nsIn K mainGlobals "len" = some none)
    (z_int : PySem.W.nsIn K mainGlobals "int" = some none)
    (z_range : PySem.W.nsIn K mainGlobals "range" = some none)
    (z_isinstance : PySem.W.nsIn K mainGlobals "isinstance" = some none)
    (z_bool : PySem.W.nsIn K mainGlobals "bool" = some none)
    (z_list : PySem.W.nsIn K mainGlobals "list" = some none)
    (z_max : PySem.W.nsIn K mainGlobals "max" = some none)
    (z_min : PySem.W.nsIn K mainGlobals "min" = some none)
    {C_FormkeeperError : Addr} (a_FormkeeperError : PySem.W.nsIn K mainGlobals "FormkeeperError" = some (some (.ref C_FormkeeperError)))
    (ex_FormkeeperError : PySem.W.subIn K (.ref C_FormkeeperError) (.type "BaseException") = some true)
    (ty_FormkeeperError : PySem.W.typeIn K (.ref C_FormkeeperError) = some (.type "type"))
    (ic_FormkeeperError : PySem.W.isClsIn K C_FormkeeperError = true)
    {C_Truncated : Addr} {nm_Truncated q_Truncated : Str} {N_Truncated : Addr} {bs_Truncated bm_Truncated : List Value} {sn_Truncated : List Str} {su_Truncated : List Value} {ab_Truncated : Bool} {co_Truncated : Option Bool} {dd_Truncated : Option Addr} {k0_Truncated k1_Truncated k3_Truncated k5_Truncated : Option Value} {t_Truncated : Tok}
    (a_Truncated : PySem.W.nsIn K mainGlobals "Truncated" = some (some (.ref C_Truncated)))
    (x_Truncated : K.lookup C_Truncated = some (excClassObj nm_Truncated q_Truncated C_Truncated N_Truncated bs_Truncated bm_Truncated true sn_Truncated su_Truncated ab_Truncated co_Truncated dd_Truncated k0_Truncated k1_Truncated (some (.str "Truncated" t_Truncated)) k3_Truncated k5_Truncated "ValueError.__new__"))
    (r_Truncated : PySem.HandSPX.refsVE bm_Truncated = true)
    (sa_Truncated : PySem.W.findIn K (.ref C_Truncated) "__setattr__" = some (some (.builtin "object.__setattr__")))
    (ex_Truncated : PySem.W.subIn K (.ref C_Truncated) (.type "BaseException") = some true)
    (ty_Truncated : PySem.W.typeIn K (.ref C_Truncated) = some (.type "type"))
    (kp_Truncated : PySem.W.keepIn K (.ref C_Truncated) = true)
    (ga_Truncated : PySem.W.findIn K (.ref C_Truncated) "__getattribute__" = some (some (.builtin "BaseException.__getattribute__")))
    (gg_Truncated : PySem.W.findIn K (.ref C_Truncated) "__getattr__" = some none)
    (hd_Truncated : PySem.W.hasDictIn K C_Truncated = true)
    (ha_Truncated : PySem.W.findIn K (.ref C_Truncated) "__class__" = some (some (.builtin "object.__class__")))
    (hm_Truncated : PySem.W.mroIn K C_Truncated (.type "object") = some true)
    (rd_Truncated : PySem.W.readsIn K C_Truncated (.type "type") = true)
    (fd_Truncated : PySem.W.findCls K (.ref C_Truncated) (.type "type") "__name__" = some (.get (.builtin "getset_descriptor.__get__") (.builtin "type.__name__") (.ref C_Truncated) (.type "type")))
    (ic_Truncated : PySem.W.isClsIn K C_Truncated = true)
    (np_Truncated : PySem.W.findIn K (.ref C_Truncated) "place" = some none)
    (nn_Truncated : PySem.W.findIn K (.ref C_Truncated) "name" = some none)
    {C_InvalidData : Addr} {nm_InvalidData q_InvalidData : Str} {N_InvalidData : Addr} {bs_InvalidData bm_InvalidData : List Value} {sn_InvalidData : List Str} {su_InvalidData : List Value} {ab_InvalidData : Bool} {co_InvalidData : Option Bool} {dd_InvalidData : Option Addr} {k0_InvalidData k1_InvalidData k3_InvalidData k5_InvalidData : Option Value} {t_InvalidData : Tok}
    (a_InvalidData : PySem.W.nsIn K mainGlobals "InvalidData" = some (some (.ref C_InvalidData)))
    (x_InvalidData : K.lookup C_InvalidData = some (excClassObj nm_InvalidData q_InvalidData C_InvalidData N_InvalidData bs_InvalidData bm_InvalidData true sn_InvalidData su_InvalidData ab_InvalidData co_InvalidData dd_InvalidData k0_InvalidData k1_InvalidData (some (.str "InvalidData" t_InvalidData)) k3_InvalidData k5_InvalidData "ValueError.__new__"))
    (r_InvalidData : PySem.HandSPX.refsVE bm_InvalidData = true)
    (sa_InvalidData : PySem.W.findIn K (.ref C_InvalidData) "__setattr__" = some (some (.builtin "object.__setattr__")))
    (ex_InvalidData : PySem.W.subIn K (.ref C_InvalidData) (.type "BaseException") = some true)
    (ty_InvalidData : PySem.W.typeIn K (.ref C_InvalidData) = some (.type "type"))
    (kp_InvalidData : PySem.W.keepIn K (.ref C_InvalidData) = true)
    (ga_InvalidData : PySem.W.findIn K (.ref C_InvalidData) "__getattribute__" = some (some (.builtin "BaseException.__getattribute__")))
    (gg_InvalidData : PySem.W.findIn K (.ref C_InvalidData) "__getattr__" = some none)
    (hd_InvalidData : PySem.W.hasDictIn K C_InvalidData = true)
    (ha_InvalidData : PySem.W.findIn K (.ref C_InvalidData) "__class__" = some (some (.builtin "object.__class__")))
    (hm_InvalidData : PySem.W.mroIn K C_InvalidData (.type "object") = some true)
    (rd_InvalidData : PySem.W.readsIn K C_InvalidData (.type "type") = true)
    (fd_InvalidData : PySem.W.findCls K (.ref C_InvalidData) (.type "type") "__name__" = some (.get (.builtin "getset_descriptor.__get__") (.builtin "type.__name__") (.ref C_InvalidData) (.type "type")))
    (ic_InvalidData : PySem.W.isClsIn K C_InvalidData = true)
    (np_InvalidData : PySem.W.findIn K (.ref C_InvalidData) "place" = some none)
    (nn_InvalidData : PySem.W.findIn K (.ref C_InvalidData) "name" = some none)
    {C_InvalidText : Addr} {nm_InvalidText q_InvalidText : Str} {N_InvalidText : Addr} {bs_InvalidText bm_InvalidText : List Value} {sn_InvalidText : List Str} {su_InvalidText : List Value} {ab_InvalidText : Bool} {co_InvalidText : Option Bool} {dd_InvalidText : Option Addr} {k0_InvalidText k1_InvalidText k3_InvalidText k5_InvalidText : Option Value} {t_InvalidText : Tok}
    (a_InvalidText : PySem.W.nsIn K mainGlobals "InvalidText" = some (some (.ref C_InvalidText)))
    (x_InvalidText : K.lookup C_InvalidText = some (excClassObj nm_InvalidText q_InvalidText C_InvalidText N_InvalidText bs_InvalidText bm_InvalidText true sn_InvalidText su_InvalidText ab_InvalidText co_InvalidText dd_InvalidText k0_InvalidText k1_InvalidText (some (.str "InvalidText" t_InvalidText)) k3_InvalidText k5_InvalidText "ValueError.__new__"))
    (r_InvalidText : PySem.HandSPX.refsVE bm_InvalidText = true)
    (sa_InvalidText : PySem.W.findIn K (.ref C_InvalidText) "__setattr__" = some (some (.builtin "object.__setattr__")))
    (ex_InvalidText : PySem.W.subIn K (.ref C_InvalidText) (.type "BaseException") = some true)
    (ty_InvalidText : PySem.W.typeIn K (.ref C_InvalidText) = some (.type "type"))
    (kp_InvalidText : PySem.W.keepIn K (.ref C_InvalidText) = true)
    (ga_InvalidText : PySem.W.findIn K (.ref C_InvalidText) "__getattribute__" = some (some (.builtin "BaseException.__getattribute__")))
    (gg_InvalidText : PySem.W.findIn K (.ref C_InvalidText) "__getattr__" = some none)
    (hd_InvalidText : PySem.W.hasDictIn K C_InvalidText = true)
    (ha_InvalidText : PySem.W.findIn K (.ref C_InvalidText) "__class__" = some (some (.builtin "object.__class__")))
    (hm_InvalidText : PySem.W.mroIn K C_InvalidText (.type "object") = some true)
    (rd_InvalidText : PySem.W.readsIn K C_InvalidText (.type "type") = true)
    (fd_InvalidText : PySem.W.findCls K (.ref C_InvalidText) (.type "type") "__name__" = some (.get (.builtin "getset_descriptor.__get__") (.builtin "type.__name__") (.ref C_InvalidText) (.type "type")))
    (ic_InvalidText : PySem.W.isClsIn K C_InvalidText = true)
    (np_InvalidText : PySem.W.findIn K (.ref C_InvalidText) "place" = some none)
    (nn_InvalidText : PySem.W.findIn K (.ref C_InvalidText) "name" = some none)
    {f_I : Addr} {od_I an_I : Option Addr} {sl_I : Array (Option Value)} {oc_I kV_I dc_I pm_I cd_I ct_I : Value}
    (iC_Truncated : PySem.W.findIn K (.ref C_Truncated) "__init__" = some (some (.ref f_I)))
    (iC_InvalidData : PySem.W.findIn K (.ref C_InvalidData) "__init__" = some (some (.ref f_I)))
    (iC_InvalidText : PySem.W.findIn K (.ref C_InvalidText) "__init__" = some (some (.ref f_I)))
    (hn_ : PySem.W.specialIn K (.builtin "object.__class__") "__get__" = some (some (.builtin "getset_descriptor.__get__")))
    (ht_ : PySem.W.takesIn K (.builtin "object.__class__") = some true)
    (tI_ : PySem.W.typeIn K (.ref f_I) = some (.type "function"))
    (l_I : K.lookup f_I = some ⟨oc_I, od_I, .func (PySem.W.fnOf "__init__" "FormkeeperError.__init__" (defArgs s_FormkeeperError___init__) (defBody s_FormkeeperError___init__) (defScope s_FormkeeperError___init__) .none kV_I dc_I pm_I an_I cd_I ct_I), sl_I⟩)
    (c_I : PySem.W.codeIn K cd_I "FormkeeperError.__init__" = true)
    (k_I : PySem.W.keepIn K (.ref f_I) = true)
    (sb_Truncated_FormkeeperError : PySem.W.subIn K (.ref C_Truncated) (.ref C_FormkeeperError) = some true)
    (sb_InvalidData_FormkeeperError : PySem.W.subIn K (.ref C_InvalidData) (.ref C_FormkeeperError) = some true)
    (ne_Truncated_InvalidData : (Value.ref C_Truncated == Value.ref C_InvalidData) = false)
    (sb_Truncated_InvalidData : PySem.W.subIn K (.ref C_Truncated) (.ref C_InvalidData) = some false)
    (ne_InvalidData_Truncated : (Value.ref C_InvalidData == Value.ref C_Truncated) = false)
    (sb_InvalidData_Truncated : PySem.W.subIn K (.ref C_InvalidData) (.ref C_Truncated) = some false)
    (ne_Truncated_InvalidText : (Value.ref C_Truncated == Value.ref C_InvalidText) = false)
    (sb_Truncated_InvalidText : PySem.W.subIn K (.ref C_Truncated) (.ref C_InvalidText) = some false)
    (ne_InvalidData_InvalidText : (Value.ref C_InvalidData == Value.ref C_InvalidText) = false)
    (sb_InvalidData_InvalidText : PySem.W.subIn K (.ref C_InvalidData) (.ref C_InvalidText) = some false) :
    ∃ fd : FuncData, (∀ (s : Shared) (v : Value), BindsTo s fd ⟨[v], []⟩ [("script", v)]) ∧ ∀ base : Heap, K.In base → base.Ns mainGlobals mg → FnOk l.prog w K mg base CX0 5 fa fd ["script"] (spLaw K) := by
  have e := hfa.symm.trans (PySem.W.mg_of X G a_law)
  cases e
  have T : Tx mg := ⟨⟨_, PySem.W.mg_of X G g_MOST_OCTETS_OF_NUMBER, ⟨t_MOST_OCTETS_OF_NUMBER, rfl⟩⟩, PySem.W.mg_none_of X G z_len, PySem.W.mg_none_of X G z_int, PySem.W.mg_none_of X G z_range, PySem.W.mg_none_of X G z_isinstance, PySem.W.mg_none_of X G z_bool, PySem.W.mg_none_of X G z_list, PySem.W.mg_none_of X G z_max, PySem.W.mg_none_of X G z_min⟩
  have D_write_number : Def K mg "write_number" s_write_number ["n"] := def_mk X G a_write_number l_write_number c_write_number k_write_number (fun _ _ _ _ _ _ us hl => match us, hl with | [_], _ => rfl)
  have D_read_number : Def K mg "read_number" s_read_number ["octets", "at"] := def_mk X G a_read_number l_read_number c_read_number k_read_number (fun _ _ _ _ _ _ us hl => match us, hl with | [_, _], _ => rfl)
  have D__law_draw : Def K mg "_law_draw" s__law_draw ["cell", "many", "bound"] := def_mk X G a__law_draw l__law_draw c__law_draw k__law_draw (fun _ _ _ _ _ _ us hl => match us, hl with | [_, _, _], _ => rfl)
  have D__law_is_integer : Def K mg "_law_is_integer" s__law_is_integer ["actual"] := def_mk X G a__law_is_integer l__law_is_integer c__law_is_integer k__law_is_integer (fun _ _ _ _ _ _ us hl => match us, hl with | [_], _ => rfl)
  have D__law_same : Def K mg "_law_same" s__law_same ["actual", "expected"] := def_mk X G a__law_same l__law_same c__law_same k__law_same (fun _ _ _ _ _ _ us hl => match us, hl with | [_, _], _ => rfl)
  have D__law_octets_of : Def K mg "_law_octets_of" s__law_octets_of ["n"] := def_mk X G a__law_octets_of l__law_octets_of c__law_octets_of k__law_octets_of (fun _ _ _ _ _ _ us hl => match us, hl with | [_], _ => rfl)
  have D__law_due : Def K mg "_law_due" s__law_due ["octets", "at"] := def_mk X G a__law_due l__law_due c__law_due k__law_due (fun _ _ _ _ _ _ us hl => match us, hl with | [_, _], _ => rfl)
  have D__law_told : Def K mg "_law_told" s__law_told ["octets", "at"] := def_mk X G a__law_told l__law_told c__law_told k__law_told (fun _ _ _ _ _ _ us hl => match us, hl with | [_, _], _ => rfl)
  have D__law_number : Def K mg "_law_number" s__law_number ["numbers"] := def_mk X G a__law_number l__law_number c__law_number k__law_number (fun _ _ _ _ _ _ us hl => match us, hl with | [_], _ => rfl)
  refine ⟨PySem.W.fnOf "law" "law" (defArgs s_law) (defBody s_law) (defScope s_law) .none kV_law dc_law pm_law an_law cd_law ct_law, fun s v => .of_eq rfl, fun base _ _ => ?_⟩
  have FI := fun_mk l_I c_I k_I
  have OI := ok_init (P := l.prog) (w := w) (mg := mg) (base := base) FI
  have bI : Binds K _ ["self", "place"] [] := FI.binds (ps := ["self", "place"]) (fun _ _ _ _ _ _ us hl => match us, hl with | [_, _], _ => rfl)
  have Z_Truncated : ErrC l.prog w K mg base "Truncated" C_Truncated := ⟨PySem.W.mg_of X G a_Truncated, ⟨⟨⟨_, _, _, _, _, _, _, _, _, _, _, _, _, _, _, x_Truncated, r_Truncated⟩, sa_Truncated, ex_Truncated, ty_Truncated, kp_Truncated⟩, ⟨ga_Truncated, gg_Truncated, ex_Truncated, hd_Truncated, ha_Truncated, hn_, ht_, hm_Truncated⟩, ⟨rd_Truncated, fd_Truncated, ⟨_, t_Truncated, x_Truncated, rfl, rfl⟩⟩, np_Truncated, nn_Truncated⟩, ⟨f_I, _, iC_Truncated, tI_, OI, bI⟩⟩
  have Z_InvalidData : ErrC l.prog w K mg base "InvalidData" C_InvalidData := ⟨PySem.W.mg_of X G a_InvalidData, ⟨⟨⟨_, _, _, _, _, _, _, _, _, _, _, _, _, _, _, x_InvalidData, r_InvalidData⟩, sa_InvalidData, ex_InvalidData, ty_InvalidData, kp_InvalidData⟩, ⟨ga_InvalidData, gg_InvalidData, ex_InvalidData, hd_InvalidData, ha_InvalidData, hn_, ht_, hm_InvalidData⟩, ⟨rd_InvalidData, fd_InvalidData, ⟨_, t_InvalidData, x_InvalidData, rfl, rfl⟩⟩, np_InvalidData, nn_InvalidData⟩, ⟨f_I, _, iC_InvalidData, tI_, OI, bI⟩⟩
  have Z_InvalidText : ErrC l.prog w K mg base "InvalidText" C_InvalidText := ⟨PySem.W.mg_of X G a_InvalidText, ⟨⟨⟨_, _, _, _, _, _, _, _, _, _, _, _, _, _, _, x_InvalidText, r_InvalidText⟩, sa_InvalidText, ex_InvalidText, ty_InvalidText, kp_InvalidText⟩, ⟨ga_InvalidText, gg_InvalidText, ex_InvalidText, hd_InvalidText, ha_InvalidText, hn_, ht_, hm_InvalidText⟩, ⟨rd_InvalidText, fd_InvalidText, ⟨_, t_InvalidText, x_InvalidText, rfl, rfl⟩⟩, np_InvalidText, nn_InvalidText⟩, ⟨f_I, _, iC_InvalidText, tI_, OI, bI⟩⟩
  have exm_Truncated_FormkeeperError : PySem.W.exmOne K (.ref C_Truncated) (.ref C_FormkeeperError) = some true := exm_of ex_FormkeeperError ic_FormkeeperError ty_FormkeeperError sb_Truncated_FormkeeperError
  have exm_InvalidData_FormkeeperError : PySem.W.exmOne K (.ref C_InvalidData) (.ref C_FormkeeperError) = some true := exm_of ex_FormkeeperError ic_FormkeeperError ty_FormkeeperError sb_InvalidData_FormkeeperError
  have kit_Truncated_InvalidData : PySem.W.kitOne K (.ref C_Truncated) (.ref C_InvalidData) = some false := kit_of ne_Truncated_InvalidData ic_InvalidData ty_InvalidData sb_Truncated_InvalidData
  have kit_InvalidData_Truncated : PySem.W.kitOne K (.ref C_InvalidData) (.ref C_Truncated) = some false := kit_of ne_InvalidData_Truncated ic_Truncated ty_Truncated sb_InvalidData_Truncated
  have kit_Truncated_InvalidText : PySem.W.kitOne K (.ref C_Truncated) (.ref C_InvalidText) = some false := kit_of ne_Truncated_InvalidText ic_InvalidText ty_InvalidText sb_Truncated_InvalidText
  have kit_InvalidData_InvalidText : PySem.W.kitOne K (.ref C_InvalidData) (.ref C_InvalidText) = some false := kit_of ne_InvalidData_InvalidText ic_InvalidText ty_InvalidText sb_InvalidData_InvalidText
  have kf : KF K C_FormkeeperError C_Truncated C_InvalidData C_InvalidText := ⟨exm_Truncated_FormkeeperError, exm_InvalidData_FormkeeperError, kit_Truncated_InvalidData, kit_InvalidData_Truncated, kit_Truncated_InvalidText, kit_InvalidData_InvalidText⟩
  have c1 := ok_read D_read_number T Z_Truncated Z_InvalidData
  have c2 := ok_isint (P := l.prog) (w := w) (base := base) D__law_is_integer T
  have c3 := ok_told D__law_told T (PySem.W.mg_of X G a_FormkeeperError) Z_Truncated Z_InvalidData Z_InvalidText kf c1
  exact ok_law (fun_mk l_law c_law k_law) T (ok_write D_write_number T) c1 (ok_draw D__law_draw T) c2 (ok_same D__law_same T c2) (ok_octets_of D__law_octets_of T) (ok_due D__law_due T) c3 (ok_number D__law_number T)
end K09
open PySem PySem.W PyProof.Rows
set_option maxHeartbeats 0 in
theorem PySem.Challenge.cw_formkeeper_k09_numbers_as_octets_holds : PySem.Challenge.rw_formkeeper_k09_numbers_as_octets.Holds := by
  w_on; o_law; k_head; (case hw => w_witness2)
  k_fill
  refine L2.walk_of (l := PySem.Challenge.rw_formkeeper_k09_numbers_as_octets) (n := 63) (k := 5) (x := "script") (CX := fun _ => L2.CX0) (sp := fun w => K09.spLaw _) rfl (by decide) rfl ⟨rfl, by decide, by decide⟩ (fun w h Y => PySem.W.kIn_of Y) ?F (fun _ _ a ns hl _ hS => ⟨_, ⟨a, ns, rfl, hS, hl, rfl⟩, fun _ _ => rfl⟩) (fun _ _ _ _ _ h => h)
  case F =>
    intro w mg fa h KX G hmg
    refine' K09.all_mk KX G hmg ?a_write_number ?l_write_number ?c_write_number ?k_write_number ?a_read_number ?l_read_number ?c_read_number ?k_read_number ?a__law_draw ?l__law_draw ?c__law_draw ?k__law_draw ?a__law_is_integer ?l__law_is_integer ?c__law_is_integer ?k__law_is_integer ?a__law_same ?l__law_same ?c__law_same ?k__law_same ?a__law_octets_of ?l__law_octets_of ?c__law_octets_of ?k__law_octets_of ?a__law_due ?l__law_due ?c__law_due ?k__law_due ?a__law_told ?l__law_told ?c__law_told ?k__law_told ?a__law_number ?l__law_number ?c__law_number ?k__law_number ?a_law ?l_law ?c_law ?k_law ?g_MOST_OCTETS_OF_NUMBER ?z_len ?z_int ?z_range ?z_isinstance ?z_bool ?z_list ?z_max ?z_min ?a_FormkeeperError ?ex_FormkeeperError ?ty_FormkeeperError ?ic_FormkeeperError ?a_Truncated ?x_Truncated ?r_Truncated ?sa_Truncated ?ex_Truncated ?ty_Truncated ?kp_Truncated ?ga_Truncated ?gg_Truncated ?hd_Truncated ?ha_Truncated ?hm_Truncated ?rd_Truncated ?fd_Truncated ?ic_Truncated ?np_Truncated ?nn_Truncated ?a_InvalidData ?x_InvalidData ?r_InvalidData ?sa_InvalidData ?ex_InvalidData ?ty_InvalidData ?kp_InvalidData ?ga_InvalidData ?gg_InvalidData ?hd_InvalidData ?ha_InvalidData ?hm_InvalidData ?rd_InvalidData ?fd_InvalidData ?ic_InvalidData ?np_InvalidData ?nn_InvalidData ?a_InvalidText ?x_InvalidText ?r_InvalidText ?sa_InvalidText ?ex_InvalidText ?ty_InvalidText ?kp_InvalidText ?ga_InvalidText ?gg_InvalidText ?hd_InvalidText ?ha_InvalidText ?hm_InvalidText ?rd_InvalidText ?fd_InvalidText ?ic_InvalidText ?np_InvalidText ?nn_InvalidText ?iC_Truncated ?iC_InvalidData ?iC_InvalidText ?hn_ ?ht_ ?tI_ ?l_I ?c_I ?k_I ?sb_Truncated_FormkeeperError ?sb_InvalidData_FormkeeperError ?ne_Truncated_InvalidData ?sb_Truncated_InvalidData ?ne_InvalidData_Truncated ?sb_InvalidData_Truncated ?ne_Truncated_InvalidText ?sb_Truncated_InvalidText ?ne_InvalidData_InvalidText ?sb_InvalidData_InvalidText
    (case a_write_number => k_is); (case l_write_number => k_is); (case c_write_number => k_is); (case k_write_number => k_is); (case a_read_number => k_is); (case l_read_number => k_is); (case c_read_number => k_is); (case k_read_number => k_is); (case a__law_draw => k_is); (case l__law_draw => k_is); (case c__law_draw => k_is); (case k__law_draw => k_is); (case a__law_is_integer => k_is); (case l__law_is_integer => k_is); (case c__law_is_integer => k_is); (case k__law_is_integer => k_is); (case a__law_same => k_is); (case l__law_same => k_is); (case c__law_same => k_is); (case k__law_same => k_is); (case a__law_octets_of => k_is); (case l__law_octets_of => k_is); (case c__law_octets_of => k_is); (case k__law_octets_of => k_is); (case a__law_due => k_is); (case l__law_due => k_is); (case c__law_due => k_is); (case k__law_due => k_is); (case a__law_told => k_is); (case l__law_told => k_is); (case c__law_told => k_is); (case k__law_told => k_is); (case a__law_number => k_is); (case l__law_number => k_is); (case c__law_number => k_is); (case k__law_number => k_is); (case a_law => k_is); (case l_law => k_is); (case c_law => k_is); (case k_law => k_is); (case g_MOST_OCTETS_OF_NUMBER => k_is); (case z_len => k_is); (case z_int => k_is); (case z_range => k_is); (case z_isinstance => k_is); (case z_bool => k_is); (case z_list => k_is); (case z_max => k_is); (case z_min => k_is); (case a_FormkeeperError => k_is); (case ex_FormkeeperError => k_is); (case ty_FormkeeperError => k_is); (case ic_FormkeeperError => k_is); (case a_Truncated => k_is); (case x_Truncated => k_is); (case r_Truncated => first | k_is | rfl | decide +kernel); (case sa_Truncated => k_is); (case ex_Truncated => k_is); (case ty_Truncated => k_is); (case kp_Truncated => k_is); (case ga_Truncated => k_is); (case gg_Truncated => k_is); (case hd_Truncated => k_is); (case ha_Truncated => k_is); (case hm_Truncated => k_is); (case rd_Truncated => k_is); (case fd_Truncated => k_is); (case ic_Truncated => k_is); (case np_Truncated => k_is); (case nn_Truncated => k_is); (case a_InvalidData => k_is); (case x_InvalidData => k_is); (case r_InvalidData => first | k_is | rfl | decide +kernel); (case sa_InvalidData => k_is); (case ex_InvalidData => k_is); (case ty_InvalidData => k_is); (case kp_InvalidData => k_is); (case ga_InvalidData => k_is); (case gg_InvalidData => k_is); (case hd_InvalidData => k_is); (case ha_InvalidData => k_is); (case hm_InvalidData => k_is); (case rd_InvalidData => k_is); (case fd_InvalidData => k_is); (case ic_InvalidData => k_is); (case np_InvalidData => k_is); (case nn_InvalidData => k_is); (case a_InvalidText => k_is); (case x_InvalidText => k_is); (case r_InvalidText => first | k_is | rfl | decide +kernel); (case sa_InvalidText => k_is); (case ex_InvalidText => k_is); (case ty_InvalidText => k_is); (case kp_InvalidText => k_is); (case ga_InvalidText => k_is); (case gg_InvalidText => k_is); (case hd_InvalidText => k_is); (case ha_InvalidText => k_is); (case hm_InvalidText => k_is); (case rd_InvalidText => k_is); (case fd_InvalidText => k_is); (case ic_InvalidText => k_is); (case np_InvalidText => k_is); (case nn_InvalidText => k_is); (case iC_Truncated => k_is); (case iC_InvalidData => k_is); (case iC_InvalidText => k_is); (case hn_ => k_is); (case ht_ => k_is); (case tI_ => k_is); (case l_I => k_is); (case c_I => k_is); (case k_I => k_is); (case sb_Truncated_FormkeeperError => k_is); (case sb_InvalidData_FormkeeperError => k_is); (case ne_Truncated_InvalidData => first | k_is | rfl | decide +kernel); (case sb_Truncated_InvalidData => k_is); (case ne_InvalidData_Truncated => first | k_is | rfl | decide +kernel); (case sb_InvalidData_Truncated => k_is); (case ne_Truncated_InvalidText => first | k_is | rfl | decide +kernel); (case sb_Truncated_InvalidText => k_is); (case ne_InvalidData_InvalidText => first | k_is | rfl | decide +kernel); (case sb_InvalidData_InvalidText => k_is)
