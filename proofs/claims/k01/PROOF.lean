import PyProof.Rows.All
import Wide.All
import OpenK.AllK
import Wide.FinOn
import HandS.ForMost
import HandS.Style
import HandS.Wide
import HandS.IsInst
import HandS.Steps
import HandS.Codes
import HandS.Evl
import HandS.Walk
import HandS.ForExc
import HandS.ExcInit
import HandS.ExcInitHot
import HandS.ExcField
import HandS.ExcIs
import HandS.RaiseFrom
import HandS.TryMany
import HandS.SuiteRaise
import KE.KTypeName
import HandS.ListItems
import KE.KDictList
import HandS.Deep
import PySem.Challenge.RW_formkeeper_k01_texts_as_octets
set_option Elab.async false
set_option linter.all false
set_option maxRecDepth 100000
/-! common words of these proofs (own text) -/
namespace FK
open PySem PySem.Spec PyProof.Rows L2 Evl

/-! ### heaps -/
theorem same_upd {H : Hp} {p : Addr} {o : HO} (h : H p = none) : Same H (upd H p o) := fun b x e => by
  rw [upd_ne (ne_of_none e h)]
  exact e
/-- an object of the callee's own may change -/
theorem same_mut {H H' : Hp} {p : Addr} {o : HO} (e : Same H H') (h : H p = none) : Same H (upd H' p o) := fun a u ha => by
  rw [upd_ne (ne_of_none ha h)]
  exact e a u ha
theorem sqt_same {K : PySem.W.Frag} {H H' : Hp} {a : Addr} {xs : List V} (e : Same H H') (h : SqT K H a xs) : SqT K H' a xs := by
  rcases h with (h | ⟨o, h⟩) | h
  · exact .inl (.inl (e _ _ h))
  · exact .inl (.inr ⟨o, e _ _ h⟩)
  · exact .inr h
theorem hu64 {A : Around} {k : Nat} (hr : Room k A) : A.units + 64 < cLine := hr.units

/-! ### a def that may be called by its name -/
structure Cal (CX : CXT) (P : Program) (w : World) (K : PySem.W.Frag) (mg : Str → Option Value) (base : Heap) (k : Nat) (x : Str) (sp : Sp) : Prop where
  ex : ∃ (f : Addr) (fd : FuncData) (ps : List Str), FnOk P w K mg base CX k f fd ps sp ∧ mg x = some (.ref f) ∧ PySem.W.keepIn K (.ref f) = true ∧ Binds K fd ps []
structure Def (K : PySem.W.Frag) (mg : Str → Option Value) (x : Str) (st : Stmt) (ps : List Str) : Prop where
  ex : ∃ (f : Addr) (fd : FuncData), Fun K x x st f fd ∧ mg x = some (.ref f) ∧ Binds K fd ps []
section
variable {P : Program} {w : World} {K : PySem.W.Frag} {mg : Str → Option Value} {base : Heap}
theorem cal0 {x : Str} {st : Stmt} {N ps : List Str} {k : Nat} {sp : Sp} (D : Def K mg x st ps) (S : FnScope N ps (defScope st)) (len : ∀ vs H Q E, sp vs H Q E → vs.length = ps.length)
    (hbody : ∀ (f : Addr) (cdv : Value) (A : Around) (outer : List Env) (s : Shared) (H : Hp) (vs : List V) (Q : VK) (E : XK), Room k (A.deeper (envOfC x (defScope st) s.heap.objs.size f cdv)) → sp vs H Q E →
      ∃ t, PSs (cxOf CX0 P w K mg base N x (defScope st) f cdv A outer s H E).nox (defBody st) t ∧ t { nx := fun _ H' => Q .non H', rt := Q } (start N vs) H) : Cal CX0 P w K mg base (k + 1) x sp := by
  obtain ⟨f, fd, F, m, b⟩ := D.ex
  exact ⟨f, fd, ps, F.ok S len (hbody f), m, F.kp, b⟩
end
section
variable {X : Cx} {k j : Nat} {x : Str} {sp : Sp} {p pos : Pos} {e : Expr} {es : List Expr} {t : TA}
theorem pe_c (c : Cal CX0 X.prog X.w X.K X.mg X.base k x sp) (hr : Room j X.A) (hk : k ≤ j) (hg : Gl X x) (ha : PA X (e :: es) t)
    (hdb : (x == ("__debug__" : Str)) = false := by decide) (he : starEach (e :: es) X.env = (false, eval e X.env) :: starEach es X.env := by rfl) (hpl : (backTo pos (starEach es X.env)).any (·.1) = false := by rfl) :
    PE X (.Call (.Name x p) (e :: es) [] pos) (tCall sp [] E0 t) := by
  obtain ⟨f, fd, ps, F, hm, kp, b⟩ := c.ex
  exact pe_call F (hr.mono hk) hg hm kp b .nil pass0 ha hdb he hpl
theorem pe_gc {v : V} (hg : Gl X x) (h : ∃ u, X.mg x = some u ∧ RelV v u) (hd : (x == ("__debug__" : Str)) = false := by decide) : PE X (.Name x pos) (tC v) := by
  obtain ⟨u, hm, r⟩ := h
  exact pe_glob hg hm r hd
end
/-- the def of the module at its place -/
theorem def_mk {K : PySem.W.Frag} {mg : Str → Option Value} {h : Heap} {x : Str} {st : Stmt} {f : Addr} {oc : Value} {od an : Option Addr} {osl : Array (Option Value)} {kV doc pm cdv ct : Value} {ps : List Str} (X : K.In h) (G : h.Ns mainGlobals mg)
    (a : PySem.W.nsIn K mainGlobals x = some (some (.ref f))) (l : K.lookup f = some ⟨oc, od, .func (PySem.W.fnOf x x (defArgs st) (defBody st) (defScope st) .none kV doc pm an cdv ct), osl⟩)
    (c : PySem.W.codeIn K cdv x = true) (k : PySem.W.keepIn K (.ref f) = true)
    (b : ∀ (kV doc pm : Value) (an : Option Addr) (cdv ct : Value) (us : List Value), us.length = ps.length → bindArgs (PySem.W.fnOf x x (defArgs st) (defBody st) (defScope st) .none kV doc pm an cdv ct) ⟨us, []⟩ = pure (ps.zip us)) : Def K mg x st ps :=
  ⟨f, _, fun_mk l c k, PySem.W.mg_of X G a, (fun_mk l c k).binds b⟩

/-! ### loops and items -/
/-- sign by sign -/
theorem for_str {x : List Nat} {g : TG} {tb : TS} {D : Ends} {σ : L2.St} {H : Hp} (Pv : Nat → L2.St → Hp → Prop) (h0 : Pv 0 σ H)
    (hs : ∀ i c σ H, x[i]? = some c → Pv i σ H → g (.str (SX.S [c])) σ H fun σ2 H2 => tb { D with nx := Pv (i + 1), ct := Pv (i + 1), bk := D.nx } σ2 H2) (hd : ∀ σ H, Pv x.length σ H → D.nx σ H) :
    ∃ W : Nat → Nat → L2.St → Hp → Prop, (∃ m, W 0 m σ H) ∧ ∀ i m σ H, W i m σ H →
      ((Its (SX.S x)).stop i H ∧ D.nx σ H) ∨ ((Its (SX.S x)).go i H ∧ ∃ N : L2.St → Hp → Prop, (∀ σ' H', N σ' H' → ∃ m', m' < m ∧ W (i + 1) m' σ' H') ∧ ∀ v H', (Its (SX.S x)).yld i H v H' → g v σ H' fun σ2 H2 => tb { D with nx := N, ct := N, bk := D.nx } σ2 H2) := by
  have hz : (SX.S x).cps.size = x.length := by simp [SX.S]
  refine ⟨fun i m σ H => m = x.length - i ∧ i ≤ x.length ∧ Pv i σ H, ⟨x.length, by simp, Nat.zero_le _, h0⟩, ?_⟩
  rintro i m σ H ⟨rfl, hi, p⟩
  by_cases hlt : i < x.length
  · refine .inr ⟨by show i < (SX.S x).cps.size; omega, Pv (i + 1), fun σ' H' p' => ⟨x.length - (i + 1), by omega, rfl, hlt, p'⟩, fun v H' y => ?_⟩
    obtain ⟨e, c, hc, hv⟩ := y
    subst e hv
    have hc' : x[i]? = some c := by simpa [SX.S] using hc
    exact hs i c σ _ hc' p
  · have e : i = x.length := by omega
    subst e
    exact .inl ⟨by show (SX.S x).cps.size ≤ _; omega, hd σ H p⟩
theorem atI_ints {ns : List Int} {i : Int} (h0 : 0 ≤ i) (h1 : i < ns.length) : atI (ns.map V.int) i = some (.int (ns.getD i.toNat 0)) := by
  obtain ⟨j, rfl⟩ := Int.eq_ofNat_of_zero_le h0
  have hj : j < ns.length := by omega
  refine atI_nat (j := j) ?_
  rw [List.getElem?_map, List.getElem?_eq_getElem hj]
  simp [List.getD, List.getElem?_eq_getElem hj]
theorem getD_mem {ns : List Int} {i : Nat} (h : i < ns.length) : ns.getD i 0 ∈ ns := by
  simp [List.getD, List.getElem?_eq_getElem h]
theorem getD_of {ns : List Int} {i : Nat} {Pp : Int → Prop} (h : ∀ n ∈ ns, Pp n) (hi : i < ns.length) : Pp (ns.getD i 0) := h _ (getD_mem hi)

theorem atI_any {xs : List V} {i : Int} {Pp : V → Prop} (h0 : 0 ≤ i) (h1 : i < xs.length) (h : ∀ x ∈ xs, Pp x) : ∃ v, atI xs i = some v ∧ Pp v := by
  obtain ⟨j, rfl⟩ := Int.eq_ofNat_of_zero_le h0
  have hj : j < xs.length := by omega
  exact ⟨xs[j], atI_nat (List.getElem?_eq_getElem hj), h _ (List.getElem_mem hj)⟩
theorem cutV_int {xs : List V} {i j : Int} (h0 : 0 ≤ i) (h1 : 0 ≤ j) : cutV xs (some i) (some j) = (xs.drop i.toNat).take (j.toNat - i.toNat) := by
  obtain ⟨i, rfl⟩ := Int.eq_ofNat_of_zero_le h0
  obtain ⟨j, rfl⟩ := Int.eq_ofNat_of_zero_le h1
  unfold cutV
  rw [HT.sIx_nat, HT.sIx_nat]
  show _ = (xs.drop i).take (j - i)
  by_cases hi : i ≤ xs.length
  · rw [Nat.min_eq_left hi]
    by_cases hj : j ≤ xs.length
    · rw [Nat.min_eq_left hj]
    · rw [Nat.min_eq_right (by omega), List.take_of_length_le (by rw [List.length_drop]; omega), List.take_of_length_le (by rw [List.length_drop]; omega)]
  · rw [Nat.min_eq_right (show xs.length ≤ i by omega), List.drop_of_length_le (Nat.le_refl _), List.drop_of_length_le (show xs.length ≤ i by omega), List.take_nil, List.take_nil]
theorem cutV_to {xs : List V} {j : Int} (h1 : 0 ≤ j) : cutV xs none (some j) = xs.take j.toNat := by
  have e := cutV_int (xs := xs) (i := 0) (Int.le_refl 0) h1
  rw [show cutV xs none (some j) = cutV xs (some 0) (some j) from by unfold cutV; rw [HT.sIx_none]; rw [show HT.sIx xs.length 0 (some (0 : Int)) = 0 from (HT.sIx_nat xs.length 0 0).trans (Nat.zero_min _)], e]
  rfl
/-! ### a block over every heap that has what the base has -/
def R (t : TS) (D : Ends) (σ : L2.St) (B : Hp) : Prop := ∀ H, Ex B H → t D σ H
/-- a new object -/
def EvN (te : TE) (σ : L2.St) (B : Hp) (o : HO) : Prop := ∀ H1, Ex B H1 → ∀ Q : VK, (∀ p H2, H1 p = none → Ex H1 H2 → H2 p = some o → Q (.ref p) H2) → te σ H1 Q
/-- a value of which this holds -/
def EvP (te : TE) (σ : L2.St) (B : Hp) (Pp : V → Hp → Prop) : Prop := ∀ H1, Ex B H1 → ∀ Q : VK, (∀ v H2, Ex H1 H2 → Pp v H2 → Q v H2) → te σ H1 Q
def EvAP (ta : TA) (σ : L2.St) (B : Hp) (Pp : List V → Hp → Prop) : Prop := ∀ H1, Ex B H1 → ∀ Q : List V → Hp → Prop, (∀ vs H2, Ex H1 H2 → Pp vs H2 → Q vs H2) → ta σ H1 Q
section
variable {K : PySem.W.Frag} {σ : L2.St} {B B' : Hp} {ta tb te tx tl : TE} {t u : TT} {x y z v : V} {D : Ends} {tu tw tz : TS} {g : TG} {o : HO} {Pp : V → Hp → Prop}
theorem R.go (h : R tz D σ B) : tz D σ B := h B (Ex.refl B)
theorem R.mono (h : R tz D σ B) (e : Ex B B') : R tz D σ B' := fun H a => h H (e.trans a)
theorem ex_up {H : Hp} {p : Addr} (e : Ex B H) (h : H p = some o) : Ex (upd B p o) H := fun a u ha => by
  by_cases c : a = p
  · subst c
    rw [upd_same] at ha
    cases ha
    exact h
  · rw [upd_ne c] at ha
    exact e a u ha
theorem ex_mut {H : Hp} {p : Addr} (e : Ex B H) : Ex (upd B p o) (upd H p o) := fun a u ha => by
  by_cases c : a = p
  · subst c
    rw [upd_same] at ha ⊢
    exact ha
  · rw [upd_ne c] at ha ⊢
    exact e a u ha
theorem r_asg {i : Nat} (h : Ev te σ B v) (k : R tz D (σ.set i (some v)) B) : R (tSeq (tAsg te (gName i)) tz) D σ B := fun H a => q_asg (h.mono a) fun H1 e => k H1 (a.trans e)
theorem r_asgN {i : Nat} (h : EvN te σ B o) (k : ∀ p, B p = none → R tz D (σ.set i (some (.ref p))) (upd B p o)) : R (tSeq (tAsg te (gName i)) tz) D σ B := fun H a =>
  h H a _ fun p H2 hp e hh => k p (fresh_back a hp) H2 (ex_up (a.trans e) hh)
/-- .. the base taken as it is then -/
theorem r_new {i : Nat} (h : EvN te σ B o) (k : ∀ p B', B p = none → Ex B B' → B' p = some o → R tz D (σ.set i (some (.ref p))) B') : R (tSeq (tAsg te (gName i)) tz) D σ B := r_asgN h fun p hp => k p _ hp (Ex.new hp) upd_same
theorem r_asgP {i : Nat} (h : EvP te σ B Pp) (k : ∀ v B', Ex B B' → Pp v B' → R tz D (σ.set i (some v)) B') : R (tSeq (tAsg te (gName i)) tz) D σ B := fun H a =>
  h H a _ fun v H2 e hh => k v H2 (a.trans e) hh H2 (Ex.refl H2)
theorem r_if {b : Bool} (h : EvT t σ B b) (h1 : b = true → R tu { D with nx := tz D } σ B) (h2 : b = false → R tw { D with nx := tz D } σ B) : R (tSeq (tIfS t tu tw) tz) D σ B := fun H a =>
  q_if (h.mono a) (fun hb H1 e => h1 hb H1 (a.trans e)) (fun hb H1 e => h2 hb H1 (a.trans e))
/-- an if without else -/
theorem r_when {b : Bool} (h : EvT t σ B b) (h1 : b = true → R tu { D with nx := tz D } σ B) (h2 : b = false → R tz D σ B) : R (tSeq (tIfS t tu tNext) tz) D σ B := r_if h h1 h2
/-- what follows is shown once, from Mid -/
theorem r_whenK (Mid : L2.St → Hp → Prop) {b : Bool} (h : EvT t σ B b) (k : ∀ σ' B', Mid σ' B' → R tz D σ' B') (h1 : (∀ σ' B', Mid σ' B' → R tz D σ' B') → b = true → R tu { D with nx := tz D } σ B) (h2 : (∀ σ' B', Mid σ' B' → R tz D σ' B') → b = false → R tz D σ B) :
    R (tSeq (tIfS t tu tNext) tz) D σ B := r_when h (h1 k) (h2 k)
theorem r_ifK (Mid : L2.St → Hp → Prop) {b : Bool} (h : EvT t σ B b) (k : ∀ σ' B', Mid σ' B' → R tz D σ' B') (h1 : (∀ σ' B', Mid σ' B' → R tz D σ' B') → b = true → R tu { D with nx := tz D } σ B) (h2 : (∀ σ' B', Mid σ' B' → R tz D σ' B') → b = false → R tw { D with nx := tz D } σ B) :
    R (tSeq (tIfS t tu tw) tz) D σ B := r_if h (h1 k) (h2 k)
theorem r_next (k : ∀ H, Ex B H → D.nx σ H) : R tNext D σ B := k
theorem r_on {D : Ends} (k : R tz D σ B) : R tNext { D with nx := tz D } σ B := k
theorem r_ret (h : Ev te σ B v) (k : ∀ H, Ex B H → D.rt v H) : R (tSeq (tRet te) tz) D σ B := fun H a => h H a _ fun H1 e => k H1 (a.trans e)
theorem r_retN (h : EvN te σ B o) (k : ∀ p, B p = none → ∀ H, Ex (upd B p o) H → D.rt (.ref p) H) : R (tSeq (tRet te) tz) D σ B := fun H a => h H a _ fun p H2 hp e hh => k p (fresh_back a hp) H2 (ex_up (a.trans e) hh)
theorem r_retP (h : EvP te σ B Pp) (k : ∀ v B', Ex B B' → Pp v B' → D.rt v B') : R (tSeq (tRet te) tz) D σ B := fun H a => h H a _ fun v H2 e hh => k v H2 (a.trans e) hh
theorem r_brk (k : ∀ H, Ex B H → D.bk σ H) : R (tSeq tBreak tz) D σ B := k
theorem r_cont (k : ∀ H, Ex B H → D.ct σ H) : R (tSeq tCont tz) D σ B := k
theorem r_drop (h : Ev te σ B v) (k : R tz D σ B) : R (tSeq (tDrop te) tz) D σ B := fun H a => q_drop (h.mono a) fun H1 e => k H1 (a.trans e)
theorem r_aug {i : Nat} {f : Int → Int → Int} {a b : Int} (hx : σ[i]? = some (some (.int a))) (h : Ev te σ B (.int b)) (k : R tz D (σ.set i (some (.int (f a b)))) B) : R (tSeq (tAug i te (ipI f)) tz) D σ B := fun H e => q_aug hx (h.mono e) fun H1 e1 => k H1 (e.trans e1)
theorem r_app {l : Addr} {xs : List V} (hl : B l = some (.lst xs)) (ha : Ev ta σ B (.ref l)) (h : Ev te σ B v) (hz : xs.length < 100000) (k : R tz D σ (upd B l (.lst (xs ++ [v])))) :
    R (tSeq (tDrop (tBM K "list" rAppend ta (tCons te tNil))) tz) D σ B := fun H a => q_app (a l _ hl) (ha.mono a) (h.mono a) hz fun H1 e => k _ (ex_mut (a.trans e))
theorem r_appN {l : Addr} {xs : List V} (hl : B l = some (.lst xs)) (ha : Ev ta σ B (.ref l)) (h : EvN te σ B o) (hz : xs.length < 100000) (k : ∀ p, B p = none → R tz D σ (upd (upd B p o) l (.lst (xs ++ [.ref p])))) :
    R (tSeq (tDrop (tBM K "list" rAppend ta (tCons te tNil))) tz) D σ B := fun H a => ha H a _ fun H1 e1 =>
  ⟨Or.inl ⟨rfl, xs, sq_of (e1 l _ (a l _ hl))⟩, h H1 (a.trans e1) _ fun p H2 hp e2 h2 => ⟨l, xs, .ref p, rfl, rfl, e2 l _ (e1 l _ (a l _ hl)), sz_lt hz, k p (fresh_back (a.trans e1) hp) _ (ex_mut (ex_up ((a.trans e1).trans e2) h2))⟩⟩
/-- the word of a loop, over its bases -/
def Up (Pv : Nat → L2.St → Hp → Prop) (i : Nat) (σ : L2.St) (H : Hp) : Prop := ∃ B, Ex B H ∧ Pv i σ B
theorem up_of {Pv : Nat → L2.St → Hp → Prop} {i : Nat} (h : Pv i σ B) : ∀ H, Ex B H → Up Pv i σ H := fun H e => ⟨B, e, h⟩
theorem r_up {Pv : Nat → L2.St → Hp → Prop} {i : Nat} {rt : VK} {bk ct : L2.St → Hp → Prop} (h : Pv i σ B) : R tNext { nx := Up Pv i, rt := rt, bk := bk, ct := ct } σ B := fun H e => ⟨B, e, h⟩
abbrev Lp (Pv : Nat → L2.St → Hp → Prop) (i : Nat) (D : Ends) (tz : TS) : Ends := { nx := Up Pv (i + 1), rt := D.rt, bk := tz D, ct := Up Pv (i + 1) }
theorem r_forL {a : Addr} {xs : List V} {j : Nat} (h : Ev tl σ B (.ref a)) (hx : SqL K B a xs) (Pv : Nat → L2.St → Hp → Prop) (h0 : Pv 0 σ B) (hl : ∀ i σ' B', i ≤ xs.length → Pv i σ' B' → SqL K B' a xs)
    (hs : ∀ i x σ' B', xs[i]? = some x → Pv i σ' B' → R tu (Lp Pv i D tz) (σ'.set j (some x)) B') (hd : ∀ σ' B', Pv xs.length σ' B' → R tz D σ' B') : R (tSeq (tFor (iList K tl) (gName j) tu) tz) D σ B := fun H e =>
  q_forLn (h.mono e) (ex_l e hx) (Up Pv) (fun H1 e1 => ⟨B, e.trans e1, h0⟩) (fun i σ' H' hi ⟨B', e', p⟩ => ex_l e' (hl i σ' B' hi p)) (fun i x σ' H' hx' ⟨B', e', p⟩ => hs i x σ' B' hx' p H' e') fun σ' H' ⟨B', e', p⟩ => hd σ' B' p H' e'
theorem r_forN {xs : List V} {j : Nat} (h : EvN tl σ B (.lst xs)) (Pv : Addr → Nat → L2.St → Hp → Prop) (h0 : ∀ p, B p = none → Pv p 0 σ (upd B p (.lst xs))) (hl : ∀ p i σ' B', i ≤ xs.length → Pv p i σ' B' → SqL K B' p xs)
    (hs : ∀ p i x σ' B', xs[i]? = some x → Pv p i σ' B' → R tu (Lp (Pv p) i D tz) (σ'.set j (some x)) B') (hd : ∀ p σ' B', Pv p xs.length σ' B' → R tz D σ' B') : R (tSeq (tFor (iList K tl) (gName j) tu) tz) D σ B := fun H e =>
  h H e _ fun p H1 hp e1 h1 => ⟨p, rfl, ⟨xs, sq_of h1⟩, for_list (Up (Pv p)) ⟨_, ex_up (e.trans e1) h1, h0 p (fresh_back e hp)⟩ (fun i σ' H' hi ⟨B', e', q⟩ => ex_l e' (hl p i σ' B' hi q))
    (fun i x σ' H' hx' ⟨B', e', q⟩ => hs p i x σ' B' hx' q H' e') fun σ' H' ⟨B', e', q⟩ => hd p σ' B' q H' e'⟩
theorem r_forR1 {ta : TA} {j : Nat} {n : Int} (h : EvA ta σ B [.int n]) (hn : 0 ≤ n ∧ n ≤ 100000) (Pv : Nat → L2.St → Hp → Prop) (h0 : Pv 0 σ B)
    (hs : ∀ (i : Nat) σ' B', (i : Int) < n → Pv i σ' B' → R tu (Lp Pv i D tz) (σ'.set j (some (.int (i : Int)))) B') (hd : ∀ σ' B', Pv n.toNat σ' B' → R tz D σ' B') : R (tSeq (tFor (iRng1 ta) (gName j) tu) tz) D σ B := fun H e =>
  q_forR1 (h.mono e) hn (Up Pv) (fun H1 e1 => ⟨B, e.trans e1, h0⟩) (fun i σ' H' hi ⟨B', e', p⟩ => hs i σ' B' hi p H' e') fun σ' H' ⟨B', e', p⟩ => hd σ' B' p H' e'
theorem r_forR2 {ta : TA} {j : Nat} {lo n : Int} (h : EvA ta σ B [.int lo, .int n]) (hn : 0 ≤ lo ∧ lo ≤ 100000 ∧ -100000 ≤ n ∧ n ≤ 100000) (Pv : Nat → L2.St → Hp → Prop) (h0 : Pv 0 σ B)
    (hs : ∀ (i : Nat) σ' B', lo + (i : Int) < n → Pv i σ' B' → R tu (Lp Pv i D tz) (σ'.set j (some (.int (lo + (i : Int))))) B') (hd : ∀ σ' B', Pv (n - lo).toNat σ' B' → R tz D σ' B') : R (tSeq (tFor (iRng2 ta) (gName j) tu) tz) D σ B := fun H e =>
  q_forR2 (h.mono e) hn (Up Pv) (fun H1 e1 => ⟨B, e.trans e1, h0⟩) (fun i σ' H' hi ⟨B', e', p⟩ => hs i σ' B' hi p H' e') fun σ' H' ⟨B', e', p⟩ => hd σ' B' p H' e'
theorem r_forS {s : List Nat} {j : Nat} (h : Ev tl σ B (.str (SX.S s))) (Pv : Nat → L2.St → Hp → Prop) (h0 : Pv 0 σ B)
    (hs : ∀ (i c : Nat) σ' B', s[i]? = some c → Pv i σ' B' → R tu (Lp Pv i D tz) (σ'.set j (some (.str (SX.S [c])))) B') (hd : ∀ σ' B', Pv s.length σ' B' → R tz D σ' B') : R (tSeq (tFor (iStr tl) (gName j) tu) tz) D σ B := fun H e =>
  h H e _ fun H1 e1 => ⟨_, rfl, for_str (x := s) (Up Pv) ⟨B, e.trans e1, h0⟩ (fun i c σ' H' hc ⟨B', e', p⟩ => hs i c σ' B' hc p H' e') fun σ' H' ⟨B', e', p⟩ => hd σ' B' p H' e'⟩
/-- while, by a word and a number that falls -/
theorem r_while (Pv : Nat → L2.St → Hp → Prop) (m0 : Nat) (h0 : Pv m0 σ B)
    (hs : ∀ m σ' B', Pv m σ' B' → ∃ b, EvT t σ' B' b ∧ (b = true → R tu { D with nx := fun σ2 H2 => ∃ m', m' < m ∧ Up Pv m' σ2 H2, ct := fun σ2 H2 => ∃ m', m' < m ∧ Up Pv m' σ2 H2, bk := tz D } σ' B') ∧ (b = false → R tz D σ' B')) : R (tSeq (tWhile t tu) tz) D σ B := fun H e =>
  q_while (Up Pv) m0 ⟨B, e, h0⟩ fun m σ' H' ⟨B', e', p⟩ => by
    obtain ⟨b, hb, h1, h2⟩ := hs m σ' B' p
    exact ⟨b, hb.mono e', fun hb H1 e1 => ⟨fun σ2 H2 => ∃ m', m' < m ∧ Up Pv m' σ2 H2, fun _ _ q => q, h1 hb H1 (e'.trans e1)⟩, fun hb H1 e1 => h2 hb H1 (e'.trans e1)⟩

/-! ### expressions -/
theorem EvN.mono (e : Ex B B') (h : EvN te σ B o) : EvN te σ B' o := fun H1 a Q q => h H1 (e.trans a) Q q
theorem EvP.mono (e : Ex B B') (h : EvP te σ B Pp) : EvP te σ B' Pp := fun H1 a Q q => h H1 (e.trans a) Q q
theorem ev_slice_str {tl th : TO} {s : List Nat} {lo hi : Option Int} (h : Ev te σ B (.str (SX.S s))) (h1 : EvO tl σ B lo) (h2 : EvO th σ B hi) (hz : s.length ≤ 100000) : Ev (tSl rSlS te tl th) σ B (.str (cutS (SX.S s) lo hi)) := fun H1 e _ q =>
  h H1 e _ fun H2 e2 => h1 H2 (e.trans e2) _ fun H3 e3 => h2 H3 ((e.trans e2).trans e3) _ fun H4 e4 => ⟨_, rfl, by rw [SX.S_len]; exact sz_of hz, q H4 ((e2.trans e3).trans e4)⟩
theorem ev_chain {r r' : R2} {a b : Bool} (ha : Ev ta σ B x) (hb : Ev tb σ B y) (hr : RV r x y B (.bl a)) (hc : a = true → Ev tx σ B z) (hr' : a = true → RV r' y z B (.bl b)) : Ev (tChain r r' ta tb tx) σ B (.bl (a && b)) := fun H1 e Q q =>
  ha H1 e _ fun H2 e2 => hb H2 (e.trans e2) _ fun H3 e3 => hr H3 ((e.trans e2).trans e3) _ fun H4 e4 => ⟨a, rfl, by
    cases a with
    | true =>
      show tx σ H4 _
      exact hc rfl H4 (((e.trans e2).trans e3).trans e4) _ fun H5 e5 => hr' rfl H5 ((((e.trans e2).trans e3).trans e4).trans e5) _ fun H6 e6 => q H6 ((((e2.trans e3).trans e4).trans e5).trans e6)
    | false =>
      show Q (.bl false) H4
      exact q H4 ((e2.trans e3).trans e4)⟩
theorem ev_lenS {s : List Nat} (ha : Ev ta σ B (.str (SX.S s))) (hz : s.length ≤ 100000) : Ev (tCB (fun xs H Q => ∃ z, xs = [.str z] ∧ z.length ≤ sizeLine ∧ Q (.int z.length) H) (tCons ta tNil)) σ B (.int (s.length : Int)) := fun H1 e Q q =>
  ha H1 e _ fun H2 e2 => ⟨_, rfl, by rw [SX.S_len]; exact sz_of hz, by rw [SX.S_len]; exact q H2 e2⟩
theorem ev_lenN {xs : List V} (ha : EvN ta σ B (.lst xs)) : Ev (tCB (rLenS K) (tCons ta tNil)) σ B (.int (xs.length : Int)) := fun H1 e Q q => ha H1 e _ fun p H2 _ e2 h2 => ⟨p, xs, rfl, Or.inl (sq_of h2), q H2 e2⟩
theorem ev_int {i : Int} (ha : Ev ta σ B (.int i)) : Ev (tCB (fun xs H Q => (∃ i, xs = [V.int i] ∧ Q (.int i) H) ∨ ∃ k, xs = [.bl k] ∧ Q (.int (if k then 1 else 0)) H) (tCons ta tNil)) σ B (.int i) := fun H1 e Q q =>
  ha H1 e _ fun H2 e2 => .inl ⟨i, rfl, q H2 e2⟩
theorem ev_ord {c : Nat} (ha : Ev ta σ B (.str (SX.S [c]))) : Ev (tCB (fun xs H Q => ∃ x, xs = [V.str x] ∧ x.length = 1 ∧ Q (.int (x.cps.getD 0 0 : Nat)) H) (tCons ta tNil)) σ B (.int (c : Int)) := fun H1 e Q q =>
  ha H1 e _ fun H2 e2 => ⟨_, rfl, rfl, q H2 e2⟩
theorem rv_cmp {p : Int → Int → Bool} {i j : Int} : RV (rI0 fun i j => .bl (p i j)) (.int i) (.int j) B (.bl (p i j)) := rv_I0
theorem rv_ar {f : Int → Int → Int} {i j : Int} : RV (rI0 fun i j => .int (f i j)) (.int i) (.int j) B (.int (f i j)) := rv_I0
theorem rv_arC {C : Int → Int → Prop} {f : Int → Int → Int} {i j : Int} (hc : C i j) : RV (rI C fun i j => .int (f i j)) (.int i) (.int j) B (.int (f i j)) := rv_I hc
theorem rv_addS {a b : List Nat} (hz : a.length + b.length ≤ 100000) : RV (fun x y H Q => ∃ i j, x = V.str i ∧ y = .str j ∧ i.length + j.length ≤ sizeLine ∧ Q (.str (i ++ j)) H) (.str (SX.S a)) (.str (SX.S b)) B (.str (SX.S (a ++ b))) := fun H1 _ _ q =>
  ⟨_, _, rfl, rfl, by rw [SX.S_len, SX.S_len]; exact sz_of hz, by rw [SX.S_cat]; exact q H1 (Ex.refl H1)⟩
/-- a sign of a text -/
theorem rv_inS {c : Nat} {s : List Nat} : RV (fun x y H Q => ∃ (c : Nat) (z : Str), x = .str ⟨#[c]⟩ ∧ y = .str z ∧ Q (.bl (decide (c ∈ z.cps.toList))) H) (.str (SX.S [c])) (.str (SX.S s)) B (.bl (decide (c ∈ s))) := fun H1 _ _ q => ⟨c, SX.S s, rfl, rfl, q H1 (Ex.refl H1)⟩
theorem rv_niS {c : Nat} {s : List Nat} : RV (fun x y H Q => ∃ (c : Nat) (z : Str), x = .str ⟨#[c]⟩ ∧ y = .str z ∧ Q (.bl (!decide (c ∈ z.cps.toList))) H) (.str (SX.S [c])) (.str (SX.S s)) B (.bl (!decide (c ∈ s))) := fun H1 _ _ q => ⟨c, SX.S s, rfl, rfl, q H1 (Ex.refl H1)⟩
theorem rv_ixSt {s : List Nat} {i : Int} (hz : s.length ≤ 100000) (h0 : 0 ≤ i) (h1 : i < s.length) : RV rIxS (.str (SX.S s)) (.int i) B (.str (SX.S [s.getD i.toNat 0])) := by
  refine rv_ixS (by rw [SX.S_len]; exact hz) ?_
  obtain ⟨j, rfl⟩ := Int.eq_ofNat_of_zero_le h0
  have hj : j < s.length := by omega
  refine atI_nat (j := j) ?_
  simp [SX.S, List.getD, List.getElem?_eq_getElem hj]
theorem rv_ixI {ns : List Int} {p : Addr} {i : Int} (h : SqL K B p (ns.map V.int)) (h0 : 0 ≤ i) (h1 : i < ns.length) : RV (rIxL K) (.ref p) (.int i) B (.int (ns.getD i.toNat 0)) := rv_ixL h (atI_ints h0 h1)
theorem rv_isB {a b : Bool} : RV rIsB (.bl a) (.bl b) B (.bl (decide (a = b))) := fun H1 _ _ q => ⟨a, b, rfl, rfl, q H1 (Ex.refl H1)⟩
theorem rv_isN : RV (fun x y H Q => y = .non ∧ Q (.bl (decide (x = .non))) H) x .non B (.bl (decide (x = .non))) := fun H1 _ _ q => ⟨rfl, q H1 (Ex.refl H1)⟩
theorem rv_notN : RV (fun x y H Q => y = .non ∧ Q (.bl (!decide (x = .non))) H) x .non B (.bl (!decide (x = .non))) := fun H1 _ _ q => ⟨rfl, q H1 (Ex.refl H1)⟩
theorem en_lst {ta : TA} {vs : List V} (h : EvA ta σ B vs) (hl : vs.length ≤ 100000) : EvN (tLst ta) σ B (.lst vs) := el_lst h hl
theorem en_tup {ta : TA} {vs : List V} (h : EvA ta σ B vs) (hl : vs.length ≤ 100000) : EvN (tTup ta) σ B (.tup vs) := eu_tup h hl
theorem en_sl {tl th : TO} {a : Addr} {xs : List V} {lo hi : Option Int} (h : Ev te σ B (.ref a)) (h1 : EvO tl σ B lo) (h2 : EvO th σ B hi) (hs : SqL K B a xs) : EvN (tSl (rSlL K) te tl th) σ B (.lst (cutV xs lo hi)) := el_sl h h1 h2 hs
theorem en_dict : EvN tDNewK σ B (.dK []) := fun H1 _ Q q => fun p hp => q p _ hp (Ex.new hp) upd_same
/-- both operands new lists -/
theorem en_cat {xs ys : List V} (ha : EvN ta σ B (.lst xs)) (hb : EvN tb σ B (.lst ys)) (hz : xs.length + ys.length ≤ 100000) : EvN (tOp rCat ta tb) σ B (.lst (xs ++ ys)) := fun H1 e Q k =>
  ha H1 e _ fun p H2 hp1 e2 hp => hb H2 (e.trans e2) _ fun q H3 _ e3 hq => ⟨p, q, xs, ys, rfl, rfl, e3 p _ hp, hq, sz_of hz, fun r hr => k r _ (fresh_back (e2.trans e3) hr) ((e2.trans e3).trans (Ex.new hr)) upd_same⟩
theorem en_catV {xs ys : List V} {a b : Addr} (ha : Ev ta σ B (.ref a)) (hb : Ev tb σ B (.ref b)) (h1 : B a = some (.lst xs)) (h2 : B b = some (.lst ys)) (hz : xs.length + ys.length ≤ 100000) : EvN (tOp rCat ta tb) σ B (.lst (xs ++ ys)) := fun H1 e Q k =>
  ha H1 e _ fun H2 e2 => hb H2 (e.trans e2) _ fun H3 e3 => ⟨a, b, xs, ys, rfl, rfl, ((e.trans e2).trans e3) a _ h1, ((e.trans e2).trans e3) b _ h2, sz_of hz, fun r hr => k r _ (fresh_back (e2.trans e3) hr) ((e2.trans e3).trans (Ex.new hr)) upd_same⟩
theorem en_catVN {xs ys : List V} {a : Addr} (ha : Ev ta σ B (.ref a)) (hb : EvN tb σ B (.lst ys)) (h1 : B a = some (.lst xs)) (hz : xs.length + ys.length ≤ 100000) : EvN (tOp rCat ta tb) σ B (.lst (xs ++ ys)) := fun H1 e Q k =>
  ha H1 e _ fun H2 e2 => hb H2 (e.trans e2) _ fun q H3 _ e3 hq => ⟨a, q, xs, ys, rfl, rfl, ((e.trans e2).trans e3) a _ h1, hq, sz_of hz, fun r hr => k r _ (fresh_back (e2.trans e3) hr) ((e2.trans e3).trans (Ex.new hr)) upd_same⟩
theorem en_catNV {xs ys : List V} {b : Addr} (ha : EvN ta σ B (.lst xs)) (hb : Ev tb σ B (.ref b)) (h1 : B b = some (.lst ys)) (hz : xs.length + ys.length ≤ 100000) : EvN (tOp rCat ta tb) σ B (.lst (xs ++ ys)) := fun H1 e Q k =>
  ha H1 e _ fun p H2 hp1 e2 hp => hb H2 (e.trans e2) _ fun H3 e3 => ⟨p, b, xs, ys, rfl, rfl, e3 p _ hp, ((e.trans e2).trans e3) b _ h1, sz_of hz, fun r hr => k r _ (fresh_back (e2.trans e3) hr) ((e2.trans e3).trans (Ex.new hr)) upd_same⟩
/-- an item of a new list -/
theorem ev_ixN {xs : List V} {i : Int} (ha : EvN ta σ B (.lst xs)) (hb : ∀ B', Ex B B' → Ev tb σ B' (.int i)) (h : atI xs i = some v) : Ev (tOp (rIxL K) ta tb) σ B v := ev_opL1 ha hb fun p H1 hp _ => rv_ixL (sq_of hp) h
/-- sep.join(a new list) -/
theorem ev_joinN {a : Str} {ys : List Str} (ha : Ev ta σ B (.str a)) (hb : EvN tb σ B (.lst (ys.map V.str))) (hz : (ys.map (·.length)).sum + ys.length * a.length ≤ 16777216) :
    Ev (tM1 (fun x xs H Q => ∃ a p, ∃ ys : List Str, x = .str a ∧ xs = [.ref p] ∧ (SqL K H p (ys.map V.str) ∨ SqT K H p (ys.map V.str)) ∧ (ys.map (·.length)).sum + ys.length * a.length ≤ 16777216 ∧ Q (.str (Txt.join a ys)) H) ta tb) σ B (.str (Txt.join a ys)) := fun H1 e Q q =>
  ha H1 e _ fun H2 e2 => ⟨⟨a, rfl⟩, hb H2 (e.trans e2) _ fun p H3 _ e3 hp => ⟨a, p, ys, rfl, rfl, .inl (sq_of hp), hz, q H3 (e2.trans e3)⟩⟩
theorem ev_cS {x : Str} : Ev (tC (.str x)) σ B (.str (SX.S x.cps.toList)) := by
  rw [SX.S_tl]
  exact ev_c
theorem joinL_signs : ∀ cs : List Nat, TL.joinL [] (cs.map fun c => [c]) = cs
  | [] => rfl
  | [c] => rfl
  | c :: d :: r => by
    show [c] ++ ([] ++ TL.joinL [] ((d :: r).map fun c => [c])) = _
    rw [joinL_signs (d :: r)]
    rfl
theorem joinL_len (a : List Nat) : ∀ ys : List (List Nat), (TL.joinL a ys).length ≤ (ys.map (·.length)).sum + ys.length * a.length
  | [] => Nat.zero_le _
  | [y] => by
    show y.length ≤ _
    simp
  | y :: z :: r => by
    have ih := joinL_len a (z :: r)
    show (y ++ (a ++ TL.joinL a (z :: r))).length ≤ _
    rw [List.length_append, List.length_append]
    simp only [List.map_cons, List.sum_cons, List.length_cons, Nat.succ_mul] at ih ⊢
    omega
/-- sep.join(a new list of texts) -/
theorem ev_joinS {a : List Nat} {ys : List (List Nat)} (ha : Ev ta σ B (.str (SX.S a))) (hb : EvN tb σ B (.lst (ys.map fun l => V.str (SX.S l)))) (hz : (ys.map (·.length)).sum + ys.length * a.length ≤ 16777216) :
    Ev (tM1 (fun x xs H Q => ∃ a p, ∃ ys : List Str, x = .str a ∧ xs = [.ref p] ∧ (SqL K H p (ys.map V.str) ∨ SqT K H p (ys.map V.str)) ∧ (ys.map (·.length)).sum + ys.length * a.length ≤ 16777216 ∧ Q (.str (Txt.join a ys)) H) ta tb) σ B (.str (SX.S (TL.joinL a ys))) := by
  rw [← SX.join_S]
  refine ev_joinN ha (by rw [List.map_map]; exact hb) ?_
  rw [SX.lens, List.length_map, SX.S_len]
  exact hz
theorem sum_ones : ∀ cs : List Nat, ((cs.map fun c => [c]).map (·.length)).sum = cs.length
  | [] => rfl
  | c :: r => by
    have ih := sum_ones r
    simp only [List.map_cons, List.sum_cons, List.length_cons, List.length_nil] at ih ⊢
    omega
/-- ''.join(a new list of single signs) -/
theorem ev_joinC {a cs : List Nat} (ha : Ev ta σ B (.str (SX.S a))) (h0 : a = []) (hb : EvN tb σ B (.lst (cs.map fun c => V.str (SX.S [c])))) (hz : cs.length ≤ 100000) :
    Ev (tM1 (fun x xs H Q => ∃ a p, ∃ ys : List Str, x = .str a ∧ xs = [.ref p] ∧ (SqL K H p (ys.map V.str) ∨ SqT K H p (ys.map V.str)) ∧ (ys.map (·.length)).sum + ys.length * a.length ≤ 16777216 ∧ Q (.str (Txt.join a ys)) H) ta tb) σ B (.str (SX.S cs)) := by
  subst h0
  have e := ev_joinS (K := K) (a := []) (ys := cs.map fun c => [c]) ha (by rw [List.map_map]; exact hb) (by rw [sum_ones]; simp; omega)
  rw [joinL_signs] at e
  exact e
theorem en_splitS {a b : List Nat} (ha : Ev ta σ B (.str (SX.S a))) (hb : Ev tb σ B (.str (SX.S b))) (h0 : b ≠ []) (hk : b.all (· < 256) = true) (hz : a.length ≤ 100000) :
    EvN (tM1 (fun x xs H Q => ∃ a b, x = .str a ∧ xs = [.str b] ∧ (b.length == 0) = false ∧ a.length + 2 ≤ sizeLine ∧ rNewStrs (Txt.split a b) H Q) ta tb) σ B (.lst ((TL.spl b 0 [] a).map fun l => V.str (SX.S l))) := by
  have e : (TL.spl b 0 [] a).map (fun l => V.str (SX.S l)) = (Txt.split (SX.S a) (SX.S b)).map V.str := by
    rw [SX.split_S h0 hk, List.map_map]
    rfl
  rw [e]
  exact fun H1 e Q q => ha H1 e _ fun H2 e2 => ⟨⟨_, rfl⟩, hb H2 (e.trans e2) _ fun H3 e3 => ⟨_, _, rfl, rfl, by
    rw [SX.S_len]
    cases b with
    | nil => exact absurd rfl h0
    | cons c r => rfl, by rw [SX.S_len]; exact Nat.le_trans (Nat.add_le_add_right hz 2) (by decide), fun p hp => q p _ (fresh_back (e2.trans e3) hp) ((e2.trans e3).trans (Ex.new hp)) upd_same⟩⟩
theorem spl_len (S : List Nat) : ∀ (l acc : List Nat) (k : Nat), ∀ p ∈ TL.spl S k acc l, p.length ≤ acc.length + l.length
  | [], acc, 0, p, h => by
    rw [TL.spl_nil] at h
    simp at h
    subst h
    omega
  | [], acc, k + 1, p, h => by
    rw [TL.spl_nil] at h
    simp at h
    subst h
    omega
  | c :: r, acc, 0, p, h => by
    unfold TL.spl at h
    split at h
    · rcases List.mem_cons.mp h with h | h
      · subst h
        omega
      · have := spl_len S r [] _ p h
        simp at this ⊢
        omega
    · have := spl_len S r _ _ p h
      simp at this ⊢
      omega
  | c :: r, acc, k + 1, p, h => by
    unfold TL.spl at h
    have := spl_len S r acc k p h
    simp at this ⊢
    omega
/-- what a for (of a comprehension) goes over, the heap as it was -/
def EvI (wi : TI) (σ : L2.St) (B : Hp) (xs : List V) : Prop := ∀ H1, Ex B H1 → ∀ R : It → Hp → Prop, (∀ (J : It) (H2 : Hp) (G : Hp → Prop), Ex H1 H2 → Walk J xs.length G (YAt xs) → (∀ H3, Ex H2 H3 → G H3) → R J H2) → wi σ H1 R
theorem ei_list {a : Addr} {xs : List V} (h : Ev tl σ B (.ref a)) (hx : SqL K B a xs) : EvI (iList K tl) σ B xs := fun H1 e R k => h H1 e _ fun H2 e2 => ⟨a, rfl, ⟨xs, ex_l (e.trans e2) hx⟩, k _ H2 _ e2 walk_list fun H3 e3 => ex_l ((e.trans e2).trans e3) hx⟩
theorem ei_listN {xs : List V} (h : EvN tl σ B (.lst xs)) : EvI (iList K tl) σ B xs := fun H1 e R k => h H1 e _ fun p H2 hp e2 h2 => ⟨p, rfl, ⟨xs, sq_of h2⟩, k _ H2 _ e2 walk_list fun H3 e3 => sq_of (e3 p _ h2)⟩
theorem ei_str {s : List Nat} (h : Ev tl σ B (.str (SX.S s))) : EvI (iStr tl) σ B (s.map fun c => .str (SX.S [c])) := fun H1 e R k => h H1 e _ fun H2 e2 => ⟨_, rfl, k _ H2 (fun _ => True) e2 (by
  have hz : (SX.S s).cps.size = s.length := by simp [SX.S]
  have w := walk_str (z := SX.S s)
  rw [hz] at w
  rw [List.length_map]
  refine w.mono (fun _ h => h) fun i H x H' hi _ y => ?_
  obtain ⟨y1, c, hc, hv⟩ := y
  refine ⟨y1, ?_⟩
  have hc' : s[i]? = some c := by simpa [SX.S] using hc
  rw [List.getElem?_map, hc', hv]
  rfl) fun _ _ => trivial⟩
theorem ei_range1 {ta : TA} {n : Int} (h : EvA ta σ B [.int n]) (hn : 0 ≤ n ∧ n ≤ 100000) : EvI (iRng1 ta) σ B ((List.range n.toNat).map fun i : Nat => V.int (i : Int)) := fun H1 e R k => h H1 e _ fun H2 e2 => by
  refine ⟨n, rfl, by omega, by omega, k _ H2 (fun _ => True) e2 ?_ fun _ _ => trivial⟩
  rw [List.length_map, List.length_range]
  refine walk_range.mono (fun _ h => h) fun i H x H' hi _ y => ⟨y.1, ?_⟩
  rw [List.getElem?_map, List.getElem?_range hi, y.2]
  show some (V.int (i : Int)) = some (V.int ((0 : Int) + (i : Int)))
  rw [Int.zero_add]
/-- a comprehension of values -/
theorem en_lc {wi : TI} {xs : List V} {j : Nat} {vs : List Nat} (p : V → Bool) (f : V → V) (h : EvI wi σ B xs) (hz : xs.length ≤ 100000) (hw : ∀ x, wipe ((wipe σ vs).set j (some x)) vs = wipe σ vs)
    (ht : ∀ x ∈ xs, ∀ B', Ex B B' → EvT t ((wipe σ vs).set j (some x)) B' (p x)) (he : ∀ x ∈ xs, ∀ B', Ex B B' → p x = true → Ev te ((wipe σ vs).set j (some x)) B' (f x)) : EvN (tLc wi (gName j) t te vs) σ B (.lst ((xs.filter p).map f)) := fun H1 e Q q =>
  h H1 e _ fun J H2 G e2 w hG => fun Dl hD => lc_it w (fun i H => H2 Dl = none ∧ Ex H2 H ∧ H Dl = some (.lst (((xs.take i).filter p).map f))) ⟨hD, Ex.new hD, upd_same⟩ (fun i H _ a => hG H a.2.1) (fun i x H H' hi a y => by
    obtain ⟨a1, a2, a3⟩ := a
    obtain ⟨y1, y2⟩ := y
    subst y1
    have hm : x ∈ xs := List.mem_of_getElem? y2
    have eB : Ex B H' := (e.trans e2).trans a2
    have et : (xs.take (i + 1)).filter p = (xs.take i).filter p ++ [x].filter p := by
      rw [List.take_add_one, y2, List.filter_append]
      rfl
    refine ⟨hw x, ht x hm H' eB H' (Ex.refl H') _ fun H3 e3 => ?_⟩
    cases hp : p x with
    | true =>
      refine he x hm H' eB hp H3 e3 _ fun H4 e4 => ⟨_, e4 Dl _ (e3 Dl _ a3), ?_, a1, Ex.mut ((a2.trans e3).trans e4) a1, ?_⟩
      · rw [List.length_map]
        have h1 := List.length_filter_le p (xs.take i)
        rw [List.length_take] at h1
        exact Nat.lt_of_le_of_lt (Nat.le_trans h1 (Nat.le_trans (Nat.min_le_right _ _) hz)) (by decide)
      · rw [upd_same, et, List.map_append, List.filter_cons, if_pos hp]
        rfl
    | false =>
      refine ⟨a1, a2.trans e3, ?_⟩
      rw [et, List.filter_cons, if_neg (by rw [hp]; decide)]
      show H3 Dl = some (.lst (((xs.take i).filter p ++ []).map f))
      rw [List.append_nil]
      exact e3 Dl _ a3) fun H a => q Dl H (fresh_back e2 a.1) (e2.trans a.2.1) (by
        have a3 := a.2.2
        rw [List.take_length] at a3
        exact a3)
theorem et_yes : EvT tYes σ B true := fun H1 _ _ q => q H1 (Ex.refl H1)
theorem filter_yes {α : Type} (xs : List α) : xs.filter (fun _ => true) = xs := List.filter_eq_self.mpr fun _ _ => rfl
/-- .. without a test -/
theorem en_lcA {wi : TI} {xs : List V} {j : Nat} {vs : List Nat} (f : V → V) (h : EvI wi σ B xs) (hz : xs.length ≤ 100000) (hw : ∀ x, wipe ((wipe σ vs).set j (some x)) vs = wipe σ vs)
    (he : ∀ x ∈ xs, ∀ B', Ex B B' → Ev te ((wipe σ vs).set j (some x)) B' (f x)) : EvN (tLc wi (gName j) tYes te vs) σ B (.lst (xs.map f)) := by
  have e := en_lc (t := tYes) (fun _ => true) f h hz hw (fun _ _ _ _ => et_yes) fun x hx B' a _ => he x hx B' a
  rw [filter_yes] at e
  exact e
/-- over ints -/
theorem en_lcI {wi : TI} {ns : List Int} {j : Nat} {vs : List Nat} (f : Int → V) (h : EvI wi σ B (ns.map V.int)) (hz : ns.length ≤ 100000) (hw : ∀ x, wipe ((wipe σ vs).set j (some x)) vs = wipe σ vs)
    (he : ∀ n ∈ ns, ∀ B', Ex B B' → Ev te ((wipe σ vs).set j (some (.int n))) B' (f n)) : EvN (tLc wi (gName j) tYes te vs) σ B (.lst (ns.map f)) := by
  have e := en_lcA (te := te) (σ := σ) (B := B) (j := j) (vs := vs) (fun x => match x with | .int n => f n | _ => .non) h (by rw [List.length_map]; exact hz) hw fun x hx B' a => by
    obtain ⟨n, hn, rfl⟩ := List.mem_map.mp hx
    exact he n hn B' a
  rw [List.map_map] at e
  exact e
/-- over the signs of a text -/
theorem en_lcS {wi : TI} {s : List Nat} {j : Nat} {vs : List Nat} (f : Nat → V) (h : EvI wi σ B (s.map fun c => .str (SX.S [c]))) (hz : s.length ≤ 100000) (hw : ∀ x, wipe ((wipe σ vs).set j (some x)) vs = wipe σ vs)
    (he : ∀ c ∈ s, ∀ B', Ex B B' → Ev te ((wipe σ vs).set j (some (.str (SX.S [c])))) B' (f c)) : EvN (tLc wi (gName j) tYes te vs) σ B (.lst (s.map f)) := by
  have e := en_lcA (te := te) (σ := σ) (B := B) (j := j) (vs := vs) (fun x => match x with | .str z => f (z.cps.getD 0 0) | _ => .non) h (by rw [List.length_map]; exact hz) hw fun x hx B' a => by
    obtain ⟨c, hc, rfl⟩ := List.mem_map.mp hx
    exact he c hc B' a
  rw [List.map_map] at e
  exact e
theorem en_split {a b : Str} (ha : Ev ta σ B (.str a)) (hb : Ev tb σ B (.str b)) (h0 : (b.length == 0) = false) (hz : a.length + 2 ≤ sizeLine) :
    EvN (tM1 (fun x xs H Q => ∃ a b, x = .str a ∧ xs = [.str b] ∧ (b.length == 0) = false ∧ a.length + 2 ≤ sizeLine ∧ rNewStrs (Txt.split a b) H Q) ta tb) σ B (.lst ((Txt.split a b).map V.str)) := fun H1 e Q q =>
  ha H1 e _ fun H2 e2 => ⟨⟨a, rfl⟩, hb H2 (e.trans e2) _ fun H3 e3 => ⟨a, b, rfl, rfl, h0, hz, fun p hp => q p _ (fresh_back (e2.trans e3) hp) ((e2.trans e3).trans (Ex.new hp)) upd_same⟩⟩
theorem ev_isi {ta : TA} {c : V} {tv uv : Value} {b : Bool} (h : EvA ta σ B [x, c]) (hc : ClsV c uv) (ht : ∀ H, Ex B H → TyX K H x tv) (hb : PySem.W.kitOne K tv uv = some b) : Ev (tCB (rIsi K) ta) σ B (.bl b) := fun H1 e Q q =>
  h H1 e _ fun H2 e2 => ⟨x, c, tv, uv, b, rfl, hc, ht H2 (e.trans e2), hb, q H2 e2⟩
end
/-- promises: a value; a new object -/
def PV (pre : List V → Hp → V → Prop) : Sp := fun vs H Q _ => ∃ z, pre vs H z ∧ ∀ H2, Ex H H2 → Q z H2
def PN (pre : List V → Hp → HO → Prop) : Sp := fun vs H Q _ => ∃ o, pre vs H o ∧ ∀ p H2, H p = none → Ex H H2 → H2 p = some o → Q (.ref p) H2
section
variable {σ : L2.St} {B : Hp} {ta : TA} {vs : List V} {E : XK} {z : V} {o : HO}
theorem ev_pv {pre : List V → Hp → V → Prop} (h : EvA ta σ B vs) (hp : ∀ H, Ex B H → pre (vs ++ []) H z) : Ev (tCall (PV pre) [] E ta) σ B z := fun H1 e Q q =>
  h H1 e _ fun H2 e2 => ⟨z, hp H2 (e.trans e2), fun H3 e3 => q H3 (e2.trans e3)⟩
theorem en_pn {pre : List V → Hp → HO → Prop} (h : EvA ta σ B vs) (hp : ∀ H, Ex B H → pre (vs ++ []) H o) : EvN (tCall (PN pre) [] E ta) σ B o := fun H1 e Q q =>
  h H1 e _ fun H2 e2 => ⟨o, hp H2 (e.trans e2), fun p H3 hp' e3 h3 => q p H3 (fresh_back e2 hp') (e2.trans e3) h3⟩
end
/-- .. a new object of which this is known -/
def EvNd (te : TE) (σ : L2.St) (B : Hp) (F : HO → Prop) : Prop := ∀ H1, Ex B H1 → ∀ Q : VK, (∀ p H2 o, H1 p = none → Ex H1 H2 → H2 p = some o → F o → Q (.ref p) H2) → te σ H1 Q
def PNd (pre : List V → Hp → (HO → Prop) → Prop) : Sp := fun vs H Q _ => ∃ F, pre vs H F ∧ ∀ p H2 o, H p = none → Ex H H2 → H2 p = some o → F o → Q (.ref p) H2
section
variable {σ : L2.St} {B : Hp} {te : TE} {tz : TS} {D : Ends} {ta : TA} {vs : List V} {E : XK} {F : HO → Prop}
theorem en_pnd {pre : List V → Hp → (HO → Prop) → Prop} (h : EvA ta σ B vs) (hp : ∀ H, Ex B H → pre (vs ++ []) H F) : EvNd (tCall (PNd pre) [] E ta) σ B F := fun H1 e Q q =>
  h H1 e _ fun H2 e2 => ⟨F, hp H2 (e.trans e2), fun p H3 o hp' e3 h3 hf => q p H3 o (fresh_back e2 hp') (e2.trans e3) h3 hf⟩
theorem r_asgNd {i : Nat} (h : EvNd te σ B F) (k : ∀ p o, B p = none → F o → R tz D (σ.set i (some (.ref p))) (upd B p o)) : R (tSeq (tAsg te (gName i)) tz) D σ B := fun H a =>
  h H a _ fun p H2 o hp e hh hf => k p o (fresh_back a hp) hf H2 (ex_up (a.trans e) hh)
theorem r_newd {i : Nat} (h : EvNd te σ B F) (k : ∀ p B' o, B p = none → Ex B B' → B' p = some o → F o → R tz D (σ.set i (some (.ref p))) B') : R (tSeq (tAsg te (gName i)) tz) D σ B := r_asgNd h fun p o hp hf => k p _ o hp (Ex.new hp) upd_same hf
end

/-! ### draws -/
/-- a new list of so many ints below the bound -/
def DrawO (m b : Int) (o : HO) : Prop := ∃ ns : List Int, o = .lst (ns.map V.int) ∧ (ns.length : Int) = m ∧ ∀ n ∈ ns, 0 ≤ n ∧ n < b
def spDraw : Sp := PNd fun vs _ F => ∃ c m b : Int, vs = [.int c, .int m, .int b] ∧ 0 ≤ m ∧ m ≤ 1000 ∧ 0 < b ∧ b < 1073741824 ∧ F = DrawO m b
end FK

set_option Elab.async false
set_option linter.all false
set_option maxRecDepth 100000
set_option maxHeartbeats 4000000
/-! the errors of a program of ours: made by an __init__ that reads the class's name (own text) -/
namespace FkE
open PySem PySem.W PySem.Calls PyProof.Rows Builtin Builtin.ObjectAttr Builtin.Getset_descriptor
section
variable {prog : Program} {w : World} {A : Around} {E : Value → Shared → Prop} {s : Shared} {K : Frag} {x C : Addr} {ox : Obj} {od : Option Obj} {expr : Bool}
theorem find_data {n : Str} {a g : Value} (hc : (clsIn K C).isSome = true) (ha : findIn K (.ref C) n = some (some a)) (hg : specialIn K a "__get__" = some (some g)) (ht : takesIn K a = some true) : findObj K C od n = some (.bind g a) := by
  obtain ⟨cd, hcd⟩ := Option.isSome_iff_exists.mp hc
  simp only [findObj, hcd, Option.bind_some, ha, hg, ht]
/-- e.__class__ of an error -/
theorem exc_clsBy {Q : Value → Shared → Prop} {gt : Option Value} {fill : Bool} {t : Tok} (X : K.In s.heap) (I : InstAt s.heap x ox C od) (ga : findIn K (.ref C) "__getattribute__" = some (some (.builtin "BaseException.__getattribute__"))) (gg : findIn K (.ref C) "__getattr__" = some gt)
    (sb : subIn K (.ref C) (.type "BaseException") = some true) (hf : findObj K C od "__class__" = some (.bind (.builtin "getset_descriptor.__get__") (.builtin "object.__class__"))) (hm : mroIn K C (.type "object") = some true) (h : Q (.ref C) s) :
    wpAny (model prog w) A (getAttrBy (.ref x) (.str "__class__" t) fill expr) Q E s := by
  obtain ⟨hp, g, d, tt, os⟩ := s
  have l0 := I.type (M := model prog w)
  have l1 := looks_findIn (M := model prog w) X ga
  have l2 := looks_findIn (M := model prog w) X gg
  have l3 := looks_find (M := model prog w) X I hf
  have no2 : (Value.builtin "BaseException.__getattribute__" == Value.builtin "object.__getattribute__") = false := by decide +kernel
  have no1 : (onTheHeap (Value.ref C) && Value.builtin "BaseException.__getattribute__" == Value.builtin "object.__getattribute__") = false := by rw [no2]; rfl
  have no0 : (expr && onTheHeap (Value.builtin "BaseException.__getattribute__")) = false := by cases expr <;> rfl
  simp only [getAttrBy]
  refine wpAny_holding (wpAny_bind (l0.at (wpAny_bind (l1.at ?_))))
  show wpAny _ _ (if (onTheHeap (Value.ref C) && Value.builtin "BaseException.__getattribute__" == Value.builtin "object.__getattribute__") = true then _ else _) _ _ _
  rw [no1, if_neg Bool.false_ne_true]
  simp only [getAttrByItsOwn, hookBefore]
  refine wpAny_bind ?_
  rw [if_pos (show onTheHeap (Value.ref C) = true from rfl)]
  refine l2.at (wpAny_bind (wpAny_attempt (wpAny_holding ?_)))
  unfold callGetattribute
  rw [no0, if_neg Bool.false_ne_true]
  unfold boundAndCalled
  rw [PySem.F.excAttr_ValueError.ga.bind (.ref x)]
  refine wpAny_bind (wpAny_pure ?_)
  show wpAny _ _ (call (.builtin "BaseException.__getattribute__") [.ref x, .str "__class__" t]) _ _ _
  refine wpAny_call (codeAny_call_builtin PySem.F.excAttr_ValueError.ga.plain PySem.F.entry_bexc_ga (@check_slot (model prog w) _ _ ⟨hp, g, d, tt, os⟩ "BaseException.__getattribute__" "BaseException" "__getattribute__" (.ref x) [.str "__class__" t] [] _ (by decide +kernel) (by decide +kernel) (l0.andThen (looks_subIn X sb)) (PySem.F.args_bexc_ga (.ref x) (.str "__class__" t)) ?_))
  unfold Builtin.«object.__getattribute__»
  refine wpAny_bind (wpAny_of_eq (a := ((Value.ref x : Value), [Value.str "__class__" t])) (by first | rfl | (simp only [slotArgs]; rfl)) ?_)
  refine wpAny_bind (wpAny_pure (wpAny_bind (l0.at (wpAny_bind (l3.at ?_)))))
  show wpAny _ _ (holding [Value.builtin "object.__class__"] (call (.builtin "getset_descriptor.__get__") [.builtin "object.__class__", .ref x, .ref C]) >>= ret) _ _ _
  refine wpAny_bind (wpAny_holding (wpAny_call (class_get (s := ⟨hp, g, d, tt, os⟩) X I hm (wpAny_pure ?_))))
  show wpAny _ _ (handedOut (.ref C)) _ _ _
  rw [handedOut_of (v := .ref C) rfl]
  exact wpAny_pure h
theorem exc_cls {Q : Value → Shared → Prop} {gt : Option Value} (X : K.In s.heap) (I : InstAt s.heap x ox C od) (ga : findIn K (.ref C) "__getattribute__" = some (some (.builtin "BaseException.__getattribute__"))) (gg : findIn K (.ref C) "__getattr__" = some gt)
    (sb : subIn K (.ref C) (.type "BaseException") = some true) (hf : findObj K C od "__class__" = some (.bind (.builtin "getset_descriptor.__get__") (.builtin "object.__class__"))) (hm : mroIn K C (.type "object") = some true) (h : Q (.ref C) { s with toks := s.toks + 1 }) :
    wpAny (model prog w) A (getAttr (.ref x) "__class__" expr) Q E s := wpAny_bind (wpAny_mkText (exc_clsBy (s := { s with toks := s.toks + 1 }) X I ga gg sb hf hm h))
theorem exc_cls? {Q : Option Value → Shared → Prop} {gt : Option Value} (X : K.In s.heap) (I : InstAt s.heap x ox C od) (ga : findIn K (.ref C) "__getattribute__" = some (some (.builtin "BaseException.__getattribute__"))) (gg : findIn K (.ref C) "__getattr__" = some gt)
    (sb : subIn K (.ref C) (.type "BaseException") = some true) (hf : findObj K C od "__class__" = some (.bind (.builtin "getset_descriptor.__get__") (.builtin "object.__class__"))) (hm : mroIn K C (.type "object") = some true) (h : Q (some (.ref C)) { s with toks := s.toks + 1 }) :
    wpAny (model prog w) A (getAttr? (.ref x) "__class__") Q E s := wpAny_bind (wpAny_mkText (wpAny_bind (wpAny_attempt (exc_clsBy (s := { s with toks := s.toks + 1 }) X I ga gg sb hf hm (wpAny_pure h)))))
/-- what isinstance asks of an error that has its dict -/
theorem kit_err (ga : findIn K (.ref C) "__getattribute__" = some (some (.builtin "BaseException.__getattribute__"))) (gg : findIn K (.ref C) "__getattr__" = some none) (sb : subIn K (.ref C) (.type "BaseException") = some true) (hd : hasDictIn K C = true)
    (ha : findIn K (.ref C) "__class__" = some (some (.builtin "object.__class__"))) (hn : specialIn K (.builtin "object.__class__") "__get__" = some (some (.builtin "getset_descriptor.__get__"))) (ht : takesIn K (.builtin "object.__class__") = some true) (hm : mroIn K C (.type "object") = some true) :
    KitX K (.ref x) (.ref C) (fun h => ∃ od, InstAt h x ox C od) where
  ty := fun _ _ _ ⟨_, I⟩ => I.type
  it := fun _ _ X _ => by
    obtain ⟨cd, hc, _⟩ := any_some hd
    unfold clsIn at hc
    split at hc
    · rename_i c' d' cd' sl' ho
      intro A' Q' E' s' k q
      unfold isType loadHead
      exact wpAny_bind (wpAny_loadPart (k _ _ (X _ _ ho)) (wpAny_pure q))
    · cases hc
  ne := fun h tp dd its n sl X htp => by
    obtain ⟨cd, hc, _⟩ := any_some hd
    cases q : (Value.ref C == Value.ref tp) with
    | false => rfl
    | true =>
      have e : C = tp := Value.ref.inj (beq_iff_eq.mp q)
      subst e
      unfold clsIn at hc
      split at hc
      · rename_i ho
        cases (X _ _ ho).symm.trans htp
      · cases hc
  ca := fun X ⟨_, I⟩ k => exc_cls? X I ga gg sb (find_data (by obtain ⟨cd, hc, _⟩ := any_some hd; rw [hc]; rfl) ha hn ht) hm k
/-- C.__name__ -/
structure NmC (K : Frag) (C : Addr) (nm : Str) : Prop where
  rd : readsIn K C (.type "type") = true
  fd : findCls K (.ref C) (.type "type") "__name__" = some (.get (.builtin "getset_descriptor.__get__") (.builtin "type.__name__") (.ref C) (.type "type"))
  ob : ∃ (o : Obj) (t : Tok), K.lookup C = some o ∧ o.cls = .type "type" ∧ (o.slots[2]?).join = some (.str nm t)
theorem name_run {R : Result → Shared → Prop} {tp v : Value} {o : Obj} (ho : s.heap.get? C = some o) (hc : o.cls = .type "type") (hs : (o.slots[2]?).join = some v) (h : R (.ok (.ret v)) s) :
    codeAny (model prog w) A (.call (.builtin "getset_descriptor.__get__") ⟨[.builtin "type.__name__", .ref C, tp], []⟩) R s := by
  obtain ⟨hh, g, dr, t, os⟩ := s
  have l0 : Looks (model prog w) hh (typeOf (.ref C)) (.type "type") := fun A Q E s k q => by
    refine wpAny_bind (wpAny_loadPart (k _ _ ho) (wpAny_pure ?_))
    rw [hc]
    exact q
  have l1 : Looks (model prog w) hh (isSubtype (.type "type") (.type "type")) true := Looks.of_pure (by rw [isSubtype_type]; kernel_rfl)
  refine codeAny_call_builtin KF.slot_gs.plain KF.entry_gs (KF.slot_gs.check _ _ _ _ _ _ _ _ ktyn_type (KF.args_gs _ _ _) ?_)
  unfold Builtin.«getset_descriptor.__get__» descrGet
  rw [dga_obj]
  refine wpAny_bind (wpAny_pure ?_)
  unfold descrGetter descrCheckInstance descrNameAndClass isInstance
  simp only [ktyn_owner]
  repeat lk
  refine ⟨Code.quiet_builtin _ (by decide +kernel), codeAny_builtin ktyn_entry ?_⟩
  unfold Builtin.«type.__name__»
  show wpAny _ _ (keptObject (.ref C) 2 "__name__" _) _ _ _
  unfold keptObject slotAt
  refine wpAny_bind (wpAny_bind (wpAny_loadPart ho (wpAny_pure ?_)))
  rw [hs]
  first
    | exact wpAny_pure h
    | exact wpAny_bind (wpAny_pure (wpAny_pure h))
    | exact wpAny_pure (wpAny_pure h)
theorem name_get {Q : Value → Shared → Prop} {nm : Str} (X : K.In s.heap) (N : NmC K C nm) (h : ∀ t, Q (.str nm t) { s with toks := s.toks + 1 }) : wpAny (model prog w) A (getAttr (.ref C) "__name__" expr) Q E s := by
  obtain ⟨o, t, hl, hc, hs⟩ := N.ob
  exact cls_bind X N.rd N.fd (wpAny_call (name_run (X C o hl) hc hs (handed_on rfl (h t))))
end
end FkE
namespace FK
open PySem PySem.Spec PyProof.Rows L2 Evl FkE
/-- e.__class__, e an error that is being made and has its dict -/
def tClsE (K : PySem.W.Frag) (te : TE) : TE := fun σ H Q => te σ H fun x H1 => ∃ (a C dx : Addr) (fs : List (Str × V)), x = .ref a ∧ H1 a = some (exo a C (some dx)) ∧ H1 dx = some (exd dx fs) ∧ ExcC K C ∧ Q (.ref C) H1
theorem pe_clsE {X : Cx} {e : Expr} {te : TE} {pos : Pos} (he : PE X e te) (hb : attributeBase e "__class__" X.env (eval e X.env) = eval e X.env := by rfl) : PE X (.Attribute e "__class__" pos) (tClsE X.K te) := by
  refine ⟨fun pins s σ H Q I h => attr_of hb (thn (he.run pins s σ H _ I h) fun u s1 ⟨x, H1, I1, rx, a, C, dx, fs, ex, ea, ed, T, q⟩ => ?_)⟩
  subst ex
  obtain rfl : u = Value.ref a := rx
  obtain ⟨t1, ho⟩ := exo_at I1.hok ea
  obtain ⟨mA, ⟨od, es, ep, hd, _⟩, _⟩ := exd_at I1.hok ed
  have J : PySem.W.InstAt s1.heap a ({ cls := .ref C, dict := some dx, data := .fields #[.ref t1, .none, .none, .none, .bool false, .none] } : Obj) C (some od) := ⟨ho, rfl, by unfold PySem.W.notCls; rfl, hd⟩
  exact exc_cls I1.kIn J T.hg T.hk T.hs (find_data (by obtain ⟨cd, hc, _⟩ := PySem.W.any_some T.hd; rw [hc]; rfl) T.ha T.hn T.ht) T.hm ⟨.ref C, H1, I1.tok _, rfl, q⟩
/-- e.__name__, e a class of one's own -/
def tNmC (K : PySem.W.Frag) (te : TE) : TE := fun σ H Q => te σ H fun x H1 => ∃ (C : Addr) (nm : Str), x = .ref C ∧ NmC K C nm ∧ Q (.str nm) H1
theorem pe_nmC {X : Cx} {e : Expr} {te : TE} {pos : Pos} (he : PE X e te) (hb : attributeBase e "__name__" X.env (eval e X.env) = eval e X.env := by rfl) : PE X (.Attribute e "__name__" pos) (tNmC X.K te) := by
  refine ⟨fun pins s σ H Q I h => attr_of hb (thn (he.run pins s σ H _ I h) fun u s1 ⟨x, H1, I1, rx, C, nm, ex, N, q⟩ => ?_)⟩
  subst ex
  obtain rfl : u = Value.ref C := rx
  exact name_get I1.kIn N fun t => ⟨.str nm, H1, I1.tok _, ⟨t, rfl⟩, q⟩
/-! ### making and raising -/
/-- what an error made so knows -/
def errF (nm : Str) (v : V) : List (Str × V) := [("name", .str nm), ("place", v)]
/-- what is asked of an error class -/
structure ErrK (K : PySem.W.Frag) (C : Addr) (nm : Str) : Prop where
  ox : OexC K C
  ex : ExcC K C
  nm : NmC K C nm
  np : PySem.W.findIn K (.ref C) "place" = some none
  nn : PySem.W.findIn K (.ref C) "name" = some none
theorem ErrK.xf {K : PySem.W.Frag} {C : Addr} {nm : Str} (Z : ErrK K C nm) : XfC K C := ⟨Z.ex.hg, Z.ex.hk, Z.ex.hs, Z.ex.hd⟩
/-- the __init__'s promise -/
def spInit (K : PySem.W.Frag) : Sp := fun vs H Q _ => ∃ (a C : Addr) (nm : Str) (v : V), vs = [.ref a, v] ∧ ErrK K C nm ∧ H a = some (exo a C none) ∧
  ∀ d, H d = none → d ≠ a → Q .non (upd (upd (upd H d (exd d [("place", v)])) a (exo a C (some d))) d (exd d (errF nm v)))
/-- an error class under its name, with what its making leans on -/
structure ErrC (P : Program) (w : World) (K : PySem.W.Frag) (mg : Str → Option Value) (base : Heap) (x : Str) (C : Addr) : Prop where
  gC : mg x = some (.ref C)
  k : ErrK K C x
  ini : ∃ (fI : Addr) (fd : FuncData), PySem.W.findIn K (.ref C) "__init__" = some (some (.ref fI)) ∧ PySem.W.typeIn K (.ref fI) = some (.type "function") ∧
    FnOk P w K mg base CX0 1 fI fd ["self", "place"] (spInit K) ∧ Binds K fd ["self", "place"] []
/-- raise x(e) -/
def tRz (K : PySem.W.Frag) (C : Addr) (te : TE) (W : WX) : TS := fun _ σ H => tMkO C (spInit K) [] (tCons te tNil) σ H fun cls d H' => W cls d σ H'
theorem ps_raiseC {X : Cx} {W : WX} {x : Str} {C : Addr} {e : Expr} {te : TE} {j : Nat} {p pos pos' : Pos} (Z : ErrC X.prog X.w X.K X.mg X.base x C) (hc : X.calm = true) (tk : Takes X W) (hr : Room j X.A) (hj : 2 ≤ j) (hg : Gl X x) (ha : PA X [e] (tCons te tNil))
    (hdb : (x == ("__debug__" : Str)) = false := by decide) (hst : starEach [e] X.env = (false, eval e X.env) :: starEach [] X.env := by rfl) (hpl : (backTo pos (starEach [] X.env)).any (·.1) = false := by rfl) :
    PS X (.Raise (some (.Call (.Name x p) [e] [] pos)) none pos') (tRz X.K C te W) := by
  obtain ⟨fI, fd, iC, tI, F, b⟩ := Z.ini
  exact ps_raise (pos := pos') hc tk (pmk_oex (es := []) (dvs := []) (ds := []) Z.k.ox iC tI F (hr.mono hj) b .nil pass0 hg Z.gC ha hdb hst hpl)
theorem del_upd {H : Hp} {a : Addr} {o : HO} (h : H a = none) : del (upd H a o) a = H := by
  funext b
  by_cases c : b = a
  · subst c
    rw [del_same, h]
  · rw [del_ne c, upd_ne c]
section
variable {K : PySem.W.Frag} {σ : L2.St} {B : Hp} {te : TE} {tz : TS} {D : Ends} {v : V} {W : WX} {C : Addr} {x : Str}
theorem r_raise (Z : ErrK K C x) (h : Ev te σ B v) (k : ∀ d H, B d = none → Ex B H → H d = some (.xd (errF x v)) → W (.ref C) (some d) σ H) : R (tSeq (tRz K C te W) tz) D σ B := fun H e =>
  h H e _ fun H1 e1 => ⟨(by decide : 1 ≤ 1000), fun a na => ⟨a, C, x, v, rfl, Z, upd_same, fun d nd hda => ⟨rfl, d, errF x v, by rw [upd_ne (Ne.symm hda), upd_same], upd_same, by rw [upd_ne hda] at nd; exact nd, by
    rw [upd_ne hda] at nd
    have hb : upd (del (upd (upd (upd (upd H1 a (exo a C none)) d (exd d [("place", v)])) a (exo a C (some d))) d (exd d (errF x v))) a) d (.xd (errF x v)) = upd H1 d (.xd (errF x v)) := by
      funext b
      by_cases c : b = d
      · subst c
        rw [upd_same, upd_same]
      · rw [upd_ne c, upd_ne c]
        by_cases c2 : b = a
        · subst c2
          rw [del_same, na]
        · rw [del_ne c2, upd_ne c, upd_ne c2, upd_ne c, upd_ne c2]
    rw [hb]
    exact k d _ (fresh_back (e.trans e1) nd) ((e.trans e1).trans (Ex.new nd)) upd_same⟩⟩⟩
end
/-! ### defs that may raise -/
/-- what comes of a call: a value, a new object, an error -/
inductive Out where
  | val (z : V) | new (o : HO) | err (x : Str) (v : V)
def spO (mg : Str → Option Value) (pre : List V → Hp → Out → Prop) : Sp := fun vs H Q E => ∃ r, pre vs H r ∧ match r with
  | .val z => ∀ H2, Ex H H2 → Q z H2
  | .new o => ∀ p H2, H p = none → Ex H H2 → H2 p = some o → Q (.ref p) H2
  | .err x v => ∀ C d H2, mg x = some (.ref C) → H d = none → Ex H H2 → H2 d = some (.xd (errF x v)) → E (.ref C) (some d) H2
structure CalX (P : Program) (w : World) (K : PySem.W.Frag) (mg : Str → Option Value) (base : Heap) (k : Nat) (x : Str) (sp : Sp) : Prop where
  ex : ∃ (f : Addr) (fd : FuncData) (ps : List Str), FnOk P w K mg base (L2.CX P w) k f fd ps sp ∧ mg x = some (.ref f) ∧ PySem.W.keepIn K (.ref f) = true ∧ Binds K fd ps []
section
variable {P : Program} {w : World} {K : PySem.W.Frag} {mg : Str → Option Value} {base : Heap}
theorem calX {x : Str} {st : Stmt} {N ps : List Str} {k : Nat} {sp : Sp} (D : Def K mg x st ps) (S : FnScope N ps (defScope st)) (len : ∀ vs H Q E, sp vs H Q E → vs.length = ps.length)
    (hbody : ∀ (f : Addr) (cdv : Value) (A : Around) (outer : List Env) (s : Shared) (H : Hp) (vs : List V) (Q : VK) (E : XK), Room k (A.deeper (envOfC x (defScope st) s.heap.objs.size f cdv)) → sp vs H Q E →
      ∃ t, PSs (cxOf (L2.CX P w) P w K mg base N x (defScope st) f cdv A outer s H E) (defBody st) t ∧ t { nx := fun _ H' => Q .non H', rt := Q } (start N vs) H) : CalX P w K mg base (k + 1) x sp := by
  obtain ⟨f, fd, F, m, b⟩ := D.ex
  exact ⟨f, fd, ps, F.okX S len (hbody f), m, F.kp, b⟩
end
section
variable {X : Cx} {k j : Nat} {x : Str} {sp : Sp} {p pos : Pos} {e : Expr} {es : List Expr} {t : TA} {W : WX}
theorem pe_cX (c : CalX X.prog X.w X.K X.mg X.base k x sp) (tk : Takes X W) (hr : Room j X.A) (hk : k ≤ j) (hg : Gl X x) (ha : PA X (e :: es) t)
    (hdb : (x == ("__debug__" : Str)) = false := by decide) (he : starEach (e :: es) X.env = (false, eval e X.env) :: starEach es X.env := by rfl) (hpl : (backTo pos (starEach es X.env)).any (·.1) = false := by rfl) :
    PE X (.Call (.Name x p) (e :: es) [] pos) (tCallS sp (WE W) t) := by
  obtain ⟨f, fd, ps, F, hm, kp, b⟩ := c.ex
  exact pe_callS F (hr.mono hk) hg hm kp b (fun σ => passAt tk σ) ha hdb he hpl
end
section
variable {mg : Str → Option Value} {σ : L2.St} {B : Hp} {ta : TA} {te : TE} {tz : TS} {D : Ends} {vs : List V} {W : WX} {z v : V} {o : HO} {x : Str} {pre : List V → Hp → Out → Prop}
theorem ev_cx (h : EvA ta σ B vs) (hp : ∀ H, Ex B H → pre vs H (.val z)) : Ev (tCallS (spO mg pre) (WE W) ta) σ B z := fun H1 e Q q => h H1 e _ fun H2 e2 => ⟨.val z, hp H2 (e.trans e2), fun H3 e3 => q H3 (e2.trans e3)⟩
theorem en_cx (h : EvA ta σ B vs) (hp : ∀ H, Ex B H → pre vs H (.new o)) : EvN (tCallS (spO mg pre) (WE W) ta) σ B o := fun H1 e Q q => h H1 e _ fun H2 e2 => ⟨.new o, hp H2 (e.trans e2), fun p H3 np e3 h3 => q p H3 (fresh_back e2 np) (e2.trans e3) h3⟩
/-- it raises -/
def EvE (mg : Str → Option Value) (W : WX) (te : TE) (σ : L2.St) (B : Hp) (x : Str) (v : V) : Prop := ∀ H1, Ex B H1 → ∀ Q : VK, (∀ C d H2, mg x = some (.ref C) → B d = none → Ex B H2 → H2 d = some (.xd (errF x v)) → W (.ref C) (some d) σ H2) → te σ H1 Q
theorem ee_cx (h : EvA ta σ B vs) (hp : ∀ H, Ex B H → pre vs H (.err x v)) : EvE mg W (tCallS (spO mg pre) (WE W) ta) σ B x v := fun H1 e Q q => h H1 e _ fun H2 e2 => ⟨.err x v, hp H2 (e.trans e2), fun C d H3 m nd e3 h3 => q C d H3 m (fresh_back (e.trans e2) nd) ((e.trans e2).trans e3) h3⟩
theorem r_retE (h : EvE mg W te σ B x v) (k : ∀ C d H, mg x = some (.ref C) → B d = none → Ex B H → H d = some (.xd (errF x v)) → W (.ref C) (some d) σ H) : R (tSeq (tRet te) tz) D σ B := fun H e => h H e _ k
theorem r_asgE {i : Nat} (h : EvE mg W te σ B x v) (k : ∀ C d H, mg x = some (.ref C) → B d = none → Ex B H → H d = some (.xd (errF x v)) → W (.ref C) (some d) σ H) : R (tSeq (tAsg te (gName i)) tz) D σ B := fun H e => h H e _ k
end
/-- isinstance(e, c), e the error that the suite holds, with its dict -/
def rIsD (K : PySem.W.Frag) (C a d : Addr) : List V → Hp → VK → Prop := fun xs H Q => ∃ (c : V) (cv : Value) (b : Bool) (fs : List (Str × V)), xs = [.ref a, c] ∧ ClsV c cv ∧ PySem.W.kitOne K (.ref C) cv = some b ∧ H d = some (.xd fs) ∧ Q (.bl b) H
theorem call_isD {X : Cx} {a C d : Addr} {oe : Obj} {pn : List (Addr × Obj)} (T : ExcC X.K C) (hz : Zc (.ref C) (some d) oe) (hf : ∃ vs, oe.data = .fields vs) : CallR (X.suite a ((a, oe) :: pn)) (.builtin "isinstance") (rIsD X.K C a d) := by
  intro pins s σ H xs us Q I r h
  obtain ⟨c, cv, b, fs, rfl, hcv, e, hd, q⟩ := h
  cases r with
  | cons rx rr =>
    cases rr with
    | cons rt rr =>
      cases rr
      cases rx
      have ec := hcv.eq rt
      subst ec
      obtain ⟨hget, _⟩ := I.pin (a, oe) (List.mem_append.mpr (.inl List.mem_cons_self))
      obtain ⟨vs, hv⟩ := hf
      have hxd : ObjOk X.prog X.w H s.heap d (.xd fs) := I.hok d _ hd
      obtain ⟨mA, ⟨od, es, ep, ho, _⟩, _⟩ := hxd
      have J : PySem.W.InstAt s.heap a oe C (some od) := ⟨hget, hz.1, by unfold PySem.W.notCls; rw [hv] <;> rfl, by rw [hz.2]; exact ho⟩
      exact PySem.W.kia_one (kit_err T.hg T.hk T.hs T.hd T.ha T.hn T.ht T.hm) I.kIn ⟨_, J⟩ e (fun z => nomatch z) fun tk => ⟨.bl b, H, I.kept (t' := tk) fun _ _ z => z, rfl, q⟩
end FK

set_option Elab.async false
set_option linter.all false
set_option maxRecDepth 100000
/-! suites, data compared whole, further words (own text) -/
namespace FK
open PySem PySem.Spec PyProof.Rows L2 Evl FkE
theorem ErrC.g {P : Program} {w : World} {K : PySem.W.Frag} {mg : Str → Option Value} {base : Heap} {x : Str} {C : Addr} (Z : ErrC P w K mg base x C) : ∃ u, mg x = some u ∧ RelV (.ref C) u := ⟨_, Z.gC, rfl⟩
/-! ### data -/
section
variable {K : PySem.W.Frag} {H H' : Hp}
mutual
theorem dp_ex (e : Ex H H') : ∀ (d : PyData) (v : V), Dp K H v d → Dp K H' v d
  | .none, _, h => by
    cases h
    exact .non
  | .bool b, _, h => by
    cases h
    exact .bl b
  | .int i, _, h => by
    cases h
    exact .int i
  | .str x, _, h => by
    cases h
    exact .str x
  | .list ds, _, h => by
    cases h with
    | lst a b => exact .lst (ex_l e a) (dpa_ex e ds _ b)
  | .tuple ds, _, h => by
    cases h with
    | tup a b => exact .tup (ex_t e a) (dpa_ex e ds _ b)
  | .dict ds, _, h => nomatch h
theorem dpa_ex (e : Ex H H') : ∀ (ds : List PyData) (vs : List V), DpAll K H vs ds → DpAll K H' vs ds
  | [], _, h => by
    cases h
    exact .nil
  | d :: ds, _, h => by
    cases h with
    | cons a b => exact .cons (dp_ex e d _ a) (dpa_ex e ds _ b)
end
theorem dpa_ints : ∀ ns : List Int, DpAll K H (ns.map V.int) (ns.map PyData.int)
  | [] => .nil
  | n :: r => .cons (.int n) (dpa_ints r)
theorem eqvA_ints : ∀ xs ys : List Int, PyData.eqvAll (xs.map PyData.int) (ys.map PyData.int) = decide (xs = ys)
  | [], [] => by simp [PyData.eqvAll]
  | [], y :: ys => by simp [PyData.eqvAll]
  | x :: xs, [] => by simp [PyData.eqvAll]
  | x :: xs, y :: ys => by
    have ih := eqvA_ints xs ys
    show (PyData.eqv (.int x) (.int y) && PyData.eqvAll (xs.map PyData.int) (ys.map PyData.int)) = _
    rw [ih]
    have e : PyData.eqv (.int x) (.int y) = decide (x = y) := by
      simp only [PyData.eqv]
      rfl
    rw [e]
    by_cases h1 : x = y <;> by_cases h2 : xs = ys <;> simp [h1, h2]
theorem eqv_ints (xs ys : List Int) : PyData.eqv (.list (xs.map PyData.int)) (.list (ys.map PyData.int)) = decide (xs = ys) := by
  rw [PyData.eqv, eqvA_ints]
end
section
variable {K : PySem.W.Frag} {σ : L2.St} {B : Hp} {ta tb te : TE} {v : V} {d e : PyData}
/-- a value that this data is -/
def EvD (K : PySem.W.Frag) (te : TE) (σ : L2.St) (B : Hp) (d : PyData) : Prop := EvP te σ B fun v H => Dp K H v d
theorem ed_ev (h : Ev te σ B v) (hd : Dp K B v d) : EvD K te σ B d := fun H1 a Q q => h H1 a _ fun H2 e2 => q v H2 e2 (dp_ex (a.trans e2) d v hd)
theorem ed_tup {vs : List V} {ds : List PyData} (h : EvN te σ B (.tup vs)) (hd : DpAll K B vs ds) : EvD K te σ B (.tuple ds) := fun H1 a Q q => h H1 a _ fun p H2 _ e2 h2 => q _ H2 e2 (.tup (st_of h2) (dpa_ex (a.trans e2) ds vs hd))
theorem ed_lst {vs : List V} {ds : List PyData} (h : EvN te σ B (.lst vs)) (hd : DpAll K B vs ds) : EvD K te σ B (.list ds) := fun H1 a Q q => h H1 a _ fun p H2 _ e2 h2 => q _ H2 e2 (.lst (sq_of h2) (dpa_ex (a.trans e2) ds vs hd))
theorem ev_eqD (ha : EvD K ta σ B d) (hb : EvD K tb σ B e) (sd : SeqAt.shaped d = true) (se : SeqAt.shaped e = true) : Ev (tOp (rEqD K) ta tb) σ B (.bl (PyData.eqv d e)) := fun H1 a Q q =>
  ha H1 a _ fun v H2 e2 hv => hb H2 (a.trans e2) _ fun u H3 e3 hu => ⟨d, e, dp_ex e3 d v hv, hu, sd, se, q H3 (e2.trans e3)⟩
theorem ev_neD (ha : EvD K ta σ B d) (hb : EvD K tb σ B e) (sd : SeqAt.shaped d = true) (se : SeqAt.shaped e = true) : Ev (tOp (rNeD K) ta tb) σ B (.bl (!PyData.eqv d e)) := fun H1 a Q q =>
  ha H1 a _ fun v H2 e2 hv => hb H2 (a.trans e2) _ fun u H3 e3 hu => ⟨d, e, dp_ex e3 d v hv, hu, sd, se, q H3 (e2.trans e3)⟩
end
/-- try: .. except c as slot i: .. -/
def tTryA (K : PySem.W.Frag) (c : Value) (i : Nat) (tb : WX → TS) (ts : Addr → Value → Option Addr → TS) (Wout : WX) : TS := fun D σ H => tb (wAs K c i ts Wout D) D σ H
theorem ps_tryA {X : Cx} {st : Stmt} {c : Value} {i : Nat} {tb : WX → TS} {ts : Addr → Value → Option Addr → TS} {Wout : WX} (h : PS X st (fun D σ H => tb (wAs X.K c i ts Wout D) D σ H)) : PS X st (tTryA X.K c i tb ts Wout) := h
/-! ### statements -/
theorem ip_mul {X : Cx} : PIp X .Mult (rI CMul fun i j => .int (i * j)) := fun pins s σ H x y u v Q I rx ry h => iop_mul pins s σ H x y u v Q I rx ry h
section
variable {K : PySem.W.Frag} {σ : L2.St} {B : Hp} {ta tb te tl : TE} {tz : TS} {D : Ends} {v : V}
theorem r_augC {C : Int → Int → Prop} {i : Nat} {f : Int → Int → Int} {a b : Int} (hx : σ[i]? = some (some (.int a))) (h : Ev te σ B (.int b)) (hc : C a b) (k : R tz D (σ.set i (some (.int (f a b)))) B) : R (tSeq (tAug i te (rI C fun i j => .int (f i j))) tz) D σ B := fun H e =>
  ⟨_, hx, h H e _ fun H1 e1 => ⟨a, b, rfl, rfl, hc, k H1 (e.trans e1)⟩⟩
theorem r_try {tb : WX → TS} {c : Value} {i : Nat} {ts : Addr → Value → Option Addr → TS} {Wout : WX} (h : R (tb (wAs K c i ts Wout { D with nx := tz D })) { D with nx := tz D } σ B) : R (tSeq (tTryA K c i tb ts Wout) tz) D σ B := h
theorem r_setL {l : Addr} {xs : List V} {j : Nat} (hl : B l = some (.lst xs)) (h : Ev te σ B v) (ho : Ev ta σ B (.ref l)) (hi : Ev tb σ B (.int (j : Int))) (hj : j < xs.length) (k : R tz D σ (upd B l (.lst (xs.set j v)))) :
    R (tSeq (tAsg te (gSub ta tb rSetL)) tz) D σ B := fun H a => q_setL (a l _ hl) (h.mono a) (ho.mono a) (hi.mono a) hj fun H1 e => k _ (ex_mut (a.trans e))
end
/-! ### suites -/
/-- a suite that is read for the errors of our making alone -/
def tOn (K : PySem.W.Frag) (f : Addr → Addr → TS) (cls : Value) (d : Option Addr) : TS := fun D σ H => ∃ C dd nm, cls = .ref C ∧ d = some dd ∧ ErrK K C nm ∧ f C dd D σ H
theorem pss_on {X' : Cx} {K : PySem.W.Frag} {f : Addr → Addr → TS} {cls : Value} {d : Option Addr} {oe : Obj} {body : List Stmt} (hz : Zc cls d oe) (h : ∀ C dd nm, ErrK K C nm → Zc (.ref C) (some dd) oe → PSs X' body (f C dd)) : PSs X' body (tOn K f cls d) :=
  ⟨fun pins s σ H D I ⟨C, dd, nm, e1, e2, Z, hf⟩ => by
    subst e1 e2
    exact (h C dd nm Z hz).run pins s σ H D I hf⟩
section
variable {K : PySem.W.Frag} {σ : L2.St} {B : Hp} {ta : TA} {te : TE} {v c : V} {W : WX} {C a d : Addr} {cv : Value} {b : Bool} {fs : List (Str × V)} {x : Str}
/-- what the clause does with the error -/
theorem was_on {i : Nat} {f : Addr → Addr → Addr → TS} {Wout : WX} {D : Ends} {H : Hp} {cF : Value} (Z : ErrK K C x) (hx : PySem.W.exmOne K (.ref C) cF = some true)
    (h : ∀ a, H a = none → f a C d { nx := fun σ' H' => D.nx (σ'.set i none) H', rt := D.rt, bk := fun σ' H' => D.bk (σ'.set i none) H', ct := fun σ' H' => D.ct (σ'.set i none) H' } (σ.set i (some (.ref a))) H) :
    wAs K cF i (fun a => tOn K (f a)) Wout D (.ref C) (some d) σ H := ⟨true, hx, fun _ a ha => ⟨C, d, x, rfl, rfl, Z, h a ha⟩, fun q => nomatch q⟩
theorem ev_isD (h : EvA ta σ B [.ref a, c]) (hc : ClsV c cv) (hk : PySem.W.kitOne K (.ref C) cv = some b) (hd : B d = some (.xd fs)) : Ev (tCB (rIsD K C a d) ta) σ B (.bl b) := fun H1 e Q q =>
  h H1 e _ fun H2 e2 => ⟨c, cv, b, fs, rfl, hc, hk, (e.trans e2) d _ hd, q H2 e2⟩
theorem ev_xf {f : Str} (h : Ev te σ B (.ref a)) (hd : B d = some (.xd fs)) (hl : fs.lookup f = some v) : Ev (tXf a (.ref C) (some d) C f te) σ B v := fun H1 e Q q =>
  h H1 e _ fun H2 e2 => ⟨rfl, rfl, d, fs, v, rfl, (e.trans e2) d _ hd, hl, q H2 e2⟩
theorem lk_name {v : V} : (errF x v).lookup ("name" : Str) = some (V.str x) := by simp [errF, List.lookup]
theorem lk_place {v : V} : (errF x v).lookup ("place" : Str) = some v := by
  have e : ((Str.ofString "place") == (Str.ofString "name")) = false := by decide +kernel
  simp [errF, List.lookup, e]
end
/-! ### classes among classes -/
section
variable {K : PySem.W.Frag} {C F : Addr} {b : Bool}
theorem kcls_of (ic : PySem.W.isClsIn K F = true) (ty : PySem.W.typeIn K (.ref F) = some (.type "type")) (sb : PySem.W.subIn K (.ref C) (.ref F) = some b) : PySem.W.kitCls K (.ref C) (.ref F) = some b := by
  have e : ((PySem.W.clsIn K F).isSome && PySem.W.typeIn K (.ref F) == some (.type "type")) = true := by
    have ic' : (PySem.W.clsIn K F).isSome = true := ic
    rw [ic', ty]
    rfl
  show (if ((PySem.W.clsIn K F).isSome && PySem.W.typeIn K (.ref F) == some (.type "type")) = true then PySem.W.subIn K (.ref C) (.ref F) else none) = some b
  rw [if_pos e]
  exact sb
theorem exm_of (ex : PySem.W.subIn K (.ref F) (.type "BaseException") = some true) (ic : PySem.W.isClsIn K F = true) (ty : PySem.W.typeIn K (.ref F) = some (.type "type")) (sb : PySem.W.subIn K (.ref C) (.ref F) = some b) : PySem.W.exmOne K (.ref C) (.ref F) = some b := by
  have e : (PySem.W.subIn K (.ref F) (.type "BaseException") == some true) = true := by
    rw [ex]
    rfl
  show (if (PySem.W.subIn K (.ref F) (.type "BaseException") == some true) = true then PySem.W.kitCls K (.ref C) (.ref F) else none) = some b
  rw [if_pos e]
  exact kcls_of ic ty sb
theorem kit_of (ne : (Value.ref C == Value.ref F) = false) (ic : PySem.W.isClsIn K F = true) (ty : PySem.W.typeIn K (.ref F) = some (.type "type")) (sb : PySem.W.subIn K (.ref C) (.ref F) = some b) : PySem.W.kitOne K (.ref C) (.ref F) = some b := by
  show (if (Value.ref C == Value.ref F) = true then some true else PySem.W.kitCls K (.ref C) (.ref F)) = some b
  rw [ne, if_neg Bool.false_ne_true]
  exact kcls_of ic ty sb
end
/-! ### rules within a suite, the written part told from outside -/
section
variable {X : Cx} {a : Addr} {pn : List (Addr × Obj)} {o e : Expr} {es : List Expr} {to : TE} {t : TA} {name : Str} {apos cpos : Pos} {T id : String} {r : V → List V → Hp → VK → Prop}
theorem ix_listS : IxR (X.suite a pn) (rIxL X.K) := ix_list
theorem ix_tupS : IxR (X.suite a pn) (rIxT X.K) := ix_tup
theorem sl_listS : SlR (X.suite a pn) (rSlL X.K) := sl_list
theorem call_len_seqS : CallR (X.suite a pn) (.builtin "len") (fun xs H Q => ∃ p ys, xs = [.ref p] ∧ (SqL X.K H p ys ∨ SqT X.K H p ys) ∧ Q (.int ys.length) H) := call_len_seq
theorem op_eqDS (hu : X.A.units + 64 < cLine) : OpR (X.suite a pn) (compareOp .Eq) (rEqD X.K) := op_eqD hu
theorem op_neDS (hu : X.A.units + 64 < cLine) : OpR (X.suite a pn) (compareOp .NotEq) (rNeD X.K) := op_neD hu
theorem pe_bmS (pa : PlainAttrs T) (slot : Slot T name id) (hty : typeOf (.builtin id) = pure (.type "method_descriptor")) (hm : MtR (X.suite a pn) id r) (ho : PE (X.suite a pn) o to) (ha : PA (X.suite a pn) (e :: es) t) (hbase : attributeBase o name X.env (eval o X.env) = eval o X.env := by rfl) (hfew : ((backTo cpos (starEach (e :: es) X.env)).all (fun x => !x.1) && (backToKw cpos (keywordEach [] X.env)).all (fun x => x.1.isSome) && decide ((e :: es).length + ([] : List Keyword).length + (if ([] : List Keyword).isEmpty then 0 else 1) < 30)) = true := by rfl) (hline : (apos.endLine == cpos.line) = true := by rfl) (hs : starEach (e :: es) X.env = (false, eval e X.env) :: starEach es X.env := by rfl) (hplain : (backTo cpos (starEach es X.env)).any (·.1) = false := by rfl) : PE (X.suite a pn) (.Call (.Attribute o name apos) (e :: es) [] cpos) (tBM X.K T r to t) := pe_bm pa slot hty hm ho ha hbase hfew hline hs hplain
end
/-! ### further expressions -/
section
variable {K : PySem.W.Frag} {σ : L2.St} {B : Hp} {ta tb te : TE}
theorem en_list {a : Addr} {xs : List V} (h : Ev te σ B (.ref a)) (hx : SqL K B a xs) : EvN (tCB (fun xs H Q => ∃ p ys, xs = [.ref p] ∧ (SqL K H p ys ∨ SqT K H p ys) ∧ ∀ l, H l = none → Q (.ref l) (upd H l (.lst ys))) (tCons te tNil)) σ B (.lst xs) := fun H1 e Q q =>
  h H1 e _ fun H2 e2 => ⟨a, xs, rfl, .inl (ex_l (e.trans e2) hx), fun l hl => q l _ (fresh_back e2 hl) (e2.trans (Ex.new hl)) upd_same⟩
theorem en_rep {xs : List V} {k : Int} (ha : EvN ta σ B (.lst xs)) (hb : Ev tb σ B (.int k)) (h0 : 0 ≤ k) (h1 : k ≤ 100000) (hz : xs.length * k.toNat ≤ 100000) : EvN (tOp rRep ta tb) σ B (.lst (List.replicate k.toNat xs).flatten) := fun H1 e Q q =>
  ha H1 e _ fun p H2 hp e2 h2 => hb H2 (e.trans e2) _ fun H3 e3 => ⟨p, k, xs, rfl, rfl, e3 p _ h2, by omega, by omega, sz_of hz, fun r hr => q r _ (fresh_back (e2.trans e3) hr) ((e2.trans e3).trans (Ex.new hr)) upd_same⟩
theorem en_slN {tl th : TO} {xs : List V} {lo hi : Option Int} (h : EvN te σ B (.lst xs)) (h1 : EvO tl σ B lo) (h2 : EvO th σ B hi) : EvN (tSl (rSlL K) te tl th) σ B (.lst (cutV xs lo hi)) := fun H1 e Q q =>
  h H1 e _ fun p H2 hp e2 hh => h1 H2 (e.trans e2) _ fun H3 e3 => h2 H3 ((e.trans e2).trans e3) _ fun H4 e4 => ⟨p, xs, rfl, sq_of (e4 p _ (e3 p _ hh)), fun r hr => q r _ (fresh_back ((e2.trans e3).trans e4) hr) (((e2.trans e3).trans e4).trans (Ex.new hr)) upd_same⟩
end
/-! ### arguments of which some are new; calls that give a value of which something is known -/
def PVd (pre : List V → Hp → (V → Prop) → Prop) : Sp := fun vs H Q _ => ∃ F, pre vs H F ∧ ∀ v H2, Ex H H2 → F v → Q v H2
section
variable {K : PySem.W.Frag} {σ : L2.St} {B : Hp} {ta ts : TA} {te tl : TE} {tz : TS} {D : Ends} {tu : TS} {v z : V} {o : HO} {vs : List V} {E : XK} {W : WX} {Pp : List V → Hp → Prop} {mg : Str → Option Value} {x : Str}
theorem eap_nil : EvAP tNil σ B (fun vs _ => vs = []) := fun H1 _ Q q => q [] H1 (Ex.refl H1) rfl
theorem eap_v (h : Ev te σ B v) (t : EvAP ts σ B Pp) : EvAP (tCons te ts) σ B (fun vs H => ∃ r, vs = v :: r ∧ Pp r H) := fun H1 e Q q =>
  h H1 e _ fun H2 e2 => t H2 (e.trans e2) _ fun r H3 e3 hr => q _ H3 (e2.trans e3) ⟨r, rfl, hr⟩
theorem eap_n (h : EvN te σ B o) (t : EvAP ts σ B Pp) : EvAP (tCons te ts) σ B (fun vs H => ∃ p r, vs = .ref p :: r ∧ H p = some o ∧ Pp r H) := fun H1 e Q q =>
  h H1 e _ fun p H2 _ e2 hp => t H2 (e.trans e2) _ fun r H3 e3 hr => q _ H3 (e2.trans e3) ⟨p, r, rfl, e3 p _ hp, hr⟩
theorem ev_pvA {pre : List V → Hp → V → Prop} (h : EvAP ta σ B Pp) (hp : ∀ vs H, Ex B H → Pp vs H → pre (vs ++ []) H z) : Ev (tCall (PV pre) [] E ta) σ B z := fun H1 e Q q =>
  h H1 e _ fun vs H2 e2 hv => ⟨z, hp vs H2 (e.trans e2) hv, fun H3 e3 => q H3 (e2.trans e3)⟩
theorem en_pnA {pre : List V → Hp → HO → Prop} (h : EvAP ta σ B Pp) (hp : ∀ vs H, Ex B H → Pp vs H → pre (vs ++ []) H o) : EvN (tCall (PN pre) [] E ta) σ B o := fun H1 e Q q =>
  h H1 e _ fun vs H2 e2 hv => ⟨o, hp vs H2 (e.trans e2) hv, fun p H3 hp' e3 h3 => q p H3 (fresh_back e2 hp') (e2.trans e3) h3⟩
theorem ev_cxA {pre : List V → Hp → Out → Prop} (h : EvAP ta σ B Pp) (hp : ∀ vs H, Ex B H → Pp vs H → pre vs H (.val z)) : Ev (tCallS (spO mg pre) (WE W) ta) σ B z := fun H1 e Q q => h H1 e _ fun vs H2 e2 hv => ⟨.val z, hp vs H2 (e.trans e2) hv, fun H3 e3 => q H3 (e2.trans e3)⟩
theorem en_cxA {pre : List V → Hp → Out → Prop} (h : EvAP ta σ B Pp) (hp : ∀ vs H, Ex B H → Pp vs H → pre vs H (.new o)) : EvN (tCallS (spO mg pre) (WE W) ta) σ B o := fun H1 e Q q => h H1 e _ fun vs H2 e2 hv => ⟨.new o, hp vs H2 (e.trans e2) hv, fun p H3 np e3 h3 => q p H3 (fresh_back e2 np) (e2.trans e3) h3⟩
theorem ep_pvd {pre : List V → Hp → (V → Prop) → Prop} {F : V → Prop} (h : EvA ta σ B vs) (hp : ∀ H, Ex B H → pre (vs ++ []) H F) : EvP (tCall (PVd pre) [] E ta) σ B (fun v _ => F v) := fun H1 e Q q =>
  h H1 e _ fun H2 e2 => ⟨F, hp H2 (e.trans e2), fun v H3 e3 hf => q v H3 (e2.trans e3) hf⟩
theorem ev_max2 {i j : Int} (h : EvA ta σ B [.int i, .int j]) : Ev (tCB (fun xs H Q => ∃ i j, xs = [V.int i, .int j] ∧ Q (.int (if j > i then j else i)) H) ta) σ B (.int (if j > i then j else i)) := fun H1 e Q q => h H1 e _ fun H2 e2 => ⟨i, j, rfl, q H2 e2⟩
theorem ev_min2 {i j : Int} (h : EvA ta σ B [.int i, .int j]) : Ev (tCB (fun xs H Q => ∃ i j, xs = [V.int i, .int j] ∧ Q (.int (if j < i then j else i)) H) ta) σ B (.int (if j < i then j else i)) := fun H1 e Q q => h H1 e _ fun H2 e2 => ⟨i, j, rfl, q H2 e2⟩
/-- a for whose end is reached from several places -/
theorem r_forR1K {j : Nat} {n : Int} (Mid : L2.St → Hp → Prop) (h : EvA ta σ B [.int n]) (hn : 0 ≤ n ∧ n ≤ 100000) (Pv : Nat → L2.St → Hp → Prop) (h0 : Pv 0 σ B) (k : ∀ σ' B', Mid σ' B' → R tz D σ' B')
    (hs : (∀ σ' B', Mid σ' B' → R tz D σ' B') → ∀ (i : Nat) σ' B', (i : Int) < n → Pv i σ' B' → R tu (Lp Pv i D tz) (σ'.set j (some (.int (i : Int)))) B') (hd : ∀ σ' B', Pv n.toNat σ' B' → Mid σ' B') : R (tSeq (tFor (iRng1 ta) (gName j) tu) tz) D σ B :=
  r_forR1 h hn Pv h0 (hs k) fun σ' B' p => k σ' B' (hd σ' B' p)
theorem r_forR2K {j : Nat} {lo n : Int} (Mid : L2.St → Hp → Prop) (h : EvA ta σ B [.int lo, .int n]) (hn : 0 ≤ lo ∧ lo ≤ 100000 ∧ -100000 ≤ n ∧ n ≤ 100000) (Pv : Nat → L2.St → Hp → Prop) (h0 : Pv 0 σ B) (k : ∀ σ' B', Mid σ' B' → R tz D σ' B')
    (hs : (∀ σ' B', Mid σ' B' → R tz D σ' B') → ∀ (i : Nat) σ' B', lo + (i : Int) < n → Pv i σ' B' → R tu (Lp Pv i D tz) (σ'.set j (some (.int (lo + (i : Int))))) B') (hd : ∀ σ' B', Pv (n - lo).toNat σ' B' → Mid σ' B') : R (tSeq (tFor (iRng2 ta) (gName j) tu) tz) D σ B :=
  r_forR2 h hn Pv h0 (hs k) fun σ' B' p => k σ' B' (hd σ' B' p)
end
end FK

set_option Elab.async false
set_option linter.all false
set_option maxRecDepth 100000
set_option maxHeartbeats 2000000
/-! dicts whose keys are ints and texts; pairs in a for; places in lists (own text) -/
namespace FK
open PySem PySem.Spec PyProof.Rows L2 Evl FkE
/-! ### list(d.values()) -/
theorem kv_vals {kvs : List (Key × V)} {vs : List (Key × Value)} (r : KV kvs vs) : Vals (kvs.map (·.2)) (vs.map (·.2)) := by
  unfold KV at r
  induction r with
  | nil => exact .nil
  | cons h t ih => exact .cons h.2 ih
def tListVals (te : TE) : TE := fun σ H Q => te σ H fun x H1 => ∃ (d : Addr) (kvs : List (Key × V)), x = .ref d ∧ H1 d = some (.dK kvs) ∧ ∀ p, H1 p = none → Q (.ref p) (upd H1 p (.lst (kvs.map (·.2))))
section
variable {X : Cx} {e : Expr} {te : TE} {p apos cpos pos : Pos}
theorem pe_listVals (hc : X.calm = true) (he : PE X e te) (hg : Gl X "list") (hm : X.mg "list" = none) (hv : bootBuiltins "list" = some (.type "list")) (hb : attributeBase e "values" X.env (eval e X.env) = eval e X.env := by rfl) (hl : (apos.endLine == cpos.line) = true := by rfl)
    (hs : starEach [.Call (.Attribute e "values" apos) [] [] cpos] X.env = (false, eval (.Call (.Attribute e "values" apos) [] [] cpos) X.env) :: starEach [] X.env := by rfl) : PE X (.Call (.Name "list" p) [.Call (.Attribute e "values" apos) [] [] cpos] [] pos) (tListVals te) :=
  ⟨fun pins s σ H Q I hq => wpAny_Call_Name_kw (ld_blt I hg hm hv (PyProof.Rows.callWith_type1 (by
    rw [hs]
    refine (show wpAny _ _ (spliced ((false, eval (.Call (.Attribute e "values" apos) [] [] cpos) X.env) :: backTo pos (starEach [] X.env))) _ _ s from Calls.spliced_cons (wpAny_Call_method (T := "dict") (id := "dict.values") hb rfl hl F.plainAttrs_dict F.slot_dict_values F.type_dict_values (thn (he.run pins s σ H _ I hq) fun u s1 ⟨x, H1, I1, rx, d, kvs, ex, hd, q⟩ => ?_)))
    subst ex
    obtain rfl : u = Value.ref d := rx
    obtain ⟨z, lo, vs, rel, dd⟩ := dk_rd I1.hok (Rd.of hd)
    obtain ⟨ep, hat⟩ := dd.dictAt
    have lk : kvs.length = vs.length := Paired.length rel
    have I2 : Inv X pins σ H1 { s1 with heap := s1.heap.push { cls := .type "dict_values", data := .fields #[.ref d] } } := I1.kept (t' := s1.toks) fun b ob q => Heap.get?_push_of_some _ q
    refine ⟨dd.typeIs, dd.mapOf.noDict, (show wpAny _ _ (callWith cpos (.builtin "dict.values") [.ref d] [] []) _ X.xe s1 from method_meetsIn F.slot_dict_values F.entry_dict_values rfl (PySem.evalArgs_none ⟨rfl, dd.typeIs, F.args_dict_values_1 _, _, meets_dict_values (mixKind X.prog X.w) d lo, ⟨vs, dd⟩, Calls.spliced_nil ?_⟩))⟩
    refine PySem.W.kdl_call (PySem.W.kdl_values (knd := mixKind X.prog X.w) (kvs := vs) (ep := ep)) (I1.ok.hd hc) ⟨⟨_, Heap.get?_push_size _ rfl, rfl, rfl⟩, hat.push _⟩ (by rw [← lk]; exact z) fun h' tk acc c' hk hD hacc => ?_
    have hv2 : acc.toList = vs.map (·.2) := List.ext_getElem? fun j => by
      by_cases hj : j < vs.length
      · have h1 : acc[j]? = some acc[j]! := by
          rw [Array.getElem?_eq_getElem (by rw [hacc.1]; exact hj), getElem!_pos]
        obtain ⟨k, hk2⟩ := hacc.2 j _ h1
        rw [Array.getElem?_toList, h1, List.getElem?_map, hk2]
        rfl
      · rw [List.getElem?_eq_none (by rw [Array.length_toList, hacc.1]; omega), List.getElem?_eq_none (by rw [List.length_map]; omega)]
    exact ⟨.ref _, _, I2.laid (t' := tk) hk (Nat.le_refl _) (show ObjOk X.prog X.w _ _ _ (.lst (kvs.map (·.2))) from ⟨by rw [List.length_map]; exact z, acc.toList, c', by rw [hv2]; exact kv_vals rel, by rw [Array.toArray_toList]; exact hD⟩), rfl, q _ (I2.hok.fresh (Nat.le_refl _))⟩) hs rfl))⟩
end
/-- where an item stands -/
theorem pe_index {X : Cx} {K : PySem.W.Frag} {o e : Expr} {es : List Expr} {to : TE} {t : TA} {apos cpos : Pos} (hK : X.K = K) (ho : PE X o to) (ha : PA X (e :: es) t) (h1 : attributeBase o "index" X.env (eval o X.env) = eval o X.env := by rfl) (h2 : ((backTo cpos (starEach (e :: es) X.env)).all (fun x => !x.1) && (backToKw cpos (keywordEach [] X.env)).all (fun x => x.1.isSome) && decide ((e :: es).length + ([] : List Keyword).length + (if ([] : List Keyword).isEmpty then 0 else 1) < 30)) = true := by rfl) (h3 : (apos.endLine == cpos.line) = true := by rfl) (h4 : starEach (e :: es) X.env = (false, eval e X.env) :: starEach es X.env := by rfl) (h5 : (backTo cpos (starEach es X.env)).any (·.1) = false := by rfl) :
    PE X (.Call (.Attribute o "index" apos) (e :: es) [] cpos) (tBM K "list" (rIndex K) to t) := by
  subst hK
  exact pe_bm PySem.F.plainAttrs_list PySem.F.slot_list_index PySem.F.type_list_index mt_index ho ha h1 h2 h3 h4 h5
theorem ix_listK {X : Cx} {K : PySem.W.Frag} (hK : X.K = K) : IxR X (rIxL K) := by
  subst hK
  exact ix_list
theorem ix_tupK {X : Cx} {K : PySem.W.Frag} (hK : X.K = K) : IxR X (rIxT K) := by
  subst hK
  exact ix_tup
theorem sl_listK {X : Cx} {K : PySem.W.Frag} (hK : X.K = K) : SlR X (rSlL K) := by
  subst hK
  exact sl_list
theorem call_len_seqK {X : Cx} {K : PySem.W.Frag} (hK : X.K = K) : CallR X (.builtin "len") (rLenS K) := by
  subst hK
  exact call_len_seq
theorem kit_ty {K : PySem.W.Frag} {C : Addr} {T : String} {b : Bool} (m : PySem.W.kitMeta T = true) (sb : PySem.W.subIn K (.ref C) (.type T) = some b) : PySem.W.kitOne K (.ref C) (.type T) = some b := by
  show (if (Value.ref C == Value.type T) = true then some true else if PySem.W.kitMeta T = true then PySem.W.subIn K (.ref C) (.type T) else none) = some b
  rw [show (Value.ref C == Value.type T) = false from rfl, if_neg Bool.false_ne_true, if_pos m]
  exact sb
theorem pe_c0 {X : Cx} {k j : Nat} {x : Str} {sp : Sp} {p pos : Pos} (c : Cal CX0 X.prog X.w X.K X.mg X.base k x sp) (hr : Room j X.A) (hk : k ≤ j) (hg : Gl X x) (hdb : (x == ("__debug__" : Str)) = false := by decide) : PE X (.Call (.Name x p) [] [] pos) (tCall sp [] E0 tNil) := by
  obtain ⟨f, fd, ps, F, hm, kp, b⟩ := c.ex
  exact pe_call0 F (hr.mono hk) hg hm kp b .nil pass0 hdb
section
variable {K : PySem.W.Frag} {σ : L2.St} {B : Hp} {ta ts : TA} {te td ty tv tl tb : TE} {tz tu : TS} {D : Ends} {v z x : V} {o : HO} {E : XK} {mg : Str → Option Value}
theorem en_listVals {a : Addr} {kvs : List (Key × V)} (h : Ev te σ B (.ref a)) (hd : B a = some (.dK kvs)) : EvN (tListVals te) σ B (.lst (kvs.map (·.2))) := fun H1 e Q q =>
  h H1 e _ fun H2 e2 => ⟨a, kvs, rfl, (e.trans e2) a _ hd, fun p hp => q p _ (fresh_back e2 hp) (e2.trans (Ex.new hp)) upd_same⟩
theorem en_listD {a : Addr} {kvs : List (Key × V)} (h : Ev te σ B (.ref a)) (hd : B a = some (.dK kvs)) : EvN (tCB (fun xs H Q => ∃ (a : Addr) (kvs : List (Key × V)), xs = [.ref a] ∧ Rd H a (.dK kvs) ∧ ∀ p, H p = none → Q (.ref p) (upd H p (.lst (kvs.map fun kv => kV kv.1)))) (tCons te tNil)) σ B (.lst (kvs.map fun kv => kV kv.1)) := fun H1 e Q q =>
  h H1 e _ fun H2 e2 => ⟨a, kvs, rfl, .of ((e.trans e2) a _ hd), fun p hp => q p _ (fresh_back e2 hp) (e2.trans (Ex.new hp)) upd_same⟩
theorem ev_dget {a : Addr} {kvs : List (Key × V)} {k : Key} (h : Ev td σ B (.ref a)) (hk : Ev ty σ B (kV k)) (hd : B a = some (.dK kvs)) (hv : valV kvs k = some v) : Ev (tDGet td ty) σ B v := fun H1 e Q q =>
  h H1 e _ fun H2 e2 => hk H2 (e.trans e2) _ fun H3 e3 => ⟨a, v, rfl, by rw [← hv]; exact DGet.k (((e.trans e2).trans e3) a _ hd), q H3 (e2.trans e3)⟩
theorem r_dput {a : Addr} {kvs : List (Key × V)} {k : Key} (hv : Ev tv σ B v) (h : Ev td σ B (.ref a)) (hk : Ev ty σ B (kV k)) (hd : B a = some (.dK kvs)) (hz : kvs.length < 100000) (q : R tz D σ (upd B a (.dK (putK kvs k v)))) : R (tSeq (sDPut td ty tv) tz) D σ B := fun H1 e =>
  hv H1 e _ fun H2 e2 => h H2 (e.trans e2) _ fun H3 e3 => hk H3 ((e.trans e2).trans e3) _ fun H4 e4 => ⟨a, _, rfl, DPut.k ((((e.trans e2).trans e3).trans e4) a _ hd) (sz_lt hz), q _ (ex_mut (((e.trans e2).trans e3).trans e4))⟩
/-- a display of two pairs -/
theorem en_disp2 {t1 t2 u1 u2 : TE} {k1 k2 : Key} {v1 v2 : V} (a1 : Ev t1 σ B (kV k1)) (b1 : Ev u1 σ B v1) (a2 : Ev t2 σ B (kV k2)) (b2 : Ev u2 σ B v2) : EvN (tDisp [(t1, u1), (t2, u2)]) σ B (.dK (mergeK [] [(k1, v1), (k2, v2)])) := fun H1 e Q q p hp =>
  have e0 := e.trans (Ex.new (o := .dK []) hp)
  a1 _ e0 _ fun H2 e2 => b1 _ (e0.trans e2) _ fun H3 e3 => a2 _ ((e0.trans e2).trans e3) _ fun H4 e4 => b2 _ (((e0.trans e2).trans e3).trans e4) _ fun H5 e5 =>
    have eA := ((e2.trans e3).trans e4).trans e5
    ⟨eA p _ upd_same, [(k1, v1), (k2, v2)], rfl, by simp, q p _ hp (Ex.mut ((Ex.new hp).trans eA) hp) upd_same⟩
/-- a for over (place, item) -/
theorem r_forEnum {a : Addr} {xs : List V} {j1 j2 : Nat} (h : EvA ta σ B [.ref a]) (hx : SqL K B a xs) (Pv : Nat → L2.St → Hp → Prop) (h0 : Pv 0 σ B) (hl : ∀ i σ' B', i ≤ xs.length → Pv i σ' B' → SqL K B' a xs)
    (hs : ∀ i x σ' B', xs[i]? = some x → Pv i σ' B' → R tu (Lp Pv i D tz) ((σ'.set j1 (some (.int (i : Int)))).set j2 (some x)) B') (hd : ∀ σ' B', Pv xs.length σ' B' → R tz D σ' B') :
    R (tSeq (tFor (iEnum K ta) (gTup K 2 (gCons (gName j1) (gCons (gName j2) gNil))) tu) tz) D σ B := fun H e => h H e _ fun H1 e1 =>
  ⟨a, xs, rfl, ex_l (e.trans e1) hx, for_it walk_enum (D := { D with nx := tz D }) (Up Pv) ⟨B, e.trans e1, h0⟩ (fun i σ' H' hi ⟨B', e', p⟩ => ex_l e' (hl i σ' B' hi p))
    (fun i x σ' H' H2 hi ⟨B', e', p⟩ ⟨T, x1, x2, hv, hT, hH, h1, h2⟩ => by
      subst hv hH
      cases h1
      exact ⟨T, [.int (i : Int), x2], rfl, st_of upd_same, rfl, .int (i : Int), [x2], rfl, x2, [], rfl, rfl, hs i x2 σ' B' h2 p _ (e'.trans (Ex.new hT))⟩) fun σ' H' ⟨B', e', p⟩ => hd σ' B' p H' e'⟩
/-- where an item stands in a new list -/
theorem ev_indexN {ys : List V} {y : V} {j : Nat} {w : V} (h : EvN te σ B (.lst ys)) (hy : Ev ty σ B y) (f1 : flatV y = true) (f2 : ys.all flatV = true) (h1 : ys[j]? = some w) (h2 : eqV w y = true) (h3 : ∀ (m : Nat) (w' : V), m < j → ys[m]? = some w' → eqV w' y = false) :
    Ev (tBM K "list" (rIndex K) te (tCons ty tNil)) σ B (.int (j : Int)) := fun H1 e Q q =>
  h H1 e _ fun p H2 np e2 hp => ⟨.inl ⟨rfl, ys, sq_of hp⟩, hy H2 (e.trans e2) _ fun H3 e3 => ⟨p, ys, y, j, w, rfl, rfl, sq_of (e3 p _ hp), f1, f2, h1, h2, h3, q H3 (e2.trans e3)⟩⟩
/-- x in a new list -/
theorem ev_inN {xs : List V} (ha : Ev ty σ B x) (hb : EvN te σ B (.lst xs)) (hx : flatV x = true) (hf : xs.all flatV = true) : Ev (tOp (rIn K false) ty te) σ B (.bl (inV x xs)) := fun H1 e Q q =>
  ha H1 e _ fun H2 e2 => hb H2 (e.trans e2) _ fun p H3 np e3 hp => ⟨p, xs, rfl, .inl (sq_of hp), hx, hf, q H3 (e2.trans e3)⟩
theorem ev_niN {xs : List V} (ha : Ev ty σ B x) (hb : EvN te σ B (.lst xs)) (hx : flatV x = true) (hf : xs.all flatV = true) : Ev (tOp (rIn K true) ty te) σ B (.bl (!inV x xs)) := fun H1 e Q q =>
  ha H1 e _ fun H2 e2 => hb H2 (e.trans e2) _ fun p H3 np e3 hp => ⟨p, xs, rfl, .inl (sq_of hp), hx, hf, q H3 (e2.trans e3)⟩
/-- sep.join(a list that stands) -/
theorem ev_joinL {a : List Nat} {p : Addr} {ys : List (List Nat)} (ha : Ev te σ B (.str (SX.S a))) (hb : Ev tb σ B (.ref p)) (hp : SqL K B p (ys.map fun l => V.str (SX.S l))) (hz : (ys.map (·.length)).sum + ys.length * a.length ≤ 16777216) :
    Ev (tM1 (fun x xs H Q => ∃ a p, ∃ ys : List Str, x = .str a ∧ xs = [.ref p] ∧ (SqL K H p (ys.map V.str) ∨ SqT K H p (ys.map V.str)) ∧ (ys.map (·.length)).sum + ys.length * a.length ≤ 16777216 ∧ Q (.str (Txt.join a ys)) H) te tb) σ B (.str (SX.S (TL.joinL a ys))) := by
  rw [← SX.join_S]
  exact fun H1 e Q q => ha H1 e _ fun H2 e2 => ⟨⟨_, rfl⟩, hb H2 (e.trans e2) _ fun H3 e3 => ⟨_, p, ys.map SX.S, rfl, rfl, .inl (ex_l ((e.trans e2).trans e3) (by rw [List.map_map]; exact hp)), by rw [SX.lens, List.length_map, SX.S_len]; exact hz, q H3 (e2.trans e3)⟩⟩
theorem rv_notB {a b : Bool} : RV rNotB (.bl a) (.bl b) B (.bl (!decide (a = b))) := fun H1 _ _ q => ⟨a, b, rfl, rfl, q H1 (Ex.refl H1)⟩
/-- calls that give either (nothing is let out) -/
theorem ev_po {pre : List V → Hp → Out → Prop} {vs : List V} (h : EvA ta σ B vs) (hp : ∀ H, Ex B H → pre (vs ++ []) H (.val z)) : Ev (tCall (spO mg pre) [] E ta) σ B z := fun H1 e Q q => h H1 e _ fun H2 e2 => ⟨.val z, hp H2 (e.trans e2), fun H3 e3 => q H3 (e2.trans e3)⟩
theorem en_po {pre : List V → Hp → Out → Prop} {vs : List V} (h : EvA ta σ B vs) (hp : ∀ H, Ex B H → pre (vs ++ []) H (.new o)) : EvN (tCall (spO mg pre) [] E ta) σ B o := fun H1 e Q q => h H1 e _ fun H2 e2 => ⟨.new o, hp H2 (e.trans e2), fun p H3 np e3 h3 => q p H3 (fresh_back e2 np) (e2.trans e3) h3⟩
end
end FK

set_option Elab.async false
set_option linter.all false
set_option maxRecDepth 100000
namespace K01
open PySem PySem.Spec PyProof.Rows L2 Evl FK FkE
def topS (i : Nat) : Stmt := PySem.Challenge.pw_formkeeper_k01_texts_as_octets.main.body.getD i (.Pass ⟨0, 0, 0, 0⟩)
abbrev s_FormkeeperError___init__ : Stmt := inClass (topS 1) 0
theorem sc_FormkeeperError___init__ : FnScope ["self", "place"] ["self", "place"] (defScope s_FormkeeperError___init__) := ⟨rfl, rfl, rfl, by decide +kernel, rfl, by decide +kernel, by decide +kernel⟩
abbrev s_is_code : Stmt := topS 12
theorem sc_is_code : FnScope ["code"] ["code"] (defScope s_is_code) := ⟨rfl, rfl, rfl, by decide +kernel, rfl, by decide +kernel, by decide +kernel⟩
abbrev s_character_of : Stmt := topS 13
theorem sc_character_of : FnScope ["code"] ["code"] (defScope s_character_of) := ⟨rfl, rfl, rfl, by decide +kernel, rfl, by decide +kernel, by decide +kernel⟩
abbrev s_is_text : Stmt := topS 14
theorem sc_is_text : FnScope ["text", "character"] ["text"] (defScope s_is_text) := ⟨rfl, rfl, rfl, by decide +kernel, rfl, by decide +kernel, by decide +kernel⟩
abbrev s_encode_text : Stmt := topS 15
theorem sc_encode_text : FnScope ["text", "character"] ["text"] (defScope s_encode_text) := ⟨rfl, rfl, rfl, by decide +kernel, rfl, by decide +kernel, by decide +kernel⟩
abbrev s_decode_text : Stmt := topS 16
theorem sc_decode_text : FnScope ["octets", "characters", "at", "octet", "character"] ["octets"] (defScope s_decode_text) := ⟨rfl, rfl, rfl, by decide +kernel, rfl, by decide +kernel, by decide +kernel⟩
abbrev s__law_draw : Stmt := topS 18
theorem sc__law_draw : FnScope ["cell", "many", "bound", "numbers", "k", "seed", "mixed"] ["cell", "many", "bound"] (defScope s__law_draw) := ⟨rfl, rfl, rfl, by decide +kernel, rfl, by decide +kernel, by decide +kernel⟩
abbrev s__law_is_integer : Stmt := topS 19
theorem sc__law_is_integer : FnScope ["actual"] ["actual"] (defScope s__law_is_integer) := ⟨rfl, rfl, rfl, by decide +kernel, rfl, by decide +kernel, by decide +kernel⟩
abbrev s__law_same : Stmt := topS 20
theorem sc__law_same : FnScope ["actual", "expected", "k"] ["actual", "expected"] (defScope s__law_same) := ⟨rfl, rfl, rfl, by decide +kernel, rfl, by decide +kernel, by decide +kernel⟩
abbrev s__law_alphabet : Stmt := topS 21
theorem sc__law_alphabet : FnScope ["signs", "later", "codes", "k"] [] (defScope s__law_alphabet) := ⟨rfl, rfl, rfl, by decide +kernel, rfl, by decide +kernel, by decide +kernel⟩
abbrev s__law_told : Stmt := topS 22
theorem sc__law_told : FnScope ["octets", "error"] ["octets"] (defScope s__law_told) := ⟨rfl, rfl, rfl, by decide +kernel, rfl, by decide +kernel, by decide +kernel⟩
abbrev s_law : Stmt := topS 23
theorem sc_law : FnScope ["script", "codes", "signs", "cell", "numbers", "text", "octets", "due", "k", "handed", "number", "octet", "sign"] ["script"] (defScope s_law) := ⟨rfl, rfl, rfl, by decide +kernel, rfl, by decide +kernel, by decide +kernel⟩
/-! ### the characters -/
def codeB (n : Int) : Bool := decide (n = 9 ∨ n = 10 ∨ (32 ≤ n ∧ n ≤ 126 ∧ n ≠ 37))
theorem codeB_iff {n : Int} : codeB n = true ↔ (n = 9 ∨ n = 10 ∨ (32 ≤ n ∧ n ≤ 126 ∧ n ≠ 37)) := by simp [codeB]
theorem codeB_no {n : Int} : codeB n = false ↔ ¬ (n = 9 ∨ n = 10 ∨ (32 ≤ n ∧ n ≤ 126 ∧ n ≠ 37)) := by
  unfold codeB
  rw [decide_eq_false_iff_not]
def BP : List Nat := (" !\"#$" : Str).cps.toList
def AB : List Nat := ("&'()*+,-./0123456789:;<=>?@ABCDEFGHIJKLMNOPQRSTUVWXYZ[\\]^_`abcdefghijklmnopqrstuvwxyz{|}~" : Str).cps.toList
theorem bp_len : BP.length = 5 := by decide +kernel
theorem ab_len : AB.length = 89 := by decide +kernel
theorem bp_at : ∀ i < 5, BP.getD i 0 = 32 + i := by decide +kernel
theorem ab_at : ∀ i < 89, AB.getD i 0 = 38 + i := by decide +kernel
def AL : List Nat := ([10, 9] ++ (List.range 5).map (32 + ·)) ++ (List.range 89).map (38 + ·)
theorem al_len : AL.length = 96 := by decide +kernel
theorem al_nd : AL.Nodup := by decide +kernel
theorem al_mem {c : Nat} : c ∈ AL ↔ codeB (c : Int) = true := by
  rw [codeB_iff]
  unfold AL
  simp only [List.mem_append, List.mem_map, List.mem_range, List.mem_cons, List.not_mem_nil, or_false]
  constructor
  · rintro (((h | h) | ⟨a, h, e⟩) | ⟨a, h, e⟩) <;> omega
  · intro h
    rcases h with h | h | ⟨h1, h2, h3⟩
    · exact .inl (.inl (.inr (by omega)))
    · exact .inl (.inl (.inl (by omega)))
    · by_cases hc : c < 37
      · exact .inl (.inr ⟨c - 32, by omega, by omega⟩)
      · exact .inr ⟨c - 38, by omega, by omega⟩
theorem al_lt {c : Nat} (h : c ∈ AL) : c < 200 := by
  have := codeB_iff.mp (al_mem.mp h)
  omega
theorem al_get {i : Nat} (h : i < 96) : AL.getD i 0 ∈ AL := by
  have h' : i < AL.length := by rw [al_len]; exact h
  simp [List.getD, List.getElem?_eq_getElem h']
def kvA (l : List Nat) : List (Key × V) := l.map fun c => (.inr (SX.S [c]), .int (c : Int))
theorem S_inj {c d : Nat} (h : SX.S [c] = SX.S [d]) : c = d := by
  have := congrArg (fun x : Str => x.cps.getD 0 0) h
  simpa [SX.S] using this
theorem kvA_in {c : Nat} : ∀ {l : List Nat}, c ∈ l → valV (kvA l) (.inr (SX.S [c])) = some (.int (c : Int))
  | d :: r, h => by
    by_cases e : d = c
    · subst e
      exact valV_pos rfl
    · have hne : ¬ (Sum.inr (SX.S [d]) : Key) = Sum.inr (SX.S [c]) := fun z => e (S_inj (Sum.inr.inj z))
      refine (valV_neg (p := (Sum.inr (SX.S [d]), V.int (d : Int))) hne).trans (kvA_in (l := r) ?_)
      rcases List.mem_cons.mp h with h | h
      · exact absurd h.symm e
      · exact h
theorem kvA_out {c : Nat} : ∀ {l : List Nat}, c ∉ l → valV (kvA l) (.inr (SX.S [c])) = none
  | [], _ => rfl
  | d :: r, h => by
    have hne : ¬ (Sum.inr (SX.S [d]) : Key) = Sum.inr (SX.S [c]) := fun z => h (by rw [S_inj (Sum.inr.inj z)]; exact List.mem_cons_self)
    exact (valV_neg (p := (Sum.inr (SX.S [d]), V.int (d : Int))) hne).trans (kvA_out fun z => h (List.mem_cons_of_mem _ z))
theorem kvA_put {c : Nat} {l : List Nat} (h : c ∉ l) : putK (kvA l) (.inr (SX.S [c])) (.int (c : Int)) = kvA (l ++ [c]) := by
  rw [putK_new _ (kvA_out h)]
  unfold kvA
  rw [List.map_append]
  rfl
def chV (n : Int) : V := if codeB n = true then .str (SX.S [n.toNat]) else .non
theorem chV_yes {n : Int} (h : codeB n = true) : chV n = .str (SX.S [n.toNat]) := if_pos h
theorem chV_no {n : Int} (h : codeB n = false) : chV n = .non := if_neg (by rw [h]; decide)
def bad (ns : List Int) : Option Nat := ns.findIdx? fun n => !codeB n
theorem bad_none {ns : List Int} (h : ∀ n ∈ ns, codeB n = true) : bad ns = none := by
  unfold bad
  rw [List.findIdx?_eq_none_iff]
  intro n hn
  rw [h n hn]
  rfl
theorem bad_some {ns : List Int} {i : Nat} {n : Int} (hi : ns[i]? = some n) (hn : codeB n = false) (h : ∀ m ∈ ns.take i, codeB m = true) : bad ns = some i := by
  obtain ⟨hl, e⟩ := List.getElem?_eq_some_iff.mp hi
  unfold bad
  rw [List.findIdx?_eq_some_iff_getElem]
  refine ⟨hl, by rw [e, hn]; rfl, fun j hj => ?_⟩
  have := h ns[j] (List.mem_take_iff_getElem.mpr ⟨j, by omega, rfl⟩)
  rw [this]
  decide
def txtOf (ns : List Int) : List Nat := ns.map Int.toNat
def decOut (ns : List Int) : Out := match bad ns with
  | none => .val (.str (SX.S (txtOf ns)))
  | some i => .err "InvalidText" (.int (i : Int))
def toldOut (ns : List Int) : Out := match bad ns with
  | none => .val (.str (SX.S (txtOf ns)))
  | some i => .new (.tup [.str "InvalidText", .int (i : Int)])
def toldDat (ns : List Int) : PyData := match bad ns with
  | none => .str (SX.S (txtOf ns))
  | some i => .tuple [.str "InvalidText", .int (i : Int)]
structure Tx (mg : Str → Option Value) : Prop where
  g_BELOW_PERCENT : ∃ u, mg "BELOW_PERCENT" = some u ∧ RelV (.str (SX.S BP)) u
  g_ABOVE_PERCENT : ∃ u, mg "ABOVE_PERCENT" = some u ∧ RelV (.str (SX.S AB)) u
  g_TAB : ∃ u, mg "TAB" = some u ∧ RelV (.int 9) u
  g_LINE_FEED : ∃ u, mg "LINE_FEED" = some u ∧ RelV (.int 10) u
  g_SPACE : ∃ u, mg "SPACE" = some u ∧ RelV (.int 32) u
  g_PERCENT : ∃ u, mg "PERCENT" = some u ∧ RelV (.int 37) u
  g_TILDE : ∃ u, mg "TILDE" = some u ∧ RelV (.int 126) u
  z_len : mg "len" = none
  z_int : mg "int" = none
  z_range : mg "range" = none
  z_isinstance : mg "isinstance" = none
  z_bool : mg "bool" = none
  z_list : mg "list" = none
  z_ord : mg "ord" = none
  z_enumerate : mg "enumerate" = none
  z_ValueError : mg "ValueError" = none
def spCode : Sp := PV fun vs _ z => ∃ n : Int, vs = [.int n] ∧ z = .bl (codeB n)
def spChar : Sp := PV fun vs _ z => ∃ n : Int, vs = [.int n] ∧ z = chV n
def spIsText : Sp := PV fun vs _ z => ∃ t : List Nat, vs = [.str (SX.S t)] ∧ t.length ≤ 1000 ∧ z = .bl (t.all fun c => codeB (c : Int))
def spEnc : Sp := PN fun vs _ o => ∃ t : List Nat, vs = [.str (SX.S t)] ∧ t.length ≤ 1000 ∧ o = .lst ((t.map fun c : Nat => (c : Int)).map V.int)
def spDec (K : PySem.W.Frag) (mg : Str → Option Value) : Sp := spO mg fun vs H o => ∃ (p : Addr) (ns : List Int), vs = [.ref p] ∧ SqL K H p (ns.map V.int) ∧ ns.length ≤ 1000 ∧ o = decOut ns
def spTold (K : PySem.W.Frag) (mg : Str → Option Value) : Sp := spO mg fun vs H o => ∃ (p : Addr) (ns : List Int), vs = [.ref p] ∧ SqL K H p (ns.map V.int) ∧ ns.length ≤ 1000 ∧ o = toldOut ns
def spAlpha : Sp := PN fun vs _ o => vs = [] ∧ o = .dK (kvA AL)
section
variable {P : Program} {w : World} {K : PySem.W.Frag} {mg : Str → Option Value} {base : Heap}
theorem ok_init {f : Addr} {fd : FuncData} (F : Fun K "__init__" "FormkeeperError.__init__" s_FormkeeperError___init__ f fd) : FnOk P w K mg base CX0 1 f fd ["self", "place"] (spInit K) := by
  refine F.ok sc_FormkeeperError___init__ (fun vs H Q E h => ?_) (fun cdv A outer s H vs Q E hr h => ?_)
  · obtain ⟨_, _, _, _, rfl, _⟩ := h
    rfl
  obtain ⟨a, C, nm, v, rfl, Z, ha, q⟩ := h
  refine ⟨_, (pss_cons (ps_ost (pv 0) (pv 1)) (pss_cons (ps_ost (pv 0) (pe_nmC (pe_clsE (pv 0)))) pss_nil)), ?_⟩
  refine ⟨v, rfl, .ref a, rfl, a, C, rfl, Z.ox, Z.np, .inl ⟨ha, fun dx hdx hne => ?_⟩⟩
  exact ⟨.ref a, rfl, a, C, dx, [("place", v)], rfl, upd_same, (upd_ne hne).trans upd_same, Z.ex, C, nm, rfl, Z.nm, .ref a, rfl, a, C, rfl, Z.ox, Z.nn, .inr ⟨dx, [("place", v)], upd_same, (upd_ne hne).trans upd_same, by simp, q dx hdx hne⟩⟩

theorem ok_draw (D : Def K mg "_law_draw" s__law_draw ["cell", "many", "bound"]) (T : Tx mg) : Cal CX0 P w K mg base 1 "_law_draw" spDraw := by
  refine cal0 D sc__law_draw (fun vs H Q E h => ?_) (fun f cdv A outer s H vs Q E hr h => ?_)
  · obtain ⟨_, ⟨c, m, b, rfl, _⟩, _⟩ := h
    rfl
  obtain ⟨_, ⟨c, m, b, rfl, hm0, hm1, hb0, hb1, rfl⟩, q⟩ := h
  refine ⟨_, (pss_cons (ps_set (i := 3) sc__law_draw.nd rfl (.inl rfl) (pe_lst pa_nil))
    (pss_cons (ps_if (pt_cmpR op_ge (pv 0) (pe_op op_pow pe_int pe_int) (nomark _))
      (pss_cons (ps_for PassesOwn.never rfl (pi_range1 rfl T.z_range (pa_cons (pv 1) pa_nil)) (pg_name (i := 4) sc__law_draw.nd rfl (.inl rfl))
        (pss_cons (ps_expr (pe_bm PySem.F.plainAttrs_list PySem.F.slot_list_append PySem.F.type_list_append mt_append (pv 3) (pa_cons (pe_op op_mod (pe_callTy call_int1 (by rfl) T.z_int (by decide +kernel) (pa_cons (pv 0) pa_nil)) (pv 2)) pa_nil)))
        (pss_cons (ps_set (i := 0) sc__law_draw.nd rfl (.inl rfl) (pe_op op_fdiv (pv 0) (pv 2))) pss_nil)))
      (pss_cons (ps_ret (pv 3)) pss_nil))
      pss_nil)
    (pss_cons (ps_set (i := 5) sc__law_draw.nd rfl (.inl rfl) (pe_op op_mod (pe_callTy call_int1 (by rfl) T.z_int (by decide +kernel) (pa_cons (pv 0) pa_nil)) pe_int))
    (pss_cons (ps_for PassesOwn.never rfl (pi_range1 rfl T.z_range (pa_cons (pv 1) pa_nil)) (pg_name (i := 4) sc__law_draw.nd rfl (.inl rfl))
      (pss_cons (ps_set (i := 5) sc__law_draw.nd rfl (.inl rfl) (pe_op op_mod (pe_callTy call_int1 (by rfl) T.z_int (by decide +kernel) (pa_cons (pe_op op_add (pe_op op_add (pe_op op_mul (pv 5) pe_int) pe_int) (pv 4)) pa_nil)) pe_int))
      (pss_cons (ps_set (i := 6) sc__law_draw.nd rfl (.inl rfl) (pe_op op_mod (pe_callTy call_int1 (by rfl) T.z_int (by decide +kernel) (pa_cons (pe_op op_add (pe_op op_mul (pv 5) pe_int) (pe_op op_mul pe_int (pv 4))) pa_nil)) pe_int))
      (pss_cons (ps_expr (pe_bm PySem.F.plainAttrs_list PySem.F.slot_list_append PySem.F.type_list_append mt_append (pv 3) (pa_cons (pe_op op_mod (pe_callTy call_int1 (by rfl) T.z_int (by decide +kernel) (pa_cons (pe_op op_fdiv (pv 6) pe_int) pa_nil)) (pv 2)) pa_nil))) pss_nil))))
    (pss_cons (ps_ret (pv 3)) pss_nil))))), R.go ?_⟩
  refine r_asgN (en_lst ea_nil (by decide)) (fun p np => ?_)
  refine r_when (et_test (ev_op (ev_var rfl) (ev_op ev_c ev_c (rv_arC ⟨by decide, by decide, by decide⟩)) rv_cmp)) (fun hb => ?_) (fun hb => ?_)
  · refine r_forR1 (ea_cons (ev_var rfl) ea_nil) ⟨hm0, by omega⟩ (fun i σ B => ∃ c y4, ∃ ns : List Int, σ = [some (.int c), some (.int m), some (.int b), some (.ref p), y4, none, none] ∧ Ex H B ∧ B p = some (.lst (ns.map V.int)) ∧ ns.length = i ∧ ∀ n ∈ ns, 0 ≤ n ∧ n < b)
      ⟨c, none, [], rfl, Ex.new np, upd_same, rfl, fun _ h => nomatch h⟩ (fun i σ B hi hI => ?_) (fun σ B hI => ?_)
    · obtain ⟨c, y4, ns, rfl, eB, hp, hl, hn⟩ := hI
      refine r_app hp (ev_var rfl) (ev_op (ev_int (ev_var rfl)) (ev_var rfl) (rv_arC hb0)) (by rw [List.length_map]; omega) ?_
      refine r_asg (ev_op (ev_var rfl) (ev_var rfl) (rv_arC ⟨hb0, hb1⟩)) ?_
      refine r_up ⟨_, _, ns ++ [c % b], rfl, Ex.mut eB np, ?_, ?_, fun n h => ?_⟩
      · rw [upd_same, List.map_append]
        rfl
      · rw [List.length_append, hl]
        rfl
      · rcases List.mem_append.mp h with h | h
        · exact hn n h
        · rw [List.mem_singleton.mp h]
          exact ⟨Int.emod_nonneg _ (by omega), Int.emod_lt_of_pos _ hb0⟩
    · obtain ⟨c, y4, ns, rfl, eB, hp, hl, hn⟩ := hI
      refine r_ret (ev_var rfl) (fun H1 e1 => ?_)
      exact q p H1 _ np (eB.trans e1) (e1 p _ hp) ⟨ns, rfl, by omega, hn⟩
  refine r_asg (ev_op (ev_int (ev_var rfl)) ev_c (rv_arC (by decide))) ?_
  refine r_forR1 (ea_cons (ev_var rfl) ea_nil) ⟨hm0, by omega⟩ (fun i σ B => ∃ y4 s y6, ∃ ns : List Int, σ = [some (.int c), some (.int m), some (.int b), some (.ref p), y4, some (.int s), y6] ∧ Ex H B ∧ B p = some (.lst (ns.map V.int)) ∧ ns.length = i ∧ ∀ n ∈ ns, 0 ≤ n ∧ n < b)
    ⟨none, _, none, [], rfl, Ex.new np, upd_same, rfl, fun _ h => nomatch h⟩ (fun i σ B hi hI => ?_) (fun σ B hI => ?_)
  · obtain ⟨y4, s, y6, ns, rfl, eB, hp, hl, hn⟩ := hI
    refine r_asg (ev_op (ev_int (ev_op (ev_op (ev_op (ev_var rfl) ev_c (rv_arC (.inr ⟨by decide, by decide⟩))) ev_c rv_ar) (ev_var rfl) rv_ar)) ev_c (rv_arC (by decide))) ?_
    refine r_asg (ev_op (ev_int (ev_op (ev_op (ev_var rfl) ev_c (rv_arC (.inr ⟨by decide, by decide⟩))) (ev_op ev_c (ev_var rfl) (rv_arC (.inl ⟨by decide, by decide⟩))) rv_ar)) ev_c (rv_arC (by decide))) ?_
    refine r_app hp (ev_var rfl) (ev_op (ev_int (ev_op (ev_var rfl) ev_c (rv_arC ⟨by decide, by decide⟩))) (ev_var rfl) (rv_arC hb0)) (by rw [List.length_map]; omega) ?_
    refine r_up ⟨_, _, _, ns ++ [_], rfl, Ex.mut eB np, by rw [upd_same, List.map_append]; rfl, ?_, fun n h => ?_⟩
    · rw [List.length_append, hl]
      rfl
    · rcases List.mem_append.mp h with h | h
      · exact hn n h
      · rw [List.mem_singleton.mp h]
        exact ⟨Int.emod_nonneg _ (by omega), Int.emod_lt_of_pos _ hb0⟩
  · obtain ⟨y4, s, y6, ns, rfl, eB, hp, hl, hn⟩ := hI
    refine r_ret (ev_var rfl) (fun H1 e1 => ?_)
    exact q p H1 _ np (eB.trans e1) (e1 p _ hp) ⟨ns, rfl, by omega, hn⟩
/-- a drawn list: its items -/
theorem draw_at {m b : Int} {o : HO} (h : DrawO m b o) : ∃ ns : List Int, o = .lst (ns.map V.int) ∧ (ns.length : Int) = m ∧ ∀ i : Nat, (i : Int) < m → 0 ≤ ns.getD i 0 ∧ ns.getD i 0 < b := by
  obtain ⟨ns, e, hl, hn⟩ := h
  exact ⟨ns, e, hl, fun i hi => getD_of hn (by omega)⟩

theorem kit_ii : PySem.W.kitOne K (.type "int") (.type "int") = some true := rfl
theorem kit_ib : PySem.W.kitOne K (.type "int") (.type "bool") = some false := rfl
theorem kit_ll : PySem.W.kitOne K (.type "list") (.type "list") = some true := rfl
def spIsInt : Sp := PV fun vs _ z => ∃ n : Int, vs = [.int n] ∧ z = .bl true
theorem ok_isint (D : Def K mg "_law_is_integer" s__law_is_integer ["actual"]) (T : Tx mg) : Cal CX0 P w K mg base 1 "_law_is_integer" spIsInt := by
  refine cal0 D sc__law_is_integer (fun vs H Q E h => ?_) (fun f cdv A outer s H vs Q E hr h => ?_)
  · obtain ⟨_, ⟨n, rfl, _⟩, _⟩ := h
    rfl
  obtain ⟨_, ⟨n, rfl, rfl⟩, q⟩ := h
  refine ⟨_, (pss_cons (ps_ret (pe_and (pe_callB call_isi (by rfl) T.z_isinstance (by decide +kernel) (pa_cons (pv 0) (pa_cons (pe_bltn (v := .ty "int") (by rfl) T.z_int (by decide +kernel) rfl) pa_nil))) (pe_one (pe_not (pe_callB call_isi (by rfl) T.z_isinstance (by decide +kernel) (pa_cons (pv 0) (pa_cons (pe_bltn (v := .ty "bool") (by rfl) T.z_bool (by decide +kernel) rfl) pa_nil))))))) pss_nil), R.go ?_⟩
  refine r_ret (ev_andV (ev_isi (ea_cons (ev_var rfl) (ea_cons ev_c ea_nil)) (.ty "int") (fun _ _ => .base (.int _)) kit_ii) (fun hb => (ev_notV (ev_isi (ea_cons (ev_var rfl) (ea_cons ev_c ea_nil)) (.ty "bool") (fun _ _ => .base (.int _)) kit_ib)))) (fun H1 e1 => ?_)
  exact q H1 e1
def spSame (K : PySem.W.Frag) : Sp := PV fun vs H z => ∃ (p q : Addr) (ns : List Int), vs = [.ref p, .ref q] ∧ H p = some (.lst (ns.map V.int)) ∧ SqL K H q (ns.map V.int) ∧ ns.length ≤ 1000 ∧ z = .bl true
theorem ok_same (D : Def K mg "_law_same" s__law_same ["actual", "expected"]) (T : Tx mg) (c__law_is_integer : Cal CX0 P w K mg base 1 "_law_is_integer" spIsInt) : Cal CX0 P w K mg base 2 "_law_same" (spSame K) := by
  refine cal0 D sc__law_same (fun vs H Q E h => ?_) (fun f cdv A outer s H vs Q E hr h => ?_)
  · obtain ⟨_, ⟨_, _, _, rfl, _⟩, _⟩ := h
    rfl
  obtain ⟨_, ⟨p, p', ns, rfl, hp, hq, hl, rfl⟩, q⟩ := h
  refine ⟨_, (pss_cons (ps_if (pw_or (pt_not (pt_val (pe_callB call_isi (by rfl) T.z_isinstance (by decide +kernel) (pa_cons (pv 0) (pa_cons (pe_bltn (v := .ty "list") (by rfl) T.z_list (by decide +kernel) rfl) pa_nil))))) (pw_or1 (pt_cmpR op_ne (pe_callB call_len_seq (by rfl) T.z_len PySem.boot_len (pa_cons (pv 0) pa_nil)) (pe_callB call_len_seq (by rfl) T.z_len PySem.boot_len (pa_cons (pv 1) pa_nil)) (nomark _)))).pt
      (pss_cons (ps_ret pe_bl) pss_nil)
      pss_nil)
    (pss_cons (ps_for PassesOwn.never rfl (pi_range1 rfl T.z_range (pa_cons (pe_callB call_len_seq (by rfl) T.z_len PySem.boot_len (pa_cons (pv 1) pa_nil)) pa_nil)) (pg_name (i := 2) sc__law_same.nd rfl (.inl rfl))
      (pss_cons (ps_if (pw_or (pt_not (pt_val (pe_c c__law_is_integer hr (by decide) (by rfl) (pa_cons (pe_ix ix_list (pv 0) (pv 2) (fun _ _ => rfl)) pa_nil)))) (pw_or1 (pt_cmpR op_ne (pe_ix ix_list (pv 0) (pv 2) (fun _ _ => rfl)) (pe_ix ix_list (pv 1) (pv 2) (fun _ _ => rfl)) (nomark _)))).pt
        (pss_cons (ps_ret pe_bl) pss_nil)
        pss_nil) pss_nil))
    (pss_cons (ps_ret pe_bl) pss_nil))), R.go ?_⟩
  refine r_when (et_or (et_not (et_B (ev_isi (ea_cons (ev_var rfl) (ea_cons ev_c ea_nil)) (.ty "list") (fun H1 e1 => .base (.lst (e1 p _ hp))) kit_ll))) (fun hb => (et_test (ev_op (ev_len (ev_var rfl) (sq_of hp)) (ev_len (ev_var rfl) hq) (rv_ne rfl))))) (fun hb => ?_) (fun hb => ?_)
  · simp at hb
  refine r_forR1 (ea_cons (ev_len (ev_var rfl) hq) ea_nil) ⟨by omega, by rw [List.length_map]; omega⟩ (fun i σ B => ∃ y, σ = [some (.ref p), some (.ref p'), y] ∧ Ex H B) ⟨none, rfl, Ex.refl _⟩ (fun i σ B hi hI => ?_) (fun σ B hI => ?_)
  · obtain ⟨y, rfl, eB⟩ := hI
    rw [List.length_map] at hi
    have h1 : SqL K B p (ns.map V.int) := sq_of (eB p _ hp)
    have h2 := ex_l eB hq
    refine r_when (et_or (et_not (et_B (ev_pv (ea_cons (ev_op (ev_var rfl) (ev_var rfl) (rv_ixI h1 (by omega) hi)) ea_nil) (fun H _ => ⟨_, rfl, rfl⟩)))) (fun hb => (et_test (ev_op (ev_op (ev_var rfl) (ev_var rfl) (rv_ixI h1 (by omega) hi)) (ev_op (ev_var rfl) (ev_var rfl) (rv_ixI h2 (by omega) hi)) (rv_ne rfl))))) (fun hb => ?_) (fun hb => ?_)
    · simp at hb
    · exact r_up ⟨_, rfl, eB⟩
  · obtain ⟨y, rfl, eB⟩ := hI
    exact r_ret ev_c (fun H1 e1 => q H1 (eB.trans e1))

theorem ok_code (D : Def K mg "is_code" s_is_code ["code"]) (T : Tx mg) : Cal CX0 P w K mg base 1 "is_code" spCode := by
  refine cal0 D sc_is_code (fun vs H Q E h => ?_) (fun f cdv A outer s H vs Q E hr h => ?_)
  · obtain ⟨_, ⟨n, rfl, _⟩, _⟩ := h
    rfl
  obtain ⟨_, ⟨n, rfl, rfl⟩, q⟩ := h
  refine ⟨_, (pss_cons (ps_if (pt_chain op_le op_le (pe_gc (by rfl) T.g_SPACE) (pv 0) (pe_gc (by rfl) T.g_TILDE))
      (pss_cons (ps_ret (pe_cmpR op_ne (pv 0) (pe_gc (by rfl) T.g_PERCENT) (nomark _))) pss_nil)
      pss_nil)
    (pss_cons (ps_ret (pe_or (pe_cmpR op_eq (pv 0) (pe_gc (by rfl) T.g_LINE_FEED) (nomark _)) (pe_one (pe_cmpR op_eq (pv 0) (pe_gc (by rfl) T.g_TAB) (nomark _))))) pss_nil)), R.go ?_⟩
  refine r_when (et_test (ev_chain ev_c (ev_var rfl) rv_cmp (fun _ => ev_c) (fun _ => rv_cmp))) (fun hb => ?_) (fun hb => ?_)
  · refine r_ret (ev_op (ev_var rfl) ev_c (rv_ne rfl)) (fun H1 e1 => ?_)
    have e : codeB n = !decide (V.int n = V.int 37) := Bool.eq_iff_iff.mpr (by
      rw [codeB_iff]
      simp at hb ⊢
      omega)
    rw [e] at q
    exact q H1 e1
  · refine r_ret (ev_orV (ev_op (ev_var rfl) ev_c (rv_eq rfl)) (fun hb => (ev_op (ev_var rfl) ev_c (rv_eq rfl)))) (fun H1 e1 => ?_)
    have e : codeB n = (decide (V.int n = V.int 10) || decide (V.int n = V.int 9)) := Bool.eq_iff_iff.mpr (by
      rw [codeB_iff]
      simp at hb ⊢
      omega)
    rw [e] at q
    exact q H1 e1
theorem ok_char (D : Def K mg "character_of" s_character_of ["code"]) (T : Tx mg) (c_is_code : Cal CX0 P w K mg base 1 "is_code" spCode) : Cal CX0 P w K mg base 2 "character_of" spChar := by
  refine cal0 D sc_character_of (fun vs H Q E h => ?_) (fun f cdv A outer s H vs Q E hr h => ?_)
  · obtain ⟨_, ⟨n, rfl, _⟩, _⟩ := h
    rfl
  obtain ⟨_, ⟨n, rfl, rfl⟩, q⟩ := h
  refine ⟨_, (pss_cons (ps_if (pt_not (pt_val (pe_c c_is_code hr (by decide) (by rfl) (pa_cons (pv 0) pa_nil))))
      (pss_cons (ps_ret pe_non) pss_nil)
      pss_nil)
    (pss_cons (ps_if (pt_cmpR op_eq (pv 0) (pe_gc (by rfl) T.g_TAB) (nomark _))
      (pss_cons (ps_ret pe_str) pss_nil)
      pss_nil)
    (pss_cons (ps_if (pt_cmpR op_eq (pv 0) (pe_gc (by rfl) T.g_LINE_FEED) (nomark _))
      (pss_cons (ps_ret pe_str) pss_nil)
      pss_nil)
    (pss_cons (ps_if (pt_cmpR op_lt (pv 0) (pe_gc (by rfl) T.g_PERCENT) (nomark _))
      (pss_cons (ps_ret (pe_ix ix_str (pe_gc (by rfl) T.g_BELOW_PERCENT) (pe_op op_sub (pv 0) (pe_gc (by rfl) T.g_SPACE)) (fun _ _ => rfl))) pss_nil)
      pss_nil)
    (pss_cons (ps_ret (pe_ix ix_str (pe_gc (by rfl) T.g_ABOVE_PERCENT) (pe_op op_sub (pe_op op_sub (pv 0) (pe_gc (by rfl) T.g_PERCENT)) pe_int) (fun _ _ => rfl))) pss_nil))))), R.go ?_⟩
  refine r_when (et_not (et_B (ev_pv (ea_cons (ev_var rfl) ea_nil) (fun H _ => ⟨n, rfl, rfl⟩)))) (fun hb => ?_) (fun hb => ?_)
  · rw [chV_no (by simpa using hb)] at q
    exact r_ret ev_c (fun H1 e1 => q H1 e1)
  have hc : codeB n = true := by simpa using hb
  rw [chV_yes hc] at q
  have hi := codeB_iff.mp hc
  refine r_when (et_test (ev_op (ev_var rfl) ev_c (rv_eq rfl))) (fun hb => ?_) (fun hb => ?_)
  · have hn : n = 9 := by simpa using hb
    subst hn
    exact r_ret ev_c (fun H1 e1 => q H1 e1)
  have h9 : ¬ n = 9 := by simpa using hb
  refine r_when (et_test (ev_op (ev_var rfl) ev_c (rv_eq rfl))) (fun hb => ?_) (fun hb => ?_)
  · have hn : n = 10 := by simpa using hb
    subst hn
    exact r_ret ev_c (fun H1 e1 => q H1 e1)
  have h10 : ¬ n = 10 := by simpa using hb
  refine r_when (et_test (ev_op (ev_var rfl) ev_c rv_cmp)) (fun hb => ?_) (fun hb => ?_)
  · have hn : n < 37 := by simpa using hb
    refine r_ret (ev_op ev_c (ev_op (ev_var rfl) ev_c rv_ar) (rv_ixSt (by rw [bp_len]; omega) (by omega) (by rw [bp_len]; omega))) (fun H1 e1 => ?_)
    rw [bp_at (n - 32).toNat (by omega), show 32 + (n - 32).toNat = n.toNat by omega]
    exact q H1 e1
  · have hn : ¬ n < 37 := by simpa using hb
    refine r_ret (ev_op ev_c (ev_op (ev_op (ev_var rfl) ev_c rv_ar) ev_c rv_ar) (rv_ixSt (by rw [ab_len]; omega) (by omega) (by rw [ab_len]; omega))) (fun H1 e1 => ?_)
    rw [ab_at (n - 37 - 1).toNat (by omega), show 38 + (n - 37 - 1).toNat = n.toNat by omega]
    exact q H1 e1
theorem ok_istext (D : Def K mg "is_text" s_is_text ["text"]) (T : Tx mg) (c_is_code : Cal CX0 P w K mg base 1 "is_code" spCode) : Cal CX0 P w K mg base 2 "is_text" spIsText := by
  refine cal0 D sc_is_text (fun vs H Q E h => ?_) (fun f cdv A outer s H vs Q E hr h => ?_)
  · obtain ⟨_, ⟨n, rfl, _⟩, _⟩ := h
    rfl
  obtain ⟨_, ⟨t, rfl, hl, rfl⟩, q⟩ := h
  refine ⟨_, (pss_cons (ps_for PassesOwn.never rfl (pi_str (pv 0)) (pg_name (i := 1) sc_is_text.nd rfl (.inl rfl))
      (pss_cons (ps_if (pt_not (pt_val (pe_c c_is_code hr (by decide) (by rfl) (pa_cons (pe_callB call_ord (by rfl) T.z_ord (by decide +kernel) (pa_cons (pv 1) pa_nil)) pa_nil))))
        (pss_cons (ps_ret pe_bl) pss_nil)
        pss_nil) pss_nil))
    (pss_cons (ps_ret pe_bl) pss_nil)), R.go ?_⟩
  refine r_forS (ev_var rfl) (fun i σ B => ∃ y, σ = [some (.str (SX.S t)), y] ∧ Ex H B ∧ (t.take i).all (fun c => codeB (c : Int)) = true) ⟨none, rfl, Ex.refl _, rfl⟩ (fun i c σ B hc hI => ?_) (fun σ B hI => ?_)
  · obtain ⟨y, rfl, eB, hI⟩ := hI
    refine r_when (et_not (et_B (ev_pv (ea_cons (ev_ord (ev_var rfl)) ea_nil) (fun H _ => ⟨_, rfl, rfl⟩)))) (fun hb => ?_) (fun hb => ?_)
    · have e : (t.all fun c => codeB (c : Int)) = false := by
        rw [List.all_eq_false]
        exact ⟨c, List.mem_of_getElem? hc, by simpa using hb⟩
      rw [e] at q
      exact r_ret ev_c (fun H1 e1 => q H1 (eB.trans e1))
    · refine r_up ⟨_, rfl, eB, ?_⟩
      rw [List.take_add_one, hc, List.all_append, hI]
      simpa using hb
  · obtain ⟨y, rfl, eB, hI⟩ := hI
    rw [List.take_length] at hI
    rw [hI] at q
    exact r_ret ev_c (fun H1 e1 => q H1 (eB.trans e1))
theorem ok_enc (D : Def K mg "encode_text" s_encode_text ["text"]) (T : Tx mg) : Cal CX0 P w K mg base 1 "encode_text" spEnc := by
  refine cal0 D sc_encode_text (fun vs H Q E h => ?_) (fun f cdv A outer s H vs Q E hr h => ?_)
  · obtain ⟨_, ⟨n, rfl, _⟩, _⟩ := h
    rfl
  obtain ⟨_, ⟨t, rfl, hl, rfl⟩, q⟩ := h
  refine ⟨_, (pss_cons (ps_ret (pe_lc (own := [("character", 1)]) (g := gName 1) (tt := tYes) rfl sc_encode_text.nd (pi_str (pv 0)) (blkOk_by (N := ["text", "character"]) (sc := defScope s_encode_text) (by decide +kernel)) (fun _ _ _ _ _ => (pg_name (i := 1) sc_encode_text.nd rfl (.inl rfl))) (fun _ _ _ _ _ => pts_nil) (fun _ _ _ _ _ => (pe_callB call_ord (by rfl) T.z_ord (by decide +kernel) (pa_cons (pv 1) pa_nil))))) pss_nil), R.go ?_⟩
  refine r_retN (o := .lst ((t.map fun c : Nat => (c : Int)).map V.int)) (by
    rw [List.map_map]
    exact en_lcS (fun c => V.int (c : Int)) (ei_str (ev_var rfl)) (by omega) (fun _ => rfl) (fun c _ B' e' => ev_ord (ev_var rfl))) (fun p np H1 e1 => q p H1 np ((Ex.new np).trans e1) (e1 p _ upd_same))
theorem ok_dec {C_X : Addr} (D : Def K mg "decode_text" s_decode_text ["octets"]) (T : Tx mg) (Z_InvalidText : ErrC P w K mg base "InvalidText" C_X) (c_character_of : Cal CX0 P w K mg base 2 "character_of" spChar) : CalX P w K mg base 3 "decode_text" (spDec K mg) := by
  refine calX D sc_decode_text (fun vs H Q E h => ?_) (fun f cdv A outer s H vs Q E hr h => ?_)
  · obtain ⟨_, ⟨_, _, rfl, _⟩, _⟩ := h
    rfl
  obtain ⟨_, ⟨p, ns, rfl, hS, hl, rfl⟩, q⟩ := h
  refine ⟨_, (pss_cons (ps_set (i := 1) sc_decode_text.nd rfl (.inl rfl) (pe_lst pa_nil))
    (pss_cons (ps_for (passes_of rfl) rfl (pi_enum (by rfl) T.z_enumerate (pa_cons (pv 0) pa_nil)) (pg_tup rfl (pgs_cons (pg_name (i := 2) sc_decode_text.nd rfl (.inl rfl)) (pgs_cons (pg_name (i := 3) sc_decode_text.nd rfl (.inl rfl)) pgs_nil)))
      (pss_cons (ps_set (i := 4) sc_decode_text.nd rfl (.inl rfl) (pe_c c_character_of hr (by decide) (by rfl) (pa_cons (pv 3) pa_nil)))
      (pss_cons (ps_if (pt_cmpR op_isN (pv 4) pe_non (nomark _))
        (pss_cons (ps_raiseC Z_InvalidText rfl (takes_of rfl rfl rfl rfl) hr (by decide) (by rfl) (pa_cons (pv 2) pa_nil)) pss_nil)
        pss_nil)
      (pss_cons (ps_expr (pe_bm PySem.F.plainAttrs_list PySem.F.slot_list_append PySem.F.type_list_append mt_append (pv 1) (pa_cons (pv 4) pa_nil))) pss_nil))))
    (pss_cons (ps_ret (pe_join pe_str (pv 1))) pss_nil))), R.go ?_⟩
  refine r_asgN (en_lst ea_nil (by decide)) (fun pc npc => ?_)
  have hS1 := ex_l (Ex.new (o := .lst []) npc) hS
  refine r_forEnum (ea_cons (ev_var rfl) ea_nil) hS1 (fun i σ B => ∃ y2 y3 y4, σ = [some (.ref p), some (.ref pc), y2, y3, y4] ∧ Ex H B ∧ B pc = some (.lst ((ns.take i).map fun n => V.str (SX.S [n.toNat]))) ∧ ∀ n ∈ ns.take i, codeB n = true)
    ⟨none, none, none, rfl, Ex.new npc, upd_same, fun n hn => by simp at hn⟩ (fun i σ B hi hI => ?_) (fun i x σ B hx hI => ?_) (fun σ B hI => ?_)
  · obtain ⟨_, _, _, _, eB, _⟩ := hI
    exact ex_l eB hS
  · obtain ⟨y2, y3, y4, rfl, eB, hp, hI⟩ := hI
    rw [List.getElem?_map] at hx
    obtain ⟨n, hn, rfl⟩ := Option.map_eq_some_iff.mp hx
    refine r_asg (ev_pv (ea_cons (ev_var rfl) ea_nil) (fun H _ => ⟨n, rfl, rfl⟩)) ?_
    refine r_when (et_test (ev_op (ev_var rfl) ev_c rv_isN)) (fun hb => ?_) (fun hb => ?_)
    · have hc : codeB n = false := by
        cases h : codeB n with
        | false => rfl
        | true =>
          rw [chV_yes h] at hb
          simp at hb
      rw [show decOut ns = .err "InvalidText" (.int (i : Int)) by unfold decOut; rw [bad_some hn hc hI]] at q
      exact r_raise Z_InvalidText.k (ev_var rfl) (fun d H1 nd e1 hd => q C_X d H1 Z_InvalidText.gC (fresh_back eB nd) (eB.trans e1) hd)
    · have hc : codeB n = true := by
        cases h : codeB n with
        | true => rfl
        | false =>
          rw [chV_no h] at hb
          simp at hb
      rw [chV_yes hc]
      refine r_app hp (ev_var rfl) (ev_var rfl) (by
        rw [List.length_map, List.length_take]
        omega) ?_
      refine r_up ⟨_, _, _, rfl, Ex.mut eB npc, ?_, fun m hm => ?_⟩
      · rw [upd_same, List.take_add_one, hn, List.map_append]
        rfl
      · rw [List.take_add_one, hn] at hm
        rcases List.mem_append.mp hm with h | h
        · exact hI m h
        · have : m = n := by simpa using h
          subst this
          exact hc
  · obtain ⟨y2, y3, y4, rfl, eB, hp, hI⟩ := hI
    rw [List.length_map, List.take_length] at hp hI
    rw [show decOut ns = .val (.str (SX.S (txtOf ns))) by unfold decOut; rw [bad_none hI]] at q
    refine r_ret (v := .str (SX.S (txtOf ns))) ?_ (fun H1 e1 => q H1 (eB.trans e1))
    have ej := ev_joinL (K := K) (σ := [some (.ref p), some (.ref pc), y2, y3, y4]) (te := tC (.str "")) (tb := tVar 1) (a := []) (ys := (txtOf ns).map fun c => [c]) (B := B) ev_c (ev_var rfl) (sq_of (by rw [hp]; unfold txtOf; rw [List.map_map, List.map_map]; rfl)) (by
      rw [sum_ones]
      unfold txtOf
      simp
      omega)
    rw [joinL_signs] at ej
    exact ej
theorem ok_alpha (D : Def K mg "_law_alphabet" s__law_alphabet []) (T : Tx mg) : Cal CX0 P w K mg base 1 "_law_alphabet" spAlpha := by
  refine cal0 D sc__law_alphabet (fun vs H Q E h => ?_) (fun f cdv A outer s H vs Q E hr h => ?_)
  · obtain ⟨_, ⟨rfl, _⟩, _⟩ := h
    rfl
  obtain ⟨_, ⟨rfl, rfl⟩, q⟩ := h
  refine ⟨_, (pss_cons (ps_set (i := 0) sc__law_alphabet.nd rfl (.inl rfl) pe_str)
    (pss_cons (ps_set (i := 1) sc__law_alphabet.nd rfl (.inl rfl) pe_str)
    (pss_cons (ps_set (i := 2) sc__law_alphabet.nd rfl (.inl rfl) (pe_disp (pps_cons pe_str pe_int (pps_cons pe_str pe_int pps_nil)) rfl rfl (by simp) (by decide)))
    (pss_cons (ps_for PassesOwn.never rfl (pi_range1 rfl T.z_range (pa_cons (pe_callB call_len_str (by rfl) T.z_len PySem.boot_len (pa_cons (pv 0) pa_nil)) pa_nil)) (pg_name (i := 3) sc__law_alphabet.nd rfl (.inl rfl))
      (pss_cons (ps_dput (hu_of hr) (pv 2) (pe_ix ix_str (pv 0) (pv 3) (fun _ _ => rfl)) (pe_op op_add pe_int (pv 3)) rfl) pss_nil))
    (pss_cons (ps_for PassesOwn.never rfl (pi_range1 rfl T.z_range (pa_cons (pe_callB call_len_str (by rfl) T.z_len PySem.boot_len (pa_cons (pv 1) pa_nil)) pa_nil)) (pg_name (i := 3) sc__law_alphabet.nd rfl (.inl rfl))
      (pss_cons (ps_dput (hu_of hr) (pv 2) (pe_ix ix_str (pv 1) (pv 3) (fun _ _ => rfl)) (pe_op op_add pe_int (pv 3)) rfl) pss_nil))
    (pss_cons (ps_ret (pv 2)) pss_nil)))))), R.go ?_⟩
  refine r_asg (v := .str (SX.S BP)) ev_c ?_
  refine r_asg (v := .str (SX.S AB)) ev_c ?_
  refine r_asgN (en_disp2 (k1 := .inr (SX.S [10])) (k2 := .inr (SX.S [9])) ev_c ev_c ev_c ev_c) (fun p np => ?_)
  have e0 : mergeK [] [((Sum.inr (SX.S [10]) : Key), V.int 10), (Sum.inr (SX.S [9]), .int 9)] = kvA [10, 9] := by
    have h1 : putK [] (Sum.inr (SX.S [10]) : Key) (V.int 10) = kvA [10] := kvA_put (c := 10) (l := []) (by simp)
    show putK (putK [] (Sum.inr (SX.S [10]) : Key) (V.int 10)) (Sum.inr (SX.S [9])) (.int 9) = _
    rw [h1]
    exact kvA_put (c := 9) (l := [10]) (by decide)
  rw [e0]
  refine r_forR1 (ea_cons (ev_lenS (ev_var rfl) (by rw [bp_len]; omega)) ea_nil) (by rw [bp_len]; omega) (fun i σ B => ∃ y, σ = [some (.str (SX.S BP)), some (.str (SX.S AB)), some (.ref p), y] ∧ Ex H B ∧ B p = some (.dK (kvA ([10, 9] ++ (List.range i).map (32 + ·)))))
    ⟨none, rfl, Ex.new np, upd_same⟩ (fun i σ B hi hI => ?_) (fun σ B hI => ?_)
  · obtain ⟨y, rfl, eB, hp⟩ := hI
    rw [bp_len] at hi
    refine r_dput (k := .inr (SX.S [32 + i])) (ev_op ev_c (ev_var rfl) rv_ar) (ev_var rfl) ?_ hp (by simp [kvA]; omega) ?_
    · have e := ev_op (σ := [some (.str (SX.S BP)), some (.str (SX.S AB)), some (.ref p), some (.int (i : Int))]) (H := B) (ta := tVar 0) (tb := tVar 3) (ev_var rfl) (ev_var rfl) (rv_ixSt (s := BP) (i := (i : Int)) (by rw [bp_len]; omega) (by omega) (by rw [bp_len]; omega))
      rw [show ((i : Int)).toNat = i by omega, bp_at i (by omega)] at e
      exact e
    · refine r_up ⟨_, rfl, Ex.mut eB np, ?_⟩
      rw [upd_same, List.range_succ, List.map_append, ← List.append_assoc]
      exact congrArg (fun l => some (HO.dK l)) ((congrArg (putK _ _) (by show V.int (32 + (i : Int)) = V.int ((32 + i : Nat) : Int); congr 1)).trans (kvA_put (c := 32 + i) (l := [10, 9] ++ (List.range i).map (32 + ·)) (by
        simp
        omega)))
  · obtain ⟨y, rfl, eB, hp⟩ := hI
    rw [bp_len] at hp
    refine r_forR1 (ea_cons (ev_lenS (ev_var rfl) (by rw [ab_len]; omega)) ea_nil) (by rw [ab_len]; omega) (fun i σ B => ∃ y, σ = [some (.str (SX.S BP)), some (.str (SX.S AB)), some (.ref p), y] ∧ Ex H B ∧ B p = some (.dK (kvA (([10, 9] ++ (List.range 5).map (32 + ·)) ++ (List.range i).map (38 + ·)))))
      ⟨_, rfl, eB, by simpa using hp⟩ (fun i σ B hi hI => ?_) (fun σ B hI => ?_)
    · obtain ⟨y, rfl, eB, hp⟩ := hI
      rw [ab_len] at hi
      refine r_dput (k := .inr (SX.S [38 + i])) (ev_op ev_c (ev_var rfl) rv_ar) (ev_var rfl) ?_ hp (by simp [kvA]; omega) ?_
      · have e := ev_op (σ := [some (.str (SX.S BP)), some (.str (SX.S AB)), some (.ref p), some (.int (i : Int))]) (H := B) (ta := tVar 1) (tb := tVar 3) (ev_var rfl) (ev_var rfl) (rv_ixSt (s := AB) (i := (i : Int)) (by rw [ab_len]; omega) (by omega) (by rw [ab_len]; omega))
        rw [show ((i : Int)).toNat = i by omega, ab_at i (by omega)] at e
        exact e
      · refine r_up ⟨_, rfl, Ex.mut eB np, ?_⟩
        rw [upd_same, show (List.range (i + 1)).map (38 + ·) = (List.range i).map (38 + ·) ++ [38 + i] by rw [List.range_succ, List.map_append]; rfl, ← List.append_assoc]
        exact congrArg (fun l => some (HO.dK l)) ((congrArg (putK _ _) (by show V.int (38 + (i : Int)) = V.int ((38 + i : Nat) : Int); congr 1)).trans (kvA_put (c := 38 + i) (l := ([10, 9] ++ (List.range 5).map (32 + ·)) ++ (List.range i).map (38 + ·)) (by
          simp only [List.mem_append, List.mem_map, List.mem_range, List.mem_cons, List.not_mem_nil, or_false]
          rintro (((h | h) | ⟨a, h, e⟩) | ⟨a, h, e⟩) <;> omega)))
    · obtain ⟨y, rfl, eB, hp⟩ := hI
      rw [ab_len] at hp
      exact r_ret (ev_var rfl) (fun H1 e1 => q p H1 np (eB.trans e1) (e1 p _ hp))
/-- what is asked of the classes together -/
structure KF (K : PySem.W.Frag) (C_F C_X C_J : Addr) : Prop where
  x : PySem.W.exmOne K (.ref C_X) (.ref C_F) = some true
  j : PySem.W.kitOne K (.ref C_X) (.ref C_J) = some false
  v : PySem.W.kitOne K (.ref C_X) (.type "ValueError") = some true
theorem kit_self {C : Addr} : PySem.W.kitOne K (.ref C) (.ref C) = some true := by simp [PySem.W.kitOne]
theorem ok_told {C_FormkeeperError C_X C_J : Addr} (D : Def K mg "_law_told" s__law_told ["octets"]) (T : Tx mg) (Z_FormkeeperError : mg "FormkeeperError" = some (.ref C_FormkeeperError)) (Z_InvalidText : ErrC P w K mg base "InvalidText" C_X) (Z_InvalidJson : ErrC P w K mg base "InvalidJson" C_J)
    (k : KF K C_FormkeeperError C_X C_J) (c_decode_text : CalX P w K mg base 3 "decode_text" (spDec K mg)) : Cal CX0 P w K mg base 4 "_law_told" (spTold K mg) := by
  refine cal0 D sc__law_told (fun vs H Q E h => ?_) (fun f cdv A outer s H vs Q E hr h => ?_)
  · obtain ⟨_, ⟨_, _, rfl, _⟩, _⟩ := h
    rfl
  obtain ⟨_, ⟨p, ns, rfl, hS, hl, rfl⟩, q⟩ := h
  refine ⟨_, (pss_cons (ps_tryA (ps_try_as (i := 1) (c := .ref C_FormkeeperError) (Wout := fun _ _ _ _ => False) rfl rfl sc__law_told.nd rfl rfl ⟨rfl, by decide, .inl Z_FormkeeperError⟩ takes0
      (fun W pn xe tk hp => (pss_cons (ps_ret (pe_cX c_decode_text tk hr (by decide) (by rfl) (pa_cons (pv 0) pa_nil))) pss_nil))
      (fun a oe cls d pn hz hf => pss_on hz (fun C dd nm Z hz => (pss_cons (ps_if (pw_or (pt_not (pt_val (pe_callB (call_isD Z.ex hz hf) (by rfl) T.z_isinstance (by decide +kernel) (pa_cons (pv 1) (pa_cons (pe_gc (by rfl) Z_InvalidText.g) pa_nil))))) (pw_or (pt_val (pe_callB (call_isD Z.ex hz hf) (by rfl) T.z_isinstance (by decide +kernel) (pa_cons (pv 1) (pa_cons (pe_gc (by rfl) Z_InvalidJson.g) pa_nil)))) (pw_or1 (pt_not (pt_val (pe_callB (call_isD Z.ex hz hf) (by rfl) T.z_isinstance (by decide +kernel) (pa_cons (pv 1) (pa_cons (pe_bltn (v := .ty "ValueError") (by rfl) T.z_ValueError (by decide +kernel) rfl) pa_nil)))))))).pt
          (pss_cons (ps_ret pe_non) pss_nil)
          pss_nil)
        (pss_cons (ps_ret (pe_tup (pa_cons (pe_xf Z.xf Z.nn hz hf (pv 1)) (pa_cons (pe_xf Z.xf Z.np hz hf (pv 1)) pa_nil)))) pss_nil)))))) pss_nil), R.go ?_⟩
  refine r_try ?_
  unfold toldOut at q
  cases hb : bad ns with
  | none =>
    rw [hb] at q
    exact r_ret (ev_cx (z := .str (SX.S (txtOf ns))) (ea_cons (ev_var rfl) ea_nil) (fun H1 e1 => ⟨p, ns, rfl, ex_l e1 hS, hl, by unfold decOut; rw [hb]⟩)) (fun H1 e1 => q H1 e1)
  | some i =>
    rw [hb] at q
    refine r_retE (x := "InvalidText") (v := .int (i : Int)) (ee_cx (ea_cons (ev_var rfl) ea_nil) (fun H1 e1 => ⟨p, ns, rfl, ex_l e1 hS, hl, by unfold decOut; rw [hb]⟩)) (fun C d H1 m nd e1 hd => ?_)
    rw [Z_InvalidText.gC] at m
    cases m
    refine was_on Z_InvalidText.k k.x (fun a0 na => R.go ?_)
    refine r_when (et_or (et_not (et_B (ev_isD (ea_cons (ev_var rfl) (ea_cons ev_c ea_nil)) (.own C_X) kit_self hd))) (fun hb => (et_or (et_B (ev_isD (ea_cons (ev_var rfl) (ea_cons ev_c ea_nil)) (.own C_J) k.j hd)) (fun hb => (et_not (et_B (ev_isD (ea_cons (ev_var rfl) (ea_cons ev_c ea_nil)) (.ty "ValueError") k.v hd))))))) (fun hb => by simp at hb) (fun hb => ?_)
    exact r_retN (en_tup (ea_cons (ev_xf (ev_var rfl) hd lk_name) (ea_cons (ev_xf (ev_var rfl) hd lk_place) ea_nil)) (by simp)) (fun p1 np H2 e2 => q p1 H2 (fresh_back e1 np) (e1.trans ((Ex.new np).trans e2)) (e2 p1 _ upd_same))
def spLaw (K : PySem.W.Frag) : Sp := PV fun vs H z => ∃ (a : Addr) (ns : List Int), vs = [.ref a] ∧ SqL K H a (ns.map V.int) ∧ ns.length ≤ 63 ∧ z = .bl true
def LS : List V := AL.map fun c => V.str (SX.S [c])
theorem ls_len : LS.length = 96 := by
  unfold LS
  rw [List.length_map, al_len]
theorem ls_eq : (kvA AL).map (fun kv => kV kv.1) = LS := by
  unfold LS kvA
  rw [List.map_map]
  rfl
def LV : List V := AL.map fun c : Nat => V.int (c : Int)
theorem lv_eq : (kvA AL).map (·.2) = LV := by
  unfold LV kvA
  rw [List.map_map]
  rfl
theorem ls_at {i : Int} (h0 : 0 ≤ i) (h1 : i < 96) : atI LS i = some (.str (SX.S [AL.getD i.toNat 0])) := by
  obtain ⟨j, rfl⟩ := Int.eq_ofNat_of_zero_le h0
  have hj : j < AL.length := by
    rw [al_len]
    omega
  refine atI_nat (j := j) ?_
  unfold LS
  rw [List.getElem?_map, List.getElem?_eq_getElem hj]
  simp [List.getD, List.getElem?_eq_getElem hj]
theorem lv_flat : LV.all flatV = true := by
  rw [List.all_eq_true]
  intro v hv
  obtain ⟨c, _, rfl⟩ := List.mem_map.mp hv
  rfl
theorem lv_in {n : Int} : inV (.int n) LV = codeB n := by
  refine Bool.eq_iff_iff.mpr ⟨fun h => ?_, fun h => ?_⟩
  · obtain ⟨y, hy, e⟩ := List.any_eq_true.mp h
    obtain ⟨c, hc, rfl⟩ := List.mem_map.mp hy
    have e' : (c : Int) = n := by simpa [eqV] using e
    rw [← e']
    exact al_mem.mp hc
  · have hn := codeB_iff.mp h
    refine List.any_eq_true.mpr ⟨.int (n.toNat : Int), List.mem_map.mpr ⟨n.toNat, al_mem.mpr ?_, rfl⟩, ?_⟩
    · rw [Int.toNat_of_nonneg (by omega)]
      exact h
    · rw [Int.toNat_of_nonneg (by omega)]
      simp [eqV]
theorem lv_ix {n : Int} (h : codeB n = true) : ∃ j : Nat, j < 96 ∧ AL.getD j 0 = n.toNat ∧ LV[j]? = some (.int n) ∧ ∀ (m : Nat) (w' : V), m < j → LV[m]? = some w' → eqV w' (.int n) = false := by
  have hn := codeB_iff.mp h
  have hm : n.toNat ∈ AL := al_mem.mpr (by rw [Int.toNat_of_nonneg (by omega)]; exact h)
  obtain ⟨j, hj⟩ := List.mem_iff_getElem?.mp hm
  have hjl : j < AL.length := (List.getElem?_eq_some_iff.mp hj).1
  refine ⟨j, by rw [← al_len]; exact hjl, by simp [List.getD, hj], ?_, fun m w' hmj hw => ?_⟩
  · unfold LV
    rw [List.getElem?_map, hj]
    show some (V.int ((n.toNat : Nat) : Int)) = _
    rw [Int.toNat_of_nonneg (by omega)]
  · unfold LV at hw
    rw [List.getElem?_map] at hw
    obtain ⟨c, hc, rfl⟩ := Option.map_eq_some_iff.mp hw
    have hne : ¬ (c : Int) = n := fun e => by
      have : c = n.toNat := by omega
      subst this
      have hml : m < AL.length := (List.getElem?_eq_some_iff.mp hc).1
      have := (List.getElem?_inj hml al_nd).mp (hc.trans hj.symm)
      omega
    simpa [eqV] using hne
theorem strOk_S (l : List Nat) (h : ∀ c ∈ l, c < 1000) : PyData.canLay0 (.str (SX.S l)) = true := by
  simp only [PyData.canLay0]
  unfold PyData.strOk
  rw [Array.all_eq_true_iff_forall_mem]
  intro c hc
  have := h c (by simpa [SX.S] using hc)
  simp
  omega
theorem shaped_told (ns : List Int) (h : bad ns = none → ∀ n ∈ ns, codeB n = true) : SeqAt.shaped (toldDat ns) = true := by
  unfold toldDat
  cases hb : bad ns with
  | none =>
    have e := strOk_S (txtOf ns) (fun c hc => by
      obtain ⟨n, hn, rfl⟩ := List.mem_map.mp hc
      have := codeB_iff.mp (h hb n hn)
      omega)
    simp only [SeqAt.shaped, e, PyData.depth]
    rfl
  | some i =>
    have e : PyData.canLay0 (.str "InvalidText") = true := by decide +kernel
    simp [SeqAt.shaped, PyData.canLay0, PyData.canLayAll0, PyData.depth, PyData.depthAll] at e ⊢
    exact e
theorem eqv_told (ns : List Int) : PyData.eqv (toldDat ns) (toldDat ns) = true := by
  unfold toldDat
  cases bad ns <;> simp [PyData.eqv, PyData.eqvAll]
theorem take_in {t : List Nat} (h : ∀ c ∈ t, c ∈ AL) : (t.all fun c => codeB (c : Int)) = true := by
  rw [List.all_eq_true]
  exact fun c hc => al_mem.mp (h c hc)
theorem ok_law {f : Addr} {fd : FuncData} (F : Fun K "law" "law" s_law f fd) (T : Tx mg) (c_is_text : Cal CX0 P w K mg base 2 "is_text" spIsText) (c_encode_text : Cal CX0 P w K mg base 1 "encode_text" spEnc) (c_decode_text : CalX P w K mg base 3 "decode_text" (spDec K mg))
    (c__law_draw : Cal CX0 P w K mg base 1 "_law_draw" spDraw) (c__law_same : Cal CX0 P w K mg base 2 "_law_same" (spSame K)) (c__law_alphabet : Cal CX0 P w K mg base 1 "_law_alphabet" spAlpha) (c__law_told : Cal CX0 P w K mg base 4 "_law_told" (spTold K mg)) : FnOk P w K mg base CX0 5 f fd ["script"] (spLaw K) := by
  refine F.ok sc_law (fun vs H Q E h => ?_) (fun cdv A outer s H vs Q E hr h => ?_)
  · obtain ⟨_, ⟨a, ns, rfl, _⟩, _⟩ := h
    rfl
  obtain ⟨_, ⟨a, ns, rfl, hS, hl, rfl⟩, q⟩ := h
  refine ⟨_, (pss_cons (ps_set (i := 1) sc_law.nd rfl (.inr rfl) (pe_c0 c__law_alphabet hr (by decide) (by rfl)))
    (pss_cons (ps_set (i := 2) sc_law.nd rfl (.inr rfl) (pe_callTy (call_listD rfl) (by rfl) T.z_list (by decide +kernel) (pa_cons (pv 1) pa_nil)))
    (pss_cons (ps_for PassesOwn.never rfl (pi_list (pe_op op_cat (pe_slice sl_list (pv 0) po_none (po_some pe_int)) (pe_lst (pa_cons pe_int pa_nil)))) (pg_name (i := 3) sc_law.nd rfl (.inl rfl))
      (pss_cons (ps_set (i := 4) sc_law.nd rfl (.inl rfl) (pe_c c__law_draw hr (by decide) (by rfl) (pa_cons (pv 3) (pa_cons pe_int (pa_cons (pe_op op_shl pe_int pe_int) pa_nil)))))
      (pss_cons (ps_set (i := 5) sc_law.nd rfl (.inl rfl) (pe_join pe_str (pe_lc (own := [("number", 10)]) (g := gName 10) (tt := tYes) rfl sc_law.nd (pi_list (pe_slice sl_list (pv 4) po_none (po_some (pe_op op_mod (pe_ix ix_list (pv 4) pe_int (fun _ _ => rfl)) pe_int)))) (blkOk_by (N := ["script", "codes", "signs", "cell", "numbers", "text", "octets", "due", "k", "handed", "number", "octet", "sign"]) (sc := defScope s_law) (by decide +kernel)) (fun _ _ _ _ _ => (pg_name (i := 10) sc_law.nd rfl (.inl rfl))) (fun _ _ _ _ _ => pts_nil) (fun _ _ _ _ _ => (pe_ix (ix_listK (K := K) (by rfl)) (pv 2) (pe_op op_mod (pv 10) (pe_callB (call_len_seqK (K := K) (by rfl)) (by rfl) T.z_len PySem.boot_len (pa_cons (pv 2) pa_nil))) (fun _ _ => rfl))))))
      (pss_cons (ps_set (i := 6) sc_law.nd rfl (.inl rfl) (pe_c c_encode_text hr (by decide) (by rfl) (pa_cons (pv 5) pa_nil)))
      (pss_cons (ps_if (pw_or (pt_not (pt_val (pe_c c__law_same hr (by decide) (by rfl) (pa_cons (pv 6) (pa_cons (pe_lc (own := [("sign", 12)]) (g := gName 12) (tt := tYes) rfl sc_law.nd (pi_str (pv 5)) (blkOk_by (N := ["script", "codes", "signs", "cell", "numbers", "text", "octets", "due", "k", "handed", "number", "octet", "sign"]) (sc := defScope s_law) (by decide +kernel)) (fun _ _ _ _ _ => (pg_name (i := 12) sc_law.nd rfl (.inl rfl))) (fun _ _ _ _ _ => pts_nil) (fun _ _ _ _ _ => (pe_dget (hu_of hr) (pv 1) (pv 12) (fun _ _ => rfl)))) pa_nil))))) (pw_or (pt_cmpR op_ne (pe_cX c_decode_text takes0 hr (by decide) (by rfl) (pa_cons (pv 6) pa_nil)) (pv 5) (nomark _)) (pw_or1 (pt_cmpR op_notBl (pe_c c_is_text hr (by decide) (by rfl) (pa_cons (pv 5) pa_nil)) pe_bl (nomark _))))).pt
        (pss_cons (ps_ret pe_bl) pss_nil)
        pss_nil)
      (pss_cons (ps_setLc (i := 6) (hsw := sw_true rfl rfl rfl (by decide +kernel)) (hy := rfl) (hyl := rfl) (own := [("number", 10)]) (g := gName 10) (tt := tYes) (hc := rfl) (hN := sc_law.nd) (hi := (pi_list (pe_slice sl_list (pv 4) po_none (po_some (pe_op op_mod (pe_ix ix_list (pv 4) pe_int (fun _ _ => rfl)) pe_int))))) (ok := blkOk_by (N := ["script", "codes", "signs", "cell", "numbers", "text", "octets", "due", "k", "handed", "number", "octet", "sign"]) (sc := defScope s_law) (by decide +kernel)) (hg := fun _ _ _ _ _ => (pg_name (i := 10) sc_law.nd rfl (.inl rfl))) (ht := fun _ _ _ _ _ => pts_nil) (he := fun _ _ _ _ _ => (pe_dget (hu_of hr) (pv 1) (pe_ix (ix_listK (K := K) (by rfl)) (pv 2) (pe_op op_mod (pv 10) (pe_callB (call_len_seqK (K := K) (by rfl)) (by rfl) T.z_len PySem.boot_len (pa_cons (pv 2) pa_nil))) (fun _ _ => rfl)) (fun _ _ => rfl))))
      (pss_cons (ps_if (pw_and (pt_cmpR op_eq (pe_op op_mod (pe_ix ix_list (pv 4) pe_int (fun _ _ => rfl)) pe_int) pe_int (nomark _)) (pw_and1 (pt_cmpR op_gt (pe_callB call_len_seq (by rfl) T.z_len PySem.boot_len (pa_cons (pv 6) pa_nil)) pe_int (nomark _)))).pt
        (pss_cons (ps_asg (pe_ix ix_list (pe_lst (pa_cons (pe_op op_mod (pe_ix ix_list (pv 4) pe_int (fun _ _ => rfl)) pe_int) (pa_cons pe_int (pa_cons pe_int (pa_cons pe_int (pa_cons pe_int (pa_cons pe_int (pa_cons pe_int (pa_cons pe_int pa_nil))))))))) (pe_op op_mod (pe_ix ix_list (pv 4) pe_int (fun _ _ => rfl)) pe_int) (fun _ _ => rfl)) (pg_sub (pv 6) (pe_op op_mod (pe_ix ix_list (pv 4) pe_int (fun _ _ => rfl)) (pe_callB call_len_seq (by rfl) T.z_len PySem.boot_len (pa_cons (pv 6) pa_nil))) set_list)) pss_nil)
        pss_nil)
      (pss_cons (ps_set (i := 7) sc_law.nd rfl (.inl rfl) pe_non)
      (pss_cons (ps_for PassesOwn.never rfl (pi_range1 rfl T.z_range (pa_cons (pe_callB call_len_seq (by rfl) T.z_len PySem.boot_len (pa_cons (pv 6) pa_nil)) pa_nil)) (pg_name (i := 8) sc_law.nd rfl (.inl rfl))
        (pss_cons (ps_if (pw_and (pt_cmpR op_isN (pv 7) pe_non (nomark _)) (pw_and1 (pt_cmpR op_notIn_seq (pe_ix ix_list (pv 6) (pv 8) (fun _ _ => rfl)) (pe_listVals (by rfl) (pv 1) (by rfl) T.z_list (by decide +kernel)) (by with_unfolding_all rfl)))).pt
          (pss_cons (ps_set (i := 7) sc_law.nd rfl (.inl rfl) (pe_tup (pa_cons pe_str (pa_cons (pv 8) pa_nil)))) pss_nil)
          pss_nil) pss_nil))
      (pss_cons (ps_if (pt_cmpR op_isN (pv 7) pe_non (nomark _))
        (pss_cons (ps_set (i := 7) sc_law.nd rfl (.inl rfl) (pe_join pe_str (pe_lc (own := [("octet", 11)]) (g := gName 11) (tt := tYes) rfl sc_law.nd (pi_list (pv 6)) (blkOk_by (N := ["script", "codes", "signs", "cell", "numbers", "text", "octets", "due", "k", "handed", "number", "octet", "sign"]) (sc := defScope s_law) (by decide +kernel)) (fun _ _ _ _ _ => (pg_name (i := 11) sc_law.nd rfl (.inl rfl))) (fun _ _ _ _ _ => pts_nil) (fun _ _ _ _ _ => (pe_ix (ix_listK (K := K) (by rfl)) (pv 2) (pe_index (K := K) (by rfl) (pe_listVals (by rfl) (pv 1) (by rfl) T.z_list (by decide +kernel)) (pa_cons (pv 11) pa_nil)) (fun _ _ => rfl)))))) pss_nil)
        pss_nil)
      (pss_cons (ps_set (i := 9) sc_law.nd rfl (.inl rfl) (pe_callTy call_list_of (by rfl) T.z_list (by decide +kernel) (pa_cons (pv 6) pa_nil)))
      (pss_cons (ps_if (pw_or (pt_cmpR (op_neD (hu64 hr)) (pe_c c__law_told hr (by decide) (by rfl) (pa_cons (pv 9) pa_nil)) (pv 7) (nomark _)) (pw_or1 (pt_cmpR (op_neD (hu64 hr)) (pv 9) (pv 6) (nomark _)))).pt
        (pss_cons (ps_ret pe_bl) pss_nil)
        pss_nil) pss_nil))))))))))))
    (pss_cons (ps_ret pe_bl) pss_nil)))), R.go ?_⟩
  refine r_new (en_pn ea_nil (fun H _ => ⟨rfl, rfl⟩)) (fun pd B1 npd e1 hd1 => ?_)
  refine r_new (o := .lst LS) (by rw [← ls_eq]; exact en_listD (ev_var rfl) hd1) (fun ps B2 nps e2 hs2 => ?_)
  have hd2 := e2 pd _ hd1
  have eB2 := e1.trans e2
  have hS2 := ex_l eB2 hS
  have hx0 : cutV (ns.map V.int) none (some 12) ++ [V.int 0] = (ns.take 12 ++ [0]).map V.int := by
    rw [cutV_to (by decide), List.map_append, List.map_take]
    rfl
  refine r_forN (xs := (ns.take 12 ++ [0]).map V.int) (by rw [← hx0]; exact (en_cat (en_sl (ev_var rfl) eo_none (eo_some ev_c) hS2) (en_lst (ea_cons ev_c ea_nil) (by decide)) (by
      have := cutV_length (ns.map V.int) none (some 12)
      rw [List.length_map] at this
      show _ + 1 ≤ _
      omega))) (fun p i σ B => ∃ y3 y4 y5 y6 y7 y8 y9 y10 y11 y12, σ = [some (.ref a), some (.ref pd), some (.ref ps), y3, y4, y5, y6, y7, y8, y9, y10, y11, y12] ∧ Ex B2 B ∧ B p = some (.lst ((ns.take 12 ++ [0]).map V.int)))
    (fun p hp => ⟨none, none, none, none, none, none, none, none, none, none, rfl, Ex.new hp, upd_same⟩) (fun p i σ B _ hI => ?_) (fun p i x σ B hx hI => ?_) (fun p σ B hI => ?_)
  · obtain ⟨_, _, _, _, _, _, _, _, _, _, _, _, h⟩ := hI
    exact sq_of h
  · obtain ⟨y3, y4, y5, y6, y7, y8, y9, y10, y11, y12, rfl, eB, hp⟩ := hI
    rw [List.getElem?_map] at hx
    obtain ⟨c, _, rfl⟩ := Option.map_eq_some_iff.mp hx
    refine r_newd (en_pnd (ea_cons (ev_var rfl) (ea_cons ev_c (ea_cons (ev_op ev_c ev_c (rv_arC ⟨by decide, by decide, by decide⟩)) ea_nil))) (fun H _ => ⟨c, 25, _, rfl, by decide, by decide, by decide, by decide, rfl⟩)) (fun pn B3 o hpn e3 hq3 ho => ?_)
    obtain ⟨ds, rfl, hdl, hdd⟩ := draw_at ho
    have hd' : ∀ i : Nat, i < 25 → 0 ≤ ds.getD i 0 ∧ ds.getD i 0 < 1048576 := fun i hi => hdd i (by omega)
    have hq3 : SqL K B3 pn (ds.map V.int) := sq_of hq3
    have d24 := hd' 24 (by decide)
    have d23 := hd' 23 (by decide)
    have d21 := hd' 21 (by decide)
    have hd3 := e3 pd _ (eB pd _ hd2)
    have hs3 : SqL K B3 ps LS := sq_of (e3 ps _ (eB ps _ hs2))
    have cut : ∀ (j : Int), 0 ≤ j → cutV (ds.map V.int) none (some j) = (ds.take j.toNat).map V.int := fun j hj => by rw [cutV_to hj, List.map_take]
    have m96 : ∀ n : Int, 0 ≤ n % 96 ∧ n % 96 < 96 := fun n => ⟨Int.emod_nonneg _ (by decide), Int.emod_lt_of_pos _ (by decide)⟩
    have sgn : ∀ {σ : L2.St} {B' : Hp} {ta tb tc : TE} (n : Int), SqL K B' ps LS → Ev ta σ B' (.ref ps) → Ev tb σ B' (.int n) → Ev tc σ B' (.int (LS.length : Int)) → Ev (tOp (rIxL K) ta (tOp (rI (fun _ j => 0 < j) fun i j => .int (i % j)) tb tc)) σ B' (.str (SX.S [AL.getD (n % 96).toNat 0])) := fun n hs h1 h2 h3 => by
      rw [ls_len] at h3
      exact ev_op h1 (ev_op h2 h3 (rv_arC (by decide))) (rv_ixL hs (ls_at (m96 n).1 (m96 n).2))
    refine r_asg (ev_joinC (cs := (ds.take (ds.getD 24 0 % 13).toNat).map fun n => AL.getD (n % 96).toNat 0) ev_cS rfl (by
      rw [List.map_map]
      refine en_lcI (fun n => V.str (SX.S [AL.getD (n % 96).toNat 0])) (ei_listN (by rw [← cut _ (Int.emod_nonneg _ (by decide))]; exact en_sl (ev_var rfl) eo_none (eo_some (ev_op (ev_op (ev_var rfl) ev_c (rv_ixI hq3 (by decide) (by omega))) ev_c (rv_arC (by decide)))) hq3)) (by rw [List.length_take]; omega) (fun _ => rfl) (fun n hn B' e' => ?_)
      exact sgn n (ex_l e' hs3) (ev_var rfl) (ev_var rfl) (ev_len (ev_var rfl) (ex_l e' hs3))) (by rw [List.length_map, List.length_take]; omega)) ?_
    have htx : ∀ c ∈ (ds.take (ds.getD 24 0 % 13).toNat).map fun n => AL.getD (n % 96).toNat 0, c ∈ AL := fun c hc => by
      obtain ⟨n, _, rfl⟩ := List.mem_map.mp hc
      exact al_get (by have := m96 n; omega)
    have hxl : ((ds.take (ds.getD 24 0 % 13).toNat).map fun n => AL.getD (n % 96).toNat 0).length ≤ 13 := by
      rw [List.length_map, List.length_take]
      omega
    generalize ((ds.take (ds.getD 24 0 % 13).toNat).map fun n => AL.getD (n % 96).toNat 0) = tx at htx hxl
    refine r_new (en_pn (ea_cons (ev_var rfl) ea_nil) (fun H _ => ⟨tx, rfl, by omega, rfl⟩)) (fun po B4 hpo e4 ho4 => ?_)
    have hd4 := e4 pd _ hd3
    have hs4 := ex_l e4 hs3
    have hq4 := ex_l e4 hq3
    have hcod : ∀ n ∈ tx.map (fun c : Nat => (c : Int)), codeB n = true := fun n hn => by
      obtain ⟨c, hc, rfl⟩ := List.mem_map.mp hn
      exact al_mem.mp (htx c hc)
    have hdec : decOut (tx.map fun c : Nat => (c : Int)) = .val (.str (SX.S tx)) := by
      unfold decOut txtOf
      rw [bad_none hcod, List.map_map]
      have : (Int.toNat ∘ fun c : Nat => (c : Int)) = id := funext fun c => Int.toNat_natCast c
      rw [this, List.map_id]
    refine r_when (et_or (et_not (et_B (ev_pvA (eap_v (ev_var rfl) (eap_n (o := .lst ((tx.map fun c : Nat => (c : Int)).map V.int)) (by
        rw [List.map_map]
        exact en_lcS (fun c => V.int (c : Int)) (ei_str (ev_var rfl)) (by omega) (fun _ => rfl) (fun c hc B' e' => ev_dget (k := .inr (SX.S [c])) (ev_var rfl) (ev_var rfl) (e' pd _ hd4) (kvA_in (htx c hc)))) eap_nil)) (by
        rintro _ H1 e ⟨_, rfl, p2, _, rfl, hp2, rfl⟩
        exact ⟨po, p2, _, rfl, e po _ ho4, sq_of hp2, by rw [List.length_map]; omega, rfl⟩)))) (fun hb => (et_or (et_test (ev_op (ev_cx (z := .str (SX.S tx)) (ea_cons (ev_var rfl) ea_nil) (fun H1 e => ⟨po, _, rfl, sq_of (e po _ ho4), by rw [List.length_map]; omega, hdec.symm⟩)) (ev_var rfl) (rv_ne rfl))) (fun hb => (et_test (ev_op (ev_pv (ea_cons (ev_var rfl) ea_nil) (fun H1 e => ⟨tx, rfl, by omega, rfl⟩)) ev_c rv_notB)))))) (fun hb => ?_) (fun hb => ?_)
    · exfalso
      rw [take_in htx] at hb
      simp at hb
    refine r_new (o := .lst (((ds.take (ds.getD 23 0 % 13).toNat).map fun n => ((AL.getD (n % 96).toNat 0 : Nat) : Int)).map V.int)) (by
      rw [List.map_map]
      refine en_lcI (fun n => V.int ((AL.getD (n % 96).toNat 0 : Nat) : Int)) (ei_listN (by rw [← cut _ (Int.emod_nonneg _ (by decide))]; exact en_sl (ev_var rfl) eo_none (eo_some (ev_op (ev_op (ev_var rfl) ev_c (rv_ixI hq4 (by decide) (by omega))) ev_c (rv_arC (by decide)))) hq4)) (by rw [List.length_take]; omega) (fun _ => rfl) (fun n hn B' e' => ?_)
      exact ev_dget (k := .inr (SX.S [AL.getD (n % 96).toNat 0])) (ev_var rfl) (sgn n (ex_l e' hs4) (ev_var rfl) (ev_var rfl) (ev_len (ev_var rfl) (ex_l e' hs4))) (e' pd _ hd4) (kvA_in (al_get (by have := m96 n; omega)))) (fun pt B5 hpt e5 ht5 => ?_)
    have hol : ((ds.take (ds.getD 23 0 % 13).toNat).map fun n => ((AL.getD (n % 96).toNat 0 : Nat) : Int)).length ≤ 13 := by
      rw [List.length_map, List.length_take]
      omega
    generalize ((ds.take (ds.getD 23 0 % 13).toNat).map fun n => ((AL.getD (n % 96).toNat 0 : Nat) : Int)) = os at ht5 hol
    have hq5 := ex_l e5 hq4
    have e35 := e4.trans e5
    refine r_whenK (fun σ' B' => ∃ os : List Int, Ex B4 B' ∧ σ' = [some (.ref a), some (.ref pd), some (.ref ps), some (.int c), some (.ref pn), some (.str (SX.S tx)), some (.ref pt), y7, y8, y9, y10, y11, y12] ∧ B' pt = some (.lst (os.map V.int)) ∧ os.length ≤ 13)
      (et_and (et_test (ev_op (ev_op (ev_op (ev_var rfl) ev_c (rv_ixI hq5 (by decide) (by omega))) ev_c (rv_arC (by decide))) ev_c (rv_eq rfl))) (fun hb => (et_test (ev_op (ev_len (ev_var rfl) (sq_of ht5)) ev_c rv_cmp)))) (fun σ' B' hM => ?_) (fun k hb => ?_) (fun k hb => k _ _ ⟨os, e5, rfl, ht5, hol⟩)
    rotate_left
    · have hpos : (0 : Int) < ((os.map V.int).length : Int) := by
        simp at hb
        rw [List.length_map]
        omega
      have j0 := Int.emod_nonneg (ds.getD (Int.toNat 21) 0) (show ((os.map V.int).length : Int) ≠ 0 by omega)
      have j1 := Int.emod_lt_of_pos (ds.getD (Int.toNat 21) 0) hpos
      obtain ⟨j, hj⟩ := Int.eq_ofNat_of_zero_le j0
      obtain ⟨v, hv, i, rfl⟩ := atI_any (xs := [V.int (ds.getD (Int.toNat 20) 0 % 256), V.int 37, V.int 31, V.int 127, V.int 128, V.int 8, V.int 11, V.int 13]) (i := ds.getD (Int.toNat 19) 0 % 8) (Pp := fun x => ∃ n : Int, x = V.int n) (Int.emod_nonneg _ (by decide)) (Int.emod_lt_of_pos _ (by decide)) (fun x hx => by
        simp only [List.mem_cons, List.not_mem_nil, or_false] at hx
        rcases hx with rfl | rfl | rfl | rfl | rfl | rfl | rfl | rfl <;> exact ⟨_, rfl⟩)
      refine r_setL (j := j) ht5 (ev_ixN (en_lst (ea_cons (ev_op (ev_op (ev_var rfl) ev_c (rv_ixI hq5 (by decide) (by omega))) ev_c (rv_arC (by decide))) (ea_cons ev_c (ea_cons ev_c (ea_cons ev_c (ea_cons ev_c (ea_cons ev_c (ea_cons ev_c (ea_cons ev_c ea_nil)))))))) (by simp)) (fun B' e' => (ev_op (ev_op (ev_var rfl) ev_c (rv_ixI (ex_l e' hq5) (by decide) (by omega))) ev_c (rv_arC (by decide)))) hv) (ev_var rfl) (by
        have e := ev_op (σ := [some (.ref a), some (.ref pd), some (.ref ps), some (.int c), some (.ref pn), some (.str (SX.S tx)), some (.ref pt), y7, y8, y9, y10, y11, y12]) (ev_op (ta := tVar 4) (ev_var rfl) (ev_c (v := V.int 21)) (rv_ixI hq5 (by decide) (by omega))) (ev_len (K := K) (ta := tVar 6) (ev_var rfl) (sq_of ht5)) (rv_arC (C := fun _ j => 0 < j) (f := fun i j => i % j) hpos)
        rw [hj] at e
        exact e) (by omega) ?_
      refine r_on (k _ _ ⟨os.set j i, Ex.mut e5 hpt, rfl, ?_, by rw [List.length_set]; exact hol⟩)
      rw [upd_same, List.map_set]
    clear ht5 hol hq5
    obtain ⟨os, e46, rfl, ht, hol⟩ := hM
    have hd6 := e46 pd _ hd4
    have hs6 := ex_l e46 hs4
    refine r_asg ev_c ?_
    refine r_forR1 (ea_cons (ev_len (ev_var rfl) (sq_of ht)) ea_nil) (by rw [List.length_map]; omega) (fun i σ B => ∃ (v : V) (y8 : Option V), σ = [some (.ref a), some (.ref pd), some (.ref ps), some (.int c), some (.ref pn), some (.str (SX.S tx)), some (.ref pt), some v, y8, y9, y10, y11, y12] ∧ Ex B' B ∧
        ((v = .non ∧ ∀ n ∈ os.take i, codeB n = true) ∨ ∃ (j : Nat) (pu : Addr), bad os = some j ∧ v = .ref pu ∧ B pu = some (.tup [.str "InvalidText", .int (j : Int)])))
      ⟨.non, _, rfl, Ex.refl _, .inl ⟨rfl, fun n hn => by simp at hn⟩⟩ (fun i σ B hi hI => ?_) (fun σ B hI => ?_)
    · obtain ⟨v, y8, rfl, eB', hI⟩ := hI
      have hi' : i < os.length := by
        rw [List.length_map] at hi
        omega
      have htB := eB' pt _ ht
      refine r_when (et_and (et_test (ev_op (ev_var rfl) ev_c rv_isN)) (fun hb => (et_test (ev_niN (ev_op (ev_var rfl) (ev_var rfl) (rv_ixI (sq_of htB) (by omega) (by omega))) (xs := LV) (by rw [← lv_eq]; exact en_listVals (ev_var rfl) (eB' pd _ hd6)) rfl lv_flat)))) (fun hb => ?_) (fun hb => ?_)
      · rw [lv_in] at hb
        simp at hb
        obtain ⟨rfl, hc⟩ := hb
        rcases hI with ⟨_, hI⟩ | ⟨_, _, _, hI, _⟩
        · have hbd := bad_some (i := i) (n := os.getD i 0) (ns := os) (by simp [List.getD, List.getElem?_eq_getElem hi']) (by simpa [List.getD] using hc) hI
          refine r_new (en_tup (ea_cons ev_c (ea_cons (ev_var rfl) ea_nil)) (by simp)) (fun pu B7 npu e7 hu => ?_)
          exact r_on (r_up ⟨_, _, rfl, eB'.trans e7, .inr ⟨i, pu, hbd, rfl, hu⟩⟩)
        · cases hI
      · refine r_up ⟨v, _, rfl, eB', ?_⟩
        rcases hI with ⟨rfl, hI⟩ | hI
        · refine .inl ⟨rfl, fun n hn => ?_⟩
          rw [lv_in] at hb
          rw [List.take_add_one, List.getElem?_eq_getElem hi'] at hn
          rcases List.mem_append.mp hn with h | h
          · exact hI n h
          · have : n = os[i] := by simpa using h
            subst this
            simp [List.getD, List.getElem?_eq_getElem hi'] at hb
            exact hb
        · exact .inr hI
    · obtain ⟨v, y8, rfl, eB', hI⟩ := hI
      rw [List.length_map, Int.toNat_natCast, List.take_length] at hI
      have htB := eB' pt _ ht
      have hdB := eB' pd _ hd6
      have hsB := ex_l eB' hs6
      refine r_whenK (fun σ' B'' => ∃ v : V, σ' = [some (.ref a), some (.ref pd), some (.ref ps), some (.int c), some (.ref pn), some (.str (SX.S tx)), some (.ref pt), some v, y8, y9, y10, y11, y12] ∧ Ex B B'' ∧ Dp K B'' v (toldDat os)) (et_test (ev_op (ev_var rfl) ev_c rv_isN)) (fun σ' B'' hM => ?_) (fun k hb => ?_) (fun k hb => ?_)
      · obtain ⟨v, rfl, eC, hdp⟩ := hM
        have htC := eC pt _ htB
        have hsh : SeqAt.shaped (toldDat os) = true := shaped_told os (fun h => by
          unfold bad at h
          rw [List.findIdx?_eq_none_iff] at h
          intro n hn
          simpa using h n hn)
        refine r_new (en_list (ev_var rfl) (sq_of htC)) (fun ph B8 nph e8 hh8 => ?_)
        have htold : ∀ {σ : L2.St} {ta : TA}, EvA ta σ B8 [.ref ph] → EvD K (tCall (spTold K mg) [] E0 ta) σ B8 (toldDat os) := fun hA => by
          have hpre : ∀ H1, Ex B8 H1 → ∀ o, toldOut os = o → ∃ (p : Addr) (ns : List Int), [V.ref ph] ++ [] = [.ref p] ∧ SqL K H1 p (ns.map V.int) ∧ ns.length ≤ 1000 ∧ o = toldOut ns := fun H1 e o ho => ⟨ph, os, rfl, sq_of (e ph _ hh8), by omega, ho.symm⟩
          cases hb : bad os with
          | none =>
            have e1 : toldOut os = .val (.str (SX.S (txtOf os))) := by unfold toldOut; rw [hb]
            have e2 : toldDat os = .str (SX.S (txtOf os)) := by unfold toldDat; rw [hb]
            rw [e2]
            exact ed_ev (ev_po hA (fun H1 e => hpre H1 e _ e1)) (.str _)
          | some j =>
            have e1 : toldOut os = .new (.tup [.str "InvalidText", .int (j : Int)]) := by unfold toldOut; rw [hb]
            have e2 : toldDat os = .tuple [.str "InvalidText", .int (j : Int)] := by unfold toldDat; rw [hb]
            rw [e2]
            exact ed_tup (en_po hA (fun H1 e => hpre H1 e _ e1)) (.cons (.str _) (.cons (.int _) .nil))
        refine r_when (et_or (et_test (ev_neD (htold (ea_cons (ev_var rfl) ea_nil)) (ed_ev (ev_var rfl) (dp_ex e8 _ _ hdp)) hsh hsh)) (fun hb => (et_test (ev_neD (ed_ev (ev_var rfl) (.lst (sq_of hh8) (dpa_ints _))) (ed_ev (ev_var rfl) (.lst (sq_of (e8 pt _ htC)) (dpa_ints _))) (PySem.W.ke_shaped_ints _) (PySem.W.ke_shaped_ints _))))) (fun hb => ?_) (fun hb => ?_)
        · exfalso
          rw [eqv_told, eqv_ints] at hb
          simp at hb
        · have eF : Ex B2 B8 := eB.trans (e3.trans (e4.trans (e46.trans (eB'.trans (eC.trans e8)))))
          exact r_up ⟨_, _, _, _, _, _, _, _, _, _, rfl, eF, (e3.trans (e4.trans (e46.trans (eB'.trans (eC.trans e8))))) p _ hp⟩
      · rcases hI with ⟨rfl, hI⟩ | ⟨_, _, _, rfl, _⟩
        · refine r_asg (ev_joinC (cs := txtOf os) ev_cS rfl (by
            unfold txtOf
            rw [List.map_map]
            refine en_lcI (fun n => V.str (SX.S [n.toNat])) (ei_list (ev_var rfl) (sq_of htB)) (by omega) (fun _ => rfl) (fun n hn Bx ex => ?_)
            obtain ⟨j, hj, h1, h2, h3⟩ := lv_ix (hI n hn)
            rw [← h1]
            exact ev_op (ev_var rfl) (ev_indexN (ys := LV) (by rw [← lv_eq]; exact en_listVals (ev_var rfl) (ex pd _ hdB)) (ev_var rfl) rfl lv_flat h2 (by simp [eqV]) h3) (rv_ixL (ex_l ex hsB) (by
              have := ls_at (i := (j : Int)) (by omega) (by omega)
              simpa using this))) (by unfold txtOf; rw [List.length_map]; omega)) ?_
          refine r_on (k _ _ ⟨_, rfl, Ex.refl _, ?_⟩)
          rw [show toldDat os = .str (SX.S (txtOf os)) by unfold toldDat; rw [bad_none hI]]
          exact .str _
        · simp at hb
      · rcases hI with ⟨rfl, hI⟩ | ⟨j, pu, hj, rfl, hu⟩
        · simp at hb
        · refine k _ _ ⟨_, rfl, Ex.refl _, ?_⟩
          rw [show toldDat os = .tuple [.str "InvalidText", .int (j : Int)] by unfold toldDat; rw [hj]]
          exact .tup (st_of hu) (.cons (.str _) (.cons (.int _) .nil))
  · obtain ⟨y3, y4, y5, y6, y7, y8, y9, y10, y11, y12, rfl, eB, hp⟩ := hI
    exact r_ret ev_c (fun H1 e => q H1 ((eB2.trans eB).trans e))
end
theorem all_mk {l : PySem.W.OpenLaw} {w : World} {K : PySem.W.Frag} {h : Heap} {mg : Str → Option Value} {fa : Addr} (X : K.In h) (G : h.Ns mainGlobals mg) (hfa : mg "law" = some (.ref fa))
    {f_is_code : Addr} {od_is_code an_is_code : Option Addr} {sl_is_code : Array (Option Value)} {oc_is_code kV_is_code dc_is_code pm_is_code cd_is_code ct_is_code : Value} (a_is_code : PySem.W.nsIn K mainGlobals "is_code" = some (some (.ref f_is_code))) (l_is_code : K.lookup f_is_code = some ⟨oc_is_code, od_is_code, .func (PySem.W.fnOf "is_code" "is_code" (defArgs s_is_code) (defBody s_is_code) (defScope s_is_code) .none kV_is_code dc_is_code pm_is_code an_is_code cd_is_code ct_is_code), sl_is_code⟩) (c_is_code : PySem.W.codeIn K cd_is_code "is_code" = true) (k_is_code : PySem.W.keepIn K (.ref f_is_code) = true)
    {f_character_of : Addr} {od_character_of an_character_of : Option Addr} {sl_character_of : Array (Option Value)} {oc_character_of kV_character_of dc_character_of pm_character_of cd_character_of ct_character_of : Value} (a_character_of : PySem.W.nsIn K mainGlobals "character_of" = some (some (.ref f_character_of))) (l_character_of : K.lookup f_character_of = some ⟨oc_character_of, od_character_of, .func (PySem.W.fnOf "character_of" "character_of" (defArgs s_character_of) (defBody s_character_of) (defScope s_character_of) .none kV_character_of dc_character_of pm_character_of an_character_of cd_character_of ct_character_of), sl_character_of⟩) (c_character_of : PySem.W.codeIn K cd_character_of "character_of" = true) (k_character_of : PySem.W.keepIn K (.ref f_character_of) = true)
    {f_is_text : Addr} {od_is_text an_is_text : Option Addr} {sl_is_text : Array (Option Value)} {oc_is_text kV_is_text dc_is_text pm_is_text cd_is_text ct_is_text : Value} (a_is_text : PySem.W.nsIn K mainGlobals "is_text" = some (some (.ref f_is_text))) (l_is_text : K.lookup f_is_text = some ⟨oc_is_text, od_is_text, .func (PySem.W.fnOf "is_text" "is_text" (defArgs s_is_text) (defBody s_is_text) (defScope s_is_text) .none kV_is_text dc_is_text pm_is_text an_is_text cd_is_text ct_is_text), sl_is_text⟩) (c_is_text : PySem.W.codeIn K cd_is_text "is_text" = true) (k_is_text : PySem.W.keepIn K (.ref f_is_text) = true)
    {f_encode_text : Addr} {od_encode_text an_encode_text : Option Addr} {sl_encode_text : Array (Option Value)} {oc_encode_text kV_encode_text dc_encode_text pm_encode_text cd_encode_text ct_encode_text : Value} (a_encode_text : PySem.W.nsIn K mainGlobals "encode_text" = some (some (.ref f_encode_text))) (l_encode_text : K.lookup f_encode_text = some ⟨oc_encode_text, od_encode_text, .func (PySem.W.fnOf "encode_text" "encode_text" (defArgs s_encode_text) (defBody s_encode_text) (defScope s_encode_text) .none kV_encode_text dc_encode_text pm_encode_text an_encode_text cd_encode_text ct_encode_text), sl_encode_text⟩) (c_encode_text : PySem.W.codeIn K cd_encode_text "encode_text" = true) (k_encode_text : PySem.W.keepIn K (.ref f_encode_text) = true)
    {f_decode_text : Addr} {od_decode_text an_decode_text : Option Addr} {sl_decode_text : Array (Option Value)} {oc_decode_text kV_decode_text dc_decode_text pm_decode_text cd_decode_text ct_decode_text : Value} (a_decode_text : PySem.W.nsIn K mainGlobals "decode_text" = some (some (.ref f_decode_text))) (l_decode_text : K.lookup f_decode_text = some ⟨oc_decode_text, od_decode_text, .func (PySem.W.fnOf "decode_text" "decode_text" (defArgs s_decode_text) (defBody s_decode_text) (defScope s_decode_text) .none kV_decode_text dc_decode_text pm_decode_text an_decode_text cd_decode_text ct_decode_text), sl_decode_text⟩) (c_decode_text : PySem.W.codeIn K cd_decode_text "decode_text" = true) (k_decode_text : PySem.W.keepIn K (.ref f_decode_text) = true)
    {f__law_draw : Addr} {od__law_draw an__law_draw : Option Addr} {sl__law_draw : Array (Option Value)} {oc__law_draw kV__law_draw dc__law_draw pm__law_draw cd__law_draw ct__law_draw : Value} (a__law_draw : PySem.W.nsIn K mainGlobals "_law_draw" = some (some (.ref f__law_draw))) (l__law_draw : K.lookup f__law_draw = some ⟨oc__law_draw, od__law_draw, .func (PySem.W.fnOf "_law_draw" "_law_draw" (defArgs s__law_draw) (defBody s__law_draw) (defScope s__law_draw) .none kV__law_draw dc__law_draw pm__law_draw an__law_draw cd__law_draw ct__law_draw), sl__law_draw⟩) (c__law_draw : PySem.W.codeIn K cd__law_draw "_law_draw" = true) (k__law_draw : PySem.W.keepIn K (.ref f__law_draw) = true)
    {f__law_is_integer : Addr} {od__law_is_integer an__law_is_integer : Option Addr} {sl__law_is_integer : Array (Option Value)} {oc__law_is_integer kV__law_is_integer dc__law_is_integer pm__law_is_integer cd__law_is_integer ct__law_is_integer : Value} (a__law_is_integer : PySem.W.nsIn K mainGlobals "_law_is_integer" = some (some (.ref f__law_is_integer))) (l__law_is_integer : K.lookup f__law_is_integer = some ⟨oc__law_is_integer, od__law_is_integer, .func (PySem.W.fnOf "_law_is_integer" "_law_is_integer" (defArgs s__law_is_integer) (defBody s__law_is_integer) (defScope s__law_is_integer) .none kV__law_is_integer dc__law_is_integer pm__law_is_integer an__law_is_integer cd__law_is_integer ct__law_is_integer), sl__law_is_integer⟩) (c__law_is_integer : PySem.W.codeIn K cd__law_is_integer "_law_is_integer" = true) (k__law_is_integer : PySem.W.keepIn K (.ref f__law_is_integer) = true)
    {f__law_same : Addr} {od__law_same an__law_same : Option Addr} {sl__law_same : Array (Option Value)} {oc__law_same kV__law_same dc__law_same pm__law_same cd__law_same ct__law_same : Value} (a__law_same : PySem.W.nsIn K mainGlobals "_law_same" = some (some (.ref f__law_same))) (l__law_same : K.lookup f__law_same = some ⟨oc__law_same, od__law_same, .func (PySem.W.fnOf "_law_same" "_law_same" (defArgs s__law_same) (defBody s__law_same) (defScope s__law_same) .none kV__law_same dc__law_same pm__law_same an__law_same cd__law_same ct__law_same), sl__law_same⟩) (c__law_same : PySem.W.codeIn K cd__law_same "_law_same" = true) (k__law_same : PySem.W.keepIn K (.ref f__law_same) = true)
    {f__law_alphabet : Addr} {od__law_alphabet an__law_alphabet : Option Addr} {sl__law_alphabet : Array (Option Value)} {oc__law_alphabet kV__law_alphabet dc__law_alphabet pm__law_alphabet cd__law_alphabet ct__law_alphabet : Value} (a__law_alphabet : PySem.W.nsIn K mainGlobals "_law_alphabet" = some (some (.ref f__law_alphabet))) (l__law_alphabet : K.lookup f__law_alphabet = some ⟨oc__law_alphabet, od__law_alphabet, .func (PySem.W.fnOf "_law_alphabet" "_law_alphabet" (defArgs s__law_alphabet) (defBody s__law_alphabet) (defScope s__law_alphabet) .none kV__law_alphabet dc__law_alphabet pm__law_alphabet an__law_alphabet cd__law_alphabet ct__law_alphabet), sl__law_alphabet⟩) (c__law_alphabet : PySem.W.codeIn K cd__law_alphabet "_law_alphabet" = true) (k__law_alphabet : PySem.W.keepIn K (.ref f__law_alphabet) = true)
    {f__law_told : Addr} {od__law_told an__law_told : Option Addr} {sl__law_told : Array (Option Value)} {oc__law_told kV__law_told dc__law_told pm__law_told cd__law_told ct__law_told : Value} (a__law_told : PySem.W.nsIn K mainGlobals "_law_told" = some (some (.ref f__law_told))) (l__law_told : K.lookup f__law_told = some ⟨oc__law_told, od__law_told, .func (PySem.W.fnOf "_law_told" "_law_told" (defArgs s__law_told) (defBody s__law_told) (defScope s__law_told) .none kV__law_told dc__law_told pm__law_told an__law_told cd__law_told ct__law_told), sl__law_told⟩) (c__law_told : PySem.W.codeIn K cd__law_told "_law_told" = true) (k__law_told : PySem.W.keepIn K (.ref f__law_told) = true)
    {f_law : Addr} {od_law an_law : Option Addr} {sl_law : Array (Option Value)} {oc_law kV_law dc_law pm_law cd_law ct_law : Value} (a_law : PySem.W.nsIn K mainGlobals "law" = some (some (.ref f_law))) (l_law : K.lookup f_law = some ⟨oc_law, od_law, .func (PySem.W.fnOf "law" "law" (defArgs s_law) (defBody s_law) (defScope s_law) .none kV_law dc_law pm_law an_law cd_law ct_law), sl_law⟩) (c_law : PySem.W.codeIn K cd_law "law" = true) (k_law : PySem.W.keepIn K (.ref f_law) = true)
    {t_BELOW_PERCENT : Tok} (g_BELOW_PERCENT : PySem.W.nsIn K mainGlobals "BELOW_PERCENT" = some (some (.str (Str.ofString " !\"#$") t_BELOW_PERCENT)))
    {t_ABOVE_PERCENT : Tok} (g_ABOVE_PERCENT : PySem.W.nsIn K mainGlobals "ABOVE_PERCENT" = some (some (.str (Str.ofString "&'()*+,-./0123456789:;<=>?@ABCDEFGHIJKLMNOPQRSTUVWXYZ[\\]^_`abcdefghijklmnopqrstuvwxyz{|}~") t_ABOVE_PERCENT)))
    {t_TAB : Tok} (g_TAB : PySem.W.nsIn K mainGlobals "TAB" = some (some (.int 9 t_TAB)))
    {t_LINE_FEED : Tok} (g_LINE_FEED : PySem.W.nsIn K mainGlobals "LINE_FEED" = some (some (.int 10 t_LINE_FEED)))
    {t_SPACE : Tok} (g_SPACE : PySem.W.nsIn K mainGlobals "SPACE" = some (some (.int 32 t_SPACE)))
    {t_PERCENT : Tok} (g_PERCENT : PySem.W.nsIn K mainGlobals "PERCENT" = some (some (.int 37 t_PERCENT)))
    {t_TILDE : Tok} (g_TILDE : PySem.W.nsIn K mainGlobals "TILDE" = some (some (.int 126 t_TILDE)))
    (z_len : PySem.W.nsIn K mainGlobals "len" = some none)
    (z_int : PySem.W.nsIn K mainGlobals "int" = some none)
    (z_range : PySem.W.nsIn K mainGlobals "range" = some none)
    (z_isinstance : PySem.W.nsIn K mainGlobals "isinstance" = some none)
    (z_bool : PySem.W.nsIn K mainGlobals "bool" = some none)
    (z_list : PySem.W.nsIn K mainGlobals "list" = some none)
    (z_ord : PySem.W.nsIn K mainGlobals "ord" = some none)
    (z_enumerate : PySem.W.nsIn K mainGlobals "enumerate" = some none)
    (z_ValueError : PySem.W.nsIn K mainGlobals "ValueError" = some none)
    {C_FormkeeperError : Addr} (a_FormkeeperError : PySem.W.nsIn K mainGlobals "FormkeeperError" = some (some (.ref C_FormkeeperError)))
    (ex_FormkeeperError : PySem.W.subIn K (.ref C_FormkeeperError) (.type "BaseException") = some true)
    (ty_FormkeeperError : PySem.W.typeIn K (.ref C_FormkeeperError) = some (.type "type"))
    (ic_FormkeeperError : PySem.W.isClsIn K C_FormkeeperError = true)
    {C_InvalidText : Addr} {nm_InvalidText q_InvalidText : Str} {N_InvalidText : Addr} {bs_InvalidText bm_InvalidText : List Value} {sn_InvalidText : List Str} {su_InvalidText : List Value} {ab_InvalidText : Bool} {co_InvalidText : Option Bool} {dd_InvalidText : Option Addr} {k0_InvalidText k1_InvalidText k3_InvalidText k5_InvalidText : Option Value} {t_InvalidText : Tok}
    (a_InvalidText : PySem.W.nsIn K mainGlobals "InvalidText" = some (some (.ref C_InvalidText)))
    (x_InvalidText : K.lookup C_InvalidText = some (excClassObj nm_InvalidText q_InvalidText C_InvalidText N_InvalidText bs_InvalidText bm_InvalidText true sn_InvalidText su_InvalidText ab_InvalidText co_InvalidText dd_InvalidText k0_InvalidText k1_InvalidText (some (.str "InvalidText" t_InvalidText)) k3_InvalidText k5_InvalidText "ValueError.__new__"))
    (r_InvalidText : PySem.HandSPX.refsVE bm_InvalidText = true)
    (sa_InvalidText : PySem.W.findIn K (.ref C_InvalidText) "__setattr__" = some (some (.builtin "object.__setattr__")))
    (ex_InvalidText : PySem.W.subIn K (.ref C_InvalidText) (.type "BaseException") = some true)
    (ty_InvalidText : PySem.W.typeIn K (.ref C_InvalidText) = some (.type "type"))
    (kp_InvalidText : PySem.W.keepIn K (.ref C_InvalidText) = true)
    (ga_InvalidText : PySem.W.findIn K (.ref C_InvalidText) "__getattribute__" = some (some (.builtin "BaseException.__getattribute__")))
    (gg_InvalidText : PySem.W.findIn K (.ref C_InvalidText) "__getattr__" = some none)
    (hd_InvalidText : PySem.W.hasDictIn K C_InvalidText = true)
    (ha_InvalidText : PySem.W.findIn K (.ref C_InvalidText) "__class__" = some (some (.builtin "object.__class__")))
    (hm_InvalidText : PySem.W.mroIn K C_InvalidText (.type "object") = some true)
    (rd_InvalidText : PySem.W.readsIn K C_InvalidText (.type "type") = true)
    (fd_InvalidText : PySem.W.findCls K (.ref C_InvalidText) (.type "type") "__name__" = some (.get (.builtin "getset_descriptor.__get__") (.builtin "type.__name__") (.ref C_InvalidText) (.type "type")))
    (ic_InvalidText : PySem.W.isClsIn K C_InvalidText = true)
    (np_InvalidText : PySem.W.findIn K (.ref C_InvalidText) "place" = some none)
    (nn_InvalidText : PySem.W.findIn K (.ref C_InvalidText) "name" = some none)
    {C_InvalidJson : Addr} {nm_InvalidJson q_InvalidJson : Str} {N_InvalidJson : Addr} {bs_InvalidJson bm_InvalidJson : List Value} {sn_InvalidJson : List Str} {su_InvalidJson : List Value} {ab_InvalidJson : Bool} {co_InvalidJson : Option Bool} {dd_InvalidJson : Option Addr} {k0_InvalidJson k1_InvalidJson k3_InvalidJson k5_InvalidJson : Option Value} {t_InvalidJson : Tok}
    (a_InvalidJson : PySem.W.nsIn K mainGlobals "InvalidJson" = some (some (.ref C_InvalidJson)))
    (x_InvalidJson : K.lookup C_InvalidJson = some (excClassObj nm_InvalidJson q_InvalidJson C_InvalidJson N_InvalidJson bs_InvalidJson bm_InvalidJson true sn_InvalidJson su_InvalidJson ab_InvalidJson co_InvalidJson dd_InvalidJson k0_InvalidJson k1_InvalidJson (some (.str "InvalidJson" t_InvalidJson)) k3_InvalidJson k5_InvalidJson "ValueError.__new__"))
    (r_InvalidJson : PySem.HandSPX.refsVE bm_InvalidJson = true)
    (sa_InvalidJson : PySem.W.findIn K (.ref C_InvalidJson) "__setattr__" = some (some (.builtin "object.__setattr__")))
    (ex_InvalidJson : PySem.W.subIn K (.ref C_InvalidJson) (.type "BaseException") = some true)
    (ty_InvalidJson : PySem.W.typeIn K (.ref C_InvalidJson) = some (.type "type"))
    (kp_InvalidJson : PySem.W.keepIn K (.ref C_InvalidJson) = true)
    (ga_InvalidJson : PySem.W.findIn K (.ref C_InvalidJson) "__getattribute__" = some (some (.builtin "BaseException.__getattribute__")))
    (gg_InvalidJson : PySem.W.findIn K (.ref C_InvalidJson) "__getattr__" = some none)
    (hd_InvalidJson : PySem.W.hasDictIn K C_InvalidJson = true)
    (ha_InvalidJson : PySem.W.findIn K (.ref C_InvalidJson) "__class__" = some (some (.builtin "object.__class__")))
    (hm_InvalidJson : PySem.W.mroIn K C_InvalidJson (.type "object") = some true)
    (rd_InvalidJson : PySem.W.readsIn K C_InvalidJson (.type "type") = true)
    (fd_InvalidJson : PySem.W.findCls K (.ref C_InvalidJson) (.type "type") "__name__" = some (.get (.builtin "getset_descriptor.__get__") (.builtin "type.__name__") (.ref C_InvalidJson) (.type "type")))
    (ic_InvalidJson : PySem.W.isClsIn K C_InvalidJson = true)
    (np_InvalidJson : PySem.W.findIn K (.ref C_InvalidJson) "place" = some none)
    (nn_InvalidJson : PySem.W.findIn K (.ref C_InvalidJson) "name" = some none)
    {f_I : Addr} {od_I an_I : Option Addr} {sl_I : Array (Option Value)} {oc_I kV_I dc_I pm_I cd_I ct_I : Value}
    (iC_InvalidText : PySem.W.findIn K (.ref C_InvalidText) "__init__" = some (some (.ref f_I)))
    (iC_InvalidJson : PySem.W.findIn K (.ref C_InvalidJson) "__init__" = some (some (.ref f_I)))
    (hn_ : PySem.W.specialIn K (.builtin "object.__class__") "__get__" = some (some (.builtin "getset_descriptor.__get__")))
    (ht_ : PySem.W.takesIn K (.builtin "object.__class__") = some true)
    (tI_ : PySem.W.typeIn K (.ref f_I) = some (.type "function"))
    (l_I : K.lookup f_I = some ⟨oc_I, od_I, .func (PySem.W.fnOf "__init__" "FormkeeperError.__init__" (defArgs s_FormkeeperError___init__) (defBody s_FormkeeperError___init__) (defScope s_FormkeeperError___init__) .none kV_I dc_I pm_I an_I cd_I ct_I), sl_I⟩)
    (c_I : PySem.W.codeIn K cd_I "FormkeeperError.__init__" = true)
    (k_I : PySem.W.keepIn K (.ref f_I) = true)
    (kv : PySem.W.subIn K (.ref C_InvalidText) (.type "ValueError") = some true)
    (sb_InvalidText_FormkeeperError : PySem.W.subIn K (.ref C_InvalidText) (.ref C_FormkeeperError) = some true)
    (ne_InvalidText_InvalidJson : (Value.ref C_InvalidText == Value.ref C_InvalidJson) = false)
    (sb_InvalidText_InvalidJson : PySem.W.subIn K (.ref C_InvalidText) (.ref C_InvalidJson) = some false) :
    ∃ fd : FuncData, (∀ (s : Shared) (v : Value), BindsTo s fd ⟨[v], []⟩ [("script", v)]) ∧ ∀ base : Heap, K.In base → base.Ns mainGlobals mg → FnOk l.prog w K mg base CX0 5 fa fd ["script"] (spLaw K) := by
  have e := hfa.symm.trans (PySem.W.mg_of X G a_law)
  cases e
  have T : Tx mg := ⟨⟨_, PySem.W.mg_of X G g_BELOW_PERCENT, ⟨t_BELOW_PERCENT, rfl⟩⟩, ⟨_, PySem.W.mg_of X G g_ABOVE_PERCENT, ⟨t_ABOVE_PERCENT, rfl⟩⟩, ⟨_, PySem.W.mg_of X G g_TAB, ⟨t_TAB, rfl⟩⟩, ⟨_, PySem.W.mg_of X G g_LINE_FEED, ⟨t_LINE_FEED, rfl⟩⟩, ⟨_, PySem.W.mg_of X G g_SPACE, ⟨t_SPACE, rfl⟩⟩, ⟨_, PySem.W.mg_of X G g_PERCENT, ⟨t_PERCENT, rfl⟩⟩, ⟨_, PySem.W.mg_of X G g_TILDE, ⟨t_TILDE, rfl⟩⟩, PySem.W.mg_none_of X G z_len, PySem.W.mg_none_of X G z_int, PySem.W.mg_none_of X G z_range, PySem.W.mg_none_of X G z_isinstance, PySem.W.mg_none_of X G z_bool, PySem.W.mg_none_of X G z_list, PySem.W.mg_none_of X G z_ord, PySem.W.mg_none_of X G z_enumerate, PySem.W.mg_none_of X G z_ValueError⟩
  have D_is_code : Def K mg "is_code" s_is_code ["code"] := def_mk X G a_is_code l_is_code c_is_code k_is_code (fun _ _ _ _ _ _ us hl => match us, hl with | [_], _ => rfl)
  have D_character_of : Def K mg "character_of" s_character_of ["code"] := def_mk X G a_character_of l_character_of c_character_of k_character_of (fun _ _ _ _ _ _ us hl => match us, hl with | [_], _ => rfl)
  have D_is_text : Def K mg "is_text" s_is_text ["text"] := def_mk X G a_is_text l_is_text c_is_text k_is_text (fun _ _ _ _ _ _ us hl => match us, hl with | [_], _ => rfl)
  have D_encode_text : Def K mg "encode_text" s_encode_text ["text"] := def_mk X G a_encode_text l_encode_text c_encode_text k_encode_text (fun _ _ _ _ _ _ us hl => match us, hl with | [_], _ => rfl)
  have D_decode_text : Def K mg "decode_text" s_decode_text ["octets"] := def_mk X G a_decode_text l_decode_text c_decode_text k_decode_text (fun _ _ _ _ _ _ us hl => match us, hl with | [_], _ => rfl)
  have D__law_draw : Def K mg "_law_draw" s__law_draw ["cell", "many", "bound"] := def_mk X G a__law_draw l__law_draw c__law_draw k__law_draw (fun _ _ _ _ _ _ us hl => match us, hl with | [_, _, _], _ => rfl)
  have D__law_is_integer : Def K mg "_law_is_integer" s__law_is_integer ["actual"] := def_mk X G a__law_is_integer l__law_is_integer c__law_is_integer k__law_is_integer (fun _ _ _ _ _ _ us hl => match us, hl with | [_], _ => rfl)
  have D__law_same : Def K mg "_law_same" s__law_same ["actual", "expected"] := def_mk X G a__law_same l__law_same c__law_same k__law_same (fun _ _ _ _ _ _ us hl => match us, hl with | [_, _], _ => rfl)
  have D__law_alphabet : Def K mg "_law_alphabet" s__law_alphabet [] := def_mk X G a__law_alphabet l__law_alphabet c__law_alphabet k__law_alphabet (fun _ _ _ _ _ _ us hl => match us, hl with | [], _ => rfl)
  have D__law_told : Def K mg "_law_told" s__law_told ["octets"] := def_mk X G a__law_told l__law_told c__law_told k__law_told (fun _ _ _ _ _ _ us hl => match us, hl with | [_], _ => rfl)
  refine ⟨PySem.W.fnOf "law" "law" (defArgs s_law) (defBody s_law) (defScope s_law) .none kV_law dc_law pm_law an_law cd_law ct_law, fun s v => .of_eq rfl, fun base _ _ => ?_⟩
  have FI := fun_mk l_I c_I k_I
  have OI := ok_init (P := l.prog) (w := w) (mg := mg) (base := base) FI
  have bI : Binds K _ ["self", "place"] [] := FI.binds (ps := ["self", "place"]) (fun _ _ _ _ _ _ us hl => match us, hl with | [_, _], _ => rfl)
  have Z_InvalidText : ErrC l.prog w K mg base "InvalidText" C_InvalidText := ⟨PySem.W.mg_of X G a_InvalidText, ⟨⟨⟨_, _, _, _, _, _, _, _, _, _, _, _, _, _, _, x_InvalidText, r_InvalidText⟩, sa_InvalidText, ex_InvalidText, ty_InvalidText, kp_InvalidText⟩, ⟨ga_InvalidText, gg_InvalidText, ex_InvalidText, hd_InvalidText, ha_InvalidText, hn_, ht_, hm_InvalidText⟩, ⟨rd_InvalidText, fd_InvalidText, ⟨_, t_InvalidText, x_InvalidText, rfl, rfl⟩⟩, np_InvalidText, nn_InvalidText⟩, ⟨f_I, _, iC_InvalidText, tI_, OI, bI⟩⟩
  have Z_InvalidJson : ErrC l.prog w K mg base "InvalidJson" C_InvalidJson := ⟨PySem.W.mg_of X G a_InvalidJson, ⟨⟨⟨_, _, _, _, _, _, _, _, _, _, _, _, _, _, _, x_InvalidJson, r_InvalidJson⟩, sa_InvalidJson, ex_InvalidJson, ty_InvalidJson, kp_InvalidJson⟩, ⟨ga_InvalidJson, gg_InvalidJson, ex_InvalidJson, hd_InvalidJson, ha_InvalidJson, hn_, ht_, hm_InvalidJson⟩, ⟨rd_InvalidJson, fd_InvalidJson, ⟨_, t_InvalidJson, x_InvalidJson, rfl, rfl⟩⟩, np_InvalidJson, nn_InvalidJson⟩, ⟨f_I, _, iC_InvalidJson, tI_, OI, bI⟩⟩
  have exm_InvalidText_FormkeeperError : PySem.W.exmOne K (.ref C_InvalidText) (.ref C_FormkeeperError) = some true := exm_of ex_FormkeeperError ic_FormkeeperError ty_FormkeeperError sb_InvalidText_FormkeeperError
  have kit_InvalidText_InvalidJson : PySem.W.kitOne K (.ref C_InvalidText) (.ref C_InvalidJson) = some false := kit_of ne_InvalidText_InvalidJson ic_InvalidJson ty_InvalidJson sb_InvalidText_InvalidJson
  have kf : KF K C_FormkeeperError C_InvalidText C_InvalidJson := ⟨exm_InvalidText_FormkeeperError, kit_InvalidText_InvalidJson, kit_ty (by decide +kernel) kv⟩
  have c1 := ok_code (P := l.prog) (w := w) (base := base) D_is_code T
  have c2 := ok_char D_character_of T c1
  have c3 := ok_dec D_decode_text T Z_InvalidText c2
  have c4 := ok_told D__law_told T (PySem.W.mg_of X G a_FormkeeperError) Z_InvalidText Z_InvalidJson kf c3
  have c5 := ok_isint (P := l.prog) (w := w) (base := base) D__law_is_integer T
  exact ok_law (fun_mk l_law c_law k_law) T (ok_istext D_is_text T c1) (ok_enc D_encode_text T) c3 (ok_draw D__law_draw T) (ok_same D__law_same T c5) (ok_alpha D__law_alphabet T) c4
end K01
open PySem PySem.W PyProof.Rows
set_option maxHeartbeats 0 in
theorem PySem.Challenge.cw_formkeeper_k01_texts_as_octets_holds : PySem.Challenge.rw_formkeeper_k01_texts_as_octets.Holds := by
  w_on; o_law; k_head; (case hw => w_witness2)
  k_fill
  refine L2.walk_of (l := PySem.Challenge.rw_formkeeper_k01_texts_as_octets) (n := 63) (k := 5) (x := "script") (CX := fun _ => L2.CX0) (sp := fun w => K01.spLaw _) rfl (by decide) rfl ⟨rfl, by decide, by decide⟩ (fun w h Y => PySem.W.kIn_of Y) ?F (fun _ _ a ns hl _ hS => ⟨_, ⟨a, ns, rfl, hS, hl, rfl⟩, fun _ _ => rfl⟩) (fun _ _ _ _ _ h => h)
  case F =>
    intro w mg fa h KX G hmg
    refine' K01.all_mk KX G hmg ?a_is_code ?l_is_code ?c_is_code ?k_is_code ?a_character_of ?l_character_of ?c_character_of ?k_character_of ?a_is_text ?l_is_text ?c_is_text ?k_is_text ?a_encode_text ?l_encode_text ?c_encode_text ?k_encode_text ?a_decode_text ?l_decode_text ?c_decode_text ?k_decode_text ?a__law_draw ?l__law_draw ?c__law_draw ?k__law_draw ?a__law_is_integer ?l__law_is_integer ?c__law_is_integer ?k__law_is_integer ?a__law_same ?l__law_same ?c__law_same ?k__law_same ?a__law_alphabet ?l__law_alphabet ?c__law_alphabet ?k__law_alphabet ?a__law_told ?l__law_told ?c__law_told ?k__law_told ?a_law ?l_law ?c_law ?k_law ?g_BELOW_PERCENT ?g_ABOVE_PERCENT ?g_TAB ?g_LINE_FEED ?g_SPACE ?g_PERCENT ?g_TILDE ?z_len ?z_int ?z_range ?z_isinstance ?z_bool ?z_list ?z_ord ?z_enumerate ?z_ValueError ?a_FormkeeperError ?ex_FormkeeperError ?ty_FormkeeperError ?ic_FormkeeperError ?a_InvalidText ?x_InvalidText ?r_InvalidText ?sa_InvalidText ?ex_InvalidText ?ty_InvalidText ?kp_InvalidText ?ga_InvalidText ?gg_InvalidText ?hd_InvalidText ?ha_InvalidText ?hm_InvalidText ?rd_InvalidText ?fd_InvalidText ?ic_InvalidText ?np_InvalidText ?nn_InvalidText ?a_InvalidJson ?x_InvalidJson ?r_InvalidJson ?sa_InvalidJson ?ex_InvalidJson ?ty_InvalidJson ?kp_InvalidJson ?ga_InvalidJson ?gg_InvalidJson ?hd_InvalidJson ?ha_InvalidJson ?hm_InvalidJson ?rd_InvalidJson ?fd_InvalidJson ?ic_InvalidJson ?np_InvalidJson ?nn_InvalidJson ?iC_InvalidText ?iC_InvalidJson ?hn_ ?ht_ ?tI_ ?l_I ?c_I ?k_I ?kv ?sb_InvalidText_FormkeeperError ?ne_InvalidText_InvalidJson ?sb_InvalidText_InvalidJson
    (case a_is_code => k_is); (case l_is_code => k_is); (case c_is_code => k_is); (case k_is_code => k_is); (case a_character_of => k_is); (case l_character_of => k_is); (case c_character_of => k_is); (case k_character_of => k_is); (case a_is_text => k_is); (case l_is_text => k_is); (case c_is_text => k_is); (case k_is_text => k_is); (case a_encode_text => k_is); (case l_encode_text => k_is); (case c_encode_text => k_is); (case k_encode_text => k_is); (case a_decode_text => k_is); (case l_decode_text => k_is); (case c_decode_text => k_is); (case k_decode_text => k_is); (case a__law_draw => k_is); (case l__law_draw => k_is); (case c__law_draw => k_is); (case k__law_draw => k_is); (case a__law_is_integer => k_is); (case l__law_is_integer => k_is); (case c__law_is_integer => k_is); (case k__law_is_integer => k_is); (case a__law_same => k_is); (case l__law_same => k_is); (case c__law_same => k_is); (case k__law_same => k_is); (case a__law_alphabet => k_is); (case l__law_alphabet => k_is); (case c__law_alphabet => k_is); (case k__law_alphabet => k_is); (case a__law_told => k_is); (case l__law_told => k_is); (case c__law_told => k_is); (case k__law_told => k_is); (case a_law => k_is); (case l_law => k_is); (case c_law => k_is); (case k_law => k_is); (case g_BELOW_PERCENT => k_is); (case g_ABOVE_PERCENT => k_is); (case g_TAB => k_is); (case g_LINE_FEED => k_is); (case g_SPACE => k_is); (case g_PERCENT => k_is); (case g_TILDE => k_is); (case z_len => k_is); (case z_int => k_is); (case z_range => k_is); (case z_isinstance => k_is); (case z_bool => k_is); (case z_list => k_is); (case z_ord => k_is); (case z_enumerate => k_is); (case z_ValueError => k_is); (case a_FormkeeperError => k_is); (case ex_FormkeeperError => k_is); (case ty_FormkeeperError => k_is); (case ic_FormkeeperError => k_is); (case a_InvalidText => k_is); (case x_InvalidText => k_is); (case r_InvalidText => first | k_is | rfl | decide +kernel); (case sa_InvalidText => k_is); (case ex_InvalidText => k_is); (case ty_InvalidText => k_is); (case kp_InvalidText => k_is); (case ga_InvalidText => k_is); (case gg_InvalidText => k_is); (case hd_InvalidText => k_is); (case ha_InvalidText => k_is); (case hm_InvalidText => k_is); (case rd_InvalidText => k_is); (case fd_InvalidText => k_is); (case ic_InvalidText => k_is); (case np_InvalidText => k_is); (case nn_InvalidText => k_is); (case a_InvalidJson => k_is); (case x_InvalidJson => k_is); (case r_InvalidJson => first | k_is | rfl | decide +kernel); (case sa_InvalidJson => k_is); (case ex_InvalidJson => k_is); (case ty_InvalidJson => k_is); (case kp_InvalidJson => k_is); (case ga_InvalidJson => k_is); (case gg_InvalidJson => k_is); (case hd_InvalidJson => k_is); (case ha_InvalidJson => k_is); (case hm_InvalidJson => k_is); (case rd_InvalidJson => k_is); (case fd_InvalidJson => k_is); (case ic_InvalidJson => k_is); (case np_InvalidJson => k_is); (case nn_InvalidJson => k_is); (case iC_InvalidText => k_is); (case iC_InvalidJson => k_is); (case hn_ => k_is); (case ht_ => k_is); (case tI_ => k_is); (case l_I => k_is); (case c_I => k_is); (case k_I => k_is); (case kv => k_is); (case sb_InvalidText_FormkeeperError => k_is); (case ne_InvalidText_InvalidJson => first | k_is | rfl | decide +kernel); (case sb_InvalidText_InvalidJson => k_is)
