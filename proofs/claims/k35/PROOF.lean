import PyProof.Rows.All
import Wide.All
import OpenK.AllK
import Wide.FinOn
import HandS.ForMost
import HandS.Style
import HandS.Wide
import HandS.IsInst
import HandS.Steps
import HandS.Codes
import HandS.Evl
import HandS.Walk
import HandS.ForExc
import HandS.ExcInit
import HandS.ExcInitHot
import HandS.ExcField
import HandS.ExcIs
import HandS.RaiseFrom
import HandS.TryMany
import HandS.SuiteRaise
import KE.KTypeName
import HandS.ListItems
import KE.KDictList
import HandS.Deep
import HandS.WideBits
import HandS.Text
import PySem.Challenge.RW_formkeeper_k35_sums_of_octets
set_option Elab.async false
set_option linter.all false
set_option maxRecDepth 100000
/-! common words of these proofs (own text) -/
namespace FK
open PySem PySem.Spec PyProof.Rows L2 Evl

/-! ### heaps -/
theorem same_upd {H : Hp} {p : Addr} {o : HO} (h : H p = none) : Same H (upd H p o) := fun b x e => by
  rw [upd_ne (ne_of_none e h)]
  exact e
/-- an object of the callee's own may change -/
theorem same_mut {H H' : Hp} {p : Addr} {o : HO} (e : Same H H') (h : H p = none) : Same H (upd H' p o) := fun a u ha => by
  rw [upd_ne (ne_of_none ha h)]
  exact e a u ha
theorem sqt_same {K : PySem.W.Frag} {H H' : Hp} {a : Addr} {xs : List V} (e : Same H H') (h : SqT K H a xs) : SqT K H' a xs := by
  rcases h with (h | ⟨o, h⟩) | h
  · exact .inl (.inl (e _ _ h))
  · exact .inl (.inr ⟨o, e _ _ h⟩)
  · exact .inr h
theorem hu64 {A : Around} {k : Nat} (hr : Room k A) : A.units + 64 < cLine := hr.units

/-! ### a def that may be called by its name -/
structure Cal (CX : CXT) (P : Program) (w : World) (K : PySem.W.Frag) (mg : Str → Option Value) (base : Heap) (k : Nat) (x : Str) (sp : Sp) : Prop where
  ex : ∃ (f : Addr) (fd : FuncData) (ps : List Str), FnOk P w K mg base CX k f fd ps sp ∧ mg x = some (.ref f) ∧ PySem.W.keepIn K (.ref f) = true ∧ Binds K fd ps []
structure Def (K : PySem.W.Frag) (mg : Str → Option Value) (x : Str) (st : Stmt) (ps : List Str) : Prop where
  ex : ∃ (f : Addr) (fd : FuncData), Fun K x x st f fd ∧ mg x = some (.ref f) ∧ Binds K fd ps []
section
variable {P : Program} {w : World} {K : PySem.W.Frag} {mg : Str → Option Value} {base : Heap}
theorem cal0 {x : Str} {st : Stmt} {N ps : List Str} {k : Nat} {sp : Sp} (D : Def K mg x st ps) (S : FnScope N ps (defScope st)) (len : ∀ vs H Q E, sp vs H Q E → vs.length = ps.length)
    (hbody : ∀ (f : Addr) (cdv : Value) (A : Around) (outer : List Env) (s : Shared) (H : Hp) (vs : List V) (Q : VK) (E : XK), Room k (A.deeper (envOfC x (defScope st) s.heap.objs.size f cdv)) → sp vs H Q E →
      ∃ t, PSs (cxOf CX0 P w K mg base N x (defScope st) f cdv A outer s H E).nox (defBody st) t ∧ t { nx := fun _ H' => Q .non H', rt := Q } (start N vs) H) : Cal CX0 P w K mg base (k + 1) x sp := by
  obtain ⟨f, fd, F, m, b⟩ := D.ex
  exact ⟨f, fd, ps, F.ok S len (hbody f), m, F.kp, b⟩
end
section
variable {X : Cx} {k j : Nat} {x : Str} {sp : Sp} {p pos : Pos} {e : Expr} {es : List Expr} {t : TA}
theorem pe_c (c : Cal CX0 X.prog X.w X.K X.mg X.base k x sp) (hr : Room j X.A) (hk : k ≤ j) (hg : Gl X x) (ha : PA X (e :: es) t)
    (hdb : (x == ("__debug__" : Str)) = false := by decide) (he : starEach (e :: es) X.env = (false, eval e X.env) :: starEach es X.env := by rfl) (hpl : (backTo pos (starEach es X.env)).any (·.1) = false := by rfl) :
    PE X (.Call (.Name x p) (e :: es) [] pos) (tCall sp [] E0 t) := by
  obtain ⟨f, fd, ps, F, hm, kp, b⟩ := c.ex
  exact pe_call F (hr.mono hk) hg hm kp b .nil pass0 ha hdb he hpl
theorem pe_gc {v : V} (hg : Gl X x) (h : ∃ u, X.mg x = some u ∧ RelV v u) (hd : (x == ("__debug__" : Str)) = false := by decide) : PE X (.Name x pos) (tC v) := by
  obtain ⟨u, hm, r⟩ := h
  exact pe_glob hg hm r hd
end
/-- the def of the module at its place -/
theorem def_mk {K : PySem.W.Frag} {mg : Str → Option Value} {h : Heap} {x : Str} {st : Stmt} {f : Addr} {oc : Value} {od an : Option Addr} {osl : Array (Option Value)} {kV doc pm cdv ct : Value} {ps : List Str} (X : K.In h) (G : h.Ns mainGlobals mg)
    (a : PySem.W.nsIn K mainGlobals x = some (some (.ref f))) (l : K.lookup f = some ⟨oc, od, .func (PySem.W.fnOf x x (defArgs st) (defBody st) (defScope st) .none kV doc pm an cdv ct), osl⟩)
    (c : PySem.W.codeIn K cdv x = true) (k : PySem.W.keepIn K (.ref f) = true)
    (b : ∀ (kV doc pm : Value) (an : Option Addr) (cdv ct : Value) (us : List Value), us.length = ps.length → bindArgs (PySem.W.fnOf x x (defArgs st) (defBody st) (defScope st) .none kV doc pm an cdv ct) ⟨us, []⟩ = pure (ps.zip us)) : Def K mg x st ps :=
  ⟨f, _, fun_mk l c k, PySem.W.mg_of X G a, (fun_mk l c k).binds b⟩

/-! ### loops and items -/
/-- sign by sign -/
theorem for_str {x : List Nat} {g : TG} {tb : TS} {D : Ends} {σ : L2.St} {H : Hp} (Pv : Nat → L2.St → Hp → Prop) (h0 : Pv 0 σ H)
    (hs : ∀ i c σ H, x[i]? = some c → Pv i σ H → g (.str (SX.S [c])) σ H fun σ2 H2 => tb { D with nx := Pv (i + 1), ct := Pv (i + 1), bk := D.nx } σ2 H2) (hd : ∀ σ H, Pv x.length σ H → D.nx σ H) :
    ∃ W : Nat → Nat → L2.St → Hp → Prop, (∃ m, W 0 m σ H) ∧ ∀ i m σ H, W i m σ H →
      ((Its (SX.S x)).stop i H ∧ D.nx σ H) ∨ ((Its (SX.S x)).go i H ∧ ∃ N : L2.St → Hp → Prop, (∀ σ' H', N σ' H' → ∃ m', m' < m ∧ W (i + 1) m' σ' H') ∧ ∀ v H', (Its (SX.S x)).yld i H v H' → g v σ H' fun σ2 H2 => tb { D with nx := N, ct := N, bk := D.nx } σ2 H2) := by
  have hz : (SX.S x).cps.size = x.length := by simp [SX.S]
  refine ⟨fun i m σ H => m = x.length - i ∧ i ≤ x.length ∧ Pv i σ H, ⟨x.length, by simp, Nat.zero_le _, h0⟩, ?_⟩
  rintro i m σ H ⟨rfl, hi, p⟩
  by_cases hlt : i < x.length
  · refine .inr ⟨by show i < (SX.S x).cps.size; omega, Pv (i + 1), fun σ' H' p' => ⟨x.length - (i + 1), by omega, rfl, hlt, p'⟩, fun v H' y => ?_⟩
    obtain ⟨e, c, hc, hv⟩ := y
    subst e hv
    have hc' : x[i]? = some c := by simpa [SX.S] using hc
    exact hs i c σ _ hc' p
  · have e : i = x.length := by omega
    subst e
    exact .inl ⟨by show (SX.S x).cps.size ≤ _; omega, hd σ H p⟩
theorem atI_ints {ns : List Int} {i : Int} (h0 : 0 ≤ i) (h1 : i < ns.length) : atI (ns.map V.int) i = some (.int (ns.getD i.toNat 0)) := by
  obtain ⟨j, rfl⟩ := Int.eq_ofNat_of_zero_le h0
  have hj : j < ns.length := by omega
  refine atI_nat (j := j) ?_
  rw [List.getElem?_map, List.getElem?_eq_getElem hj]
  simp [List.getD, List.getElem?_eq_getElem hj]
theorem getD_mem {ns : List Int} {i : Nat} (h : i < ns.length) : ns.getD i 0 ∈ ns := by
  simp [List.getD, List.getElem?_eq_getElem h]
theorem getD_of {ns : List Int} {i : Nat} {Pp : Int → Prop} (h : ∀ n ∈ ns, Pp n) (hi : i < ns.length) : Pp (ns.getD i 0) := h _ (getD_mem hi)

theorem atI_any {xs : List V} {i : Int} {Pp : V → Prop} (h0 : 0 ≤ i) (h1 : i < xs.length) (h : ∀ x ∈ xs, Pp x) : ∃ v, atI xs i = some v ∧ Pp v := by
  obtain ⟨j, rfl⟩ := Int.eq_ofNat_of_zero_le h0
  have hj : j < xs.length := by omega
  exact ⟨xs[j], atI_nat (List.getElem?_eq_getElem hj), h _ (List.getElem_mem hj)⟩
theorem cutV_int {xs : List V} {i j : Int} (h0 : 0 ≤ i) (h1 : 0 ≤ j) : cutV xs (some i) (some j) = (xs.drop i.toNat).take (j.toNat - i.toNat) := by
  obtain ⟨i, rfl⟩ := Int.eq_ofNat_of_zero_le h0
  obtain ⟨j, rfl⟩ := Int.eq_ofNat_of_zero_le h1
  unfold cutV
  rw [HT.sIx_nat, HT.sIx_nat]
  show _ = (xs.drop i).take (j - i)
  by_cases hi : i ≤ xs.length
  · rw [Nat.min_eq_left hi]
    by_cases hj : j ≤ xs.length
    · rw [Nat.min_eq_left hj]
    · rw [Nat.min_eq_right (by omega), List.take_of_length_le (by rw [List.length_drop]; omega), List.take_of_length_le (by rw [List.length_drop]; omega)]
  · rw [Nat.min_eq_right (show xs.length ≤ i by omega), List.drop_of_length_le (Nat.le_refl _), List.drop_of_length_le (show xs.length ≤ i by omega), List.take_nil, List.take_nil]
theorem cutV_to {xs : List V} {j : Int} (h1 : 0 ≤ j) : cutV xs none (some j) = xs.take j.toNat := by
  have e := cutV_int (xs := xs) (i := 0) (Int.le_refl 0) h1
  rw [show cutV xs none (some j) = cutV xs (some 0) (some j) from by unfold cutV; rw [HT.sIx_none]; rw [show HT.sIx xs.length 0 (some (0 : Int)) = 0 from (HT.sIx_nat xs.length 0 0).trans (Nat.zero_min _)], e]
  rfl
/-! ### a block over every heap that has what the base has -/
def R (t : TS) (D : Ends) (σ : L2.St) (B : Hp) : Prop := ∀ H, Ex B H → t D σ H
/-- a new object -/
def EvN (te : TE) (σ : L2.St) (B : Hp) (o : HO) : Prop := ∀ H1, Ex B H1 → ∀ Q : VK, (∀ p H2, H1 p = none → Ex H1 H2 → H2 p = some o → Q (.ref p) H2) → te σ H1 Q
/-- a value of which this holds -/
def EvP (te : TE) (σ : L2.St) (B : Hp) (Pp : V → Hp → Prop) : Prop := ∀ H1, Ex B H1 → ∀ Q : VK, (∀ v H2, Ex H1 H2 → Pp v H2 → Q v H2) → te σ H1 Q
def EvAP (ta : TA) (σ : L2.St) (B : Hp) (Pp : List V → Hp → Prop) : Prop := ∀ H1, Ex B H1 → ∀ Q : List V → Hp → Prop, (∀ vs H2, Ex H1 H2 → Pp vs H2 → Q vs H2) → ta σ H1 Q
section
variable {K : PySem.W.Frag} {σ : L2.St} {B B' : Hp} {ta tb te tx tl : TE} {t u : TT} {x y z v : V} {D : Ends} {tu tw tz : TS} {g : TG} {o : HO} {Pp : V → Hp → Prop}
theorem R.go (h : R tz D σ B) : tz D σ B := h B (Ex.refl B)
theorem R.mono (h : R tz D σ B) (e : Ex B B') : R tz D σ B' := fun H a => h H (e.trans a)
theorem ex_up {H : Hp} {p : Addr} (e : Ex B H) (h : H p = some o) : Ex (upd B p o) H := fun a u ha => by
  by_cases c : a = p
  · subst c
    rw [upd_same] at ha
    cases ha
    exact h
  · rw [upd_ne c] at ha
    exact e a u ha
theorem ex_mut {H : Hp} {p : Addr} (e : Ex B H) : Ex (upd B p o) (upd H p o) := fun a u ha => by
  by_cases c : a = p
  · subst c
    rw [upd_same] at ha ⊢
    exact ha
  · rw [upd_ne c] at ha ⊢
    exact e a u ha
theorem r_asg {i : Nat} (h : Ev te σ B v) (k : R tz D (σ.set i (some v)) B) : R (tSeq (tAsg te (gName i)) tz) D σ B := fun H a => q_asg (h.mono a) fun H1 e => k H1 (a.trans e)
theorem r_asgN {i : Nat} (h : EvN te σ B o) (k : ∀ p, B p = none → R tz D (σ.set i (some (.ref p))) (upd B p o)) : R (tSeq (tAsg te (gName i)) tz) D σ B := fun H a =>
  h H a _ fun p H2 hp e hh => k p (fresh_back a hp) H2 (ex_up (a.trans e) hh)
/-- .. the base taken as it is then -/
theorem r_new {i : Nat} (h : EvN te σ B o) (k : ∀ p B', B p = none → Ex B B' → B' p = some o → R tz D (σ.set i (some (.ref p))) B') : R (tSeq (tAsg te (gName i)) tz) D σ B := r_asgN h fun p hp => k p _ hp (Ex.new hp) upd_same
theorem r_asgP {i : Nat} (h : EvP te σ B Pp) (k : ∀ v B', Ex B B' → Pp v B' → R tz D (σ.set i (some v)) B') : R (tSeq (tAsg te (gName i)) tz) D σ B := fun H a =>
  h H a _ fun v H2 e hh => k v H2 (a.trans e) hh H2 (Ex.refl H2)
theorem r_if {b : Bool} (h : EvT t σ B b) (h1 : b = true → R tu { D with nx := tz D } σ B) (h2 : b = false → R tw { D with nx := tz D } σ B) : R (tSeq (tIfS t tu tw) tz) D σ B := fun H a =>
  q_if (h.mono a) (fun hb H1 e => h1 hb H1 (a.trans e)) (fun hb H1 e => h2 hb H1 (a.trans e))
/-- an if without else -/
theorem r_when {b : Bool} (h : EvT t σ B b) (h1 : b = true → R tu { D with nx := tz D } σ B) (h2 : b = false → R tz D σ B) : R (tSeq (tIfS t tu tNext) tz) D σ B := r_if h h1 h2
/-- what follows is shown once, from Mid -/
theorem r_whenK (Mid : L2.St → Hp → Prop) {b : Bool} (h : EvT t σ B b) (k : ∀ σ' B', Mid σ' B' → R tz D σ' B') (h1 : (∀ σ' B', Mid σ' B' → R tz D σ' B') → b = true → R tu { D with nx := tz D } σ B) (h2 : (∀ σ' B', Mid σ' B' → R tz D σ' B') → b = false → R tz D σ B) :
    R (tSeq (tIfS t tu tNext) tz) D σ B := r_when h (h1 k) (h2 k)
theorem r_ifK (Mid : L2.St → Hp → Prop) {b : Bool} (h : EvT t σ B b) (k : ∀ σ' B', Mid σ' B' → R tz D σ' B') (h1 : (∀ σ' B', Mid σ' B' → R tz D σ' B') → b = true → R tu { D with nx := tz D } σ B) (h2 : (∀ σ' B', Mid σ' B' → R tz D σ' B') → b = false → R tw { D with nx := tz D } σ B) :
    R (tSeq (tIfS t tu tw) tz) D σ B := r_if h (h1 k) (h2 k)
theorem r_next (k : ∀ H, Ex B H → D.nx σ H) : R tNext D σ B := k
theorem r_on {D : Ends} (k : R tz D σ B) : R tNext { D with nx := tz D } σ B := k
theorem r_ret (h : Ev te σ B v) (k : ∀ H, Ex B H → D.rt v H) : R (tSeq (tRet te) tz) D σ B := fun H a => h H a _ fun H1 e => k H1 (a.trans e)
theorem r_retN (h : EvN te σ B o) (k : ∀ p, B p = none → ∀ H, Ex (upd B p o) H → D.rt (.ref p) H) : R (tSeq (tRet te) tz) D σ B := fun H a => h H a _ fun p H2 hp e hh => k p (fresh_back a hp) H2 (ex_up (a.trans e) hh)
theorem r_retP (h : EvP te σ B Pp) (k : ∀ v B', Ex B B' → Pp v B' → D.rt v B') : R (tSeq (tRet te) tz) D σ B := fun H a => h H a _ fun v H2 e hh => k v H2 (a.trans e) hh
theorem r_brk (k : ∀ H, Ex B H → D.bk σ H) : R (tSeq tBreak tz) D σ B := k
theorem r_cont (k : ∀ H, Ex B H → D.ct σ H) : R (tSeq tCont tz) D σ B := k
theorem r_drop (h : Ev te σ B v) (k : R tz D σ B) : R (tSeq (tDrop te) tz) D σ B := fun H a => q_drop (h.mono a) fun H1 e => k H1 (a.trans e)
theorem r_aug {i : Nat} {f : Int → Int → Int} {a b : Int} (hx : σ[i]? = some (some (.int a))) (h : Ev te σ B (.int b)) (k : R tz D (σ.set i (some (.int (f a b)))) B) : R (tSeq (tAug i te (ipI f)) tz) D σ B := fun H e => q_aug hx (h.mono e) fun H1 e1 => k H1 (e.trans e1)
theorem r_app {l : Addr} {xs : List V} (hl : B l = some (.lst xs)) (ha : Ev ta σ B (.ref l)) (h : Ev te σ B v) (hz : xs.length < 100000) (k : R tz D σ (upd B l (.lst (xs ++ [v])))) :
    R (tSeq (tDrop (tBM K "list" rAppend ta (tCons te tNil))) tz) D σ B := fun H a => q_app (a l _ hl) (ha.mono a) (h.mono a) hz fun H1 e => k _ (ex_mut (a.trans e))
theorem r_appN {l : Addr} {xs : List V} (hl : B l = some (.lst xs)) (ha : Ev ta σ B (.ref l)) (h : EvN te σ B o) (hz : xs.length < 100000) (k : ∀ p, B p = none → R tz D σ (upd (upd B p o) l (.lst (xs ++ [.ref p])))) :
    R (tSeq (tDrop (tBM K "list" rAppend ta (tCons te tNil))) tz) D σ B := fun H a => ha H a _ fun H1 e1 =>
  ⟨Or.inl ⟨rfl, xs, sq_of (e1 l _ (a l _ hl))⟩, h H1 (a.trans e1) _ fun p H2 hp e2 h2 => ⟨l, xs, .ref p, rfl, rfl, e2 l _ (e1 l _ (a l _ hl)), sz_lt hz, k p (fresh_back (a.trans e1) hp) _ (ex_mut (ex_up ((a.trans e1).trans e2) h2))⟩⟩
/-- the word of a loop, over its bases -/
def Up (Pv : Nat → L2.St → Hp → Prop) (i : Nat) (σ : L2.St) (H : Hp) : Prop := ∃ B, Ex B H ∧ Pv i σ B
theorem up_of {Pv : Nat → L2.St → Hp → Prop} {i : Nat} (h : Pv i σ B) : ∀ H, Ex B H → Up Pv i σ H := fun H e => ⟨B, e, h⟩
theorem r_up {Pv : Nat → L2.St → Hp → Prop} {i : Nat} {rt : VK} {bk ct : L2.St → Hp → Prop} (h : Pv i σ B) : R tNext { nx := Up Pv i, rt := rt, bk := bk, ct := ct } σ B := fun H e => ⟨B, e, h⟩
abbrev Lp (Pv : Nat → L2.St → Hp → Prop) (i : Nat) (D : Ends) (tz : TS) : Ends := { nx := Up Pv (i + 1), rt := D.rt, bk := tz D, ct := Up Pv (i + 1) }
theorem r_forL {a : Addr} {xs : List V} {j : Nat} (h : Ev tl σ B (.ref a)) (hx : SqL K B a xs) (Pv : Nat → L2.St → Hp → Prop) (h0 : Pv 0 σ B) (hl : ∀ i σ' B', i ≤ xs.length → Pv i σ' B' → SqL K B' a xs)
    (hs : ∀ i x σ' B', xs[i]? = some x → Pv i σ' B' → R tu (Lp Pv i D tz) (σ'.set j (some x)) B') (hd : ∀ σ' B', Pv xs.length σ' B' → R tz D σ' B') : R (tSeq (tFor (iList K tl) (gName j) tu) tz) D σ B := fun H e =>
  q_forLn (h.mono e) (ex_l e hx) (Up Pv) (fun H1 e1 => ⟨B, e.trans e1, h0⟩) (fun i σ' H' hi ⟨B', e', p⟩ => ex_l e' (hl i σ' B' hi p)) (fun i x σ' H' hx' ⟨B', e', p⟩ => hs i x σ' B' hx' p H' e') fun σ' H' ⟨B', e', p⟩ => hd σ' B' p H' e'
theorem r_forN {xs : List V} {j : Nat} (h : EvN tl σ B (.lst xs)) (Pv : Addr → Nat → L2.St → Hp → Prop) (h0 : ∀ p, B p = none → Pv p 0 σ (upd B p (.lst xs))) (hl : ∀ p i σ' B', i ≤ xs.length → Pv p i σ' B' → SqL K B' p xs)
    (hs : ∀ p i x σ' B', xs[i]? = some x → Pv p i σ' B' → R tu (Lp (Pv p) i D tz) (σ'.set j (some x)) B') (hd : ∀ p σ' B', Pv p xs.length σ' B' → R tz D σ' B') : R (tSeq (tFor (iList K tl) (gName j) tu) tz) D σ B := fun H e =>
  h H e _ fun p H1 hp e1 h1 => ⟨p, rfl, ⟨xs, sq_of h1⟩, for_list (Up (Pv p)) ⟨_, ex_up (e.trans e1) h1, h0 p (fresh_back e hp)⟩ (fun i σ' H' hi ⟨B', e', q⟩ => ex_l e' (hl p i σ' B' hi q))
    (fun i x σ' H' hx' ⟨B', e', q⟩ => hs p i x σ' B' hx' q H' e') fun σ' H' ⟨B', e', q⟩ => hd p σ' B' q H' e'⟩
theorem r_forR1 {ta : TA} {j : Nat} {n : Int} (h : EvA ta σ B [.int n]) (hn : 0 ≤ n ∧ n ≤ 100000) (Pv : Nat → L2.St → Hp → Prop) (h0 : Pv 0 σ B)
    (hs : ∀ (i : Nat) σ' B', (i : Int) < n → Pv i σ' B' → R tu (Lp Pv i D tz) (σ'.set j (some (.int (i : Int)))) B') (hd : ∀ σ' B', Pv n.toNat σ' B' → R tz D σ' B') : R (tSeq (tFor (iRng1 ta) (gName j) tu) tz) D σ B := fun H e =>
  q_forR1 (h.mono e) hn (Up Pv) (fun H1 e1 => ⟨B, e.trans e1, h0⟩) (fun i σ' H' hi ⟨B', e', p⟩ => hs i σ' B' hi p H' e') fun σ' H' ⟨B', e', p⟩ => hd σ' B' p H' e'
theorem r_forR2 {ta : TA} {j : Nat} {lo n : Int} (h : EvA ta σ B [.int lo, .int n]) (hn : 0 ≤ lo ∧ lo ≤ 100000 ∧ -100000 ≤ n ∧ n ≤ 100000) (Pv : Nat → L2.St → Hp → Prop) (h0 : Pv 0 σ B)
    (hs : ∀ (i : Nat) σ' B', lo + (i : Int) < n → Pv i σ' B' → R tu (Lp Pv i D tz) (σ'.set j (some (.int (lo + (i : Int))))) B') (hd : ∀ σ' B', Pv (n - lo).toNat σ' B' → R tz D σ' B') : R (tSeq (tFor (iRng2 ta) (gName j) tu) tz) D σ B := fun H e =>
  q_forR2 (h.mono e) hn (Up Pv) (fun H1 e1 => ⟨B, e.trans e1, h0⟩) (fun i σ' H' hi ⟨B', e', p⟩ => hs i σ' B' hi p H' e') fun σ' H' ⟨B', e', p⟩ => hd σ' B' p H' e'
theorem r_forS {s : List Nat} {j : Nat} (h : Ev tl σ B (.str (SX.S s))) (Pv : Nat → L2.St → Hp → Prop) (h0 : Pv 0 σ B)
    (hs : ∀ (i c : Nat) σ' B', s[i]? = some c → Pv i σ' B' → R tu (Lp Pv i D tz) (σ'.set j (some (.str (SX.S [c])))) B') (hd : ∀ σ' B', Pv s.length σ' B' → R tz D σ' B') : R (tSeq (tFor (iStr tl) (gName j) tu) tz) D σ B := fun H e =>
  h H e _ fun H1 e1 => ⟨_, rfl, for_str (x := s) (Up Pv) ⟨B, e.trans e1, h0⟩ (fun i c σ' H' hc ⟨B', e', p⟩ => hs i c σ' B' hc p H' e') fun σ' H' ⟨B', e', p⟩ => hd σ' B' p H' e'⟩
/-- while, by a word and a number that falls -/
theorem r_while (Pv : Nat → L2.St → Hp → Prop) (m0 : Nat) (h0 : Pv m0 σ B)
    (hs : ∀ m σ' B', Pv m σ' B' → ∃ b, EvT t σ' B' b ∧ (b = true → R tu { D with nx := fun σ2 H2 => ∃ m', m' < m ∧ Up Pv m' σ2 H2, ct := fun σ2 H2 => ∃ m', m' < m ∧ Up Pv m' σ2 H2, bk := tz D } σ' B') ∧ (b = false → R tz D σ' B')) : R (tSeq (tWhile t tu) tz) D σ B := fun H e =>
  q_while (Up Pv) m0 ⟨B, e, h0⟩ fun m σ' H' ⟨B', e', p⟩ => by
    obtain ⟨b, hb, h1, h2⟩ := hs m σ' B' p
    exact ⟨b, hb.mono e', fun hb H1 e1 => ⟨fun σ2 H2 => ∃ m', m' < m ∧ Up Pv m' σ2 H2, fun _ _ q => q, h1 hb H1 (e'.trans e1)⟩, fun hb H1 e1 => h2 hb H1 (e'.trans e1)⟩

/-! ### expressions -/
theorem EvN.mono (e : Ex B B') (h : EvN te σ B o) : EvN te σ B' o := fun H1 a Q q => h H1 (e.trans a) Q q
theorem EvP.mono (e : Ex B B') (h : EvP te σ B Pp) : EvP te σ B' Pp := fun H1 a Q q => h H1 (e.trans a) Q q
theorem ev_slice_str {tl th : TO} {s : List Nat} {lo hi : Option Int} (h : Ev te σ B (.str (SX.S s))) (h1 : EvO tl σ B lo) (h2 : EvO th σ B hi) (hz : s.length ≤ 100000) : Ev (tSl rSlS te tl th) σ B (.str (cutS (SX.S s) lo hi)) := fun H1 e _ q =>
  h H1 e _ fun H2 e2 => h1 H2 (e.trans e2) _ fun H3 e3 => h2 H3 ((e.trans e2).trans e3) _ fun H4 e4 => ⟨_, rfl, by rw [SX.S_len]; exact sz_of hz, q H4 ((e2.trans e3).trans e4)⟩
theorem ev_chain {r r' : R2} {a b : Bool} (ha : Ev ta σ B x) (hb : Ev tb σ B y) (hr : RV r x y B (.bl a)) (hc : a = true → Ev tx σ B z) (hr' : a = true → RV r' y z B (.bl b)) : Ev (tChain r r' ta tb tx) σ B (.bl (a && b)) := fun H1 e Q q =>
  ha H1 e _ fun H2 e2 => hb H2 (e.trans e2) _ fun H3 e3 => hr H3 ((e.trans e2).trans e3) _ fun H4 e4 => ⟨a, rfl, by
    cases a with
    | true =>
      show tx σ H4 _
      exact hc rfl H4 (((e.trans e2).trans e3).trans e4) _ fun H5 e5 => hr' rfl H5 ((((e.trans e2).trans e3).trans e4).trans e5) _ fun H6 e6 => q H6 ((((e2.trans e3).trans e4).trans e5).trans e6)
    | false =>
      show Q (.bl false) H4
      exact q H4 ((e2.trans e3).trans e4)⟩
theorem ev_lenS {s : List Nat} (ha : Ev ta σ B (.str (SX.S s))) (hz : s.length ≤ 100000) : Ev (tCB (fun xs H Q => ∃ z, xs = [.str z] ∧ z.length ≤ sizeLine ∧ Q (.int z.length) H) (tCons ta tNil)) σ B (.int (s.length : Int)) := fun H1 e Q q =>
  ha H1 e _ fun H2 e2 => ⟨_, rfl, by rw [SX.S_len]; exact sz_of hz, by rw [SX.S_len]; exact q H2 e2⟩
theorem ev_lenN {xs : List V} (ha : EvN ta σ B (.lst xs)) : Ev (tCB (rLenS K) (tCons ta tNil)) σ B (.int (xs.length : Int)) := fun H1 e Q q => ha H1 e _ fun p H2 _ e2 h2 => ⟨p, xs, rfl, Or.inl (sq_of h2), q H2 e2⟩
theorem ev_int {i : Int} (ha : Ev ta σ B (.int i)) : Ev (tCB (fun xs H Q => (∃ i, xs = [V.int i] ∧ Q (.int i) H) ∨ ∃ k, xs = [.bl k] ∧ Q (.int (if k then 1 else 0)) H) (tCons ta tNil)) σ B (.int i) := fun H1 e Q q =>
  ha H1 e _ fun H2 e2 => .inl ⟨i, rfl, q H2 e2⟩
theorem ev_ord {c : Nat} (ha : Ev ta σ B (.str (SX.S [c]))) : Ev (tCB (fun xs H Q => ∃ x, xs = [V.str x] ∧ x.length = 1 ∧ Q (.int (x.cps.getD 0 0 : Nat)) H) (tCons ta tNil)) σ B (.int (c : Int)) := fun H1 e Q q =>
  ha H1 e _ fun H2 e2 => ⟨_, rfl, rfl, q H2 e2⟩
theorem rv_cmp {p : Int → Int → Bool} {i j : Int} : RV (rI0 fun i j => .bl (p i j)) (.int i) (.int j) B (.bl (p i j)) := rv_I0
theorem rv_ar {f : Int → Int → Int} {i j : Int} : RV (rI0 fun i j => .int (f i j)) (.int i) (.int j) B (.int (f i j)) := rv_I0
theorem rv_arC {C : Int → Int → Prop} {f : Int → Int → Int} {i j : Int} (hc : C i j) : RV (rI C fun i j => .int (f i j)) (.int i) (.int j) B (.int (f i j)) := rv_I hc
theorem rv_addS {a b : List Nat} (hz : a.length + b.length ≤ 100000) : RV (fun x y H Q => ∃ i j, x = V.str i ∧ y = .str j ∧ i.length + j.length ≤ sizeLine ∧ Q (.str (i ++ j)) H) (.str (SX.S a)) (.str (SX.S b)) B (.str (SX.S (a ++ b))) := fun H1 _ _ q =>
  ⟨_, _, rfl, rfl, by rw [SX.S_len, SX.S_len]; exact sz_of hz, by rw [SX.S_cat]; exact q H1 (Ex.refl H1)⟩
/-- a sign of a text -/
theorem rv_inS {c : Nat} {s : List Nat} : RV (fun x y H Q => ∃ (c : Nat) (z : Str), x = .str ⟨#[c]⟩ ∧ y = .str z ∧ Q (.bl (decide (c ∈ z.cps.toList))) H) (.str (SX.S [c])) (.str (SX.S s)) B (.bl (decide (c ∈ s))) := fun H1 _ _ q => ⟨c, SX.S s, rfl, rfl, q H1 (Ex.refl H1)⟩
theorem rv_niS {c : Nat} {s : List Nat} : RV (fun x y H Q => ∃ (c : Nat) (z : Str), x = .str ⟨#[c]⟩ ∧ y = .str z ∧ Q (.bl (!decide (c ∈ z.cps.toList))) H) (.str (SX.S [c])) (.str (SX.S s)) B (.bl (!decide (c ∈ s))) := fun H1 _ _ q => ⟨c, SX.S s, rfl, rfl, q H1 (Ex.refl H1)⟩
theorem rv_ixSt {s : List Nat} {i : Int} (hz : s.length ≤ 100000) (h0 : 0 ≤ i) (h1 : i < s.length) : RV rIxS (.str (SX.S s)) (.int i) B (.str (SX.S [s.getD i.toNat 0])) := by
  refine rv_ixS (by rw [SX.S_len]; exact hz) ?_
  obtain ⟨j, rfl⟩ := Int.eq_ofNat_of_zero_le h0
  have hj : j < s.length := by omega
  refine atI_nat (j := j) ?_
  simp [SX.S, List.getD, List.getElem?_eq_getElem hj]
theorem rv_ixI {ns : List Int} {p : Addr} {i : Int} (h : SqL K B p (ns.map V.int)) (h0 : 0 ≤ i) (h1 : i < ns.length) : RV (rIxL K) (.ref p) (.int i) B (.int (ns.getD i.toNat 0)) := rv_ixL h (atI_ints h0 h1)
theorem rv_isB {a b : Bool} : RV rIsB (.bl a) (.bl b) B (.bl (decide (a = b))) := fun H1 _ _ q => ⟨a, b, rfl, rfl, q H1 (Ex.refl H1)⟩
theorem rv_isN : RV (fun x y H Q => y = .non ∧ Q (.bl (decide (x = .non))) H) x .non B (.bl (decide (x = .non))) := fun H1 _ _ q => ⟨rfl, q H1 (Ex.refl H1)⟩
theorem rv_notN : RV (fun x y H Q => y = .non ∧ Q (.bl (!decide (x = .non))) H) x .non B (.bl (!decide (x = .non))) := fun H1 _ _ q => ⟨rfl, q H1 (Ex.refl H1)⟩
theorem en_lst {ta : TA} {vs : List V} (h : EvA ta σ B vs) (hl : vs.length ≤ 100000) : EvN (tLst ta) σ B (.lst vs) := el_lst h hl
theorem en_tup {ta : TA} {vs : List V} (h : EvA ta σ B vs) (hl : vs.length ≤ 100000) : EvN (tTup ta) σ B (.tup vs) := eu_tup h hl
theorem en_sl {tl th : TO} {a : Addr} {xs : List V} {lo hi : Option Int} (h : Ev te σ B (.ref a)) (h1 : EvO tl σ B lo) (h2 : EvO th σ B hi) (hs : SqL K B a xs) : EvN (tSl (rSlL K) te tl th) σ B (.lst (cutV xs lo hi)) := el_sl h h1 h2 hs
theorem en_dict : EvN tDNewK σ B (.dK []) := fun H1 _ Q q => fun p hp => q p _ hp (Ex.new hp) upd_same
/-- both operands new lists -/
theorem en_cat {xs ys : List V} (ha : EvN ta σ B (.lst xs)) (hb : EvN tb σ B (.lst ys)) (hz : xs.length + ys.length ≤ 100000) : EvN (tOp rCat ta tb) σ B (.lst (xs ++ ys)) := fun H1 e Q k =>
  ha H1 e _ fun p H2 hp1 e2 hp => hb H2 (e.trans e2) _ fun q H3 _ e3 hq => ⟨p, q, xs, ys, rfl, rfl, e3 p _ hp, hq, sz_of hz, fun r hr => k r _ (fresh_back (e2.trans e3) hr) ((e2.trans e3).trans (Ex.new hr)) upd_same⟩
theorem en_catV {xs ys : List V} {a b : Addr} (ha : Ev ta σ B (.ref a)) (hb : Ev tb σ B (.ref b)) (h1 : B a = some (.lst xs)) (h2 : B b = some (.lst ys)) (hz : xs.length + ys.length ≤ 100000) : EvN (tOp rCat ta tb) σ B (.lst (xs ++ ys)) := fun H1 e Q k =>
  ha H1 e _ fun H2 e2 => hb H2 (e.trans e2) _ fun H3 e3 => ⟨a, b, xs, ys, rfl, rfl, ((e.trans e2).trans e3) a _ h1, ((e.trans e2).trans e3) b _ h2, sz_of hz, fun r hr => k r _ (fresh_back (e2.trans e3) hr) ((e2.trans e3).trans (Ex.new hr)) upd_same⟩
theorem en_catVN {xs ys : List V} {a : Addr} (ha : Ev ta σ B (.ref a)) (hb : EvN tb σ B (.lst ys)) (h1 : B a = some (.lst xs)) (hz : xs.length + ys.length ≤ 100000) : EvN (tOp rCat ta tb) σ B (.lst (xs ++ ys)) := fun H1 e Q k =>
  ha H1 e _ fun H2 e2 => hb H2 (e.trans e2) _ fun q H3 _ e3 hq => ⟨a, q, xs, ys, rfl, rfl, ((e.trans e2).trans e3) a _ h1, hq, sz_of hz, fun r hr => k r _ (fresh_back (e2.trans e3) hr) ((e2.trans e3).trans (Ex.new hr)) upd_same⟩
theorem en_catNV {xs ys : List V} {b : Addr} (ha : EvN ta σ B (.lst xs)) (hb : Ev tb σ B (.ref b)) (h1 : B b = some (.lst ys)) (hz : xs.length + ys.length ≤ 100000) : EvN (tOp rCat ta tb) σ B (.lst (xs ++ ys)) := fun H1 e Q k =>
  ha H1 e _ fun p H2 hp1 e2 hp => hb H2 (e.trans e2) _ fun H3 e3 => ⟨p, b, xs, ys, rfl, rfl, e3 p _ hp, ((e.trans e2).trans e3) b _ h1, sz_of hz, fun r hr => k r _ (fresh_back (e2.trans e3) hr) ((e2.trans e3).trans (Ex.new hr)) upd_same⟩
/-- an item of a new list -/
theorem ev_ixN {xs : List V} {i : Int} (ha : EvN ta σ B (.lst xs)) (hb : ∀ B', Ex B B' → Ev tb σ B' (.int i)) (h : atI xs i = some v) : Ev (tOp (rIxL K) ta tb) σ B v := ev_opL1 ha hb fun p H1 hp _ => rv_ixL (sq_of hp) h
/-- sep.join(a new list) -/
theorem ev_joinN {a : Str} {ys : List Str} (ha : Ev ta σ B (.str a)) (hb : EvN tb σ B (.lst (ys.map V.str))) (hz : (ys.map (·.length)).sum + ys.length * a.length ≤ 16777216) :
    Ev (tM1 (fun x xs H Q => ∃ a p, ∃ ys : List Str, x = .str a ∧ xs = [.ref p] ∧ (SqL K H p (ys.map V.str) ∨ SqT K H p (ys.map V.str)) ∧ (ys.map (·.length)).sum + ys.length * a.length ≤ 16777216 ∧ Q (.str (Txt.join a ys)) H) ta tb) σ B (.str (Txt.join a ys)) := fun H1 e Q q =>
  ha H1 e _ fun H2 e2 => ⟨⟨a, rfl⟩, hb H2 (e.trans e2) _ fun p H3 _ e3 hp => ⟨a, p, ys, rfl, rfl, .inl (sq_of hp), hz, q H3 (e2.trans e3)⟩⟩
theorem ev_cS {x : Str} : Ev (tC (.str x)) σ B (.str (SX.S x.cps.toList)) := by
  rw [SX.S_tl]
  exact ev_c
theorem joinL_signs : ∀ cs : List Nat, TL.joinL [] (cs.map fun c => [c]) = cs
  | [] => rfl
  | [c] => rfl
  | c :: d :: r => by
    show [c] ++ ([] ++ TL.joinL [] ((d :: r).map fun c => [c])) = _
    rw [joinL_signs (d :: r)]
    rfl
theorem joinL_len (a : List Nat) : ∀ ys : List (List Nat), (TL.joinL a ys).length ≤ (ys.map (·.length)).sum + ys.length * a.length
  | [] => Nat.zero_le _
  | [y] => by
    show y.length ≤ _
    simp
  | y :: z :: r => by
    have ih := joinL_len a (z :: r)
    show (y ++ (a ++ TL.joinL a (z :: r))).length ≤ _
    rw [List.length_append, List.length_append]
    simp only [List.map_cons, List.sum_cons, List.length_cons, Nat.succ_mul] at ih ⊢
    omega
/-- sep.join(a new list of texts) -/
theorem ev_joinS {a : List Nat} {ys : List (List Nat)} (ha : Ev ta σ B (.str (SX.S a))) (hb : EvN tb σ B (.lst (ys.map fun l => V.str (SX.S l)))) (hz : (ys.map (·.length)).sum + ys.length * a.length ≤ 16777216) :
    Ev (tM1 (fun x xs H Q => ∃ a p, ∃ ys : List Str, x = .str a ∧ xs = [.ref p] ∧ (SqL K H p (ys.map V.str) ∨ SqT K H p (ys.map V.str)) ∧ (ys.map (·.length)).sum + ys.length * a.length ≤ 16777216 ∧ Q (.str (Txt.join a ys)) H) ta tb) σ B (.str (SX.S (TL.joinL a ys))) := by
  rw [← SX.join_S]
  refine ev_joinN ha (by rw [List.map_map]; exact hb) ?_
  rw [SX.lens, List.length_map, SX.S_len]
  exact hz
theorem sum_ones : ∀ cs : List Nat, ((cs.map fun c => [c]).map (·.length)).sum = cs.length
  | [] => rfl
  | c :: r => by
    have ih := sum_ones r
    simp only [List.map_cons, List.sum_cons, List.length_cons, List.length_nil] at ih ⊢
    omega
/-- ''.join(a new list of single signs) -/
theorem ev_joinC {a cs : List Nat} (ha : Ev ta σ B (.str (SX.S a))) (h0 : a = []) (hb : EvN tb σ B (.lst (cs.map fun c => V.str (SX.S [c])))) (hz : cs.length ≤ 100000) :
    Ev (tM1 (fun x xs H Q => ∃ a p, ∃ ys : List Str, x = .str a ∧ xs = [.ref p] ∧ (SqL K H p (ys.map V.str) ∨ SqT K H p (ys.map V.str)) ∧ (ys.map (·.length)).sum + ys.length * a.length ≤ 16777216 ∧ Q (.str (Txt.join a ys)) H) ta tb) σ B (.str (SX.S cs)) := by
  subst h0
  have e := ev_joinS (K := K) (a := []) (ys := cs.map fun c => [c]) ha (by rw [List.map_map]; exact hb) (by rw [sum_ones]; simp; omega)
  rw [joinL_signs] at e
  exact e
theorem en_splitS {a b : List Nat} (ha : Ev ta σ B (.str (SX.S a))) (hb : Ev tb σ B (.str (SX.S b))) (h0 : b ≠ []) (hk : b.all (· < 256) = true) (hz : a.length ≤ 100000) :
    EvN (tM1 (fun x xs H Q => ∃ a b, x = .str a ∧ xs = [.str b] ∧ (b.length == 0) = false ∧ a.length + 2 ≤ sizeLine ∧ rNewStrs (Txt.split a b) H Q) ta tb) σ B (.lst ((TL.spl b 0 [] a).map fun l => V.str (SX.S l))) := by
  have e : (TL.spl b 0 [] a).map (fun l => V.str (SX.S l)) = (Txt.split (SX.S a) (SX.S b)).map V.str := by
    rw [SX.split_S h0 hk, List.map_map]
    rfl
  rw [e]
  exact fun H1 e Q q => ha H1 e _ fun H2 e2 => ⟨⟨_, rfl⟩, hb H2 (e.trans e2) _ fun H3 e3 => ⟨_, _, rfl, rfl, by
    rw [SX.S_len]
    cases b with
    | nil => exact absurd rfl h0
    | cons c r => rfl, by rw [SX.S_len]; exact Nat.le_trans (Nat.add_le_add_right hz 2) (by decide), fun p hp => q p _ (fresh_back (e2.trans e3) hp) ((e2.trans e3).trans (Ex.new hp)) upd_same⟩⟩
theorem spl_len (S : List Nat) : ∀ (l acc : List Nat) (k : Nat), ∀ p ∈ TL.spl S k acc l, p.length ≤ acc.length + l.length
  | [], acc, 0, p, h => by
    rw [TL.spl_nil] at h
    simp at h
    subst h
    omega
  | [], acc, k + 1, p, h => by
    rw [TL.spl_nil] at h
    simp at h
    subst h
    omega
  | c :: r, acc, 0, p, h => by
    unfold TL.spl at h
    split at h
    · rcases List.mem_cons.mp h with h | h
      · subst h
        omega
      · have := spl_len S r [] _ p h
        simp at this ⊢
        omega
    · have := spl_len S r _ _ p h
      simp at this ⊢
      omega
  | c :: r, acc, k + 1, p, h => by
    unfold TL.spl at h
    have := spl_len S r acc k p h
    simp at this ⊢
    omega
/-- what a for (of a comprehension) goes over, the heap as it was -/
def EvI (wi : TI) (σ : L2.St) (B : Hp) (xs : List V) : Prop := ∀ H1, Ex B H1 → ∀ R : It → Hp → Prop, (∀ (J : It) (H2 : Hp) (G : Hp → Prop), Ex H1 H2 → Walk J xs.length G (YAt xs) → (∀ H3, Ex H2 H3 → G H3) → R J H2) → wi σ H1 R
theorem ei_list {a : Addr} {xs : List V} (h : Ev tl σ B (.ref a)) (hx : SqL K B a xs) : EvI (iList K tl) σ B xs := fun H1 e R k => h H1 e _ fun H2 e2 => ⟨a, rfl, ⟨xs, ex_l (e.trans e2) hx⟩, k _ H2 _ e2 walk_list fun H3 e3 => ex_l ((e.trans e2).trans e3) hx⟩
theorem ei_listN {xs : List V} (h : EvN tl σ B (.lst xs)) : EvI (iList K tl) σ B xs := fun H1 e R k => h H1 e _ fun p H2 hp e2 h2 => ⟨p, rfl, ⟨xs, sq_of h2⟩, k _ H2 _ e2 walk_list fun H3 e3 => sq_of (e3 p _ h2)⟩
theorem ei_str {s : List Nat} (h : Ev tl σ B (.str (SX.S s))) : EvI (iStr tl) σ B (s.map fun c => .str (SX.S [c])) := fun H1 e R k => h H1 e _ fun H2 e2 => ⟨_, rfl, k _ H2 (fun _ => True) e2 (by
  have hz : (SX.S s).cps.size = s.length := by simp [SX.S]
  have w := walk_str (z := SX.S s)
  rw [hz] at w
  rw [List.length_map]
  refine w.mono (fun _ h => h) fun i H x H' hi _ y => ?_
  obtain ⟨y1, c, hc, hv⟩ := y
  refine ⟨y1, ?_⟩
  have hc' : s[i]? = some c := by simpa [SX.S] using hc
  rw [List.getElem?_map, hc', hv]
  rfl) fun _ _ => trivial⟩
theorem ei_range1 {ta : TA} {n : Int} (h : EvA ta σ B [.int n]) (hn : 0 ≤ n ∧ n ≤ 100000) : EvI (iRng1 ta) σ B ((List.range n.toNat).map fun i : Nat => V.int (i : Int)) := fun H1 e R k => h H1 e _ fun H2 e2 => by
  refine ⟨n, rfl, by omega, by omega, k _ H2 (fun _ => True) e2 ?_ fun _ _ => trivial⟩
  rw [List.length_map, List.length_range]
  refine walk_range.mono (fun _ h => h) fun i H x H' hi _ y => ⟨y.1, ?_⟩
  rw [List.getElem?_map, List.getElem?_range hi, y.2]
  show some (V.int (i : Int)) = some (V.int ((0 : Int) + (i : Int)))
  rw [Int.zero_add]
/-- a comprehension of values -/
theorem en_lc {wi : TI} {xs : List V} {j : Nat} {vs : List Nat} (p : V → Bool) (f : V → V) (h : EvI wi σ B xs) (hz : xs.length ≤ 100000) (hw : ∀ x, wipe ((wipe σ vs).set j (some x)) vs = wipe σ vs)
    (ht : ∀ x ∈ xs, ∀ B', Ex B B' → EvT t ((wipe σ vs).set j (some x)) B' (p x)) (he : ∀ x ∈ xs, ∀ B', Ex B B' → p x = true → Ev te ((wipe σ vs).set j (some x)) B' (f x)) : EvN (tLc wi (gName j) t te vs) σ B (.lst ((xs.filter p).map f)) := fun H1 e Q q =>
  h H1 e _ fun J H2 G e2 w hG => fun Dl hD => lc_it w (fun i H => H2 Dl = none ∧ Ex H2 H ∧ H Dl = some (.lst (((xs.take i).filter p).map f))) ⟨hD, Ex.new hD, upd_same⟩ (fun i H _ a => hG H a.2.1) (fun i x H H' hi a y => by
    obtain ⟨a1, a2, a3⟩ := a
    obtain ⟨y1, y2⟩ := y
    subst y1
    have hm : x ∈ xs := List.mem_of_getElem? y2
    have eB : Ex B H' := (e.trans e2).trans a2
    have et : (xs.take (i + 1)).filter p = (xs.take i).filter p ++ [x].filter p := by
      rw [List.take_add_one, y2, List.filter_append]
      rfl
    refine ⟨hw x, ht x hm H' eB H' (Ex.refl H') _ fun H3 e3 => ?_⟩
    cases hp : p x with
    | true =>
      refine he x hm H' eB hp H3 e3 _ fun H4 e4 => ⟨_, e4 Dl _ (e3 Dl _ a3), ?_, a1, Ex.mut ((a2.trans e3).trans e4) a1, ?_⟩
      · rw [List.length_map]
        have h1 := List.length_filter_le p (xs.take i)
        rw [List.length_take] at h1
        exact Nat.lt_of_le_of_lt (Nat.le_trans h1 (Nat.le_trans (Nat.min_le_right _ _) hz)) (by decide)
      · rw [upd_same, et, List.map_append, List.filter_cons, if_pos hp]
        rfl
    | false =>
      refine ⟨a1, a2.trans e3, ?_⟩
      rw [et, List.filter_cons, if_neg (by rw [hp]; decide)]
      show H3 Dl = some (.lst (((xs.take i).filter p ++ []).map f))
      rw [List.append_nil]
      exact e3 Dl _ a3) fun H a => q Dl H (fresh_back e2 a.1) (e2.trans a.2.1) (by
        have a3 := a.2.2
        rw [List.take_length] at a3
        exact a3)
theorem et_yes : EvT tYes σ B true := fun H1 _ _ q => q H1 (Ex.refl H1)
theorem filter_yes {α : Type} (xs : List α) : xs.filter (fun _ => true) = xs := List.filter_eq_self.mpr fun _ _ => rfl
/-- .. without a test -/
theorem en_lcA {wi : TI} {xs : List V} {j : Nat} {vs : List Nat} (f : V → V) (h : EvI wi σ B xs) (hz : xs.length ≤ 100000) (hw : ∀ x, wipe ((wipe σ vs).set j (some x)) vs = wipe σ vs)
    (he : ∀ x ∈ xs, ∀ B', Ex B B' → Ev te ((wipe σ vs).set j (some x)) B' (f x)) : EvN (tLc wi (gName j) tYes te vs) σ B (.lst (xs.map f)) := by
  have e := en_lc (t := tYes) (fun _ => true) f h hz hw (fun _ _ _ _ => et_yes) fun x hx B' a _ => he x hx B' a
  rw [filter_yes] at e
  exact e
/-- over ints -/
theorem en_lcI {wi : TI} {ns : List Int} {j : Nat} {vs : List Nat} (f : Int → V) (h : EvI wi σ B (ns.map V.int)) (hz : ns.length ≤ 100000) (hw : ∀ x, wipe ((wipe σ vs).set j (some x)) vs = wipe σ vs)
    (he : ∀ n ∈ ns, ∀ B', Ex B B' → Ev te ((wipe σ vs).set j (some (.int n))) B' (f n)) : EvN (tLc wi (gName j) tYes te vs) σ B (.lst (ns.map f)) := by
  have e := en_lcA (te := te) (σ := σ) (B := B) (j := j) (vs := vs) (fun x => match x with | .int n => f n | _ => .non) h (by rw [List.length_map]; exact hz) hw fun x hx B' a => by
    obtain ⟨n, hn, rfl⟩ := List.mem_map.mp hx
    exact he n hn B' a
  rw [List.map_map] at e
  exact e
/-- over the signs of a text -/
theorem en_lcS {wi : TI} {s : List Nat} {j : Nat} {vs : List Nat} (f : Nat → V) (h : EvI wi σ B (s.map fun c => .str (SX.S [c]))) (hz : s.length ≤ 100000) (hw : ∀ x, wipe ((wipe σ vs).set j (some x)) vs = wipe σ vs)
    (he : ∀ c ∈ s, ∀ B', Ex B B' → Ev te ((wipe σ vs).set j (some (.str (SX.S [c])))) B' (f c)) : EvN (tLc wi (gName j) tYes te vs) σ B (.lst (s.map f)) := by
  have e := en_lcA (te := te) (σ := σ) (B := B) (j := j) (vs := vs) (fun x => match x with | .str z => f (z.cps.getD 0 0) | _ => .non) h (by rw [List.length_map]; exact hz) hw fun x hx B' a => by
    obtain ⟨c, hc, rfl⟩ := List.mem_map.mp hx
    exact he c hc B' a
  rw [List.map_map] at e
  exact e
theorem en_split {a b : Str} (ha : Ev ta σ B (.str a)) (hb : Ev tb σ B (.str b)) (h0 : (b.length == 0) = false) (hz : a.length + 2 ≤ sizeLine) :
    EvN (tM1 (fun x xs H Q => ∃ a b, x = .str a ∧ xs = [.str b] ∧ (b.length == 0) = false ∧ a.length + 2 ≤ sizeLine ∧ rNewStrs (Txt.split a b) H Q) ta tb) σ B (.lst ((Txt.split a b).map V.str)) := fun H1 e Q q =>
  ha H1 e _ fun H2 e2 => ⟨⟨a, rfl⟩, hb H2 (e.trans e2) _ fun H3 e3 => ⟨a, b, rfl, rfl, h0, hz, fun p hp => q p _ (fresh_back (e2.trans e3) hp) ((e2.trans e3).trans (Ex.new hp)) upd_same⟩⟩
theorem ev_isi {ta : TA} {c : V} {tv uv : Value} {b : Bool} (h : EvA ta σ B [x, c]) (hc : ClsV c uv) (ht : ∀ H, Ex B H → TyX K H x tv) (hb : PySem.W.kitOne K tv uv = some b) : Ev (tCB (rIsi K) ta) σ B (.bl b) := fun H1 e Q q =>
  h H1 e _ fun H2 e2 => ⟨x, c, tv, uv, b, rfl, hc, ht H2 (e.trans e2), hb, q H2 e2⟩
end
/-- promises: a value; a new object -/
def PV (pre : List V → Hp → V → Prop) : Sp := fun vs H Q _ => ∃ z, pre vs H z ∧ ∀ H2, Ex H H2 → Q z H2
def PN (pre : List V → Hp → HO → Prop) : Sp := fun vs H Q _ => ∃ o, pre vs H o ∧ ∀ p H2, H p = none → Ex H H2 → H2 p = some o → Q (.ref p) H2
section
variable {σ : L2.St} {B : Hp} {ta : TA} {vs : List V} {E : XK} {z : V} {o : HO}
theorem ev_pv {pre : List V → Hp → V → Prop} (h : EvA ta σ B vs) (hp : ∀ H, Ex B H → pre (vs ++ []) H z) : Ev (tCall (PV pre) [] E ta) σ B z := fun H1 e Q q =>
  h H1 e _ fun H2 e2 => ⟨z, hp H2 (e.trans e2), fun H3 e3 => q H3 (e2.trans e3)⟩
theorem en_pn {pre : List V → Hp → HO → Prop} (h : EvA ta σ B vs) (hp : ∀ H, Ex B H → pre (vs ++ []) H o) : EvN (tCall (PN pre) [] E ta) σ B o := fun H1 e Q q =>
  h H1 e _ fun H2 e2 => ⟨o, hp H2 (e.trans e2), fun p H3 hp' e3 h3 => q p H3 (fresh_back e2 hp') (e2.trans e3) h3⟩
end
/-- .. a new object of which this is known -/
def EvNd (te : TE) (σ : L2.St) (B : Hp) (F : HO → Prop) : Prop := ∀ H1, Ex B H1 → ∀ Q : VK, (∀ p H2 o, H1 p = none → Ex H1 H2 → H2 p = some o → F o → Q (.ref p) H2) → te σ H1 Q
def PNd (pre : List V → Hp → (HO → Prop) → Prop) : Sp := fun vs H Q _ => ∃ F, pre vs H F ∧ ∀ p H2 o, H p = none → Ex H H2 → H2 p = some o → F o → Q (.ref p) H2
section
variable {σ : L2.St} {B : Hp} {te : TE} {tz : TS} {D : Ends} {ta : TA} {vs : List V} {E : XK} {F : HO → Prop}
theorem en_pnd {pre : List V → Hp → (HO → Prop) → Prop} (h : EvA ta σ B vs) (hp : ∀ H, Ex B H → pre (vs ++ []) H F) : EvNd (tCall (PNd pre) [] E ta) σ B F := fun H1 e Q q =>
  h H1 e _ fun H2 e2 => ⟨F, hp H2 (e.trans e2), fun p H3 o hp' e3 h3 hf => q p H3 o (fresh_back e2 hp') (e2.trans e3) h3 hf⟩
theorem r_asgNd {i : Nat} (h : EvNd te σ B F) (k : ∀ p o, B p = none → F o → R tz D (σ.set i (some (.ref p))) (upd B p o)) : R (tSeq (tAsg te (gName i)) tz) D σ B := fun H a =>
  h H a _ fun p H2 o hp e hh hf => k p o (fresh_back a hp) hf H2 (ex_up (a.trans e) hh)
theorem r_newd {i : Nat} (h : EvNd te σ B F) (k : ∀ p B' o, B p = none → Ex B B' → B' p = some o → F o → R tz D (σ.set i (some (.ref p))) B') : R (tSeq (tAsg te (gName i)) tz) D σ B := r_asgNd h fun p o hp hf => k p _ o hp (Ex.new hp) upd_same hf
end

/-! ### draws -/
/-- a new list of so many ints below the bound -/
def DrawO (m b : Int) (o : HO) : Prop := ∃ ns : List Int, o = .lst (ns.map V.int) ∧ (ns.length : Int) = m ∧ ∀ n ∈ ns, 0 ≤ n ∧ n < b
def spDraw : Sp := PNd fun vs _ F => ∃ c m b : Int, vs = [.int c, .int m, .int b] ∧ 0 ≤ m ∧ m ≤ 1000 ∧ 0 < b ∧ b < 1073741824 ∧ F = DrawO m b
end FK

set_option Elab.async false
set_option linter.all false
set_option maxRecDepth 100000
set_option maxHeartbeats 4000000
/-! the errors of a program of ours: made by an __init__ that reads the class's name (own text) -/
namespace FkE
open PySem PySem.W PySem.Calls PyProof.Rows Builtin Builtin.ObjectAttr Builtin.Getset_descriptor
section
variable {prog : Program} {w : World} {A : Around} {E : Value → Shared → Prop} {s : Shared} {K : Frag} {x C : Addr} {ox : Obj} {od : Option Obj} {expr : Bool}
theorem find_data {n : Str} {a g : Value} (hc : (clsIn K C).isSome = true) (ha : findIn K (.ref C) n = some (some a)) (hg : specialIn K a "__get__" = some (some g)) (ht : takesIn K a = some true) : findObj K C od n = some (.bind g a) := by
  obtain ⟨cd, hcd⟩ := Option.isSome_iff_exists.mp hc
  simp only [findObj, hcd, Option.bind_some, ha, hg, ht]
/-- e.__class__ of an error -/
theorem exc_clsBy {Q : Value → Shared → Prop} {gt : Option Value} {fill : Bool} {t : Tok} (X : K.In s.heap) (I : InstAt s.heap x ox C od) (ga : findIn K (.ref C) "__getattribute__" = some (some (.builtin "BaseException.__getattribute__"))) (gg : findIn K (.ref C) "__getattr__" = some gt)
    (sb : subIn K (.ref C) (.type "BaseException") = some true) (hf : findObj K C od "__class__" = some (.bind (.builtin "getset_descriptor.__get__") (.builtin "object.__class__"))) (hm : mroIn K C (.type "object") = some true) (h : Q (.ref C) s) :
    wpAny (model prog w) A (getAttrBy (.ref x) (.str "__class__" t) fill expr) Q E s := by
  obtain ⟨hp, g, d, tt, os⟩ := s
  have l0 := I.type (M := model prog w)
  have l1 := looks_findIn (M := model prog w) X ga
  have l2 := looks_findIn (M := model prog w) X gg
  have l3 := looks_find (M := model prog w) X I hf
  have no2 : (Value.builtin "BaseException.__getattribute__" == Value.builtin "object.__getattribute__") = false := by decide +kernel
  have no1 : (onTheHeap (Value.ref C) && Value.builtin "BaseException.__getattribute__" == Value.builtin "object.__getattribute__") = false := by rw [no2]; rfl
  have no0 : (expr && onTheHeap (Value.builtin "BaseException.__getattribute__")) = false := by cases expr <;> rfl
  simp only [getAttrBy]
  refine wpAny_holding (wpAny_bind (l0.at (wpAny_bind (l1.at ?_))))
  show wpAny _ _ (if (onTheHeap (Value.ref C) && Value.builtin "BaseException.__getattribute__" == Value.builtin "object.__getattribute__") = true then _ else _) _ _ _
  rw [no1, if_neg Bool.false_ne_true]
  simp only [getAttrByItsOwn, hookBefore]
  refine wpAny_bind ?_
  rw [if_pos (show onTheHeap (Value.ref C) = true from rfl)]
  refine l2.at (wpAny_bind (wpAny_attempt (wpAny_holding ?_)))
  unfold callGetattribute
  rw [no0, if_neg Bool.false_ne_true]
  unfold boundAndCalled
  rw [PySem.F.excAttr_ValueError.ga.bind (.ref x)]
  refine wpAny_bind (wpAny_pure ?_)
  show wpAny _ _ (call (.builtin "BaseException.__getattribute__") [.ref x, .str "__class__" t]) _ _ _
  refine wpAny_call (codeAny_call_builtin PySem.F.excAttr_ValueError.ga.plain PySem.F.entry_bexc_ga (@check_slot (model prog w) _ _ ⟨hp, g, d, tt, os⟩ "BaseException.__getattribute__" "BaseException" "__getattribute__" (.ref x) [.str "__class__" t] [] _ (by decide +kernel) (by decide +kernel) (l0.andThen (looks_subIn X sb)) (PySem.F.args_bexc_ga (.ref x) (.str "__class__" t)) ?_))
  unfold Builtin.«object.__getattribute__»
  refine wpAny_bind (wpAny_of_eq (a := ((Value.ref x : Value), [Value.str "__class__" t])) (by first | rfl | (simp only [slotArgs]; rfl)) ?_)
  refine wpAny_bind (wpAny_pure (wpAny_bind (l0.at (wpAny_bind (l3.at ?_)))))
  show wpAny _ _ (holding [Value.builtin "object.__class__"] (call (.builtin "getset_descriptor.__get__") [.builtin "object.__class__", .ref x, .ref C]) >>= ret) _ _ _
  refine wpAny_bind (wpAny_holding (wpAny_call (class_get (s := ⟨hp, g, d, tt, os⟩) X I hm (wpAny_pure ?_))))
  show wpAny _ _ (handedOut (.ref C)) _ _ _
  rw [handedOut_of (v := .ref C) rfl]
  exact wpAny_pure h
theorem exc_cls {Q : Value → Shared → Prop} {gt : Option Value} (X : K.In s.heap) (I : InstAt s.heap x ox C od) (ga : findIn K (.ref C) "__getattribute__" = some (some (.builtin "BaseException.__getattribute__"))) (gg : findIn K (.ref C) "__getattr__" = some gt)
    (sb : subIn K (.ref C) (.type "BaseException") = some true) (hf : findObj K C od "__class__" = some (.bind (.builtin "getset_descriptor.__get__") (.builtin "object.__class__"))) (hm : mroIn K C (.type "object") = some true) (h : Q (.ref C) { s with toks := s.toks + 1 }) :
    wpAny (model prog w) A (getAttr (.ref x) "__class__" expr) Q E s := wpAny_bind (wpAny_mkText (exc_clsBy (s := { s with toks := s.toks + 1 }) X I ga gg sb hf hm h))
theorem exc_cls? {Q : Option Value → Shared → Prop} {gt : Option Value} (X : K.In s.heap) (I : InstAt s.heap x ox C od) (ga : findIn K (.ref C) "__getattribute__" = some (some (.builtin "BaseException.__getattribute__"))) (gg : findIn K (.ref C) "__getattr__" = some gt)
    (sb : subIn K (.ref C) (.type "BaseException") = some true) (hf : findObj K C od "__class__" = some (.bind (.builtin "getset_descriptor.__get__") (.builtin "object.__class__"))) (hm : mroIn K C (.type "object") = some true) (h : Q (some (.ref C)) { s with toks := s.toks + 1 }) :
    wpAny (model prog w) A (getAttr? (.ref x) "__class__") Q E s := wpAny_bind (wpAny_mkText (wpAny_bind (wpAny_attempt (exc_clsBy (s := { s with toks := s.toks + 1 }) X I ga gg sb hf hm (wpAny_pure h)))))
/-- what isinstance asks of an error that has its dict -/
theorem kit_err (ga : findIn K (.ref C) "__getattribute__" = some (some (.builtin "BaseException.__getattribute__"))) (gg : findIn K (.ref C) "__getattr__" = some none) (sb : subIn K (.ref C) (.type "BaseException") = some true) (hd : hasDictIn K C = true)
    (ha : findIn K (.ref C) "__class__" = some (some (.builtin "object.__class__"))) (hn : specialIn K (.builtin "object.__class__") "__get__" = some (some (.builtin "getset_descriptor.__get__"))) (ht : takesIn K (.builtin "object.__class__") = some true) (hm : mroIn K C (.type "object") = some true) :
    KitX K (.ref x) (.ref C) (fun h => ∃ od, InstAt h x ox C od) where
  ty := fun _ _ _ ⟨_, I⟩ => I.type
  it := fun _ _ X _ => by
    obtain ⟨cd, hc, _⟩ := any_some hd
    unfold clsIn at hc
    split at hc
    · rename_i c' d' cd' sl' ho
      intro A' Q' E' s' k q
      unfold isType loadHead
      exact wpAny_bind (wpAny_loadPart (k _ _ (X _ _ ho)) (wpAny_pure q))
    · cases hc
  ne := fun h tp dd its n sl X htp => by
    obtain ⟨cd, hc, _⟩ := any_some hd
    cases q : (Value.ref C == Value.ref tp) with
    | false => rfl
    | true =>
      have e : C = tp := Value.ref.inj (beq_iff_eq.mp q)
      subst e
      unfold clsIn at hc
      split at hc
      · rename_i ho
        cases (X _ _ ho).symm.trans htp
      · cases hc
  ca := fun X ⟨_, I⟩ k => exc_cls? X I ga gg sb (find_data (by obtain ⟨cd, hc, _⟩ := any_some hd; rw [hc]; rfl) ha hn ht) hm k
/-- C.__name__ -/
structure NmC (K : Frag) (C : Addr) (nm : Str) : Prop where
  rd : readsIn K C (.type "type") = true
  fd : findCls K (.ref C) (.type "type") "__name__" = some (.get (.builtin "getset_descriptor.__get__") (.builtin "type.__name__") (.ref C) (.type "type"))
  ob : ∃ (o : Obj) (t : Tok), K.lookup C = some o ∧ o.cls = .type "type" ∧ (o.slots[2]?).join = some (.str nm t)
theorem name_run {R : Result → Shared → Prop} {tp v : Value} {o : Obj} (ho : s.heap.get? C = some o) (hc : o.cls = .type "type") (hs : (o.slots[2]?).join = some v) (h : R (.ok (.ret v)) s) :
    codeAny (model prog w) A (.call (.builtin "getset_descriptor.__get__") ⟨[.builtin "type.__name__", .ref C, tp], []⟩) R s := by
  obtain ⟨hh, g, dr, t, os⟩ := s
  have l0 : Looks (model prog w) hh (typeOf (.ref C)) (.type "type") := fun A Q E s k q => by
    refine wpAny_bind (wpAny_loadPart (k _ _ ho) (wpAny_pure ?_))
    rw [hc]
    exact q
  have l1 : Looks (model prog w) hh (isSubtype (.type "type") (.type "type")) true := Looks.of_pure (by rw [isSubtype_type]; kernel_rfl)
  refine codeAny_call_builtin KF.slot_gs.plain KF.entry_gs (KF.slot_gs.check _ _ _ _ _ _ _ _ ktyn_type (KF.args_gs _ _ _) ?_)
  unfold Builtin.«getset_descriptor.__get__» descrGet
  rw [dga_obj]
  refine wpAny_bind (wpAny_pure ?_)
  unfold descrGetter descrCheckInstance descrNameAndClass isInstance
  simp only [ktyn_owner]
  repeat lk
  refine ⟨Code.quiet_builtin _ (by decide +kernel), codeAny_builtin ktyn_entry ?_⟩
  unfold Builtin.«type.__name__»
  show wpAny _ _ (keptObject (.ref C) 2 "__name__" _) _ _ _
  unfold keptObject slotAt
  refine wpAny_bind (wpAny_bind (wpAny_loadPart ho (wpAny_pure ?_)))
  rw [hs]
  first
    | exact wpAny_pure h
    | exact wpAny_bind (wpAny_pure (wpAny_pure h))
    | exact wpAny_pure (wpAny_pure h)
theorem name_get {Q : Value → Shared → Prop} {nm : Str} (X : K.In s.heap) (N : NmC K C nm) (h : ∀ t, Q (.str nm t) { s with toks := s.toks + 1 }) : wpAny (model prog w) A (getAttr (.ref C) "__name__" expr) Q E s := by
  obtain ⟨o, t, hl, hc, hs⟩ := N.ob
  exact cls_bind X N.rd N.fd (wpAny_call (name_run (X C o hl) hc hs (handed_on rfl (h t))))
end
end FkE
namespace FK
open PySem PySem.Spec PyProof.Rows L2 Evl FkE
/-- e.__class__, e an error that is being made and has its dict -/
def tClsE (K : PySem.W.Frag) (te : TE) : TE := fun σ H Q => te σ H fun x H1 => ∃ (a C dx : Addr) (fs : List (Str × V)), x = .ref a ∧ H1 a = some (exo a C (some dx)) ∧ H1 dx = some (exd dx fs) ∧ ExcC K C ∧ Q (.ref C) H1
theorem pe_clsE {X : Cx} {e : Expr} {te : TE} {pos : Pos} (he : PE X e te) (hb : attributeBase e "__class__" X.env (eval e X.env) = eval e X.env := by rfl) : PE X (.Attribute e "__class__" pos) (tClsE X.K te) := by
  refine ⟨fun pins s σ H Q I h => attr_of hb (thn (he.run pins s σ H _ I h) fun u s1 ⟨x, H1, I1, rx, a, C, dx, fs, ex, ea, ed, T, q⟩ => ?_)⟩
  subst ex
  obtain rfl : u = Value.ref a := rx
  obtain ⟨t1, ho⟩ := exo_at I1.hok ea
  obtain ⟨mA, ⟨od, es, ep, hd, _⟩, _⟩ := exd_at I1.hok ed
  have J : PySem.W.InstAt s1.heap a ({ cls := .ref C, dict := some dx, data := .fields #[.ref t1, .none, .none, .none, .bool false, .none] } : Obj) C (some od) := ⟨ho, rfl, by unfold PySem.W.notCls; rfl, hd⟩
  exact exc_cls I1.kIn J T.hg T.hk T.hs (find_data (by obtain ⟨cd, hc, _⟩ := PySem.W.any_some T.hd; rw [hc]; rfl) T.ha T.hn T.ht) T.hm ⟨.ref C, H1, I1.tok _, rfl, q⟩
/-- e.__name__, e a class of one's own -/
def tNmC (K : PySem.W.Frag) (te : TE) : TE := fun σ H Q => te σ H fun x H1 => ∃ (C : Addr) (nm : Str), x = .ref C ∧ NmC K C nm ∧ Q (.str nm) H1
theorem pe_nmC {X : Cx} {e : Expr} {te : TE} {pos : Pos} (he : PE X e te) (hb : attributeBase e "__name__" X.env (eval e X.env) = eval e X.env := by rfl) : PE X (.Attribute e "__name__" pos) (tNmC X.K te) := by
  refine ⟨fun pins s σ H Q I h => attr_of hb (thn (he.run pins s σ H _ I h) fun u s1 ⟨x, H1, I1, rx, C, nm, ex, N, q⟩ => ?_)⟩
  subst ex
  obtain rfl : u = Value.ref C := rx
  exact name_get I1.kIn N fun t => ⟨.str nm, H1, I1.tok _, ⟨t, rfl⟩, q⟩
/-! ### making and raising -/
/-- what an error made so knows -/
def errF (nm : Str) (v : V) : List (Str × V) := [("name", .str nm), ("place", v)]
/-- what is asked of an error class -/
structure ErrK (K : PySem.W.Frag) (C : Addr) (nm : Str) : Prop where
  ox : OexC K C
  ex : ExcC K C
  nm : NmC K C nm
  np : PySem.W.findIn K (.ref C) "place" = some none
  nn : PySem.W.findIn K (.ref C) "name" = some none
theorem ErrK.xf {K : PySem.W.Frag} {C : Addr} {nm : Str} (Z : ErrK K C nm) : XfC K C := ⟨Z.ex.hg, Z.ex.hk, Z.ex.hs, Z.ex.hd⟩
/-- the __init__'s promise -/
def spInit (K : PySem.W.Frag) : Sp := fun vs H Q _ => ∃ (a C : Addr) (nm : Str) (v : V), vs = [.ref a, v] ∧ ErrK K C nm ∧ H a = some (exo a C none) ∧
  ∀ d, H d = none → d ≠ a → Q .non (upd (upd (upd H d (exd d [("place", v)])) a (exo a C (some d))) d (exd d (errF nm v)))
/-- an error class under its name, with what its making leans on -/
structure ErrC (P : Program) (w : World) (K : PySem.W.Frag) (mg : Str → Option Value) (base : Heap) (x : Str) (C : Addr) : Prop where
  gC : mg x = some (.ref C)
  k : ErrK K C x
  ini : ∃ (fI : Addr) (fd : FuncData), PySem.W.findIn K (.ref C) "__init__" = some (some (.ref fI)) ∧ PySem.W.typeIn K (.ref fI) = some (.type "function") ∧
    FnOk P w K mg base CX0 1 fI fd ["self", "place"] (spInit K) ∧ Binds K fd ["self", "place"] []
/-- raise x(e) -/
def tRz (K : PySem.W.Frag) (C : Addr) (te : TE) (W : WX) : TS := fun _ σ H => tMkO C (spInit K) [] (tCons te tNil) σ H fun cls d H' => W cls d σ H'
theorem ps_raiseC {X : Cx} {W : WX} {x : Str} {C : Addr} {e : Expr} {te : TE} {j : Nat} {p pos pos' : Pos} (Z : ErrC X.prog X.w X.K X.mg X.base x C) (hc : X.calm = true) (tk : Takes X W) (hr : Room j X.A) (hj : 2 ≤ j) (hg : Gl X x) (ha : PA X [e] (tCons te tNil))
    (hdb : (x == ("__debug__" : Str)) = false := by decide) (hst : starEach [e] X.env = (false, eval e X.env) :: starEach [] X.env := by rfl) (hpl : (backTo pos (starEach [] X.env)).any (·.1) = false := by rfl) :
    PS X (.Raise (some (.Call (.Name x p) [e] [] pos)) none pos') (tRz X.K C te W) := by
  obtain ⟨fI, fd, iC, tI, F, b⟩ := Z.ini
  exact ps_raise (pos := pos') hc tk (pmk_oex (es := []) (dvs := []) (ds := []) Z.k.ox iC tI F (hr.mono hj) b .nil pass0 hg Z.gC ha hdb hst hpl)
theorem del_upd {H : Hp} {a : Addr} {o : HO} (h : H a = none) : del (upd H a o) a = H := by
  funext b
  by_cases c : b = a
  · subst c
    rw [del_same, h]
  · rw [del_ne c, upd_ne c]
section
variable {K : PySem.W.Frag} {σ : L2.St} {B : Hp} {te : TE} {tz : TS} {D : Ends} {v : V} {W : WX} {C : Addr} {x : Str}
theorem r_raise (Z : ErrK K C x) (h : Ev te σ B v) (k : ∀ d H, B d = none → Ex B H → H d = some (.xd (errF x v)) → W (.ref C) (some d) σ H) : R (tSeq (tRz K C te W) tz) D σ B := fun H e =>
  h H e _ fun H1 e1 => ⟨(by decide : 1 ≤ 1000), fun a na => ⟨a, C, x, v, rfl, Z, upd_same, fun d nd hda => ⟨rfl, d, errF x v, by rw [upd_ne (Ne.symm hda), upd_same], upd_same, by rw [upd_ne hda] at nd; exact nd, by
    rw [upd_ne hda] at nd
    have hb : upd (del (upd (upd (upd (upd H1 a (exo a C none)) d (exd d [("place", v)])) a (exo a C (some d))) d (exd d (errF x v))) a) d (.xd (errF x v)) = upd H1 d (.xd (errF x v)) := by
      funext b
      by_cases c : b = d
      · subst c
        rw [upd_same, upd_same]
      · rw [upd_ne c, upd_ne c]
        by_cases c2 : b = a
        · subst c2
          rw [del_same, na]
        · rw [del_ne c2, upd_ne c, upd_ne c2, upd_ne c, upd_ne c2]
    rw [hb]
    exact k d _ (fresh_back (e.trans e1) nd) ((e.trans e1).trans (Ex.new nd)) upd_same⟩⟩⟩
end
/-! ### defs that may raise -/
/-- what comes of a call: a value, a new object, an error -/
inductive Out where
  | val (z : V) | new (o : HO) | err (x : Str) (v : V)
def spO (mg : Str → Option Value) (pre : List V → Hp → Out → Prop) : Sp := fun vs H Q E => ∃ r, pre vs H r ∧ match r with
  | .val z => ∀ H2, Ex H H2 → Q z H2
  | .new o => ∀ p H2, H p = none → Ex H H2 → H2 p = some o → Q (.ref p) H2
  | .err x v => ∀ C d H2, mg x = some (.ref C) → H d = none → Ex H H2 → H2 d = some (.xd (errF x v)) → E (.ref C) (some d) H2
structure CalX (P : Program) (w : World) (K : PySem.W.Frag) (mg : Str → Option Value) (base : Heap) (k : Nat) (x : Str) (sp : Sp) : Prop where
  ex : ∃ (f : Addr) (fd : FuncData) (ps : List Str), FnOk P w K mg base (L2.CX P w) k f fd ps sp ∧ mg x = some (.ref f) ∧ PySem.W.keepIn K (.ref f) = true ∧ Binds K fd ps []
section
variable {P : Program} {w : World} {K : PySem.W.Frag} {mg : Str → Option Value} {base : Heap}
theorem calX {x : Str} {st : Stmt} {N ps : List Str} {k : Nat} {sp : Sp} (D : Def K mg x st ps) (S : FnScope N ps (defScope st)) (len : ∀ vs H Q E, sp vs H Q E → vs.length = ps.length)
    (hbody : ∀ (f : Addr) (cdv : Value) (A : Around) (outer : List Env) (s : Shared) (H : Hp) (vs : List V) (Q : VK) (E : XK), Room k (A.deeper (envOfC x (defScope st) s.heap.objs.size f cdv)) → sp vs H Q E →
      ∃ t, PSs (cxOf (L2.CX P w) P w K mg base N x (defScope st) f cdv A outer s H E) (defBody st) t ∧ t { nx := fun _ H' => Q .non H', rt := Q } (start N vs) H) : CalX P w K mg base (k + 1) x sp := by
  obtain ⟨f, fd, F, m, b⟩ := D.ex
  exact ⟨f, fd, ps, F.okX S len (hbody f), m, F.kp, b⟩
end
section
variable {X : Cx} {k j : Nat} {x : Str} {sp : Sp} {p pos : Pos} {e : Expr} {es : List Expr} {t : TA} {W : WX}
theorem pe_cX (c : CalX X.prog X.w X.K X.mg X.base k x sp) (tk : Takes X W) (hr : Room j X.A) (hk : k ≤ j) (hg : Gl X x) (ha : PA X (e :: es) t)
    (hdb : (x == ("__debug__" : Str)) = false := by decide) (he : starEach (e :: es) X.env = (false, eval e X.env) :: starEach es X.env := by rfl) (hpl : (backTo pos (starEach es X.env)).any (·.1) = false := by rfl) :
    PE X (.Call (.Name x p) (e :: es) [] pos) (tCallS sp (WE W) t) := by
  obtain ⟨f, fd, ps, F, hm, kp, b⟩ := c.ex
  exact pe_callS F (hr.mono hk) hg hm kp b (fun σ => passAt tk σ) ha hdb he hpl
end
section
variable {mg : Str → Option Value} {σ : L2.St} {B : Hp} {ta : TA} {te : TE} {tz : TS} {D : Ends} {vs : List V} {W : WX} {z v : V} {o : HO} {x : Str} {pre : List V → Hp → Out → Prop}
theorem ev_cx (h : EvA ta σ B vs) (hp : ∀ H, Ex B H → pre vs H (.val z)) : Ev (tCallS (spO mg pre) (WE W) ta) σ B z := fun H1 e Q q => h H1 e _ fun H2 e2 => ⟨.val z, hp H2 (e.trans e2), fun H3 e3 => q H3 (e2.trans e3)⟩
theorem en_cx (h : EvA ta σ B vs) (hp : ∀ H, Ex B H → pre vs H (.new o)) : EvN (tCallS (spO mg pre) (WE W) ta) σ B o := fun H1 e Q q => h H1 e _ fun H2 e2 => ⟨.new o, hp H2 (e.trans e2), fun p H3 np e3 h3 => q p H3 (fresh_back e2 np) (e2.trans e3) h3⟩
/-- it raises -/
def EvE (mg : Str → Option Value) (W : WX) (te : TE) (σ : L2.St) (B : Hp) (x : Str) (v : V) : Prop := ∀ H1, Ex B H1 → ∀ Q : VK, (∀ C d H2, mg x = some (.ref C) → B d = none → Ex B H2 → H2 d = some (.xd (errF x v)) → W (.ref C) (some d) σ H2) → te σ H1 Q
theorem ee_cx (h : EvA ta σ B vs) (hp : ∀ H, Ex B H → pre vs H (.err x v)) : EvE mg W (tCallS (spO mg pre) (WE W) ta) σ B x v := fun H1 e Q q => h H1 e _ fun H2 e2 => ⟨.err x v, hp H2 (e.trans e2), fun C d H3 m nd e3 h3 => q C d H3 m (fresh_back (e.trans e2) nd) ((e.trans e2).trans e3) h3⟩
theorem r_retE (h : EvE mg W te σ B x v) (k : ∀ C d H, mg x = some (.ref C) → B d = none → Ex B H → H d = some (.xd (errF x v)) → W (.ref C) (some d) σ H) : R (tSeq (tRet te) tz) D σ B := fun H e => h H e _ k
theorem r_asgE {i : Nat} (h : EvE mg W te σ B x v) (k : ∀ C d H, mg x = some (.ref C) → B d = none → Ex B H → H d = some (.xd (errF x v)) → W (.ref C) (some d) σ H) : R (tSeq (tAsg te (gName i)) tz) D σ B := fun H e => h H e _ k
end
/-- isinstance(e, c), e the error that the suite holds, with its dict -/
def rIsD (K : PySem.W.Frag) (C a d : Addr) : List V → Hp → VK → Prop := fun xs H Q => ∃ (c : V) (cv : Value) (b : Bool) (fs : List (Str × V)), xs = [.ref a, c] ∧ ClsV c cv ∧ PySem.W.kitOne K (.ref C) cv = some b ∧ H d = some (.xd fs) ∧ Q (.bl b) H
theorem call_isD {X : Cx} {a C d : Addr} {oe : Obj} {pn : List (Addr × Obj)} (T : ExcC X.K C) (hz : Zc (.ref C) (some d) oe) (hf : ∃ vs, oe.data = .fields vs) : CallR (X.suite a ((a, oe) :: pn)) (.builtin "isinstance") (rIsD X.K C a d) := by
  intro pins s σ H xs us Q I r h
  obtain ⟨c, cv, b, fs, rfl, hcv, e, hd, q⟩ := h
  cases r with
  | cons rx rr =>
    cases rr with
    | cons rt rr =>
      cases rr
      cases rx
      have ec := hcv.eq rt
      subst ec
      obtain ⟨hget, _⟩ := I.pin (a, oe) (List.mem_append.mpr (.inl List.mem_cons_self))
      obtain ⟨vs, hv⟩ := hf
      have hxd : ObjOk X.prog X.w H s.heap d (.xd fs) := I.hok d _ hd
      obtain ⟨mA, ⟨od, es, ep, ho, _⟩, _⟩ := hxd
      have J : PySem.W.InstAt s.heap a oe C (some od) := ⟨hget, hz.1, by unfold PySem.W.notCls; rw [hv] <;> rfl, by rw [hz.2]; exact ho⟩
      exact PySem.W.kia_one (kit_err T.hg T.hk T.hs T.hd T.ha T.hn T.ht T.hm) I.kIn ⟨_, J⟩ e (fun z => nomatch z) fun tk => ⟨.bl b, H, I.kept (t' := tk) fun _ _ z => z, rfl, q⟩
end FK

set_option Elab.async false
set_option linter.all false
set_option maxRecDepth 100000
/-! suites, data compared whole, further words (own text) -/
namespace FK
open PySem PySem.Spec PyProof.Rows L2 Evl FkE
theorem ErrC.g {P : Program} {w : World} {K : PySem.W.Frag} {mg : Str → Option Value} {base : Heap} {x : Str} {C : Addr} (Z : ErrC P w K mg base x C) : ∃ u, mg x = some u ∧ RelV (.ref C) u := ⟨_, Z.gC, rfl⟩
/-! ### data -/
section
variable {K : PySem.W.Frag} {H H' : Hp}
mutual
theorem dp_ex (e : Ex H H') : ∀ (d : PyData) (v : V), Dp K H v d → Dp K H' v d
  | .none, _, h => by
    cases h
    exact .non
  | .bool b, _, h => by
    cases h
    exact .bl b
  | .int i, _, h => by
    cases h
    exact .int i
  | .str x, _, h => by
    cases h
    exact .str x
  | .list ds, _, h => by
    cases h with
    | lst a b => exact .lst (ex_l e a) (dpa_ex e ds _ b)
  | .tuple ds, _, h => by
    cases h with
    | tup a b => exact .tup (ex_t e a) (dpa_ex e ds _ b)
  | .dict ds, _, h => nomatch h
theorem dpa_ex (e : Ex H H') : ∀ (ds : List PyData) (vs : List V), DpAll K H vs ds → DpAll K H' vs ds
  | [], _, h => by
    cases h
    exact .nil
  | d :: ds, _, h => by
    cases h with
    | cons a b => exact .cons (dp_ex e d _ a) (dpa_ex e ds _ b)
end
theorem dpa_ints : ∀ ns : List Int, DpAll K H (ns.map V.int) (ns.map PyData.int)
  | [] => .nil
  | n :: r => .cons (.int n) (dpa_ints r)
theorem eqvA_ints : ∀ xs ys : List Int, PyData.eqvAll (xs.map PyData.int) (ys.map PyData.int) = decide (xs = ys)
  | [], [] => by simp [PyData.eqvAll]
  | [], y :: ys => by simp [PyData.eqvAll]
  | x :: xs, [] => by simp [PyData.eqvAll]
  | x :: xs, y :: ys => by
    have ih := eqvA_ints xs ys
    show (PyData.eqv (.int x) (.int y) && PyData.eqvAll (xs.map PyData.int) (ys.map PyData.int)) = _
    rw [ih]
    have e : PyData.eqv (.int x) (.int y) = decide (x = y) := by
      simp only [PyData.eqv]
      rfl
    rw [e]
    by_cases h1 : x = y <;> by_cases h2 : xs = ys <;> simp [h1, h2]
theorem eqv_ints (xs ys : List Int) : PyData.eqv (.list (xs.map PyData.int)) (.list (ys.map PyData.int)) = decide (xs = ys) := by
  rw [PyData.eqv, eqvA_ints]
end
section
variable {K : PySem.W.Frag} {σ : L2.St} {B : Hp} {ta tb te : TE} {v : V} {d e : PyData}
/-- a value that this data is -/
def EvD (K : PySem.W.Frag) (te : TE) (σ : L2.St) (B : Hp) (d : PyData) : Prop := EvP te σ B fun v H => Dp K H v d
theorem ed_ev (h : Ev te σ B v) (hd : Dp K B v d) : EvD K te σ B d := fun H1 a Q q => h H1 a _ fun H2 e2 => q v H2 e2 (dp_ex (a.trans e2) d v hd)
theorem ed_tup {vs : List V} {ds : List PyData} (h : EvN te σ B (.tup vs)) (hd : DpAll K B vs ds) : EvD K te σ B (.tuple ds) := fun H1 a Q q => h H1 a _ fun p H2 _ e2 h2 => q _ H2 e2 (.tup (st_of h2) (dpa_ex (a.trans e2) ds vs hd))
theorem ed_lst {vs : List V} {ds : List PyData} (h : EvN te σ B (.lst vs)) (hd : DpAll K B vs ds) : EvD K te σ B (.list ds) := fun H1 a Q q => h H1 a _ fun p H2 _ e2 h2 => q _ H2 e2 (.lst (sq_of h2) (dpa_ex (a.trans e2) ds vs hd))
theorem ev_eqD (ha : EvD K ta σ B d) (hb : EvD K tb σ B e) (sd : SeqAt.shaped d = true) (se : SeqAt.shaped e = true) : Ev (tOp (rEqD K) ta tb) σ B (.bl (PyData.eqv d e)) := fun H1 a Q q =>
  ha H1 a _ fun v H2 e2 hv => hb H2 (a.trans e2) _ fun u H3 e3 hu => ⟨d, e, dp_ex e3 d v hv, hu, sd, se, q H3 (e2.trans e3)⟩
theorem ev_neD (ha : EvD K ta σ B d) (hb : EvD K tb σ B e) (sd : SeqAt.shaped d = true) (se : SeqAt.shaped e = true) : Ev (tOp (rNeD K) ta tb) σ B (.bl (!PyData.eqv d e)) := fun H1 a Q q =>
  ha H1 a _ fun v H2 e2 hv => hb H2 (a.trans e2) _ fun u H3 e3 hu => ⟨d, e, dp_ex e3 d v hv, hu, sd, se, q H3 (e2.trans e3)⟩
end
/-- try: .. except c as slot i: .. -/
def tTryA (K : PySem.W.Frag) (c : Value) (i : Nat) (tb : WX → TS) (ts : Addr → Value → Option Addr → TS) (Wout : WX) : TS := fun D σ H => tb (wAs K c i ts Wout D) D σ H
theorem ps_tryA {X : Cx} {st : Stmt} {c : Value} {i : Nat} {tb : WX → TS} {ts : Addr → Value → Option Addr → TS} {Wout : WX} (h : PS X st (fun D σ H => tb (wAs X.K c i ts Wout D) D σ H)) : PS X st (tTryA X.K c i tb ts Wout) := h
/-! ### statements -/
theorem ip_mul {X : Cx} : PIp X .Mult (rI CMul fun i j => .int (i * j)) := fun pins s σ H x y u v Q I rx ry h => iop_mul pins s σ H x y u v Q I rx ry h
section
variable {K : PySem.W.Frag} {σ : L2.St} {B : Hp} {ta tb te tl : TE} {tz : TS} {D : Ends} {v : V}
theorem r_augC {C : Int → Int → Prop} {i : Nat} {f : Int → Int → Int} {a b : Int} (hx : σ[i]? = some (some (.int a))) (h : Ev te σ B (.int b)) (hc : C a b) (k : R tz D (σ.set i (some (.int (f a b)))) B) : R (tSeq (tAug i te (rI C fun i j => .int (f i j))) tz) D σ B := fun H e =>
  ⟨_, hx, h H e _ fun H1 e1 => ⟨a, b, rfl, rfl, hc, k H1 (e.trans e1)⟩⟩
theorem r_try {tb : WX → TS} {c : Value} {i : Nat} {ts : Addr → Value → Option Addr → TS} {Wout : WX} (h : R (tb (wAs K c i ts Wout { D with nx := tz D })) { D with nx := tz D } σ B) : R (tSeq (tTryA K c i tb ts Wout) tz) D σ B := h
theorem r_setL {l : Addr} {xs : List V} {j : Nat} (hl : B l = some (.lst xs)) (h : Ev te σ B v) (ho : Ev ta σ B (.ref l)) (hi : Ev tb σ B (.int (j : Int))) (hj : j < xs.length) (k : R tz D σ (upd B l (.lst (xs.set j v)))) :
    R (tSeq (tAsg te (gSub ta tb rSetL)) tz) D σ B := fun H a => q_setL (a l _ hl) (h.mono a) (ho.mono a) (hi.mono a) hj fun H1 e => k _ (ex_mut (a.trans e))
end
/-! ### suites -/
/-- a suite that is read for the errors of our making alone -/
def tOn (K : PySem.W.Frag) (f : Addr → Addr → TS) (cls : Value) (d : Option Addr) : TS := fun D σ H => ∃ C dd nm, cls = .ref C ∧ d = some dd ∧ ErrK K C nm ∧ f C dd D σ H
theorem pss_on {X' : Cx} {K : PySem.W.Frag} {f : Addr → Addr → TS} {cls : Value} {d : Option Addr} {oe : Obj} {body : List Stmt} (hz : Zc cls d oe) (h : ∀ C dd nm, ErrK K C nm → Zc (.ref C) (some dd) oe → PSs X' body (f C dd)) : PSs X' body (tOn K f cls d) :=
  ⟨fun pins s σ H D I ⟨C, dd, nm, e1, e2, Z, hf⟩ => by
    subst e1 e2
    exact (h C dd nm Z hz).run pins s σ H D I hf⟩
section
variable {K : PySem.W.Frag} {σ : L2.St} {B : Hp} {ta : TA} {te : TE} {v c : V} {W : WX} {C a d : Addr} {cv : Value} {b : Bool} {fs : List (Str × V)} {x : Str}
/-- what the clause does with the error -/
theorem was_on {i : Nat} {f : Addr → Addr → Addr → TS} {Wout : WX} {D : Ends} {H : Hp} {cF : Value} (Z : ErrK K C x) (hx : PySem.W.exmOne K (.ref C) cF = some true)
    (h : ∀ a, H a = none → f a C d { nx := fun σ' H' => D.nx (σ'.set i none) H', rt := D.rt, bk := fun σ' H' => D.bk (σ'.set i none) H', ct := fun σ' H' => D.ct (σ'.set i none) H' } (σ.set i (some (.ref a))) H) :
    wAs K cF i (fun a => tOn K (f a)) Wout D (.ref C) (some d) σ H := ⟨true, hx, fun _ a ha => ⟨C, d, x, rfl, rfl, Z, h a ha⟩, fun q => nomatch q⟩
theorem ev_isD (h : EvA ta σ B [.ref a, c]) (hc : ClsV c cv) (hk : PySem.W.kitOne K (.ref C) cv = some b) (hd : B d = some (.xd fs)) : Ev (tCB (rIsD K C a d) ta) σ B (.bl b) := fun H1 e Q q =>
  h H1 e _ fun H2 e2 => ⟨c, cv, b, fs, rfl, hc, hk, (e.trans e2) d _ hd, q H2 e2⟩
theorem ev_xf {f : Str} (h : Ev te σ B (.ref a)) (hd : B d = some (.xd fs)) (hl : fs.lookup f = some v) : Ev (tXf a (.ref C) (some d) C f te) σ B v := fun H1 e Q q =>
  h H1 e _ fun H2 e2 => ⟨rfl, rfl, d, fs, v, rfl, (e.trans e2) d _ hd, hl, q H2 e2⟩
theorem lk_name {v : V} : (errF x v).lookup ("name" : Str) = some (V.str x) := by simp [errF, List.lookup]
theorem lk_place {v : V} : (errF x v).lookup ("place" : Str) = some v := by
  have e : ((Str.ofString "place") == (Str.ofString "name")) = false := by decide +kernel
  simp [errF, List.lookup, e]
end
/-! ### classes among classes -/
section
variable {K : PySem.W.Frag} {C F : Addr} {b : Bool}
theorem kcls_of (ic : PySem.W.isClsIn K F = true) (ty : PySem.W.typeIn K (.ref F) = some (.type "type")) (sb : PySem.W.subIn K (.ref C) (.ref F) = some b) : PySem.W.kitCls K (.ref C) (.ref F) = some b := by
  have e : ((PySem.W.clsIn K F).isSome && PySem.W.typeIn K (.ref F) == some (.type "type")) = true := by
    have ic' : (PySem.W.clsIn K F).isSome = true := ic
    rw [ic', ty]
    rfl
  show (if ((PySem.W.clsIn K F).isSome && PySem.W.typeIn K (.ref F) == some (.type "type")) = true then PySem.W.subIn K (.ref C) (.ref F) else none) = some b
  rw [if_pos e]
  exact sb
theorem exm_of (ex : PySem.W.subIn K (.ref F) (.type "BaseException") = some true) (ic : PySem.W.isClsIn K F = true) (ty : PySem.W.typeIn K (.ref F) = some (.type "type")) (sb : PySem.W.subIn K (.ref C) (.ref F) = some b) : PySem.W.exmOne K (.ref C) (.ref F) = some b := by
  have e : (PySem.W.subIn K (.ref F) (.type "BaseException") == some true) = true := by
    rw [ex]
    rfl
  show (if (PySem.W.subIn K (.ref F) (.type "BaseException") == some true) = true then PySem.W.kitCls K (.ref C) (.ref F) else none) = some b
  rw [if_pos e]
  exact kcls_of ic ty sb
theorem kit_of (ne : (Value.ref C == Value.ref F) = false) (ic : PySem.W.isClsIn K F = true) (ty : PySem.W.typeIn K (.ref F) = some (.type "type")) (sb : PySem.W.subIn K (.ref C) (.ref F) = some b) : PySem.W.kitOne K (.ref C) (.ref F) = some b := by
  show (if (Value.ref C == Value.ref F) = true then some true else PySem.W.kitCls K (.ref C) (.ref F)) = some b
  rw [ne, if_neg Bool.false_ne_true]
  exact kcls_of ic ty sb
end
/-! ### rules within a suite, the written part told from outside -/
section
variable {X : Cx} {a : Addr} {pn : List (Addr × Obj)} {o e : Expr} {es : List Expr} {to : TE} {t : TA} {name : Str} {apos cpos : Pos} {T id : String} {r : V → List V → Hp → VK → Prop}
theorem ix_listS : IxR (X.suite a pn) (rIxL X.K) := ix_list
theorem ix_tupS : IxR (X.suite a pn) (rIxT X.K) := ix_tup
theorem sl_listS : SlR (X.suite a pn) (rSlL X.K) := sl_list
theorem call_len_seqS : CallR (X.suite a pn) (.builtin "len") (fun xs H Q => ∃ p ys, xs = [.ref p] ∧ (SqL X.K H p ys ∨ SqT X.K H p ys) ∧ Q (.int ys.length) H) := call_len_seq
theorem op_eqDS (hu : X.A.units + 64 < cLine) : OpR (X.suite a pn) (compareOp .Eq) (rEqD X.K) := op_eqD hu
theorem op_neDS (hu : X.A.units + 64 < cLine) : OpR (X.suite a pn) (compareOp .NotEq) (rNeD X.K) := op_neD hu
theorem pe_bmS (pa : PlainAttrs T) (slot : Slot T name id) (hty : typeOf (.builtin id) = pure (.type "method_descriptor")) (hm : MtR (X.suite a pn) id r) (ho : PE (X.suite a pn) o to) (ha : PA (X.suite a pn) (e :: es) t) (hbase : attributeBase o name X.env (eval o X.env) = eval o X.env := by rfl) (hfew : ((backTo cpos (starEach (e :: es) X.env)).all (fun x => !x.1) && (backToKw cpos (keywordEach [] X.env)).all (fun x => x.1.isSome) && decide ((e :: es).length + ([] : List Keyword).length + (if ([] : List Keyword).isEmpty then 0 else 1) < 30)) = true := by rfl) (hline : (apos.endLine == cpos.line) = true := by rfl) (hs : starEach (e :: es) X.env = (false, eval e X.env) :: starEach es X.env := by rfl) (hplain : (backTo cpos (starEach es X.env)).any (·.1) = false := by rfl) : PE (X.suite a pn) (.Call (.Attribute o name apos) (e :: es) [] cpos) (tBM X.K T r to t) := pe_bm pa slot hty hm ho ha hbase hfew hline hs hplain
end
/-! ### further expressions -/
section
variable {K : PySem.W.Frag} {σ : L2.St} {B : Hp} {ta tb te : TE}
theorem en_list {a : Addr} {xs : List V} (h : Ev te σ B (.ref a)) (hx : SqL K B a xs) : EvN (tCB (fun xs H Q => ∃ p ys, xs = [.ref p] ∧ (SqL K H p ys ∨ SqT K H p ys) ∧ ∀ l, H l = none → Q (.ref l) (upd H l (.lst ys))) (tCons te tNil)) σ B (.lst xs) := fun H1 e Q q =>
  h H1 e _ fun H2 e2 => ⟨a, xs, rfl, .inl (ex_l (e.trans e2) hx), fun l hl => q l _ (fresh_back e2 hl) (e2.trans (Ex.new hl)) upd_same⟩
theorem en_rep {xs : List V} {k : Int} (ha : EvN ta σ B (.lst xs)) (hb : Ev tb σ B (.int k)) (h0 : 0 ≤ k) (h1 : k ≤ 100000) (hz : xs.length * k.toNat ≤ 100000) : EvN (tOp rRep ta tb) σ B (.lst (List.replicate k.toNat xs).flatten) := fun H1 e Q q =>
  ha H1 e _ fun p H2 hp e2 h2 => hb H2 (e.trans e2) _ fun H3 e3 => ⟨p, k, xs, rfl, rfl, e3 p _ h2, by omega, by omega, sz_of hz, fun r hr => q r _ (fresh_back (e2.trans e3) hr) ((e2.trans e3).trans (Ex.new hr)) upd_same⟩
theorem en_slN {tl th : TO} {xs : List V} {lo hi : Option Int} (h : EvN te σ B (.lst xs)) (h1 : EvO tl σ B lo) (h2 : EvO th σ B hi) : EvN (tSl (rSlL K) te tl th) σ B (.lst (cutV xs lo hi)) := fun H1 e Q q =>
  h H1 e _ fun p H2 hp e2 hh => h1 H2 (e.trans e2) _ fun H3 e3 => h2 H3 ((e.trans e2).trans e3) _ fun H4 e4 => ⟨p, xs, rfl, sq_of (e4 p _ (e3 p _ hh)), fun r hr => q r _ (fresh_back ((e2.trans e3).trans e4) hr) (((e2.trans e3).trans e4).trans (Ex.new hr)) upd_same⟩
end
/-! ### arguments of which some are new; calls that give a value of which something is known -/
def PVd (pre : List V → Hp → (V → Prop) → Prop) : Sp := fun vs H Q _ => ∃ F, pre vs H F ∧ ∀ v H2, Ex H H2 → F v → Q v H2
section
variable {K : PySem.W.Frag} {σ : L2.St} {B : Hp} {ta ts : TA} {te tl : TE} {tz : TS} {D : Ends} {tu : TS} {v z : V} {o : HO} {vs : List V} {E : XK} {W : WX} {Pp : List V → Hp → Prop} {mg : Str → Option Value} {x : Str}
theorem eap_nil : EvAP tNil σ B (fun vs _ => vs = []) := fun H1 _ Q q => q [] H1 (Ex.refl H1) rfl
theorem eap_v (h : Ev te σ B v) (t : EvAP ts σ B Pp) : EvAP (tCons te ts) σ B (fun vs H => ∃ r, vs = v :: r ∧ Pp r H) := fun H1 e Q q =>
  h H1 e _ fun H2 e2 => t H2 (e.trans e2) _ fun r H3 e3 hr => q _ H3 (e2.trans e3) ⟨r, rfl, hr⟩
theorem eap_n (h : EvN te σ B o) (t : EvAP ts σ B Pp) : EvAP (tCons te ts) σ B (fun vs H => ∃ p r, vs = .ref p :: r ∧ H p = some o ∧ Pp r H) := fun H1 e Q q =>
  h H1 e _ fun p H2 _ e2 hp => t H2 (e.trans e2) _ fun r H3 e3 hr => q _ H3 (e2.trans e3) ⟨p, r, rfl, e3 p _ hp, hr⟩
theorem ev_pvA {pre : List V → Hp → V → Prop} (h : EvAP ta σ B Pp) (hp : ∀ vs H, Ex B H → Pp vs H → pre (vs ++ []) H z) : Ev (tCall (PV pre) [] E ta) σ B z := fun H1 e Q q =>
  h H1 e _ fun vs H2 e2 hv => ⟨z, hp vs H2 (e.trans e2) hv, fun H3 e3 => q H3 (e2.trans e3)⟩
theorem en_pnA {pre : List V → Hp → HO → Prop} (h : EvAP ta σ B Pp) (hp : ∀ vs H, Ex B H → Pp vs H → pre (vs ++ []) H o) : EvN (tCall (PN pre) [] E ta) σ B o := fun H1 e Q q =>
  h H1 e _ fun vs H2 e2 hv => ⟨o, hp vs H2 (e.trans e2) hv, fun p H3 hp' e3 h3 => q p H3 (fresh_back e2 hp') (e2.trans e3) h3⟩
theorem ev_cxA {pre : List V → Hp → Out → Prop} (h : EvAP ta σ B Pp) (hp : ∀ vs H, Ex B H → Pp vs H → pre vs H (.val z)) : Ev (tCallS (spO mg pre) (WE W) ta) σ B z := fun H1 e Q q => h H1 e _ fun vs H2 e2 hv => ⟨.val z, hp vs H2 (e.trans e2) hv, fun H3 e3 => q H3 (e2.trans e3)⟩
theorem en_cxA {pre : List V → Hp → Out → Prop} (h : EvAP ta σ B Pp) (hp : ∀ vs H, Ex B H → Pp vs H → pre vs H (.new o)) : EvN (tCallS (spO mg pre) (WE W) ta) σ B o := fun H1 e Q q => h H1 e _ fun vs H2 e2 hv => ⟨.new o, hp vs H2 (e.trans e2) hv, fun p H3 np e3 h3 => q p H3 (fresh_back e2 np) (e2.trans e3) h3⟩
theorem ep_pvd {pre : List V → Hp → (V → Prop) → Prop} {F : V → Prop} (h : EvA ta σ B vs) (hp : ∀ H, Ex B H → pre (vs ++ []) H F) : EvP (tCall (PVd pre) [] E ta) σ B (fun v _ => F v) := fun H1 e Q q =>
  h H1 e _ fun H2 e2 => ⟨F, hp H2 (e.trans e2), fun v H3 e3 hf => q v H3 (e2.trans e3) hf⟩
theorem ev_max2 {i j : Int} (h : EvA ta σ B [.int i, .int j]) : Ev (tCB (fun xs H Q => ∃ i j, xs = [V.int i, .int j] ∧ Q (.int (if j > i then j else i)) H) ta) σ B (.int (if j > i then j else i)) := fun H1 e Q q => h H1 e _ fun H2 e2 => ⟨i, j, rfl, q H2 e2⟩
theorem ev_min2 {i j : Int} (h : EvA ta σ B [.int i, .int j]) : Ev (tCB (fun xs H Q => ∃ i j, xs = [V.int i, .int j] ∧ Q (.int (if j < i then j else i)) H) ta) σ B (.int (if j < i then j else i)) := fun H1 e Q q => h H1 e _ fun H2 e2 => ⟨i, j, rfl, q H2 e2⟩
/-- a for whose end is reached from several places -/
theorem r_forR1K {j : Nat} {n : Int} (Mid : L2.St → Hp → Prop) (h : EvA ta σ B [.int n]) (hn : 0 ≤ n ∧ n ≤ 100000) (Pv : Nat → L2.St → Hp → Prop) (h0 : Pv 0 σ B) (k : ∀ σ' B', Mid σ' B' → R tz D σ' B')
    (hs : (∀ σ' B', Mid σ' B' → R tz D σ' B') → ∀ (i : Nat) σ' B', (i : Int) < n → Pv i σ' B' → R tu (Lp Pv i D tz) (σ'.set j (some (.int (i : Int)))) B') (hd : ∀ σ' B', Pv n.toNat σ' B' → Mid σ' B') : R (tSeq (tFor (iRng1 ta) (gName j) tu) tz) D σ B :=
  r_forR1 h hn Pv h0 (hs k) fun σ' B' p => k σ' B' (hd σ' B' p)
theorem r_forR2K {j : Nat} {lo n : Int} (Mid : L2.St → Hp → Prop) (h : EvA ta σ B [.int lo, .int n]) (hn : 0 ≤ lo ∧ lo ≤ 100000 ∧ -100000 ≤ n ∧ n ≤ 100000) (Pv : Nat → L2.St → Hp → Prop) (h0 : Pv 0 σ B) (k : ∀ σ' B', Mid σ' B' → R tz D σ' B')
    (hs : (∀ σ' B', Mid σ' B' → R tz D σ' B') → ∀ (i : Nat) σ' B', lo + (i : Int) < n → Pv i σ' B' → R tu (Lp Pv i D tz) (σ'.set j (some (.int (lo + (i : Int))))) B') (hd : ∀ σ' B', Pv (n - lo).toNat σ' B' → Mid σ' B') : R (tSeq (tFor (iRng2 ta) (gName j) tu) tz) D σ B :=
  r_forR2 h hn Pv h0 (hs k) fun σ' B' p => k σ' B' (hd σ' B' p)
end
end FK

set_option Elab.async false
set_option linter.all false
set_option maxRecDepth 100000
set_option maxHeartbeats 2000000
/-! dicts whose keys are ints and texts; pairs in a for; places in lists (own text) -/
namespace FK
open PySem PySem.Spec PyProof.Rows L2 Evl FkE
/-! ### list(d.values()) -/
theorem kv_vals {kvs : List (Key × V)} {vs : List (Key × Value)} (r : KV kvs vs) : Vals (kvs.map (·.2)) (vs.map (·.2)) := by
  unfold KV at r
  induction r with
  | nil => exact .nil
  | cons h t ih => exact .cons h.2 ih
def tListVals (te : TE) : TE := fun σ H Q => te σ H fun x H1 => ∃ (d : Addr) (kvs : List (Key × V)), x = .ref d ∧ H1 d = some (.dK kvs) ∧ ∀ p, H1 p = none → Q (.ref p) (upd H1 p (.lst (kvs.map (·.2))))
section
variable {X : Cx} {e : Expr} {te : TE} {p apos cpos pos : Pos}
theorem pe_listVals (hc : X.calm = true) (he : PE X e te) (hg : Gl X "list") (hm : X.mg "list" = none) (hv : bootBuiltins "list" = some (.type "list")) (hb : attributeBase e "values" X.env (eval e X.env) = eval e X.env := by rfl) (hl : (apos.endLine == cpos.line) = true := by rfl)
    (hs : starEach [.Call (.Attribute e "values" apos) [] [] cpos] X.env = (false, eval (.Call (.Attribute e "values" apos) [] [] cpos) X.env) :: starEach [] X.env := by rfl) : PE X (.Call (.Name "list" p) [.Call (.Attribute e "values" apos) [] [] cpos] [] pos) (tListVals te) :=
  ⟨fun pins s σ H Q I hq => wpAny_Call_Name_kw (ld_blt I hg hm hv (PyProof.Rows.callWith_type1 (by
    rw [hs]
    refine (show wpAny _ _ (spliced ((false, eval (.Call (.Attribute e "values" apos) [] [] cpos) X.env) :: backTo pos (starEach [] X.env))) _ _ s from Calls.spliced_cons (wpAny_Call_method (T := "dict") (id := "dict.values") hb rfl hl F.plainAttrs_dict F.slot_dict_values F.type_dict_values (thn (he.run pins s σ H _ I hq) fun u s1 ⟨x, H1, I1, rx, d, kvs, ex, hd, q⟩ => ?_)))
    subst ex
    obtain rfl : u = Value.ref d := rx
    obtain ⟨z, lo, vs, rel, dd⟩ := dk_rd I1.hok (Rd.of hd)
    obtain ⟨ep, hat⟩ := dd.dictAt
    have lk : kvs.length = vs.length := Paired.length rel
    have I2 : Inv X pins σ H1 { s1 with heap := s1.heap.push { cls := .type "dict_values", data := .fields #[.ref d] } } := I1.kept (t' := s1.toks) fun b ob q => Heap.get?_push_of_some _ q
    refine ⟨dd.typeIs, dd.mapOf.noDict, (show wpAny _ _ (callWith cpos (.builtin "dict.values") [.ref d] [] []) _ X.xe s1 from method_meetsIn F.slot_dict_values F.entry_dict_values rfl (PySem.evalArgs_none ⟨rfl, dd.typeIs, F.args_dict_values_1 _, _, meets_dict_values (mixKind X.prog X.w) d lo, ⟨vs, dd⟩, Calls.spliced_nil ?_⟩))⟩
    refine PySem.W.kdl_call (PySem.W.kdl_values (knd := mixKind X.prog X.w) (kvs := vs) (ep := ep)) (I1.ok.hd hc) ⟨⟨_, Heap.get?_push_size _ rfl, rfl, rfl⟩, hat.push _⟩ (by rw [← lk]; exact z) fun h' tk acc c' hk hD hacc => ?_
    have hv2 : acc.toList = vs.map (·.2) := List.ext_getElem? fun j => by
      by_cases hj : j < vs.length
      · have h1 : acc[j]? = some acc[j]! := by
          rw [Array.getElem?_eq_getElem (by rw [hacc.1]; exact hj), getElem!_pos]
        obtain ⟨k, hk2⟩ := hacc.2 j _ h1
        rw [Array.getElem?_toList, h1, List.getElem?_map, hk2]
        rfl
      · rw [List.getElem?_eq_none (by rw [Array.length_toList, hacc.1]; omega), List.getElem?_eq_none (by rw [List.length_map]; omega)]
    exact ⟨.ref _, _, I2.laid (t' := tk) hk (Nat.le_refl _) (show ObjOk X.prog X.w _ _ _ (.lst (kvs.map (·.2))) from ⟨by rw [List.length_map]; exact z, acc.toList, c', by rw [hv2]; exact kv_vals rel, by rw [Array.toArray_toList]; exact hD⟩), rfl, q _ (I2.hok.fresh (Nat.le_refl _))⟩) hs rfl))⟩
end
/-- where an item stands -/
theorem pe_index {X : Cx} {K : PySem.W.Frag} {o e : Expr} {es : List Expr} {to : TE} {t : TA} {apos cpos : Pos} (hK : X.K = K) (ho : PE X o to) (ha : PA X (e :: es) t) (h1 : attributeBase o "index" X.env (eval o X.env) = eval o X.env := by rfl) (h2 : ((backTo cpos (starEach (e :: es) X.env)).all (fun x => !x.1) && (backToKw cpos (keywordEach [] X.env)).all (fun x => x.1.isSome) && decide ((e :: es).length + ([] : List Keyword).length + (if ([] : List Keyword).isEmpty then 0 else 1) < 30)) = true := by rfl) (h3 : (apos.endLine == cpos.line) = true := by rfl) (h4 : starEach (e :: es) X.env = (false, eval e X.env) :: starEach es X.env := by rfl) (h5 : (backTo cpos (starEach es X.env)).any (·.1) = false := by rfl) :
    PE X (.Call (.Attribute o "index" apos) (e :: es) [] cpos) (tBM K "list" (rIndex K) to t) := by
  subst hK
  exact pe_bm PySem.F.plainAttrs_list PySem.F.slot_list_index PySem.F.type_list_index mt_index ho ha h1 h2 h3 h4 h5
theorem ix_listK {X : Cx} {K : PySem.W.Frag} (hK : X.K = K) : IxR X (rIxL K) := by
  subst hK
  exact ix_list
theorem ix_tupK {X : Cx} {K : PySem.W.Frag} (hK : X.K = K) : IxR X (rIxT K) := by
  subst hK
  exact ix_tup
theorem sl_listK {X : Cx} {K : PySem.W.Frag} (hK : X.K = K) : SlR X (rSlL K) := by
  subst hK
  exact sl_list
theorem call_len_seqK {X : Cx} {K : PySem.W.Frag} (hK : X.K = K) : CallR X (.builtin "len") (rLenS K) := by
  subst hK
  exact call_len_seq
theorem kit_ty {K : PySem.W.Frag} {C : Addr} {T : String} {b : Bool} (m : PySem.W.kitMeta T = true) (sb : PySem.W.subIn K (.ref C) (.type T) = some b) : PySem.W.kitOne K (.ref C) (.type T) = some b := by
  show (if (Value.ref C == Value.type T) = true then some true else if PySem.W.kitMeta T = true then PySem.W.subIn K (.ref C) (.type T) else none) = some b
  rw [show (Value.ref C == Value.type T) = false from rfl, if_neg Bool.false_ne_true, if_pos m]
  exact sb
theorem pe_c0 {X : Cx} {k j : Nat} {x : Str} {sp : Sp} {p pos : Pos} (c : Cal CX0 X.prog X.w X.K X.mg X.base k x sp) (hr : Room j X.A) (hk : k ≤ j) (hg : Gl X x) (hdb : (x == ("__debug__" : Str)) = false := by decide) : PE X (.Call (.Name x p) [] [] pos) (tCall sp [] E0 tNil) := by
  obtain ⟨f, fd, ps, F, hm, kp, b⟩ := c.ex
  exact pe_call0 F (hr.mono hk) hg hm kp b .nil pass0 hdb
section
variable {K : PySem.W.Frag} {σ : L2.St} {B : Hp} {ta ts : TA} {te td ty tv tl tb : TE} {tz tu : TS} {D : Ends} {v z x : V} {o : HO} {E : XK} {mg : Str → Option Value}
theorem en_listVals {a : Addr} {kvs : List (Key × V)} (h : Ev te σ B (.ref a)) (hd : B a = some (.dK kvs)) : EvN (tListVals te) σ B (.lst (kvs.map (·.2))) := fun H1 e Q q =>
  h H1 e _ fun H2 e2 => ⟨a, kvs, rfl, (e.trans e2) a _ hd, fun p hp => q p _ (fresh_back e2 hp) (e2.trans (Ex.new hp)) upd_same⟩
theorem en_listD {a : Addr} {kvs : List (Key × V)} (h : Ev te σ B (.ref a)) (hd : B a = some (.dK kvs)) : EvN (tCB (fun xs H Q => ∃ (a : Addr) (kvs : List (Key × V)), xs = [.ref a] ∧ Rd H a (.dK kvs) ∧ ∀ p, H p = none → Q (.ref p) (upd H p (.lst (kvs.map fun kv => kV kv.1)))) (tCons te tNil)) σ B (.lst (kvs.map fun kv => kV kv.1)) := fun H1 e Q q =>
  h H1 e _ fun H2 e2 => ⟨a, kvs, rfl, .of ((e.trans e2) a _ hd), fun p hp => q p _ (fresh_back e2 hp) (e2.trans (Ex.new hp)) upd_same⟩
theorem ev_dget {a : Addr} {kvs : List (Key × V)} {k : Key} (h : Ev td σ B (.ref a)) (hk : Ev ty σ B (kV k)) (hd : B a = some (.dK kvs)) (hv : valV kvs k = some v) : Ev (tDGet td ty) σ B v := fun H1 e Q q =>
  h H1 e _ fun H2 e2 => hk H2 (e.trans e2) _ fun H3 e3 => ⟨a, v, rfl, by rw [← hv]; exact DGet.k (((e.trans e2).trans e3) a _ hd), q H3 (e2.trans e3)⟩
theorem r_dput {a : Addr} {kvs : List (Key × V)} {k : Key} (hv : Ev tv σ B v) (h : Ev td σ B (.ref a)) (hk : Ev ty σ B (kV k)) (hd : B a = some (.dK kvs)) (hz : kvs.length < 100000) (q : R tz D σ (upd B a (.dK (putK kvs k v)))) : R (tSeq (sDPut td ty tv) tz) D σ B := fun H1 e =>
  hv H1 e _ fun H2 e2 => h H2 (e.trans e2) _ fun H3 e3 => hk H3 ((e.trans e2).trans e3) _ fun H4 e4 => ⟨a, _, rfl, DPut.k ((((e.trans e2).trans e3).trans e4) a _ hd) (sz_lt hz), q _ (ex_mut (((e.trans e2).trans e3).trans e4))⟩
/-- a display of two pairs -/
theorem en_disp2 {t1 t2 u1 u2 : TE} {k1 k2 : Key} {v1 v2 : V} (a1 : Ev t1 σ B (kV k1)) (b1 : Ev u1 σ B v1) (a2 : Ev t2 σ B (kV k2)) (b2 : Ev u2 σ B v2) : EvN (tDisp [(t1, u1), (t2, u2)]) σ B (.dK (mergeK [] [(k1, v1), (k2, v2)])) := fun H1 e Q q p hp =>
  have e0 := e.trans (Ex.new (o := .dK []) hp)
  a1 _ e0 _ fun H2 e2 => b1 _ (e0.trans e2) _ fun H3 e3 => a2 _ ((e0.trans e2).trans e3) _ fun H4 e4 => b2 _ (((e0.trans e2).trans e3).trans e4) _ fun H5 e5 =>
    have eA := ((e2.trans e3).trans e4).trans e5
    ⟨eA p _ upd_same, [(k1, v1), (k2, v2)], rfl, by simp, q p _ hp (Ex.mut ((Ex.new hp).trans eA) hp) upd_same⟩
/-- a for over (place, item) -/
theorem r_forEnum {a : Addr} {xs : List V} {j1 j2 : Nat} (h : EvA ta σ B [.ref a]) (hx : SqL K B a xs) (Pv : Nat → L2.St → Hp → Prop) (h0 : Pv 0 σ B) (hl : ∀ i σ' B', i ≤ xs.length → Pv i σ' B' → SqL K B' a xs)
    (hs : ∀ i x σ' B', xs[i]? = some x → Pv i σ' B' → R tu (Lp Pv i D tz) ((σ'.set j1 (some (.int (i : Int)))).set j2 (some x)) B') (hd : ∀ σ' B', Pv xs.length σ' B' → R tz D σ' B') :
    R (tSeq (tFor (iEnum K ta) (gTup K 2 (gCons (gName j1) (gCons (gName j2) gNil))) tu) tz) D σ B := fun H e => h H e _ fun H1 e1 =>
  ⟨a, xs, rfl, ex_l (e.trans e1) hx, for_it walk_enum (D := { D with nx := tz D }) (Up Pv) ⟨B, e.trans e1, h0⟩ (fun i σ' H' hi ⟨B', e', p⟩ => ex_l e' (hl i σ' B' hi p))
    (fun i x σ' H' H2 hi ⟨B', e', p⟩ ⟨T, x1, x2, hv, hT, hH, h1, h2⟩ => by
      subst hv hH
      cases h1
      exact ⟨T, [.int (i : Int), x2], rfl, st_of upd_same, rfl, .int (i : Int), [x2], rfl, x2, [], rfl, rfl, hs i x2 σ' B' h2 p _ (e'.trans (Ex.new hT))⟩) fun σ' H' ⟨B', e', p⟩ => hd σ' B' p H' e'⟩
/-- where an item stands in a new list -/
theorem ev_indexN {ys : List V} {y : V} {j : Nat} {w : V} (h : EvN te σ B (.lst ys)) (hy : Ev ty σ B y) (f1 : flatV y = true) (f2 : ys.all flatV = true) (h1 : ys[j]? = some w) (h2 : eqV w y = true) (h3 : ∀ (m : Nat) (w' : V), m < j → ys[m]? = some w' → eqV w' y = false) :
    Ev (tBM K "list" (rIndex K) te (tCons ty tNil)) σ B (.int (j : Int)) := fun H1 e Q q =>
  h H1 e _ fun p H2 np e2 hp => ⟨.inl ⟨rfl, ys, sq_of hp⟩, hy H2 (e.trans e2) _ fun H3 e3 => ⟨p, ys, y, j, w, rfl, rfl, sq_of (e3 p _ hp), f1, f2, h1, h2, h3, q H3 (e2.trans e3)⟩⟩
/-- x in a new list -/
theorem ev_inN {xs : List V} (ha : Ev ty σ B x) (hb : EvN te σ B (.lst xs)) (hx : flatV x = true) (hf : xs.all flatV = true) : Ev (tOp (rIn K false) ty te) σ B (.bl (inV x xs)) := fun H1 e Q q =>
  ha H1 e _ fun H2 e2 => hb H2 (e.trans e2) _ fun p H3 np e3 hp => ⟨p, xs, rfl, .inl (sq_of hp), hx, hf, q H3 (e2.trans e3)⟩
theorem ev_niN {xs : List V} (ha : Ev ty σ B x) (hb : EvN te σ B (.lst xs)) (hx : flatV x = true) (hf : xs.all flatV = true) : Ev (tOp (rIn K true) ty te) σ B (.bl (!inV x xs)) := fun H1 e Q q =>
  ha H1 e _ fun H2 e2 => hb H2 (e.trans e2) _ fun p H3 np e3 hp => ⟨p, xs, rfl, .inl (sq_of hp), hx, hf, q H3 (e2.trans e3)⟩
/-- sep.join(a list that stands) -/
theorem ev_joinL {a : List Nat} {p : Addr} {ys : List (List Nat)} (ha : Ev te σ B (.str (SX.S a))) (hb : Ev tb σ B (.ref p)) (hp : SqL K B p (ys.map fun l => V.str (SX.S l))) (hz : (ys.map (·.length)).sum + ys.length * a.length ≤ 16777216) :
    Ev (tM1 (fun x xs H Q => ∃ a p, ∃ ys : List Str, x = .str a ∧ xs = [.ref p] ∧ (SqL K H p (ys.map V.str) ∨ SqT K H p (ys.map V.str)) ∧ (ys.map (·.length)).sum + ys.length * a.length ≤ 16777216 ∧ Q (.str (Txt.join a ys)) H) te tb) σ B (.str (SX.S (TL.joinL a ys))) := by
  rw [← SX.join_S]
  exact fun H1 e Q q => ha H1 e _ fun H2 e2 => ⟨⟨_, rfl⟩, hb H2 (e.trans e2) _ fun H3 e3 => ⟨_, p, ys.map SX.S, rfl, rfl, .inl (ex_l ((e.trans e2).trans e3) (by rw [List.map_map]; exact hp)), by rw [SX.lens, List.length_map, SX.S_len]; exact hz, q H3 (e2.trans e3)⟩⟩
theorem rv_notB {a b : Bool} : RV rNotB (.bl a) (.bl b) B (.bl (!decide (a = b))) := fun H1 _ _ q => ⟨a, b, rfl, rfl, q H1 (Ex.refl H1)⟩
/-- calls that give either (nothing is let out) -/
theorem ev_po {pre : List V → Hp → Out → Prop} {vs : List V} (h : EvA ta σ B vs) (hp : ∀ H, Ex B H → pre (vs ++ []) H (.val z)) : Ev (tCall (spO mg pre) [] E ta) σ B z := fun H1 e Q q => h H1 e _ fun H2 e2 => ⟨.val z, hp H2 (e.trans e2), fun H3 e3 => q H3 (e2.trans e3)⟩
theorem en_po {pre : List V → Hp → Out → Prop} {vs : List V} (h : EvA ta σ B vs) (hp : ∀ H, Ex B H → pre (vs ++ []) H (.new o)) : EvN (tCall (spO mg pre) [] E ta) σ B o := fun H1 e Q q => h H1 e _ fun H2 e2 => ⟨.new o, hp H2 (e.trans e2), fun p H3 np e3 h3 => q p H3 (fresh_back e2 np) (e2.trans e3) h3⟩
end
end FK

set_option Elab.async false
set_option linter.all false
set_option maxRecDepth 100000
/-! masks, shifts, tuples of the top (own text) -/
namespace FK
open PySem PySem.Spec PyProof.Rows L2 Evl
/-- values as they are written -/
def abL : List Value → Option (List V)
  | [] => some []
  | u :: us => match absV u, abL us with
    | some x, some xs => some (x :: xs)
    | _, _ => none
theorem absV_rel {u : Value} {x : V} (h : absV u = some x) : RelV x u := by
  cases u <;> simp only [absV, Option.some.injEq, reduceCtorEq] at h <;> subst h <;> first | rfl | exact ⟨_, rfl⟩
theorem abL_vals : ∀ {us : List Value} {xs : List V}, abL us = some xs → Vals xs us
  | [], xs, h => by
    cases h
    exact .nil
  | u :: us, xs, h => by
    unfold abL at h
    split at h
    · rename_i x ys h1 h2
      cases h
      exact .cons (absV_rel h1) (abL_vals h2)
    · cases h
theorem tup_at {K : PySem.W.Frag} {H : Hp} {p : Addr} {od : Option Addr} {its : Array Value} {n : Nat} {sl : Array (Option Value)} {xs : List V} (l : K.lookup p = some ⟨.type "tuple", od, .seq its n, sl⟩) (v : abL its.toList = some xs) (hz : xs.length ≤ 100000) : SqT K H p xs := by
  have r := abL_vals v
  have e : xs.length = its.size := by
    have := r.length
    simpa using this
  exact .inr ⟨_, its, n, l, rfl, rfl, by rw [← e]; exact sz_of hz, r⟩
section
variable {σ : L2.St} {B : Hp} {te : TE}
theorem rv_xorN {a b : Nat} : RV (rI0 fun i j => .int (Builtin.bitXor i j)) (.int (a : Int)) (.int (b : Int)) B (.int ((a ^^^ b : Nat) : Int)) := by
  have e := rv_ar (B := B) (f := Builtin.bitXor) (i := (a : Int)) (j := (b : Int))
  rw [Bits.bitXor_pp (Int.natCast_nonneg _) (Int.natCast_nonneg _)] at e
  exact e
theorem rv_andM {a : Nat} (k : Nat) {m : Int} (h : m = 2 ^ k - 1) : RV (rI0 fun i j => .int (Builtin.bitAnd i j)) (.int (a : Int)) (.int m) B (.int ((a % 2 ^ k : Nat) : Int)) := by
  have e := rv_ar (B := B) (f := Builtin.bitAnd) (i := (a : Int)) (j := m)
  rw [h, Bits.bitAnd_mask k (Int.natCast_nonneg _)] at e
  rw [h]
  have e2 : ((a % 2 ^ k : Nat) : Int) = (a : Int) % 2 ^ k := by push_cast; rfl
  rw [e2]
  exact e
theorem rv_shlN {a : Nat} (k : Nat) {m : Int} (h : m = (k : Int)) (hk : k ≤ 1000000) (ha : a < 2 ^ 64) : RV (rI CPow fun i j => .int (i * 2 ^ j.toNat)) (.int (a : Int)) (.int m) B (.int ((a * 2 ^ k : Nat) : Int)) := by
  subst h
  have e := rv_arC (B := B) (C := CPow) (f := fun i j => i * 2 ^ j.toNat) (i := (a : Int)) (j := (k : Int)) ⟨by omega, by omega, by rw [Int.natAbs_natCast]; exact ha⟩
  rw [Int.toNat_natCast] at e
  have e2 : ((a * 2 ^ k : Nat) : Int) = (a : Int) * 2 ^ k := by push_cast; rfl
  rw [e2]
  exact e
theorem rv_shlWN {a n : Nat} (k : Nat) {m : Int} (h : m = (k : Int)) (ha : a < 2 ^ n) (hk : n + k ≤ 100000) : RV (rI CShl fun i j => .int (i * 2 ^ j.toNat)) (.int (a : Int)) (.int m) B (.int ((a * 2 ^ k : Nat) : Int)) := by
  subst h
  have e := rv_arC (B := B) (C := CShl) (f := fun i j => i * 2 ^ j.toNat) (i := (a : Int)) (j := (k : Int)) (shl_ok (n := n) (by rw [Int.natAbs_natCast]; exact ha) (by omega))
  rw [Int.toNat_natCast] at e
  have e2 : ((a * 2 ^ k : Nat) : Int) = (a : Int) * 2 ^ k := by push_cast; rfl
  rw [e2]
  exact e
theorem rv_shrN {a : Nat} (k : Nat) {m : Int} (h : m = (k : Int)) : RV (rI (fun _ j => 0 ≤ j) fun i j => .int (i / 2 ^ j.toNat)) (.int (a : Int)) (.int m) B (.int ((a / 2 ^ k : Nat) : Int)) := by
  subst h
  have e := rv_arC (B := B) (C := fun _ j => 0 ≤ j) (f := fun i j => i / 2 ^ j.toNat) (i := (a : Int)) (j := (k : Int)) (Int.natCast_nonneg _)
  rw [Int.toNat_natCast] at e
  have e2 : ((a / 2 ^ k : Nat) : Int) = (a : Int) / 2 ^ k := by push_cast; rfl
  rw [e2]
  exact e
theorem rv_modN {a b : Nat} (h : 0 < b) : RV (rI (fun _ j => 0 < j) fun i j => .int (i % j)) (.int (a : Int)) (.int (b : Int)) B (.int ((a % b : Nat) : Int)) := by
  have e := rv_arC (B := B) (C := fun _ j => 0 < j) (f := fun i j => i % j) (i := (a : Int)) (j := (b : Int)) (by omega)
  rw [Int.natCast_emod]
  exact e
theorem rv_divWN {a b n : Nat} (h : 0 < b) (hb : b < 2 ^ n) (h0 : 0 < n) (h9 : n ≤ 9000) : RV (rI CDivW fun i j => .int (i / j)) (.int (a : Int)) (.int (b : Int)) B (.int ((a / b : Nat) : Int)) := by
  have e := rv_arC (B := B) (C := CDivW) (f := fun i j => i / j) (i := (a : Int)) (j := (b : Int)) (wide_div (by omega) (b := n) (by rw [Int.natAbs_natCast]; exact hb) h0 h9)
  rw [Int.natCast_ediv]
  exact e
theorem ev_bits {i : Int} (h : Ev te σ B (.int i)) : Ev (tBits te) σ B (.int (Builtin.Int.intBits i : Nat)) := fun H1 e Q q => h H1 e _ fun H2 e2 => ⟨i, rfl, q H2 e2⟩
theorem ev_abs {ta : TA} {i : Int} (h : EvA ta σ B [.int i]) : Ev (tCB (fun xs H Q => ∃ i, xs = [V.int i] ∧ Q (.int (if i < 0 then -i else i)) H) ta) σ B (.int (if i < 0 then -i else i)) := fun H1 e Q q => h H1 e _ fun H2 e2 => ⟨i, rfl, q H2 e2⟩
theorem bits_lt {b : Nat} : b < 2 ^ (Builtin.Int.intBits (b : Int)) := by
  unfold Builtin.Int.intBits
  split
  · rename_i h
    have : b = 0 := by simpa using h
    subst this
    decide
  · rw [Int.natAbs_natCast]
    exact Nat.lt_log2_self
end
theorem nat_list : ∀ {ds : List Int} {b : Int}, (∀ d ∈ ds, 0 ≤ d ∧ d < b) → ∃ os : List Nat, ds = os.map (fun o : Nat => (o : Int)) ∧ ∀ o ∈ os, (o : Int) < b
  | [], _, _ => ⟨[], rfl, fun _ h => nomatch h⟩
  | d :: ds, b, h => by
    obtain ⟨os, e, h2⟩ := nat_list (ds := ds) (b := b) fun x hx => h x (List.mem_cons_of_mem _ hx)
    have h1 := h d List.mem_cons_self
    refine ⟨d.toNat :: os, by rw [List.map_cons, ← e, Int.toNat_of_nonneg h1.1], fun o ho => ?_⟩
    rcases List.mem_cons.mp ho with rfl | ho
    · omega
    · exact h2 o ho
end FK

set_option Elab.async false
set_option linter.all false
set_option maxRecDepth 100000
namespace K35
open PySem PySem.Spec PyProof.Rows L2 Evl FK FkE
def topS (i : Nat) : Stmt := PySem.Challenge.pw_formkeeper_k35_sums_of_octets.main.body.getD i (.Pass ⟨0, 0, 0, 0⟩)
abbrev s_sum_of : Stmt := topS 2
theorem sc_sum_of : FnScope ["octets", "total", "octet", "_"] ["octets"] (defScope s_sum_of) := ⟨rfl, rfl, rfl, by decide +kernel, rfl, by decide +kernel, by decide +kernel⟩
abbrev s__law_cell : Stmt := topS 4
theorem sc__law_cell : FnScope ["script", "k"] ["script", "k"] (defScope s__law_cell) := ⟨rfl, rfl, rfl, by decide +kernel, rfl, by decide +kernel, by decide +kernel⟩
abbrev s__law_row : Stmt := topS 5
theorem sc__law_row : FnScope ["cell", "count", "bound", "rest", "mixed", "row", "k"] ["cell", "count", "bound"] (defScope s__law_row) := ⟨rfl, rfl, rfl, by decide +kernel, rfl, by decide +kernel, by decide +kernel⟩
abbrev s__law_integer : Stmt := topS 6
theorem sc__law_integer : FnScope ["value"] ["value"] (defScope s__law_integer) := ⟨rfl, rfl, rfl, by decide +kernel, rfl, by decide +kernel, by decide +kernel⟩
abbrev s__law_sum : Stmt := topS 8
theorem sc__law_sum : FnScope ["octets", "total", "octet", "k"] ["octets"] (defScope s__law_sum) := ⟨rfl, rfl, rfl, by decide +kernel, rfl, by decide +kernel, by decide +kernel⟩
abbrev s_law : Stmt := topS 10
theorem sc_law : FnScope ["script", "first", "octets", "given", "told", "burst", "at", "whole", "octet", "size", "shift", "changed", "others", "k"] ["script"] (defScope s_law) := ⟨rfl, rfl, rfl, by decide +kernel, rfl, by decide +kernel, by decide +kernel⟩
/-! ### the remainder -/
abbrev B32 := BitVec 32
def GP : B32 := 79764919#32
def tb (s : B32) : B32 := (s <<< 1) ^^^ (if s.msb = true then GP else 0#32)
def it : Nat → B32 → B32
  | 0, s => s
  | k + 1, s => tb (it k s)
theorem shl_xor (a b : B32) : (a ^^^ b) <<< 1 = (a <<< 1) ^^^ (b <<< 1) := BitVec.shiftLeft_xor_distrib a b 1
theorem tb_xor (a b : B32) : tb (a ^^^ b) = tb a ^^^ tb b := by
  have ac : ∀ p q r s : B32, (p ^^^ q) ^^^ (r ^^^ s) = (p ^^^ r) ^^^ (q ^^^ s) := fun p q r s => by ac_rfl
  unfold tb
  rw [shl_xor, BitVec.msb_xor, ac]
  congr 1
  cases a.msb <;> cases b.msb <;> simp
theorem tb_zero : tb 0#32 = 0#32 := by decide
theorem tb_inj {s : B32} (h : tb s = 0#32) : s = 0#32 := by
  unfold tb at h
  cases hm : s.msb with
  | true =>
    exfalso
    rw [hm, if_pos rfl] at h
    have h0 := congrArg (fun x : B32 => x.getLsbD 0) h
    simp [GP] at h0
  | false =>
    rw [hm, if_neg (by decide), BitVec.xor_zero] at h
    rw [BitVec.msb_eq_decide, decide_eq_false_iff_not] at hm
    have h1 := congrArg BitVec.toNat h
    rw [BitVec.toNat_shiftLeft, Nat.shiftLeft_eq] at h1
    refine BitVec.eq_of_toNat_eq ?_
    have h2 := s.isLt
    simp at h1 hm ⊢
    omega
theorem it_xor (a b : B32) : ∀ k, it k (a ^^^ b) = it k a ^^^ it k b
  | 0 => rfl
  | k + 1 => by
    show tb (it k (a ^^^ b)) = tb (it k a) ^^^ tb (it k b)
    rw [it_xor a b k, tb_xor]
theorem it_zero : ∀ k, it k 0#32 = 0#32
  | 0 => rfl
  | k + 1 => by
    show tb (it k 0#32) = _
    rw [it_zero k, tb_zero]
theorem it_inj {s : B32} : ∀ k, it k s = 0#32 → s = 0#32
  | 0, h => h
  | k + 1, h => it_inj k (tb_inj h)
theorem it_add (s : B32) (j : Nat) : ∀ k, it (k + j) s = it k (it j s)
  | 0 => by rw [Nat.zero_add]; rfl
  | k + 1 => by
    rw [Nat.succ_add]
    show tb (it (k + j) s) = tb (it k (it j s))
    rw [it_add s j k]
/-- a number as a polynomial, its remainder -/
def pb (m : Nat) : B32 := if h : m = 0 then 0#32 else tb (pb (m / 2)) ^^^ BitVec.ofNat 32 (m % 2)
termination_by m
decreasing_by omega
theorem pb_zero : pb 0 = 0#32 := by rw [pb.eq_1, dif_pos rfl]
theorem pb_step (m : Nat) : pb m = tb (pb (m / 2)) ^^^ BitVec.ofNat 32 (m % 2) := by
  by_cases h : m = 0
  · subst h
    rw [show 0 / 2 = 0 from rfl, pb_zero, tb_zero]
    rfl
  · rw [pb.eq_1, dif_neg h]
theorem ofNat_xor (a b : Nat) : BitVec.ofNat 32 (a ^^^ b) = BitVec.ofNat 32 a ^^^ BitVec.ofNat 32 b := by
  refine BitVec.eq_of_toNat_eq ?_
  rw [BitVec.toNat_xor, BitVec.toNat_ofNat, BitVec.toNat_ofNat, BitVec.toNat_ofNat, Nat.xor_mod_two_pow]
theorem xor_div2 (a b : Nat) : (a ^^^ b) / 2 = (a / 2) ^^^ (b / 2) := by
  have := Nat.xor_div_two_pow (a := a) (b := b) (n := 1)
  simpa using this
theorem xor_mod2 (a b : Nat) : (a ^^^ b) % 2 = (a % 2) ^^^ (b % 2) := by
  have := Nat.xor_mod_two_pow (a := a) (b := b) (n := 1)
  simpa using this
theorem pb_xor : ∀ (k a b : Nat), a < 2 ^ k → b < 2 ^ k → pb (a ^^^ b) = pb a ^^^ pb b
  | 0, a, b, ha, hb => by
    have ea : a = 0 := by simpa using ha
    have eb : b = 0 := by simpa using hb
    subst ea eb
    simp [pb_zero]
  | k + 1, a, b, ha, hb => by
    have ac : ∀ p q r s : B32, (p ^^^ q) ^^^ (r ^^^ s) = (p ^^^ r) ^^^ (q ^^^ s) := fun p q r s => by ac_rfl
    rw [pb_step (a ^^^ b), pb_step a, pb_step b, xor_div2, xor_mod2, pb_xor k (a / 2) (b / 2) (by rw [Nat.pow_succ] at ha; omega) (by rw [Nat.pow_succ] at hb; omega), tb_xor, ofNat_xor, ac]
theorem xor_lsb (r : Nat) : (r / 2 * 2) ^^^ (r % 2) = r := by
  refine Nat.eq_of_testBit_eq fun i => ?_
  rw [Nat.testBit_xor]
  cases i with
  | zero =>
    rcases Nat.mod_two_eq_zero_or_one r with h | h <;> simp [Nat.testBit_zero, h]
  | succ i =>
    rw [Nat.testBit_succ, Nat.testBit_succ, Nat.testBit_succ]
    rw [Nat.mul_div_cancel _ (by decide : 0 < 2)]
    rcases Nat.mod_two_eq_zero_or_one r with h | h <;> simp [h]
theorem pb_small : ∀ (k r : Nat), k ≤ 32 → r < 2 ^ k → pb r = BitVec.ofNat 32 r
  | 0, r, _, h => by
    have e : r = 0 := by simpa using h
    subst e
    exact pb_zero
  | k + 1, r, hk, h => by
    have h2 : r / 2 < 2 ^ k := by rw [Nat.pow_succ] at h; omega
    have h31 : (2 : Nat) ^ k ≤ 2 ^ 31 := Nat.pow_le_pow_right (by decide) (by omega)
    rw [pb_step, pb_small k (r / 2) (by omega) h2]
    have hm : (BitVec.ofNat 32 (r / 2)).msb = false := by
      rw [BitVec.msb_eq_decide, decide_eq_false_iff_not, BitVec.toNat_ofNat]
      rw [Nat.mod_eq_of_lt (by omega)]
      simp
      omega
    unfold tb
    rw [hm, if_neg (by decide), BitVec.xor_zero]
    have e : BitVec.ofNat 32 (r / 2) <<< 1 = BitVec.ofNat 32 (r / 2 * 2) := by
      refine BitVec.eq_of_toNat_eq ?_
      rw [BitVec.toNat_shiftLeft, Nat.shiftLeft_eq, BitVec.toNat_ofNat, BitVec.toNat_ofNat, Nat.mod_eq_of_lt (show r / 2 < 2 ^ 32 by omega)]
    rw [e, ← ofNat_xor, xor_lsb]
theorem pb_cat (m : Nat) : ∀ (k r : Nat), r < 2 ^ k → pb (m * 2 ^ k + r) = it k (pb m) ^^^ pb r
  | 0, r, h => by
    have e : r = 0 := by simpa using h
    subst e
    rw [pb_zero]
    simp [it]
  | k + 1, r, h => by
    have h2 : r / 2 < 2 ^ k := by rw [Nat.pow_succ] at h; omega
    have e : m * 2 ^ (k + 1) = 2 * (m * 2 ^ k) := by rw [Nat.pow_succ, ← Nat.mul_assoc, Nat.mul_comm]
    have d : (m * 2 ^ (k + 1) + r) / 2 = m * 2 ^ k + r / 2 := by rw [e]; omega
    have q : (m * 2 ^ (k + 1) + r) % 2 = r % 2 := by rw [e]; omega
    rw [pb_step, d, q, pb_cat m k (r / 2) h2, tb_xor, BitVec.xor_assoc, ← pb_step]
    rfl
/-- octets, the first one the highest -/
def whole (l : List Nat) : Nat := l.foldl (fun s o => s * 256 + o) 0
def st (s : B32) (o : Nat) : B32 := it 8 (s ^^^ (BitVec.ofNat 32 o <<< 24))
def crc (l : List Nat) : B32 := l.foldl st 0#32
theorem up24 : ∀ o < 256, it 24 (BitVec.ofNat 32 o) = BitVec.ofNat 32 o <<< 24 := by decide +kernel
theorem st_it (s : B32) {o : Nat} (h : o < 256) : st (it 32 s) o = it 32 (it 8 s ^^^ BitVec.ofNat 32 o) := by
  unfold st
  rw [it_xor, it_xor, ← it_add, ← it_add, ← up24 o h, ← it_add]
theorem crc_go : ∀ (l : List Nat) (m : Nat), (∀ o ∈ l, o < 256) → l.foldl st (it 32 (pb m)) = it 32 (pb (l.foldl (fun s o => s * 256 + o) m))
  | [], m, _ => rfl
  | o :: l, m, h => by
    have ho := h o List.mem_cons_self
    have e : pb (m * 256 + o) = it 8 (pb m) ^^^ BitVec.ofNat 32 o := by
      rw [← pb_small 8 o (by decide) ho]
      exact pb_cat m 8 o ho
    rw [List.foldl_cons, List.foldl_cons, st_it _ ho, ← e]
    exact crc_go l _ fun o' h' => h o' (List.mem_cons_of_mem _ h')
theorem crc_eq {l : List Nat} (h : ∀ o ∈ l, o < 256) : crc l = it 32 (pb (whole l)) := by
  have e := crc_go l 0 h
  rw [pb_zero, it_zero] at e
  exact e
/-- another sum behind a burst -/
theorem crc_ne {l l' : List Nat} {D k : Nat} (h : ∀ o ∈ l, o < 256) (h' : ∀ o ∈ l', o < 256) (e : whole l' = whole l ^^^ D) (hk : whole l < 2 ^ k) (hD : D < 2 ^ k) (hn : pb D ≠ 0#32) : crc l' ≠ crc l := by
  intro c
  rw [crc_eq h, crc_eq h', e, pb_xor k _ _ hk hD, it_xor] at c
  have z : it 32 (pb D) = 0#32 := by
    have := congrArg (fun x => it 32 (pb (whole l)) ^^^ x) c
    simp only [← BitVec.xor_assoc, BitVec.xor_self, BitVec.zero_xor] at this
    exact this
  exact hn (it_inj 32 z)
theorem pb_burst {b s : Nat} (h0 : b ≠ 0) (h : b < 2 ^ 32) : pb (b * 2 ^ s) ≠ 0#32 := by
  intro c
  have e := pb_cat b s 0 (Nat.two_pow_pos s)
  rw [Nat.add_zero, pb_zero, BitVec.xor_zero, pb_small 32 b (Nat.le_refl _) h] at e
  rw [e] at c
  have z := congrArg BitVec.toNat (it_inj s c)
  rw [BitVec.toNat_ofNat, Nat.mod_eq_of_lt h] at z
  exact h0 z
theorem pb_low {D : Nat} (h0 : D ≠ 0) (h : D < 2 ^ 32) : pb D ≠ 0#32 := by
  have := pb_burst (s := 0) h0 h
  simpa using this
/-! ### the two ways to reckon it -/
theorem tb_nat (s : B32) : (tb s).toNat = if 4294967296 ≤ s.toNat * 2 then (s.toNat * 2 - 4294967296) ^^^ 79764919 else s.toNat * 2 := by
  have hs := s.isLt
  have hm := BitVec.msb_eq_decide s
  unfold tb
  by_cases h : 2147483648 ≤ s.toNat
  · have m1 : s.msb = true := by
      rw [hm]
      exact decide_eq_true h
    rw [m1, if_pos rfl, if_pos (by omega), BitVec.toNat_xor, BitVec.toNat_shiftLeft, Nat.shiftLeft_eq, show s.toNat * 2 ^ 1 % 2 ^ 32 = s.toNat * 2 - 4294967296 by omega]
    rfl
  · have m1 : s.msb = false := by
      rw [hm]
      exact decide_eq_false h
    rw [m1, if_neg Bool.false_ne_true, if_neg (by omega), BitVec.xor_zero, BitVec.toNat_shiftLeft, Nat.shiftLeft_eq]
    omega
def REM : List Nat := [0, 79764919, 159529838, 222504665, 319059676, 398814059, 445009330, 507990021, 638119352, 583659535, 797628118, 726387553, 890018660, 835552979, 1015980042, 944750013]
theorem rem_len : REM.length = 16 := rfl
theorem rem_up : ∀ h < 16, it 4 (BitVec.ofNat 32 (h * 268435456)) = BitVec.ofNat 32 (REM.getD h 0) := by decide +kernel
theorem low_up {l : Nat} (h : l < 268435456) : it 4 (BitVec.ofNat 32 l) = BitVec.ofNat 32 (l * 16) := by
  have e : pb (l * 2 ^ 4 + 0) = it 4 (pb l) ^^^ pb 0 := pb_cat l 4 0 (by decide)
  rw [pb_zero, BitVec.xor_zero, pb_small 28 l (by decide) h, Nat.add_zero, pb_small 32 _ (Nat.le_refl _) (by omega)] at e
  exact e.symm
theorem split28 (s : Nat) : (s / 268435456 * 268435456) ^^^ (s % 268435456) = s := by
  refine Nat.eq_of_testBit_eq fun i => ?_
  have e1 : s / 268435456 * 268435456 = (s >>> 28) <<< 28 := by rw [Nat.shiftRight_eq_div_pow, Nat.shiftLeft_eq]
  have e2 : s % 268435456 = s % 2 ^ 28 := rfl
  rw [Nat.testBit_xor, e1, e2, Nat.testBit_shiftLeft, Nat.testBit_shiftRight, Nat.testBit_mod_two_pow]
  by_cases h : i < 28
  · simp [h, Nat.not_le.mpr h]
  · have h' : 28 ≤ i := by omega
    simp [h, h', Nat.add_sub_cancel' h']
theorem rem_nat (s : B32) : (it 4 s).toNat = (s.toNat % 268435456 * 16) ^^^ REM.getD (s.toNat / 268435456) 0 := by
  have hs := s.isLt
  have e : s = BitVec.ofNat 32 (s.toNat / 268435456 * 268435456) ^^^ BitVec.ofNat 32 (s.toNat % 268435456) := by
    rw [← ofNat_xor, split28, BitVec.ofNat_toNat, BitVec.setWidth_eq]
  conv => lhs; rw [e]
  rw [it_xor, rem_up _ (by omega), low_up (by omega), ← ofNat_xor, BitVec.toNat_ofNat, Nat.xor_comm]
  have hr : ∀ h < 16, REM.getD h 0 < 2 ^ 32 := by decide +kernel
  exact Nat.mod_eq_of_lt (Nat.xor_lt_two_pow (by omega) (hr _ (by omega)))
theorem st_nat (s : B32) {o : Nat} (h : o < 256) : (s ^^^ (BitVec.ofNat 32 o <<< 24)).toNat = s.toNat ^^^ (o * 16777216) := by
  rw [BitVec.toNat_xor, BitVec.toNat_shiftLeft, BitVec.toNat_ofNat, Nat.shiftLeft_eq, Nat.mod_eq_of_lt (show o < 2 ^ 32 by omega), Nat.mod_eq_of_lt (by omega)]
/-! ### octets of a number -/
def octs (m n : Nat) : List Nat := (List.range n).map fun k => m / 2 ^ (8 * (n - 1 - k)) % 256
theorem octs_lt {m n o : Nat} (h : o ∈ octs m n) : o < 256 := by
  obtain ⟨k, _, rfl⟩ := List.mem_map.mp h
  omega
theorem whole_octs (m : Nat) : ∀ n, m < 256 ^ n → whole (octs m n) = m := by
  have go : ∀ j n, j ≤ n → whole ((List.range j).map fun k => m / 2 ^ (8 * (n - 1 - k)) % 256) = m / 256 ^ (n - j) % 256 ^ j := by
    intro j
    induction j with
    | zero => intro n _; simp [whole, Nat.mod_one]
    | succ j ih =>
      intro n hj
      rw [List.range_succ, List.map_append]
      unfold whole
      rw [List.foldl_append]
      show whole _ * 256 + m / 2 ^ (8 * (n - 1 - j)) % 256 = _
      rw [ih n (by omega)]
      have e1 : (2 : Nat) ^ (8 * (n - 1 - j)) = 256 ^ (n - (j + 1)) := by
        rw [Nat.pow_mul]
        congr 1
        omega
      have e2 : n - j = (n - (j + 1)) + 1 := by omega
      rw [e1, e2, Nat.pow_succ, ← Nat.div_div_eq_div_mul]
      generalize m / 256 ^ (n - (j + 1)) = x
      rw [Nat.pow_succ, Nat.mul_comm (256 ^ j) 256, Nat.mod_mul]
      omega
  intro n h
  have := go n n (Nat.le_refl _)
  rw [Nat.sub_self, Nat.pow_zero, Nat.div_one, Nat.mod_eq_of_lt h] at this
  exact this
theorem whole_lt : ∀ (l : List Nat), (∀ o ∈ l, o < 256) → whole l < 256 ^ l.length := by
  have go : ∀ (l : List Nat) (m j : Nat), (∀ o ∈ l, o < 256) → m < 256 ^ j → l.foldl (fun s o => s * 256 + o) m < 256 ^ (j + l.length) := by
    intro l
    induction l with
    | nil => intro m j _ h; exact h
    | cons o l ih =>
      intro m j h hm
      rw [List.foldl_cons, List.length_cons, show j + (l.length + 1) = (j + 1) + l.length by omega]
      refine ih _ _ (fun o' h' => h o' (List.mem_cons_of_mem _ h')) ?_
      have := h o List.mem_cons_self
      rw [Nat.pow_succ]
      omega
  intro l h
  have := go l 0 0 h (by decide)
  rwa [Nat.zero_add] at this
theorem whole_inj : ∀ (l l' : List Nat) (m m' : Nat), l.length = l'.length → (∀ o ∈ l, o < 256) → (∀ o ∈ l', o < 256) → l.foldl (fun s o => s * 256 + o) m = l'.foldl (fun s o => s * 256 + o) m' → m = m' ∧ l = l'
  | [], [], m, m', _, _, _, h => ⟨h, rfl⟩
  | [], o :: l', m, m', h, _, _, _ => by cases h
  | o :: l, [], m, m', h, _, _, _ => by cases h
  | o :: l, o' :: l', m, m', h, h1, h2, e => by
    have a := h1 o List.mem_cons_self
    have b := h2 o' List.mem_cons_self
    have ih := whole_inj l l' (m * 256 + o) (m' * 256 + o') (by simpa using h) (fun x hx => h1 x (List.mem_cons_of_mem _ hx)) (fun x hx => h2 x (List.mem_cons_of_mem _ hx)) e
    obtain ⟨e1, rfl⟩ := ih
    have e2 : o = o' := by omega
    subst e2
    exact ⟨by omega, rfl⟩
structure Tx (K : PySem.W.Frag) (mg : Str → Option Value) (aR : Addr) : Prop where
  z_len : mg "len" = none
  z_int : mg "int" = none
  z_range : mg "range" = none
  z_isinstance : mg "isinstance" = none
  z_bool : mg "bool" = none
  z_list : mg "list" = none
  z_max : mg "max" = none
  z_abs : mg "abs" = none
  g_REMAINDERS : ∃ u, mg "REMAINDERS" = some u ∧ RelV (.ref aR) u
  t_REMAINDERS : ∀ H, SqT K H aR (REM.map fun n : Nat => V.int (n : Int))
def octV (os : List Nat) : List V := (os.map fun o : Nat => (o : Int)).map V.int
theorem octV_len (os : List Nat) : (octV os).length = os.length := by
  unfold octV
  rw [List.length_map, List.length_map]
theorem octV_at {os : List Nat} {i : Nat} {x : V} (h : (octV os)[i]? = some x) : ∃ o, os[i]? = some o ∧ x = .int (o : Int) := by
  unfold octV at h
  rw [List.map_map, List.getElem?_map] at h
  obtain ⟨o, ho, rfl⟩ := Option.map_eq_some_iff.mp h
  exact ⟨o, ho, rfl⟩
theorem take_at {os : List Nat} {i o : Nat} (h : os[i]? = some o) : os.take (i + 1) = os.take i ++ [o] := by
  rw [List.take_add_one, h]
  rfl
def spSum (K : PySem.W.Frag) : Sp := PV fun vs H z => ∃ (p : Addr) (os : List Nat), vs = [.ref p] ∧ SqL K H p (octV os) ∧ (∀ o ∈ os, o < 256) ∧ os.length ≤ 1000 ∧ z = .int ((crc os).toNat : Int)
section
variable {P : Program} {w : World} {K : PySem.W.Frag} {mg : Str → Option Value} {base : Heap} {aR : Addr}
def spCell (K : PySem.W.Frag) : Sp := PV fun vs H z => ∃ (p : Addr) (ns : List Int) (k : Int), vs = [.ref p, .int k] ∧ SqL K H p (ns.map V.int) ∧ 0 ≤ k ∧ z = .int (ns.getD k.toNat 0)
theorem ok_cell (D : Def K mg "_law_cell" s__law_cell ["script", "k"]) (T : Tx K mg aR) : Cal CX0 P w K mg base 1 "_law_cell" (spCell K) := by
  refine cal0 D sc__law_cell (fun vs H Q E h => ?_) (fun f cdv A outer s H vs Q E hr h => ?_)
  · obtain ⟨_, ⟨_, _, _, rfl, _⟩, _⟩ := h
    rfl
  obtain ⟨_, ⟨p, ns, k, rfl, hS, hk, rfl⟩, q⟩ := h
  refine ⟨_, (pss_cons (ps_if (pt_cmpR op_lt (pv 1) (pe_callB call_len_seq (by rfl) T.z_len PySem.boot_len (pa_cons (pv 0) pa_nil)) (nomark _))
      (pss_cons (ps_ret (pe_callTy call_int1 (by rfl) T.z_int (by decide +kernel) (pa_cons (pe_ix ix_list (pv 0) (pv 1) (fun _ _ => rfl)) pa_nil))) pss_nil)
      pss_nil)
    (pss_cons (ps_ret pe_int) pss_nil)), R.go ?_⟩
  refine r_when (et_test (ev_op (ev_var rfl) (ev_len (ev_var rfl) hS) rv_cmp)) (fun hb => ?_) (fun hb => ?_)
  · have hlt : k < (ns.length : Int) := by
      rw [List.length_map] at hb
      simpa using hb
    exact r_ret (ev_int (ev_op (ev_var rfl) (ev_var rfl) (rv_ixI hS hk hlt))) (fun H1 e1 => q H1 e1)
  · have hge : ns.length ≤ k.toNat := by
      rw [List.length_map] at hb
      simp at hb
      omega
    have e : ns.getD k.toNat 0 = 0 := by simp [List.getD, List.getElem?_eq_none hge]
    rw [e] at q
    exact r_ret ev_c (fun H1 e1 => q H1 e1)
theorem ok_row (D : Def K mg "_law_row" s__law_row ["cell", "count", "bound"]) (T : Tx K mg aR) : Cal CX0 P w K mg base 1 "_law_row" spDraw := by
  refine cal0 D sc__law_row (fun vs H Q E h => ?_) (fun f cdv A outer s H vs Q E hr h => ?_)
  · obtain ⟨_, ⟨c, m, b, rfl, _⟩, _⟩ := h
    rfl
  obtain ⟨_, ⟨c, m, b, rfl, hm0, hm1, hb0, hb1, rfl⟩, q⟩ := h
  refine ⟨_, (pss_cons (ps_set (i := 3) sc__law_row.nd rfl (.inl rfl) (pe_callB call_abs (by rfl) T.z_abs (by decide +kernel) (pa_cons (pe_callTy call_int1 (by rfl) T.z_int (by decide +kernel) (pa_cons (pv 0) pa_nil)) pa_nil)))
    (pss_cons (ps_set (i := 4) sc__law_row.nd rfl (.inl rfl) (pe_op op_add (pe_op op_mod (pe_callTy call_int1 (by rfl) T.z_int (by decide +kernel) (pa_cons (pv 0) pa_nil)) pe_int) pe_int))
    (pss_cons (ps_set (i := 5) sc__law_row.nd rfl (.inl rfl) (pe_lst pa_nil))
    (pss_cons (ps_for PassesOwn.never rfl (pi_range1 rfl T.z_range (pa_cons (pv 1) pa_nil)) (pg_name (i := 6) sc__law_row.nd rfl (.inl rfl))
      (pss_cons (ps_if (pt_cmpR op_ge (pv 3) (pv 2) (nomark _))
        (pss_cons (ps_expr (pe_bm PySem.F.plainAttrs_list PySem.F.slot_list_append PySem.F.type_list_append mt_append (pv 5) (pa_cons (pe_op op_mod (pe_callTy call_int1 (by rfl) T.z_int (by decide +kernel) (pa_cons (pv 3) pa_nil)) (pv 2)) pa_nil)))
        (pss_cons (ps_set (i := 3) sc__law_row.nd rfl (.inl rfl) (pe_op op_fdiv (pv 3) (pv 2))) pss_nil))
        (pss_cons (ps_set (i := 4) sc__law_row.nd rfl (.inl rfl) (pe_op op_mod (pe_callTy call_int1 (by rfl) T.z_int (by decide +kernel) (pa_cons (pe_op op_add (pe_op op_add (pe_op op_mul (pv 4) pe_int) (pe_op op_mul pe_int (pv 6))) pe_int) pa_nil)) pe_int))
        (pss_cons (ps_expr (pe_bm PySem.F.plainAttrs_list PySem.F.slot_list_append PySem.F.type_list_append mt_append (pv 5) (pa_cons (pe_op op_mod (pe_callTy call_int1 (by rfl) T.z_int (by decide +kernel) (pa_cons (pe_op op_fdiv (pe_op op_mul (pv 4) pe_int) pe_int) pa_nil)) (pv 2)) pa_nil))) pss_nil))) pss_nil))
    (pss_cons (ps_ret (pv 5)) pss_nil))))), R.go ?_⟩
  refine r_asg (ev_abs (ea_cons (ev_int (ev_var rfl)) ea_nil)) ?_
  refine r_asg (ev_op (ev_op (ev_int (ev_var rfl)) ev_c (rv_arC (by decide))) ev_c rv_ar) ?_
  refine r_asgN (en_lst ea_nil (by decide)) (fun p np => ?_)
  refine r_forR1 (ea_cons (ev_var rfl) ea_nil) ⟨hm0, by omega⟩ (fun i σ B => ∃ (x y : Int) (y6 : Option V), ∃ ns : List Int, σ = [some (.int c), some (.int m), some (.int b), some (.int x), some (.int y), some (.ref p), y6] ∧ Ex H B ∧ B p = some (.lst (ns.map V.int)) ∧ ns.length = i ∧ ∀ n ∈ ns, 0 ≤ n ∧ n < b)
    ⟨_, _, none, [], rfl, Ex.new np, upd_same, rfl, fun _ h => nomatch h⟩ (fun i σ B hi hI => ?_) (fun σ B hI => ?_)
  · obtain ⟨x, y, y6, ns, rfl, eB, hp, hl, hn⟩ := hI
    have more : ∀ z : Int, ∀ n ∈ ns ++ [z % b], 0 ≤ n ∧ n < b := fun z n h => by
      rcases List.mem_append.mp h with h | h
      · exact hn n h
      · rw [List.mem_singleton.mp h]
        exact ⟨Int.emod_nonneg _ (by omega), Int.emod_lt_of_pos _ hb0⟩
    refine r_if (et_test (ev_op (ev_var rfl) (ev_var rfl) rv_cmp)) (fun hb => ?_) (fun hb => ?_)
    · refine r_app hp (ev_var rfl) (ev_op (ev_int (ev_var rfl)) (ev_var rfl) (rv_arC hb0)) (by rw [List.length_map]; omega) ?_
      refine r_asg (ev_op (ev_var rfl) (ev_var rfl) (rv_arC ⟨hb0, hb1⟩)) ?_
      refine r_on (r_up ⟨_, _, _, ns ++ [x % b], rfl, Ex.mut eB np, ?_, ?_, more x⟩)
      · rw [upd_same, List.map_append]
        rfl
      · rw [List.length_append, hl]
        rfl
    · refine r_asg (ev_op (ev_int (ev_op (ev_op (ev_op (ev_var rfl) ev_c (rv_arC (.inr ⟨by decide, by decide⟩))) (ev_op ev_c (ev_var rfl) (rv_arC (.inl ⟨by decide, by decide⟩))) rv_ar) ev_c rv_ar)) ev_c (rv_arC (by decide))) ?_
      refine r_app hp (ev_var rfl) (ev_op (ev_int (ev_op (ev_op (ev_var rfl) ev_c (rv_arC (.inr ⟨by decide, by decide⟩))) ev_c (rv_arC ⟨by decide, by decide⟩))) (ev_var rfl) (rv_arC hb0)) (by rw [List.length_map]; omega) ?_
      refine r_on (r_up ⟨_, _, _, ns ++ [_], rfl, Ex.mut eB np, by rw [upd_same, List.map_append]; rfl, ?_, more _⟩)
      rw [List.length_append, hl]
      rfl
  · obtain ⟨x, y, y6, ns, rfl, eB, hp, hl, hn⟩ := hI
    refine r_ret (ev_var rfl) (fun H1 e1 => ?_)
    exact q p H1 _ np (eB.trans e1) (e1 p _ hp) ⟨ns, rfl, by omega, hn⟩
theorem kit_ii : PySem.W.kitOne K (.type "int") (.type "int") = some true := rfl
theorem kit_ib : PySem.W.kitOne K (.type "int") (.type "bool") = some false := rfl
theorem kit_ll : PySem.W.kitOne K (.type "list") (.type "list") = some true := rfl
def spIsInt : Sp := PV fun vs _ z => ∃ n : Int, vs = [.int n] ∧ z = .bl true
theorem ok_isint (D : Def K mg "_law_integer" s__law_integer ["value"]) (T : Tx K mg aR) : Cal CX0 P w K mg base 1 "_law_integer" spIsInt := by
  refine cal0 D sc__law_integer (fun vs H Q E h => ?_) (fun f cdv A outer s H vs Q E hr h => ?_)
  · obtain ⟨_, ⟨n, rfl, _⟩, _⟩ := h
    rfl
  obtain ⟨_, ⟨n, rfl, rfl⟩, q⟩ := h
  refine ⟨_, (pss_cons (ps_ret (pe_and (pe_callB call_isi (by rfl) T.z_isinstance (by decide +kernel) (pa_cons (pv 0) (pa_cons (pe_bltn (v := .ty "int") (by rfl) T.z_int (by decide +kernel) rfl) pa_nil))) (pe_one (pe_not (pe_callB call_isi (by rfl) T.z_isinstance (by decide +kernel) (pa_cons (pv 0) (pa_cons (pe_bltn (v := .ty "bool") (by rfl) T.z_bool (by decide +kernel) rfl) pa_nil))))))) pss_nil), R.go ?_⟩
  refine r_ret (ev_andV (ev_isi (ea_cons (ev_var rfl) (ea_cons ev_c ea_nil)) (.ty "int") (fun _ _ => .base (.int _)) kit_ii) (fun hb => (ev_notV (ev_isi (ea_cons (ev_var rfl) (ea_cons ev_c ea_nil)) (.ty "bool") (fun _ _ => .base (.int _)) kit_ib)))) (fun H1 e1 => ?_)
  exact q H1 e1

theorem rem_at {j : Nat} (h : j < 16) : atI (REM.map fun n : Nat => V.int (n : Int)) (j : Int) = some (.int ((REM.getD j 0 : Nat) : Int)) := by
  refine atI_nat (j := j) ?_
  have hj : j < REM.length := h
  rw [List.getElem?_map, List.getElem?_eq_getElem hj]
  simp [List.getD, List.getElem?_eq_getElem hj]
theorem ok_sum (D : Def K mg "sum_of" s_sum_of ["octets"]) (T : Tx K mg aR) : Cal CX0 P w K mg base 1 "sum_of" (spSum K) := by
  refine cal0 D sc_sum_of (fun vs H Q E h => ?_) (fun f cdv A outer s H vs Q E hr h => ?_)
  · obtain ⟨_, ⟨_, _, rfl, _⟩, _⟩ := h
    rfl
  obtain ⟨_, ⟨p, os, rfl, hS, ho, hl, rfl⟩, q⟩ := h
  refine ⟨_, (pss_cons (ps_set (i := 1) sc_sum_of.nd rfl (.inl rfl) pe_int)
    (pss_cons (ps_for PassesOwn.never rfl (pi_list (pv 0)) (pg_name (i := 2) sc_sum_of.nd rfl (.inl rfl))
      (pss_cons (ps_set (i := 1) sc_sum_of.nd rfl (.inl rfl) (pe_op op_xor (pv 1) (pe_op op_shl (pv 2) pe_int)))
      (pss_cons (ps_for PassesOwn.never rfl (pi_range1 rfl T.z_range (pa_cons pe_int pa_nil)) (pg_name (i := 3) sc_sum_of.nd rfl (.inl rfl))
        (pss_cons (ps_set (i := 1) sc_sum_of.nd rfl (.inl rfl) (pe_op op_xor (pe_op op_shl (pe_op op_and (pv 1) pe_int) pe_int) (pe_ix ix_tup (pe_gc (by rfl) T.g_REMAINDERS) (pe_op op_shr (pv 1) pe_int) (fun _ _ => rfl)))) pss_nil)) pss_nil)))
    (pss_cons (ps_ret (pv 1)) pss_nil))), R.go ?_⟩
  refine r_asg ev_c ?_
  refine r_forL (ev_var rfl) hS (fun i σ B => ∃ y2 y3, σ = [some (.ref p), some (.int ((crc (os.take i)).toNat : Int)), y2, y3] ∧ Ex H B) ⟨none, none, rfl, Ex.refl _⟩ (fun i σ B _ hI => ?_) (fun i x σ B hx hI => ?_) (fun σ B hI => ?_)
  · obtain ⟨_, _, _, eB⟩ := hI
    exact ex_l eB hS
  · obtain ⟨y2, y3, rfl, eB⟩ := hI
    obtain ⟨o, hi, rfl⟩ := octV_at hx
    have ho1 := ho o (List.mem_of_getElem? hi)
    have ec : crc (os.take (i + 1)) = it 8 (crc (os.take i) ^^^ (BitVec.ofNat 32 o <<< 24)) := by
      rw [take_at hi]
      unfold crc
      rw [List.foldl_append]
      rfl
    generalize crc (os.take i) = s at *
    refine r_asg (v := .int ((s ^^^ (BitVec.ofNat 32 o <<< 24)).toNat : Int)) (by
      rw [st_nat s ho1]
      exact ev_op (ev_var rfl) (ev_op (ev_var rfl) ev_c (rv_shlN 24 rfl (by decide) (by omega))) rv_xorN) ?_
    generalize s ^^^ (BitVec.ofNat 32 o <<< 24) = s at *
    refine r_forR1 (ea_cons ev_c ea_nil) ⟨by decide, by decide⟩ (fun j σ B => ∃ y3, σ = [some (.ref p), some (.int ((it (4 * j) s).toNat : Int)), some (.int (o : Int)), y3] ∧ Ex H B) ⟨y3, rfl, eB⟩ (fun j σ B hj hI => ?_) (fun σ B hI => ?_)
    · obtain ⟨y3, rfl, eB⟩ := hI
      have e4 : it (4 * (j + 1)) s = it 4 (it (4 * j) s) := by
        rw [← it_add]
        congr 1
        omega
      refine r_asg (v := .int ((it (4 * (j + 1)) s).toNat : Int)) ?_ (r_up ⟨_, rfl, eB⟩)
      rw [e4, rem_nat]
      generalize it (4 * j) s = u at *
      have hu := u.isLt
      exact ev_op (ev_op (ev_op (ev_var rfl) ev_c (rv_andM 28 rfl)) ev_c (rv_shlN 4 rfl (by decide) (by omega))) (ev_op ev_c (ev_op (ev_var rfl) ev_c (rv_shrN 28 rfl)) (rv_ixT (T.t_REMAINDERS _) (rem_at (by omega)))) rv_xorN
    · obtain ⟨y3, rfl, eB⟩ := hI
      exact r_up ⟨_, _, by rw [ec]; rfl, eB⟩
  · obtain ⟨y2, y3, rfl, eB⟩ := hI
    rw [octV_len, List.take_length]
    exact r_ret (ev_var rfl) (fun H1 e1 => q H1 (eB.trans e1))
theorem ok_lsum (D : Def K mg "_law_sum" s__law_sum ["octets"]) (T : Tx K mg aR) : Cal CX0 P w K mg base 1 "_law_sum" (spSum K) := by
  refine cal0 D sc__law_sum (fun vs H Q E h => ?_) (fun f cdv A outer s H vs Q E hr h => ?_)
  · obtain ⟨_, ⟨_, _, rfl, _⟩, _⟩ := h
    rfl
  obtain ⟨_, ⟨p, os, rfl, hS, ho, hl, rfl⟩, q⟩ := h
  refine ⟨_, (pss_cons (ps_set (i := 1) sc__law_sum.nd rfl (.inl rfl) pe_int)
    (pss_cons (ps_for PassesOwn.never rfl (pi_list (pv 0)) (pg_name (i := 2) sc__law_sum.nd rfl (.inl rfl))
      (pss_cons (ps_set (i := 1) sc__law_sum.nd rfl (.inl rfl) (pe_op op_xor (pv 1) (pe_op op_shl (pv 2) pe_int)))
      (pss_cons (ps_for PassesOwn.never rfl (pi_range1 rfl T.z_range (pa_cons pe_int pa_nil)) (pg_name (i := 3) sc__law_sum.nd rfl (.inl rfl))
        (pss_cons (ps_set (i := 1) sc__law_sum.nd rfl (.inl rfl) (pe_op op_mul (pv 1) pe_int))
        (pss_cons (ps_if (pt_cmpR op_ge (pv 1) pe_int (nomark _))
          (pss_cons (ps_set (i := 1) sc__law_sum.nd rfl (.inl rfl) (pe_op op_xor (pe_op op_sub (pv 1) pe_int) pe_int)) pss_nil)
          pss_nil) pss_nil))) pss_nil)))
    (pss_cons (ps_ret (pv 1)) pss_nil))), R.go ?_⟩
  refine r_asg ev_c ?_
  refine r_forL (ev_var rfl) hS (fun i σ B => ∃ y2 y3, σ = [some (.ref p), some (.int ((crc (os.take i)).toNat : Int)), y2, y3] ∧ Ex H B) ⟨none, none, rfl, Ex.refl _⟩ (fun i σ B _ hI => ?_) (fun i x σ B hx hI => ?_) (fun σ B hI => ?_)
  · obtain ⟨_, _, _, eB⟩ := hI
    exact ex_l eB hS
  · obtain ⟨y2, y3, rfl, eB⟩ := hI
    obtain ⟨o, hi, rfl⟩ := octV_at hx
    have ho1 := ho o (List.mem_of_getElem? hi)
    have ec : crc (os.take (i + 1)) = it 8 (crc (os.take i) ^^^ (BitVec.ofNat 32 o <<< 24)) := by
      rw [take_at hi]
      unfold crc
      rw [List.foldl_append]
      rfl
    generalize crc (os.take i) = s at *
    refine r_asg (v := .int ((s ^^^ (BitVec.ofNat 32 o <<< 24)).toNat : Int)) (by
      rw [st_nat s ho1]
      exact ev_op (ev_var rfl) (ev_op (ev_var rfl) ev_c (rv_shlN 24 rfl (by decide) (by omega))) rv_xorN) ?_
    generalize s ^^^ (BitVec.ofNat 32 o <<< 24) = s at *
    refine r_forR1 (ea_cons ev_c ea_nil) ⟨by decide, by decide⟩ (fun j σ B => ∃ y3, σ = [some (.ref p), some (.int ((it j s).toNat : Int)), some (.int (o : Int)), y3] ∧ Ex H B) ⟨y3, rfl, eB⟩ (fun j σ B hj hI => ?_) (fun σ B hI => ?_)
    · obtain ⟨y3, rfl, eB⟩ := hI
      have e1 : (it (j + 1) s).toNat = _ := tb_nat (it j s)
      generalize it j s = u at *
      have hu := u.isLt
      refine r_asg (v := .int ((u.toNat * 2 : Nat) : Int)) (by
        rw [Int.natCast_mul]
        exact ev_op (ev_var rfl) ev_c (rv_arC (.inr ⟨by decide, by decide⟩))) ?_
      refine r_when (et_test (ev_op (ev_var rfl) ev_c rv_cmp)) (fun hb => ?_) (fun hb => ?_)
      · have hb' : 4294967296 ≤ u.toNat * 2 := by
          have : (4294967296 : Int) ≤ ((u.toNat * 2 : Nat) : Int) := by simpa using hb
          omega
        rw [if_pos hb'] at e1
        refine r_asg (v := .int ((it (j + 1) s).toNat : Int)) (by
          rw [e1]
          refine ev_op (x := .int ((u.toNat * 2 - 4294967296 : Nat) : Int)) (by
            rw [Int.natCast_sub hb']
            exact ev_op (ev_var rfl) ev_c rv_ar) ev_c rv_xorN) (r_on (r_up ⟨_, rfl, eB⟩))
      · have hb' : ¬ 4294967296 ≤ u.toNat * 2 := by
          intro h
          have : (4294967296 : Int) ≤ ((u.toNat * 2 : Nat) : Int) := by omega
          simp at hb
          omega
        rw [if_neg hb'] at e1
        exact r_up ⟨_, by rw [e1]; rfl, eB⟩
    · obtain ⟨y3, rfl, eB⟩ := hI
      exact r_up ⟨_, _, by rw [ec]; rfl, eB⟩
  · obtain ⟨y2, y3, rfl, eB⟩ := hI
    rw [octV_len, List.take_length]
    exact r_ret (ev_var rfl) (fun H1 e1 => q H1 (eB.trans e1))
def spLaw (K : PySem.W.Frag) : Sp := PV fun vs H z => ∃ (a : Addr) (ns : List Int), vs = [.ref a] ∧ SqL K H a (ns.map V.int) ∧ ns.length ≤ 63 ∧ z = .bl true
theorem octV_inj {os ts : List Nat} (h : os.map (fun o : Nat => (o : Int)) = ts.map fun o : Nat => (o : Int)) : os = ts := by
  refine List.map_inj_right (fun a b e => ?_) |>.mp h
  exact Int.ofNat.inj e
theorem dpa_oct {H : Hp} (os : List Nat) : DpAll K H (octV os) ((os.map fun o : Nat => (o : Int)).map PyData.int) := dpa_ints _
theorem ok_law {f : Addr} {fd : FuncData} (F : Fun K "law" "law" s_law f fd) (T : Tx K mg aR) (c_sum_of : Cal CX0 P w K mg base 1 "sum_of" (spSum K)) (c__law_cell : Cal CX0 P w K mg base 1 "_law_cell" (spCell K))
    (c__law_row : Cal CX0 P w K mg base 1 "_law_row" spDraw) (c__law_integer : Cal CX0 P w K mg base 1 "_law_integer" spIsInt) (c__law_sum : Cal CX0 P w K mg base 1 "_law_sum" (spSum K)) : FnOk P w K mg base CX0 2 f fd ["script"] (spLaw K) := by
  refine F.ok sc_law (fun vs H Q E h => ?_) (fun cdv A outer s H vs Q E hr h => ?_)
  · obtain ⟨_, ⟨a, ns, rfl, _⟩, _⟩ := h
    rfl
  obtain ⟨_, ⟨a, ns, rfl, hS, hl, rfl⟩, q⟩ := h
  refine ⟨_, (pss_cons (ps_set (i := 1) sc_law.nd rfl (.inl rfl) (pe_c c__law_cell hr (by decide) (by rfl) (pa_cons (pv 0) (pa_cons pe_int pa_nil))))
    (pss_cons (ps_set (i := 2) sc_law.nd rfl (.inr rfl) (pe_c c__law_row hr (by decide) (by rfl) (pa_cons (pe_c c__law_cell hr (by decide) (by rfl) (pa_cons (pv 0) (pa_cons pe_int pa_nil))) (pa_cons (pe_op op_mod (pv 1) pe_int) (pa_cons pe_int pa_nil)))))
    (pss_cons (ps_set (i := 3) sc_law.nd rfl (.inl rfl) (pe_callTy call_list_of (by rfl) T.z_list (by decide +kernel) (pa_cons (pv 2) pa_nil)))
    (pss_cons (ps_set (i := 4) sc_law.nd rfl (.inl rfl) (pe_c c_sum_of hr (by decide) (by rfl) (pa_cons (pv 3) pa_nil)))
    (pss_cons (ps_if (pw_or (pt_not (pt_val (pe_c c__law_integer hr (by decide) (by rfl) (pa_cons (pv 4) pa_nil)))) (pw_or (pt_cmpR op_ne (pv 4) (pe_c c__law_sum hr (by decide) (by rfl) (pa_cons (pv 2) pa_nil)) (nomark _)) (pw_or1 (pt_cmpR (op_neD (hu64 hr)) (pv 3) (pv 2) (nomark _))))).pt
      (pss_cons (ps_ret pe_bl) pss_nil)
      pss_nil)
    (pss_cons (ps_if (pt_cmpR (op_eqD (hu64 hr)) (pv 2) (pe_lst pa_nil) (nomark _))
      (pss_cons (ps_ret (pe_cmpR op_eq (pv 4) pe_int (nomark _))) pss_nil)
      pss_nil)
    (pss_cons (ps_set (i := 5) sc_law.nd rfl (.inl rfl) (pe_op op_add pe_int (pe_op op_mod (pe_c c__law_cell hr (by decide) (by rfl) (pa_cons (pv 0) (pa_cons pe_int pa_nil))) pe_int)))
    (pss_cons (ps_set (i := 6) sc_law.nd rfl (.inl rfl) (pe_op op_mod (pe_c c__law_cell hr (by decide) (by rfl) (pa_cons (pv 0) (pa_cons pe_int pa_nil))) (pe_op op_mul pe_int (pe_callB call_len_seq (by rfl) T.z_len PySem.boot_len (pa_cons (pv 2) pa_nil)))))
    (pss_cons (ps_set (i := 7) sc_law.nd rfl (.inl rfl) pe_int)
    (pss_cons (ps_for PassesOwn.never rfl (pi_list (pv 2)) (pg_name (i := 8) sc_law.nd rfl (.inl rfl))
      (pss_cons (ps_set (i := 7) sc_law.nd rfl (.inl rfl) (pe_op op_add (pe_op op_mul (pv 7) pe_int) (pv 8))) pss_nil))
    (pss_cons (ps_set (i := 9) sc_law.nd rfl (.inl rfl) (pe_bits (pv 5)))
    (pss_cons (ps_set (i := 10) sc_law.nd rfl (.inl rfl) (pe_callB (call_max2 rfl) (by rfl) T.z_max (by decide +kernel) (pa_cons pe_int (pa_cons (pe_op op_sub (pe_op op_sub (pe_op op_mul pe_int (pe_callB call_len_seq (by rfl) T.z_len PySem.boot_len (pa_cons (pv 2) pa_nil))) (pv 6)) (pv 9)) pa_nil))))
    (pss_cons (ps_set (i := 11) sc_law.nd rfl (.inr rfl) (pe_op op_xor (pv 7) (pe_op op_mod (pe_op op_shlW (pv 5) (pv 10)) (pe_op op_shlW pe_int (pe_op op_mul pe_int (pe_callB call_len_seq (by rfl) T.z_len PySem.boot_len (pa_cons (pv 2) pa_nil)))))))
    (pss_cons (ps_setLc (i := 12) (hsw := sw_true rfl rfl rfl (by decide +kernel)) (hy := rfl) (hyl := rfl) (own := [("k", 13)]) (g := gName 13) (tt := tYes) (hc := rfl) (hN := sc_law.nd) (hi := (pi_range1 rfl T.z_range (pa_cons (pe_callB call_len_seq (by rfl) T.z_len PySem.boot_len (pa_cons (pv 2) pa_nil)) pa_nil))) (ok := blkOk_by (N := ["script", "first", "octets", "given", "told", "burst", "at", "whole", "octet", "size", "shift", "changed", "others", "k"]) (sc := defScope s_law) (by decide +kernel)) (hg := fun _ _ _ _ _ => (pg_name (i := 13) sc_law.nd rfl (.inl rfl))) (ht := fun _ _ _ _ _ => pts_nil) (he := fun _ _ _ _ _ => (pe_op op_mod (pe_op op_fdivW (pv 11) (pe_op op_shlW pe_int (pe_op op_mul pe_int (pe_op op_sub (pe_op op_sub (pe_callB (call_len_seqK (K := K) (by rfl)) (by rfl) T.z_len PySem.boot_len (pa_cons (pv 2) pa_nil)) pe_int) (pv 13))))) pe_int)))
    (pss_cons (ps_if (pt_cmpR (op_eqD (hu64 hr)) (pv 12) (pv 2) (nomark _))
      (pss_cons (ps_ret (pe_cmpR op_eq (pe_c c_sum_of hr (by decide) (by rfl) (pa_cons (pv 12) pa_nil)) (pv 4) (nomark _))) pss_nil)
      pss_nil)
    (pss_cons (ps_ret (pe_and (pe_cmpR op_ne (pe_c c_sum_of hr (by decide) (by rfl) (pa_cons (pv 12) pa_nil)) (pv 4) (nomark _)) (pe_one (pe_cmpR op_eq (pe_c c_sum_of hr (by decide) (by rfl) (pa_cons (pv 12) pa_nil)) (pe_c c__law_sum hr (by decide) (by rfl) (pa_cons (pv 12) pa_nil)) (nomark _))))) pss_nil)))))))))))))))), R.go ?_⟩
  refine r_asg (ev_pv (ea_cons (ev_var rfl) (ea_cons ev_c ea_nil)) (fun H e => ⟨a, ns, 0, rfl, ex_l e hS, by decide, rfl⟩)) ?_
  generalize ns.getD (Int.toNat 0) 0 = first
  refine r_newd (en_pnd (ea_cons (ev_pv (ea_cons (ev_var rfl) (ea_cons ev_c ea_nil)) (fun H e => ⟨a, ns, 1, rfl, ex_l e hS, by decide, rfl⟩)) (ea_cons (ev_op (ev_var rfl) ev_c (rv_arC (by decide))) (ea_cons ev_c ea_nil))) (fun H _ => ⟨_, _, _, rfl, Int.emod_nonneg _ (by decide), by
    have := Int.emod_lt_of_pos first (show (0 : Int) < 61 by decide)
    show first % 61 ≤ 1000
    omega, by decide, by decide, rfl⟩)) (fun po B1 o hpo e1 ho hd => ?_)
  obtain ⟨ds, rfl, hdl, hds⟩ := hd
  obtain ⟨os, rfl, hos⟩ := nat_list hds
  have hm := Int.emod_lt_of_pos first (show (0 : Int) < 61 by decide)
  have hon : os.length ≤ 60 := by
    rw [List.length_map] at hdl
    omega
  have hlt : ∀ o ∈ os, o < 256 := fun o h => by
    have := hos o h
    omega
  clear hds hdl hm hos
  have hS1 := ex_l e1 hS
  have ho' : SqL K B1 po (octV os) := sq_of ho
  refine r_new (o := .lst (octV os)) (en_list (ev_var rfl) ho') (fun pg B2 hpg e2 hg => ?_)
  have ho2 := ex_l e2 ho'
  refine r_asg (ev_pv (ea_cons (ev_var rfl) ea_nil) (fun H e => ⟨pg, os, rfl, sq_of (e pg _ hg), hlt, by omega, rfl⟩)) ?_
  refine r_when (et_or (et_not (et_B (ev_pv (ea_cons (ev_var rfl) ea_nil) (fun H _ => ⟨_, rfl, rfl⟩)))) (fun hb => (et_or (et_test (ev_op (ev_var rfl) (ev_pv (ea_cons (ev_var rfl) ea_nil) (fun H e => ⟨po, os, rfl, ex_l e ho2, hlt, by omega, rfl⟩)) (rv_ne rfl))) (fun hb => (et_test (ev_neD (ed_ev (ev_var rfl) (.lst (sq_of hg) (dpa_oct _))) (ed_ev (ev_var rfl) (.lst ho2 (dpa_oct _))) (PySem.W.ke_shaped_ints _) (PySem.W.ke_shaped_ints _))))))) (fun hb => ?_) (fun hb => ?_)
  · exfalso
    rw [eqv_ints] at hb
    simp at hb
  clear hb
  refine r_when (et_test (ev_eqD (ed_ev (ev_var rfl) (.lst ho2 (dpa_oct _))) (ed_lst (ds := [].map PyData.int) (en_lst ea_nil (by decide)) .nil) (PySem.W.ke_shaped_ints _) (PySem.W.ke_shaped_ints []))) (fun hb => ?_) (fun hb => ?_)
  · rw [eqv_ints] at hb
    have h0 : os = [] := by simpa using hb
    subst h0
    refine r_ret (ev_op (ev_var rfl) ev_c (rv_eq rfl)) (fun H1 e3 => ?_)
    exact q H1 (e1.trans (e2.trans e3))
  rw [eqv_ints] at hb
  have hne : os ≠ [] := by simpa using hb
  clear hb
  have hpos : 0 < os.length := List.length_pos_iff.mpr hne
  have hS2 := ex_l e2 hS1
  have nb : ∃ b : Nat, 1 + ns.getD (Int.toNat 2) 0 % 4294967295 = (b : Int) ∧ b ≠ 0 ∧ b < 2 ^ 32 := by
    have h1 := Int.emod_nonneg (ns.getD (Int.toNat 2) 0) (show (4294967295 : Int) ≠ 0 by decide)
    have h2 := Int.emod_lt_of_pos (ns.getD (Int.toNat 2) 0) (show (0 : Int) < 4294967295 by decide)
    exact ⟨(1 + ns.getD (Int.toNat 2) 0 % 4294967295).toNat, by omega, by omega, by omega⟩
  obtain ⟨b, hb, hb0, hb1⟩ := nb
  refine r_asg (v := .int (b : Int)) (by
    rw [← hb]
    exact ev_op ev_c (ev_op (ev_pv (ea_cons (ev_var rfl) (ea_cons ev_c ea_nil)) (fun H e => ⟨a, ns, 2, rfl, ex_l e hS2, by decide, rfl⟩)) ev_c (rv_arC (by decide))) rv_ar) ?_
  clear hb
  have l8 : (8 : Int) * ((octV os).length : Int) = ((8 * os.length : Nat) : Int) := by
    rw [octV_len]
    push_cast
    rfl
  have na : ∃ at' : Nat, ns.getD (Int.toNat 3) 0 % ((8 * os.length : Nat) : Int) = (at' : Int) := by
    have h1 := Int.emod_nonneg (ns.getD (Int.toNat 3) 0) (show (((8 * os.length : Nat) : Int)) ≠ 0 by omega)
    exact ⟨(ns.getD (Int.toNat 3) 0 % ((8 * os.length : Nat) : Int)).toNat, by omega⟩
  obtain ⟨at', ha⟩ := na
  have ev8 : ∀ {σ : L2.St} {B : Hp} {te : TE}, Ev te σ B (.ref po) → Ex B2 B → Ev (tOp (rI CMul fun i j => .int (i * j)) (tC (.int 8)) (tCB (rLenS K) (tCons te tNil))) σ B (.int ((8 * os.length : Nat) : Int)) := fun h e => by
    rw [← l8]
    exact ev_op ev_c (ev_len h (ex_l e ho2)) (rv_arC (.inl ⟨by decide, by decide⟩))
  refine r_asg (v := .int (at' : Int)) (by
    rw [← ha]
    exact ev_op (ev_pv (ea_cons (ev_var rfl) (ea_cons ev_c ea_nil)) (fun H e => ⟨a, ns, 3, rfl, ex_l e hS2, by decide, rfl⟩)) (ev8 (ev_var rfl) (Ex.refl _)) (rv_arC (by omega))) ?_
  clear ha
  refine r_asg ev_c ?_
  have z0 : (0 : Int) = ((whole (os.take 0) : Nat) : Int) := rfl
  refine r_forL (ev_var rfl) ho2 (fun i σ B => ∃ y8, σ = [some (.ref a), some (.int first), some (.ref po), some (.ref pg), some (.int ((crc os).toNat : Int)), some (.int (b : Int)), some (.int (at' : Int)), some (.int ((whole (os.take i) : Nat) : Int)), y8, none, none, none, none, none] ∧ Ex B2 B) ⟨none, rfl, Ex.refl _⟩ (fun i σ B _ hI => ?_) (fun i x σ B hx hI => ?_) (fun σ B hI => ?_)
  · obtain ⟨_, _, eB⟩ := hI
    exact ex_l eB ho2
  · obtain ⟨y8, rfl, eB⟩ := hI
    obtain ⟨o, hi, rfl⟩ := octV_at hx
    have ew : whole (os.take (i + 1)) = whole (os.take i) * 256 + o := by
      rw [take_at hi]
      unfold whole
      rw [List.foldl_append]
      rfl
    refine r_asg (v := .int ((whole (os.take (i + 1)) : Nat) : Int)) ?_ (r_up ⟨_, rfl, eB⟩)
    rw [ew, Int.natCast_add, Int.natCast_mul]
    exact ev_op (ev_op (ev_var rfl) ev_c (rv_arC (.inr ⟨by decide, by decide⟩))) (ev_var rfl) rv_ar
  obtain ⟨y8, rfl, eB⟩ := hI
  rw [octV_len, List.take_length]
  have ho3 := ex_l eB ho2
  have hwl : whole os < 2 ^ (8 * os.length) := by
    rw [Nat.pow_mul]
    exact whole_lt os hlt
  refine r_asg (ev_bits (ev_var rfl)) ?_
  have hbl : b < 2 ^ Builtin.Int.intBits (b : Int) := bits_lt
  have hb32 : Builtin.Int.intBits (b : Int) ≤ 32 := PyProof.Rows.intBits_le (by rw [Int.natAbs_natCast]; exact hb1)
  generalize Builtin.Int.intBits (b : Int) = sz at *
  have nsh : ∃ sh : Nat, (if ((8 * os.length : Nat) : Int) - (at' : Int) - (sz : Int) > 0 then ((8 * os.length : Nat) : Int) - (at' : Int) - (sz : Int) else 0) = (sh : Int) ∧ (sh = 0 ∨ sh + sz ≤ 8 * os.length) := by
    refine ⟨(if ((8 * os.length : Nat) : Int) - (at' : Int) - (sz : Int) > 0 then ((8 * os.length : Nat) : Int) - (at' : Int) - (sz : Int) else 0).toNat, ?_, ?_⟩
    · split <;> omega
    · split <;> omega
  obtain ⟨sh, hsh, hsh2⟩ := nsh
  refine r_asg (v := .int (sh : Int)) (by
    rw [← hsh]
    exact ev_max2 (ea_cons ev_c (ea_cons (ev_op (ev_op (ev8 (ev_var rfl) eB) (ev_var rfl) rv_ar) (ev_var rfl) rv_ar) ea_nil))) ?_
  clear hsh
  have hshl : sh ≤ 480 := by omega
  refine r_asg (v := .int ((whole os ^^^ (b * 2 ^ sh % 2 ^ (8 * os.length)) : Nat) : Int)) ?_ ?_
  · refine ev_op (ev_var rfl) (ev_op (ev_op (ev_var rfl) (ev_var rfl) (rv_shlWN (n := 32) sh rfl hb1 (by omega))) (y := .int ((2 ^ (8 * os.length) : Nat) : Int)) ?_ (rv_modN (Nat.two_pow_pos _))) rv_xorN
    have e : (2 : Nat) ^ (8 * os.length) = 1 * 2 ^ (8 * os.length) := by rw [Nat.one_mul]
    rw [e]
    exact ev_op ev_c (ev8 (ev_var rfl) eB) (rv_shlWN (a := 1) (n := 1) (8 * os.length) rfl (by decide) (by omega))
  have hDl : b * 2 ^ sh % 2 ^ (8 * os.length) < 2 ^ (8 * os.length) := Nat.mod_lt _ (Nat.two_pow_pos _)
  have hD0 : b * 2 ^ sh % 2 ^ (8 * os.length) ≠ 0 → pb (b * 2 ^ sh % 2 ^ (8 * os.length)) ≠ 0#32 := by
    intro h
    rcases hsh2 with rfl | h2
    · refine pb_low h ?_
      rw [Nat.pow_zero, Nat.mul_one]
      exact Nat.lt_of_le_of_lt (Nat.mod_le _ _) hb1
    · have hlt2 : b * 2 ^ sh < 2 ^ (8 * os.length) := by
        refine Nat.lt_of_lt_of_le ((Nat.mul_lt_mul_right (Nat.two_pow_pos sh)).mpr hbl) ?_
        rw [← Nat.pow_add]
        exact Nat.pow_le_pow_right (by decide) (by omega)
      rw [Nat.mod_eq_of_lt hlt2]
      exact pb_burst hb0 hb1
  generalize hD : b * 2 ^ sh % 2 ^ (8 * os.length) = D at *
  have hcl : whole os ^^^ D < 2 ^ (8 * os.length) := Nat.xor_lt_two_pow hwl hDl
  generalize hC : whole os ^^^ D = C at *
  refine r_new (o := .lst (octV (octs C os.length))) (by
    have e : octV (octs C os.length) = ((List.range (os.length : Int).toNat).map fun i : Nat => ((i : Nat) : Int)).map fun k : Int => V.int ((C / 2 ^ (8 * (os.length - 1 - k.toNat)) % 256 : Nat) : Int) := by
      unfold octV octs
      rw [List.map_map, List.map_map, List.map_map, Int.toNat_natCast]
      refine List.map_congr_left fun k _ => ?_
      simp
    rw [e]
    refine en_lcI (fun k : Int => V.int ((C / 2 ^ (8 * (os.length - 1 - k.toNat)) % 256 : Nat) : Int)) (by
      rw [List.map_map]
      refine ei_range1 (ea_cons ?_ ea_nil) ⟨by omega, by omega⟩
      rw [← octV_len os]
      exact ev_len (ev_var rfl) ho3) (by simp; omega) (fun _ => rfl) (fun k hk B' e' => ?_)
    obtain ⟨j, hj, rfl⟩ := List.mem_map.mp hk
    have hj' : j < os.length := by simpa using hj
    rw [Int.toNat_natCast]
    refine ev_op (ev_op (ev_var rfl) (y := .int ((2 ^ (8 * (os.length - 1 - j)) : Nat) : Int)) ?_ (rv_divWN (n := 8 * (os.length - 1 - j) + 1) (Nat.two_pow_pos _) (Nat.pow_lt_pow_right (by decide) (by omega)) (by omega) (by omega))) ev_c (rv_modN (b := 256) (by decide))
    have e3 : (2 : Nat) ^ (8 * (os.length - 1 - j)) = 1 * 2 ^ (8 * (os.length - 1 - j)) := by rw [Nat.one_mul]
    rw [e3]
    refine ev_op (y := .int ((8 * (os.length - 1 - j) : Nat) : Int)) ev_c ?_ (rv_shlWN (a := 1) (n := 1) (8 * (os.length - 1 - j)) rfl (by decide) (by omega))
    have e4 : ((8 * (os.length - 1 - j) : Nat) : Int) = 8 * (((octV os).length : Int) - 1 - (j : Int)) := by
      rw [octV_len]
      omega
    rw [e4]
    exact ev_op ev_c (ev_op (ev_op (ev_len (ev_var rfl) (ex_l e' ho3)) ev_c rv_ar) (ev_var rfl) rv_ar) (rv_arC (.inl ⟨by decide, by decide⟩))) (fun px B3 hpx e3 hx => ?_)
  have ho4 := ex_l e3 ho3
  have hxs : SqL K B3 px (octV (octs C os.length)) := sq_of hx
  have hxl : ∀ o ∈ octs C os.length, o < 256 := fun o h => octs_lt h
  have hxn : (octs C os.length).length = os.length := by simp [octs]
  have eA := e1.trans (e2.trans (eB.trans e3))
  refine r_when (et_test (ev_eqD (ed_ev (ev_var rfl) (.lst hxs (dpa_oct _))) (ed_ev (ev_var rfl) (.lst ho4 (dpa_oct _))) (PySem.W.ke_shaped_ints _) (PySem.W.ke_shaped_ints _))) (fun hb => ?_) (fun hb => ?_)
  · rw [eqv_ints] at hb
    have h0 : octs C os.length = os := octV_inj (by simpa using hb)
    refine r_ret (ev_op (ev_pv (ea_cons (ev_var rfl) ea_nil) (fun H e => ⟨px, _, rfl, ex_l e hxs, hxl, by omega, rfl⟩)) (ev_var rfl) (rv_eq rfl)) (fun H1 e4 => ?_)
    rw [h0, show decide (V.int ((crc os).toNat : Int) = V.int ((crc os).toNat : Int)) = true from by simp]
    exact q H1 (eA.trans e4)
  · rw [eqv_ints] at hb
    have h0 : octs C os.length ≠ os := fun h => by
      rw [h] at hb
      simp at hb
    have hw : whole (octs C os.length) = C := whole_octs C os.length (by rw [show (256 : Nat) = 2 ^ 8 from rfl, ← Nat.pow_mul]; exact hcl)
    have hDn : D ≠ 0 := by
      intro h
      subst h
      rw [Nat.xor_zero] at hC
      exact h0 (whole_inj _ _ 0 0 hxn hxl hlt (hw.trans hC.symm)).2
    have hcne : crc (octs C os.length) ≠ crc os := crc_ne hlt hxl (by rw [hw, hC]) hwl hDl (hD0 hDn)
    refine r_ret (ev_andV (ev_op (ev_pv (ea_cons (ev_var rfl) ea_nil) (fun H e => ⟨px, _, rfl, ex_l e hxs, hxl, by omega, rfl⟩)) (ev_var rfl) (rv_ne rfl)) (fun hb => (ev_op (ev_pv (ea_cons (ev_var rfl) ea_nil) (fun H e => ⟨px, _, rfl, ex_l e hxs, hxl, by omega, rfl⟩)) (ev_pv (ea_cons (ev_var rfl) ea_nil) (fun H e => ⟨px, _, rfl, ex_l e hxs, hxl, by omega, rfl⟩)) (rv_eq rfl)))) (fun H1 e4 => ?_)
    have hn2 : ¬ ((crc (octs C os.length)).toNat : Int) = ((crc os).toNat : Int) := fun h => hcne (BitVec.eq_of_toNat_eq (by omega))
    have e5 : ((!decide (V.int ((crc (octs C os.length)).toNat : Int) = V.int ((crc os).toNat : Int))) && decide (V.int ((crc (octs C os.length)).toNat : Int) = V.int ((crc (octs C os.length)).toNat : Int))) = true := by
      simp
      exact hn2
    rw [e5]
    exact q H1 (eA.trans e4)
end
theorem all_mk {l : PySem.W.OpenLaw} {w : World} {K : PySem.W.Frag} {h : Heap} {mg : Str → Option Value} {fa : Addr} (X : K.In h) (G : h.Ns mainGlobals mg) (hfa : mg "law" = some (.ref fa))
    {f_sum_of : Addr} {od_sum_of an_sum_of : Option Addr} {sl_sum_of : Array (Option Value)} {oc_sum_of kV_sum_of dc_sum_of pm_sum_of cd_sum_of ct_sum_of : Value} (a_sum_of : PySem.W.nsIn K mainGlobals "sum_of" = some (some (.ref f_sum_of))) (l_sum_of : K.lookup f_sum_of = some ⟨oc_sum_of, od_sum_of, .func (PySem.W.fnOf "sum_of" "sum_of" (defArgs s_sum_of) (defBody s_sum_of) (defScope s_sum_of) .none kV_sum_of dc_sum_of pm_sum_of an_sum_of cd_sum_of ct_sum_of), sl_sum_of⟩) (c_sum_of : PySem.W.codeIn K cd_sum_of "sum_of" = true) (k_sum_of : PySem.W.keepIn K (.ref f_sum_of) = true)
    {f__law_cell : Addr} {od__law_cell an__law_cell : Option Addr} {sl__law_cell : Array (Option Value)} {oc__law_cell kV__law_cell dc__law_cell pm__law_cell cd__law_cell ct__law_cell : Value} (a__law_cell : PySem.W.nsIn K mainGlobals "_law_cell" = some (some (.ref f__law_cell))) (l__law_cell : K.lookup f__law_cell = some ⟨oc__law_cell, od__law_cell, .func (PySem.W.fnOf "_law_cell" "_law_cell" (defArgs s__law_cell) (defBody s__law_cell) (defScope s__law_cell) .none kV__law_cell dc__law_cell pm__law_cell an__law_cell cd__law_cell ct__law_cell), sl__law_cell⟩) (c__law_cell : PySem.W.codeIn K cd__law_cell "_law_cell" = true) (k__law_cell : PySem.W.keepIn K (.ref f__law_cell) = true)
    {f__law_row : Addr} {od__law_row an__law_row : Option Addr} {sl__law_row : Array (Option Value)} {oc__law_row kV__law_row dc__law_row pm__law_row cd__law_row ct__law_row : Value} (a__law_row : PySem.W.nsIn K mainGlobals "_law_row" = some (some (.ref f__law_row))) (l__law_row : K.lookup f__law_row = some ⟨oc__law_row, od__law_row, .func (PySem.W.fnOf "_law_row" "_law_row" (defArgs s__law_row) (defBody s__law_row) (defScope s__law_row) .none kV__law_row dc__law_row pm__law_row an__law_row cd__law_row ct__law_row), sl__law_row⟩) (c__law_row : PySem.W.codeIn K cd__law_row "_law_row" = true) (k__law_row : PySem.W.keepIn K (.ref f__law_row) = true)
    {f__law_integer : Addr} {od__law_integer an__law_integer : Option Addr} {sl__law_integer : Array (Option Value)} {oc__law_integer kV__law_integer dc__law_integer pm__law_integer cd__law_integer ct__law_integer : Value} (a__law_integer : PySem.W.nsIn K mainGlobals "_law_integer" = some (some (.ref f__law_integer))) (l__law_integer : K.lookup f__law_integer = some ⟨oc__law_integer, od__law_integer, .func (PySem.W.fnOf "_law_integer" "_law_integer" (defArgs s__law_integer) (defBody s__law_integer) (defScope s__law_integer) .none kV__law_integer dc__law_integer pm__law_integer an__law_integer cd__law_integer ct__law_integer), sl__law_integer⟩) (c__law_integer : PySem.W.codeIn K cd__law_integer "_law_integer" = true) (k__law_integer : PySem.W.keepIn K (.ref f__law_integer) = true)
    {f__law_sum : Addr} {od__law_sum an__law_sum : Option Addr} {sl__law_sum : Array (Option Value)} {oc__law_sum kV__law_sum dc__law_sum pm__law_sum cd__law_sum ct__law_sum : Value} (a__law_sum : PySem.W.nsIn K mainGlobals "_law_sum" = some (some (.ref f__law_sum))) (l__law_sum : K.lookup f__law_sum = some ⟨oc__law_sum, od__law_sum, .func (PySem.W.fnOf "_law_sum" "_law_sum" (defArgs s__law_sum) (defBody s__law_sum) (defScope s__law_sum) .none kV__law_sum dc__law_sum pm__law_sum an__law_sum cd__law_sum ct__law_sum), sl__law_sum⟩) (c__law_sum : PySem.W.codeIn K cd__law_sum "_law_sum" = true) (k__law_sum : PySem.W.keepIn K (.ref f__law_sum) = true)
    {f_law : Addr} {od_law an_law : Option Addr} {sl_law : Array (Option Value)} {oc_law kV_law dc_law pm_law cd_law ct_law : Value} (a_law : PySem.W.nsIn K mainGlobals "law" = some (some (.ref f_law))) (l_law : K.lookup f_law = some ⟨oc_law, od_law, .func (PySem.W.fnOf "law" "law" (defArgs s_law) (defBody s_law) (defScope s_law) .none kV_law dc_law pm_law an_law cd_law ct_law), sl_law⟩) (c_law : PySem.W.codeIn K cd_law "law" = true) (k_law : PySem.W.keepIn K (.ref f_law) = true)
    {p_REMAINDERS : Addr} {od_REMAINDERS : Option Addr} {its_REMAINDERS : Array Value} {n_REMAINDERS : Nat} {sl_REMAINDERS : Array (Option Value)} (a_REMAINDERS : PySem.W.nsIn K mainGlobals "REMAINDERS" = some (some (.ref p_REMAINDERS))) (l_REMAINDERS : K.lookup p_REMAINDERS = some ⟨.type "tuple", od_REMAINDERS, .seq its_REMAINDERS n_REMAINDERS, sl_REMAINDERS⟩) (va_REMAINDERS : abL its_REMAINDERS.toList = some (REM.map fun n : Nat => V.int (n : Int)))
    (z_len : PySem.W.nsIn K mainGlobals "len" = some none)
    (z_int : PySem.W.nsIn K mainGlobals "int" = some none)
    (z_range : PySem.W.nsIn K mainGlobals "range" = some none)
    (z_isinstance : PySem.W.nsIn K mainGlobals "isinstance" = some none)
    (z_bool : PySem.W.nsIn K mainGlobals "bool" = some none)
    (z_list : PySem.W.nsIn K mainGlobals "list" = some none)
    (z_max : PySem.W.nsIn K mainGlobals "max" = some none)
    (z_abs : PySem.W.nsIn K mainGlobals "abs" = some none) :
    ∃ fd : FuncData, (∀ (s : Shared) (v : Value), BindsTo s fd ⟨[v], []⟩ [("script", v)]) ∧ ∀ base : Heap, K.In base → base.Ns mainGlobals mg → FnOk l.prog w K mg base CX0 2 fa fd ["script"] (spLaw K) := by
  have e := hfa.symm.trans (PySem.W.mg_of X G a_law)
  cases e
  have T : Tx K mg p_REMAINDERS := ⟨PySem.W.mg_none_of X G z_len, PySem.W.mg_none_of X G z_int, PySem.W.mg_none_of X G z_range, PySem.W.mg_none_of X G z_isinstance, PySem.W.mg_none_of X G z_bool, PySem.W.mg_none_of X G z_list, PySem.W.mg_none_of X G z_max, PySem.W.mg_none_of X G z_abs, ⟨_, PySem.W.mg_of X G a_REMAINDERS, rfl⟩, fun _ => tup_at l_REMAINDERS va_REMAINDERS (by decide)⟩
  have D_sum_of : Def K mg "sum_of" s_sum_of ["octets"] := def_mk X G a_sum_of l_sum_of c_sum_of k_sum_of (fun _ _ _ _ _ _ us hl => match us, hl with | [_], _ => rfl)
  have D__law_cell : Def K mg "_law_cell" s__law_cell ["script", "k"] := def_mk X G a__law_cell l__law_cell c__law_cell k__law_cell (fun _ _ _ _ _ _ us hl => match us, hl with | [_, _], _ => rfl)
  have D__law_row : Def K mg "_law_row" s__law_row ["cell", "count", "bound"] := def_mk X G a__law_row l__law_row c__law_row k__law_row (fun _ _ _ _ _ _ us hl => match us, hl with | [_, _, _], _ => rfl)
  have D__law_integer : Def K mg "_law_integer" s__law_integer ["value"] := def_mk X G a__law_integer l__law_integer c__law_integer k__law_integer (fun _ _ _ _ _ _ us hl => match us, hl with | [_], _ => rfl)
  have D__law_sum : Def K mg "_law_sum" s__law_sum ["octets"] := def_mk X G a__law_sum l__law_sum c__law_sum k__law_sum (fun _ _ _ _ _ _ us hl => match us, hl with | [_], _ => rfl)
  refine ⟨PySem.W.fnOf "law" "law" (defArgs s_law) (defBody s_law) (defScope s_law) .none kV_law dc_law pm_law an_law cd_law ct_law, fun s v => .of_eq rfl, fun base _ _ => ?_⟩
  exact ok_law (fun_mk l_law c_law k_law) T (ok_sum D_sum_of T) (ok_cell D__law_cell T) (ok_row D__law_row T) (ok_isint D__law_integer T) (ok_lsum D__law_sum T)
end K35
open PySem PySem.W PyProof.Rows
set_option maxHeartbeats 0 in
theorem PySem.Challenge.cw_formkeeper_k35_sums_of_octets_holds : PySem.Challenge.rw_formkeeper_k35_sums_of_octets.Holds := by
  w_on; o_law; k_head; (case hw => w_witness2)
  k_fill
  refine L2.walk_of (l := PySem.Challenge.rw_formkeeper_k35_sums_of_octets) (n := 63) (k := 2) (x := "script") (CX := fun _ => L2.CX0) (sp := fun w => K35.spLaw _) rfl (by decide) rfl ⟨rfl, by decide, by decide⟩ (fun w h Y => PySem.W.kIn_of Y) ?F (fun _ _ a ns hl _ hS => ⟨_, ⟨a, ns, rfl, hS, hl, rfl⟩, fun _ _ => rfl⟩) (fun _ _ _ _ _ h => h)
  case F =>
    intro w mg fa h KX G hmg
    refine' K35.all_mk KX G hmg ?a_sum_of ?l_sum_of ?c_sum_of ?k_sum_of ?a__law_cell ?l__law_cell ?c__law_cell ?k__law_cell ?a__law_row ?l__law_row ?c__law_row ?k__law_row ?a__law_integer ?l__law_integer ?c__law_integer ?k__law_integer ?a__law_sum ?l__law_sum ?c__law_sum ?k__law_sum ?a_law ?l_law ?c_law ?k_law ?a_REMAINDERS ?l_REMAINDERS ?va_REMAINDERS ?z_len ?z_int ?z_range ?z_isinstance ?z_bool ?z_list ?z_max ?z_abs
    (case a_sum_of => k_is); (case l_sum_of => k_is); (case c_sum_of => k_is); (case k_sum_of => k_is); (case a__law_cell => k_is); (case l__law_cell => k_is); (case c__law_cell => k_is); (case k__law_cell => k_is); (case a__law_row => k_is); (case l__law_row => k_is); (case c__law_row => k_is); (case k__law_row => k_is); (case a__law_integer => k_is); (case l__law_integer => k_is); (case c__law_integer => k_is); (case k__law_integer => k_is); (case a__law_sum => k_is); (case l__law_sum => k_is); (case c__law_sum => k_is); (case k__law_sum => k_is); (case a_law => k_is); (case l_law => k_is); (case c_law => k_is); (case k_law => k_is); (case a_REMAINDERS => k_is); (case l_REMAINDERS => k_is); (case va_REMAINDERS => first | k_is | rfl | decide +kernel); (case z_len => k_is); (case z_int => k_is); (case z_range => k_is); (case z_isinstance => k_is); (case z_bool => k_is); (case z_list => k_is); (case z_max => k_is); (case z_abs => k_is)
