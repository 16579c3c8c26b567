import PyProof.Rows.All
import Wide.All
import OpenK.AllK
import Wide.FinOn
import HandS.ForMost
import HandS.Style
import HandS.Wide
import HandS.IsInst
import HandS.Steps
import HandS.Codes
import HandS.Evl
import HandS.Walk
import PySem.Challenge.RW_formkeeper_k04_names
set_option Elab.async false
set_option linter.all false
set_option maxRecDepth 100000
/-! common words of these proofs (own text) -/
namespace FK
open PySem PySem.Spec PyProof.Rows L2 Evl

/-! ### heaps -/
theorem same_upd {H : Hp} {p : Addr} {o : HO} (h : H p = none) : Same H (upd H p o) := fun b x e => by
  rw [upd_ne (ne_of_none e h)]
  exact e
/-- an object of the callee's own may change -/
theorem same_mut {H H' : Hp} {p : Addr} {o : HO} (e : Same H H') (h : H p = none) : Same H (upd H' p o) := fun a u ha => by
  rw [upd_ne (ne_of_none ha h)]
  exact e a u ha
theorem sqt_same {K : PySem.W.Frag} {H H' : Hp} {a : Addr} {xs : List V} (e : Same H H') (h : SqT K H a xs) : SqT K H' a xs := by
  rcases h with (h | ⟨o, h⟩) | h
  · exact .inl (.inl (e _ _ h))
  · exact .inl (.inr ⟨o, e _ _ h⟩)
  · exact .inr h
theorem hu64 {A : Around} {k : Nat} (hr : Room k A) : A.units + 64 < cLine := hr.units

/-! ### a def that may be called by its name -/
structure Cal (CX : CXT) (P : Program) (w : World) (K : PySem.W.Frag) (mg : Str → Option Value) (base : Heap) (k : Nat) (x : Str) (sp : Sp) : Prop where
  ex : ∃ (f : Addr) (fd : FuncData) (ps : List Str), FnOk P w K mg base CX k f fd ps sp ∧ mg x = some (.ref f) ∧ PySem.W.keepIn K (.ref f) = true ∧ Binds K fd ps []
structure Def (K : PySem.W.Frag) (mg : Str → Option Value) (x : Str) (st : Stmt) (ps : List Str) : Prop where
  ex : ∃ (f : Addr) (fd : FuncData), Fun K x x st f fd ∧ mg x = some (.ref f) ∧ Binds K fd ps []
section
variable {P : Program} {w : World} {K : PySem.W.Frag} {mg : Str → Option Value} {base : Heap}
theorem cal0 {x : Str} {st : Stmt} {N ps : List Str} {k : Nat} {sp : Sp} (D : Def K mg x st ps) (S : FnScope N ps (defScope st)) (len : ∀ vs H Q E, sp vs H Q E → vs.length = ps.length)
    (hbody : ∀ (f : Addr) (cdv : Value) (A : Around) (outer : List Env) (s : Shared) (H : Hp) (vs : List V) (Q : VK) (E : XK), Room k (A.deeper (envOfC x (defScope st) s.heap.objs.size f cdv)) → sp vs H Q E →
      ∃ t, PSs (cxOf CX0 P w K mg base N x (defScope st) f cdv A outer s H E).nox (defBody st) t ∧ t { nx := fun _ H' => Q .non H', rt := Q } (start N vs) H) : Cal CX0 P w K mg base (k + 1) x sp := by
  obtain ⟨f, fd, F, m, b⟩ := D.ex
  exact ⟨f, fd, ps, F.ok S len (hbody f), m, F.kp, b⟩
end
section
variable {X : Cx} {k j : Nat} {x : Str} {sp : Sp} {p pos : Pos} {e : Expr} {es : List Expr} {t : TA}
theorem pe_c (c : Cal CX0 X.prog X.w X.K X.mg X.base k x sp) (hr : Room j X.A) (hk : k ≤ j) (hg : Gl X x) (ha : PA X (e :: es) t)
    (hdb : (x == ("__debug__" : Str)) = false := by decide) (he : starEach (e :: es) X.env = (false, eval e X.env) :: starEach es X.env := by rfl) (hpl : (backTo pos (starEach es X.env)).any (·.1) = false := by rfl) :
    PE X (.Call (.Name x p) (e :: es) [] pos) (tCall sp [] E0 t) := by
  obtain ⟨f, fd, ps, F, hm, kp, b⟩ := c.ex
  exact pe_call F (hr.mono hk) hg hm kp b .nil pass0 ha hdb he hpl
theorem pe_gc {v : V} (hg : Gl X x) (h : ∃ u, X.mg x = some u ∧ RelV v u) (hd : (x == ("__debug__" : Str)) = false := by decide) : PE X (.Name x pos) (tC v) := by
  obtain ⟨u, hm, r⟩ := h
  exact pe_glob hg hm r hd
end
/-- the def of the module at its place -/
theorem def_mk {K : PySem.W.Frag} {mg : Str → Option Value} {h : Heap} {x : Str} {st : Stmt} {f : Addr} {oc : Value} {od an : Option Addr} {osl : Array (Option Value)} {kV doc pm cdv ct : Value} {ps : List Str} (X : K.In h) (G : h.Ns mainGlobals mg)
    (a : PySem.W.nsIn K mainGlobals x = some (some (.ref f))) (l : K.lookup f = some ⟨oc, od, .func (PySem.W.fnOf x x (defArgs st) (defBody st) (defScope st) .none kV doc pm an cdv ct), osl⟩)
    (c : PySem.W.codeIn K cdv x = true) (k : PySem.W.keepIn K (.ref f) = true)
    (b : ∀ (kV doc pm : Value) (an : Option Addr) (cdv ct : Value) (us : List Value), us.length = ps.length → bindArgs (PySem.W.fnOf x x (defArgs st) (defBody st) (defScope st) .none kV doc pm an cdv ct) ⟨us, []⟩ = pure (ps.zip us)) : Def K mg x st ps :=
  ⟨f, _, fun_mk l c k, PySem.W.mg_of X G a, (fun_mk l c k).binds b⟩

/-! ### loops and items -/
/-- sign by sign -/
theorem for_str {x : List Nat} {g : TG} {tb : TS} {D : Ends} {σ : L2.St} {H : Hp} (Pv : Nat → L2.St → Hp → Prop) (h0 : Pv 0 σ H)
    (hs : ∀ i c σ H, x[i]? = some c → Pv i σ H → g (.str (SX.S [c])) σ H fun σ2 H2 => tb { D with nx := Pv (i + 1), ct := Pv (i + 1), bk := D.nx } σ2 H2) (hd : ∀ σ H, Pv x.length σ H → D.nx σ H) :
    ∃ W : Nat → Nat → L2.St → Hp → Prop, (∃ m, W 0 m σ H) ∧ ∀ i m σ H, W i m σ H →
      ((Its (SX.S x)).stop i H ∧ D.nx σ H) ∨ ((Its (SX.S x)).go i H ∧ ∃ N : L2.St → Hp → Prop, (∀ σ' H', N σ' H' → ∃ m', m' < m ∧ W (i + 1) m' σ' H') ∧ ∀ v H', (Its (SX.S x)).yld i H v H' → g v σ H' fun σ2 H2 => tb { D with nx := N, ct := N, bk := D.nx } σ2 H2) := by
  have hz : (SX.S x).cps.size = x.length := by simp [SX.S]
  refine ⟨fun i m σ H => m = x.length - i ∧ i ≤ x.length ∧ Pv i σ H, ⟨x.length, by simp, Nat.zero_le _, h0⟩, ?_⟩
  rintro i m σ H ⟨rfl, hi, p⟩
  by_cases hlt : i < x.length
  · refine .inr ⟨by show i < (SX.S x).cps.size; omega, Pv (i + 1), fun σ' H' p' => ⟨x.length - (i + 1), by omega, rfl, hlt, p'⟩, fun v H' y => ?_⟩
    obtain ⟨e, c, hc, hv⟩ := y
    subst e hv
    have hc' : x[i]? = some c := by simpa [SX.S] using hc
    exact hs i c σ _ hc' p
  · have e : i = x.length := by omega
    subst e
    exact .inl ⟨by show (SX.S x).cps.size ≤ _; omega, hd σ H p⟩
theorem atI_ints {ns : List Int} {i : Int} (h0 : 0 ≤ i) (h1 : i < ns.length) : atI (ns.map V.int) i = some (.int (ns.getD i.toNat 0)) := by
  obtain ⟨j, rfl⟩ := Int.eq_ofNat_of_zero_le h0
  have hj : j < ns.length := by omega
  refine atI_nat (j := j) ?_
  rw [List.getElem?_map, List.getElem?_eq_getElem hj]
  simp [List.getD, List.getElem?_eq_getElem hj]
theorem getD_mem {ns : List Int} {i : Nat} (h : i < ns.length) : ns.getD i 0 ∈ ns := by
  simp [List.getD, List.getElem?_eq_getElem h]
theorem getD_of {ns : List Int} {i : Nat} {Pp : Int → Prop} (h : ∀ n ∈ ns, Pp n) (hi : i < ns.length) : Pp (ns.getD i 0) := h _ (getD_mem hi)

theorem atI_any {xs : List V} {i : Int} {Pp : V → Prop} (h0 : 0 ≤ i) (h1 : i < xs.length) (h : ∀ x ∈ xs, Pp x) : ∃ v, atI xs i = some v ∧ Pp v := by
  obtain ⟨j, rfl⟩ := Int.eq_ofNat_of_zero_le h0
  have hj : j < xs.length := by omega
  exact ⟨xs[j], atI_nat (List.getElem?_eq_getElem hj), h _ (List.getElem_mem hj)⟩
theorem cutV_int {xs : List V} {i j : Int} (h0 : 0 ≤ i) (h1 : 0 ≤ j) : cutV xs (some i) (some j) = (xs.drop i.toNat).take (j.toNat - i.toNat) := by
  obtain ⟨i, rfl⟩ := Int.eq_ofNat_of_zero_le h0
  obtain ⟨j, rfl⟩ := Int.eq_ofNat_of_zero_le h1
  unfold cutV
  rw [HT.sIx_nat, HT.sIx_nat]
  show _ = (xs.drop i).take (j - i)
  by_cases hi : i ≤ xs.length
  · rw [Nat.min_eq_left hi]
    by_cases hj : j ≤ xs.length
    · rw [Nat.min_eq_left hj]
    · rw [Nat.min_eq_right (by omega), List.take_of_length_le (by rw [List.length_drop]; omega), List.take_of_length_le (by rw [List.length_drop]; omega)]
  · rw [Nat.min_eq_right (show xs.length ≤ i by omega), List.drop_of_length_le (Nat.le_refl _), List.drop_of_length_le (show xs.length ≤ i by omega), List.take_nil, List.take_nil]
theorem cutV_to {xs : List V} {j : Int} (h1 : 0 ≤ j) : cutV xs none (some j) = xs.take j.toNat := by
  have e := cutV_int (xs := xs) (i := 0) (Int.le_refl 0) h1
  rw [show cutV xs none (some j) = cutV xs (some 0) (some j) from by unfold cutV; rw [HT.sIx_none]; rw [show HT.sIx xs.length 0 (some (0 : Int)) = 0 from (HT.sIx_nat xs.length 0 0).trans (Nat.zero_min _)], e]
  rfl
/-! ### a block over every heap that has what the base has -/
def R (t : TS) (D : Ends) (σ : L2.St) (B : Hp) : Prop := ∀ H, Ex B H → t D σ H
/-- a new object -/
def EvN (te : TE) (σ : L2.St) (B : Hp) (o : HO) : Prop := ∀ H1, Ex B H1 → ∀ Q : VK, (∀ p H2, H1 p = none → Ex H1 H2 → H2 p = some o → Q (.ref p) H2) → te σ H1 Q
/-- a value of which this holds -/
def EvP (te : TE) (σ : L2.St) (B : Hp) (Pp : V → Hp → Prop) : Prop := ∀ H1, Ex B H1 → ∀ Q : VK, (∀ v H2, Ex H1 H2 → Pp v H2 → Q v H2) → te σ H1 Q
def EvAP (ta : TA) (σ : L2.St) (B : Hp) (Pp : List V → Hp → Prop) : Prop := ∀ H1, Ex B H1 → ∀ Q : List V → Hp → Prop, (∀ vs H2, Ex H1 H2 → Pp vs H2 → Q vs H2) → ta σ H1 Q
section
variable {K : PySem.W.Frag} {σ : L2.St} {B B' : Hp} {ta tb te tx tl : TE} {t u : TT} {x y z v : V} {D : Ends} {tu tw tz : TS} {g : TG} {o : HO} {Pp : V → Hp → Prop}
theorem R.go (h : R tz D σ B) : tz D σ B := h B (Ex.refl B)
theorem R.mono (h : R tz D σ B) (e : Ex B B') : R tz D σ B' := fun H a => h H (e.trans a)
theorem ex_up {H : Hp} {p : Addr} (e : Ex B H) (h : H p = some o) : Ex (upd B p o) H := fun a u ha => by
  by_cases c : a = p
  · subst c
    rw [upd_same] at ha
    cases ha
    exact h
  · rw [upd_ne c] at ha
    exact e a u ha
theorem ex_mut {H : Hp} {p : Addr} (e : Ex B H) : Ex (upd B p o) (upd H p o) := fun a u ha => by
  by_cases c : a = p
  · subst c
    rw [upd_same] at ha ⊢
    exact ha
  · rw [upd_ne c] at ha ⊢
    exact e a u ha
theorem r_asg {i : Nat} (h : Ev te σ B v) (k : R tz D (σ.set i (some v)) B) : R (tSeq (tAsg te (gName i)) tz) D σ B := fun H a => q_asg (h.mono a) fun H1 e => k H1 (a.trans e)
theorem r_asgN {i : Nat} (h : EvN te σ B o) (k : ∀ p, B p = none → R tz D (σ.set i (some (.ref p))) (upd B p o)) : R (tSeq (tAsg te (gName i)) tz) D σ B := fun H a =>
  h H a _ fun p H2 hp e hh => k p (fresh_back a hp) H2 (ex_up (a.trans e) hh)
/-- .. the base taken as it is then -/
theorem r_new {i : Nat} (h : EvN te σ B o) (k : ∀ p B', B p = none → Ex B B' → B' p = some o → R tz D (σ.set i (some (.ref p))) B') : R (tSeq (tAsg te (gName i)) tz) D σ B := r_asgN h fun p hp => k p _ hp (Ex.new hp) upd_same
theorem r_asgP {i : Nat} (h : EvP te σ B Pp) (k : ∀ v B', Ex B B' → Pp v B' → R tz D (σ.set i (some v)) B') : R (tSeq (tAsg te (gName i)) tz) D σ B := fun H a =>
  h H a _ fun v H2 e hh => k v H2 (a.trans e) hh H2 (Ex.refl H2)
theorem r_if {b : Bool} (h : EvT t σ B b) (h1 : b = true → R tu { D with nx := tz D } σ B) (h2 : b = false → R tw { D with nx := tz D } σ B) : R (tSeq (tIfS t tu tw) tz) D σ B := fun H a =>
  q_if (h.mono a) (fun hb H1 e => h1 hb H1 (a.trans e)) (fun hb H1 e => h2 hb H1 (a.trans e))
/-- an if without else -/
theorem r_when {b : Bool} (h : EvT t σ B b) (h1 : b = true → R tu { D with nx := tz D } σ B) (h2 : b = false → R tz D σ B) : R (tSeq (tIfS t tu tNext) tz) D σ B := r_if h h1 h2
/-- what follows is shown once, from Mid -/
theorem r_whenK (Mid : L2.St → Hp → Prop) {b : Bool} (h : EvT t σ B b) (k : ∀ σ' B', Mid σ' B' → R tz D σ' B') (h1 : (∀ σ' B', Mid σ' B' → R tz D σ' B') → b = true → R tu { D with nx := tz D } σ B) (h2 : (∀ σ' B', Mid σ' B' → R tz D σ' B') → b = false → R tz D σ B) :
    R (tSeq (tIfS t tu tNext) tz) D σ B := r_when h (h1 k) (h2 k)
theorem r_ifK (Mid : L2.St → Hp → Prop) {b : Bool} (h : EvT t σ B b) (k : ∀ σ' B', Mid σ' B' → R tz D σ' B') (h1 : (∀ σ' B', Mid σ' B' → R tz D σ' B') → b = true → R tu { D with nx := tz D } σ B) (h2 : (∀ σ' B', Mid σ' B' → R tz D σ' B') → b = false → R tw { D with nx := tz D } σ B) :
    R (tSeq (tIfS t tu tw) tz) D σ B := r_if h (h1 k) (h2 k)
theorem r_next (k : ∀ H, Ex B H → D.nx σ H) : R tNext D σ B := k
theorem r_on {D : Ends} (k : R tz D σ B) : R tNext { D with nx := tz D } σ B := k
theorem r_ret (h : Ev te σ B v) (k : ∀ H, Ex B H → D.rt v H) : R (tSeq (tRet te) tz) D σ B := fun H a => h H a _ fun H1 e => k H1 (a.trans e)
theorem r_retN (h : EvN te σ B o) (k : ∀ p, B p = none → ∀ H, Ex (upd B p o) H → D.rt (.ref p) H) : R (tSeq (tRet te) tz) D σ B := fun H a => h H a _ fun p H2 hp e hh => k p (fresh_back a hp) H2 (ex_up (a.trans e) hh)
theorem r_retP (h : EvP te σ B Pp) (k : ∀ v B', Ex B B' → Pp v B' → D.rt v B') : R (tSeq (tRet te) tz) D σ B := fun H a => h H a _ fun v H2 e hh => k v H2 (a.trans e) hh
theorem r_brk (k : ∀ H, Ex B H → D.bk σ H) : R (tSeq tBreak tz) D σ B := k
theorem r_cont (k : ∀ H, Ex B H → D.ct σ H) : R (tSeq tCont tz) D σ B := k
theorem r_drop (h : Ev te σ B v) (k : R tz D σ B) : R (tSeq (tDrop te) tz) D σ B := fun H a => q_drop (h.mono a) fun H1 e => k H1 (a.trans e)
theorem r_aug {i : Nat} {f : Int → Int → Int} {a b : Int} (hx : σ[i]? = some (some (.int a))) (h : Ev te σ B (.int b)) (k : R tz D (σ.set i (some (.int (f a b)))) B) : R (tSeq (tAug i te (ipI f)) tz) D σ B := fun H e => q_aug hx (h.mono e) fun H1 e1 => k H1 (e.trans e1)
theorem r_app {l : Addr} {xs : List V} (hl : B l = some (.lst xs)) (ha : Ev ta σ B (.ref l)) (h : Ev te σ B v) (hz : xs.length < 100000) (k : R tz D σ (upd B l (.lst (xs ++ [v])))) :
    R (tSeq (tDrop (tBM K "list" rAppend ta (tCons te tNil))) tz) D σ B := fun H a => q_app (a l _ hl) (ha.mono a) (h.mono a) hz fun H1 e => k _ (ex_mut (a.trans e))
theorem r_appN {l : Addr} {xs : List V} (hl : B l = some (.lst xs)) (ha : Ev ta σ B (.ref l)) (h : EvN te σ B o) (hz : xs.length < 100000) (k : ∀ p, B p = none → R tz D σ (upd (upd B p o) l (.lst (xs ++ [.ref p])))) :
    R (tSeq (tDrop (tBM K "list" rAppend ta (tCons te tNil))) tz) D σ B := fun H a => ha H a _ fun H1 e1 =>
  ⟨Or.inl ⟨rfl, xs, sq_of (e1 l _ (a l _ hl))⟩, h H1 (a.trans e1) _ fun p H2 hp e2 h2 => ⟨l, xs, .ref p, rfl, rfl, e2 l _ (e1 l _ (a l _ hl)), sz_lt hz, k p (fresh_back (a.trans e1) hp) _ (ex_mut (ex_up ((a.trans e1).trans e2) h2))⟩⟩
/-- the word of a loop, over its bases -/
def Up (Pv : Nat → L2.St → Hp → Prop) (i : Nat) (σ : L2.St) (H : Hp) : Prop := ∃ B, Ex B H ∧ Pv i σ B
theorem up_of {Pv : Nat → L2.St → Hp → Prop} {i : Nat} (h : Pv i σ B) : ∀ H, Ex B H → Up Pv i σ H := fun H e => ⟨B, e, h⟩
theorem r_up {Pv : Nat → L2.St → Hp → Prop} {i : Nat} {rt : VK} {bk ct : L2.St → Hp → Prop} (h : Pv i σ B) : R tNext { nx := Up Pv i, rt := rt, bk := bk, ct := ct } σ B := fun H e => ⟨B, e, h⟩
abbrev Lp (Pv : Nat → L2.St → Hp → Prop) (i : Nat) (D : Ends) (tz : TS) : Ends := { nx := Up Pv (i + 1), rt := D.rt, bk := tz D, ct := Up Pv (i + 1) }
theorem r_forL {a : Addr} {xs : List V} {j : Nat} (h : Ev tl σ B (.ref a)) (hx : SqL K B a xs) (Pv : Nat → L2.St → Hp → Prop) (h0 : Pv 0 σ B) (hl : ∀ i σ' B', i ≤ xs.length → Pv i σ' B' → SqL K B' a xs)
    (hs : ∀ i x σ' B', xs[i]? = some x → Pv i σ' B' → R tu (Lp Pv i D tz) (σ'.set j (some x)) B') (hd : ∀ σ' B', Pv xs.length σ' B' → R tz D σ' B') : R (tSeq (tFor (iList K tl) (gName j) tu) tz) D σ B := fun H e =>
  q_forLn (h.mono e) (ex_l e hx) (Up Pv) (fun H1 e1 => ⟨B, e.trans e1, h0⟩) (fun i σ' H' hi ⟨B', e', p⟩ => ex_l e' (hl i σ' B' hi p)) (fun i x σ' H' hx' ⟨B', e', p⟩ => hs i x σ' B' hx' p H' e') fun σ' H' ⟨B', e', p⟩ => hd σ' B' p H' e'
theorem r_forN {xs : List V} {j : Nat} (h : EvN tl σ B (.lst xs)) (Pv : Addr → Nat → L2.St → Hp → Prop) (h0 : ∀ p, B p = none → Pv p 0 σ (upd B p (.lst xs))) (hl : ∀ p i σ' B', i ≤ xs.length → Pv p i σ' B' → SqL K B' p xs)
    (hs : ∀ p i x σ' B', xs[i]? = some x → Pv p i σ' B' → R tu (Lp (Pv p) i D tz) (σ'.set j (some x)) B') (hd : ∀ p σ' B', Pv p xs.length σ' B' → R tz D σ' B') : R (tSeq (tFor (iList K tl) (gName j) tu) tz) D σ B := fun H e =>
  h H e _ fun p H1 hp e1 h1 => ⟨p, rfl, ⟨xs, sq_of h1⟩, for_list (Up (Pv p)) ⟨_, ex_up (e.trans e1) h1, h0 p (fresh_back e hp)⟩ (fun i σ' H' hi ⟨B', e', q⟩ => ex_l e' (hl p i σ' B' hi q))
    (fun i x σ' H' hx' ⟨B', e', q⟩ => hs p i x σ' B' hx' q H' e') fun σ' H' ⟨B', e', q⟩ => hd p σ' B' q H' e'⟩
theorem r_forR1 {ta : TA} {j : Nat} {n : Int} (h : EvA ta σ B [.int n]) (hn : 0 ≤ n ∧ n ≤ 100000) (Pv : Nat → L2.St → Hp → Prop) (h0 : Pv 0 σ B)
    (hs : ∀ (i : Nat) σ' B', (i : Int) < n → Pv i σ' B' → R tu (Lp Pv i D tz) (σ'.set j (some (.int (i : Int)))) B') (hd : ∀ σ' B', Pv n.toNat σ' B' → R tz D σ' B') : R (tSeq (tFor (iRng1 ta) (gName j) tu) tz) D σ B := fun H e =>
  q_forR1 (h.mono e) hn (Up Pv) (fun H1 e1 => ⟨B, e.trans e1, h0⟩) (fun i σ' H' hi ⟨B', e', p⟩ => hs i σ' B' hi p H' e') fun σ' H' ⟨B', e', p⟩ => hd σ' B' p H' e'
theorem r_forR2 {ta : TA} {j : Nat} {lo n : Int} (h : EvA ta σ B [.int lo, .int n]) (hn : 0 ≤ lo ∧ lo ≤ 100000 ∧ -100000 ≤ n ∧ n ≤ 100000) (Pv : Nat → L2.St → Hp → Prop) (h0 : Pv 0 σ B)
    (hs : ∀ (i : Nat) σ' B', lo + (i : Int) < n → Pv i σ' B' → R tu (Lp Pv i D tz) (σ'.set j (some (.int (lo + (i : Int))))) B') (hd : ∀ σ' B', Pv (n - lo).toNat σ' B' → R tz D σ' B') : R (tSeq (tFor (iRng2 ta) (gName j) tu) tz) D σ B := fun H e =>
  q_forR2 (h.mono e) hn (Up Pv) (fun H1 e1 => ⟨B, e.trans e1, h0⟩) (fun i σ' H' hi ⟨B', e', p⟩ => hs i σ' B' hi p H' e') fun σ' H' ⟨B', e', p⟩ => hd σ' B' p H' e'
theorem r_forS {s : List Nat} {j : Nat} (h : Ev tl σ B (.str (SX.S s))) (Pv : Nat → L2.St → Hp → Prop) (h0 : Pv 0 σ B)
    (hs : ∀ (i c : Nat) σ' B', s[i]? = some c → Pv i σ' B' → R tu (Lp Pv i D tz) (σ'.set j (some (.str (SX.S [c])))) B') (hd : ∀ σ' B', Pv s.length σ' B' → R tz D σ' B') : R (tSeq (tFor (iStr tl) (gName j) tu) tz) D σ B := fun H e =>
  h H e _ fun H1 e1 => ⟨_, rfl, for_str (x := s) (Up Pv) ⟨B, e.trans e1, h0⟩ (fun i c σ' H' hc ⟨B', e', p⟩ => hs i c σ' B' hc p H' e') fun σ' H' ⟨B', e', p⟩ => hd σ' B' p H' e'⟩
/-- while, by a word and a number that falls -/
theorem r_while (Pv : Nat → L2.St → Hp → Prop) (m0 : Nat) (h0 : Pv m0 σ B)
    (hs : ∀ m σ' B', Pv m σ' B' → ∃ b, EvT t σ' B' b ∧ (b = true → R tu { D with nx := fun σ2 H2 => ∃ m', m' < m ∧ Up Pv m' σ2 H2, ct := fun σ2 H2 => ∃ m', m' < m ∧ Up Pv m' σ2 H2, bk := tz D } σ' B') ∧ (b = false → R tz D σ' B')) : R (tSeq (tWhile t tu) tz) D σ B := fun H e =>
  q_while (Up Pv) m0 ⟨B, e, h0⟩ fun m σ' H' ⟨B', e', p⟩ => by
    obtain ⟨b, hb, h1, h2⟩ := hs m σ' B' p
    exact ⟨b, hb.mono e', fun hb H1 e1 => ⟨fun σ2 H2 => ∃ m', m' < m ∧ Up Pv m' σ2 H2, fun _ _ q => q, h1 hb H1 (e'.trans e1)⟩, fun hb H1 e1 => h2 hb H1 (e'.trans e1)⟩

/-! ### expressions -/
theorem EvN.mono (e : Ex B B') (h : EvN te σ B o) : EvN te σ B' o := fun H1 a Q q => h H1 (e.trans a) Q q
theorem EvP.mono (e : Ex B B') (h : EvP te σ B Pp) : EvP te σ B' Pp := fun H1 a Q q => h H1 (e.trans a) Q q
theorem ev_slice_str {tl th : TO} {s : List Nat} {lo hi : Option Int} (h : Ev te σ B (.str (SX.S s))) (h1 : EvO tl σ B lo) (h2 : EvO th σ B hi) (hz : s.length ≤ 100000) : Ev (tSl rSlS te tl th) σ B (.str (cutS (SX.S s) lo hi)) := fun H1 e _ q =>
  h H1 e _ fun H2 e2 => h1 H2 (e.trans e2) _ fun H3 e3 => h2 H3 ((e.trans e2).trans e3) _ fun H4 e4 => ⟨_, rfl, by rw [SX.S_len]; exact sz_of hz, q H4 ((e2.trans e3).trans e4)⟩
theorem ev_chain {r r' : R2} {a b : Bool} (ha : Ev ta σ B x) (hb : Ev tb σ B y) (hr : RV r x y B (.bl a)) (hc : a = true → Ev tx σ B z) (hr' : a = true → RV r' y z B (.bl b)) : Ev (tChain r r' ta tb tx) σ B (.bl (a && b)) := fun H1 e Q q =>
  ha H1 e _ fun H2 e2 => hb H2 (e.trans e2) _ fun H3 e3 => hr H3 ((e.trans e2).trans e3) _ fun H4 e4 => ⟨a, rfl, by
    cases a with
    | true =>
      show tx σ H4 _
      exact hc rfl H4 (((e.trans e2).trans e3).trans e4) _ fun H5 e5 => hr' rfl H5 ((((e.trans e2).trans e3).trans e4).trans e5) _ fun H6 e6 => q H6 ((((e2.trans e3).trans e4).trans e5).trans e6)
    | false =>
      show Q (.bl false) H4
      exact q H4 ((e2.trans e3).trans e4)⟩
theorem ev_lenS {s : List Nat} (ha : Ev ta σ B (.str (SX.S s))) (hz : s.length ≤ 100000) : Ev (tCB (fun xs H Q => ∃ z, xs = [.str z] ∧ z.length ≤ sizeLine ∧ Q (.int z.length) H) (tCons ta tNil)) σ B (.int (s.length : Int)) := fun H1 e Q q =>
  ha H1 e _ fun H2 e2 => ⟨_, rfl, by rw [SX.S_len]; exact sz_of hz, by rw [SX.S_len]; exact q H2 e2⟩
theorem ev_lenN {xs : List V} (ha : EvN ta σ B (.lst xs)) : Ev (tCB (rLenS K) (tCons ta tNil)) σ B (.int (xs.length : Int)) := fun H1 e Q q => ha H1 e _ fun p H2 _ e2 h2 => ⟨p, xs, rfl, Or.inl (sq_of h2), q H2 e2⟩
theorem ev_int {i : Int} (ha : Ev ta σ B (.int i)) : Ev (tCB (fun xs H Q => (∃ i, xs = [V.int i] ∧ Q (.int i) H) ∨ ∃ k, xs = [.bl k] ∧ Q (.int (if k then 1 else 0)) H) (tCons ta tNil)) σ B (.int i) := fun H1 e Q q =>
  ha H1 e _ fun H2 e2 => .inl ⟨i, rfl, q H2 e2⟩
theorem ev_ord {c : Nat} (ha : Ev ta σ B (.str (SX.S [c]))) : Ev (tCB (fun xs H Q => ∃ x, xs = [V.str x] ∧ x.length = 1 ∧ Q (.int (x.cps.getD 0 0 : Nat)) H) (tCons ta tNil)) σ B (.int (c : Int)) := fun H1 e Q q =>
  ha H1 e _ fun H2 e2 => ⟨_, rfl, rfl, q H2 e2⟩
theorem rv_cmp {p : Int → Int → Bool} {i j : Int} : RV (rI0 fun i j => .bl (p i j)) (.int i) (.int j) B (.bl (p i j)) := rv_I0
theorem rv_ar {f : Int → Int → Int} {i j : Int} : RV (rI0 fun i j => .int (f i j)) (.int i) (.int j) B (.int (f i j)) := rv_I0
theorem rv_arC {C : Int → Int → Prop} {f : Int → Int → Int} {i j : Int} (hc : C i j) : RV (rI C fun i j => .int (f i j)) (.int i) (.int j) B (.int (f i j)) := rv_I hc
theorem rv_addS {a b : List Nat} (hz : a.length + b.length ≤ 100000) : RV (fun x y H Q => ∃ i j, x = V.str i ∧ y = .str j ∧ i.length + j.length ≤ sizeLine ∧ Q (.str (i ++ j)) H) (.str (SX.S a)) (.str (SX.S b)) B (.str (SX.S (a ++ b))) := fun H1 _ _ q =>
  ⟨_, _, rfl, rfl, by rw [SX.S_len, SX.S_len]; exact sz_of hz, by rw [SX.S_cat]; exact q H1 (Ex.refl H1)⟩
/-- a sign of a text -/
theorem rv_inS {c : Nat} {s : List Nat} : RV (fun x y H Q => ∃ (c : Nat) (z : Str), x = .str ⟨#[c]⟩ ∧ y = .str z ∧ Q (.bl (decide (c ∈ z.cps.toList))) H) (.str (SX.S [c])) (.str (SX.S s)) B (.bl (decide (c ∈ s))) := fun H1 _ _ q => ⟨c, SX.S s, rfl, rfl, q H1 (Ex.refl H1)⟩
theorem rv_niS {c : Nat} {s : List Nat} : RV (fun x y H Q => ∃ (c : Nat) (z : Str), x = .str ⟨#[c]⟩ ∧ y = .str z ∧ Q (.bl (!decide (c ∈ z.cps.toList))) H) (.str (SX.S [c])) (.str (SX.S s)) B (.bl (!decide (c ∈ s))) := fun H1 _ _ q => ⟨c, SX.S s, rfl, rfl, q H1 (Ex.refl H1)⟩
theorem rv_ixSt {s : List Nat} {i : Int} (hz : s.length ≤ 100000) (h0 : 0 ≤ i) (h1 : i < s.length) : RV rIxS (.str (SX.S s)) (.int i) B (.str (SX.S [s.getD i.toNat 0])) := by
  refine rv_ixS (by rw [SX.S_len]; exact hz) ?_
  obtain ⟨j, rfl⟩ := Int.eq_ofNat_of_zero_le h0
  have hj : j < s.length := by omega
  refine atI_nat (j := j) ?_
  simp [SX.S, List.getD, List.getElem?_eq_getElem hj]
theorem rv_ixI {ns : List Int} {p : Addr} {i : Int} (h : SqL K B p (ns.map V.int)) (h0 : 0 ≤ i) (h1 : i < ns.length) : RV (rIxL K) (.ref p) (.int i) B (.int (ns.getD i.toNat 0)) := rv_ixL h (atI_ints h0 h1)
theorem rv_isB {a b : Bool} : RV rIsB (.bl a) (.bl b) B (.bl (decide (a = b))) := fun H1 _ _ q => ⟨a, b, rfl, rfl, q H1 (Ex.refl H1)⟩
theorem rv_isN : RV (fun x y H Q => y = .non ∧ Q (.bl (decide (x = .non))) H) x .non B (.bl (decide (x = .non))) := fun H1 _ _ q => ⟨rfl, q H1 (Ex.refl H1)⟩
theorem rv_notN : RV (fun x y H Q => y = .non ∧ Q (.bl (!decide (x = .non))) H) x .non B (.bl (!decide (x = .non))) := fun H1 _ _ q => ⟨rfl, q H1 (Ex.refl H1)⟩
theorem en_lst {ta : TA} {vs : List V} (h : EvA ta σ B vs) (hl : vs.length ≤ 100000) : EvN (tLst ta) σ B (.lst vs) := el_lst h hl
theorem en_tup {ta : TA} {vs : List V} (h : EvA ta σ B vs) (hl : vs.length ≤ 100000) : EvN (tTup ta) σ B (.tup vs) := eu_tup h hl
theorem en_sl {tl th : TO} {a : Addr} {xs : List V} {lo hi : Option Int} (h : Ev te σ B (.ref a)) (h1 : EvO tl σ B lo) (h2 : EvO th σ B hi) (hs : SqL K B a xs) : EvN (tSl (rSlL K) te tl th) σ B (.lst (cutV xs lo hi)) := el_sl h h1 h2 hs
theorem en_dict : EvN tDNewK σ B (.dK []) := fun H1 _ Q q => fun p hp => q p _ hp (Ex.new hp) upd_same
/-- both operands new lists -/
theorem en_cat {xs ys : List V} (ha : EvN ta σ B (.lst xs)) (hb : EvN tb σ B (.lst ys)) (hz : xs.length + ys.length ≤ 100000) : EvN (tOp rCat ta tb) σ B (.lst (xs ++ ys)) := fun H1 e Q k =>
  ha H1 e _ fun p H2 hp1 e2 hp => hb H2 (e.trans e2) _ fun q H3 _ e3 hq => ⟨p, q, xs, ys, rfl, rfl, e3 p _ hp, hq, sz_of hz, fun r hr => k r _ (fresh_back (e2.trans e3) hr) ((e2.trans e3).trans (Ex.new hr)) upd_same⟩
theorem en_catV {xs ys : List V} {a b : Addr} (ha : Ev ta σ B (.ref a)) (hb : Ev tb σ B (.ref b)) (h1 : B a = some (.lst xs)) (h2 : B b = some (.lst ys)) (hz : xs.length + ys.length ≤ 100000) : EvN (tOp rCat ta tb) σ B (.lst (xs ++ ys)) := fun H1 e Q k =>
  ha H1 e _ fun H2 e2 => hb H2 (e.trans e2) _ fun H3 e3 => ⟨a, b, xs, ys, rfl, rfl, ((e.trans e2).trans e3) a _ h1, ((e.trans e2).trans e3) b _ h2, sz_of hz, fun r hr => k r _ (fresh_back (e2.trans e3) hr) ((e2.trans e3).trans (Ex.new hr)) upd_same⟩
theorem en_catVN {xs ys : List V} {a : Addr} (ha : Ev ta σ B (.ref a)) (hb : EvN tb σ B (.lst ys)) (h1 : B a = some (.lst xs)) (hz : xs.length + ys.length ≤ 100000) : EvN (tOp rCat ta tb) σ B (.lst (xs ++ ys)) := fun H1 e Q k =>
  ha H1 e _ fun H2 e2 => hb H2 (e.trans e2) _ fun q H3 _ e3 hq => ⟨a, q, xs, ys, rfl, rfl, ((e.trans e2).trans e3) a _ h1, hq, sz_of hz, fun r hr => k r _ (fresh_back (e2.trans e3) hr) ((e2.trans e3).trans (Ex.new hr)) upd_same⟩
theorem en_catNV {xs ys : List V} {b : Addr} (ha : EvN ta σ B (.lst xs)) (hb : Ev tb σ B (.ref b)) (h1 : B b = some (.lst ys)) (hz : xs.length + ys.length ≤ 100000) : EvN (tOp rCat ta tb) σ B (.lst (xs ++ ys)) := fun H1 e Q k =>
  ha H1 e _ fun p H2 hp1 e2 hp => hb H2 (e.trans e2) _ fun H3 e3 => ⟨p, b, xs, ys, rfl, rfl, e3 p _ hp, ((e.trans e2).trans e3) b _ h1, sz_of hz, fun r hr => k r _ (fresh_back (e2.trans e3) hr) ((e2.trans e3).trans (Ex.new hr)) upd_same⟩
/-- an item of a new list -/
theorem ev_ixN {xs : List V} {i : Int} (ha : EvN ta σ B (.lst xs)) (hb : ∀ B', Ex B B' → Ev tb σ B' (.int i)) (h : atI xs i = some v) : Ev (tOp (rIxL K) ta tb) σ B v := ev_opL1 ha hb fun p H1 hp _ => rv_ixL (sq_of hp) h
/-- sep.join(a new list) -/
theorem ev_joinN {a : Str} {ys : List Str} (ha : Ev ta σ B (.str a)) (hb : EvN tb σ B (.lst (ys.map V.str))) (hz : (ys.map (·.length)).sum + ys.length * a.length ≤ 16777216) :
    Ev (tM1 (fun x xs H Q => ∃ a p, ∃ ys : List Str, x = .str a ∧ xs = [.ref p] ∧ (SqL K H p (ys.map V.str) ∨ SqT K H p (ys.map V.str)) ∧ (ys.map (·.length)).sum + ys.length * a.length ≤ 16777216 ∧ Q (.str (Txt.join a ys)) H) ta tb) σ B (.str (Txt.join a ys)) := fun H1 e Q q =>
  ha H1 e _ fun H2 e2 => ⟨⟨a, rfl⟩, hb H2 (e.trans e2) _ fun p H3 _ e3 hp => ⟨a, p, ys, rfl, rfl, .inl (sq_of hp), hz, q H3 (e2.trans e3)⟩⟩
theorem ev_cS {x : Str} : Ev (tC (.str x)) σ B (.str (SX.S x.cps.toList)) := by
  rw [SX.S_tl]
  exact ev_c
theorem joinL_signs : ∀ cs : List Nat, TL.joinL [] (cs.map fun c => [c]) = cs
  | [] => rfl
  | [c] => rfl
  | c :: d :: r => by
    show [c] ++ ([] ++ TL.joinL [] ((d :: r).map fun c => [c])) = _
    rw [joinL_signs (d :: r)]
    rfl
theorem joinL_len (a : List Nat) : ∀ ys : List (List Nat), (TL.joinL a ys).length ≤ (ys.map (·.length)).sum + ys.length * a.length
  | [] => Nat.zero_le _
  | [y] => by
    show y.length ≤ _
    simp
  | y :: z :: r => by
    have ih := joinL_len a (z :: r)
    show (y ++ (a ++ TL.joinL a (z :: r))).length ≤ _
    rw [List.length_append, List.length_append]
    simp only [List.map_cons, List.sum_cons, List.length_cons, Nat.succ_mul] at ih ⊢
    omega
/-- sep.join(a new list of texts) -/
theorem ev_joinS {a : List Nat} {ys : List (List Nat)} (ha : Ev ta σ B (.str (SX.S a))) (hb : EvN tb σ B (.lst (ys.map fun l => V.str (SX.S l)))) (hz : (ys.map (·.length)).sum + ys.length * a.length ≤ 16777216) :
    Ev (tM1 (fun x xs H Q => ∃ a p, ∃ ys : List Str, x = .str a ∧ xs = [.ref p] ∧ (SqL K H p (ys.map V.str) ∨ SqT K H p (ys.map V.str)) ∧ (ys.map (·.length)).sum + ys.length * a.length ≤ 16777216 ∧ Q (.str (Txt.join a ys)) H) ta tb) σ B (.str (SX.S (TL.joinL a ys))) := by
  rw [← SX.join_S]
  refine ev_joinN ha (by rw [List.map_map]; exact hb) ?_
  rw [SX.lens, List.length_map, SX.S_len]
  exact hz
theorem sum_ones : ∀ cs : List Nat, ((cs.map fun c => [c]).map (·.length)).sum = cs.length
  | [] => rfl
  | c :: r => by
    have ih := sum_ones r
    simp only [List.map_cons, List.sum_cons, List.length_cons, List.length_nil] at ih ⊢
    omega
/-- ''.join(a new list of single signs) -/
theorem ev_joinC {a cs : List Nat} (ha : Ev ta σ B (.str (SX.S a))) (h0 : a = []) (hb : EvN tb σ B (.lst (cs.map fun c => V.str (SX.S [c])))) (hz : cs.length ≤ 100000) :
    Ev (tM1 (fun x xs H Q => ∃ a p, ∃ ys : List Str, x = .str a ∧ xs = [.ref p] ∧ (SqL K H p (ys.map V.str) ∨ SqT K H p (ys.map V.str)) ∧ (ys.map (·.length)).sum + ys.length * a.length ≤ 16777216 ∧ Q (.str (Txt.join a ys)) H) ta tb) σ B (.str (SX.S cs)) := by
  subst h0
  have e := ev_joinS (K := K) (a := []) (ys := cs.map fun c => [c]) ha (by rw [List.map_map]; exact hb) (by rw [sum_ones]; simp; omega)
  rw [joinL_signs] at e
  exact e
theorem en_splitS {a b : List Nat} (ha : Ev ta σ B (.str (SX.S a))) (hb : Ev tb σ B (.str (SX.S b))) (h0 : b ≠ []) (hk : b.all (· < 256) = true) (hz : a.length ≤ 100000) :
    EvN (tM1 (fun x xs H Q => ∃ a b, x = .str a ∧ xs = [.str b] ∧ (b.length == 0) = false ∧ a.length + 2 ≤ sizeLine ∧ rNewStrs (Txt.split a b) H Q) ta tb) σ B (.lst ((TL.spl b 0 [] a).map fun l => V.str (SX.S l))) := by
  have e : (TL.spl b 0 [] a).map (fun l => V.str (SX.S l)) = (Txt.split (SX.S a) (SX.S b)).map V.str := by
    rw [SX.split_S h0 hk, List.map_map]
    rfl
  rw [e]
  exact fun H1 e Q q => ha H1 e _ fun H2 e2 => ⟨⟨_, rfl⟩, hb H2 (e.trans e2) _ fun H3 e3 => ⟨_, _, rfl, rfl, by
    rw [SX.S_len]
    cases b with
    | nil => exact absurd rfl h0
    | cons c r => rfl, by rw [SX.S_len]; exact Nat.le_trans (Nat.add_le_add_right hz 2) (by decide), fun p hp => q p _ (fresh_back (e2.trans e3) hp) ((e2.trans e3).trans (Ex.new hp)) upd_same⟩⟩
theorem spl_len (S : List Nat) : ∀ (l acc : List Nat) (k : Nat), ∀ p ∈ TL.spl S k acc l, p.length ≤ acc.length + l.length
  | [], acc, 0, p, h => by
    rw [TL.spl_nil] at h
    simp at h
    subst h
    omega
  | [], acc, k + 1, p, h => by
    rw [TL.spl_nil] at h
    simp at h
    subst h
    omega
  | c :: r, acc, 0, p, h => by
    unfold TL.spl at h
    split at h
    · rcases List.mem_cons.mp h with h | h
      · subst h
        omega
      · have := spl_len S r [] _ p h
        simp at this ⊢
        omega
    · have := spl_len S r _ _ p h
      simp at this ⊢
      omega
  | c :: r, acc, k + 1, p, h => by
    unfold TL.spl at h
    have := spl_len S r acc k p h
    simp at this ⊢
    omega
/-- what a for (of a comprehension) goes over, the heap as it was -/
def EvI (wi : TI) (σ : L2.St) (B : Hp) (xs : List V) : Prop := ∀ H1, Ex B H1 → ∀ R : It → Hp → Prop, (∀ (J : It) (H2 : Hp) (G : Hp → Prop), Ex H1 H2 → Walk J xs.length G (YAt xs) → (∀ H3, Ex H2 H3 → G H3) → R J H2) → wi σ H1 R
theorem ei_list {a : Addr} {xs : List V} (h : Ev tl σ B (.ref a)) (hx : SqL K B a xs) : EvI (iList K tl) σ B xs := fun H1 e R k => h H1 e _ fun H2 e2 => ⟨a, rfl, ⟨xs, ex_l (e.trans e2) hx⟩, k _ H2 _ e2 walk_list fun H3 e3 => ex_l ((e.trans e2).trans e3) hx⟩
theorem ei_listN {xs : List V} (h : EvN tl σ B (.lst xs)) : EvI (iList K tl) σ B xs := fun H1 e R k => h H1 e _ fun p H2 hp e2 h2 => ⟨p, rfl, ⟨xs, sq_of h2⟩, k _ H2 _ e2 walk_list fun H3 e3 => sq_of (e3 p _ h2)⟩
theorem ei_str {s : List Nat} (h : Ev tl σ B (.str (SX.S s))) : EvI (iStr tl) σ B (s.map fun c => .str (SX.S [c])) := fun H1 e R k => h H1 e _ fun H2 e2 => ⟨_, rfl, k _ H2 (fun _ => True) e2 (by
  have hz : (SX.S s).cps.size = s.length := by simp [SX.S]
  have w := walk_str (z := SX.S s)
  rw [hz] at w
  rw [List.length_map]
  refine w.mono (fun _ h => h) fun i H x H' hi _ y => ?_
  obtain ⟨y1, c, hc, hv⟩ := y
  refine ⟨y1, ?_⟩
  have hc' : s[i]? = some c := by simpa [SX.S] using hc
  rw [List.getElem?_map, hc', hv]
  rfl) fun _ _ => trivial⟩
theorem ei_range1 {ta : TA} {n : Int} (h : EvA ta σ B [.int n]) (hn : 0 ≤ n ∧ n ≤ 100000) : EvI (iRng1 ta) σ B ((List.range n.toNat).map fun i : Nat => V.int (i : Int)) := fun H1 e R k => h H1 e _ fun H2 e2 => by
  refine ⟨n, rfl, by omega, by omega, k _ H2 (fun _ => True) e2 ?_ fun _ _ => trivial⟩
  rw [List.length_map, List.length_range]
  refine walk_range.mono (fun _ h => h) fun i H x H' hi _ y => ⟨y.1, ?_⟩
  rw [List.getElem?_map, List.getElem?_range hi, y.2]
  show some (V.int (i : Int)) = some (V.int ((0 : Int) + (i : Int)))
  rw [Int.zero_add]
/-- a comprehension of values -/
theorem en_lc {wi : TI} {xs : List V} {j : Nat} {vs : List Nat} (p : V → Bool) (f : V → V) (h : EvI wi σ B xs) (hz : xs.length ≤ 100000) (hw : ∀ x, wipe ((wipe σ vs).set j (some x)) vs = wipe σ vs)
    (ht : ∀ x ∈ xs, ∀ B', Ex B B' → EvT t ((wipe σ vs).set j (some x)) B' (p x)) (he : ∀ x ∈ xs, ∀ B', Ex B B' → p x = true → Ev te ((wipe σ vs).set j (some x)) B' (f x)) : EvN (tLc wi (gName j) t te vs) σ B (.lst ((xs.filter p).map f)) := fun H1 e Q q =>
  h H1 e _ fun J H2 G e2 w hG => fun Dl hD => lc_it w (fun i H => H2 Dl = none ∧ Ex H2 H ∧ H Dl = some (.lst (((xs.take i).filter p).map f))) ⟨hD, Ex.new hD, upd_same⟩ (fun i H _ a => hG H a.2.1) (fun i x H H' hi a y => by
    obtain ⟨a1, a2, a3⟩ := a
    obtain ⟨y1, y2⟩ := y
    subst y1
    have hm : x ∈ xs := List.mem_of_getElem? y2
    have eB : Ex B H' := (e.trans e2).trans a2
    have et : (xs.take (i + 1)).filter p = (xs.take i).filter p ++ [x].filter p := by
      rw [List.take_add_one, y2, List.filter_append]
      rfl
    refine ⟨hw x, ht x hm H' eB H' (Ex.refl H') _ fun H3 e3 => ?_⟩
    cases hp : p x with
    | true =>
      refine he x hm H' eB hp H3 e3 _ fun H4 e4 => ⟨_, e4 Dl _ (e3 Dl _ a3), ?_, a1, Ex.mut ((a2.trans e3).trans e4) a1, ?_⟩
      · rw [List.length_map]
        have h1 := List.length_filter_le p (xs.take i)
        rw [List.length_take] at h1
        exact Nat.lt_of_le_of_lt (Nat.le_trans h1 (Nat.le_trans (Nat.min_le_right _ _) hz)) (by decide)
      · rw [upd_same, et, List.map_append, List.filter_cons, if_pos hp]
        rfl
    | false =>
      refine ⟨a1, a2.trans e3, ?_⟩
      rw [et, List.filter_cons, if_neg (by rw [hp]; decide)]
      show H3 Dl = some (.lst (((xs.take i).filter p ++ []).map f))
      rw [List.append_nil]
      exact e3 Dl _ a3) fun H a => q Dl H (fresh_back e2 a.1) (e2.trans a.2.1) (by
        have a3 := a.2.2
        rw [List.take_length] at a3
        exact a3)
theorem et_yes : EvT tYes σ B true := fun H1 _ _ q => q H1 (Ex.refl H1)
theorem filter_yes {α : Type} (xs : List α) : xs.filter (fun _ => true) = xs := List.filter_eq_self.mpr fun _ _ => rfl
/-- .. without a test -/
theorem en_lcA {wi : TI} {xs : List V} {j : Nat} {vs : List Nat} (f : V → V) (h : EvI wi σ B xs) (hz : xs.length ≤ 100000) (hw : ∀ x, wipe ((wipe σ vs).set j (some x)) vs = wipe σ vs)
    (he : ∀ x ∈ xs, ∀ B', Ex B B' → Ev te ((wipe σ vs).set j (some x)) B' (f x)) : EvN (tLc wi (gName j) tYes te vs) σ B (.lst (xs.map f)) := by
  have e := en_lc (t := tYes) (fun _ => true) f h hz hw (fun _ _ _ _ => et_yes) fun x hx B' a _ => he x hx B' a
  rw [filter_yes] at e
  exact e
/-- over ints -/
theorem en_lcI {wi : TI} {ns : List Int} {j : Nat} {vs : List Nat} (f : Int → V) (h : EvI wi σ B (ns.map V.int)) (hz : ns.length ≤ 100000) (hw : ∀ x, wipe ((wipe σ vs).set j (some x)) vs = wipe σ vs)
    (he : ∀ n ∈ ns, ∀ B', Ex B B' → Ev te ((wipe σ vs).set j (some (.int n))) B' (f n)) : EvN (tLc wi (gName j) tYes te vs) σ B (.lst (ns.map f)) := by
  have e := en_lcA (te := te) (σ := σ) (B := B) (j := j) (vs := vs) (fun x => match x with | .int n => f n | _ => .non) h (by rw [List.length_map]; exact hz) hw fun x hx B' a => by
    obtain ⟨n, hn, rfl⟩ := List.mem_map.mp hx
    exact he n hn B' a
  rw [List.map_map] at e
  exact e
/-- over the signs of a text -/
theorem en_lcS {wi : TI} {s : List Nat} {j : Nat} {vs : List Nat} (f : Nat → V) (h : EvI wi σ B (s.map fun c => .str (SX.S [c]))) (hz : s.length ≤ 100000) (hw : ∀ x, wipe ((wipe σ vs).set j (some x)) vs = wipe σ vs)
    (he : ∀ c ∈ s, ∀ B', Ex B B' → Ev te ((wipe σ vs).set j (some (.str (SX.S [c])))) B' (f c)) : EvN (tLc wi (gName j) tYes te vs) σ B (.lst (s.map f)) := by
  have e := en_lcA (te := te) (σ := σ) (B := B) (j := j) (vs := vs) (fun x => match x with | .str z => f (z.cps.getD 0 0) | _ => .non) h (by rw [List.length_map]; exact hz) hw fun x hx B' a => by
    obtain ⟨c, hc, rfl⟩ := List.mem_map.mp hx
    exact he c hc B' a
  rw [List.map_map] at e
  exact e
theorem en_split {a b : Str} (ha : Ev ta σ B (.str a)) (hb : Ev tb σ B (.str b)) (h0 : (b.length == 0) = false) (hz : a.length + 2 ≤ sizeLine) :
    EvN (tM1 (fun x xs H Q => ∃ a b, x = .str a ∧ xs = [.str b] ∧ (b.length == 0) = false ∧ a.length + 2 ≤ sizeLine ∧ rNewStrs (Txt.split a b) H Q) ta tb) σ B (.lst ((Txt.split a b).map V.str)) := fun H1 e Q q =>
  ha H1 e _ fun H2 e2 => ⟨⟨a, rfl⟩, hb H2 (e.trans e2) _ fun H3 e3 => ⟨a, b, rfl, rfl, h0, hz, fun p hp => q p _ (fresh_back (e2.trans e3) hp) ((e2.trans e3).trans (Ex.new hp)) upd_same⟩⟩
theorem ev_isi {ta : TA} {c : V} {tv uv : Value} {b : Bool} (h : EvA ta σ B [x, c]) (hc : ClsV c uv) (ht : ∀ H, Ex B H → TyX K H x tv) (hb : PySem.W.kitOne K tv uv = some b) : Ev (tCB (rIsi K) ta) σ B (.bl b) := fun H1 e Q q =>
  h H1 e _ fun H2 e2 => ⟨x, c, tv, uv, b, rfl, hc, ht H2 (e.trans e2), hb, q H2 e2⟩
end
/-- promises: a value; a new object -/
def PV (pre : List V → Hp → V → Prop) : Sp := fun vs H Q _ => ∃ z, pre vs H z ∧ ∀ H2, Ex H H2 → Q z H2
def PN (pre : List V → Hp → HO → Prop) : Sp := fun vs H Q _ => ∃ o, pre vs H o ∧ ∀ p H2, H p = none → Ex H H2 → H2 p = some o → Q (.ref p) H2
section
variable {σ : L2.St} {B : Hp} {ta : TA} {vs : List V} {E : XK} {z : V} {o : HO}
theorem ev_pv {pre : List V → Hp → V → Prop} (h : EvA ta σ B vs) (hp : ∀ H, Ex B H → pre (vs ++ []) H z) : Ev (tCall (PV pre) [] E ta) σ B z := fun H1 e Q q =>
  h H1 e _ fun H2 e2 => ⟨z, hp H2 (e.trans e2), fun H3 e3 => q H3 (e2.trans e3)⟩
theorem en_pn {pre : List V → Hp → HO → Prop} (h : EvA ta σ B vs) (hp : ∀ H, Ex B H → pre (vs ++ []) H o) : EvN (tCall (PN pre) [] E ta) σ B o := fun H1 e Q q =>
  h H1 e _ fun H2 e2 => ⟨o, hp H2 (e.trans e2), fun p H3 hp' e3 h3 => q p H3 (fresh_back e2 hp') (e2.trans e3) h3⟩
end
/-- .. a new object of which this is known -/
def EvNd (te : TE) (σ : L2.St) (B : Hp) (F : HO → Prop) : Prop := ∀ H1, Ex B H1 → ∀ Q : VK, (∀ p H2 o, H1 p = none → Ex H1 H2 → H2 p = some o → F o → Q (.ref p) H2) → te σ H1 Q
def PNd (pre : List V → Hp → (HO → Prop) → Prop) : Sp := fun vs H Q _ => ∃ F, pre vs H F ∧ ∀ p H2 o, H p = none → Ex H H2 → H2 p = some o → F o → Q (.ref p) H2
section
variable {σ : L2.St} {B : Hp} {te : TE} {tz : TS} {D : Ends} {ta : TA} {vs : List V} {E : XK} {F : HO → Prop}
theorem en_pnd {pre : List V → Hp → (HO → Prop) → Prop} (h : EvA ta σ B vs) (hp : ∀ H, Ex B H → pre (vs ++ []) H F) : EvNd (tCall (PNd pre) [] E ta) σ B F := fun H1 e Q q =>
  h H1 e _ fun H2 e2 => ⟨F, hp H2 (e.trans e2), fun p H3 o hp' e3 h3 hf => q p H3 o (fresh_back e2 hp') (e2.trans e3) h3 hf⟩
theorem r_asgNd {i : Nat} (h : EvNd te σ B F) (k : ∀ p o, B p = none → F o → R tz D (σ.set i (some (.ref p))) (upd B p o)) : R (tSeq (tAsg te (gName i)) tz) D σ B := fun H a =>
  h H a _ fun p H2 o hp e hh hf => k p o (fresh_back a hp) hf H2 (ex_up (a.trans e) hh)
theorem r_newd {i : Nat} (h : EvNd te σ B F) (k : ∀ p B' o, B p = none → Ex B B' → B' p = some o → F o → R tz D (σ.set i (some (.ref p))) B') : R (tSeq (tAsg te (gName i)) tz) D σ B := r_asgNd h fun p o hp hf => k p _ o hp (Ex.new hp) upd_same hf
end

/-! ### draws -/
/-- a new list of so many ints below the bound -/
def DrawO (m b : Int) (o : HO) : Prop := ∃ ns : List Int, o = .lst (ns.map V.int) ∧ (ns.length : Int) = m ∧ ∀ n ∈ ns, 0 ≤ n ∧ n < b
def spDraw : Sp := PNd fun vs _ F => ∃ c m b : Int, vs = [.int c, .int m, .int b] ∧ 0 ≤ m ∧ m ≤ 1000 ∧ 0 < b ∧ b < 1073741824 ∧ F = DrawO m b
end FK

set_option Elab.async false
set_option linter.all false
set_option maxRecDepth 100000
namespace K04
open PySem PySem.Spec PyProof.Rows L2 Evl FK
def topS (i : Nat) : Stmt := PySem.Challenge.pw_formkeeper_k04_names.main.body.getD i (.Pass ⟨0, 0, 0, 0⟩)
abbrev s_is_simple_name : Stmt := topS 4
theorem sc_is_simple_name : FnScope ["text", "character"] ["text"] (defScope s_is_simple_name) := ⟨rfl, rfl, rfl, by decide +kernel, rfl, by decide +kernel, by decide +kernel⟩
abbrev s_is_full_name : Stmt := topS 5
theorem sc_is_full_name : FnScope ["text", "part"] ["text"] (defScope s_is_full_name) := ⟨rfl, rfl, rfl, by decide +kernel, rfl, by decide +kernel, by decide +kernel⟩
abbrev s__law_draw : Stmt := topS 7
theorem sc__law_draw : FnScope ["cell", "many", "bound", "numbers", "k", "seed", "mixed"] ["cell", "many", "bound"] (defScope s__law_draw) := ⟨rfl, rfl, rfl, by decide +kernel, rfl, by decide +kernel, by decide +kernel⟩
abbrev s__law_simple : Stmt := topS 8
theorem sc__law_simple : FnScope ["text", "letters", "sign"] ["text"] (defScope s__law_simple) := ⟨rfl, rfl, rfl, by decide +kernel, rfl, by decide +kernel, by decide +kernel⟩
abbrev s__law_full : Stmt := topS 9
theorem sc__law_full : FnScope ["text", "part"] ["text"] (defScope s__law_full) := ⟨rfl, rfl, rfl, by decide +kernel, rfl, by decide +kernel, by decide +kernel⟩
abbrev s_law : Stmt := topS 10
theorem sc_law : FnScope ["script", "cell", "numbers", "size", "signs", "text", "words", "told", "whole", "number"] ["script"] (defScope s_law) := ⟨rfl, rfl, rfl, by decide +kernel, rfl, by decide +kernel, by decide +kernel⟩
def LET : List Nat := ("ABCDEFGHIJKLMNOPQRSTUVWXYZabcdefghijklmnopqrstuvwxyz_" : Str).cps.toList
def LE2 : List Nat := ("abcdefghijklmnopqrstuvwxyzABCDEFGHIJKLMNOPQRSTUVWXYZ_" : Str).cps.toList
def DIG : List Nat := ("0123456789" : Str).cps.toList
/-- what a simple name is, over the given letters -/
def simpB (L : List Nat) (t : List Nat) : Bool :=
  if 1 ≤ t.length ∧ t.length ≤ 40 ∧ t.getD 0 0 ∈ L then t.all fun c => decide (c ∈ L) || decide (c ∈ DIG) else false
theorem simpB_eq (t : List Nat) : simpB LET t = simpB LE2 t := by
  have h : ∀ c, c ∈ LET ↔ c ∈ LE2 := by
    have e1 : LET = [65, 66, 67, 68, 69, 70, 71, 72, 73, 74, 75, 76, 77, 78, 79, 80, 81, 82, 83, 84, 85, 86, 87, 88, 89, 90] ++ [97, 98, 99, 100, 101, 102, 103, 104, 105, 106, 107, 108, 109, 110, 111, 112, 113, 114, 115, 116, 117, 118, 119, 120, 121, 122] ++ [95] := by decide +kernel
    have e2 : LE2 = [97, 98, 99, 100, 101, 102, 103, 104, 105, 106, 107, 108, 109, 110, 111, 112, 113, 114, 115, 116, 117, 118, 119, 120, 121, 122] ++ [65, 66, 67, 68, 69, 70, 71, 72, 73, 74, 75, 76, 77, 78, 79, 80, 81, 82, 83, 84, 85, 86, 87, 88, 89, 90] ++ [95] := by decide +kernel
    intro c
    rw [e1, e2, List.mem_append, List.mem_append, List.mem_append, List.mem_append]
    exact ⟨fun h => by rcases h with (h | h) | h; exact .inl (.inr h); exact .inl (.inl h); exact .inr h, fun h => by rcases h with (h | h) | h; exact .inl (.inr h); exact .inl (.inl h); exact .inr h⟩
  unfold simpB
  simp only [h]
def fullB (L : List Nat) (t : List Nat) : Bool := if t.length ≤ 40 then (TL.spl [46] 0 [] t).all (simpB L) else false
theorem fullB_eq (t : List Nat) : fullB LET t = fullB LE2 t := by
  unfold fullB
  have : simpB LET = simpB LE2 := funext simpB_eq
  rw [this]
structure Tx (mg : Str → Option Value) : Prop where
  g_LETTERS : ∃ u, mg "LETTERS" = some u ∧ RelV (.str (SX.S LET)) u
  g_DIGITS : ∃ u, mg "DIGITS" = some u ∧ RelV (.str (SX.S DIG)) u
  g_LONGEST_NAME : ∃ u, mg "LONGEST_NAME" = some u ∧ RelV (.int 40) u
  z_len : mg "len" = none
  z_int : mg "int" = none
  z_range : mg "range" = none
  z_isinstance : mg "isinstance" = none
  z_bool : mg "bool" = none
def spTB (g : List Nat → Bool) : Sp := PV fun vs _ z => ∃ t : List Nat, vs = [.str (SX.S t)] ∧ t.length ≤ 1000 ∧ z = .bl (g t)
section
variable {P : Program} {w : World} {K : PySem.W.Frag} {mg : Str → Option Value} {base : Heap}
theorem ok_simple (D : Def K mg "is_simple_name" s_is_simple_name ["text"]) (T : Tx mg) : Cal CX0 P w K mg base 1 "is_simple_name" (spTB (simpB LET)) := by
  refine cal0 D sc_is_simple_name (fun vs H Q E h => ?_) (fun f cdv A outer s H vs Q E hr h => ?_)
  · obtain ⟨_, ⟨t, rfl, _⟩, _⟩ := h
    rfl
  obtain ⟨_, ⟨t, rfl, hl, rfl⟩, q⟩ := h
  refine ⟨_, (pss_cons (ps_if (pw_or (pt_not (pt_chain op_le op_le pe_int (pe_callB call_len_str (by rfl) T.z_len PySem.boot_len (pa_cons (pv 0) pa_nil)) (pe_gc (by rfl) T.g_LONGEST_NAME))) (pw_or1 (pt_cmpR op_notIn_sign (pe_ix ix_str (pv 0) pe_int (fun _ _ => rfl)) (pe_gc (by rfl) T.g_LETTERS) (by with_unfolding_all rfl)))).pt
      (pss_cons (ps_ret pe_bl) pss_nil)
      pss_nil)
    (pss_cons (ps_for PassesOwn.never rfl (pi_str (pv 0)) (pg_name (i := 1) sc_is_simple_name.nd rfl (.inl rfl))
      (pss_cons (ps_if (pw_and (pt_cmpR op_notIn_sign (pv 1) (pe_gc (by rfl) T.g_LETTERS) (by with_unfolding_all rfl)) (pw_and1 (pt_cmpR op_notIn_sign (pv 1) (pe_gc (by rfl) T.g_DIGITS) (by with_unfolding_all rfl)))).pt
        (pss_cons (ps_ret pe_bl) pss_nil)
        pss_nil) pss_nil))
    (pss_cons (ps_ret pe_bl) pss_nil))), R.go ?_⟩
  refine r_when (et_or (et_not (et_test (ev_chain ev_c (ev_lenS (ev_var rfl) (by omega)) rv_cmp (fun _ => ev_c) (fun _ => rv_cmp)))) (fun hb => (et_test (ev_op (ev_op (ev_var rfl) ev_c (rv_ixSt (by omega) (by omega) ?_)) ev_c rv_niS)))) (fun hb => ?_) (fun hb => ?_)
  · simp at hb
    omega
  · refine r_ret ev_c (fun H1 e1 => ?_)
    have e : simpB LET t = false := if_neg fun h => by
      simp at hb h
      have := h.2.2
      rcases hb with hb | hb
      · omega
      · exact hb this
    rw [e] at q
    exact q H1 e1
  have hb' : 1 ≤ t.length ∧ t.length ≤ 40 ∧ t.getD 0 0 ∈ LET := by
    simp at hb
    simp
    exact ⟨by omega, by omega, hb.2⟩
  have e : simpB LET t = t.all fun c => decide (c ∈ LET) || decide (c ∈ DIG) := if_pos hb'
  rw [e] at q
  refine r_forS (ev_var rfl) (fun i σ B => ∃ y, σ = [some (.str (SX.S t)), y] ∧ Ex H B ∧ (t.take i).all (fun c => decide (c ∈ LET) || decide (c ∈ DIG)) = true) ⟨none, rfl, Ex.refl _, rfl⟩ (fun i c σ B hc hI => ?_) (fun σ B hI => ?_)
  · obtain ⟨y, rfl, eB, hI⟩ := hI
    refine r_when (et_and (et_test (ev_op (ev_var rfl) ev_c rv_niS)) (fun hb => (et_test (ev_op (ev_var rfl) ev_c rv_niS)))) (fun hb => ?_) (fun hb => ?_)
    · refine r_ret ev_c (fun H1 e1 => ?_)
      have e : (t.all fun c => decide (c ∈ LET) || decide (c ∈ DIG)) = false := by
        rw [List.all_eq_false]
        refine ⟨c, List.mem_of_getElem? hc, ?_⟩
        simpa using hb
      rw [e] at q
      exact q H1 (eB.trans e1)
    · refine r_up ⟨_, rfl, eB, ?_⟩
      rw [List.take_add_one, hc, List.all_append, hI]
      by_cases h1 : c ∈ LET <;> by_cases h2 : c ∈ DIG <;> simp_all
  · obtain ⟨y, rfl, eB, hI⟩ := hI
    refine r_ret ev_c (fun H1 e1 => ?_)
    rw [List.take_length] at hI
    rw [hI] at q
    exact q H1 (eB.trans e1)
theorem ok_lsimple (D : Def K mg "_law_simple" s__law_simple ["text"]) (T : Tx mg) : Cal CX0 P w K mg base 1 "_law_simple" (spTB (simpB LE2)) := by
  refine cal0 D sc__law_simple (fun vs H Q E h => ?_) (fun f cdv A outer s H vs Q E hr h => ?_)
  · obtain ⟨_, ⟨t, rfl, _⟩, _⟩ := h
    rfl
  obtain ⟨_, ⟨t, rfl, hl, rfl⟩, q⟩ := h
  refine ⟨_, (pss_cons (ps_set (i := 1) sc__law_simple.nd rfl (.inl rfl) pe_str)
    (pss_cons (ps_if (pw_or (pt_cmpR op_lt (pe_callB call_len_str (by rfl) T.z_len PySem.boot_len (pa_cons (pv 0) pa_nil)) pe_int (nomark _)) (pw_or (pt_cmpR op_gt (pe_callB call_len_str (by rfl) T.z_len PySem.boot_len (pa_cons (pv 0) pa_nil)) pe_int (nomark _)) (pw_or1 (pt_cmpR op_notIn_sign (pe_ix ix_str (pv 0) pe_int (fun _ _ => rfl)) (pv 1) (by with_unfolding_all rfl))))).pt
      (pss_cons (ps_ret pe_bl) pss_nil)
      pss_nil)
    (pss_cons (ps_for PassesOwn.never rfl (pi_str (pv 0)) (pg_name (i := 2) sc__law_simple.nd rfl (.inl rfl))
      (pss_cons (ps_if (pw_and (pt_cmpR op_notIn_sign (pv 2) (pv 1) (by with_unfolding_all rfl)) (pw_and1 (pt_cmpR op_notIn_sign (pv 2) pe_str (by with_unfolding_all rfl)))).pt
        (pss_cons (ps_ret pe_bl) pss_nil)
        pss_nil) pss_nil))
    (pss_cons (ps_ret pe_bl) pss_nil)))), R.go ?_⟩
  refine r_asg (v := .str (SX.S LE2)) ev_cS ?_
  refine r_when (et_or (et_test (ev_op (ev_lenS (ev_var rfl) (by omega)) ev_c rv_cmp)) (fun hb => (et_or (et_test (ev_op (ev_lenS (ev_var rfl) (by omega)) ev_c rv_cmp)) (fun hb2 => (et_test (ev_op (ev_op (ev_var rfl) ev_c (rv_ixSt (by omega) (by omega) (by simp only [decide_eq_false_iff_not] at hb hb2; omega))) (ev_var rfl) rv_niS)))))) (fun hb => ?_) (fun hb => ?_)
  · refine r_ret ev_c (fun H1 e1 => ?_)
    have e : simpB LE2 t = false := if_neg fun h => by
      simp at hb h
      have := h.2.2
      rcases hb with hb | hb | hb
      · omega
      · omega
      · exact hb this
    rw [e] at q
    exact q H1 e1
  have hb' : 1 ≤ t.length ∧ t.length ≤ 40 ∧ t.getD 0 0 ∈ LE2 := by
    simp at hb
    simp
    exact ⟨by omega, by omega, hb.2.2⟩
  have e : simpB LE2 t = t.all fun c => decide (c ∈ LE2) || decide (c ∈ DIG) := if_pos hb'
  rw [e] at q
  refine r_forS (ev_var rfl) (fun i σ B => ∃ y, σ = [some (.str (SX.S t)), some (.str (SX.S LE2)), y] ∧ Ex H B ∧ (t.take i).all (fun c => decide (c ∈ LE2) || decide (c ∈ DIG)) = true) ⟨none, rfl, Ex.refl _, rfl⟩ (fun i c σ B hc hI => ?_) (fun σ B hI => ?_)
  · obtain ⟨y, rfl, eB, hI⟩ := hI
    refine r_when (et_and (et_test (ev_op (ev_var rfl) (ev_var rfl) rv_niS)) (fun hb => (et_test (ev_op (ev_var rfl) ev_cS rv_niS)))) (fun hb => ?_) (fun hb => ?_)
    · refine r_ret ev_c (fun H1 e1 => ?_)
      have e : (t.all fun c => decide (c ∈ LE2) || decide (c ∈ DIG)) = false := by
        rw [List.all_eq_false]
        refine ⟨c, List.mem_of_getElem? hc, ?_⟩
        have hb : (!decide (c ∈ LE2) && !decide (c ∈ DIG)) = true := hb
        simpa using hb
      rw [e] at q
      exact q H1 (eB.trans e1)
    · refine r_up ⟨_, rfl, eB, ?_⟩
      have hb : (!decide (c ∈ LE2) && !decide (c ∈ DIG)) = false := hb
      rw [List.take_add_one, hc, List.all_append, hI]
      by_cases h1 : c ∈ LE2 <;> by_cases h2 : c ∈ DIG <;> simp_all
  · obtain ⟨y, rfl, eB, hI⟩ := hI
    refine r_ret ev_c (fun H1 e1 => ?_)
    rw [List.take_length] at hI
    rw [hI] at q
    exact q H1 (eB.trans e1)
theorem ok_full (D : Def K mg "is_full_name" s_is_full_name ["text"]) (T : Tx mg) (c_is_simple_name : Cal CX0 P w K mg base 1 "is_simple_name" (spTB (simpB LET))) : Cal CX0 P w K mg base 2 "is_full_name" (spTB (fullB LET)) := by
  refine cal0 D sc_is_full_name (fun vs H Q E h => ?_) (fun f cdv A outer s H vs Q E hr h => ?_)
  · obtain ⟨_, ⟨t, rfl, _⟩, _⟩ := h
    rfl
  obtain ⟨_, ⟨t, rfl, hl, rfl⟩, q⟩ := h
  refine ⟨_, (pss_cons (ps_if (pt_cmpR op_gt (pe_callB call_len_str (by rfl) T.z_len PySem.boot_len (pa_cons (pv 0) pa_nil)) (pe_gc (by rfl) T.g_LONGEST_NAME) (nomark _))
      (pss_cons (ps_ret pe_bl) pss_nil)
      pss_nil)
    (pss_cons (ps_for PassesOwn.never rfl (pi_list (pe_split (pv 0) pe_str)) (pg_name (i := 1) sc_is_full_name.nd rfl (.inl rfl))
      (pss_cons (ps_if (pt_not (pt_val (pe_c c_is_simple_name hr (by decide) (by rfl) (pa_cons (pv 1) pa_nil))))
        (pss_cons (ps_ret pe_bl) pss_nil)
        pss_nil) pss_nil))
    (pss_cons (ps_ret pe_bl) pss_nil))), R.go ?_⟩
  refine r_when (et_test (ev_op (ev_lenS (ev_var rfl) (by omega)) ev_c rv_cmp)) (fun hb => ?_) (fun hb => ?_)
  · refine r_ret ev_c (fun H1 e1 => ?_)
    simp at hb
    rw [show fullB LET t = false from if_neg (by omega)] at q
    exact q H1 e1
  simp at hb
  rw [show fullB LET t = (TL.spl [46] 0 [] t).all (simpB LET) from if_pos (by omega)] at q
  refine r_forN (en_splitS (b := [46]) (ev_var rfl) ev_cS (by decide) (by decide +kernel) (by omega)) (fun p i σ B => ∃ y, σ = [some (.str (SX.S t)), y] ∧ Ex H B ∧ B p = some (.lst ((TL.spl [46] 0 [] t).map fun l => V.str (SX.S l))) ∧ ((TL.spl [46] 0 [] t).take i).all (simpB LET) = true)
    (fun p hp => ⟨none, rfl, Ex.new hp, upd_same, rfl⟩) (fun p i σ B _ hI => ?_) (fun p i x σ B hx hI => ?_) (fun p σ B hI => ?_)
  · obtain ⟨_, _, _, h, _⟩ := hI
    exact sq_of h
  · obtain ⟨y, rfl, eB, hp, hI⟩ := hI
    rw [List.getElem?_map] at hx
    obtain ⟨l, hl2, rfl⟩ := Option.map_eq_some_iff.mp hx
    have hm : l ∈ TL.spl [46] 0 [] t := List.mem_of_getElem? hl2
    have hlen : l.length ≤ 1000 := by
      have := spl_len _ _ _ _ l hm
      simp at this
      omega
    refine r_when (et_not (et_B (ev_pv (ea_cons (ev_var rfl) ea_nil) (fun H _ => ⟨l, rfl, hlen, rfl⟩)))) (fun hb => ?_) (fun hb => ?_)
    · refine r_ret ev_c (fun H1 e1 => ?_)
      have e : (TL.spl [46] 0 [] t).all (simpB LET) = false := by
        rw [List.all_eq_false]
        exact ⟨l, hm, by simpa using hb⟩
      rw [e] at q
      exact q H1 (eB.trans e1)
    · refine r_up ⟨_, rfl, eB, hp, ?_⟩
      rw [List.take_add_one, hl2, List.all_append, hI]
      simpa using hb
  · obtain ⟨y, rfl, eB, hp, hI⟩ := hI
    refine r_ret ev_c (fun H1 e1 => ?_)
    rw [List.length_map, List.take_length] at hI
    rw [hI] at q
    exact q H1 (eB.trans e1)
theorem ok_lfull (D : Def K mg "_law_full" s__law_full ["text"]) (T : Tx mg) (c__law_simple : Cal CX0 P w K mg base 1 "_law_simple" (spTB (simpB LE2))) : Cal CX0 P w K mg base 2 "_law_full" (spTB (fullB LE2)) := by
  refine cal0 D sc__law_full (fun vs H Q E h => ?_) (fun f cdv A outer s H vs Q E hr h => ?_)
  · obtain ⟨_, ⟨t, rfl, _⟩, _⟩ := h
    rfl
  obtain ⟨_, ⟨t, rfl, hl, rfl⟩, q⟩ := h
  refine ⟨_, (pss_cons (ps_if (pt_cmpR op_gt (pe_callB call_len_str (by rfl) T.z_len PySem.boot_len (pa_cons (pv 0) pa_nil)) pe_int (nomark _))
      (pss_cons (ps_ret pe_bl) pss_nil)
      pss_nil)
    (pss_cons (ps_for PassesOwn.never rfl (pi_list (pe_split (pv 0) pe_str)) (pg_name (i := 1) sc__law_full.nd rfl (.inl rfl))
      (pss_cons (ps_if (pt_not (pt_val (pe_c c__law_simple hr (by decide) (by rfl) (pa_cons (pv 1) pa_nil))))
        (pss_cons (ps_ret pe_bl) pss_nil)
        pss_nil) pss_nil))
    (pss_cons (ps_ret pe_bl) pss_nil))), R.go ?_⟩
  refine r_when (et_test (ev_op (ev_lenS (ev_var rfl) (by omega)) ev_c rv_cmp)) (fun hb => ?_) (fun hb => ?_)
  · refine r_ret ev_c (fun H1 e1 => ?_)
    simp at hb
    rw [show fullB LE2 t = false from if_neg (by omega)] at q
    exact q H1 e1
  simp at hb
  rw [show fullB LE2 t = (TL.spl [46] 0 [] t).all (simpB LE2) from if_pos (by omega)] at q
  refine r_forN (en_splitS (b := [46]) (ev_var rfl) ev_cS (by decide) (by decide +kernel) (by omega)) (fun p i σ B => ∃ y, σ = [some (.str (SX.S t)), y] ∧ Ex H B ∧ B p = some (.lst ((TL.spl [46] 0 [] t).map fun l => V.str (SX.S l))) ∧ ((TL.spl [46] 0 [] t).take i).all (simpB LE2) = true)
    (fun p hp => ⟨none, rfl, Ex.new hp, upd_same, rfl⟩) (fun p i σ B _ hI => ?_) (fun p i x σ B hx hI => ?_) (fun p σ B hI => ?_)
  · obtain ⟨_, _, _, h, _⟩ := hI
    exact sq_of h
  · obtain ⟨y, rfl, eB, hp, hI⟩ := hI
    rw [List.getElem?_map] at hx
    obtain ⟨l, hl2, rfl⟩ := Option.map_eq_some_iff.mp hx
    have hm : l ∈ TL.spl [46] 0 [] t := List.mem_of_getElem? hl2
    have hlen : l.length ≤ 1000 := by
      have := spl_len _ _ _ _ l hm
      simp at this
      omega
    refine r_when (et_not (et_B (ev_pv (ea_cons (ev_var rfl) ea_nil) (fun H _ => ⟨l, rfl, hlen, rfl⟩)))) (fun hb => ?_) (fun hb => ?_)
    · refine r_ret ev_c (fun H1 e1 => ?_)
      have e : (TL.spl [46] 0 [] t).all (simpB LE2) = false := by
        rw [List.all_eq_false]
        exact ⟨l, hm, by simpa using hb⟩
      rw [e] at q
      exact q H1 (eB.trans e1)
    · refine r_up ⟨_, rfl, eB, hp, ?_⟩
      rw [List.take_add_one, hl2, List.all_append, hI]
      simpa using hb
  · obtain ⟨y, rfl, eB, hp, hI⟩ := hI
    refine r_ret ev_c (fun H1 e1 => ?_)
    rw [List.length_map, List.take_length] at hI
    rw [hI] at q
    exact q H1 (eB.trans e1)
theorem ok_draw (D : Def K mg "_law_draw" s__law_draw ["cell", "many", "bound"]) (T : Tx mg) : Cal CX0 P w K mg base 1 "_law_draw" spDraw := by
  refine cal0 D sc__law_draw (fun vs H Q E h => ?_) (fun f cdv A outer s H vs Q E hr h => ?_)
  · obtain ⟨_, ⟨c, m, b, rfl, _⟩, _⟩ := h
    rfl
  obtain ⟨_, ⟨c, m, b, rfl, hm0, hm1, hb0, hb1, rfl⟩, q⟩ := h
  refine ⟨_, (pss_cons (ps_set (i := 3) sc__law_draw.nd rfl (.inl rfl) (pe_lst pa_nil))
    (pss_cons (ps_if (pt_cmpR op_ge (pv 0) (pe_op op_pow pe_int pe_int) (nomark _))
      (pss_cons (ps_for PassesOwn.never rfl (pi_range1 rfl T.z_range (pa_cons (pv 1) pa_nil)) (pg_name (i := 4) sc__law_draw.nd rfl (.inl rfl))
        (pss_cons (ps_expr (pe_bm PySem.F.plainAttrs_list PySem.F.slot_list_append PySem.F.type_list_append mt_append (pv 3) (pa_cons (pe_op op_mod (pe_callTy call_int1 (by rfl) T.z_int (by decide +kernel) (pa_cons (pv 0) pa_nil)) (pv 2)) pa_nil)))
        (pss_cons (ps_set (i := 0) sc__law_draw.nd rfl (.inl rfl) (pe_op op_fdiv (pv 0) (pv 2))) pss_nil)))
      (pss_cons (ps_ret (pv 3)) pss_nil))
      pss_nil)
    (pss_cons (ps_set (i := 5) sc__law_draw.nd rfl (.inl rfl) (pe_op op_mod (pe_callTy call_int1 (by rfl) T.z_int (by decide +kernel) (pa_cons (pv 0) pa_nil)) pe_int))
    (pss_cons (ps_for PassesOwn.never rfl (pi_range1 rfl T.z_range (pa_cons (pv 1) pa_nil)) (pg_name (i := 4) sc__law_draw.nd rfl (.inl rfl))
      (pss_cons (ps_set (i := 5) sc__law_draw.nd rfl (.inl rfl) (pe_op op_mod (pe_callTy call_int1 (by rfl) T.z_int (by decide +kernel) (pa_cons (pe_op op_add (pe_op op_add (pe_op op_mul (pv 5) pe_int) pe_int) (pv 4)) pa_nil)) pe_int))
      (pss_cons (ps_set (i := 6) sc__law_draw.nd rfl (.inl rfl) (pe_op op_mod (pe_callTy call_int1 (by rfl) T.z_int (by decide +kernel) (pa_cons (pe_op op_add (pe_op op_mul (pv 5) pe_int) (pe_op op_mul pe_int (pv 4))) pa_nil)) pe_int))
      (pss_cons (ps_expr (pe_bm PySem.F.plainAttrs_list PySem.F.slot_list_append PySem.F.type_list_append mt_append (pv 3) (pa_cons (pe_op op_mod (pe_callTy call_int1 (by rfl) T.z_int (by decide +kernel) (pa_cons (pe_op op_fdiv (pv 6) pe_int) pa_nil)) (pv 2)) pa_nil))) pss_nil))))
    (pss_cons (ps_ret (pv 3)) pss_nil))))), R.go ?_⟩
  refine r_asgN (en_lst ea_nil (by decide)) (fun p np => ?_)
  refine r_when (et_test (ev_op (ev_var rfl) (ev_op ev_c ev_c (rv_arC ⟨by decide, by decide, by decide⟩)) rv_cmp)) (fun hb => ?_) (fun hb => ?_)
  · refine r_forR1 (ea_cons (ev_var rfl) ea_nil) ⟨hm0, by omega⟩ (fun i σ B => ∃ c y4, ∃ ns : List Int, σ = [some (.int c), some (.int m), some (.int b), some (.ref p), y4, none, none] ∧ Ex H B ∧ B p = some (.lst (ns.map V.int)) ∧ ns.length = i ∧ ∀ n ∈ ns, 0 ≤ n ∧ n < b)
      ⟨c, none, [], rfl, Ex.new np, upd_same, rfl, fun _ h => nomatch h⟩ (fun i σ B hi hI => ?_) (fun σ B hI => ?_)
    · obtain ⟨c, y4, ns, rfl, eB, hp, hl, hn⟩ := hI
      refine r_app hp (ev_var rfl) (ev_op (ev_int (ev_var rfl)) (ev_var rfl) (rv_arC hb0)) (by rw [List.length_map]; omega) ?_
      refine r_asg (ev_op (ev_var rfl) (ev_var rfl) (rv_arC ⟨hb0, hb1⟩)) ?_
      refine r_up ⟨_, _, ns ++ [c % b], rfl, Ex.mut eB np, ?_, ?_, fun n h => ?_⟩
      · rw [upd_same, List.map_append]
        rfl
      · rw [List.length_append, hl]
        rfl
      · rcases List.mem_append.mp h with h | h
        · exact hn n h
        · rw [List.mem_singleton.mp h]
          exact ⟨Int.emod_nonneg _ (by omega), Int.emod_lt_of_pos _ hb0⟩
    · obtain ⟨c, y4, ns, rfl, eB, hp, hl, hn⟩ := hI
      refine r_ret (ev_var rfl) (fun H1 e1 => ?_)
      exact q p H1 _ np (eB.trans e1) (e1 p _ hp) ⟨ns, rfl, by omega, hn⟩
  refine r_asg (ev_op (ev_int (ev_var rfl)) ev_c (rv_arC (by decide))) ?_
  refine r_forR1 (ea_cons (ev_var rfl) ea_nil) ⟨hm0, by omega⟩ (fun i σ B => ∃ y4 s y6, ∃ ns : List Int, σ = [some (.int c), some (.int m), some (.int b), some (.ref p), y4, some (.int s), y6] ∧ Ex H B ∧ B p = some (.lst (ns.map V.int)) ∧ ns.length = i ∧ ∀ n ∈ ns, 0 ≤ n ∧ n < b)
    ⟨none, _, none, [], rfl, Ex.new np, upd_same, rfl, fun _ h => nomatch h⟩ (fun i σ B hi hI => ?_) (fun σ B hI => ?_)
  · obtain ⟨y4, s, y6, ns, rfl, eB, hp, hl, hn⟩ := hI
    refine r_asg (ev_op (ev_int (ev_op (ev_op (ev_op (ev_var rfl) ev_c (rv_arC (.inr ⟨by decide, by decide⟩))) ev_c rv_ar) (ev_var rfl) rv_ar)) ev_c (rv_arC (by decide))) ?_
    refine r_asg (ev_op (ev_int (ev_op (ev_op (ev_var rfl) ev_c (rv_arC (.inr ⟨by decide, by decide⟩))) (ev_op ev_c (ev_var rfl) (rv_arC (.inl ⟨by decide, by decide⟩))) rv_ar)) ev_c (rv_arC (by decide))) ?_
    refine r_app hp (ev_var rfl) (ev_op (ev_int (ev_op (ev_var rfl) ev_c (rv_arC ⟨by decide, by decide⟩))) (ev_var rfl) (rv_arC hb0)) (by rw [List.length_map]; omega) ?_
    refine r_up ⟨_, _, _, ns ++ [_], rfl, Ex.mut eB np, by rw [upd_same, List.map_append]; rfl, ?_, fun n h => ?_⟩
    · rw [List.length_append, hl]
      rfl
    · rcases List.mem_append.mp h with h | h
      · exact hn n h
      · rw [List.mem_singleton.mp h]
        exact ⟨Int.emod_nonneg _ (by omega), Int.emod_lt_of_pos _ hb0⟩
  · obtain ⟨y4, s, y6, ns, rfl, eB, hp, hl, hn⟩ := hI
    refine r_ret (ev_var rfl) (fun H1 e1 => ?_)
    exact q p H1 _ np (eB.trans e1) (e1 p _ hp) ⟨ns, rfl, by omega, hn⟩
/-- a drawn list: its items -/
theorem draw_at {m b : Int} {o : HO} (h : DrawO m b o) : ∃ ns : List Int, o = .lst (ns.map V.int) ∧ (ns.length : Int) = m ∧ ∀ i : Nat, (i : Int) < m → 0 ≤ ns.getD i 0 ∧ ns.getD i 0 < b := by
  obtain ⟨ns, e, hl, hn⟩ := h
  exact ⟨ns, e, hl, fun i hi => getD_of hn (by omega)⟩
def ISt (x : V) : Prop := ∃ t : List Nat, x = .str (SX.S t) ∧ 0 < t.length ∧ t.length ≤ 100
theorem ist {x : Str} (h : 0 < x.cps.toList.length ∧ x.cps.toList.length ≤ 100) : ISt (.str (SX.S x.cps.toList)) := ⟨_, rfl, h.1, h.2⟩
def spLaw (K : PySem.W.Frag) : Sp := PV fun vs H z => ∃ a, ∃ ns : List Int, vs = [.ref a] ∧ SqL K H a (ns.map V.int) ∧ ns.length ≤ 63 ∧ z = .bl true
theorem kit_bool : PySem.W.kitOne K (.type "bool") (.type "bool") = some true := rfl
theorem ok_law {f : Addr} {fd : FuncData} (F : Fun K "law" "law" s_law f fd) (T : Tx mg) (c_is_simple_name : Cal CX0 P w K mg base 1 "is_simple_name" (spTB (simpB LET))) (c_is_full_name : Cal CX0 P w K mg base 2 "is_full_name" (spTB (fullB LET)))
    (c__law_simple : Cal CX0 P w K mg base 1 "_law_simple" (spTB (simpB LE2))) (c__law_full : Cal CX0 P w K mg base 2 "_law_full" (spTB (fullB LE2))) (c__law_draw : Cal CX0 P w K mg base 1 "_law_draw" spDraw) : FnOk P w K mg base CX0 3 f fd ["script"] (spLaw K) := by
  refine F.ok sc_law (fun vs H Q E h => ?_) (fun cdv A outer s H vs Q E hr h => ?_)
  · obtain ⟨_, ⟨a, ns, rfl, _⟩, _⟩ := h
    rfl
  obtain ⟨_, ⟨a, ns, rfl, hS, hl, rfl⟩, q⟩ := h
  refine ⟨_, (pss_cons (ps_for PassesOwn.never rfl (pi_list (pe_op op_cat (pe_slice sl_list (pv 0) po_none (po_some pe_int)) (pe_lst (pa_cons pe_int pa_nil)))) (pg_name (i := 1) sc_law.nd rfl (.inl rfl))
      (pss_cons (ps_set (i := 2) sc_law.nd rfl (.inl rfl) (pe_c c__law_draw hr (by decide) (by rfl) (pa_cons (pv 1) (pa_cons pe_int (pa_cons (pe_op op_shl pe_int pe_int) pa_nil)))))
      (pss_cons (ps_set (i := 3) sc_law.nd rfl (.inl rfl) (pe_op op_mod (pe_ix ix_list (pv 2) pe_int (fun _ _ => rfl)) pe_int))
      (pss_cons (ps_if (pt_cmpR op_eq (pe_op op_mod (pe_ix ix_list (pv 2) pe_int (fun _ _ => rfl)) pe_int) pe_int (nomark _))
        (pss_cons (ps_set (i := 3) sc_law.nd rfl (.inl rfl) (pe_op op_add pe_int (pe_op op_mod (pe_ix ix_list (pv 2) pe_int (fun _ _ => rfl)) pe_int))) pss_nil)
        pss_nil)
      (pss_cons (ps_set (i := 4) sc_law.nd rfl (.inr rfl) (pe_ix ix_list (pe_lst (pa_cons pe_str (pa_cons pe_str (pa_cons pe_str (pa_cons pe_str (pa_cons pe_str pa_nil)))))) (pe_op op_mod (pe_ix ix_list (pv 2) pe_int (fun _ _ => rfl)) pe_int) (fun _ _ => rfl)))
      (pss_cons (ps_set (i := 5) sc_law.nd rfl (.inl rfl) (pe_join pe_str (pe_lc (own := [("number", 9)]) (g := gName 9) (tt := tYes) rfl sc_law.nd (pi_list (pe_slice sl_list (pv 2) (po_some pe_int) (po_some (pe_op op_add pe_int (pv 3))))) (blkOk_by (N := ["script", "cell", "numbers", "size", "signs", "text", "words", "told", "whole", "number"]) (sc := defScope s_law) (by decide +kernel)) (fun _ _ _ _ _ => (pg_name (i := 9) sc_law.nd rfl (.inl rfl))) (fun _ _ _ _ _ => pts_nil) (fun _ _ _ _ _ => (pe_ix ix_str (pv 4) (pe_op op_mod (pv 9) (pe_callB call_len_str (by rfl) T.z_len PySem.boot_len (pa_cons (pv 4) pa_nil))) (fun _ _ => rfl))))))
      (pss_cons (ps_set (i := 6) sc_law.nd rfl (.inl rfl) (pe_lst (pa_cons pe_str (pa_cons pe_str (pa_cons pe_str (pa_cons pe_str (pa_cons pe_str (pa_cons pe_str (pa_cons pe_str (pa_cons pe_str (pa_cons pe_str (pa_cons pe_str (pa_cons pe_str pa_nil)))))))))))))
      (pss_cons (ps_if (pt_cmpR op_eq (pe_op op_mod (pe_ix ix_list (pv 2) pe_int (fun _ _ => rfl)) pe_int) pe_int (nomark _))
        (pss_cons (ps_set (i := 5) sc_law.nd rfl (.inl rfl) (pe_ix ix_list (pv 6) (pe_op op_mod (pe_ix ix_list (pv 2) pe_int (fun _ _ => rfl)) (pe_callB call_len_seq (by rfl) T.z_len PySem.boot_len (pa_cons (pv 6) pa_nil))) (fun _ _ => rfl))) pss_nil)
        pss_nil)
      (pss_cons (ps_set (i := 7) sc_law.nd rfl (.inl rfl) (pe_c c_is_simple_name hr (by decide) (by rfl) (pa_cons (pv 5) pa_nil)))
      (pss_cons (ps_set (i := 8) sc_law.nd rfl (.inl rfl) (pe_c c_is_full_name hr (by decide) (by rfl) (pa_cons (pv 5) pa_nil)))
      (pss_cons (ps_if (pw_or (pt_not (pt_val (pe_callB call_isi (by rfl) T.z_isinstance (by decide +kernel) (pa_cons (pv 7) (pa_cons (pe_bltn (v := .ty "bool") (by rfl) T.z_bool (by decide +kernel) rfl) pa_nil))))) (pw_or1 (pt_not (pt_val (pe_callB call_isi (by rfl) T.z_isinstance (by decide +kernel) (pa_cons (pv 8) (pa_cons (pe_bltn (v := .ty "bool") (by rfl) T.z_bool (by decide +kernel) rfl) pa_nil))))))).pt
        (pss_cons (ps_ret pe_bl) pss_nil)
        pss_nil)
      (pss_cons (ps_if (pw_or (pt_cmpR op_ne (pv 7) (pe_c c__law_simple hr (by decide) (by rfl) (pa_cons (pv 5) pa_nil)) (nomark _)) (pw_or1 (pt_cmpR op_ne (pv 8) (pe_c c__law_full hr (by decide) (by rfl) (pa_cons (pv 5) pa_nil)) (nomark _)))).pt
        (pss_cons (ps_ret pe_bl) pss_nil)
        pss_nil) pss_nil))))))))))))
    (pss_cons (ps_ret (pe_and (pe_cmpR op_isBl (pe_c c_is_simple_name hr (by decide) (by rfl) (pa_cons pe_str pa_nil)) pe_bl (nomark _)) (pe_one (pe_cmpR op_isBl (pe_c c_is_full_name hr (by decide) (by rfl) (pa_cons pe_str pa_nil)) pe_bl (nomark _))))) pss_nil)), R.go ?_⟩
  have hx0 : cutV (ns.map V.int) none (some 20) ++ [V.int 0] = (ns.take 20 ++ [0]).map V.int := by
    rw [cutV_to (by decide), List.map_append, List.map_take]
    rfl
  refine r_forN (xs := (ns.take 20 ++ [0]).map V.int) (by rw [← hx0]; exact (en_cat (en_sl (ev_var rfl) eo_none (eo_some ev_c) hS) (en_lst (ea_cons ev_c ea_nil) (by decide)) (by
      have := cutV_length (ns.map V.int) none (some 20)
      rw [List.length_map] at this
      show _ + 1 ≤ _
      omega))) (fun p i σ B => ∃ y1 y2 y3 y4 y5 y6 y7 y8 y9, σ = [some (.ref a), y1, y2, y3, y4, y5, y6, y7, y8, y9] ∧ Ex H B ∧ B p = some (.lst ((ns.take 20 ++ [0]).map V.int)))
    (fun p hp => ⟨none, none, none, none, none, none, none, none, none, rfl, Ex.new hp, upd_same⟩) (fun p i σ B _ hI => ?_) (fun p i x σ B hx hI => ?_) (fun p σ B hI => ?_)
  · obtain ⟨_, _, _, _, _, _, _, _, _, _, _, h⟩ := hI
    exact sq_of h
  · obtain ⟨y1, y2, y3, y4, y5, y6, y7, y8, y9, rfl, eB, hp⟩ := hI
    rw [List.getElem?_map] at hx
    obtain ⟨c, _, rfl⟩ := Option.map_eq_some_iff.mp hx
    refine r_newd (en_pnd (ea_cons (ev_var rfl) (ea_cons ev_c (ea_cons (ev_op ev_c ev_c (rv_arC ⟨by decide, by decide, by decide⟩)) ea_nil))) (fun H _ => ⟨c, 48, _, rfl, by decide, by decide, by decide, by decide, rfl⟩)) (fun pn B1 o hpn eX hq1 ho => ?_)
    obtain ⟨ds, rfl, hdl, hd⟩ := draw_at ho
    have eB1 : Ex H B1 := eB.trans eX
    have hp1 := eX p _ hp
    have hq1 : SqL K B1 pn (ds.map V.int) := sq_of hq1
    have d0 := hd 0 (by decide)
    refine r_asg (ev_op (ev_op (ev_var rfl) ev_c (rv_ixI hq1 (by decide) (by omega))) ev_c (rv_arC (by decide))) ?_
    refine r_whenK (fun σ' B' => B' = B1 ∧ ∃ s : Int, 0 ≤ s ∧ s ≤ 44 ∧ σ' = [some (.ref a), some (.int c), some (.ref pn), some (.int s), y4, y5, y6, y7, y8, y9]) (et_test (ev_op (ev_op (ev_op (ev_var rfl) ev_c (rv_ixI hq1 (by decide) (by omega))) ev_c (rv_arC (by decide))) ev_c (rv_eq rfl))) (fun σ' B' hM => ?_) (fun k hb => ?_) (fun k hb => ?_)
    · obtain ⟨rfl, sz, hs0, hs1, rfl⟩ := hM
      obtain ⟨v, hv, tv, rfl, htv, htv2⟩ := atI_any (xs := [V.str (SX.S (Str.ofString "aZ_b09").cps.toList), V.str (SX.S (Str.ofString "aZ_b0.9").cps.toList), V.str (SX.S (Str.ofString "ab.").cps.toList), V.str (SX.S (Str.ofString "a- ").cps.toList), V.str (SX.S (Str.ofString "Qx7~").cps.toList)]) (i := ds.getD (Int.toNat 2) 0 % 5) (Pp := ISt)
        (Int.emod_nonneg _ (by decide)) (Int.emod_lt_of_pos _ (by decide)) (fun x hx => by
          simp only [List.mem_cons, List.not_mem_nil, or_false] at hx
          rcases hx with rfl | rfl | rfl | rfl | rfl <;> exact ist (by decide +kernel))
      refine r_asg (ev_ixN (en_lst (ea_cons ev_cS (ea_cons ev_cS (ea_cons ev_cS (ea_cons ev_cS (ea_cons ev_cS ea_nil))))) (by decide)) (fun B' e' => (ev_op (ev_op (ev_var rfl) ev_c (rv_ixI (ex_l e' hq1) (by decide) (by omega))) ev_c (rv_arC (by decide)))) hv) ?_
      have hcut : cutV (ds.map V.int) (some 3) (some (3 + sz)) = ((ds.drop 3).take ((3 + sz).toNat - 3)).map V.int := by
        rw [cutV_int (by decide) (by omega), List.map_take, List.map_drop]
        rfl
      have hlen : ((ds.drop 3).take ((3 + sz).toNat - 3)).length ≤ 44 := by
        rw [List.length_take]
        omega
      refine r_asg (ev_joinC (cs := ((ds.drop 3).take ((3 + sz).toNat - 3)).map fun n => tv.getD (n % (tv.length : Int)).toNat 0) ev_cS rfl (by
        rw [List.map_map]
        refine en_lcI (fun n => V.str (SX.S [tv.getD (n % (tv.length : Int)).toNat 0])) (ei_listN (by rw [← hcut]; exact en_sl (ev_var rfl) (eo_some ev_c) (eo_some (ev_op ev_c (ev_var rfl) rv_ar)) hq1)) (by omega) (fun _ => rfl) (fun n hn B' e' => ?_)
        exact ev_op (ev_var rfl) (ev_op (ev_var rfl) (ev_lenS (ev_var rfl) (by omega)) (rv_arC (by show (0 : Int) < (tv.length : Int); omega))) (rv_ixSt (by omega) (Int.emod_nonneg _ (by omega)) (Int.emod_lt_of_pos _ (by omega)))) (by rw [List.length_map]; omega)) ?_
      generalize htx : (((ds.drop 3).take ((3 + sz).toNat - 3)).map fun n => tv.getD (n % (tv.length : Int)).toNat 0) = tx
      have htl : tx.length ≤ 44 := by rw [← htx, List.length_map]; omega
      refine r_new (en_lst (ea_cons ev_cS (ea_cons ev_cS (ea_cons ev_cS (ea_cons ev_cS (ea_cons ev_cS (ea_cons ev_cS (ea_cons ev_cS (ea_cons ev_cS (ea_cons ev_cS (ea_cons ev_cS (ea_cons ev_cS ea_nil))))))))))) (by decide)) (fun pw B2 hpw eX2 hw => ?_)
      have eB2 := eB1.trans eX2
      have hp2 := eX2 p _ hp1
      have hq2 := ex_l eX2 hq1
      obtain ⟨v2, hv2, tw, rfl, _, htw⟩ := atI_any (xs := [V.str (SX.S (Str.ofString "null").cps.toList), V.str (SX.S (Str.ofString "record").cps.toList), V.str (SX.S (Str.ofString "choice").cps.toList), V.str (SX.S (Str.ofString "int").cps.toList), V.str (SX.S (Str.ofString "map").cps.toList), V.str (SX.S (Str.ofString "union").cps.toList), V.str (SX.S (Str.ofString "string").cps.toList), V.str (SX.S (Str.ofString "x.int").cps.toList), V.str (SX.S (Str.ofString "long").cps.toList), V.str (SX.S (Str.ofString "fixed").cps.toList), V.str (SX.S (Str.ofString "bytes").cps.toList)]) (i := ds.getD (Int.toNat 0) 0 % 11) (Pp := ISt)
        (Int.emod_nonneg _ (by decide)) (Int.emod_lt_of_pos _ (by decide)) (fun x hx => by
          simp only [List.mem_cons, List.not_mem_nil, or_false] at hx
          rcases hx with rfl | rfl | rfl | rfl | rfl | rfl | rfl | rfl | rfl | rfl | rfl <;> exact ist (by decide +kernel))
      refine r_whenK (fun σ' B' => B' = B2 ∧ ∃ t : List Nat, t.length ≤ 100 ∧ σ' = [some (.ref a), some (.int c), some (.ref pn), some (.int sz), some (.str (SX.S tv)), some (.str (SX.S t)), some (.ref pw), y7, y8, y9]) (et_test (ev_op (ev_op (ev_op (ev_var rfl) ev_c (rv_ixI hq2 (by decide) (by omega))) ev_c (rv_arC (by decide))) ev_c (rv_eq rfl))) (fun σ' B' hM => ?_) (fun k hb => ?_) (fun k hb => ?_)
      · obtain ⟨rfl, t, ht, rfl⟩ := hM
        refine r_asg (ev_pv (ea_cons (ev_var rfl) ea_nil) (fun H _ => ⟨t, rfl, by omega, rfl⟩)) ?_
        refine r_asg (ev_pv (ea_cons (ev_var rfl) ea_nil) (fun H _ => ⟨t, rfl, by omega, rfl⟩)) ?_
        refine r_when (et_or (et_not (et_B (ev_isi (ea_cons (ev_var rfl) (ea_cons ev_c ea_nil)) (.ty "bool") (fun _ _ => .base (.bl _)) kit_bool))) (fun hb => (et_not (et_B (ev_isi (ea_cons (ev_var rfl) (ea_cons ev_c ea_nil)) (.ty "bool") (fun _ _ => .base (.bl _)) kit_bool))))) (fun hb => nomatch hb) (fun hb => ?_)
        refine r_when (et_or (et_test (ev_op (ev_var rfl) (ev_pv (ea_cons (ev_var rfl) ea_nil) (fun H _ => ⟨t, rfl, by omega, rfl⟩)) (rv_ne rfl))) (fun hb => (et_test (ev_op (ev_var rfl) (ev_pv (ea_cons (ev_var rfl) ea_nil) (fun H _ => ⟨t, rfl, by omega, rfl⟩)) (rv_ne rfl))))) (fun hb => ?_) (fun hb => ?_)
        · exfalso
          rw [simpB_eq, fullB_eq] at hb
          simp at hb
        · exact r_up ⟨_, _, _, _, _, _, _, _, _, rfl, eB2, hp2⟩
      · refine r_asg (ev_op (ev_var rfl) (ev_op (ev_op (ev_var rfl) ev_c (rv_ixI hq2 (by decide) (by omega))) (ev_len (ev_var rfl) (sq_of hw)) (rv_arC (by decide))) (rv_ixL (sq_of hw) hv2)) ?_
        exact r_on (k _ _ ⟨rfl, tw, by omega, rfl⟩)
      · exact k _ _ ⟨rfl, tx, by omega, rfl⟩
    · refine r_asg (ev_op ev_c (ev_op (ev_op (ev_var rfl) ev_c (rv_ixI hq1 (by decide) (by omega))) ev_c (rv_arC (by decide))) rv_ar) ?_
      refine r_on (k _ _ ⟨rfl, _, ?_, ?_, rfl⟩)
      · omega
      · omega
    · refine k _ _ ⟨rfl, _, ?_, ?_, rfl⟩
      · omega
      · omega
  · obtain ⟨y1, y2, y3, y4, y5, y6, y7, y8, y9, rfl, eB, hp⟩ := hI
    refine r_ret (ev_andV (ev_op (ev_pv (ea_cons ev_cS ea_nil) (fun H _ => ⟨_, rfl, by decide, rfl⟩)) ev_c rv_isB) (fun hb => (ev_op (ev_pv (ea_cons ev_cS ea_nil) (fun H _ => ⟨_, rfl, by decide, rfl⟩)) ev_c rv_isB))) (fun H1 e1 => ?_)
    have h1 : simpB LET ("" : Str).cps.toList = false := by decide +kernel
    have h2 : fullB LET ("" : Str).cps.toList = false := by decide +kernel
    rw [h1, h2]
    exact q H1 (eB.trans e1)
end
theorem all_mk {l : PySem.W.OpenLaw} {w : World} {K : PySem.W.Frag} {h : Heap} {mg : Str → Option Value} {fa : Addr} (X : K.In h) (G : h.Ns mainGlobals mg) (hfa : mg "law" = some (.ref fa))
    {f_is_simple_name : Addr} {od_is_simple_name an_is_simple_name : Option Addr} {sl_is_simple_name : Array (Option Value)} {oc_is_simple_name kV_is_simple_name dc_is_simple_name pm_is_simple_name cd_is_simple_name ct_is_simple_name : Value} (a_is_simple_name : PySem.W.nsIn K mainGlobals "is_simple_name" = some (some (.ref f_is_simple_name))) (l_is_simple_name : K.lookup f_is_simple_name = some ⟨oc_is_simple_name, od_is_simple_name, .func (PySem.W.fnOf "is_simple_name" "is_simple_name" (defArgs s_is_simple_name) (defBody s_is_simple_name) (defScope s_is_simple_name) .none kV_is_simple_name dc_is_simple_name pm_is_simple_name an_is_simple_name cd_is_simple_name ct_is_simple_name), sl_is_simple_name⟩) (c_is_simple_name : PySem.W.codeIn K cd_is_simple_name "is_simple_name" = true) (k_is_simple_name : PySem.W.keepIn K (.ref f_is_simple_name) = true)
    {f_is_full_name : Addr} {od_is_full_name an_is_full_name : Option Addr} {sl_is_full_name : Array (Option Value)} {oc_is_full_name kV_is_full_name dc_is_full_name pm_is_full_name cd_is_full_name ct_is_full_name : Value} (a_is_full_name : PySem.W.nsIn K mainGlobals "is_full_name" = some (some (.ref f_is_full_name))) (l_is_full_name : K.lookup f_is_full_name = some ⟨oc_is_full_name, od_is_full_name, .func (PySem.W.fnOf "is_full_name" "is_full_name" (defArgs s_is_full_name) (defBody s_is_full_name) (defScope s_is_full_name) .none kV_is_full_name dc_is_full_name pm_is_full_name an_is_full_name cd_is_full_name ct_is_full_name), sl_is_full_name⟩) (c_is_full_name : PySem.W.codeIn K cd_is_full_name "is_full_name" = true) (k_is_full_name : PySem.W.keepIn K (.ref f_is_full_name) = true)
    {f__law_draw : Addr} {od__law_draw an__law_draw : Option Addr} {sl__law_draw : Array (Option Value)} {oc__law_draw kV__law_draw dc__law_draw pm__law_draw cd__law_draw ct__law_draw : Value} (a__law_draw : PySem.W.nsIn K mainGlobals "_law_draw" = some (some (.ref f__law_draw))) (l__law_draw : K.lookup f__law_draw = some ⟨oc__law_draw, od__law_draw, .func (PySem.W.fnOf "_law_draw" "_law_draw" (defArgs s__law_draw) (defBody s__law_draw) (defScope s__law_draw) .none kV__law_draw dc__law_draw pm__law_draw an__law_draw cd__law_draw ct__law_draw), sl__law_draw⟩) (c__law_draw : PySem.W.codeIn K cd__law_draw "_law_draw" = true) (k__law_draw : PySem.W.keepIn K (.ref f__law_draw) = true)
    {f__law_simple : Addr} {od__law_simple an__law_simple : Option Addr} {sl__law_simple : Array (Option Value)} {oc__law_simple kV__law_simple dc__law_simple pm__law_simple cd__law_simple ct__law_simple : Value} (a__law_simple : PySem.W.nsIn K mainGlobals "_law_simple" = some (some (.ref f__law_simple))) (l__law_simple : K.lookup f__law_simple = some ⟨oc__law_simple, od__law_simple, .func (PySem.W.fnOf "_law_simple" "_law_simple" (defArgs s__law_simple) (defBody s__law_simple) (defScope s__law_simple) .none kV__law_simple dc__law_simple pm__law_simple an__law_simple cd__law_simple ct__law_simple), sl__law_simple⟩) (c__law_simple : PySem.W.codeIn K cd__law_simple "_law_simple" = true) (k__law_simple : PySem.W.keepIn K (.ref f__law_simple) = true)
    {f__law_full : Addr} {od__law_full an__law_full : Option Addr} {sl__law_full : Array (Option Value)} {oc__law_full kV__law_full dc__law_full pm__law_full cd__law_full ct__law_full : Value} (a__law_full : PySem.W.nsIn K mainGlobals "_law_full" = some (some (.ref f__law_full))) (l__law_full : K.lookup f__law_full = some ⟨oc__law_full, od__law_full, .func (PySem.W.fnOf "_law_full" "_law_full" (defArgs s__law_full) (defBody s__law_full) (defScope s__law_full) .none kV__law_full dc__law_full pm__law_full an__law_full cd__law_full ct__law_full), sl__law_full⟩) (c__law_full : PySem.W.codeIn K cd__law_full "_law_full" = true) (k__law_full : PySem.W.keepIn K (.ref f__law_full) = true)
    {f_law : Addr} {od_law an_law : Option Addr} {sl_law : Array (Option Value)} {oc_law kV_law dc_law pm_law cd_law ct_law : Value} (a_law : PySem.W.nsIn K mainGlobals "law" = some (some (.ref f_law))) (l_law : K.lookup f_law = some ⟨oc_law, od_law, .func (PySem.W.fnOf "law" "law" (defArgs s_law) (defBody s_law) (defScope s_law) .none kV_law dc_law pm_law an_law cd_law ct_law), sl_law⟩) (c_law : PySem.W.codeIn K cd_law "law" = true) (k_law : PySem.W.keepIn K (.ref f_law) = true)
    {t_LETTERS : Tok} (g_LETTERS : PySem.W.nsIn K mainGlobals "LETTERS" = some (some (.str (Str.ofString "ABCDEFGHIJKLMNOPQRSTUVWXYZabcdefghijklmnopqrstuvwxyz_") t_LETTERS)))
    {t_DIGITS : Tok} (g_DIGITS : PySem.W.nsIn K mainGlobals "DIGITS" = some (some (.str (Str.ofString "0123456789") t_DIGITS)))
    {t_LONGEST_NAME : Tok} (g_LONGEST_NAME : PySem.W.nsIn K mainGlobals "LONGEST_NAME" = some (some (.int 40 t_LONGEST_NAME)))
    (z_len : PySem.W.nsIn K mainGlobals "len" = some none)
    (z_int : PySem.W.nsIn K mainGlobals "int" = some none)
    (z_range : PySem.W.nsIn K mainGlobals "range" = some none)
    (z_isinstance : PySem.W.nsIn K mainGlobals "isinstance" = some none)
    (z_bool : PySem.W.nsIn K mainGlobals "bool" = some none) :
    ∃ fd : FuncData, (∀ (s : Shared) (v : Value), BindsTo s fd ⟨[v], []⟩ [("script", v)]) ∧ ∀ base : Heap, K.In base → base.Ns mainGlobals mg → FnOk l.prog w K mg base CX0 3 fa fd ["script"] (spLaw K) := by
  have e := hfa.symm.trans (PySem.W.mg_of X G a_law)
  cases e
  have T : Tx mg := ⟨⟨_, PySem.W.mg_of X G g_LETTERS, ⟨t_LETTERS, rfl⟩⟩, ⟨_, PySem.W.mg_of X G g_DIGITS, ⟨t_DIGITS, rfl⟩⟩, ⟨_, PySem.W.mg_of X G g_LONGEST_NAME, ⟨t_LONGEST_NAME, rfl⟩⟩, PySem.W.mg_none_of X G z_len, PySem.W.mg_none_of X G z_int, PySem.W.mg_none_of X G z_range, PySem.W.mg_none_of X G z_isinstance, PySem.W.mg_none_of X G z_bool⟩
  have D_is_simple_name : Def K mg "is_simple_name" s_is_simple_name ["text"] := def_mk X G a_is_simple_name l_is_simple_name c_is_simple_name k_is_simple_name (fun _ _ _ _ _ _ us hl => match us, hl with | [_], _ => rfl)
  have D_is_full_name : Def K mg "is_full_name" s_is_full_name ["text"] := def_mk X G a_is_full_name l_is_full_name c_is_full_name k_is_full_name (fun _ _ _ _ _ _ us hl => match us, hl with | [_], _ => rfl)
  have D__law_draw : Def K mg "_law_draw" s__law_draw ["cell", "many", "bound"] := def_mk X G a__law_draw l__law_draw c__law_draw k__law_draw (fun _ _ _ _ _ _ us hl => match us, hl with | [_, _, _], _ => rfl)
  have D__law_simple : Def K mg "_law_simple" s__law_simple ["text"] := def_mk X G a__law_simple l__law_simple c__law_simple k__law_simple (fun _ _ _ _ _ _ us hl => match us, hl with | [_], _ => rfl)
  have D__law_full : Def K mg "_law_full" s__law_full ["text"] := def_mk X G a__law_full l__law_full c__law_full k__law_full (fun _ _ _ _ _ _ us hl => match us, hl with | [_], _ => rfl)
  refine ⟨PySem.W.fnOf "law" "law" (defArgs s_law) (defBody s_law) (defScope s_law) .none kV_law dc_law pm_law an_law cd_law ct_law, fun s v => .of_eq rfl, fun base _ _ => ?_⟩
  have c1 := ok_simple (P := l.prog) (w := w) (base := base) D_is_simple_name T
  have c2 := ok_lsimple (P := l.prog) (w := w) (base := base) D__law_simple T
  exact ok_law (fun_mk l_law c_law k_law) T c1 (ok_full D_is_full_name T c1) c2 (ok_lfull D__law_full T c2) (ok_draw D__law_draw T)
end K04
open PySem PySem.W PyProof.Rows
set_option maxHeartbeats 0 in
theorem PySem.Challenge.cw_formkeeper_k04_names_holds : PySem.Challenge.rw_formkeeper_k04_names.Holds := by
  w_on; o_law; k_head; (case hw => w_witness2)
  k_fill
  refine L2.walk_of (l := PySem.Challenge.rw_formkeeper_k04_names) (n := 63) (k := 3) (x := "script") (CX := fun _ => L2.CX0) (sp := fun w => K04.spLaw _) rfl (by decide) rfl ⟨rfl, by decide, by decide⟩ (fun w h Y => PySem.W.kIn_of Y) ?F (fun _ _ a ns hl _ hS => ⟨_, ⟨a, ns, rfl, hS, hl, rfl⟩, fun _ _ => rfl⟩) (fun _ _ _ _ _ h => h)
  case F =>
    intro w mg fa h KX G hmg
    refine' K04.all_mk KX G hmg ?a_is_simple_name ?l_is_simple_name ?c_is_simple_name ?k_is_simple_name ?a_is_full_name ?l_is_full_name ?c_is_full_name ?k_is_full_name ?a__law_draw ?l__law_draw ?c__law_draw ?k__law_draw ?a__law_simple ?l__law_simple ?c__law_simple ?k__law_simple ?a__law_full ?l__law_full ?c__law_full ?k__law_full ?a_law ?l_law ?c_law ?k_law ?g_LETTERS ?g_DIGITS ?g_LONGEST_NAME ?z_len ?z_int ?z_range ?z_isinstance ?z_bool
    (case a_is_simple_name => k_is); (case l_is_simple_name => k_is); (case c_is_simple_name => k_is); (case k_is_simple_name => k_is); (case a_is_full_name => k_is); (case l_is_full_name => k_is); (case c_is_full_name => k_is); (case k_is_full_name => k_is); (case a__law_draw => k_is); (case l__law_draw => k_is); (case c__law_draw => k_is); (case k__law_draw => k_is); (case a__law_simple => k_is); (case l__law_simple => k_is); (case c__law_simple => k_is); (case k__law_simple => k_is); (case a__law_full => k_is); (case l__law_full => k_is); (case c__law_full => k_is); (case k__law_full => k_is); (case a_law => k_is); (case l_law => k_is); (case c_law => k_is); (case k_law => k_is); (case g_LETTERS => k_is); (case g_DIGITS => k_is); (case g_LONGEST_NAME => k_is); (case z_len => k_is); (case z_int => k_is); (case z_range => k_is); (case z_isinstance => k_is); (case z_bool => k_is)
