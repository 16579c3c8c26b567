import PyProof.Rows.All
import Wide.All
import OpenK.AllK
import Wide.FinOn
import HandS.ForMost
import HandS.Style
import HandS.Wide
import HandS.IsInst
import HandS.Steps
import HandS.Codes
import HandS.Evl
import HandS.Walk
import HandS.ForExc
import HandS.ExcInit
import HandS.ExcInitHot
import HandS.ExcField
import HandS.ExcIs
import HandS.RaiseFrom
import HandS.TryMany
import HandS.SuiteRaise
import KE.KTypeName
import HandS.ListItems
import KE.KDictList
import HandS.Deep
import HandS.WideBits
import HandS.Text
import HandS.TupAny
import HandS.More
import KE.IntTextLaws
import KE.KIntText
import HandS.ReplaceLit
import HandS.ReplaceDef
import HandS.ReplaceList
import HandS.FStr
import HandS.Small
import KE.KxField
import KE.KUnpack
import PyProof.CollectIter
import PyProof.FString3
import HandS.StrMore
import PyProof.Rows.StrMul
import HandS.HeadHook3
import PySem.Challenge.RW_formkeeper_k65_answers_as_messages
set_option Elab.async false
set_option linter.all false
set_option maxRecDepth 100000
/-! common words of these proofs (own text) -/
namespace FK
open PySem PySem.Spec PyProof.Rows L2 Evl

/-! ### heaps -/
theorem same_upd {H : Hp} {p : Addr} {o : HO} (h : H p = none) : Same H (upd H p o) := fun b x e => by
  rw [upd_ne (ne_of_none e h)]
  exact e
/-- an object of the callee's own may change -/
theorem same_mut {H H' : Hp} {p : Addr} {o : HO} (e : Same H H') (h : H p = none) : Same H (upd H' p o) := fun a u ha => by
  rw [upd_ne (ne_of_none ha h)]
  exact e a u ha
theorem sqt_same {K : PySem.W.Frag} {H H' : Hp} {a : Addr} {xs : List V} (e : Same H H') (h : SqT K H a xs) : SqT K H' a xs := by
  rcases h with (h | ⟨o, h⟩) | h
  · exact .inl (.inl (e _ _ h))
  · exact .inl (.inr ⟨o, e _ _ h⟩)
  · exact .inr h
theorem hu64 {A : Around} {k : Nat} (hr : Room k A) : A.units + 64 < cLine := hr.units

/-! ### a def that may be called by its name -/
structure Cal (CX : CXT) (P : Program) (w : World) (K : PySem.W.Frag) (mg : Str → Option Value) (base : Heap) (k : Nat) (x : Str) (sp : Sp) : Prop where
  ex : ∃ (f : Addr) (fd : FuncData) (ps : List Str), FnOk P w K mg base CX k f fd ps sp ∧ mg x = some (.ref f) ∧ PySem.W.keepIn K (.ref f) = true ∧ Binds K fd ps []
structure Def (K : PySem.W.Frag) (mg : Str → Option Value) (x : Str) (st : Stmt) (ps : List Str) : Prop where
  ex : ∃ (f : Addr) (fd : FuncData), Fun K x x st f fd ∧ mg x = some (.ref f) ∧ Binds K fd ps []
section
variable {P : Program} {w : World} {K : PySem.W.Frag} {mg : Str → Option Value} {base : Heap}
theorem cal0 {x : Str} {st : Stmt} {N ps : List Str} {k : Nat} {sp : Sp} (D : Def K mg x st ps) (S : FnScope N ps (defScope st)) (len : ∀ vs H Q E, sp vs H Q E → vs.length = ps.length)
    (hbody : ∀ (f : Addr) (cdv : Value) (A : Around) (outer : List Env) (s : Shared) (H : Hp) (vs : List V) (Q : VK) (E : XK), Room k (A.deeper (envOfC x (defScope st) s.heap.objs.size f cdv)) → sp vs H Q E →
      ∃ t, PSs (cxOf CX0 P w K mg base N x (defScope st) f cdv A outer s H E).nox (defBody st) t ∧ t { nx := fun _ H' => Q .non H', rt := Q } (start N vs) H) : Cal CX0 P w K mg base (k + 1) x sp := by
  obtain ⟨f, fd, F, m, b⟩ := D.ex
  exact ⟨f, fd, ps, F.ok S len (hbody f), m, F.kp, b⟩
end
section
variable {X : Cx} {k j : Nat} {x : Str} {sp : Sp} {p pos : Pos} {e : Expr} {es : List Expr} {t : TA}
theorem pe_c (c : Cal CX0 X.prog X.w X.K X.mg X.base k x sp) (hr : Room j X.A) (hk : k ≤ j) (hg : Gl X x) (ha : PA X (e :: es) t)
    (hdb : (x == ("__debug__" : Str)) = false := by decide) (he : starEach (e :: es) X.env = (false, eval e X.env) :: starEach es X.env := by rfl) (hpl : (backTo pos (starEach es X.env)).any (·.1) = false := by rfl) :
    PE X (.Call (.Name x p) (e :: es) [] pos) (tCall sp [] E0 t) := by
  obtain ⟨f, fd, ps, F, hm, kp, b⟩ := c.ex
  exact pe_call F (hr.mono hk) hg hm kp b .nil pass0 ha hdb he hpl
theorem pe_gc {v : V} (hg : Gl X x) (h : ∃ u, X.mg x = some u ∧ RelV v u) (hd : (x == ("__debug__" : Str)) = false := by decide) : PE X (.Name x pos) (tC v) := by
  obtain ⟨u, hm, r⟩ := h
  exact pe_glob hg hm r hd
end
/-- the def of the module at its place -/
theorem def_mk {K : PySem.W.Frag} {mg : Str → Option Value} {h : Heap} {x : Str} {st : Stmt} {f : Addr} {oc : Value} {od an : Option Addr} {osl : Array (Option Value)} {kV doc pm cdv ct : Value} {ps : List Str} (X : K.In h) (G : h.Ns mainGlobals mg)
    (a : PySem.W.nsIn K mainGlobals x = some (some (.ref f))) (l : K.lookup f = some ⟨oc, od, .func (PySem.W.fnOf x x (defArgs st) (defBody st) (defScope st) .none kV doc pm an cdv ct), osl⟩)
    (c : PySem.W.codeIn K cdv x = true) (k : PySem.W.keepIn K (.ref f) = true)
    (b : ∀ (kV doc pm : Value) (an : Option Addr) (cdv ct : Value) (us : List Value), us.length = ps.length → bindArgs (PySem.W.fnOf x x (defArgs st) (defBody st) (defScope st) .none kV doc pm an cdv ct) ⟨us, []⟩ = pure (ps.zip us)) : Def K mg x st ps :=
  ⟨f, _, fun_mk l c k, PySem.W.mg_of X G a, (fun_mk l c k).binds b⟩

/-! ### loops and items -/
/-- sign by sign -/
theorem for_str {x : List Nat} {g : TG} {tb : TS} {D : Ends} {σ : L2.St} {H : Hp} (Pv : Nat → L2.St → Hp → Prop) (h0 : Pv 0 σ H)
    (hs : ∀ i c σ H, x[i]? = some c → Pv i σ H → g (.str (SX.S [c])) σ H fun σ2 H2 => tb { D with nx := Pv (i + 1), ct := Pv (i + 1), bk := D.nx } σ2 H2) (hd : ∀ σ H, Pv x.length σ H → D.nx σ H) :
    ∃ W : Nat → Nat → L2.St → Hp → Prop, (∃ m, W 0 m σ H) ∧ ∀ i m σ H, W i m σ H →
      ((Its (SX.S x)).stop i H ∧ D.nx σ H) ∨ ((Its (SX.S x)).go i H ∧ ∃ N : L2.St → Hp → Prop, (∀ σ' H', N σ' H' → ∃ m', m' < m ∧ W (i + 1) m' σ' H') ∧ ∀ v H', (Its (SX.S x)).yld i H v H' → g v σ H' fun σ2 H2 => tb { D with nx := N, ct := N, bk := D.nx } σ2 H2) := by
  have hz : (SX.S x).cps.size = x.length := by simp [SX.S]
  refine ⟨fun i m σ H => m = x.length - i ∧ i ≤ x.length ∧ Pv i σ H, ⟨x.length, by simp, Nat.zero_le _, h0⟩, ?_⟩
  rintro i m σ H ⟨rfl, hi, p⟩
  by_cases hlt : i < x.length
  · refine .inr ⟨by show i < (SX.S x).cps.size; omega, Pv (i + 1), fun σ' H' p' => ⟨x.length - (i + 1), by omega, rfl, hlt, p'⟩, fun v H' y => ?_⟩
    obtain ⟨e, c, hc, hv⟩ := y
    subst e hv
    have hc' : x[i]? = some c := by simpa [SX.S] using hc
    exact hs i c σ _ hc' p
  · have e : i = x.length := by omega
    subst e
    exact .inl ⟨by show (SX.S x).cps.size ≤ _; omega, hd σ H p⟩
theorem atI_ints {ns : List Int} {i : Int} (h0 : 0 ≤ i) (h1 : i < ns.length) : atI (ns.map V.int) i = some (.int (ns.getD i.toNat 0)) := by
  obtain ⟨j, rfl⟩ := Int.eq_ofNat_of_zero_le h0
  have hj : j < ns.length := by omega
  refine atI_nat (j := j) ?_
  rw [List.getElem?_map, List.getElem?_eq_getElem hj]
  simp [List.getD, List.getElem?_eq_getElem hj]
theorem getD_mem {ns : List Int} {i : Nat} (h : i < ns.length) : ns.getD i 0 ∈ ns := by
  simp [List.getD, List.getElem?_eq_getElem h]
theorem getD_of {ns : List Int} {i : Nat} {Pp : Int → Prop} (h : ∀ n ∈ ns, Pp n) (hi : i < ns.length) : Pp (ns.getD i 0) := h _ (getD_mem hi)

theorem atI_any {xs : List V} {i : Int} {Pp : V → Prop} (h0 : 0 ≤ i) (h1 : i < xs.length) (h : ∀ x ∈ xs, Pp x) : ∃ v, atI xs i = some v ∧ Pp v := by
  obtain ⟨j, rfl⟩ := Int.eq_ofNat_of_zero_le h0
  have hj : j < xs.length := by omega
  exact ⟨xs[j], atI_nat (List.getElem?_eq_getElem hj), h _ (List.getElem_mem hj)⟩
theorem cutV_int {xs : List V} {i j : Int} (h0 : 0 ≤ i) (h1 : 0 ≤ j) : cutV xs (some i) (some j) = (xs.drop i.toNat).take (j.toNat - i.toNat) := by
  obtain ⟨i, rfl⟩ := Int.eq_ofNat_of_zero_le h0
  obtain ⟨j, rfl⟩ := Int.eq_ofNat_of_zero_le h1
  unfold cutV
  rw [HT.sIx_nat, HT.sIx_nat]
  show _ = (xs.drop i).take (j - i)
  by_cases hi : i ≤ xs.length
  · rw [Nat.min_eq_left hi]
    by_cases hj : j ≤ xs.length
    · rw [Nat.min_eq_left hj]
    · rw [Nat.min_eq_right (by omega), List.take_of_length_le (by rw [List.length_drop]; omega), List.take_of_length_le (by rw [List.length_drop]; omega)]
  · rw [Nat.min_eq_right (show xs.length ≤ i by omega), List.drop_of_length_le (Nat.le_refl _), List.drop_of_length_le (show xs.length ≤ i by omega), List.take_nil, List.take_nil]
theorem cutV_to {xs : List V} {j : Int} (h1 : 0 ≤ j) : cutV xs none (some j) = xs.take j.toNat := by
  have e := cutV_int (xs := xs) (i := 0) (Int.le_refl 0) h1
  rw [show cutV xs none (some j) = cutV xs (some 0) (some j) from by unfold cutV; rw [HT.sIx_none]; rw [show HT.sIx xs.length 0 (some (0 : Int)) = 0 from (HT.sIx_nat xs.length 0 0).trans (Nat.zero_min _)], e]
  rfl
/-! ### a block over every heap that has what the base has -/
def R (t : TS) (D : Ends) (σ : L2.St) (B : Hp) : Prop := ∀ H, Ex B H → t D σ H
/-- a new object -/
def EvN (te : TE) (σ : L2.St) (B : Hp) (o : HO) : Prop := ∀ H1, Ex B H1 → ∀ Q : VK, (∀ p H2, H1 p = none → Ex H1 H2 → H2 p = some o → Q (.ref p) H2) → te σ H1 Q
/-- a value of which this holds -/
def EvP (te : TE) (σ : L2.St) (B : Hp) (Pp : V → Hp → Prop) : Prop := ∀ H1, Ex B H1 → ∀ Q : VK, (∀ v H2, Ex H1 H2 → Pp v H2 → Q v H2) → te σ H1 Q
def EvAP (ta : TA) (σ : L2.St) (B : Hp) (Pp : List V → Hp → Prop) : Prop := ∀ H1, Ex B H1 → ∀ Q : List V → Hp → Prop, (∀ vs H2, Ex H1 H2 → Pp vs H2 → Q vs H2) → ta σ H1 Q
section
variable {K : PySem.W.Frag} {σ : L2.St} {B B' : Hp} {ta tb te tx tl : TE} {t u : TT} {x y z v : V} {D : Ends} {tu tw tz : TS} {g : TG} {o : HO} {Pp : V → Hp → Prop}
theorem R.go (h : R tz D σ B) : tz D σ B := h B (Ex.refl B)
theorem R.mono (h : R tz D σ B) (e : Ex B B') : R tz D σ B' := fun H a => h H (e.trans a)
theorem ex_up {H : Hp} {p : Addr} (e : Ex B H) (h : H p = some o) : Ex (upd B p o) H := fun a u ha => by
  by_cases c : a = p
  · subst c
    rw [upd_same] at ha
    cases ha
    exact h
  · rw [upd_ne c] at ha
    exact e a u ha
theorem ex_mut {H : Hp} {p : Addr} (e : Ex B H) : Ex (upd B p o) (upd H p o) := fun a u ha => by
  by_cases c : a = p
  · subst c
    rw [upd_same] at ha ⊢
    exact ha
  · rw [upd_ne c] at ha ⊢
    exact e a u ha
theorem r_asg {i : Nat} (h : Ev te σ B v) (k : R tz D (σ.set i (some v)) B) : R (tSeq (tAsg te (gName i)) tz) D σ B := fun H a => q_asg (h.mono a) fun H1 e => k H1 (a.trans e)
theorem r_asgN {i : Nat} (h : EvN te σ B o) (k : ∀ p, B p = none → R tz D (σ.set i (some (.ref p))) (upd B p o)) : R (tSeq (tAsg te (gName i)) tz) D σ B := fun H a =>
  h H a _ fun p H2 hp e hh => k p (fresh_back a hp) H2 (ex_up (a.trans e) hh)
/-- .. the base taken as it is then -/
theorem r_new {i : Nat} (h : EvN te σ B o) (k : ∀ p B', B p = none → Ex B B' → B' p = some o → R tz D (σ.set i (some (.ref p))) B') : R (tSeq (tAsg te (gName i)) tz) D σ B := r_asgN h fun p hp => k p _ hp (Ex.new hp) upd_same
theorem r_asgP {i : Nat} (h : EvP te σ B Pp) (k : ∀ v B', Ex B B' → Pp v B' → R tz D (σ.set i (some v)) B') : R (tSeq (tAsg te (gName i)) tz) D σ B := fun H a =>
  h H a _ fun v H2 e hh => k v H2 (a.trans e) hh H2 (Ex.refl H2)
theorem r_if {b : Bool} (h : EvT t σ B b) (h1 : b = true → R tu { D with nx := tz D } σ B) (h2 : b = false → R tw { D with nx := tz D } σ B) : R (tSeq (tIfS t tu tw) tz) D σ B := fun H a =>
  q_if (h.mono a) (fun hb H1 e => h1 hb H1 (a.trans e)) (fun hb H1 e => h2 hb H1 (a.trans e))
/-- an if without else -/
theorem r_when {b : Bool} (h : EvT t σ B b) (h1 : b = true → R tu { D with nx := tz D } σ B) (h2 : b = false → R tz D σ B) : R (tSeq (tIfS t tu tNext) tz) D σ B := r_if h h1 h2
/-- what follows is shown once, from Mid -/
theorem r_whenK (Mid : L2.St → Hp → Prop) {b : Bool} (h : EvT t σ B b) (k : ∀ σ' B', Mid σ' B' → R tz D σ' B') (h1 : (∀ σ' B', Mid σ' B' → R tz D σ' B') → b = true → R tu { D with nx := tz D } σ B) (h2 : (∀ σ' B', Mid σ' B' → R tz D σ' B') → b = false → R tz D σ B) :
    R (tSeq (tIfS t tu tNext) tz) D σ B := r_when h (h1 k) (h2 k)
theorem r_ifK (Mid : L2.St → Hp → Prop) {b : Bool} (h : EvT t σ B b) (k : ∀ σ' B', Mid σ' B' → R tz D σ' B') (h1 : (∀ σ' B', Mid σ' B' → R tz D σ' B') → b = true → R tu { D with nx := tz D } σ B) (h2 : (∀ σ' B', Mid σ' B' → R tz D σ' B') → b = false → R tw { D with nx := tz D } σ B) :
    R (tSeq (tIfS t tu tw) tz) D σ B := r_if h (h1 k) (h2 k)
theorem r_next (k : ∀ H, Ex B H → D.nx σ H) : R tNext D σ B := k
theorem r_on {D : Ends} (k : R tz D σ B) : R tNext { D with nx := tz D } σ B := k
theorem r_ret (h : Ev te σ B v) (k : ∀ H, Ex B H → D.rt v H) : R (tSeq (tRet te) tz) D σ B := fun H a => h H a _ fun H1 e => k H1 (a.trans e)
theorem r_retN (h : EvN te σ B o) (k : ∀ p, B p = none → ∀ H, Ex (upd B p o) H → D.rt (.ref p) H) : R (tSeq (tRet te) tz) D σ B := fun H a => h H a _ fun p H2 hp e hh => k p (fresh_back a hp) H2 (ex_up (a.trans e) hh)
theorem r_retP (h : EvP te σ B Pp) (k : ∀ v B', Ex B B' → Pp v B' → D.rt v B') : R (tSeq (tRet te) tz) D σ B := fun H a => h H a _ fun v H2 e hh => k v H2 (a.trans e) hh
theorem r_brk (k : ∀ H, Ex B H → D.bk σ H) : R (tSeq tBreak tz) D σ B := k
theorem r_cont (k : ∀ H, Ex B H → D.ct σ H) : R (tSeq tCont tz) D σ B := k
theorem r_drop (h : Ev te σ B v) (k : R tz D σ B) : R (tSeq (tDrop te) tz) D σ B := fun H a => q_drop (h.mono a) fun H1 e => k H1 (a.trans e)
theorem r_aug {i : Nat} {f : Int → Int → Int} {a b : Int} (hx : σ[i]? = some (some (.int a))) (h : Ev te σ B (.int b)) (k : R tz D (σ.set i (some (.int (f a b)))) B) : R (tSeq (tAug i te (ipI f)) tz) D σ B := fun H e => q_aug hx (h.mono e) fun H1 e1 => k H1 (e.trans e1)
theorem r_app {l : Addr} {xs : List V} (hl : B l = some (.lst xs)) (ha : Ev ta σ B (.ref l)) (h : Ev te σ B v) (hz : xs.length < 100000) (k : R tz D σ (upd B l (.lst (xs ++ [v])))) :
    R (tSeq (tDrop (tBM K "list" rAppend ta (tCons te tNil))) tz) D σ B := fun H a => q_app (a l _ hl) (ha.mono a) (h.mono a) hz fun H1 e => k _ (ex_mut (a.trans e))
theorem r_appN {l : Addr} {xs : List V} (hl : B l = some (.lst xs)) (ha : Ev ta σ B (.ref l)) (h : EvN te σ B o) (hz : xs.length < 100000) (k : ∀ p, B p = none → R tz D σ (upd (upd B p o) l (.lst (xs ++ [.ref p])))) :
    R (tSeq (tDrop (tBM K "list" rAppend ta (tCons te tNil))) tz) D σ B := fun H a => ha H a _ fun H1 e1 =>
  ⟨Or.inl ⟨rfl, xs, sq_of (e1 l _ (a l _ hl))⟩, h H1 (a.trans e1) _ fun p H2 hp e2 h2 => ⟨l, xs, .ref p, rfl, rfl, e2 l _ (e1 l _ (a l _ hl)), sz_lt hz, k p (fresh_back (a.trans e1) hp) _ (ex_mut (ex_up ((a.trans e1).trans e2) h2))⟩⟩
/-- the word of a loop, over its bases -/
def Up (Pv : Nat → L2.St → Hp → Prop) (i : Nat) (σ : L2.St) (H : Hp) : Prop := ∃ B, Ex B H ∧ Pv i σ B
theorem up_of {Pv : Nat → L2.St → Hp → Prop} {i : Nat} (h : Pv i σ B) : ∀ H, Ex B H → Up Pv i σ H := fun H e => ⟨B, e, h⟩
theorem r_up {Pv : Nat → L2.St → Hp → Prop} {i : Nat} {rt : VK} {bk ct : L2.St → Hp → Prop} (h : Pv i σ B) : R tNext { nx := Up Pv i, rt := rt, bk := bk, ct := ct } σ B := fun H e => ⟨B, e, h⟩
abbrev Lp (Pv : Nat → L2.St → Hp → Prop) (i : Nat) (D : Ends) (tz : TS) : Ends := { nx := Up Pv (i + 1), rt := D.rt, bk := tz D, ct := Up Pv (i + 1) }
theorem r_forL {a : Addr} {xs : List V} {j : Nat} (h : Ev tl σ B (.ref a)) (hx : SqL K B a xs) (Pv : Nat → L2.St → Hp → Prop) (h0 : Pv 0 σ B) (hl : ∀ i σ' B', i ≤ xs.length → Pv i σ' B' → SqL K B' a xs)
    (hs : ∀ i x σ' B', xs[i]? = some x → Pv i σ' B' → R tu (Lp Pv i D tz) (σ'.set j (some x)) B') (hd : ∀ σ' B', Pv xs.length σ' B' → R tz D σ' B') : R (tSeq (tFor (iList K tl) (gName j) tu) tz) D σ B := fun H e =>
  q_forLn (h.mono e) (ex_l e hx) (Up Pv) (fun H1 e1 => ⟨B, e.trans e1, h0⟩) (fun i σ' H' hi ⟨B', e', p⟩ => ex_l e' (hl i σ' B' hi p)) (fun i x σ' H' hx' ⟨B', e', p⟩ => hs i x σ' B' hx' p H' e') fun σ' H' ⟨B', e', p⟩ => hd σ' B' p H' e'
theorem r_forN {xs : List V} {j : Nat} (h : EvN tl σ B (.lst xs)) (Pv : Addr → Nat → L2.St → Hp → Prop) (h0 : ∀ p, B p = none → Pv p 0 σ (upd B p (.lst xs))) (hl : ∀ p i σ' B', i ≤ xs.length → Pv p i σ' B' → SqL K B' p xs)
    (hs : ∀ p i x σ' B', xs[i]? = some x → Pv p i σ' B' → R tu (Lp (Pv p) i D tz) (σ'.set j (some x)) B') (hd : ∀ p σ' B', Pv p xs.length σ' B' → R tz D σ' B') : R (tSeq (tFor (iList K tl) (gName j) tu) tz) D σ B := fun H e =>
  h H e _ fun p H1 hp e1 h1 => ⟨p, rfl, ⟨xs, sq_of h1⟩, for_list (Up (Pv p)) ⟨_, ex_up (e.trans e1) h1, h0 p (fresh_back e hp)⟩ (fun i σ' H' hi ⟨B', e', q⟩ => ex_l e' (hl p i σ' B' hi q))
    (fun i x σ' H' hx' ⟨B', e', q⟩ => hs p i x σ' B' hx' q H' e') fun σ' H' ⟨B', e', q⟩ => hd p σ' B' q H' e'⟩
theorem r_forR1 {ta : TA} {j : Nat} {n : Int} (h : EvA ta σ B [.int n]) (hn : 0 ≤ n ∧ n ≤ 100000) (Pv : Nat → L2.St → Hp → Prop) (h0 : Pv 0 σ B)
    (hs : ∀ (i : Nat) σ' B', (i : Int) < n → Pv i σ' B' → R tu (Lp Pv i D tz) (σ'.set j (some (.int (i : Int)))) B') (hd : ∀ σ' B', Pv n.toNat σ' B' → R tz D σ' B') : R (tSeq (tFor (iRng1 ta) (gName j) tu) tz) D σ B := fun H e =>
  q_forR1 (h.mono e) hn (Up Pv) (fun H1 e1 => ⟨B, e.trans e1, h0⟩) (fun i σ' H' hi ⟨B', e', p⟩ => hs i σ' B' hi p H' e') fun σ' H' ⟨B', e', p⟩ => hd σ' B' p H' e'
theorem r_forR2 {ta : TA} {j : Nat} {lo n : Int} (h : EvA ta σ B [.int lo, .int n]) (hn : 0 ≤ lo ∧ lo ≤ 100000 ∧ -100000 ≤ n ∧ n ≤ 100000) (Pv : Nat → L2.St → Hp → Prop) (h0 : Pv 0 σ B)
    (hs : ∀ (i : Nat) σ' B', lo + (i : Int) < n → Pv i σ' B' → R tu (Lp Pv i D tz) (σ'.set j (some (.int (lo + (i : Int))))) B') (hd : ∀ σ' B', Pv (n - lo).toNat σ' B' → R tz D σ' B') : R (tSeq (tFor (iRng2 ta) (gName j) tu) tz) D σ B := fun H e =>
  q_forR2 (h.mono e) hn (Up Pv) (fun H1 e1 => ⟨B, e.trans e1, h0⟩) (fun i σ' H' hi ⟨B', e', p⟩ => hs i σ' B' hi p H' e') fun σ' H' ⟨B', e', p⟩ => hd σ' B' p H' e'
theorem r_forS {s : List Nat} {j : Nat} (h : Ev tl σ B (.str (SX.S s))) (Pv : Nat → L2.St → Hp → Prop) (h0 : Pv 0 σ B)
    (hs : ∀ (i c : Nat) σ' B', s[i]? = some c → Pv i σ' B' → R tu (Lp Pv i D tz) (σ'.set j (some (.str (SX.S [c])))) B') (hd : ∀ σ' B', Pv s.length σ' B' → R tz D σ' B') : R (tSeq (tFor (iStr tl) (gName j) tu) tz) D σ B := fun H e =>
  h H e _ fun H1 e1 => ⟨_, rfl, for_str (x := s) (Up Pv) ⟨B, e.trans e1, h0⟩ (fun i c σ' H' hc ⟨B', e', p⟩ => hs i c σ' B' hc p H' e') fun σ' H' ⟨B', e', p⟩ => hd σ' B' p H' e'⟩
/-- while, by a word and a number that falls -/
theorem r_while (Pv : Nat → L2.St → Hp → Prop) (m0 : Nat) (h0 : Pv m0 σ B)
    (hs : ∀ m σ' B', Pv m σ' B' → ∃ b, EvT t σ' B' b ∧ (b = true → R tu { D with nx := fun σ2 H2 => ∃ m', m' < m ∧ Up Pv m' σ2 H2, ct := fun σ2 H2 => ∃ m', m' < m ∧ Up Pv m' σ2 H2, bk := tz D } σ' B') ∧ (b = false → R tz D σ' B')) : R (tSeq (tWhile t tu) tz) D σ B := fun H e =>
  q_while (Up Pv) m0 ⟨B, e, h0⟩ fun m σ' H' ⟨B', e', p⟩ => by
    obtain ⟨b, hb, h1, h2⟩ := hs m σ' B' p
    exact ⟨b, hb.mono e', fun hb H1 e1 => ⟨fun σ2 H2 => ∃ m', m' < m ∧ Up Pv m' σ2 H2, fun _ _ q => q, h1 hb H1 (e'.trans e1)⟩, fun hb H1 e1 => h2 hb H1 (e'.trans e1)⟩

/-! ### expressions -/
theorem EvN.mono (e : Ex B B') (h : EvN te σ B o) : EvN te σ B' o := fun H1 a Q q => h H1 (e.trans a) Q q
theorem EvP.mono (e : Ex B B') (h : EvP te σ B Pp) : EvP te σ B' Pp := fun H1 a Q q => h H1 (e.trans a) Q q
theorem ev_slice_str {tl th : TO} {s : List Nat} {lo hi : Option Int} (h : Ev te σ B (.str (SX.S s))) (h1 : EvO tl σ B lo) (h2 : EvO th σ B hi) (hz : s.length ≤ 100000) : Ev (tSl rSlS te tl th) σ B (.str (cutS (SX.S s) lo hi)) := fun H1 e _ q =>
  h H1 e _ fun H2 e2 => h1 H2 (e.trans e2) _ fun H3 e3 => h2 H3 ((e.trans e2).trans e3) _ fun H4 e4 => ⟨_, rfl, by rw [SX.S_len]; exact sz_of hz, q H4 ((e2.trans e3).trans e4)⟩
theorem ev_chain {r r' : R2} {a b : Bool} (ha : Ev ta σ B x) (hb : Ev tb σ B y) (hr : RV r x y B (.bl a)) (hc : a = true → Ev tx σ B z) (hr' : a = true → RV r' y z B (.bl b)) : Ev (tChain r r' ta tb tx) σ B (.bl (a && b)) := fun H1 e Q q =>
  ha H1 e _ fun H2 e2 => hb H2 (e.trans e2) _ fun H3 e3 => hr H3 ((e.trans e2).trans e3) _ fun H4 e4 => ⟨a, rfl, by
    cases a with
    | true =>
      show tx σ H4 _
      exact hc rfl H4 (((e.trans e2).trans e3).trans e4) _ fun H5 e5 => hr' rfl H5 ((((e.trans e2).trans e3).trans e4).trans e5) _ fun H6 e6 => q H6 ((((e2.trans e3).trans e4).trans e5).trans e6)
    | false =>
      show Q (.bl false) H4
      exact q H4 ((e2.trans e3).trans e4)⟩
theorem ev_lenS {s : List Nat} (ha : Ev ta σ B (.str (SX.S s))) (hz : s.length ≤ 100000) : Ev (tCB (fun xs H Q => ∃ z, xs = [.str z] ∧ z.length ≤ sizeLine ∧ Q (.int z.length) H) (tCons ta tNil)) σ B (.int (s.length : Int)) := fun H1 e Q q =>
  ha H1 e _ fun H2 e2 => ⟨_, rfl, by rw [SX.S_len]; exact sz_of hz, by rw [SX.S_len]; exact q H2 e2⟩
theorem ev_lenN {xs : List V} (ha : EvN ta σ B (.lst xs)) : Ev (tCB (rLenS K) (tCons ta tNil)) σ B (.int (xs.length : Int)) := fun H1 e Q q => ha H1 e _ fun p H2 _ e2 h2 => ⟨p, xs, rfl, Or.inl (sq_of h2), q H2 e2⟩
theorem ev_int {i : Int} (ha : Ev ta σ B (.int i)) : Ev (tCB (fun xs H Q => (∃ i, xs = [V.int i] ∧ Q (.int i) H) ∨ ∃ k, xs = [.bl k] ∧ Q (.int (if k then 1 else 0)) H) (tCons ta tNil)) σ B (.int i) := fun H1 e Q q =>
  ha H1 e _ fun H2 e2 => .inl ⟨i, rfl, q H2 e2⟩
theorem ev_ord {c : Nat} (ha : Ev ta σ B (.str (SX.S [c]))) : Ev (tCB (fun xs H Q => ∃ x, xs = [V.str x] ∧ x.length = 1 ∧ Q (.int (x.cps.getD 0 0 : Nat)) H) (tCons ta tNil)) σ B (.int (c : Int)) := fun H1 e Q q =>
  ha H1 e _ fun H2 e2 => ⟨_, rfl, rfl, q H2 e2⟩
theorem rv_cmp {p : Int → Int → Bool} {i j : Int} : RV (rI0 fun i j => .bl (p i j)) (.int i) (.int j) B (.bl (p i j)) := rv_I0
theorem rv_ar {f : Int → Int → Int} {i j : Int} : RV (rI0 fun i j => .int (f i j)) (.int i) (.int j) B (.int (f i j)) := rv_I0
theorem rv_arC {C : Int → Int → Prop} {f : Int → Int → Int} {i j : Int} (hc : C i j) : RV (rI C fun i j => .int (f i j)) (.int i) (.int j) B (.int (f i j)) := rv_I hc
theorem rv_addS {a b : List Nat} (hz : a.length + b.length ≤ 100000) : RV (fun x y H Q => ∃ i j, x = V.str i ∧ y = .str j ∧ i.length + j.length ≤ sizeLine ∧ Q (.str (i ++ j)) H) (.str (SX.S a)) (.str (SX.S b)) B (.str (SX.S (a ++ b))) := fun H1 _ _ q =>
  ⟨_, _, rfl, rfl, by rw [SX.S_len, SX.S_len]; exact sz_of hz, by rw [SX.S_cat]; exact q H1 (Ex.refl H1)⟩
/-- a sign of a text -/
theorem rv_inS {c : Nat} {s : List Nat} : RV (fun x y H Q => ∃ (c : Nat) (z : Str), x = .str ⟨#[c]⟩ ∧ y = .str z ∧ Q (.bl (decide (c ∈ z.cps.toList))) H) (.str (SX.S [c])) (.str (SX.S s)) B (.bl (decide (c ∈ s))) := fun H1 _ _ q => ⟨c, SX.S s, rfl, rfl, q H1 (Ex.refl H1)⟩
theorem rv_niS {c : Nat} {s : List Nat} : RV (fun x y H Q => ∃ (c : Nat) (z : Str), x = .str ⟨#[c]⟩ ∧ y = .str z ∧ Q (.bl (!decide (c ∈ z.cps.toList))) H) (.str (SX.S [c])) (.str (SX.S s)) B (.bl (!decide (c ∈ s))) := fun H1 _ _ q => ⟨c, SX.S s, rfl, rfl, q H1 (Ex.refl H1)⟩
theorem rv_ixSt {s : List Nat} {i : Int} (hz : s.length ≤ 100000) (h0 : 0 ≤ i) (h1 : i < s.length) : RV rIxS (.str (SX.S s)) (.int i) B (.str (SX.S [s.getD i.toNat 0])) := by
  refine rv_ixS (by rw [SX.S_len]; exact hz) ?_
  obtain ⟨j, rfl⟩ := Int.eq_ofNat_of_zero_le h0
  have hj : j < s.length := by omega
  refine atI_nat (j := j) ?_
  simp [SX.S, List.getD, List.getElem?_eq_getElem hj]
theorem rv_ixI {ns : List Int} {p : Addr} {i : Int} (h : SqL K B p (ns.map V.int)) (h0 : 0 ≤ i) (h1 : i < ns.length) : RV (rIxL K) (.ref p) (.int i) B (.int (ns.getD i.toNat 0)) := rv_ixL h (atI_ints h0 h1)
theorem rv_isB {a b : Bool} : RV rIsB (.bl a) (.bl b) B (.bl (decide (a = b))) := fun H1 _ _ q => ⟨a, b, rfl, rfl, q H1 (Ex.refl H1)⟩
theorem rv_isN : RV (fun x y H Q => y = .non ∧ Q (.bl (decide (x = .non))) H) x .non B (.bl (decide (x = .non))) := fun H1 _ _ q => ⟨rfl, q H1 (Ex.refl H1)⟩
theorem rv_notN : RV (fun x y H Q => y = .non ∧ Q (.bl (!decide (x = .non))) H) x .non B (.bl (!decide (x = .non))) := fun H1 _ _ q => ⟨rfl, q H1 (Ex.refl H1)⟩
theorem en_lst {ta : TA} {vs : List V} (h : EvA ta σ B vs) (hl : vs.length ≤ 100000) : EvN (tLst ta) σ B (.lst vs) := el_lst h hl
theorem en_tup {ta : TA} {vs : List V} (h : EvA ta σ B vs) (hl : vs.length ≤ 100000) : EvN (tTup ta) σ B (.tup vs) := eu_tup h hl
theorem en_sl {tl th : TO} {a : Addr} {xs : List V} {lo hi : Option Int} (h : Ev te σ B (.ref a)) (h1 : EvO tl σ B lo) (h2 : EvO th σ B hi) (hs : SqL K B a xs) : EvN (tSl (rSlL K) te tl th) σ B (.lst (cutV xs lo hi)) := el_sl h h1 h2 hs
theorem en_dict : EvN tDNewK σ B (.dK []) := fun H1 _ Q q => fun p hp => q p _ hp (Ex.new hp) upd_same
/-- both operands new lists -/
theorem en_cat {xs ys : List V} (ha : EvN ta σ B (.lst xs)) (hb : EvN tb σ B (.lst ys)) (hz : xs.length + ys.length ≤ 100000) : EvN (tOp rCat ta tb) σ B (.lst (xs ++ ys)) := fun H1 e Q k =>
  ha H1 e _ fun p H2 hp1 e2 hp => hb H2 (e.trans e2) _ fun q H3 _ e3 hq => ⟨p, q, xs, ys, rfl, rfl, e3 p _ hp, hq, sz_of hz, fun r hr => k r _ (fresh_back (e2.trans e3) hr) ((e2.trans e3).trans (Ex.new hr)) upd_same⟩
theorem en_catV {xs ys : List V} {a b : Addr} (ha : Ev ta σ B (.ref a)) (hb : Ev tb σ B (.ref b)) (h1 : B a = some (.lst xs)) (h2 : B b = some (.lst ys)) (hz : xs.length + ys.length ≤ 100000) : EvN (tOp rCat ta tb) σ B (.lst (xs ++ ys)) := fun H1 e Q k =>
  ha H1 e _ fun H2 e2 => hb H2 (e.trans e2) _ fun H3 e3 => ⟨a, b, xs, ys, rfl, rfl, ((e.trans e2).trans e3) a _ h1, ((e.trans e2).trans e3) b _ h2, sz_of hz, fun r hr => k r _ (fresh_back (e2.trans e3) hr) ((e2.trans e3).trans (Ex.new hr)) upd_same⟩
theorem en_catVN {xs ys : List V} {a : Addr} (ha : Ev ta σ B (.ref a)) (hb : EvN tb σ B (.lst ys)) (h1 : B a = some (.lst xs)) (hz : xs.length + ys.length ≤ 100000) : EvN (tOp rCat ta tb) σ B (.lst (xs ++ ys)) := fun H1 e Q k =>
  ha H1 e _ fun H2 e2 => hb H2 (e.trans e2) _ fun q H3 _ e3 hq => ⟨a, q, xs, ys, rfl, rfl, ((e.trans e2).trans e3) a _ h1, hq, sz_of hz, fun r hr => k r _ (fresh_back (e2.trans e3) hr) ((e2.trans e3).trans (Ex.new hr)) upd_same⟩
theorem en_catNV {xs ys : List V} {b : Addr} (ha : EvN ta σ B (.lst xs)) (hb : Ev tb σ B (.ref b)) (h1 : B b = some (.lst ys)) (hz : xs.length + ys.length ≤ 100000) : EvN (tOp rCat ta tb) σ B (.lst (xs ++ ys)) := fun H1 e Q k =>
  ha H1 e _ fun p H2 hp1 e2 hp => hb H2 (e.trans e2) _ fun H3 e3 => ⟨p, b, xs, ys, rfl, rfl, e3 p _ hp, ((e.trans e2).trans e3) b _ h1, sz_of hz, fun r hr => k r _ (fresh_back (e2.trans e3) hr) ((e2.trans e3).trans (Ex.new hr)) upd_same⟩
/-- an item of a new list -/
theorem ev_ixN {xs : List V} {i : Int} (ha : EvN ta σ B (.lst xs)) (hb : ∀ B', Ex B B' → Ev tb σ B' (.int i)) (h : atI xs i = some v) : Ev (tOp (rIxL K) ta tb) σ B v := ev_opL1 ha hb fun p H1 hp _ => rv_ixL (sq_of hp) h
/-- sep.join(a new list) -/
theorem ev_joinN {a : Str} {ys : List Str} (ha : Ev ta σ B (.str a)) (hb : EvN tb σ B (.lst (ys.map V.str))) (hz : (ys.map (·.length)).sum + ys.length * a.length ≤ 16777216) :
    Ev (tM1 (fun x xs H Q => ∃ a p, ∃ ys : List Str, x = .str a ∧ xs = [.ref p] ∧ (SqL K H p (ys.map V.str) ∨ SqT K H p (ys.map V.str)) ∧ (ys.map (·.length)).sum + ys.length * a.length ≤ 16777216 ∧ Q (.str (Txt.join a ys)) H) ta tb) σ B (.str (Txt.join a ys)) := fun H1 e Q q =>
  ha H1 e _ fun H2 e2 => ⟨⟨a, rfl⟩, hb H2 (e.trans e2) _ fun p H3 _ e3 hp => ⟨a, p, ys, rfl, rfl, .inl (sq_of hp), hz, q H3 (e2.trans e3)⟩⟩
theorem ev_cS {x : Str} : Ev (tC (.str x)) σ B (.str (SX.S x.cps.toList)) := by
  rw [SX.S_tl]
  exact ev_c
theorem joinL_signs : ∀ cs : List Nat, TL.joinL [] (cs.map fun c => [c]) = cs
  | [] => rfl
  | [c] => rfl
  | c :: d :: r => by
    show [c] ++ ([] ++ TL.joinL [] ((d :: r).map fun c => [c])) = _
    rw [joinL_signs (d :: r)]
    rfl
theorem joinL_len (a : List Nat) : ∀ ys : List (List Nat), (TL.joinL a ys).length ≤ (ys.map (·.length)).sum + ys.length * a.length
  | [] => Nat.zero_le _
  | [y] => by
    show y.length ≤ _
    simp
  | y :: z :: r => by
    have ih := joinL_len a (z :: r)
    show (y ++ (a ++ TL.joinL a (z :: r))).length ≤ _
    rw [List.length_append, List.length_append]
    simp only [List.map_cons, List.sum_cons, List.length_cons, Nat.succ_mul] at ih ⊢
    omega
/-- sep.join(a new list of texts) -/
theorem ev_joinS {a : List Nat} {ys : List (List Nat)} (ha : Ev ta σ B (.str (SX.S a))) (hb : EvN tb σ B (.lst (ys.map fun l => V.str (SX.S l)))) (hz : (ys.map (·.length)).sum + ys.length * a.length ≤ 16777216) :
    Ev (tM1 (fun x xs H Q => ∃ a p, ∃ ys : List Str, x = .str a ∧ xs = [.ref p] ∧ (SqL K H p (ys.map V.str) ∨ SqT K H p (ys.map V.str)) ∧ (ys.map (·.length)).sum + ys.length * a.length ≤ 16777216 ∧ Q (.str (Txt.join a ys)) H) ta tb) σ B (.str (SX.S (TL.joinL a ys))) := by
  rw [← SX.join_S]
  refine ev_joinN ha (by rw [List.map_map]; exact hb) ?_
  rw [SX.lens, List.length_map, SX.S_len]
  exact hz
theorem sum_ones : ∀ cs : List Nat, ((cs.map fun c => [c]).map (·.length)).sum = cs.length
  | [] => rfl
  | c :: r => by
    have ih := sum_ones r
    simp only [List.map_cons, List.sum_cons, List.length_cons, List.length_nil] at ih ⊢
    omega
/-- ''.join(a new list of single signs) -/
theorem ev_joinC {a cs : List Nat} (ha : Ev ta σ B (.str (SX.S a))) (h0 : a = []) (hb : EvN tb σ B (.lst (cs.map fun c => V.str (SX.S [c])))) (hz : cs.length ≤ 100000) :
    Ev (tM1 (fun x xs H Q => ∃ a p, ∃ ys : List Str, x = .str a ∧ xs = [.ref p] ∧ (SqL K H p (ys.map V.str) ∨ SqT K H p (ys.map V.str)) ∧ (ys.map (·.length)).sum + ys.length * a.length ≤ 16777216 ∧ Q (.str (Txt.join a ys)) H) ta tb) σ B (.str (SX.S cs)) := by
  subst h0
  have e := ev_joinS (K := K) (a := []) (ys := cs.map fun c => [c]) ha (by rw [List.map_map]; exact hb) (by rw [sum_ones]; simp; omega)
  rw [joinL_signs] at e
  exact e
theorem en_splitS {a b : List Nat} (ha : Ev ta σ B (.str (SX.S a))) (hb : Ev tb σ B (.str (SX.S b))) (h0 : b ≠ []) (hk : b.all (· < 256) = true) (hz : a.length ≤ 100000) :
    EvN (tM1 (fun x xs H Q => ∃ a b, x = .str a ∧ xs = [.str b] ∧ (b.length == 0) = false ∧ a.length + 2 ≤ sizeLine ∧ rNewStrs (Txt.split a b) H Q) ta tb) σ B (.lst ((TL.spl b 0 [] a).map fun l => V.str (SX.S l))) := by
  have e : (TL.spl b 0 [] a).map (fun l => V.str (SX.S l)) = (Txt.split (SX.S a) (SX.S b)).map V.str := by
    rw [SX.split_S h0 hk, List.map_map]
    rfl
  rw [e]
  exact fun H1 e Q q => ha H1 e _ fun H2 e2 => ⟨⟨_, rfl⟩, hb H2 (e.trans e2) _ fun H3 e3 => ⟨_, _, rfl, rfl, by
    rw [SX.S_len]
    cases b with
    | nil => exact absurd rfl h0
    | cons c r => rfl, by rw [SX.S_len]; exact Nat.le_trans (Nat.add_le_add_right hz 2) (by decide), fun p hp => q p _ (fresh_back (e2.trans e3) hp) ((e2.trans e3).trans (Ex.new hp)) upd_same⟩⟩
theorem spl_len (S : List Nat) : ∀ (l acc : List Nat) (k : Nat), ∀ p ∈ TL.spl S k acc l, p.length ≤ acc.length + l.length
  | [], acc, 0, p, h => by
    rw [TL.spl_nil] at h
    simp at h
    subst h
    omega
  | [], acc, k + 1, p, h => by
    rw [TL.spl_nil] at h
    simp at h
    subst h
    omega
  | c :: r, acc, 0, p, h => by
    unfold TL.spl at h
    split at h
    · rcases List.mem_cons.mp h with h | h
      · subst h
        omega
      · have := spl_len S r [] _ p h
        simp at this ⊢
        omega
    · have := spl_len S r _ _ p h
      simp at this ⊢
      omega
  | c :: r, acc, k + 1, p, h => by
    unfold TL.spl at h
    have := spl_len S r acc k p h
    simp at this ⊢
    omega
/-- what a for (of a comprehension) goes over, the heap as it was -/
def EvI (wi : TI) (σ : L2.St) (B : Hp) (xs : List V) : Prop := ∀ H1, Ex B H1 → ∀ R : It → Hp → Prop, (∀ (J : It) (H2 : Hp) (G : Hp → Prop), Ex H1 H2 → Walk J xs.length G (YAt xs) → (∀ H3, Ex H2 H3 → G H3) → R J H2) → wi σ H1 R
theorem ei_list {a : Addr} {xs : List V} (h : Ev tl σ B (.ref a)) (hx : SqL K B a xs) : EvI (iList K tl) σ B xs := fun H1 e R k => h H1 e _ fun H2 e2 => ⟨a, rfl, ⟨xs, ex_l (e.trans e2) hx⟩, k _ H2 _ e2 walk_list fun H3 e3 => ex_l ((e.trans e2).trans e3) hx⟩
theorem ei_listN {xs : List V} (h : EvN tl σ B (.lst xs)) : EvI (iList K tl) σ B xs := fun H1 e R k => h H1 e _ fun p H2 hp e2 h2 => ⟨p, rfl, ⟨xs, sq_of h2⟩, k _ H2 _ e2 walk_list fun H3 e3 => sq_of (e3 p _ h2)⟩
theorem ei_str {s : List Nat} (h : Ev tl σ B (.str (SX.S s))) : EvI (iStr tl) σ B (s.map fun c => .str (SX.S [c])) := fun H1 e R k => h H1 e _ fun H2 e2 => ⟨_, rfl, k _ H2 (fun _ => True) e2 (by
  have hz : (SX.S s).cps.size = s.length := by simp [SX.S]
  have w := walk_str (z := SX.S s)
  rw [hz] at w
  rw [List.length_map]
  refine w.mono (fun _ h => h) fun i H x H' hi _ y => ?_
  obtain ⟨y1, c, hc, hv⟩ := y
  refine ⟨y1, ?_⟩
  have hc' : s[i]? = some c := by simpa [SX.S] using hc
  rw [List.getElem?_map, hc', hv]
  rfl) fun _ _ => trivial⟩
theorem ei_range1 {ta : TA} {n : Int} (h : EvA ta σ B [.int n]) (hn : 0 ≤ n ∧ n ≤ 100000) : EvI (iRng1 ta) σ B ((List.range n.toNat).map fun i : Nat => V.int (i : Int)) := fun H1 e R k => h H1 e _ fun H2 e2 => by
  refine ⟨n, rfl, by omega, by omega, k _ H2 (fun _ => True) e2 ?_ fun _ _ => trivial⟩
  rw [List.length_map, List.length_range]
  refine walk_range.mono (fun _ h => h) fun i H x H' hi _ y => ⟨y.1, ?_⟩
  rw [List.getElem?_map, List.getElem?_range hi, y.2]
  show some (V.int (i : Int)) = some (V.int ((0 : Int) + (i : Int)))
  rw [Int.zero_add]
/-- a comprehension of values -/
theorem en_lc {wi : TI} {xs : List V} {j : Nat} {vs : List Nat} (p : V → Bool) (f : V → V) (h : EvI wi σ B xs) (hz : xs.length ≤ 100000) (hw : ∀ x, wipe ((wipe σ vs).set j (some x)) vs = wipe σ vs)
    (ht : ∀ x ∈ xs, ∀ B', Ex B B' → EvT t ((wipe σ vs).set j (some x)) B' (p x)) (he : ∀ x ∈ xs, ∀ B', Ex B B' → p x = true → Ev te ((wipe σ vs).set j (some x)) B' (f x)) : EvN (tLc wi (gName j) t te vs) σ B (.lst ((xs.filter p).map f)) := fun H1 e Q q =>
  h H1 e _ fun J H2 G e2 w hG => fun Dl hD => lc_it w (fun i H => H2 Dl = none ∧ Ex H2 H ∧ H Dl = some (.lst (((xs.take i).filter p).map f))) ⟨hD, Ex.new hD, upd_same⟩ (fun i H _ a => hG H a.2.1) (fun i x H H' hi a y => by
    obtain ⟨a1, a2, a3⟩ := a
    obtain ⟨y1, y2⟩ := y
    subst y1
    have hm : x ∈ xs := List.mem_of_getElem? y2
    have eB : Ex B H' := (e.trans e2).trans a2
    have et : (xs.take (i + 1)).filter p = (xs.take i).filter p ++ [x].filter p := by
      rw [List.take_add_one, y2, List.filter_append]
      rfl
    refine ⟨hw x, ht x hm H' eB H' (Ex.refl H') _ fun H3 e3 => ?_⟩
    cases hp : p x with
    | true =>
      refine he x hm H' eB hp H3 e3 _ fun H4 e4 => ⟨_, e4 Dl _ (e3 Dl _ a3), ?_, a1, Ex.mut ((a2.trans e3).trans e4) a1, ?_⟩
      · rw [List.length_map]
        have h1 := List.length_filter_le p (xs.take i)
        rw [List.length_take] at h1
        exact Nat.lt_of_le_of_lt (Nat.le_trans h1 (Nat.le_trans (Nat.min_le_right _ _) hz)) (by decide)
      · rw [upd_same, et, List.map_append, List.filter_cons, if_pos hp]
        rfl
    | false =>
      refine ⟨a1, a2.trans e3, ?_⟩
      rw [et, List.filter_cons, if_neg (by rw [hp]; decide)]
      show H3 Dl = some (.lst (((xs.take i).filter p ++ []).map f))
      rw [List.append_nil]
      exact e3 Dl _ a3) fun H a => q Dl H (fresh_back e2 a.1) (e2.trans a.2.1) (by
        have a3 := a.2.2
        rw [List.take_length] at a3
        exact a3)
theorem et_yes : EvT tYes σ B true := fun H1 _ _ q => q H1 (Ex.refl H1)
theorem filter_yes {α : Type} (xs : List α) : xs.filter (fun _ => true) = xs := List.filter_eq_self.mpr fun _ _ => rfl
/-- .. without a test -/
theorem en_lcA {wi : TI} {xs : List V} {j : Nat} {vs : List Nat} (f : V → V) (h : EvI wi σ B xs) (hz : xs.length ≤ 100000) (hw : ∀ x, wipe ((wipe σ vs).set j (some x)) vs = wipe σ vs)
    (he : ∀ x ∈ xs, ∀ B', Ex B B' → Ev te ((wipe σ vs).set j (some x)) B' (f x)) : EvN (tLc wi (gName j) tYes te vs) σ B (.lst (xs.map f)) := by
  have e := en_lc (t := tYes) (fun _ => true) f h hz hw (fun _ _ _ _ => et_yes) fun x hx B' a _ => he x hx B' a
  rw [filter_yes] at e
  exact e
/-- over ints -/
theorem en_lcI {wi : TI} {ns : List Int} {j : Nat} {vs : List Nat} (f : Int → V) (h : EvI wi σ B (ns.map V.int)) (hz : ns.length ≤ 100000) (hw : ∀ x, wipe ((wipe σ vs).set j (some x)) vs = wipe σ vs)
    (he : ∀ n ∈ ns, ∀ B', Ex B B' → Ev te ((wipe σ vs).set j (some (.int n))) B' (f n)) : EvN (tLc wi (gName j) tYes te vs) σ B (.lst (ns.map f)) := by
  have e := en_lcA (te := te) (σ := σ) (B := B) (j := j) (vs := vs) (fun x => match x with | .int n => f n | _ => .non) h (by rw [List.length_map]; exact hz) hw fun x hx B' a => by
    obtain ⟨n, hn, rfl⟩ := List.mem_map.mp hx
    exact he n hn B' a
  rw [List.map_map] at e
  exact e
/-- over the signs of a text -/
theorem en_lcS {wi : TI} {s : List Nat} {j : Nat} {vs : List Nat} (f : Nat → V) (h : EvI wi σ B (s.map fun c => .str (SX.S [c]))) (hz : s.length ≤ 100000) (hw : ∀ x, wipe ((wipe σ vs).set j (some x)) vs = wipe σ vs)
    (he : ∀ c ∈ s, ∀ B', Ex B B' → Ev te ((wipe σ vs).set j (some (.str (SX.S [c])))) B' (f c)) : EvN (tLc wi (gName j) tYes te vs) σ B (.lst (s.map f)) := by
  have e := en_lcA (te := te) (σ := σ) (B := B) (j := j) (vs := vs) (fun x => match x with | .str z => f (z.cps.getD 0 0) | _ => .non) h (by rw [List.length_map]; exact hz) hw fun x hx B' a => by
    obtain ⟨c, hc, rfl⟩ := List.mem_map.mp hx
    exact he c hc B' a
  rw [List.map_map] at e
  exact e
theorem en_split {a b : Str} (ha : Ev ta σ B (.str a)) (hb : Ev tb σ B (.str b)) (h0 : (b.length == 0) = false) (hz : a.length + 2 ≤ sizeLine) :
    EvN (tM1 (fun x xs H Q => ∃ a b, x = .str a ∧ xs = [.str b] ∧ (b.length == 0) = false ∧ a.length + 2 ≤ sizeLine ∧ rNewStrs (Txt.split a b) H Q) ta tb) σ B (.lst ((Txt.split a b).map V.str)) := fun H1 e Q q =>
  ha H1 e _ fun H2 e2 => ⟨⟨a, rfl⟩, hb H2 (e.trans e2) _ fun H3 e3 => ⟨a, b, rfl, rfl, h0, hz, fun p hp => q p _ (fresh_back (e2.trans e3) hp) ((e2.trans e3).trans (Ex.new hp)) upd_same⟩⟩
theorem ev_isi {ta : TA} {c : V} {tv uv : Value} {b : Bool} (h : EvA ta σ B [x, c]) (hc : ClsV c uv) (ht : ∀ H, Ex B H → TyX K H x tv) (hb : PySem.W.kitOne K tv uv = some b) : Ev (tCB (rIsi K) ta) σ B (.bl b) := fun H1 e Q q =>
  h H1 e _ fun H2 e2 => ⟨x, c, tv, uv, b, rfl, hc, ht H2 (e.trans e2), hb, q H2 e2⟩
end
/-- promises: a value; a new object -/
def PV (pre : List V → Hp → V → Prop) : Sp := fun vs H Q _ => ∃ z, pre vs H z ∧ ∀ H2, Ex H H2 → Q z H2
def PN (pre : List V → Hp → HO → Prop) : Sp := fun vs H Q _ => ∃ o, pre vs H o ∧ ∀ p H2, H p = none → Ex H H2 → H2 p = some o → Q (.ref p) H2
section
variable {σ : L2.St} {B : Hp} {ta : TA} {vs : List V} {E : XK} {z : V} {o : HO}
theorem ev_pv {pre : List V → Hp → V → Prop} (h : EvA ta σ B vs) (hp : ∀ H, Ex B H → pre (vs ++ []) H z) : Ev (tCall (PV pre) [] E ta) σ B z := fun H1 e Q q =>
  h H1 e _ fun H2 e2 => ⟨z, hp H2 (e.trans e2), fun H3 e3 => q H3 (e2.trans e3)⟩
theorem en_pn {pre : List V → Hp → HO → Prop} (h : EvA ta σ B vs) (hp : ∀ H, Ex B H → pre (vs ++ []) H o) : EvN (tCall (PN pre) [] E ta) σ B o := fun H1 e Q q =>
  h H1 e _ fun H2 e2 => ⟨o, hp H2 (e.trans e2), fun p H3 hp' e3 h3 => q p H3 (fresh_back e2 hp') (e2.trans e3) h3⟩
end
/-- .. a new object of which this is known -/
def EvNd (te : TE) (σ : L2.St) (B : Hp) (F : HO → Prop) : Prop := ∀ H1, Ex B H1 → ∀ Q : VK, (∀ p H2 o, H1 p = none → Ex H1 H2 → H2 p = some o → F o → Q (.ref p) H2) → te σ H1 Q
def PNd (pre : List V → Hp → (HO → Prop) → Prop) : Sp := fun vs H Q _ => ∃ F, pre vs H F ∧ ∀ p H2 o, H p = none → Ex H H2 → H2 p = some o → F o → Q (.ref p) H2
section
variable {σ : L2.St} {B : Hp} {te : TE} {tz : TS} {D : Ends} {ta : TA} {vs : List V} {E : XK} {F : HO → Prop}
theorem en_pnd {pre : List V → Hp → (HO → Prop) → Prop} (h : EvA ta σ B vs) (hp : ∀ H, Ex B H → pre (vs ++ []) H F) : EvNd (tCall (PNd pre) [] E ta) σ B F := fun H1 e Q q =>
  h H1 e _ fun H2 e2 => ⟨F, hp H2 (e.trans e2), fun p H3 o hp' e3 h3 hf => q p H3 o (fresh_back e2 hp') (e2.trans e3) h3 hf⟩
theorem r_asgNd {i : Nat} (h : EvNd te σ B F) (k : ∀ p o, B p = none → F o → R tz D (σ.set i (some (.ref p))) (upd B p o)) : R (tSeq (tAsg te (gName i)) tz) D σ B := fun H a =>
  h H a _ fun p H2 o hp e hh hf => k p o (fresh_back a hp) hf H2 (ex_up (a.trans e) hh)
theorem r_newd {i : Nat} (h : EvNd te σ B F) (k : ∀ p B' o, B p = none → Ex B B' → B' p = some o → F o → R tz D (σ.set i (some (.ref p))) B') : R (tSeq (tAsg te (gName i)) tz) D σ B := r_asgNd h fun p o hp hf => k p _ o hp (Ex.new hp) upd_same hf
end

/-! ### draws -/
/-- a new list of so many ints below the bound -/
def DrawO (m b : Int) (o : HO) : Prop := ∃ ns : List Int, o = .lst (ns.map V.int) ∧ (ns.length : Int) = m ∧ ∀ n ∈ ns, 0 ≤ n ∧ n < b
def spDraw : Sp := PNd fun vs _ F => ∃ c m b : Int, vs = [.int c, .int m, .int b] ∧ 0 ≤ m ∧ m ≤ 1000 ∧ 0 < b ∧ b < 1073741824 ∧ F = DrawO m b
end FK

set_option Elab.async false
set_option linter.all false
set_option maxRecDepth 100000
set_option maxHeartbeats 4000000
/-! the errors of a program of ours: made by an __init__ that reads the class's name (own text) -/
namespace FkE
open PySem PySem.W PySem.Calls PyProof.Rows Builtin Builtin.ObjectAttr Builtin.Getset_descriptor
section
variable {prog : Program} {w : World} {A : Around} {E : Value → Shared → Prop} {s : Shared} {K : Frag} {x C : Addr} {ox : Obj} {od : Option Obj} {expr : Bool}
theorem find_data {n : Str} {a g : Value} (hc : (clsIn K C).isSome = true) (ha : findIn K (.ref C) n = some (some a)) (hg : specialIn K a "__get__" = some (some g)) (ht : takesIn K a = some true) : findObj K C od n = some (.bind g a) := by
  obtain ⟨cd, hcd⟩ := Option.isSome_iff_exists.mp hc
  simp only [findObj, hcd, Option.bind_some, ha, hg, ht]
/-- e.__class__ of an error -/
theorem exc_clsBy {Q : Value → Shared → Prop} {gt : Option Value} {fill : Bool} {t : Tok} (X : K.In s.heap) (I : InstAt s.heap x ox C od) (ga : findIn K (.ref C) "__getattribute__" = some (some (.builtin "BaseException.__getattribute__"))) (gg : findIn K (.ref C) "__getattr__" = some gt)
    (sb : subIn K (.ref C) (.type "BaseException") = some true) (hf : findObj K C od "__class__" = some (.bind (.builtin "getset_descriptor.__get__") (.builtin "object.__class__"))) (hm : mroIn K C (.type "object") = some true) (h : Q (.ref C) s) :
    wpAny (model prog w) A (getAttrBy (.ref x) (.str "__class__" t) fill expr) Q E s := by
  obtain ⟨hp, g, d, tt, os⟩ := s
  have l0 := I.type (M := model prog w)
  have l1 := looks_findIn (M := model prog w) X ga
  have l2 := looks_findIn (M := model prog w) X gg
  have l3 := looks_find (M := model prog w) X I hf
  have no2 : (Value.builtin "BaseException.__getattribute__" == Value.builtin "object.__getattribute__") = false := by decide +kernel
  have no1 : (onTheHeap (Value.ref C) && Value.builtin "BaseException.__getattribute__" == Value.builtin "object.__getattribute__") = false := by rw [no2]; rfl
  have no0 : (expr && onTheHeap (Value.builtin "BaseException.__getattribute__")) = false := by cases expr <;> rfl
  simp only [getAttrBy]
  refine wpAny_holding (wpAny_bind (l0.at (wpAny_bind (l1.at ?_))))
  show wpAny _ _ (if (onTheHeap (Value.ref C) && Value.builtin "BaseException.__getattribute__" == Value.builtin "object.__getattribute__") = true then _ else _) _ _ _
  rw [no1, if_neg Bool.false_ne_true]
  simp only [getAttrByItsOwn, hookBefore]
  refine wpAny_bind ?_
  rw [if_pos (show onTheHeap (Value.ref C) = true from rfl)]
  refine l2.at (wpAny_bind (wpAny_attempt (wpAny_holding ?_)))
  unfold callGetattribute
  rw [no0, if_neg Bool.false_ne_true]
  unfold boundAndCalled
  rw [PySem.F.excAttr_ValueError.ga.bind (.ref x)]
  refine wpAny_bind (wpAny_pure ?_)
  show wpAny _ _ (call (.builtin "BaseException.__getattribute__") [.ref x, .str "__class__" t]) _ _ _
  refine wpAny_call (codeAny_call_builtin PySem.F.excAttr_ValueError.ga.plain PySem.F.entry_bexc_ga (@check_slot (model prog w) _ _ ⟨hp, g, d, tt, os⟩ "BaseException.__getattribute__" "BaseException" "__getattribute__" (.ref x) [.str "__class__" t] [] _ (by decide +kernel) (by decide +kernel) (l0.andThen (looks_subIn X sb)) (PySem.F.args_bexc_ga (.ref x) (.str "__class__" t)) ?_))
  unfold Builtin.«object.__getattribute__»
  refine wpAny_bind (wpAny_of_eq (a := ((Value.ref x : Value), [Value.str "__class__" t])) (by first | rfl | (simp only [slotArgs]; rfl)) ?_)
  refine wpAny_bind (wpAny_pure (wpAny_bind (l0.at (wpAny_bind (l3.at ?_)))))
  show wpAny _ _ (holding [Value.builtin "object.__class__"] (call (.builtin "getset_descriptor.__get__") [.builtin "object.__class__", .ref x, .ref C]) >>= ret) _ _ _
  refine wpAny_bind (wpAny_holding (wpAny_call (class_get (s := ⟨hp, g, d, tt, os⟩) X I hm (wpAny_pure ?_))))
  show wpAny _ _ (handedOut (.ref C)) _ _ _
  rw [handedOut_of (v := .ref C) rfl]
  exact wpAny_pure h
theorem exc_cls {Q : Value → Shared → Prop} {gt : Option Value} (X : K.In s.heap) (I : InstAt s.heap x ox C od) (ga : findIn K (.ref C) "__getattribute__" = some (some (.builtin "BaseException.__getattribute__"))) (gg : findIn K (.ref C) "__getattr__" = some gt)
    (sb : subIn K (.ref C) (.type "BaseException") = some true) (hf : findObj K C od "__class__" = some (.bind (.builtin "getset_descriptor.__get__") (.builtin "object.__class__"))) (hm : mroIn K C (.type "object") = some true) (h : Q (.ref C) { s with toks := s.toks + 1 }) :
    wpAny (model prog w) A (getAttr (.ref x) "__class__" expr) Q E s := wpAny_bind (wpAny_mkText (exc_clsBy (s := { s with toks := s.toks + 1 }) X I ga gg sb hf hm h))
theorem exc_cls? {Q : Option Value → Shared → Prop} {gt : Option Value} (X : K.In s.heap) (I : InstAt s.heap x ox C od) (ga : findIn K (.ref C) "__getattribute__" = some (some (.builtin "BaseException.__getattribute__"))) (gg : findIn K (.ref C) "__getattr__" = some gt)
    (sb : subIn K (.ref C) (.type "BaseException") = some true) (hf : findObj K C od "__class__" = some (.bind (.builtin "getset_descriptor.__get__") (.builtin "object.__class__"))) (hm : mroIn K C (.type "object") = some true) (h : Q (some (.ref C)) { s with toks := s.toks + 1 }) :
    wpAny (model prog w) A (getAttr? (.ref x) "__class__") Q E s := wpAny_bind (wpAny_mkText (wpAny_bind (wpAny_attempt (exc_clsBy (s := { s with toks := s.toks + 1 }) X I ga gg sb hf hm (wpAny_pure h)))))
/-- what isinstance asks of an error that has its dict -/
theorem kit_err (ga : findIn K (.ref C) "__getattribute__" = some (some (.builtin "BaseException.__getattribute__"))) (gg : findIn K (.ref C) "__getattr__" = some none) (sb : subIn K (.ref C) (.type "BaseException") = some true) (hd : hasDictIn K C = true)
    (ha : findIn K (.ref C) "__class__" = some (some (.builtin "object.__class__"))) (hn : specialIn K (.builtin "object.__class__") "__get__" = some (some (.builtin "getset_descriptor.__get__"))) (ht : takesIn K (.builtin "object.__class__") = some true) (hm : mroIn K C (.type "object") = some true) :
    KitX K (.ref x) (.ref C) (fun h => ∃ od, InstAt h x ox C od) where
  ty := fun _ _ _ ⟨_, I⟩ => I.type
  it := fun _ _ X _ => by
    obtain ⟨cd, hc, _⟩ := any_some hd
    unfold clsIn at hc
    split at hc
    · rename_i c' d' cd' sl' ho
      intro A' Q' E' s' k q
      unfold isType loadHead
      exact wpAny_bind (wpAny_loadPart (k _ _ (X _ _ ho)) (wpAny_pure q))
    · cases hc
  ne := fun h tp dd its n sl X htp => by
    obtain ⟨cd, hc, _⟩ := any_some hd
    cases q : (Value.ref C == Value.ref tp) with
    | false => rfl
    | true =>
      have e : C = tp := Value.ref.inj (beq_iff_eq.mp q)
      subst e
      unfold clsIn at hc
      split at hc
      · rename_i ho
        cases (X _ _ ho).symm.trans htp
      · cases hc
  ca := fun X ⟨_, I⟩ k => exc_cls? X I ga gg sb (find_data (by obtain ⟨cd, hc, _⟩ := any_some hd; rw [hc]; rfl) ha hn ht) hm k
/-- C.__name__ -/
structure NmC (K : Frag) (C : Addr) (nm : Str) : Prop where
  rd : readsIn K C (.type "type") = true
  fd : findCls K (.ref C) (.type "type") "__name__" = some (.get (.builtin "getset_descriptor.__get__") (.builtin "type.__name__") (.ref C) (.type "type"))
  ob : ∃ (o : Obj) (t : Tok), K.lookup C = some o ∧ o.cls = .type "type" ∧ (o.slots[2]?).join = some (.str nm t)
theorem name_run {R : Result → Shared → Prop} {tp v : Value} {o : Obj} (ho : s.heap.get? C = some o) (hc : o.cls = .type "type") (hs : (o.slots[2]?).join = some v) (h : R (.ok (.ret v)) s) :
    codeAny (model prog w) A (.call (.builtin "getset_descriptor.__get__") ⟨[.builtin "type.__name__", .ref C, tp], []⟩) R s := by
  obtain ⟨hh, g, dr, t, os⟩ := s
  have l0 : Looks (model prog w) hh (typeOf (.ref C)) (.type "type") := fun A Q E s k q => by
    refine wpAny_bind (wpAny_loadPart (k _ _ ho) (wpAny_pure ?_))
    rw [hc]
    exact q
  have l1 : Looks (model prog w) hh (isSubtype (.type "type") (.type "type")) true := Looks.of_pure (by rw [isSubtype_type]; kernel_rfl)
  refine codeAny_call_builtin KF.slot_gs.plain KF.entry_gs (KF.slot_gs.check _ _ _ _ _ _ _ _ ktyn_type (KF.args_gs _ _ _) ?_)
  unfold Builtin.«getset_descriptor.__get__» descrGet
  rw [dga_obj]
  refine wpAny_bind (wpAny_pure ?_)
  unfold descrGetter descrCheckInstance descrNameAndClass isInstance
  simp only [ktyn_owner]
  repeat lk
  refine ⟨Code.quiet_builtin _ (by decide +kernel), codeAny_builtin ktyn_entry ?_⟩
  unfold Builtin.«type.__name__»
  show wpAny _ _ (keptObject (.ref C) 2 "__name__" _) _ _ _
  unfold keptObject slotAt
  refine wpAny_bind (wpAny_bind (wpAny_loadPart ho (wpAny_pure ?_)))
  rw [hs]
  first
    | exact wpAny_pure h
    | exact wpAny_bind (wpAny_pure (wpAny_pure h))
    | exact wpAny_pure (wpAny_pure h)
theorem name_get {Q : Value → Shared → Prop} {nm : Str} (X : K.In s.heap) (N : NmC K C nm) (h : ∀ t, Q (.str nm t) { s with toks := s.toks + 1 }) : wpAny (model prog w) A (getAttr (.ref C) "__name__" expr) Q E s := by
  obtain ⟨o, t, hl, hc, hs⟩ := N.ob
  exact cls_bind X N.rd N.fd (wpAny_call (name_run (X C o hl) hc hs (handed_on rfl (h t))))
end
end FkE
namespace FK
open PySem PySem.Spec PyProof.Rows L2 Evl FkE
/-- e.__class__, e an error that is being made and has its dict -/
def tClsE (K : PySem.W.Frag) (te : TE) : TE := fun σ H Q => te σ H fun x H1 => ∃ (a C dx : Addr) (fs : List (Str × V)), x = .ref a ∧ H1 a = some (exo a C (some dx)) ∧ H1 dx = some (exd dx fs) ∧ ExcC K C ∧ Q (.ref C) H1
theorem pe_clsE {X : Cx} {e : Expr} {te : TE} {pos : Pos} (he : PE X e te) (hb : attributeBase e "__class__" X.env (eval e X.env) = eval e X.env := by rfl) : PE X (.Attribute e "__class__" pos) (tClsE X.K te) := by
  refine ⟨fun pins s σ H Q I h => attr_of hb (thn (he.run pins s σ H _ I h) fun u s1 ⟨x, H1, I1, rx, a, C, dx, fs, ex, ea, ed, T, q⟩ => ?_)⟩
  subst ex
  obtain rfl : u = Value.ref a := rx
  obtain ⟨t1, ho⟩ := exo_at I1.hok ea
  obtain ⟨mA, ⟨od, es, ep, hd, _⟩, _⟩ := exd_at I1.hok ed
  have J : PySem.W.InstAt s1.heap a ({ cls := .ref C, dict := some dx, data := .fields #[.ref t1, .none, .none, .none, .bool false, .none] } : Obj) C (some od) := ⟨ho, rfl, by unfold PySem.W.notCls; rfl, hd⟩
  exact exc_cls I1.kIn J T.hg T.hk T.hs (find_data (by obtain ⟨cd, hc, _⟩ := PySem.W.any_some T.hd; rw [hc]; rfl) T.ha T.hn T.ht) T.hm ⟨.ref C, H1, I1.tok _, rfl, q⟩
/-- e.__name__, e a class of one's own -/
def tNmC (K : PySem.W.Frag) (te : TE) : TE := fun σ H Q => te σ H fun x H1 => ∃ (C : Addr) (nm : Str), x = .ref C ∧ NmC K C nm ∧ Q (.str nm) H1
theorem pe_nmC {X : Cx} {e : Expr} {te : TE} {pos : Pos} (he : PE X e te) (hb : attributeBase e "__name__" X.env (eval e X.env) = eval e X.env := by rfl) : PE X (.Attribute e "__name__" pos) (tNmC X.K te) := by
  refine ⟨fun pins s σ H Q I h => attr_of hb (thn (he.run pins s σ H _ I h) fun u s1 ⟨x, H1, I1, rx, C, nm, ex, N, q⟩ => ?_)⟩
  subst ex
  obtain rfl : u = Value.ref C := rx
  exact name_get I1.kIn N fun t => ⟨.str nm, H1, I1.tok _, ⟨t, rfl⟩, q⟩
/-! ### making and raising -/
/-- what an error made so knows -/
def errF (nm : Str) (v : V) : List (Str × V) := [("name", .str nm), ("place", v)]
/-- what is asked of an error class -/
structure ErrK (K : PySem.W.Frag) (C : Addr) (nm : Str) : Prop where
  ox : OexC K C
  ex : ExcC K C
  nm : NmC K C nm
  np : PySem.W.findIn K (.ref C) "place" = some none
  nn : PySem.W.findIn K (.ref C) "name" = some none
theorem ErrK.xf {K : PySem.W.Frag} {C : Addr} {nm : Str} (Z : ErrK K C nm) : XfC K C := ⟨Z.ex.hg, Z.ex.hk, Z.ex.hs, Z.ex.hd⟩
/-- the __init__'s promise -/
def spInit (K : PySem.W.Frag) : Sp := fun vs H Q _ => ∃ (a C : Addr) (nm : Str) (v : V), vs = [.ref a, v] ∧ ErrK K C nm ∧ H a = some (exo a C none) ∧
  ∀ d, H d = none → d ≠ a → Q .non (upd (upd (upd H d (exd d [("place", v)])) a (exo a C (some d))) d (exd d (errF nm v)))
/-- an error class under its name, with what its making leans on -/
structure ErrC (P : Program) (w : World) (K : PySem.W.Frag) (mg : Str → Option Value) (base : Heap) (x : Str) (C : Addr) : Prop where
  gC : mg x = some (.ref C)
  k : ErrK K C x
  ini : ∃ (fI : Addr) (fd : FuncData), PySem.W.findIn K (.ref C) "__init__" = some (some (.ref fI)) ∧ PySem.W.typeIn K (.ref fI) = some (.type "function") ∧
    FnOk P w K mg base CX0 1 fI fd ["self", "place"] (spInit K) ∧ Binds K fd ["self", "place"] []
/-- raise x(e) -/
def tRz (K : PySem.W.Frag) (C : Addr) (te : TE) (W : WX) : TS := fun _ σ H => tMkO C (spInit K) [] (tCons te tNil) σ H fun cls d H' => W cls d σ H'
theorem ps_raiseC {X : Cx} {W : WX} {x : Str} {C : Addr} {e : Expr} {te : TE} {j : Nat} {p pos pos' : Pos} (Z : ErrC X.prog X.w X.K X.mg X.base x C) (hc : X.calm = true) (tk : Takes X W) (hr : Room j X.A) (hj : 2 ≤ j) (hg : Gl X x) (ha : PA X [e] (tCons te tNil))
    (hdb : (x == ("__debug__" : Str)) = false := by decide) (hst : starEach [e] X.env = (false, eval e X.env) :: starEach [] X.env := by rfl) (hpl : (backTo pos (starEach [] X.env)).any (·.1) = false := by rfl) :
    PS X (.Raise (some (.Call (.Name x p) [e] [] pos)) none pos') (tRz X.K C te W) := by
  obtain ⟨fI, fd, iC, tI, F, b⟩ := Z.ini
  exact ps_raise (pos := pos') hc tk (pmk_oex (es := []) (dvs := []) (ds := []) Z.k.ox iC tI F (hr.mono hj) b .nil pass0 hg Z.gC ha hdb hst hpl)
theorem del_upd {H : Hp} {a : Addr} {o : HO} (h : H a = none) : del (upd H a o) a = H := by
  funext b
  by_cases c : b = a
  · subst c
    rw [del_same, h]
  · rw [del_ne c, upd_ne c]
section
variable {K : PySem.W.Frag} {σ : L2.St} {B : Hp} {te : TE} {tz : TS} {D : Ends} {v : V} {W : WX} {C : Addr} {x : Str}
theorem r_raise (Z : ErrK K C x) (h : Ev te σ B v) (k : ∀ d H, B d = none → Ex B H → H d = some (.xd (errF x v)) → W (.ref C) (some d) σ H) : R (tSeq (tRz K C te W) tz) D σ B := fun H e =>
  h H e _ fun H1 e1 => ⟨(by decide : 1 ≤ 1000), fun a na => ⟨a, C, x, v, rfl, Z, upd_same, fun d nd hda => ⟨rfl, d, errF x v, by rw [upd_ne (Ne.symm hda), upd_same], upd_same, by rw [upd_ne hda] at nd; exact nd, by
    rw [upd_ne hda] at nd
    have hb : upd (del (upd (upd (upd (upd H1 a (exo a C none)) d (exd d [("place", v)])) a (exo a C (some d))) d (exd d (errF x v))) a) d (.xd (errF x v)) = upd H1 d (.xd (errF x v)) := by
      funext b
      by_cases c : b = d
      · subst c
        rw [upd_same, upd_same]
      · rw [upd_ne c, upd_ne c]
        by_cases c2 : b = a
        · subst c2
          rw [del_same, na]
        · rw [del_ne c2, upd_ne c, upd_ne c2, upd_ne c, upd_ne c2]
    rw [hb]
    exact k d _ (fresh_back (e.trans e1) nd) ((e.trans e1).trans (Ex.new nd)) upd_same⟩⟩⟩
end
/-! ### defs that may raise -/
/-- what comes of a call: a value, a new object, an error -/
inductive Out where
  | val (z : V) | new (o : HO) | err (x : Str) (v : V)
def spO (mg : Str → Option Value) (pre : List V → Hp → Out → Prop) : Sp := fun vs H Q E => ∃ r, pre vs H r ∧ match r with
  | .val z => ∀ H2, Ex H H2 → Q z H2
  | .new o => ∀ p H2, H p = none → Ex H H2 → H2 p = some o → Q (.ref p) H2
  | .err x v => ∀ C d H2, mg x = some (.ref C) → H d = none → Ex H H2 → H2 d = some (.xd (errF x v)) → E (.ref C) (some d) H2
structure CalX (P : Program) (w : World) (K : PySem.W.Frag) (mg : Str → Option Value) (base : Heap) (k : Nat) (x : Str) (sp : Sp) : Prop where
  ex : ∃ (f : Addr) (fd : FuncData) (ps : List Str), FnOk P w K mg base (L2.CX P w) k f fd ps sp ∧ mg x = some (.ref f) ∧ PySem.W.keepIn K (.ref f) = true ∧ Binds K fd ps []
section
variable {P : Program} {w : World} {K : PySem.W.Frag} {mg : Str → Option Value} {base : Heap}
theorem calX {x : Str} {st : Stmt} {N ps : List Str} {k : Nat} {sp : Sp} (D : Def K mg x st ps) (S : FnScope N ps (defScope st)) (len : ∀ vs H Q E, sp vs H Q E → vs.length = ps.length)
    (hbody : ∀ (f : Addr) (cdv : Value) (A : Around) (outer : List Env) (s : Shared) (H : Hp) (vs : List V) (Q : VK) (E : XK), Room k (A.deeper (envOfC x (defScope st) s.heap.objs.size f cdv)) → sp vs H Q E →
      ∃ t, PSs (cxOf (L2.CX P w) P w K mg base N x (defScope st) f cdv A outer s H E) (defBody st) t ∧ t { nx := fun _ H' => Q .non H', rt := Q } (start N vs) H) : CalX P w K mg base (k + 1) x sp := by
  obtain ⟨f, fd, F, m, b⟩ := D.ex
  exact ⟨f, fd, ps, F.okX S len (hbody f), m, F.kp, b⟩
end
section
variable {X : Cx} {k j : Nat} {x : Str} {sp : Sp} {p pos : Pos} {e : Expr} {es : List Expr} {t : TA} {W : WX}
theorem pe_cX (c : CalX X.prog X.w X.K X.mg X.base k x sp) (tk : Takes X W) (hr : Room j X.A) (hk : k ≤ j) (hg : Gl X x) (ha : PA X (e :: es) t)
    (hdb : (x == ("__debug__" : Str)) = false := by decide) (he : starEach (e :: es) X.env = (false, eval e X.env) :: starEach es X.env := by rfl) (hpl : (backTo pos (starEach es X.env)).any (·.1) = false := by rfl) :
    PE X (.Call (.Name x p) (e :: es) [] pos) (tCallS sp (WE W) t) := by
  obtain ⟨f, fd, ps, F, hm, kp, b⟩ := c.ex
  exact pe_callS F (hr.mono hk) hg hm kp b (fun σ => passAt tk σ) ha hdb he hpl
end
section
variable {mg : Str → Option Value} {σ : L2.St} {B : Hp} {ta : TA} {te : TE} {tz : TS} {D : Ends} {vs : List V} {W : WX} {z v : V} {o : HO} {x : Str} {pre : List V → Hp → Out → Prop}
theorem ev_cx (h : EvA ta σ B vs) (hp : ∀ H, Ex B H → pre vs H (.val z)) : Ev (tCallS (spO mg pre) (WE W) ta) σ B z := fun H1 e Q q => h H1 e _ fun H2 e2 => ⟨.val z, hp H2 (e.trans e2), fun H3 e3 => q H3 (e2.trans e3)⟩
theorem en_cx (h : EvA ta σ B vs) (hp : ∀ H, Ex B H → pre vs H (.new o)) : EvN (tCallS (spO mg pre) (WE W) ta) σ B o := fun H1 e Q q => h H1 e _ fun H2 e2 => ⟨.new o, hp H2 (e.trans e2), fun p H3 np e3 h3 => q p H3 (fresh_back e2 np) (e2.trans e3) h3⟩
/-- it raises -/
def EvE (mg : Str → Option Value) (W : WX) (te : TE) (σ : L2.St) (B : Hp) (x : Str) (v : V) : Prop := ∀ H1, Ex B H1 → ∀ Q : VK, (∀ C d H2, mg x = some (.ref C) → B d = none → Ex B H2 → H2 d = some (.xd (errF x v)) → W (.ref C) (some d) σ H2) → te σ H1 Q
theorem ee_cx (h : EvA ta σ B vs) (hp : ∀ H, Ex B H → pre vs H (.err x v)) : EvE mg W (tCallS (spO mg pre) (WE W) ta) σ B x v := fun H1 e Q q => h H1 e _ fun H2 e2 => ⟨.err x v, hp H2 (e.trans e2), fun C d H3 m nd e3 h3 => q C d H3 m (fresh_back (e.trans e2) nd) ((e.trans e2).trans e3) h3⟩
theorem r_retE (h : EvE mg W te σ B x v) (k : ∀ C d H, mg x = some (.ref C) → B d = none → Ex B H → H d = some (.xd (errF x v)) → W (.ref C) (some d) σ H) : R (tSeq (tRet te) tz) D σ B := fun H e => h H e _ k
theorem r_asgE {i : Nat} (h : EvE mg W te σ B x v) (k : ∀ C d H, mg x = some (.ref C) → B d = none → Ex B H → H d = some (.xd (errF x v)) → W (.ref C) (some d) σ H) : R (tSeq (tAsg te (gName i)) tz) D σ B := fun H e => h H e _ k
end
/-- isinstance(e, c), e the error that the suite holds, with its dict -/
def rIsD (K : PySem.W.Frag) (C a d : Addr) : List V → Hp → VK → Prop := fun xs H Q => ∃ (c : V) (cv : Value) (b : Bool) (fs : List (Str × V)), xs = [.ref a, c] ∧ ClsV c cv ∧ PySem.W.kitOne K (.ref C) cv = some b ∧ H d = some (.xd fs) ∧ Q (.bl b) H
theorem call_isD {X : Cx} {a C d : Addr} {oe : Obj} {pn : List (Addr × Obj)} (T : ExcC X.K C) (hz : Zc (.ref C) (some d) oe) (hf : ∃ vs, oe.data = .fields vs) : CallR (X.suite a ((a, oe) :: pn)) (.builtin "isinstance") (rIsD X.K C a d) := by
  intro pins s σ H xs us Q I r h
  obtain ⟨c, cv, b, fs, rfl, hcv, e, hd, q⟩ := h
  cases r with
  | cons rx rr =>
    cases rr with
    | cons rt rr =>
      cases rr
      cases rx
      have ec := hcv.eq rt
      subst ec
      obtain ⟨hget, _⟩ := I.pin (a, oe) (List.mem_append.mpr (.inl List.mem_cons_self))
      obtain ⟨vs, hv⟩ := hf
      have hxd : ObjOk X.prog X.w H s.heap d (.xd fs) := I.hok d _ hd
      obtain ⟨mA, ⟨od, es, ep, ho, _⟩, _⟩ := hxd
      have J : PySem.W.InstAt s.heap a oe C (some od) := ⟨hget, hz.1, by unfold PySem.W.notCls; rw [hv] <;> rfl, by rw [hz.2]; exact ho⟩
      exact PySem.W.kia_one (kit_err T.hg T.hk T.hs T.hd T.ha T.hn T.ht T.hm) I.kIn ⟨_, J⟩ e (fun z => nomatch z) fun tk => ⟨.bl b, H, I.kept (t' := tk) fun _ _ z => z, rfl, q⟩
end FK

set_option Elab.async false
set_option linter.all false
set_option maxRecDepth 100000
/-! suites, data compared whole, further words (own text) -/
namespace FK
open PySem PySem.Spec PyProof.Rows L2 Evl FkE
theorem ErrC.g {P : Program} {w : World} {K : PySem.W.Frag} {mg : Str → Option Value} {base : Heap} {x : Str} {C : Addr} (Z : ErrC P w K mg base x C) : ∃ u, mg x = some u ∧ RelV (.ref C) u := ⟨_, Z.gC, rfl⟩
/-! ### data -/
section
variable {K : PySem.W.Frag} {H H' : Hp}
mutual
theorem dp_ex (e : Ex H H') : ∀ (d : PyData) (v : V), Dp K H v d → Dp K H' v d
  | .none, _, h => by
    cases h
    exact .non
  | .bool b, _, h => by
    cases h
    exact .bl b
  | .int i, _, h => by
    cases h
    exact .int i
  | .str x, _, h => by
    cases h
    exact .str x
  | .list ds, _, h => by
    cases h with
    | lst a b => exact .lst (ex_l e a) (dpa_ex e ds _ b)
  | .tuple ds, _, h => by
    cases h with
    | tup a b => exact .tup (ex_t e a) (dpa_ex e ds _ b)
  | .dict ds, _, h => nomatch h
theorem dpa_ex (e : Ex H H') : ∀ (ds : List PyData) (vs : List V), DpAll K H vs ds → DpAll K H' vs ds
  | [], _, h => by
    cases h
    exact .nil
  | d :: ds, _, h => by
    cases h with
    | cons a b => exact .cons (dp_ex e d _ a) (dpa_ex e ds _ b)
end
theorem dpa_ints : ∀ ns : List Int, DpAll K H (ns.map V.int) (ns.map PyData.int)
  | [] => .nil
  | n :: r => .cons (.int n) (dpa_ints r)
theorem eqvA_ints : ∀ xs ys : List Int, PyData.eqvAll (xs.map PyData.int) (ys.map PyData.int) = decide (xs = ys)
  | [], [] => by simp [PyData.eqvAll]
  | [], y :: ys => by simp [PyData.eqvAll]
  | x :: xs, [] => by simp [PyData.eqvAll]
  | x :: xs, y :: ys => by
    have ih := eqvA_ints xs ys
    show (PyData.eqv (.int x) (.int y) && PyData.eqvAll (xs.map PyData.int) (ys.map PyData.int)) = _
    rw [ih]
    have e : PyData.eqv (.int x) (.int y) = decide (x = y) := by
      simp only [PyData.eqv]
      rfl
    rw [e]
    by_cases h1 : x = y <;> by_cases h2 : xs = ys <;> simp [h1, h2]
theorem eqv_ints (xs ys : List Int) : PyData.eqv (.list (xs.map PyData.int)) (.list (ys.map PyData.int)) = decide (xs = ys) := by
  rw [PyData.eqv, eqvA_ints]
end
section
variable {K : PySem.W.Frag} {σ : L2.St} {B : Hp} {ta tb te : TE} {v : V} {d e : PyData}
/-- a value that this data is -/
def EvD (K : PySem.W.Frag) (te : TE) (σ : L2.St) (B : Hp) (d : PyData) : Prop := EvP te σ B fun v H => Dp K H v d
theorem ed_ev (h : Ev te σ B v) (hd : Dp K B v d) : EvD K te σ B d := fun H1 a Q q => h H1 a _ fun H2 e2 => q v H2 e2 (dp_ex (a.trans e2) d v hd)
theorem ed_tup {vs : List V} {ds : List PyData} (h : EvN te σ B (.tup vs)) (hd : DpAll K B vs ds) : EvD K te σ B (.tuple ds) := fun H1 a Q q => h H1 a _ fun p H2 _ e2 h2 => q _ H2 e2 (.tup (st_of h2) (dpa_ex (a.trans e2) ds vs hd))
theorem ed_lst {vs : List V} {ds : List PyData} (h : EvN te σ B (.lst vs)) (hd : DpAll K B vs ds) : EvD K te σ B (.list ds) := fun H1 a Q q => h H1 a _ fun p H2 _ e2 h2 => q _ H2 e2 (.lst (sq_of h2) (dpa_ex (a.trans e2) ds vs hd))
theorem ev_eqD (ha : EvD K ta σ B d) (hb : EvD K tb σ B e) (sd : SeqAt.shaped d = true) (se : SeqAt.shaped e = true) : Ev (tOp (rEqD K) ta tb) σ B (.bl (PyData.eqv d e)) := fun H1 a Q q =>
  ha H1 a _ fun v H2 e2 hv => hb H2 (a.trans e2) _ fun u H3 e3 hu => ⟨d, e, dp_ex e3 d v hv, hu, sd, se, q H3 (e2.trans e3)⟩
theorem ev_neD (ha : EvD K ta σ B d) (hb : EvD K tb σ B e) (sd : SeqAt.shaped d = true) (se : SeqAt.shaped e = true) : Ev (tOp (rNeD K) ta tb) σ B (.bl (!PyData.eqv d e)) := fun H1 a Q q =>
  ha H1 a _ fun v H2 e2 hv => hb H2 (a.trans e2) _ fun u H3 e3 hu => ⟨d, e, dp_ex e3 d v hv, hu, sd, se, q H3 (e2.trans e3)⟩
end
/-- try: .. except c as slot i: .. -/
def tTryA (K : PySem.W.Frag) (c : Value) (i : Nat) (tb : WX → TS) (ts : Addr → Value → Option Addr → TS) (Wout : WX) : TS := fun D σ H => tb (wAs K c i ts Wout D) D σ H
theorem ps_tryA {X : Cx} {st : Stmt} {c : Value} {i : Nat} {tb : WX → TS} {ts : Addr → Value → Option Addr → TS} {Wout : WX} (h : PS X st (fun D σ H => tb (wAs X.K c i ts Wout D) D σ H)) : PS X st (tTryA X.K c i tb ts Wout) := h
/-! ### statements -/
theorem ip_mul {X : Cx} : PIp X .Mult (rI CMul fun i j => .int (i * j)) := fun pins s σ H x y u v Q I rx ry h => iop_mul pins s σ H x y u v Q I rx ry h
section
variable {K : PySem.W.Frag} {σ : L2.St} {B : Hp} {ta tb te tl : TE} {tz : TS} {D : Ends} {v : V}
theorem r_augC {C : Int → Int → Prop} {i : Nat} {f : Int → Int → Int} {a b : Int} (hx : σ[i]? = some (some (.int a))) (h : Ev te σ B (.int b)) (hc : C a b) (k : R tz D (σ.set i (some (.int (f a b)))) B) : R (tSeq (tAug i te (rI C fun i j => .int (f i j))) tz) D σ B := fun H e =>
  ⟨_, hx, h H e _ fun H1 e1 => ⟨a, b, rfl, rfl, hc, k H1 (e.trans e1)⟩⟩
theorem r_try {tb : WX → TS} {c : Value} {i : Nat} {ts : Addr → Value → Option Addr → TS} {Wout : WX} (h : R (tb (wAs K c i ts Wout { D with nx := tz D })) { D with nx := tz D } σ B) : R (tSeq (tTryA K c i tb ts Wout) tz) D σ B := h
theorem r_setL {l : Addr} {xs : List V} {j : Nat} (hl : B l = some (.lst xs)) (h : Ev te σ B v) (ho : Ev ta σ B (.ref l)) (hi : Ev tb σ B (.int (j : Int))) (hj : j < xs.length) (k : R tz D σ (upd B l (.lst (xs.set j v)))) :
    R (tSeq (tAsg te (gSub ta tb rSetL)) tz) D σ B := fun H a => q_setL (a l _ hl) (h.mono a) (ho.mono a) (hi.mono a) hj fun H1 e => k _ (ex_mut (a.trans e))
end
/-! ### suites -/
/-- a suite that is read for the errors of our making alone -/
def tOn (K : PySem.W.Frag) (f : Addr → Addr → TS) (cls : Value) (d : Option Addr) : TS := fun D σ H => ∃ C dd nm, cls = .ref C ∧ d = some dd ∧ ErrK K C nm ∧ f C dd D σ H
theorem pss_on {X' : Cx} {K : PySem.W.Frag} {f : Addr → Addr → TS} {cls : Value} {d : Option Addr} {oe : Obj} {body : List Stmt} (hz : Zc cls d oe) (h : ∀ C dd nm, ErrK K C nm → Zc (.ref C) (some dd) oe → PSs X' body (f C dd)) : PSs X' body (tOn K f cls d) :=
  ⟨fun pins s σ H D I ⟨C, dd, nm, e1, e2, Z, hf⟩ => by
    subst e1 e2
    exact (h C dd nm Z hz).run pins s σ H D I hf⟩
section
variable {K : PySem.W.Frag} {σ : L2.St} {B : Hp} {ta : TA} {te : TE} {v c : V} {W : WX} {C a d : Addr} {cv : Value} {b : Bool} {fs : List (Str × V)} {x : Str}
/-- what the clause does with the error -/
theorem was_on {i : Nat} {f : Addr → Addr → Addr → TS} {Wout : WX} {D : Ends} {H : Hp} {cF : Value} (Z : ErrK K C x) (hx : PySem.W.exmOne K (.ref C) cF = some true)
    (h : ∀ a, H a = none → f a C d { nx := fun σ' H' => D.nx (σ'.set i none) H', rt := D.rt, bk := fun σ' H' => D.bk (σ'.set i none) H', ct := fun σ' H' => D.ct (σ'.set i none) H' } (σ.set i (some (.ref a))) H) :
    wAs K cF i (fun a => tOn K (f a)) Wout D (.ref C) (some d) σ H := ⟨true, hx, fun _ a ha => ⟨C, d, x, rfl, rfl, Z, h a ha⟩, fun q => nomatch q⟩
theorem ev_isD (h : EvA ta σ B [.ref a, c]) (hc : ClsV c cv) (hk : PySem.W.kitOne K (.ref C) cv = some b) (hd : B d = some (.xd fs)) : Ev (tCB (rIsD K C a d) ta) σ B (.bl b) := fun H1 e Q q =>
  h H1 e _ fun H2 e2 => ⟨c, cv, b, fs, rfl, hc, hk, (e.trans e2) d _ hd, q H2 e2⟩
theorem ev_xf {f : Str} (h : Ev te σ B (.ref a)) (hd : B d = some (.xd fs)) (hl : fs.lookup f = some v) : Ev (tXf a (.ref C) (some d) C f te) σ B v := fun H1 e Q q =>
  h H1 e _ fun H2 e2 => ⟨rfl, rfl, d, fs, v, rfl, (e.trans e2) d _ hd, hl, q H2 e2⟩
theorem lk_name {v : V} : (errF x v).lookup ("name" : Str) = some (V.str x) := by simp [errF, List.lookup]
theorem lk_place {v : V} : (errF x v).lookup ("place" : Str) = some v := by
  have e : ((Str.ofString "place") == (Str.ofString "name")) = false := by decide +kernel
  simp [errF, List.lookup, e]
end
/-! ### classes among classes -/
section
variable {K : PySem.W.Frag} {C F : Addr} {b : Bool}
theorem kcls_of (ic : PySem.W.isClsIn K F = true) (ty : PySem.W.typeIn K (.ref F) = some (.type "type")) (sb : PySem.W.subIn K (.ref C) (.ref F) = some b) : PySem.W.kitCls K (.ref C) (.ref F) = some b := by
  have e : ((PySem.W.clsIn K F).isSome && PySem.W.typeIn K (.ref F) == some (.type "type")) = true := by
    have ic' : (PySem.W.clsIn K F).isSome = true := ic
    rw [ic', ty]
    rfl
  show (if ((PySem.W.clsIn K F).isSome && PySem.W.typeIn K (.ref F) == some (.type "type")) = true then PySem.W.subIn K (.ref C) (.ref F) else none) = some b
  rw [if_pos e]
  exact sb
theorem exm_of (ex : PySem.W.subIn K (.ref F) (.type "BaseException") = some true) (ic : PySem.W.isClsIn K F = true) (ty : PySem.W.typeIn K (.ref F) = some (.type "type")) (sb : PySem.W.subIn K (.ref C) (.ref F) = some b) : PySem.W.exmOne K (.ref C) (.ref F) = some b := by
  have e : (PySem.W.subIn K (.ref F) (.type "BaseException") == some true) = true := by
    rw [ex]
    rfl
  show (if (PySem.W.subIn K (.ref F) (.type "BaseException") == some true) = true then PySem.W.kitCls K (.ref C) (.ref F) else none) = some b
  rw [if_pos e]
  exact kcls_of ic ty sb
theorem kit_of (ne : (Value.ref C == Value.ref F) = false) (ic : PySem.W.isClsIn K F = true) (ty : PySem.W.typeIn K (.ref F) = some (.type "type")) (sb : PySem.W.subIn K (.ref C) (.ref F) = some b) : PySem.W.kitOne K (.ref C) (.ref F) = some b := by
  show (if (Value.ref C == Value.ref F) = true then some true else PySem.W.kitCls K (.ref C) (.ref F)) = some b
  rw [ne, if_neg Bool.false_ne_true]
  exact kcls_of ic ty sb
end
/-! ### rules within a suite, the written part told from outside -/
section
variable {X : Cx} {a : Addr} {pn : List (Addr × Obj)} {o e : Expr} {es : List Expr} {to : TE} {t : TA} {name : Str} {apos cpos : Pos} {T id : String} {r : V → List V → Hp → VK → Prop}
theorem ix_listS : IxR (X.suite a pn) (rIxL X.K) := ix_list
theorem ix_tupS : IxR (X.suite a pn) (rIxT X.K) := ix_tup
theorem sl_listS : SlR (X.suite a pn) (rSlL X.K) := sl_list
theorem call_len_seqS : CallR (X.suite a pn) (.builtin "len") (fun xs H Q => ∃ p ys, xs = [.ref p] ∧ (SqL X.K H p ys ∨ SqT X.K H p ys) ∧ Q (.int ys.length) H) := call_len_seq
theorem op_eqDS (hu : X.A.units + 64 < cLine) : OpR (X.suite a pn) (compareOp .Eq) (rEqD X.K) := op_eqD hu
theorem op_neDS (hu : X.A.units + 64 < cLine) : OpR (X.suite a pn) (compareOp .NotEq) (rNeD X.K) := op_neD hu
theorem pe_bmS (pa : PlainAttrs T) (slot : Slot T name id) (hty : typeOf (.builtin id) = pure (.type "method_descriptor")) (hm : MtR (X.suite a pn) id r) (ho : PE (X.suite a pn) o to) (ha : PA (X.suite a pn) (e :: es) t) (hbase : attributeBase o name X.env (eval o X.env) = eval o X.env := by rfl) (hfew : ((backTo cpos (starEach (e :: es) X.env)).all (fun x => !x.1) && (backToKw cpos (keywordEach [] X.env)).all (fun x => x.1.isSome) && decide ((e :: es).length + ([] : List Keyword).length + (if ([] : List Keyword).isEmpty then 0 else 1) < 30)) = true := by rfl) (hline : (apos.endLine == cpos.line) = true := by rfl) (hs : starEach (e :: es) X.env = (false, eval e X.env) :: starEach es X.env := by rfl) (hplain : (backTo cpos (starEach es X.env)).any (·.1) = false := by rfl) : PE (X.suite a pn) (.Call (.Attribute o name apos) (e :: es) [] cpos) (tBM X.K T r to t) := pe_bm pa slot hty hm ho ha hbase hfew hline hs hplain
end
/-! ### further expressions -/
section
variable {K : PySem.W.Frag} {σ : L2.St} {B : Hp} {ta tb te : TE}
theorem en_list {a : Addr} {xs : List V} (h : Ev te σ B (.ref a)) (hx : SqL K B a xs) : EvN (tCB (fun xs H Q => ∃ p ys, xs = [.ref p] ∧ (SqL K H p ys ∨ SqT K H p ys) ∧ ∀ l, H l = none → Q (.ref l) (upd H l (.lst ys))) (tCons te tNil)) σ B (.lst xs) := fun H1 e Q q =>
  h H1 e _ fun H2 e2 => ⟨a, xs, rfl, .inl (ex_l (e.trans e2) hx), fun l hl => q l _ (fresh_back e2 hl) (e2.trans (Ex.new hl)) upd_same⟩
theorem en_rep {xs : List V} {k : Int} (ha : EvN ta σ B (.lst xs)) (hb : Ev tb σ B (.int k)) (h0 : 0 ≤ k) (h1 : k ≤ 100000) (hz : xs.length * k.toNat ≤ 100000) : EvN (tOp rRep ta tb) σ B (.lst (List.replicate k.toNat xs).flatten) := fun H1 e Q q =>
  ha H1 e _ fun p H2 hp e2 h2 => hb H2 (e.trans e2) _ fun H3 e3 => ⟨p, k, xs, rfl, rfl, e3 p _ h2, by omega, by omega, sz_of hz, fun r hr => q r _ (fresh_back (e2.trans e3) hr) ((e2.trans e3).trans (Ex.new hr)) upd_same⟩
theorem en_slN {tl th : TO} {xs : List V} {lo hi : Option Int} (h : EvN te σ B (.lst xs)) (h1 : EvO tl σ B lo) (h2 : EvO th σ B hi) : EvN (tSl (rSlL K) te tl th) σ B (.lst (cutV xs lo hi)) := fun H1 e Q q =>
  h H1 e _ fun p H2 hp e2 hh => h1 H2 (e.trans e2) _ fun H3 e3 => h2 H3 ((e.trans e2).trans e3) _ fun H4 e4 => ⟨p, xs, rfl, sq_of (e4 p _ (e3 p _ hh)), fun r hr => q r _ (fresh_back ((e2.trans e3).trans e4) hr) (((e2.trans e3).trans e4).trans (Ex.new hr)) upd_same⟩
end
/-! ### arguments of which some are new; calls that give a value of which something is known -/
def PVd (pre : List V → Hp → (V → Prop) → Prop) : Sp := fun vs H Q _ => ∃ F, pre vs H F ∧ ∀ v H2, Ex H H2 → F v → Q v H2
section
variable {K : PySem.W.Frag} {σ : L2.St} {B : Hp} {ta ts : TA} {te tl : TE} {tz : TS} {D : Ends} {tu : TS} {v z : V} {o : HO} {vs : List V} {E : XK} {W : WX} {Pp : List V → Hp → Prop} {mg : Str → Option Value} {x : Str}
theorem eap_nil : EvAP tNil σ B (fun vs _ => vs = []) := fun H1 _ Q q => q [] H1 (Ex.refl H1) rfl
theorem eap_v (h : Ev te σ B v) (t : EvAP ts σ B Pp) : EvAP (tCons te ts) σ B (fun vs H => ∃ r, vs = v :: r ∧ Pp r H) := fun H1 e Q q =>
  h H1 e _ fun H2 e2 => t H2 (e.trans e2) _ fun r H3 e3 hr => q _ H3 (e2.trans e3) ⟨r, rfl, hr⟩
theorem eap_n (h : EvN te σ B o) (t : EvAP ts σ B Pp) : EvAP (tCons te ts) σ B (fun vs H => ∃ p r, vs = .ref p :: r ∧ H p = some o ∧ Pp r H) := fun H1 e Q q =>
  h H1 e _ fun p H2 _ e2 hp => t H2 (e.trans e2) _ fun r H3 e3 hr => q _ H3 (e2.trans e3) ⟨p, r, rfl, e3 p _ hp, hr⟩
theorem ev_pvA {pre : List V → Hp → V → Prop} (h : EvAP ta σ B Pp) (hp : ∀ vs H, Ex B H → Pp vs H → pre (vs ++ []) H z) : Ev (tCall (PV pre) [] E ta) σ B z := fun H1 e Q q =>
  h H1 e _ fun vs H2 e2 hv => ⟨z, hp vs H2 (e.trans e2) hv, fun H3 e3 => q H3 (e2.trans e3)⟩
theorem en_pnA {pre : List V → Hp → HO → Prop} (h : EvAP ta σ B Pp) (hp : ∀ vs H, Ex B H → Pp vs H → pre (vs ++ []) H o) : EvN (tCall (PN pre) [] E ta) σ B o := fun H1 e Q q =>
  h H1 e _ fun vs H2 e2 hv => ⟨o, hp vs H2 (e.trans e2) hv, fun p H3 hp' e3 h3 => q p H3 (fresh_back e2 hp') (e2.trans e3) h3⟩
theorem ev_cxA {pre : List V → Hp → Out → Prop} (h : EvAP ta σ B Pp) (hp : ∀ vs H, Ex B H → Pp vs H → pre vs H (.val z)) : Ev (tCallS (spO mg pre) (WE W) ta) σ B z := fun H1 e Q q => h H1 e _ fun vs H2 e2 hv => ⟨.val z, hp vs H2 (e.trans e2) hv, fun H3 e3 => q H3 (e2.trans e3)⟩
theorem en_cxA {pre : List V → Hp → Out → Prop} (h : EvAP ta σ B Pp) (hp : ∀ vs H, Ex B H → Pp vs H → pre vs H (.new o)) : EvN (tCallS (spO mg pre) (WE W) ta) σ B o := fun H1 e Q q => h H1 e _ fun vs H2 e2 hv => ⟨.new o, hp vs H2 (e.trans e2) hv, fun p H3 np e3 h3 => q p H3 (fresh_back e2 np) (e2.trans e3) h3⟩
theorem ep_pvd {pre : List V → Hp → (V → Prop) → Prop} {F : V → Prop} (h : EvA ta σ B vs) (hp : ∀ H, Ex B H → pre (vs ++ []) H F) : EvP (tCall (PVd pre) [] E ta) σ B (fun v _ => F v) := fun H1 e Q q =>
  h H1 e _ fun H2 e2 => ⟨F, hp H2 (e.trans e2), fun v H3 e3 hf => q v H3 (e2.trans e3) hf⟩
theorem ev_max2 {i j : Int} (h : EvA ta σ B [.int i, .int j]) : Ev (tCB (fun xs H Q => ∃ i j, xs = [V.int i, .int j] ∧ Q (.int (if j > i then j else i)) H) ta) σ B (.int (if j > i then j else i)) := fun H1 e Q q => h H1 e _ fun H2 e2 => ⟨i, j, rfl, q H2 e2⟩
theorem ev_min2 {i j : Int} (h : EvA ta σ B [.int i, .int j]) : Ev (tCB (fun xs H Q => ∃ i j, xs = [V.int i, .int j] ∧ Q (.int (if j < i then j else i)) H) ta) σ B (.int (if j < i then j else i)) := fun H1 e Q q => h H1 e _ fun H2 e2 => ⟨i, j, rfl, q H2 e2⟩
/-- a for whose end is reached from several places -/
theorem r_forR1K {j : Nat} {n : Int} (Mid : L2.St → Hp → Prop) (h : EvA ta σ B [.int n]) (hn : 0 ≤ n ∧ n ≤ 100000) (Pv : Nat → L2.St → Hp → Prop) (h0 : Pv 0 σ B) (k : ∀ σ' B', Mid σ' B' → R tz D σ' B')
    (hs : (∀ σ' B', Mid σ' B' → R tz D σ' B') → ∀ (i : Nat) σ' B', (i : Int) < n → Pv i σ' B' → R tu (Lp Pv i D tz) (σ'.set j (some (.int (i : Int)))) B') (hd : ∀ σ' B', Pv n.toNat σ' B' → Mid σ' B') : R (tSeq (tFor (iRng1 ta) (gName j) tu) tz) D σ B :=
  r_forR1 h hn Pv h0 (hs k) fun σ' B' p => k σ' B' (hd σ' B' p)
theorem r_forR2K {j : Nat} {lo n : Int} (Mid : L2.St → Hp → Prop) (h : EvA ta σ B [.int lo, .int n]) (hn : 0 ≤ lo ∧ lo ≤ 100000 ∧ -100000 ≤ n ∧ n ≤ 100000) (Pv : Nat → L2.St → Hp → Prop) (h0 : Pv 0 σ B) (k : ∀ σ' B', Mid σ' B' → R tz D σ' B')
    (hs : (∀ σ' B', Mid σ' B' → R tz D σ' B') → ∀ (i : Nat) σ' B', lo + (i : Int) < n → Pv i σ' B' → R tu (Lp Pv i D tz) (σ'.set j (some (.int (lo + (i : Int))))) B') (hd : ∀ σ' B', Pv (n - lo).toNat σ' B' → Mid σ' B') : R (tSeq (tFor (iRng2 ta) (gName j) tu) tz) D σ B :=
  r_forR2 h hn Pv h0 (hs k) fun σ' B' p => k σ' B' (hd σ' B' p)
end
end FK

set_option Elab.async false
set_option linter.all false
set_option maxRecDepth 100000
set_option maxHeartbeats 2000000
/-! dicts whose keys are ints and texts; pairs in a for; places in lists (own text) -/
namespace FK
open PySem PySem.Spec PyProof.Rows L2 Evl FkE
/-! ### list(d.values()) -/
theorem kv_vals {kvs : List (Key × V)} {vs : List (Key × Value)} (r : KV kvs vs) : Vals (kvs.map (·.2)) (vs.map (·.2)) := by
  unfold KV at r
  induction r with
  | nil => exact .nil
  | cons h t ih => exact .cons h.2 ih
def tListVals (te : TE) : TE := fun σ H Q => te σ H fun x H1 => ∃ (d : Addr) (kvs : List (Key × V)), x = .ref d ∧ H1 d = some (.dK kvs) ∧ ∀ p, H1 p = none → Q (.ref p) (upd H1 p (.lst (kvs.map (·.2))))
section
variable {X : Cx} {e : Expr} {te : TE} {p apos cpos pos : Pos}
theorem pe_listVals (hc : X.calm = true) (he : PE X e te) (hg : Gl X "list") (hm : X.mg "list" = none) (hv : bootBuiltins "list" = some (.type "list")) (hb : attributeBase e "values" X.env (eval e X.env) = eval e X.env := by rfl) (hl : (apos.endLine == cpos.line) = true := by rfl)
    (hs : starEach [.Call (.Attribute e "values" apos) [] [] cpos] X.env = (false, eval (.Call (.Attribute e "values" apos) [] [] cpos) X.env) :: starEach [] X.env := by rfl) : PE X (.Call (.Name "list" p) [.Call (.Attribute e "values" apos) [] [] cpos] [] pos) (tListVals te) :=
  ⟨fun pins s σ H Q I hq => wpAny_Call_Name_kw (ld_blt I hg hm hv (PyProof.Rows.callWith_type1 (by
    rw [hs]
    refine (show wpAny _ _ (spliced ((false, eval (.Call (.Attribute e "values" apos) [] [] cpos) X.env) :: backTo pos (starEach [] X.env))) _ _ s from Calls.spliced_cons (wpAny_Call_method (T := "dict") (id := "dict.values") hb rfl hl F.plainAttrs_dict F.slot_dict_values F.type_dict_values (thn (he.run pins s σ H _ I hq) fun u s1 ⟨x, H1, I1, rx, d, kvs, ex, hd, q⟩ => ?_)))
    subst ex
    obtain rfl : u = Value.ref d := rx
    obtain ⟨z, lo, vs, rel, dd⟩ := dk_rd I1.hok (Rd.of hd)
    obtain ⟨ep, hat⟩ := dd.dictAt
    have lk : kvs.length = vs.length := Paired.length rel
    have I2 : Inv X pins σ H1 { s1 with heap := s1.heap.push { cls := .type "dict_values", data := .fields #[.ref d] } } := I1.kept (t' := s1.toks) fun b ob q => Heap.get?_push_of_some _ q
    refine ⟨dd.typeIs, dd.mapOf.noDict, (show wpAny _ _ (callWith cpos (.builtin "dict.values") [.ref d] [] []) _ X.xe s1 from method_meetsIn F.slot_dict_values F.entry_dict_values rfl (PySem.evalArgs_none ⟨rfl, dd.typeIs, F.args_dict_values_1 _, _, meets_dict_values (mixKind X.prog X.w) d lo, ⟨vs, dd⟩, Calls.spliced_nil ?_⟩))⟩
    refine PySem.W.kdl_call (PySem.W.kdl_values (knd := mixKind X.prog X.w) (kvs := vs) (ep := ep)) (I1.ok.hd hc) ⟨⟨_, Heap.get?_push_size _ rfl, rfl, rfl⟩, hat.push _⟩ (by rw [← lk]; exact z) fun h' tk acc c' hk hD hacc => ?_
    have hv2 : acc.toList = vs.map (·.2) := List.ext_getElem? fun j => by
      by_cases hj : j < vs.length
      · have h1 : acc[j]? = some acc[j]! := by
          rw [Array.getElem?_eq_getElem (by rw [hacc.1]; exact hj), getElem!_pos]
        obtain ⟨k, hk2⟩ := hacc.2 j _ h1
        rw [Array.getElem?_toList, h1, List.getElem?_map, hk2]
        rfl
      · rw [List.getElem?_eq_none (by rw [Array.length_toList, hacc.1]; omega), List.getElem?_eq_none (by rw [List.length_map]; omega)]
    exact ⟨.ref _, _, I2.laid (t' := tk) hk (Nat.le_refl _) (show ObjOk X.prog X.w _ _ _ (.lst (kvs.map (·.2))) from ⟨by rw [List.length_map]; exact z, acc.toList, c', by rw [hv2]; exact kv_vals rel, by rw [Array.toArray_toList]; exact hD⟩), rfl, q _ (I2.hok.fresh (Nat.le_refl _))⟩) hs rfl))⟩
end
/-- where an item stands -/
theorem pe_index {X : Cx} {K : PySem.W.Frag} {o e : Expr} {es : List Expr} {to : TE} {t : TA} {apos cpos : Pos} (hK : X.K = K) (ho : PE X o to) (ha : PA X (e :: es) t) (h1 : attributeBase o "index" X.env (eval o X.env) = eval o X.env := by rfl) (h2 : ((backTo cpos (starEach (e :: es) X.env)).all (fun x => !x.1) && (backToKw cpos (keywordEach [] X.env)).all (fun x => x.1.isSome) && decide ((e :: es).length + ([] : List Keyword).length + (if ([] : List Keyword).isEmpty then 0 else 1) < 30)) = true := by rfl) (h3 : (apos.endLine == cpos.line) = true := by rfl) (h4 : starEach (e :: es) X.env = (false, eval e X.env) :: starEach es X.env := by rfl) (h5 : (backTo cpos (starEach es X.env)).any (·.1) = false := by rfl) :
    PE X (.Call (.Attribute o "index" apos) (e :: es) [] cpos) (tBM K "list" (rIndex K) to t) := by
  subst hK
  exact pe_bm PySem.F.plainAttrs_list PySem.F.slot_list_index PySem.F.type_list_index mt_index ho ha h1 h2 h3 h4 h5
theorem ix_listK {X : Cx} {K : PySem.W.Frag} (hK : X.K = K) : IxR X (rIxL K) := by
  subst hK
  exact ix_list
theorem ix_tupK {X : Cx} {K : PySem.W.Frag} (hK : X.K = K) : IxR X (rIxT K) := by
  subst hK
  exact ix_tup
theorem sl_listK {X : Cx} {K : PySem.W.Frag} (hK : X.K = K) : SlR X (rSlL K) := by
  subst hK
  exact sl_list
theorem call_len_seqK {X : Cx} {K : PySem.W.Frag} (hK : X.K = K) : CallR X (.builtin "len") (rLenS K) := by
  subst hK
  exact call_len_seq
theorem kit_ty {K : PySem.W.Frag} {C : Addr} {T : String} {b : Bool} (m : PySem.W.kitMeta T = true) (sb : PySem.W.subIn K (.ref C) (.type T) = some b) : PySem.W.kitOne K (.ref C) (.type T) = some b := by
  show (if (Value.ref C == Value.type T) = true then some true else if PySem.W.kitMeta T = true then PySem.W.subIn K (.ref C) (.type T) else none) = some b
  rw [show (Value.ref C == Value.type T) = false from rfl, if_neg Bool.false_ne_true, if_pos m]
  exact sb
theorem pe_c0 {X : Cx} {k j : Nat} {x : Str} {sp : Sp} {p pos : Pos} (c : Cal CX0 X.prog X.w X.K X.mg X.base k x sp) (hr : Room j X.A) (hk : k ≤ j) (hg : Gl X x) (hdb : (x == ("__debug__" : Str)) = false := by decide) : PE X (.Call (.Name x p) [] [] pos) (tCall sp [] E0 tNil) := by
  obtain ⟨f, fd, ps, F, hm, kp, b⟩ := c.ex
  exact pe_call0 F (hr.mono hk) hg hm kp b .nil pass0 hdb
section
variable {K : PySem.W.Frag} {σ : L2.St} {B : Hp} {ta ts : TA} {te td ty tv tl tb : TE} {tz tu : TS} {D : Ends} {v z x : V} {o : HO} {E : XK} {mg : Str → Option Value}
theorem en_listVals {a : Addr} {kvs : List (Key × V)} (h : Ev te σ B (.ref a)) (hd : B a = some (.dK kvs)) : EvN (tListVals te) σ B (.lst (kvs.map (·.2))) := fun H1 e Q q =>
  h H1 e _ fun H2 e2 => ⟨a, kvs, rfl, (e.trans e2) a _ hd, fun p hp => q p _ (fresh_back e2 hp) (e2.trans (Ex.new hp)) upd_same⟩
theorem en_listD {a : Addr} {kvs : List (Key × V)} (h : Ev te σ B (.ref a)) (hd : B a = some (.dK kvs)) : EvN (tCB (fun xs H Q => ∃ (a : Addr) (kvs : List (Key × V)), xs = [.ref a] ∧ Rd H a (.dK kvs) ∧ ∀ p, H p = none → Q (.ref p) (upd H p (.lst (kvs.map fun kv => kV kv.1)))) (tCons te tNil)) σ B (.lst (kvs.map fun kv => kV kv.1)) := fun H1 e Q q =>
  h H1 e _ fun H2 e2 => ⟨a, kvs, rfl, .of ((e.trans e2) a _ hd), fun p hp => q p _ (fresh_back e2 hp) (e2.trans (Ex.new hp)) upd_same⟩
theorem ev_dget {a : Addr} {kvs : List (Key × V)} {k : Key} (h : Ev td σ B (.ref a)) (hk : Ev ty σ B (kV k)) (hd : B a = some (.dK kvs)) (hv : valV kvs k = some v) : Ev (tDGet td ty) σ B v := fun H1 e Q q =>
  h H1 e _ fun H2 e2 => hk H2 (e.trans e2) _ fun H3 e3 => ⟨a, v, rfl, by rw [← hv]; exact DGet.k (((e.trans e2).trans e3) a _ hd), q H3 (e2.trans e3)⟩
theorem r_dput {a : Addr} {kvs : List (Key × V)} {k : Key} (hv : Ev tv σ B v) (h : Ev td σ B (.ref a)) (hk : Ev ty σ B (kV k)) (hd : B a = some (.dK kvs)) (hz : kvs.length < 100000) (q : R tz D σ (upd B a (.dK (putK kvs k v)))) : R (tSeq (sDPut td ty tv) tz) D σ B := fun H1 e =>
  hv H1 e _ fun H2 e2 => h H2 (e.trans e2) _ fun H3 e3 => hk H3 ((e.trans e2).trans e3) _ fun H4 e4 => ⟨a, _, rfl, DPut.k ((((e.trans e2).trans e3).trans e4) a _ hd) (sz_lt hz), q _ (ex_mut (((e.trans e2).trans e3).trans e4))⟩
/-- a display of two pairs -/
theorem en_disp2 {t1 t2 u1 u2 : TE} {k1 k2 : Key} {v1 v2 : V} (a1 : Ev t1 σ B (kV k1)) (b1 : Ev u1 σ B v1) (a2 : Ev t2 σ B (kV k2)) (b2 : Ev u2 σ B v2) : EvN (tDisp [(t1, u1), (t2, u2)]) σ B (.dK (mergeK [] [(k1, v1), (k2, v2)])) := fun H1 e Q q p hp =>
  have e0 := e.trans (Ex.new (o := .dK []) hp)
  a1 _ e0 _ fun H2 e2 => b1 _ (e0.trans e2) _ fun H3 e3 => a2 _ ((e0.trans e2).trans e3) _ fun H4 e4 => b2 _ (((e0.trans e2).trans e3).trans e4) _ fun H5 e5 =>
    have eA := ((e2.trans e3).trans e4).trans e5
    ⟨eA p _ upd_same, [(k1, v1), (k2, v2)], rfl, by simp, q p _ hp (Ex.mut ((Ex.new hp).trans eA) hp) upd_same⟩
/-- a for over (place, item) -/
theorem r_forEnum {a : Addr} {xs : List V} {j1 j2 : Nat} (h : EvA ta σ B [.ref a]) (hx : SqL K B a xs) (Pv : Nat → L2.St → Hp → Prop) (h0 : Pv 0 σ B) (hl : ∀ i σ' B', i ≤ xs.length → Pv i σ' B' → SqL K B' a xs)
    (hs : ∀ i x σ' B', xs[i]? = some x → Pv i σ' B' → R tu (Lp Pv i D tz) ((σ'.set j1 (some (.int (i : Int)))).set j2 (some x)) B') (hd : ∀ σ' B', Pv xs.length σ' B' → R tz D σ' B') :
    R (tSeq (tFor (iEnum K ta) (gTup K 2 (gCons (gName j1) (gCons (gName j2) gNil))) tu) tz) D σ B := fun H e => h H e _ fun H1 e1 =>
  ⟨a, xs, rfl, ex_l (e.trans e1) hx, for_it walk_enum (D := { D with nx := tz D }) (Up Pv) ⟨B, e.trans e1, h0⟩ (fun i σ' H' hi ⟨B', e', p⟩ => ex_l e' (hl i σ' B' hi p))
    (fun i x σ' H' H2 hi ⟨B', e', p⟩ ⟨T, x1, x2, hv, hT, hH, h1, h2⟩ => by
      subst hv hH
      cases h1
      exact ⟨T, [.int (i : Int), x2], rfl, st_of upd_same, rfl, .int (i : Int), [x2], rfl, x2, [], rfl, rfl, hs i x2 σ' B' h2 p _ (e'.trans (Ex.new hT))⟩) fun σ' H' ⟨B', e', p⟩ => hd σ' B' p H' e'⟩
/-- where an item stands in a new list -/
theorem ev_indexN {ys : List V} {y : V} {j : Nat} {w : V} (h : EvN te σ B (.lst ys)) (hy : Ev ty σ B y) (f1 : flatV y = true) (f2 : ys.all flatV = true) (h1 : ys[j]? = some w) (h2 : eqV w y = true) (h3 : ∀ (m : Nat) (w' : V), m < j → ys[m]? = some w' → eqV w' y = false) :
    Ev (tBM K "list" (rIndex K) te (tCons ty tNil)) σ B (.int (j : Int)) := fun H1 e Q q =>
  h H1 e _ fun p H2 np e2 hp => ⟨.inl ⟨rfl, ys, sq_of hp⟩, hy H2 (e.trans e2) _ fun H3 e3 => ⟨p, ys, y, j, w, rfl, rfl, sq_of (e3 p _ hp), f1, f2, h1, h2, h3, q H3 (e2.trans e3)⟩⟩
/-- x in a new list -/
theorem ev_inN {xs : List V} (ha : Ev ty σ B x) (hb : EvN te σ B (.lst xs)) (hx : flatV x = true) (hf : xs.all flatV = true) : Ev (tOp (rIn K false) ty te) σ B (.bl (inV x xs)) := fun H1 e Q q =>
  ha H1 e _ fun H2 e2 => hb H2 (e.trans e2) _ fun p H3 np e3 hp => ⟨p, xs, rfl, .inl (sq_of hp), hx, hf, q H3 (e2.trans e3)⟩
theorem ev_niN {xs : List V} (ha : Ev ty σ B x) (hb : EvN te σ B (.lst xs)) (hx : flatV x = true) (hf : xs.all flatV = true) : Ev (tOp (rIn K true) ty te) σ B (.bl (!inV x xs)) := fun H1 e Q q =>
  ha H1 e _ fun H2 e2 => hb H2 (e.trans e2) _ fun p H3 np e3 hp => ⟨p, xs, rfl, .inl (sq_of hp), hx, hf, q H3 (e2.trans e3)⟩
/-- sep.join(a list that stands) -/
theorem ev_joinL {a : List Nat} {p : Addr} {ys : List (List Nat)} (ha : Ev te σ B (.str (SX.S a))) (hb : Ev tb σ B (.ref p)) (hp : SqL K B p (ys.map fun l => V.str (SX.S l))) (hz : (ys.map (·.length)).sum + ys.length * a.length ≤ 16777216) :
    Ev (tM1 (fun x xs H Q => ∃ a p, ∃ ys : List Str, x = .str a ∧ xs = [.ref p] ∧ (SqL K H p (ys.map V.str) ∨ SqT K H p (ys.map V.str)) ∧ (ys.map (·.length)).sum + ys.length * a.length ≤ 16777216 ∧ Q (.str (Txt.join a ys)) H) te tb) σ B (.str (SX.S (TL.joinL a ys))) := by
  rw [← SX.join_S]
  exact fun H1 e Q q => ha H1 e _ fun H2 e2 => ⟨⟨_, rfl⟩, hb H2 (e.trans e2) _ fun H3 e3 => ⟨_, p, ys.map SX.S, rfl, rfl, .inl (ex_l ((e.trans e2).trans e3) (by rw [List.map_map]; exact hp)), by rw [SX.lens, List.length_map, SX.S_len]; exact hz, q H3 (e2.trans e3)⟩⟩
theorem rv_notB {a b : Bool} : RV rNotB (.bl a) (.bl b) B (.bl (!decide (a = b))) := fun H1 _ _ q => ⟨a, b, rfl, rfl, q H1 (Ex.refl H1)⟩
/-- calls that give either (nothing is let out) -/
theorem ev_po {pre : List V → Hp → Out → Prop} {vs : List V} (h : EvA ta σ B vs) (hp : ∀ H, Ex B H → pre (vs ++ []) H (.val z)) : Ev (tCall (spO mg pre) [] E ta) σ B z := fun H1 e Q q => h H1 e _ fun H2 e2 => ⟨.val z, hp H2 (e.trans e2), fun H3 e3 => q H3 (e2.trans e3)⟩
theorem en_po {pre : List V → Hp → Out → Prop} {vs : List V} (h : EvA ta σ B vs) (hp : ∀ H, Ex B H → pre (vs ++ []) H (.new o)) : EvN (tCall (spO mg pre) [] E ta) σ B o := fun H1 e Q q => h H1 e _ fun H2 e2 => ⟨.new o, hp H2 (e.trans e2), fun p H3 np e3 h3 => q p H3 (fresh_back e2 np) (e2.trans e3) h3⟩
end
end FK

set_option Elab.async false
set_option linter.all false
set_option maxRecDepth 100000
/-! masks, shifts, tuples of the top (own text) -/
namespace FK
open PySem PySem.Spec PyProof.Rows L2 Evl
/-- values as they are written -/
def abL : List Value → Option (List V)
  | [] => some []
  | u :: us => match absV u, abL us with
    | some x, some xs => some (x :: xs)
    | _, _ => none
theorem absV_rel {u : Value} {x : V} (h : absV u = some x) : RelV x u := by
  cases u <;> simp only [absV, Option.some.injEq, reduceCtorEq] at h <;> subst h <;> first | rfl | exact ⟨_, rfl⟩
theorem abL_vals : ∀ {us : List Value} {xs : List V}, abL us = some xs → Vals xs us
  | [], xs, h => by
    cases h
    exact .nil
  | u :: us, xs, h => by
    unfold abL at h
    split at h
    · rename_i x ys h1 h2
      cases h
      exact .cons (absV_rel h1) (abL_vals h2)
    · cases h
theorem tup_at {K : PySem.W.Frag} {H : Hp} {p : Addr} {od : Option Addr} {its : Array Value} {n : Nat} {sl : Array (Option Value)} {xs : List V} (l : K.lookup p = some ⟨.type "tuple", od, .seq its n, sl⟩) (v : abL its.toList = some xs) (hz : xs.length ≤ 100000) : SqT K H p xs := by
  have r := abL_vals v
  have e : xs.length = its.size := by
    have := r.length
    simpa using this
  exact .inr ⟨_, its, n, l, rfl, rfl, by rw [← e]; exact sz_of hz, r⟩
section
variable {σ : L2.St} {B : Hp} {te : TE}
theorem rv_xorN {a b : Nat} : RV (rI0 fun i j => .int (Builtin.bitXor i j)) (.int (a : Int)) (.int (b : Int)) B (.int ((a ^^^ b : Nat) : Int)) := by
  have e := rv_ar (B := B) (f := Builtin.bitXor) (i := (a : Int)) (j := (b : Int))
  rw [Bits.bitXor_pp (Int.natCast_nonneg _) (Int.natCast_nonneg _)] at e
  exact e
theorem rv_andM {a : Nat} (k : Nat) {m : Int} (h : m = 2 ^ k - 1) : RV (rI0 fun i j => .int (Builtin.bitAnd i j)) (.int (a : Int)) (.int m) B (.int ((a % 2 ^ k : Nat) : Int)) := by
  have e := rv_ar (B := B) (f := Builtin.bitAnd) (i := (a : Int)) (j := m)
  rw [h, Bits.bitAnd_mask k (Int.natCast_nonneg _)] at e
  rw [h]
  have e2 : ((a % 2 ^ k : Nat) : Int) = (a : Int) % 2 ^ k := by push_cast; rfl
  rw [e2]
  exact e
theorem rv_shlN {a : Nat} (k : Nat) {m : Int} (h : m = (k : Int)) (hk : k ≤ 1000000) (ha : a < 2 ^ 64) : RV (rI CPow fun i j => .int (i * 2 ^ j.toNat)) (.int (a : Int)) (.int m) B (.int ((a * 2 ^ k : Nat) : Int)) := by
  subst h
  have e := rv_arC (B := B) (C := CPow) (f := fun i j => i * 2 ^ j.toNat) (i := (a : Int)) (j := (k : Int)) ⟨by omega, by omega, by rw [Int.natAbs_natCast]; exact ha⟩
  rw [Int.toNat_natCast] at e
  have e2 : ((a * 2 ^ k : Nat) : Int) = (a : Int) * 2 ^ k := by push_cast; rfl
  rw [e2]
  exact e
theorem rv_shlWN {a n : Nat} (k : Nat) {m : Int} (h : m = (k : Int)) (ha : a < 2 ^ n) (hk : n + k ≤ 100000) : RV (rI CShl fun i j => .int (i * 2 ^ j.toNat)) (.int (a : Int)) (.int m) B (.int ((a * 2 ^ k : Nat) : Int)) := by
  subst h
  have e := rv_arC (B := B) (C := CShl) (f := fun i j => i * 2 ^ j.toNat) (i := (a : Int)) (j := (k : Int)) (shl_ok (n := n) (by rw [Int.natAbs_natCast]; exact ha) (by omega))
  rw [Int.toNat_natCast] at e
  have e2 : ((a * 2 ^ k : Nat) : Int) = (a : Int) * 2 ^ k := by push_cast; rfl
  rw [e2]
  exact e
theorem rv_shrN {a : Nat} (k : Nat) {m : Int} (h : m = (k : Int)) : RV (rI (fun _ j => 0 ≤ j) fun i j => .int (i / 2 ^ j.toNat)) (.int (a : Int)) (.int m) B (.int ((a / 2 ^ k : Nat) : Int)) := by
  subst h
  have e := rv_arC (B := B) (C := fun _ j => 0 ≤ j) (f := fun i j => i / 2 ^ j.toNat) (i := (a : Int)) (j := (k : Int)) (Int.natCast_nonneg _)
  rw [Int.toNat_natCast] at e
  have e2 : ((a / 2 ^ k : Nat) : Int) = (a : Int) / 2 ^ k := by push_cast; rfl
  rw [e2]
  exact e
theorem rv_modN {a b : Nat} (h : 0 < b) : RV (rI (fun _ j => 0 < j) fun i j => .int (i % j)) (.int (a : Int)) (.int (b : Int)) B (.int ((a % b : Nat) : Int)) := by
  have e := rv_arC (B := B) (C := fun _ j => 0 < j) (f := fun i j => i % j) (i := (a : Int)) (j := (b : Int)) (by omega)
  rw [Int.natCast_emod]
  exact e
theorem rv_divWN {a b n : Nat} (h : 0 < b) (hb : b < 2 ^ n) (h0 : 0 < n) (h9 : n ≤ 9000) : RV (rI CDivW fun i j => .int (i / j)) (.int (a : Int)) (.int (b : Int)) B (.int ((a / b : Nat) : Int)) := by
  have e := rv_arC (B := B) (C := CDivW) (f := fun i j => i / j) (i := (a : Int)) (j := (b : Int)) (wide_div (by omega) (b := n) (by rw [Int.natAbs_natCast]; exact hb) h0 h9)
  rw [Int.natCast_ediv]
  exact e
theorem ev_bits {i : Int} (h : Ev te σ B (.int i)) : Ev (tBits te) σ B (.int (Builtin.Int.intBits i : Nat)) := fun H1 e Q q => h H1 e _ fun H2 e2 => ⟨i, rfl, q H2 e2⟩
theorem ev_abs {ta : TA} {i : Int} (h : EvA ta σ B [.int i]) : Ev (tCB (fun xs H Q => ∃ i, xs = [V.int i] ∧ Q (.int (if i < 0 then -i else i)) H) ta) σ B (.int (if i < 0 then -i else i)) := fun H1 e Q q => h H1 e _ fun H2 e2 => ⟨i, rfl, q H2 e2⟩
theorem bits_lt {b : Nat} : b < 2 ^ (Builtin.Int.intBits (b : Int)) := by
  unfold Builtin.Int.intBits
  split
  · rename_i h
    have : b = 0 := by simpa using h
    subst this
    decide
  · rw [Int.natAbs_natCast]
    exact Nat.lt_log2_self
end
theorem nat_list : ∀ {ds : List Int} {b : Int}, (∀ d ∈ ds, 0 ≤ d ∧ d < b) → ∃ os : List Nat, ds = os.map (fun o : Nat => (o : Int)) ∧ ∀ o ∈ os, (o : Int) < b
  | [], _, _ => ⟨[], rfl, fun _ h => nomatch h⟩
  | d :: ds, b, h => by
    obtain ⟨os, e, h2⟩ := nat_list (ds := ds) (b := b) fun x hx => h x (List.mem_cons_of_mem _ hx)
    have h1 := h d List.mem_cons_self
    refine ⟨d.toNat :: os, by rw [List.map_cons, ← e, Int.toNat_of_nonneg h1.1], fun o ho => ?_⟩
    rcases List.mem_cons.mp ho with rfl | ho
    · omega
    · exact h2 o ho
end FK

set_option Elab.async false
set_option linter.all false
set_option maxRecDepth 100000
/-! readings with what belongs to them: B is what is known, N what is known behind (B and new objects); one object (the state of the draws) may change (own text) -/
namespace FK
open PySem PySem.Spec PyProof.Rows L2 Evl FkE
/-- the object that changes, what it may be -/
structure Ys where
  st : Option Addr
  sh : HO → Prop := fun _ => True
  /-- what may be read beside -/
  ro : Hp := fun _ => none
def rest (Y : Ys) (H : Hp) : Hp := match Y.st with
  | none => H
  | some p => del H p
def stO (pn : Addr) (n : Int) : HO := .dK [(.inr "numbers", .ref pn), (.inr "at", .int n)]
def fr (N G : Hp) : Hp := fun a => match G a with
  | some o => some o
  | none => N a
def yo (Y : Ys) (G : Hp) : Ys := { Y with ro := fr Y.ro G }
def Stp (Y : Ys) (H : Hp) : Prop := match Y.st with
  | none => True
  | some p => ∃ o, H p = some o ∧ Y.sh o
structure Stt (Y : Ys) (H : Hp) : Prop where
  p : Stp Y H
  r : Ex Y.ro (rest Y H)
structure HY (Y : Ys) (B H : Hp) : Prop where
  ex : Ex B (rest Y H)
  st : Stt Y H
/-- N is B and new objects -/
structure FP (B N H : Hp) : Prop where
  ex : Ex B N
  nw : ∀ a, N a ≠ none → B a = none → H a = none
section
variable {Y : Ys} {B B' N N' H H1 H2 H3 : Hp} {a l p : Addr} {o u : HO}
theorem rest_sub : Ex (rest Y H) H := by
  rcases Y with ⟨_ | q1, sh, ro⟩
  · exact Ex.refl _
  · intro a u e
    have e : del H q1 a = some u := e
    by_cases c : a = q1
    · subst c
      rw [del_same] at e
      cases e
    · rwa [del_ne c] at e
theorem rest_ex (e : Ex H1 H2) : Ex (rest Y H1) (rest Y H2) := by
  rcases Y with ⟨_ | q1, sh, ro⟩
  · exact e
  · intro a u h
    have h : del H1 q1 a = some u := h
    show del H2 q1 a = some u
    by_cases c : a = q1
    · subst c
      rw [del_same] at h
      cases h
    · rw [del_ne c] at h ⊢
      exact e a u h
theorem stt_ex (s : Stt Y H1) (e : Ex H1 H2) : Stt Y H2 := by
  refine ⟨?_, s.r.trans (rest_ex e)⟩
  have s := s.p
  rcases Y with ⟨_ | q1, sh, ro⟩
  · trivial
  · obtain ⟨o, h, hn⟩ := s
    exact ⟨o, e _ _ h, hn⟩
theorem Stt.off (s : Stt Y H) (h : H a = none) : Y.ro a = none := fresh_back (s.r.trans rest_sub) h
theorem HY.sub (h : HY Y B H) : Ex B H := h.ex.trans rest_sub
theorem HY.mono (h : HY Y B H) (e : Ex B' B) : HY Y B' H := ⟨e.trans h.ex, h.st⟩
theorem HY.pure (h : HY Y B H1) (e : Ex H1 H2) : HY Y B H2 := ⟨h.ex.trans (rest_ex e), stt_ex h.st e⟩
theorem HY.self (h : HY Y B H) : HY Y (rest Y H) H := ⟨Ex.refl _, h.st⟩
theorem HY.keep (h : HY Y B H1) (e : Ex H1 H2) : HY Y (rest Y H1) H2 := h.self.pure e
theorem HY.trans (h : HY Y B H1) (k : HY Y (rest Y H1) H2) : HY Y B H2 := ⟨h.ex.trans k.ex, k.st⟩
/-- what stands there stays, or is new there -/
theorem HY.back (s : Stt Y H1) (k : HY Y (rest Y H1) H2) (h : H2 a = none) : H1 a = none := by
  cases e : H1 a with
  | none => rfl
  | some u =>
    exfalso
    obtain ⟨k1, k2, _⟩ := k
    rcases Y with ⟨_ | q1, sh, ro⟩
    · have e2 : H2 a = some u := k1 a u e
      rw [e2] at h
      cases h
    · obtain ⟨n, hn, _⟩ := k2
      by_cases c : a = q1
      · subst c
        rw [hn] at h
        cases h
      · have : del H2 q1 a = some u := k1 a u (by show del H1 q1 a = _; rw [del_ne c]; exact e)
        rw [del_ne c, h] at this
        cases this
theorem rest_upd (hs : Stt Y H) (hr : Y.ro l = none) (hl : rest Y H l ≠ none ∨ H l = none) : rest Y (upd H l o) = upd (rest Y H) l o ∧ Stt Y (upd H l o) := by
  suffices z : rest Y (upd H l o) = upd (rest Y H) l o ∧ Stp Y (upd H l o) from ⟨z.1, z.2, by rw [z.1]; exact Ex.mut hs.r hr⟩
  have h := hs.p
  clear hs hr
  rcases Y with ⟨_ | q1, sh, ro⟩
  · exact ⟨rfl, trivial⟩
  · obtain ⟨n, hn, h0⟩ := h
    have hl : del H q1 l ≠ none ∨ H l = none := hl
    have hne : l ≠ q1 := fun c => by
      subst c
      rcases hl with hl | hl
      · exact hl del_same
      · rw [hn] at hl
        cases hl
    refine ⟨?_, n, by rw [upd_ne (Ne.symm hne)]; exact hn, h0⟩
    show del (upd H l o) q1 = upd (del H q1) l o
    funext b
    by_cases c : b = q1
    · subst c
      rw [del_same, upd_ne (Ne.symm hne), del_same]
    · rw [del_ne c]
      by_cases c2 : b = l
      · subst c2
        rw [upd_same, upd_same]
      · rw [upd_ne c2, upd_ne c2, del_ne c]
/-- what stands and was not there stands in the rest -/
theorem rest_new (s : Stt Y H1) (np : H1 p = none) (h : H2 p = some o) : rest Y H2 p = some o := by
  have s := s.p
  rcases Y with ⟨_ | q1, sh, ro⟩
  · exact h
  · obtain ⟨n, hn, h0⟩ := s
    have c : p ≠ q1 := fun c => by
      rw [← c, np] at hn
      cases hn
    show del H2 q1 p = some o
    rw [del_ne c]
    exact h
/-- a new object beside -/
theorem HY.new (h : HY Y B H) (hp : H p = none) : HY Y (upd B p o) (upd H p o) := by
  obtain ⟨e, s⟩ := rest_upd (o := o) h.st (h.st.off hp) (.inr hp)
  exact ⟨by rw [e]; exact ex_mut h.ex, s⟩
theorem HY.put (h : HY Y B H) (hr : Y.ro l = none) (hl : B l = some u) : HY Y (upd B l o) (upd H l o) := by
  obtain ⟨e, s⟩ := rest_upd (l := l) (o := o) h.st hr (.inl (by rw [h.ex l _ hl]; simp))
  exact ⟨by rw [e]; exact ex_mut h.ex, s⟩
theorem HY.subR (h : HY Y B H) : Ex (fr B Y.ro) H := fun a u e => by
  unfold fr at e
  cases c : Y.ro a with
  | some o =>
    rw [c] at e
    cases e
    exact rest_sub a _ (h.st.r a _ c)
  | none =>
    rw [c] at e
    exact h.sub a u e
theorem yo_in {G : Hp} (h : HY Y B H) (hg : ∀ a o, G a = some o → rest Y H a = some o) : HY (yo Y G) B H := ⟨h.ex, h.st.p, fun a u e => by
  have e : fr Y.ro G a = some u := e
  unfold fr at e
  cases c : G a with
  | some o =>
    rw [c] at e
    cases e
    exact hg a _ c
  | none =>
    rw [c] at e
    exact h.st.r a u e⟩
theorem yo_out {G : Hp} (h : HY (yo Y G) B H) (hg : Ex Y.ro (rest Y H)) : HY Y B H := ⟨h.ex, h.st.p, hg⟩
theorem HY.none (h : HY Y B H) (hp : H p = none) : B p = none := fresh_back h.sub hp
theorem FP.refl : FP B B H := ⟨Ex.refl _, fun a h1 h2 => absurd h2 h1⟩
theorem FP.new (h : HY Y B H) (hp : H p = none) : FP B (upd B p o) H := ⟨Ex.new (h.none hp), fun a h1 h2 => by
  by_cases c : a = p
  · subst c
    exact hp
  · rw [upd_ne c] at h1
    exact absurd h2 h1⟩
theorem FP.trans (f : FP B N H1) (s : Stt Y H1) (k : HY Y (rest Y H1) H2) (g : FP N N' H2) : FP B N' H1 := ⟨f.ex.trans g.ex, fun a h1 h2 => by
  cases e : N a with
  | none => exact HY.back s k (g.nw a h1 e)
  | some u => exact f.nw a (by rw [e]; simp) h2⟩
theorem FP.off (f : FP B N H) (hB : B l = none) (hH : H l ≠ none) : N l = none := by
  cases e : N l with
  | none => rfl
  | some u => exact absurd (f.nw l (by rw [e]; simp) hB) hH
/-- an object beside what is known is put to it -/
theorem HY.beside (h : HY Y N H) (hl : rest Y H l = some u) : HY Y (upd N l u) H := ⟨fun a x e => by
  by_cases c : a = l
  · subst c
    rw [upd_same] at e
    cases e
    exact hl
  · rw [upd_ne c] at e
    exact h.ex a x e, h.st⟩
end
/-! ### expressions -/
def ES (Y : Ys) (te : TE) (σ : L2.St) (B : Hp) (F : V → Hp → Prop) : Prop := ∀ H1, HY Y B H1 → ∀ Q : VK, (∀ v N H2, FP B N H1 → HY Y N H2 → HY Y (rest Y H1) H2 → F v N → Q v H2) → te σ H1 Q
def ESA (Y : Ys) (ta : TA) (σ : L2.St) (B : Hp) (F : List V → Hp → Prop) : Prop := ∀ H1, HY Y B H1 → ∀ Q : List V → Hp → Prop, (∀ v N H2, FP B N H1 → HY Y N H2 → HY Y (rest Y H1) H2 → F v N → Q v H2) → ta σ H1 Q
def EST (Y : Ys) (tt : TT) (σ : L2.St) (B : Hp) (F : Bool → Hp → Prop) : Prop := ∀ H1, HY Y B H1 → ∀ Q : Bool → Hp → Prop, (∀ v N H2, FP B N H1 → HY Y N H2 → HY Y (rest Y H1) H2 → F v N → Q v H2) → tt σ H1 Q
section
variable {K : PySem.W.Frag} {Y : Ys} {σ : L2.St} {B B' : Hp} {ta tb te : TE} {t u : TT} {x y z v : V} {o : HO} {F G : V → Hp → Prop} {as : TA} {r : R2}
theorem ES.imp (h : ES Y te σ B F) (i : ∀ v N, Ex B N → F v N → G v N) : ES Y te σ B G := fun H1 e Q q => h H1 e Q fun v N H2 f a b c => q v N H2 f a b (i v N f.ex c)
theorem es_ev (h : Ev te σ B v) (hF : F v B) : ES Y te σ B F := fun H1 e Q q => h H1 e.sub Q fun H2 e2 => q v B H2 FP.refl (e.pure e2) (e.keep e2) hF
theorem es_evR (h : Ev te σ (fr B Y.ro) v) (hF : F v B) : ES Y te σ B F := fun H1 e Q q => h H1 e.subR Q fun H2 e2 => q v B H2 FP.refl (e.pure e2) (e.keep e2) hF
theorem es_newR (h : EvN te σ (fr B Y.ro) o) (hF : ∀ p, B p = none → F (.ref p) (upd B p o)) : ES Y te σ B F := fun H1 e Q q => h H1 e.subR Q fun p H2 np e2 hp => by
  have hb := e.none np
  exact q (.ref p) (upd B p o) H2 (FP.new e np) ((e.pure e2).beside (rest_new e.st np hp)) (e.keep e2) (hF p hb)
theorem es_new (h : EvN te σ B o) (hF : ∀ p, B p = none → F (.ref p) (upd B p o)) : ES Y te σ B F := fun H1 e Q q => h H1 e.sub Q fun p H2 np e2 hp => by
  have hb := e.none np
  exact q (.ref p) (upd B p o) H2 (FP.new e np) ((e.pure e2).beside (rest_new e.st np hp)) (e.keep e2) (hF p hb)
theorem es_op {Fa : V → Hp → Prop} (ha : ES Y ta σ B Fa) (hb : ∀ x N, Ex B N → Fa x N → ES Y tb σ N fun y N2 => ∃ z, RV r x y N2 z ∧ F z N2) : ES Y (tOp r ta tb) σ B F := fun H1 e Q q =>
  ha H1 e _ fun x N H2 f1 a1 b1 c1 => hb x N f1.ex c1 H2 a1 _ fun y N2 H3 f2 a2 b2 ⟨z, hr, hF⟩ => hr H3 a2.sub Q fun H4 e4 =>
    q z N2 H4 (f1.trans e.st b1 f2) (a2.pure e4) ((HY.trans b1 b2).pure e4) hF
theorem esa_nil {F : List V → Hp → Prop} (h : F [] B) : ESA Y tNil σ B F := fun H1 e Q q => q [] B H1 FP.refl e e.self h
theorem esa_cons {F : List V → Hp → Prop} {Fa : V → Hp → Prop} (ha : ES Y ta σ B Fa) (hb : ∀ x N, Ex B N → Fa x N → ESA Y as σ N fun vs N2 => F (x :: vs) N2) : ESA Y (tCons ta as) σ B F := fun H1 e Q q =>
  ha H1 e _ fun x N H2 f1 a1 b1 c1 => hb x N f1.ex c1 H2 a1 _ fun vs N2 H3 f2 a2 b2 hF => q _ N2 H3 (f1.trans e.st b1 f2) a2 (HY.trans b1 b2) hF
theorem esa_ev {F : List V → Hp → Prop} {vs : List V} (h : EvA as σ B vs) (hF : F vs B) : ESA Y as σ B F := fun H1 e Q q => h H1 e.sub Q fun H2 e2 => q vs B H2 FP.refl (e.pure e2) (e.keep e2) hF
theorem es_alloc {H1 H2 N : Hp} {Q : VK} (e : HY Y B H1) (f : FP B N H1) (a : HY Y N H2) (b : HY Y (rest Y H1) H2) (hF : ∀ p, N p = none → F (.ref p) (upd N p o))
    (q : ∀ v N H2, FP B N H1 → HY Y N H2 → HY Y (rest Y H1) H2 → F v N → Q v H2) : ∀ p, H2 p = none → Q (.ref p) (upd H2 p o) := fun p hp =>
  q (.ref p) (upd N p o) _ (f.trans e.st b (FP.new a hp)) (a.new hp) (b.pure (Ex.new hp)) (hF p (a.none hp))
theorem es_tup (h : ESA Y as σ B fun vs N => vs.length ≤ 100000 ∧ ∀ p, N p = none → F (.ref p) (upd N p (.tup vs))) : ES Y (tTup as) σ B F := fun H1 e Q q =>
  h H1 e _ fun vs N H2 f a b ⟨hz, hF⟩ => ⟨sz_of hz, es_alloc e f a b hF q⟩
theorem es_lst (h : ESA Y as σ B fun vs N => vs.length ≤ 100000 ∧ ∀ p, N p = none → F (.ref p) (upd N p (.lst vs))) : ES Y (tLst as) σ B F := fun H1 e Q q =>
  h H1 e _ fun vs N H2 f a b ⟨hz, hF⟩ => ⟨sz_of hz, es_alloc e f a b hF q⟩
theorem es_if {Ft : Bool → Hp → Prop} (h : EST Y t σ B Ft) (h1 : ∀ N, Ex B N → Ft true N → ES Y ta σ N F) (h2 : ∀ N, Ex B N → Ft false N → ES Y tb σ N F) : ES Y (tIf t ta tb) σ B F := fun H1 e Q q =>
  h H1 e _ fun b N H2 f a k c => by
    cases b with
    | true => exact h1 N f.ex c H2 a Q fun v N2 H3 f2 a2 b2 hF => q v N2 H3 (f.trans e.st k f2) a2 (HY.trans k b2) hF
    | false => exact h2 N f.ex c H2 a Q fun v N2 H3 f2 a2 b2 hF => q v N2 H3 (f.trans e.st k f2) a2 (HY.trans k b2) hF
theorem es_cb {rr : List V → Hp → VK → Prop} (h : ESA Y as σ B fun vs N => ∃ z, RC rr vs N z ∧ F z N) : ES Y (tCB rr as) σ B F := fun H1 e Q q =>
  h H1 e _ fun vs N H2 f a b ⟨z, hr, hF⟩ => hr H2 a.sub Q fun H3 e3 => q z N H3 f (a.pure e3) (b.pure e3) hF
/-! tests -/
theorem est_ofR {b : Bool} {Ft : Bool → Hp → Prop} (h : EvT t σ (fr B Y.ro) b) (hF : Ft b B) : EST Y t σ B Ft := fun H1 e Q q => h H1 e.subR Q fun H2 e2 => q b B H2 FP.refl (e.pure e2) (e.keep e2) hF
theorem est_of {b : Bool} {Ft : Bool → Hp → Prop} (h : EvT t σ B b) (hF : Ft b B) : EST Y t σ B Ft := fun H1 e Q q => h H1 e.sub Q fun H2 e2 => q b B H2 FP.refl (e.pure e2) (e.keep e2) hF
theorem est_test {Ft : Bool → Hp → Prop} (h : ES Y te σ B fun v N => ∃ b, v = .bl b ∧ Ft b N) : EST Y (tTest te) σ B Ft := fun H1 e Q q => h H1 e _ fun v N H2 f a k ⟨b, hb, hF⟩ => ⟨b, hb, q b N H2 f a k hF⟩
theorem est_B {Ft : Bool → Hp → Prop} (h : ES Y te σ B fun v N => ∃ b, v = .bl b ∧ Ft b N) : EST Y (tB te) σ B Ft := fun H1 e Q q => h H1 e _ fun v N H2 f a k ⟨b, hb, hF⟩ => ⟨b, hb, q b N H2 f a k hF⟩
theorem est_not {Ft : Bool → Hp → Prop} (h : EST Y t σ B fun b N => Ft (!b) N) : EST Y (tNot t) σ B Ft := fun H1 e Q q => h H1 e _ fun b N H2 f a k hF => q _ N H2 f a k hF
theorem est_and {F1 Ft : Bool → Hp → Prop} (h : EST Y t σ B F1) (h1 : ∀ N, Ex B N → F1 true N → EST Y u σ N Ft) (h2 : ∀ N, Ex B N → F1 false N → Ft false N) : EST Y (tAnd t u) σ B Ft := fun H1 e Q q =>
  h H1 e _ fun b N H2 f a k c => by
    cases b with
    | true => exact h1 N f.ex c H2 a Q fun v N2 H3 f2 a2 b2 hF => q v N2 H3 (f.trans e.st k f2) a2 (HY.trans k b2) hF
    | false => exact q false N H2 f a k (h2 N f.ex c)
theorem est_or {F1 Ft : Bool → Hp → Prop} (h : EST Y t σ B F1) (h1 : ∀ N, Ex B N → F1 false N → EST Y u σ N Ft) (h2 : ∀ N, Ex B N → F1 true N → Ft true N) : EST Y (tOr t u) σ B Ft := fun H1 e Q q =>
  h H1 e _ fun b N H2 f a k c => by
    cases b with
    | false => exact h1 N f.ex c H2 a Q fun v N2 H3 f2 a2 b2 hF => q v N2 H3 (f.trans e.st k f2) a2 (HY.trans k b2) hF
    | true => exact q true N H2 f a k (h2 N f.ex c)
end
/-! ### statements -/
/-- where a def began -/
structure Org where
  B0 : Hp
  H0 : Hp
structure At (Y : Ys) (O : Org) (B H : Hp) : Prop where
  hy : HY Y B H
  s0 : Stt Y O.H0
  fp : FP O.B0 B O.H0
  kp : HY Y (rest Y O.H0) H
def RS (Y : Ys) (O : Org) (t : TS) (D : Ends) (σ : L2.St) (B : Hp) : Prop := ∀ H, At Y O B H → t D σ H
section
variable {Y : Ys} {O : Org} {B B' N H H1 H2 : Hp} {l p : Addr} {o u : HO}
theorem At.step (e : At Y O B H1) (f : FP B N H1) (a : HY Y N H2) (b : HY Y (rest Y H1) H2) : At Y O N H2 := ⟨a, e.s0, e.fp.trans e.s0 e.kp f, HY.trans e.kp b⟩
theorem At.pure (e : At Y O B H1) (x : Ex H1 H2) : At Y O B H2 := ⟨e.hy.pure x, e.s0, e.fp, e.kp.pure x⟩
/-- an object of one's own changes -/
theorem At.put (e : At Y O B H) (h0 : O.B0 l = none) (hl : B l = some u) : At Y O (upd B l o) (upd H l o) := by
  have hn : O.H0 l = none := e.fp.nw l (by rw [hl]; simp) h0
  refine ⟨e.hy.put (e.s0.off hn) hl, e.s0, ⟨Ex.mut e.fp.ex h0, fun a h1 h2 => ?_⟩, ?_⟩
  · by_cases c : a = l
    · subst c
      exact hn
    · rw [upd_ne c] at h1
      exact e.fp.nw a h1 h2
  · obtain ⟨r1, r2⟩ := rest_upd (o := o) e.hy.st (e.s0.off hn) (.inl (by rw [e.hy.ex l _ hl]; simp) : rest Y H l ≠ none ∨ H l = none)
    refine ⟨fun a x hx => ?_, r2⟩
    rw [r1]
    have c : a ≠ l := fun c => by
      subst c
      have := rest_sub a x hx
      rw [hn] at this
      cases this
    rw [upd_ne c]
    exact e.kp.ex a x hx
end
section
variable {K : PySem.W.Frag} {Y : Ys} {O : Org} {σ : L2.St} {B B' : Hp} {ta tb td ty tv te tl : TE} {t : TT} {as : TA} {x y z v : V} {D : Ends} {tu tw tz : TS} {o : HO} {F : V → Hp → Prop}
theorem s_asg {i : Nat} (h : ES Y te σ B F) (k : ∀ v N, Ex B N → F v N → RS Y O tz D (σ.set i (some v)) N) : RS Y O (tSeq (tAsg te (gName i)) tz) D σ B := fun H e => h H e.hy _ fun v N H2 f a b c => k v N f.ex c H2 (e.step f a b)
theorem s_set {i : Nat} (h : Ev te σ B v) (k : RS Y O tz D (σ.set i (some v)) B) : RS Y O (tSeq (tAsg te (gName i)) tz) D σ B := fun H e => h H e.hy.sub _ fun H2 e2 => k H2 (e.pure e2)
theorem s_new {i : Nat} (h : EvN te σ B o) (k : ∀ p, B p = none → RS Y O tz D (σ.set i (some (.ref p))) (upd B p o)) : RS Y O (tSeq (tAsg te (gName i)) tz) D σ B :=
  s_asg (F := fun v N => ∃ p, B p = none ∧ v = .ref p ∧ N = upd B p o) (es_new h fun p np => ⟨p, np, rfl, rfl⟩) fun v N e ⟨p, np, hv, hN⟩ => by
    subst hv hN
    exact k p np
theorem s_if {Ft : Bool → Hp → Prop} (h : EST Y t σ B Ft) (h1 : ∀ N, Ex B N → Ft true N → RS Y O tu { D with nx := tz D } σ N) (h2 : ∀ N, Ex B N → Ft false N → RS Y O tw { D with nx := tz D } σ N) : RS Y O (tSeq (tIfS t tu tw) tz) D σ B := fun H e =>
  h H e.hy _ fun b N H2 f a k c => by
    cases b with
    | true => exact h1 N f.ex c H2 (e.step f a k)
    | false => exact h2 N f.ex c H2 (e.step f a k)
theorem s_when {Ft : Bool → Hp → Prop} (h : EST Y t σ B Ft) (h1 : ∀ N, Ex B N → Ft true N → RS Y O tu { D with nx := tz D } σ N) (h2 : ∀ N, Ex B N → Ft false N → RS Y O tz D σ N) : RS Y O (tSeq (tIfS t tu tNext) tz) D σ B := s_if h h1 h2
theorem s_whenK {Ft : Bool → Hp → Prop} (Mid : L2.St → Hp → Prop) (h : EST Y t σ B Ft) (k : ∀ σ' B', Mid σ' B' → RS Y O tz D σ' B') (h1 : (∀ σ' B', Mid σ' B' → RS Y O tz D σ' B') → ∀ N, Ex B N → Ft true N → RS Y O tu { D with nx := tz D } σ N) (h2 : ∀ N, Ex B N → Ft false N → Mid σ N) : RS Y O (tSeq (tIfS t tu tNext) tz) D σ B :=
  s_if h (h1 k) fun N e c => k _ _ (h2 N e c)
theorem s_whenR {b : Bool} (h : EvT t σ (fr B Y.ro) b) (h1 : b = true → RS Y O tu { D with nx := tz D } σ B) (h2 : b = false → RS Y O tz D σ B) : RS Y O (tSeq (tIfS t tu tNext) tz) D σ B :=
  s_if (Ft := fun c N => c = b ∧ N = B) (est_ofR h ⟨rfl, rfl⟩) (fun N _ ⟨c, d⟩ => by subst d; exact h1 c.symm) fun N _ ⟨c, d⟩ => by subst d; exact h2 c.symm
/-- a test that leaves all as it is -/
theorem s_whenP {b : Bool} (h : EvT t σ B b) (h1 : b = true → RS Y O tu { D with nx := tz D } σ B) (h2 : b = false → RS Y O tz D σ B) : RS Y O (tSeq (tIfS t tu tNext) tz) D σ B :=
  s_if (Ft := fun c N => c = b ∧ N = B) (est_of h ⟨rfl, rfl⟩) (fun N _ ⟨c, d⟩ => by subst d; exact h1 c.symm) fun N _ ⟨c, d⟩ => by subst d; exact h2 c.symm
theorem s_whenPK {b : Bool} (Mid : L2.St → Hp → Prop) (h : EvT t σ B b) (k : ∀ σ' B', Mid σ' B' → RS Y O tz D σ' B') (h1 : (∀ σ' B', Mid σ' B' → RS Y O tz D σ' B') → b = true → RS Y O tu { D with nx := tz D } σ B) (h2 : b = false → Mid σ B) : RS Y O (tSeq (tIfS t tu tNext) tz) D σ B :=
  s_whenP h (h1 k) fun e => k _ _ (h2 e)
theorem s_on {D : Ends} (k : RS Y O tz D σ B) : RS Y O tNext { D with nx := tz D } σ B := k
theorem s_brk (k : ∀ H, At Y O B H → D.bk σ H) : RS Y O (tSeq tBreak tz) D σ B := k
theorem s_ret (h : ES Y te σ B F) (k : ∀ v N, Ex B N → F v N → ∀ H2, At Y O N H2 → D.rt v H2) : RS Y O (tSeq (tRet te) tz) D σ B := fun H e => h H e.hy _ fun v N H2 f a b c => k v N f.ex c H2 (e.step f a b)
theorem s_app {l : Addr} {xs : List V} {B1 : Hp} (h0 : O.B0 l = none) (hn : B1 l = none) (ha : Ev ta σ (upd B1 l (.lst xs)) (.ref l)) (h : ES Y te σ B1 F) (hz : xs.length < 100000) (k : ∀ v N, Ex B1 N → N l = none → F v N → RS Y O tz D σ (upd N l (.lst (xs ++ [v])))) (hB : B = upd B1 l (.lst xs)) :
    RS Y O (tSeq (tDrop (tBM K "list" rAppend ta (tCons te tNil))) tz) D σ B := fun H e => by
  subst hB
  have e1 : Ex B1 (upd B1 l (.lst xs)) := Ex.new hn
  refine ha H e.hy.sub _ fun H2 e2 => ?_
  have a2 := e.pure e2
  have hl2 : H2 l = some (.lst xs) := a2.hy.sub l _ upd_same
  refine ⟨Or.inl ⟨rfl, xs, sq_of hl2⟩, h H2 (a2.hy.mono e1) _ fun v N H3 f a b c => ?_⟩
  have hN : N l = none := f.off hn (by rw [hl2]; simp)
  have hl3 : rest Y H3 l = some (.lst xs) := b.ex l _ (a2.hy.ex l _ upd_same)
  have f2 : FP (upd B1 l (.lst xs)) (upd N l (.lst xs)) H2 := ⟨ex_mut f.ex, fun q h1 h2 => by
    by_cases c : q = l
    · subst c
      rw [upd_same] at h2
      cases h2
    · rw [upd_ne c] at h1 h2
      exact f.nw q h1 h2⟩
  have a3 := a2.step f2 (a.beside hl3) b
  refine ⟨l, xs, v, rfl, rfl, rest_sub l _ hl3, sz_lt hz, ?_⟩
  have a4 := a3.put (o := .lst (xs ++ [v])) h0 upd_same
  have eu : upd (upd N l (.lst xs)) l (.lst (xs ++ [v])) = upd N l (.lst (xs ++ [v])) := by
    funext b
    by_cases c : b = l
    · subst c
      rw [upd_same, upd_same]
    · rw [upd_ne c, upd_ne c, upd_ne c]
  rw [eu] at a4
  exact k v N f.ex hN c _ a4
/-- d[k] = v, d of one's own -/
theorem s_dput {a : Addr} {kvs : List (Key × V)} {G : V → Key → Hp → Prop} {B1 : Hp} (h0 : O.B0 a = none) (hn : B1 a = none) (hv : ES Y tv σ B1 F) (hd : Ev td σ (upd B1 a (.dK kvs)) (.ref a)) (hk : ∀ v N, Ex B1 N → F v N → ES Y ty σ N fun y N2 => ∃ k, y = kV k ∧ G v k N2) (hz : kvs.length < 100000)
    (q : ∀ v k N, Ex B1 N → N a = none → G v k N → RS Y O tz D σ (upd N a (.dK (putK kvs k v)))) (hB : B = upd B1 a (.dK kvs)) : RS Y O (tSeq (sDPut td ty tv) tz) D σ B := fun H e => by
  subst hB
  have e1 : Ex B1 (upd B1 a (.dK kvs)) := Ex.new hn
  have ha0 : rest Y H a = some (.dK kvs) := e.hy.ex a _ upd_same
  have ups : ∀ {N H : Hp}, Ex B1 N → FP B1 N H → FP (upd B1 a (.dK kvs)) (upd N a (.dK kvs)) H := fun ex f => ⟨ex_mut ex, fun q h1 h2 => by
    by_cases c : q = a
    · subst c
      rw [upd_same] at h2
      cases h2
    · rw [upd_ne c] at h1 h2
      exact f.nw q h1 h2⟩
  refine hv H (e.hy.mono e1) _ fun v N H2 f a2 b c => ?_
  have hN : N a = none := f.off hn (by rw [rest_sub a _ ha0]; simp)
  have ha2 : rest Y H2 a = some (.dK kvs) := b.ex a _ ha0
  have A2 := e.step (ups f.ex f) (a2.beside ha2) b
  refine hd H2 (A2.hy.sub.trans (Ex.refl _) |> fun z => (ex_mut f.ex).trans z) _ fun H3 e3 => ?_
  have A3 := A2.pure e3
  refine hk v N f.ex c H3 (A3.hy.mono (Ex.new hN)) _ fun y N2 H4 f4 a4 b4 ⟨k, hy, hG⟩ => ?_
  have ha3 : rest Y H3 a = some (.dK kvs) := A3.hy.ex a _ upd_same
  have hN2 : N2 a = none := f4.off hN (by rw [rest_sub a _ ha3]; simp)
  have ha4 : rest Y H4 a = some (.dK kvs) := b4.ex a _ ha3
  have f5 : FP (upd N a (.dK kvs)) (upd N2 a (.dK kvs)) H3 := ⟨ex_mut f4.ex, fun q h1 h2 => by
    by_cases c : q = a
    · subst c
      rw [upd_same] at h2
      cases h2
    · rw [upd_ne c] at h1 h2
      exact f4.nw q h1 h2⟩
  have A4 := A3.step f5 (a4.beside ha4) b4
  subst hy
  refine ⟨a, _, rfl, DPut.k (rest_sub a _ ha4) (sz_lt hz), ?_⟩
  have A5 := A4.put (o := .dK (putK kvs k v)) h0 upd_same
  have eu : upd (upd N2 a (.dK kvs)) a (.dK (putK kvs k v)) = upd N2 a (.dK (putK kvs k v)) := by
    funext b
    by_cases c : b = a
    · subst c
      rw [upd_same, upd_same]
    · rw [upd_ne c, upd_ne c, upd_ne c]
  rw [eu] at A5
  exact q v k N2 (f.ex.trans f4.ex) hN2 hG _ A5
/-! loops -/
def UpS (Y : Ys) (O : Org) (Pv : Nat → L2.St → Hp → Prop) (i : Nat) (σ : L2.St) (H : Hp) : Prop := ∃ B, At Y O B H ∧ Pv i σ B
theorem s_up {Pv : Nat → L2.St → Hp → Prop} {i : Nat} {rt : VK} {bk ct : L2.St → Hp → Prop} (h : Pv i σ B) : RS Y O tNext { nx := UpS Y O Pv i, rt := rt, bk := bk, ct := ct } σ B := fun H e => ⟨B, e, h⟩
abbrev LpS (Y : Ys) (O : Org) (Pv : Nat → L2.St → Hp → Prop) (i : Nat) (D : Ends) (tz : TS) : Ends := { nx := UpS Y O Pv (i + 1), rt := D.rt, bk := tz D, ct := UpS Y O Pv (i + 1) }
theorem s_forR1 {j : Nat} {Fn : Int → Hp → Prop} (h : ESA Y as σ B fun vs N => ∃ n : Int, vs = [.int n] ∧ 0 ≤ n ∧ n ≤ 100000 ∧ Fn n N) (Pv : Int → Nat → L2.St → Hp → Prop) (h0 : ∀ n N, Ex B N → 0 ≤ n → Fn n N → Pv n 0 σ N)
    (hs : ∀ n (i : Nat) σ' B', (i : Int) < n → Pv n i σ' B' → RS Y O tu (LpS Y O (Pv n) i D tz) (σ'.set j (some (.int (i : Int)))) B') (hd : ∀ n σ' B', 0 ≤ n → Pv n n.toNat σ' B' → RS Y O tz D σ' B') : RS Y O (tSeq (tFor (iRng1 as) (gName j) tu) tz) D σ B := fun H e =>
  h H e.hy _ fun vs N H2 f a b ⟨n, hv, n0, n1, hF⟩ => by
    subst hv
    exact q_forR1 (D := D) (σ := σ) (H := H2) (n := n) (ta := tCons (tC (.int n)) tNil) (j := j) (tu := tu) (tz := tz) (ea_cons ev_c ea_nil) ⟨n0, n1⟩ (UpS Y O (Pv n)) (fun H3 e3 => ⟨N, (e.step f a b).pure e3, h0 n N f.ex n0 hF⟩) (fun i σ' H' hi ⟨B', e', p⟩ => hs n i σ' B' hi p H' e') fun σ' H' ⟨B', e', p⟩ => hd n σ' B' n0 p H' e'
theorem s_forL {a : Addr} {xs : List V} {j : Nat} (h : Ev tl σ B (.ref a)) (hx : SqL K B a xs) (Pv : Nat → L2.St → Hp → Prop) (h0 : Pv 0 σ B) (hl : ∀ i σ' B', i ≤ xs.length → Pv i σ' B' → SqL K B' a xs)
    (hs : ∀ i x σ' B', xs[i]? = some x → Pv i σ' B' → RS Y O tu (LpS Y O Pv i D tz) (σ'.set j (some x)) B') (hd : ∀ σ' B', Pv xs.length σ' B' → RS Y O tz D σ' B') : RS Y O (tSeq (tFor (iList K tl) (gName j) tu) tz) D σ B := fun H e =>
  q_forLn (h.mono e.hy.sub) (ex_l e.hy.sub hx) (UpS Y O Pv) (fun H1 e1 => ⟨B, e.pure e1, h0⟩) (fun i σ' H' hi ⟨B', e', p⟩ => ex_l e'.hy.sub (hl i σ' B' hi p)) (fun i x σ' H' hx' ⟨B', e', p⟩ => hs i x σ' B' hx' p H' e') fun σ' H' ⟨B', e', p⟩ => hd σ' B' p H' e'
end
/-! ### what a def promises of what it gives; its call -/
def Gives (Y : Ys) (B H : Hp) (F : V → Hp → Prop) (Q : VK) : Prop := ∀ v N H2, FP B N H → HY Y N H2 → HY Y (rest Y H) H2 → F v N → Q v H2
def PY (pre : Ys → List V → Hp → (V → Hp → Prop) → Prop) : Sp := fun vs H Q _ => ∃ Y B F, HY Y B H ∧ pre Y vs B F ∧ Gives Y B H F Q
section
variable {Y : Ys} {O : Org} {σ : L2.St} {B : Hp} {as : TA} {E : XK} {F : V → Hp → Prop} {pre : Ys → List V → Hp → (V → Hp → Prop) → Prop} {vs : List V}
theorem es_py (h : ESA Y as σ B fun vs N => ∃ G, pre Y (vs ++ []) N G ∧ ∀ v N2, Ex N N2 → G v N2 → F v N2) : ES Y (tCall (PY pre) [] E as) σ B F := fun H1 e Q q =>
  h H1 e _ fun vs N H2 f a b ⟨G, hp, hG⟩ => ⟨Y, N, G, a, hp, fun v N2 H3 f2 a2 b2 hF => q v N2 H3 (f.trans e.st b f2) a2 (HY.trans b b2) (hG v N2 f2.ex hF)⟩
/-- .. the arguments leaving all as it is -/
theorem es_pyA (h : EvA as σ B vs) (hp : pre Y (vs ++ []) B F) : ES Y (tCall (PY pre) [] E as) σ B F := es_py (esa_ev h ⟨F, hp, fun _ _ _ z => z⟩)
end
section
variable {P : Program} {w : World} {K : PySem.W.Frag} {mg : Str → Option Value} {base : Heap}
theorem calY {x : Str} {st : Stmt} {N ps : List Str} {k : Nat} {pre : Ys → List V → Hp → (V → Hp → Prop) → Prop} (D : Def K mg x st ps) (S : FnScope N ps (defScope st)) (len : ∀ Y vs B F, pre Y vs B F → vs.length = ps.length)
    (hbody : ∀ (f : Addr) (cdv : Value) (A : Around) (outer : List Env) (s : Shared) (H : Hp) (Y : Ys) (vs : List V) (B : Hp) (F : V → Hp → Prop) (Q : VK) (E : XK), Room k (A.deeper (envOfC x (defScope st) s.heap.objs.size f cdv)) → pre Y vs B F → ∀ O : Org, O.B0 = B →
      (∀ v N H2, At Y O N H2 → F v N → Q v H2) → ∃ t, PSs (cxOf CX0 P w K mg base N x (defScope st) f cdv A outer s H E).nox (defBody st) t ∧ RS Y O t { nx := fun _ H' => Q .non H', rt := Q } (start N vs) B) : Cal CX0 P w K mg base (k + 1) x (PY pre) :=
  cal0 D S (fun vs H Q E ⟨Y, B, F, _, h, _⟩ => len Y vs B F h) fun f cdv A outer s H vs Q E hr ⟨Y, B, F, hy, hp, g⟩ => by
    obtain ⟨t, h1, h2⟩ := hbody f cdv A outer s H Y vs B F Q E hr hp ⟨B, H⟩ rfl fun v N H2 a hF => g v N H2 a.fp a.hy a.kp hF
    exact ⟨t, h1, h2 H ⟨hy, hy.st, FP.refl, hy.self⟩⟩
end
end FK

set_option Elab.async false
set_option linter.all false
set_option maxRecDepth 100000
/-! lists of things made with the state; data (own text) -/
namespace FK
open PySem PySem.Spec PyProof.Rows L2 Evl FkE
section
variable {Y : Ys} {B N H H1 H2 : Hp} {l : Addr} {o u : HO}
theorem keep_put (s : Stt Y H2) (k : HY Y (rest Y H2) H) (hn : H2 l = none) (hl : rest Y H l = some u) : HY Y (rest Y H2) (upd H l o) := by
  obtain ⟨r1, r2⟩ := rest_upd (o := o) k.st (s.off hn) (.inl (by rw [hl]; simp) : rest Y H l ≠ none ∨ H l = none)
  refine ⟨fun a x hx => ?_, r2⟩
  have c : a ≠ l := fun c => by
    subst c
    have := rest_sub a x hx
    rw [hn] at this
    cases this
  rw [r1, upd_ne c]
  exact k.ex a x hx
theorem updw {H : Hp} {l : Addr} {o u : HO} : upd (upd H l u) l o = upd H l o := by
  funext b
  by_cases c : b = l
  · subst c
    rw [upd_same, upd_same]
  · rw [upd_ne c, upd_ne c, upd_ne c]
end
/-- what a for (of a comprehension) goes over -/
def EIS (Y : Ys) (wi : TI) (σ : L2.St) (B : Hp) (G : List V → Hp → Prop) : Prop := ∀ H1, HY Y B H1 → ∀ R : It → Hp → Prop,
  (∀ (J : It) (N H2 : Hp) (Gd : Hp → Prop) (xs : List V), FP B N H1 → HY Y N H2 → HY Y (rest Y H1) H2 → G xs N → Walk J xs.length Gd (YAt xs) → (∀ H3, Ex N H3 → Gd H3) → R J H2) → wi σ H1 R
section
variable {K : PySem.W.Frag} {Y : Ys} {σ : L2.St} {B : Hp} {tl te : TE} {as : TA} {wi : TI} {F : V → Hp → Prop} {G : List V → Hp → Prop}
theorem eis_list {a : Addr} {xs : List V} (h : Ev tl σ B (.ref a)) (hx : SqL K B a xs) (hG : G xs B) : EIS Y (iList K tl) σ B G := fun H1 e R k => h H1 e.sub _ fun H2 e2 =>
  ⟨a, rfl, ⟨xs, ex_l (e.sub.trans e2) hx⟩, k _ B H2 _ xs FP.refl (e.pure e2) (e.keep e2) hG walk_list fun H3 e3 => ex_l e3 hx⟩
theorem eis_range1 {Fn : Int → Hp → Prop} (h : ESA Y as σ B fun vs N => ∃ n : Int, vs = [.int n] ∧ 0 ≤ n ∧ n ≤ 100000 ∧ G ((List.range n.toNat).map fun i : Nat => V.int (i : Int)) N) : EIS Y (iRng1 as) σ B G := fun H1 e R k =>
  h H1 e _ fun vs N H2 f a b ⟨n, hv, n0, n1, hG⟩ => by
    subst hv
    refine ⟨n, rfl, by omega, by omega, k _ N H2 (fun _ => True) _ f a b hG ?_ fun _ _ => trivial⟩
    rw [List.length_map, List.length_range]
    refine walk_range.mono (fun _ h => h) fun i H x H' hi _ y => ⟨y.1, ?_⟩
    rw [List.getElem?_map, List.getElem?_range hi, y.2]
    show some (V.int (i : Int)) = some (V.int ((0 : Int) + (i : Int)))
    rw [Int.zero_add]
/-- a comprehension whose items are made with the state -/
theorem es_lc {j : Nat} {vs : List Nat} (Fe : List V → Nat → V → Hp → Prop) (h : EIS Y wi σ B G) (hz : ∀ xs N, G xs N → xs.length ≤ 100000) (hw : ∀ x, wipe ((wipe σ vs).set j (some x)) vs = wipe σ vs)
    (he : ∀ xs N, Ex B N → G xs N → ∀ i x, xs[i]? = some x → ∀ N2, Ex N N2 → ES Y te ((wipe σ vs).set j (some x)) N2 (Fe xs i)) (hm : ∀ xs i v N N', Ex N N' → Fe xs i v N → Fe xs i v N')
    (hF : ∀ xs N0 ys N p, Ex B N0 → G xs N0 → Ex N0 N → ys.length = xs.length → (∀ (i : Nat) y, ys[i]? = some y → Fe xs i y N) → N p = none → F (.ref p) (upd N p (.lst ys))) : ES Y (tLc wi (gName j) tYes te vs) σ B F := fun H1 e Q q =>
  h H1 e _ fun J N0 H2 Gd xs f a b hG w hGd => fun Dl hD => by
    have hN0 : N0 Dl = none := a.none hD
    refine lc_it w (fun i H => ∃ N ys, FP N0 N H2 ∧ N Dl = none ∧ HY Y (upd N Dl (.lst ys)) H ∧ HY Y (rest Y H2) H ∧ ys.length = i ∧ ∀ (m : Nat) y, ys[m]? = some y → Fe xs m y N)
      ⟨N0, [], FP.refl, hN0, a.new hD, a.keep (Ex.new hD), rfl, fun m y z => by simp at z⟩ (fun i H _ ⟨N, ys, g, hN, c, _, _, _⟩ => hGd H ((g.ex.trans (Ex.new hN)).trans c.sub)) (fun i x H H' hi ⟨N, ys, g, hN, c, d, hl, hy⟩ y => ?_) fun H ⟨N, ys, g, hN, c, d, hl, hy⟩ => ?_
    · obtain ⟨y1, y2⟩ := y
      subst y1
      have hDl : rest Y H' Dl = some (.lst ys) := c.ex Dl _ upd_same
      refine ⟨hw x, ?_⟩
      show te _ H' _
      refine he xs N0 f.ex hG i x y2 N g.ex H' (c.mono (Ex.new hN)) _ fun v N' H4 g2 a2 b2 hv => ?_
      have hD4 : rest Y H4 Dl = some (.lst ys) := b2.ex Dl _ hDl
      have hN' : N' Dl = none := g2.off hN (by rw [rest_sub Dl _ hDl]; simp)
      refine ⟨ys, rest_sub Dl _ hD4, ?_, N', ys ++ [v], g.trans a.st d g2, hN', ?_, keep_put a.st (HY.trans d b2) hD hD4, by rw [List.length_append, hl]; rfl, fun m y z => ?_⟩
      · rw [hl]
        exact Nat.lt_of_lt_of_le hi (Nat.le_trans (hz xs N0 hG) (by decide))
      · have p := (a2.beside hD4).put (o := .lst (ys ++ [v])) (a.st.off hD) upd_same
        rwa [updw] at p
      · by_cases hml : m < ys.length
        · rw [List.getElem?_append_left hml] at z
          exact hm xs m y N N' g2.ex (hy m y z)
        · rw [List.getElem?_append_right (by omega)] at z
          have e0 : m - ys.length = 0 := by
            cases k : m - ys.length with
            | zero => rfl
            | succ q => rw [k] at z; simp at z
          rw [e0] at z
          have hmi : m = i := by omega
          subst hmi
          simp at z
          subst z
          exact hv
    · refine q (.ref Dl) (upd N Dl (.lst ys)) H (f.trans e.st b ⟨Ex.mut g.ex hN0, fun p h1 h2 => ?_⟩) c (HY.trans b d) (hF xs N0 ys N Dl f.ex hG g.ex hl hy hN)
      by_cases cc : p = Dl
      · subst cc
        exact hD
      · rw [upd_ne cc] at h1
        exact g.nw p h1 h2
end
/-! ### data with dicts -/
mutual
inductive Dq (K : PySem.W.Frag) (H : Hp) : V → PyData → Prop where
  | non : Dq K H .non .none
  | bl (b : Bool) : Dq K H (.bl b) (.bool b)
  | int (i : Int) : Dq K H (.int i) (.int i)
  | str (x : Str) : Dq K H (.str x) (.str x)
  | lst {a : Addr} {xs : List V} {ds : List PyData} : H a = some (.lst xs) → DqA K H xs ds → Dq K H (.ref a) (.list ds)
  | tup {a : Addr} {xs : List V} {ds : List PyData} : H a = some (.tup xs) → DqA K H xs ds → Dq K H (.ref a) (.tuple ds)
  | dct {a : Addr} {kvs : List (Key × V)} {ds : List (PyData × PyData)} : H a = some (.dK kvs) → DqK K H kvs ds → Dq K H (.ref a) (.dict ds)
inductive DqA (K : PySem.W.Frag) (H : Hp) : List V → List PyData → Prop where
  | nil : DqA K H [] []
  | cons {v : V} {vs : List V} {d : PyData} {ds : List PyData} : Dq K H v d → DqA K H vs ds → DqA K H (v :: vs) (d :: ds)
inductive DqK (K : PySem.W.Frag) (H : Hp) : List (Key × V) → List (PyData × PyData) → Prop where
  | nil : DqK K H [] []
  | cons {k : Str} {v : V} {vs : List (Key × V)} {d : PyData} {ds : List (PyData × PyData)} : Dq K H v d → DqK K H vs ds → DqK K H ((.inr k, v) :: vs) ((.str k, d) :: ds)
end
section
variable {K : PySem.W.Frag} {H H' : Hp}
mutual
theorem dq_ex (e : Ex H H') : ∀ (d : PyData) (v : V), Dq K H v d → Dq K H' v d
  | .none, _, h => by
    cases h
    exact .non
  | .bool b, _, h => by
    cases h
    exact .bl b
  | .int i, _, h => by
    cases h
    exact .int i
  | .str x, _, h => by
    cases h
    exact .str x
  | .list ds, _, h => by
    cases h with
    | lst a b => exact .lst (e _ _ a) (dqa_ex e ds _ b)
  | .tuple ds, _, h => by
    cases h with
    | tup a b => exact .tup (e _ _ a) (dqa_ex e ds _ b)
  | .dict ds, _, h => by
    cases h with
    | dct a b => exact .dct (e _ _ a) (dqk_ex e ds _ b)
theorem dqa_ex (e : Ex H H') : ∀ (ds : List PyData) (vs : List V), DqA K H vs ds → DqA K H' vs ds
  | [], _, h => by
    cases h
    exact .nil
  | d :: ds, _, h => by
    cases h with
    | cons a b => exact .cons (dq_ex e d _ a) (dqa_ex e ds _ b)
theorem dqk_ex (e : Ex H H') : ∀ (ds : List (PyData × PyData)) (vs : List (Key × V)), DqK K H vs ds → DqK K H' vs ds
  | [], _, h => by
    cases h
    exact .nil
  | (.str k, d) :: ds, _, h => by
    cases h with
    | cons a b => exact .cons (dq_ex e d _ a) (dqk_ex e ds _ b)
  | (.none, d) :: ds, _, h => nomatch h
  | (.bool _, d) :: ds, _, h => nomatch h
  | (.int _, d) :: ds, _, h => nomatch h
  | (.list _, d) :: ds, _, h => nomatch h
  | (.tuple _, d) :: ds, _, h => nomatch h
  | (.dict _, d) :: ds, _, h => nomatch h
end
theorem dqa_len : ∀ {vs : List V} {ds : List PyData}, DqA K H vs ds → vs.length = ds.length
  | _, _, .nil => rfl
  | _, _, .cons _ t => congrArg (· + 1) (dqa_len t)
theorem dqa_at : ∀ {vs : List V} {ds : List PyData} {i : Nat} {v : V}, DqA K H vs ds → vs[i]? = some v → ∃ d, ds[i]? = some d ∧ Dq K H v d
  | _, _, i, v, .nil, h => by simp at h
  | _, _, 0, v, .cons a t, h => ⟨_, rfl, by cases h; exact a⟩
  | _, _, i + 1, v, .cons a t, h => by
    obtain ⟨d, h1, h2⟩ := dqa_at (i := i) t (by simpa using h)
    exact ⟨d, by simpa using h1, h2⟩
theorem dqa_at' : ∀ {vs : List V} {ds : List PyData} {i : Nat} {d : PyData}, DqA K H vs ds → ds[i]? = some d → ∃ v, vs[i]? = some v ∧ Dq K H v d
  | _, _, i, v, .nil, h => by simp at h
  | _, _, 0, v, .cons a t, h => ⟨_, rfl, by cases h; exact a⟩
  | _, _, i + 1, v, .cons a t, h => by
    obtain ⟨d, h1, h2⟩ := dqa_at' (i := i) t (by simpa using h)
    exact ⟨d, by simpa using h1, h2⟩
theorem dqa_app : ∀ {xs : List V} {as : List PyData} {ys : List V} {bs : List PyData}, DqA K H xs as → DqA K H ys bs → DqA K H (xs ++ ys) (as ++ bs)
  | _, _, _, _, .nil, h => h
  | _, _, _, _, .cons a t, h => .cons a (dqa_app t h)
/-- items, made one by one -/
theorem dqa_of {ys : List V} {Pd : Nat → PyData → Prop} : ∀ {k : Nat}, (∀ (i : Nat) y, ys[i]? = some y → ∃ d, Dq K H y d ∧ Pd (k + i) d) → ∃ ds, DqA K H ys ds ∧ ds.length = ys.length ∧ ∀ (i : Nat) d, ds[i]? = some d → Pd (k + i) d := by
  induction ys with
  | nil => intro k _; exact ⟨[], .nil, rfl, fun i d h => by simp at h⟩
  | cons y r ih =>
    intro k h
    obtain ⟨d, h1, h2⟩ := h 0 y rfl
    obtain ⟨ds, g1, g2, g3⟩ := ih (k := k + 1) fun i y hy => by
      have := h (i + 1) y (by simpa using hy)
      rwa [show k + (i + 1) = k + 1 + i by omega] at this
    refine ⟨d :: ds, .cons h1 g1, by simp [g2], fun i e he => ?_⟩
    cases i with
    | zero =>
      simp at he
      subst he
      exact h2
    | succ i =>
      have := g3 i e (by simpa using he)
      rwa [show k + (i + 1) = k + 1 + i by omega]
end
/-! ### the state of the draws -/
def shD (ps pn : Addr) (o : HO) : Prop := ps ≠ pn ∧ ∃ n, o = stO pn n
def Sd (Y : Ys) (ps pn : Addr) : Prop := Y.st = some ps ∧ Y.sh = shD ps pn
def Sto (Y : Ys) (ps : Addr) (B : Hp) : Prop := ∃ (pn : Addr) (ns : List Int), Sd Y ps pn ∧ B pn = some (.lst (ns.map V.int)) ∧ 0 < ns.length ∧ ns.length ≤ 1000
theorem Sto.mono {Y : Ys} {ps : Addr} {B B' : Hp} (h : Sto Y ps B) (e : Ex B B') : Sto Y ps B' := let ⟨pn, ns, a, b, c⟩ := h; ⟨pn, ns, a, e _ _ b, c⟩
section
variable {Y : Ys} {O : Org} {B H H1 : Hp} {ps pn : Addr} {n m : Int}
theorem At.state (e : At Y O B H) (hy : Sd Y ps pn) : ps ≠ pn ∧ ∃ n, H ps = some (stO pn n) := by
  have := e.hy.st.p
  unfold Stp at this
  rw [hy.1] at this
  obtain ⟨o, h1, h2⟩ := this
  rw [hy.2] at h2
  obtain ⟨h3, n, rfl⟩ := h2
  exact ⟨h3, n, h1⟩
/-- the state, whatever its shape -/
theorem At.moved {o : HO} (e : At Y O B H) (hy : Y.st = some ps) (ho : Y.sh o) (x : Ex (upd H ps o) H1) : At Y O B H1 := by
  have hr : ∀ X, rest Y X = del X ps := fun X => by
    unfold rest
    rw [hy]
  have ex : Ex (rest Y H) (rest Y H1) := by
    rw [hr, hr]
    intro a u ha
    by_cases c : a = ps
    · subst c
      rw [del_same] at ha
      cases ha
    · rw [del_ne c] at ha ⊢
      exact x a u (by rw [upd_ne c]; exact ha)
  have st : Stt Y H1 := ⟨by
    unfold Stp
    rw [hy]
    exact ⟨o, x ps _ upd_same, ho⟩, e.hy.st.r.trans ex⟩
  exact ⟨⟨e.hy.ex.trans ex, st⟩, e.s0, e.fp, ⟨e.kp.ex.trans ex, st⟩⟩
theorem At.draw (e : At Y O B H) (hy : Sd Y ps pn) (x : Ex (upd H ps (stO pn m)) H1) : At Y O B H1 :=
  e.moved hy.1 (by rw [hy.2]; exact ⟨(e.state hy).1, m, rfl⟩) x
end
/-- a number below the bound -/
def preNext (Y : Ys) (vs : List V) (B : Hp) (F : V → Hp → Prop) : Prop := ∃ (ps : Addr) (b : Int), Sto Y ps B ∧ vs = [.ref ps, .int b] ∧ 0 < b ∧ F = fun v _ => ∃ r : Int, v = .int r ∧ 0 ≤ r ∧ r < b
def spNext : Sp := PY preNext
def nextF (b : Int) : V → Hp → Prop := fun v _ => ∃ r : Int, v = .int r ∧ 0 ≤ r ∧ r < b
theorem es_next {Y : Ys} {σ : L2.St} {B : Hp} {ps : Addr} {b : Int} {ta tb : TE} {E : XK} (hs : Sto Y ps B) (h1 : Ev ta σ B (.ref ps)) (h2 : Ev tb σ B (.int b)) (hb : 0 < b) : ES Y (tCall spNext [] E (tCons ta (tCons tb tNil))) σ B (nextF b) :=
  es_pyA (ea_cons h1 (ea_cons h2 ea_nil)) ⟨ps, b, hs, rfl, hb, rfl⟩
/-- a list of the state's numbers is made, then the state -/
theorem r_enter {O : Org → Prop} {tz : TS} {D : Ends} {σ : L2.St} {B : Hp} {ps pn : Addr} {n : Int} (hne : ps ≠ pn) (hs : B ps = some (stO pn n)) (k : ∀ O : Org, O.B0 = del B ps → RS { st := some ps, sh := shD ps pn } O tz D σ (del B ps)) : R tz D σ B := fun H e => by
  have ed : Ex (del B ps) (del H ps) := fun a u ha => by
    by_cases c : a = ps
    · subst c
      rw [del_same] at ha
      cases ha
    · rw [del_ne c] at ha ⊢
      exact e a u ha
  have st : Stt { st := some ps, sh := shD ps pn } H := ⟨⟨_, e ps _ hs, hne, n, rfl⟩, fun a u z => nomatch z⟩
  exact k ⟨del B ps, H⟩ rfl H ⟨⟨ed, st⟩, st, FP.refl, ⟨Ex.refl _, st⟩⟩
theorem valV_numbers {pn : Addr} {n : Int} : valV [((.inr "numbers" : Key), V.ref pn), (.inr "at", .int n)] (.inr "numbers") = some (.ref pn) := valV_pos rfl
theorem valV_at {pn : Addr} {n : Int} : valV [((.inr "numbers" : Key), V.ref pn), (.inr "at", .int n)] (.inr "at") = some (.int n) := (valV_neg (p := ((.inr "numbers" : Key), V.ref pn)) (by intro h; exact absurd (Sum.inr.inj h) (by decide +kernel))).trans (valV_pos rfl)
theorem putK_at {pn : Addr} {n m : Int} : putK [((.inr "numbers" : Key), V.ref pn), (.inr "at", .int n)] (.inr "at") (.int m) = [((.inr "numbers" : Key), V.ref pn), (.inr "at", .int m)] := by
  have h : ¬ ((.inr "numbers" : Key) = .inr "at") := by intro h; exact absurd (Sum.inr.inj h) (by decide +kernel)
  unfold putK
  simp [h]
theorem mergeK_st {pn : Addr} : mergeK [] [((.inr "numbers" : Key), V.ref pn), (.inr "at", .int 0)] = [((.inr "numbers" : Key), V.ref pn), (.inr "at", .int 0)] := by
  have h : ¬ ((.inr "numbers" : Key) = .inr "at") := by intro h; exact absurd (Sum.inr.inj h) (by decide +kernel)
  unfold mergeK putK
  simp [h]
theorem en_catVD {σ : L2.St} {B : Hp} {ta tb : TE} {a : Addr} {xs : List V} {Fd : HO → Prop} (ha : Ev ta σ B (.ref a)) (h1 : B a = some (.lst xs)) (hb : EvNd tb σ B Fd) (hF : ∀ o, Fd o → ∃ ys, o = .lst ys ∧ xs.length + ys.length ≤ 100000) :
    EvNd (tOp rCat ta tb) σ B (fun o => ∃ ys, Fd (.lst ys) ∧ o = .lst (xs ++ ys)) := fun H1 e Q q =>
  ha H1 e _ fun H2 e2 => hb H2 (e.trans e2) _ fun p H3 o np e3 hp hf => by
    obtain ⟨ys, rfl, hz⟩ := hF o hf
    exact ⟨a, p, xs, ys, rfl, rfl, ((e.trans e2).trans e3) a _ h1, hp, sz_of hz, fun r hr => q r _ _ (fresh_back (e2.trans e3) hr) ((e2.trans e3).trans (Ex.new hr)) upd_same ⟨ys, hf, rfl⟩⟩
/-- a new state -/
def spDraws : Sp := fun vs H Q _ => ∃ (p : Addr) (ns : List Int), vs = [.ref p] ∧ H p = some (.lst (ns.map V.int)) ∧ 0 < ns.length ∧ ns.length ≤ 20 ∧
  ∀ (ps pn : Addr) (ms : List Int) (H2 : Hp), ps ≠ pn → H ps = none → H pn = none → H2 ps = some (stO pn 0) → H2 pn = some (.lst (ms.map V.int)) → 0 < ms.length → ms.length ≤ 1000 → Ex H H2 → Q (.ref ps) H2
end FK

set_option Elab.async false
set_option linter.all false
set_option maxRecDepth 100000
/-! objects of one's own that change (G) beside what stands (N); words of data (own text) -/
namespace FK
open PySem PySem.Spec PyProof.Rows L2 Evl FkE
structure Dj (O : Org) (N G : Hp) : Prop where
  off : ∀ a, G a ≠ none → N a = none
  own : ∀ a, G a ≠ none → O.B0 a = none
  old : Ex O.B0 N
section
variable {Y : Ys} {O : Org} {N N2 G H H2 : Hp} {l p : Addr} {o u : HO}
theorem fr_in (h : G l = some o) : fr N G l = some o := by
  unfold fr
  rw [h]
theorem fr_out (h : G l = none) : fr N G l = N l := by
  unfold fr
  rw [h]
theorem fr_upd : upd (fr N G) l o = fr N (upd G l o) := by
  funext a
  by_cases c : a = l
  · subst c
    rw [upd_same, fr_in upd_same]
  · rw [upd_ne c]
    unfold fr
    rw [upd_ne c]
def none0 : Hp := fun _ => none
theorem fr_none : fr N none0 = N := rfl
theorem Dj.none (h : Ex O.B0 N) : Dj O N none0 := ⟨fun a z => absurd rfl z, fun a z => absurd rfl z, h⟩
theorem Dj.ex (d : Dj O N G) : Ex N (fr N G) := fun a x e => by
  cases h : G a with
  | none => rw [fr_out h]; exact e
  | some o =>
    rw [d.off a (by rw [h]; simp)] at e
    cases e
theorem Dj.put (d : Dj O N G) (h : G l = some u) : Dj O N (upd G l o) := ⟨fun a z => by
  by_cases c : a = l
  · subst c
    exact d.off a (by rw [h]; simp)
  · rw [upd_ne c] at z
    exact d.off a z, fun a z => by
  by_cases c : a = l
  · subst c
    exact d.own a (by rw [h]; simp)
  · rw [upd_ne c] at z
    exact d.own a z, d.old⟩
theorem Dj.new (d : Dj O N G) (h : fr N G p = Option.none) : Dj O N (upd G p o) := by
  have hn : N p = Option.none := fresh_back d.ex h
  refine ⟨fun a z => ?_, fun a z => ?_, d.old⟩
  · by_cases c : a = p
    · subst c
      exact hn
    · rw [upd_ne c] at z
      exact d.off a z
  · by_cases c : a = p
    · subst c
      exact fresh_back d.old hn
    · rw [upd_ne c] at z
      exact d.own a z
theorem Dj.yo (d : Dj O N G) (h : HY Y (fr N G) H) : HY (yo Y G) N H := yo_in (h.mono d.ex) fun a o e => h.ex a o (fr_in e)
theorem Dj.back {B' : Hp} (d : Dj O N G) (h : HY Y (fr N G) H) (k : HY (FK.yo Y G) (rest Y H) H2) (b : HY (FK.yo Y G) B' H2) : HY Y B' H2 := yo_out b (h.st.r.trans k.ex)
theorem At.frame (d : Dj O N G) (e : At Y O (fr N G) H) (f : FP N N2 H) (a : HY Y N2 H2) (b : HY Y (rest Y H) H2) : At Y O (fr N2 G) H2 ∧ Dj O N2 G := by
  have hG : ∀ l o, G l = some o → rest Y H2 l = some o := fun l o h => b.ex l o (e.hy.ex l o (fr_in h))
  have off : ∀ a, G a ≠ none → N2 a = none := fun a z => by
    cases h : G a with
    | none => exact absurd h z
    | some o => exact f.off (d.off a z) (by rw [rest_sub a o (e.hy.ex a o (fr_in h))]; simp)
  refine ⟨⟨⟨fun x u hu => ?_, a.st⟩, e.s0, ⟨fun x u hu => ?_, fun x h1 h2 => ?_⟩, HY.trans e.kp b⟩, off, d.own, d.old.trans f.ex⟩
  · cases h : G x with
    | none =>
      rw [fr_out h] at hu
      exact a.ex x u hu
    | some o =>
      rw [fr_in h] at hu
      cases hu
      exact hG x _ h
  · cases h : G x with
    | none =>
      rw [fr_out h]
      exact f.ex x u (d.old x u hu)
    | some o =>
      rw [d.own x (by rw [h]; simp)] at hu
      cases hu
  · cases h : G x with
    | some o => exact e.fp.nw x (by rw [fr_in h]; simp) h2
    | none =>
      rw [fr_out h] at h1
      cases hN : N x with
      | some u => exact e.fp.nw x (by rw [fr_out h, hN]; simp) h2
      | none => exact HY.back e.s0 e.kp (f.nw x h1 hN)
end
section
variable {K : PySem.W.Frag} {Y : Ys} {O : Org} {σ : L2.St} {N G B B' : Hp} {ta tb td ty tv te tl : TE} {t : TT} {as : TA} {x y z v : V} {D : Ends} {tu tw tz : TS} {o : HO} {F : V → Hp → Prop}
/-- less may be known -/
theorem RS.weak (h0 : Ex O.B0 B) (e : Ex B B') (h : RS Y O tz D σ B) : RS Y O tz D σ B' := fun H a => h H ⟨a.hy.mono e, a.s0, ⟨h0, fun x h1 h2 => a.fp.nw x (by
  cases hb : B x with
  | none => exact absurd hb h1
  | some u => rw [e x u hb]; simp) h2⟩, a.kp⟩
theorem Dj.base (d : Dj O N G) : Ex O.B0 (fr N G) := d.old.trans d.ex
theorem g_asg {i : Nat} (d : Dj O N G) (h : ES (yo Y G) te σ N F) (k : ∀ v N2, Ex N N2 → Dj O N2 G → F v N2 → RS Y O tz D (σ.set i (some v)) (fr N2 G)) : RS Y O (tSeq (tAsg te (gName i)) tz) D σ (fr N G) := fun H e => h H (d.yo e.hy) _ fun v N2 H2 f a b c =>
  let ⟨A, d2⟩ := At.frame d e f (d.back e.hy b a) (d.back e.hy b b)
  k v N2 f.ex d2 c H2 A
theorem g_asgR {i : Nat} (d : Dj O N G) (h : ES (yo Y G) te σ N F) (k : ∀ v N2, Ex N N2 → (∀ a, N2 a ≠ none → N a = none → Y.ro a = none) → Dj O N2 G → F v N2 → RS Y O tz D (σ.set i (some v)) (fr N2 G)) : RS Y O (tSeq (tAsg te (gName i)) tz) D σ (fr N G) := fun H e => h H (d.yo e.hy) _ fun v N2 H2 f a b c =>
  let ⟨A, d2⟩ := At.frame d e f (d.back e.hy b a) (d.back e.hy b b)
  k v N2 f.ex (fun a h1 h2 => e.hy.st.off (f.nw a h1 h2)) d2 c H2 A
theorem g_new {i : Nat} (d : Dj O N G) (h : EvN te σ (fr N G) o) (k : ∀ p, G p = none → N p = none → Dj O N (upd G p o) → RS Y O tz D (σ.set i (some (.ref p))) (fr N (upd G p o))) : RS Y O (tSeq (tAsg te (gName i)) tz) D σ (fr N G) :=
  s_new h fun p np => by
    rw [fr_upd]
    refine k p ?_ (fresh_back d.ex np) (d.new np)
    cases hg : G p with
    | none => rfl
    | some u => rw [fr_in hg] at np; cases np
/-- a new object of one's own whose items are made with the state -/
theorem g_newS {i : Nat} {Fv : List V → Hp → Prop} (d : Dj O N G) (h : ESA (yo Y G) as σ N Fv) (hz : ∀ vs N2, Fv vs N2 → vs.length ≤ 100000) (k : ∀ vs N2 p, Ex N N2 → G p = none → N2 p = none → Dj O N2 (upd G p (.lst vs)) → Fv vs N2 → RS Y O tz D (σ.set i (some (.ref p))) (fr N2 (upd G p (.lst vs)))) :
    RS Y O (tSeq (tAsg (tLst as) (gName i)) tz) D σ (fr N G) := fun H e => h H (d.yo e.hy) _ fun vs N2 H2 f a b c => ⟨sz_of (hz _ _ c), fun p hp => by
    obtain ⟨A, d2⟩ := At.frame d e f (d.back e.hy b a) (d.back e.hy b b)
    have np : fr N2 G p = none := A.hy.none hp
    have A2 := A.step (FP.new (o := .lst vs) A.hy hp) (A.hy.new hp) (A.hy.keep (Ex.new hp))
    rw [fr_upd] at A2
    refine k vs N2 p f.ex ?_ (fresh_back d2.ex np) (d2.new np) c _ A2
    cases hg : G p with
    | none => rfl
    | some u => rw [fr_in hg] at np; cases np⟩
theorem g_app {l : Addr} {xs : List V} (d : Dj O N G) (hl : G l = some (.lst xs)) (ha : Ev ta σ (fr N G) (.ref l)) (h : ES (yo Y G) te σ N F) (hz : xs.length < 100000) (k : ∀ v N2, Ex N N2 → Dj O N2 (upd G l (.lst (xs ++ [v]))) → F v N2 → RS Y O tz D σ (fr N2 (upd G l (.lst (xs ++ [v]))))) :
    RS Y O (tSeq (tDrop (tBM K "list" rAppend ta (tCons te tNil))) tz) D σ (fr N G) := fun H e => ha H e.hy.sub _ fun H2 e2 => by
  have a2 := e.pure e2
  have hl2 : H2 l = some (.lst xs) := a2.hy.sub l _ (fr_in hl)
  refine ⟨Or.inl ⟨rfl, xs, sq_of hl2⟩, h H2 (d.yo a2.hy) _ fun v N2 H3 f a b c => ?_⟩
  obtain ⟨A, d2⟩ := At.frame d a2 f (d.back a2.hy b a) (d.back a2.hy b b)
  refine ⟨l, xs, v, rfl, rfl, A.hy.sub l _ (fr_in hl), sz_lt hz, ?_⟩
  have A4 := A.put (o := .lst (xs ++ [v])) (d.own l (by rw [hl]; simp)) (fr_in hl)
  rw [fr_upd] at A4
  exact k v N2 f.ex (d2.put hl) c _ A4
theorem g_dput {a : Addr} {kvs : List (Key × V)} {Gk : V → Key → Hp → Prop} (d : Dj O N G) (ha : G a = some (.dK kvs)) (hv : ES (yo Y G) tv σ N F) (hd : ∀ N2, Ev td σ (fr N2 G) (.ref a)) (hk : ∀ v N2, Ex N N2 → F v N2 → ES (yo Y G) ty σ N2 fun y N3 => ∃ k, y = kV k ∧ Gk v k N3) (hz : kvs.length < 100000)
    (q : ∀ v k N2, Ex N N2 → Dj O N2 (upd G a (.dK (putK kvs k v))) → Gk v k N2 → RS Y O tz D σ (fr N2 (upd G a (.dK (putK kvs k v))))) : RS Y O (tSeq (sDPut td ty tv) tz) D σ (fr N G) := fun H e =>
  hv H (d.yo e.hy) _ fun v N2 H2 f a2 b c => by
    obtain ⟨A2, d2⟩ := At.frame d e f (d.back e.hy b a2) (d.back e.hy b b)
    refine hd N2 H2 A2.hy.sub _ fun H3 e3 => ?_
    have A3 := A2.pure e3
    refine hk v N2 f.ex c H3 (d2.yo A3.hy) _ fun y N3 H4 f4 a4 b4 ⟨k, hy, hG⟩ => ?_
    obtain ⟨A4, d4⟩ := At.frame d2 A3 f4 (d2.back A3.hy b4 a4) (d2.back A3.hy b4 b4)
    subst hy
    refine ⟨a, _, rfl, DPut.k (A4.hy.sub a _ (fr_in ha)) (sz_lt hz), ?_⟩
    have A5 := A4.put (o := .dK (putK kvs k v)) (d.own a (by rw [ha]; simp)) (fr_in ha)
    rw [fr_upd] at A5
    exact q v k N3 (f.ex.trans f4.ex) (d4.put ha) hG _ A5
/-- a test that changes the state -/
theorem g_when {Ft : Bool → Prop} (d : Dj O N G) (h : EST Y t σ (fr N G) fun b _ => Ft b) (h1 : Ft true → RS Y O tu { D with nx := tz D } σ (fr N G)) (h2 : Ft false → RS Y O tz D σ (fr N G)) : RS Y O (tSeq (tIfS t tu tNext) tz) D σ (fr N G) :=
  s_when h (fun N2 e c => RS.weak d.base e (h1 c)) fun N2 e c => RS.weak d.base e (h2 c)
theorem b_when {Ft : Bool → Prop} (h0 : Ex O.B0 B) (h : EST Y t σ B fun b _ => Ft b) (h1 : Ft true → RS Y O tu { D with nx := tz D } σ B) (h2 : Ft false → RS Y O tz D σ B) : RS Y O (tSeq (tIfS t tu tNext) tz) D σ B :=
  s_when h (fun N2 e c => RS.weak h0 e (h1 c)) fun N2 e c => RS.weak h0 e (h2 c)
theorem b_whenK {Ft : Bool → Prop} (Mid : L2.St → Hp → Prop) (h0 : Ex O.B0 B) (h : EST Y t σ B fun b _ => Ft b) (k : ∀ σ' B', Mid σ' B' → RS Y O tz D σ' B') (h1 : (∀ σ' B', Mid σ' B' → RS Y O tz D σ' B') → Ft true → RS Y O tu { D with nx := tz D } σ B) (h2 : Ft false → Mid σ B) : RS Y O (tSeq (tIfS t tu tNext) tz) D σ B :=
  b_when h0 h (h1 k) fun c => k _ _ (h2 c)
/-- a number is drawn -/
theorem b_next {i : Nat} {ps : Addr} {b : Int} {E : XK} (h0 : Ex O.B0 B) (hs : Sto Y ps B) (h1 : Ev ta σ B (.ref ps)) (h2 : Ev tb σ B (.int b)) (hb : 0 < b) (k : ∀ r : Int, 0 ≤ r → r < b → RS Y O tz D (σ.set i (some (.int r))) B) : RS Y O (tSeq (tAsg (tCall spNext [] E (tCons ta (tCons tb tNil))) (gName i)) tz) D σ B :=
  s_asg (es_next hs h1 h2 hb) fun v N e ⟨r, hv, r0, r1⟩ => by
    subst hv
    exact RS.weak h0 e (k r r0 r1)
end
theorem At.weak {Y : Ys} {O : Org} {B B' H : Hp} (h0 : Ex O.B0 B) (e : Ex B B') (a : At Y O B' H) : At Y O B H := ⟨a.hy.mono e, a.s0, ⟨h0, fun x h1 h2 => a.fp.nw x (by
  cases hb : B x with
  | none => exact absurd hb h1
  | some u => rw [e x u hb]; simp) h2⟩, a.kp⟩
section
variable {Y : Ys} {O : Org} {σ : L2.St} {B : Hp} {as : TA} {D : Ends} {tu tz : TS}
theorem b_forR1 {j : Nat} {Pn : Int → Prop} (hw : Ex O.B0 B) (h : ESA Y as σ B fun vs _ => ∃ n : Int, vs = [.int n] ∧ 0 ≤ n ∧ n ≤ 100000 ∧ Pn n) (Pv : Int → Nat → L2.St → Hp → Prop) (h0 : ∀ n, 0 ≤ n → Pn n → Pv n 0 σ B)
    (hs : ∀ n (i : Nat) σ' B', (i : Int) < n → Pn n → Pv n i σ' B' → RS Y O tu (LpS Y O (Pv n) i D tz) (σ'.set j (some (.int (i : Int)))) B') (hd : ∀ n σ' B', 0 ≤ n → Pn n → Pv n n.toNat σ' B' → RS Y O tz D σ' B') : RS Y O (tSeq (tFor (iRng1 as) (gName j) tu) tz) D σ B := fun H e =>
  h H e.hy _ fun vs N H2 f a b ⟨n, hv, n0, n1, hF⟩ => by
    subst hv
    exact q_forR1 (D := D) (σ := σ) (H := H2) (n := n) (ta := tCons (tC (.int n)) tNil) (j := j) (tu := tu) (tz := tz) (ea_cons ev_c ea_nil) ⟨n0, n1⟩ (UpS Y O (Pv n)) (fun H3 e3 => ⟨B, (At.weak hw f.ex (e.step f a b)).pure e3, h0 n n0 hF⟩) (fun i σ' H' hi ⟨B', e', p⟩ => hs n i σ' B' hi hF p H' e') fun σ' H' ⟨B', e', p⟩ => hd n σ' B' n0 hF p H' e'
end
/-! ### words of data -/
/-- this data, whatever else is known -/
def ED (Y : Ys) (K : PySem.W.Frag) (te : TE) (σ : L2.St) (B : Hp) (d : PyData) : Prop := ∀ N, Ex B N → ES Y te σ N fun v N2 => Dq K N2 v d
def EDA (Y : Ys) (K : PySem.W.Frag) (as : TA) (σ : L2.St) (B : Hp) (ds : List PyData) : Prop := ∀ N, Ex B N → ESA Y as σ N fun vs N2 => DqA K N2 vs ds
section
variable {K : PySem.W.Frag} {Y : Ys} {σ : L2.St} {B : Hp} {ta tb te : TE} {as : TA} {v : V} {d : PyData} {ds : List PyData}
theorem ed_of (h : Ev te σ B v) (hd : Dq K B v d) : ED Y K te σ B d := fun N e => es_ev (h.mono e) (dq_ex e d v hd)
theorem eds_str {x : Str} : ED Y K (tC (.str x)) σ B (.str x) := ed_of ev_c (.str x)
theorem eda_nil : EDA Y K tNil σ B [] := fun N e => esa_nil .nil
theorem eda_cons (h : ED Y K te σ B d) (hr : EDA Y K as σ B ds) : EDA Y K (tCons te as) σ B (d :: ds) := fun N e =>
  esa_cons (h N e) fun x N2 e2 hx => fun H1 y Q q => hr N2 (e.trans e2) H1 y Q fun vs N3 H2 f a b c => q vs N3 H2 f a b (.cons (dq_ex f.ex d x hx) c)
theorem eds_tup (h : EDA Y K as σ B ds) (hz : ds.length ≤ 100000) : ED Y K (tTup as) σ B (.tuple ds) := fun N e => es_tup fun H1 y Q q => h N e H1 y Q fun vs N2 H2 f a b c =>
  q vs N2 H2 f a b ⟨by rw [dqa_len c]; exact hz, fun p np => .tup upd_same (dqa_ex (Ex.new np) ds vs c)⟩
theorem eds_lst (h : EDA Y K as σ B ds) (hz : ds.length ≤ 100000) : ED Y K (tLst as) σ B (.list ds) := fun N e => es_lst fun H1 y Q q => h N e H1 y Q fun vs N2 H2 f a b c =>
  q vs N2 H2 f a b ⟨by rw [dqa_len c]; exact hz, fun p np => .lst upd_same (dqa_ex (Ex.new np) ds vs c)⟩
theorem atI_dqa {N : Hp} {vs : List V} {i : Int} (h : DqA K N vs ds) (h0 : 0 ≤ i) (h1 : i < ds.length) : ∃ z d, atI vs i = some z ∧ ds[i.toNat]? = some d ∧ Dq K N z d := by
  obtain ⟨j, rfl⟩ := Int.eq_ofNat_of_zero_le h0
  have hj : j < ds.length := by omega
  obtain ⟨z, hz, hd⟩ := dqa_at' h (List.getElem?_eq_getElem hj)
  exact ⟨z, _, atI_nat hz, List.getElem?_eq_getElem hj, hd⟩
/-- one of a display, drawn -/
theorem es_pick {n : Int} (h : ED Y K te σ B (.list ds)) (hb : ∀ N, Ex B N → ES Y tb σ N (nextF n)) (hn : n = ds.length) : ES Y (tOp (rIxL K) te tb) σ B fun v N => ∃ d, d ∈ ds ∧ Dq K N v d :=
  es_op (h B (Ex.refl B)) fun x N e hx => (hb N e).imp fun y N2 e2 ⟨r, hy, r0, r1⟩ => by
    subst hy
    have hx2 := dq_ex e2 _ x hx
    cases hx2 with
    | lst ha hd =>
      obtain ⟨z, d, h1, h2, h3⟩ := atI_dqa hd r0 (by omega)
      exact ⟨z, rv_ixL (sq_of ha) h1, d, List.mem_of_getElem? h2, h3⟩
/-- data, made in some way -/
def Dt (K : PySem.W.Frag) (Pd : PyData → Prop) : V → Hp → Prop := fun v N => ∃ d, Dq K N v d ∧ Pd d
theorem es_ed {Pd : PyData → Prop} (h : ED Y K te σ B d) (hd : Pd d) : ES Y te σ B (Dt K Pd) := (h B (Ex.refl B)).imp fun v N e c => ⟨d, c, hd⟩
/-- ('word', data) -/
theorem es_pair {w : Str} {Pd Pe : PyData → Prop} (h : ∀ N, Ex B N → ES Y te σ N (Dt K Pd)) (hp : ∀ d, Pd d → Pe (.tuple [.str w, d])) : ES Y (tTup (tCons (tC (.str w)) (tCons te tNil))) σ B (Dt K Pe) :=
  es_tup (esa_cons (es_ev (F := fun v _ => v = .str w) ev_c rfl) fun x N e hx => by
    subst hx
    exact esa_cons (h N e) fun y N2 e2 ⟨d, hd, hP⟩ => esa_nil ⟨by simp, fun p np => ⟨_, .tup upd_same (.cons (.str w) (.cons (dq_ex (Ex.new np) _ _ hd) .nil)), hp d hP⟩⟩)
end
end FK

set_option Elab.async false
set_option linter.all false
set_option maxRecDepth 100000
/-! shapes as data, as the laws draw them (own text) -/
namespace FK
open PySem PySem.Spec PyProof.Rows L2 Evl FkE
def prims : List Str := ["null", "boolean", "int", "long", "bytes", "string"]
inductive ShP (nm : List Str) : Nat → PyData → Prop where
  | prim {d : Nat} {k : Str} (h : k ∈ prims) : ShP nm d (.tuple [.str k])
  | arr {d : Nat} {s : PyData} (h : ShP nm d s) : ShP nm (d + 1) (.tuple [.str "array", s])
  | map {d : Nat} {s : PyData} (h : ShP nm d s) : ShP nm (d + 1) (.tuple [.str "map", s])
  | uni {d : Nat} {k : Str} {bs : List PyData} (h : k ∈ prims) (hl : bs.length ≤ 2) (hb : ∀ b ∈ bs, ShP nm d b) : ShP nm (d + 1) (.tuple [.str "union", .tuple (.tuple [.str k] :: bs)])
  | nam {d : Nat} {n : Str} (h : n ∈ nm) : ShP nm d (.tuple [.str "named", .str n])
section
variable {nm nm' : List Str} {K : PySem.W.Frag} {N : Hp}
theorem ShP.up : ∀ {d : Nat} {s : PyData}, ShP nm d s → ∀ {e : Nat}, d ≤ e → ShP nm e s
  | _, _, .prim h, e, _ => .prim h
  | _, _, .nam h, e, _ => .nam h
  | _, _, .arr h, e + 1, hd => .arr (h.up (Nat.le_of_succ_le_succ hd))
  | _, _, .map h, e + 1, hd => .map (h.up (Nat.le_of_succ_le_succ hd))
  | _, _, .uni h hl hb, e + 1, hd => .uni h hl fun b hm => (hb b hm).up (Nat.le_of_succ_le_succ hd)
theorem ShP.more (hs : ∀ n ∈ nm, n ∈ nm') : ∀ {d : Nat} {s : PyData}, ShP nm d s → ShP nm' d s
  | _, _, .prim h => .prim h
  | _, _, .nam h => .nam (hs _ h)
  | _, _, .arr h => .arr (h.more hs)
  | _, _, .map h => .map (h.more hs)
  | _, _, .uni h hl hb => .uni h hl fun b hm => (hb b hm).more hs
theorem prims_named {k : Str} (h : k ∈ prims) : k ≠ "named" := by
  intro e
  subst e
  exact absurd h (by decide +kernel)
theorem at0 {x : V} {xs : List V} : atI (x :: xs) 0 = some x := atI_nat (j := 0) rfl
theorem at1 {x y : V} {xs : List V} : atI (x :: y :: xs) 1 = some y := atI_nat (j := 1) rfl
theorem at2 {x y z : V} {xs : List V} : atI (x :: y :: z :: xs) 2 = some z := atI_nat (j := 2) rfl
theorem at3 {x y z u : V} {xs : List V} : atI (x :: y :: z :: u :: xs) 3 = some u := atI_nat (j := 3) rfl
/-- what is seen of a shape -/
theorem dq_head {d : Nat} {s : PyData} {v : V} (h : Dq K N v s) (hs : ShP nm d s) : ∃ (a : Addr) (xs : List V) (k : Str), v = .ref a ∧ N a = some (.tup xs) ∧ atI xs 0 = some (.str k) ∧ (k = "named" → ∃ n, atI xs 1 = some (.str n) ∧ n ∈ nm) := by
  cases hs with
  | prim hk =>
    cases h with
    | tup ha hd =>
      cases hd with
      | cons h1 h2 =>
        cases h1
        cases h2
        exact ⟨_, _, _, rfl, ha, at0, fun e => absurd e (prims_named hk)⟩
  | arr hk =>
    cases h with
    | tup ha hd =>
      cases hd with
      | cons h1 h2 =>
        cases h1
        exact ⟨_, _, _, rfl, ha, at0, fun e => absurd e (by decide +kernel)⟩
  | map hk =>
    cases h with
    | tup ha hd =>
      cases hd with
      | cons h1 h2 =>
        cases h1
        exact ⟨_, _, _, rfl, ha, at0, fun e => absurd e (by decide +kernel)⟩
  | uni hk hl hb =>
    cases h with
    | tup ha hd =>
      cases hd with
      | cons h1 h2 =>
        cases h1
        exact ⟨_, _, _, rfl, ha, at0, fun e => absurd e (by decide +kernel)⟩
  | nam hn =>
    cases h with
    | tup ha hd =>
      cases hd with
      | cons h1 h2 =>
        cases h1
        cases h2 with
        | cons h3 h4 =>
          cases h3
          cases h4
          exact ⟨_, _, _, rfl, ha, at0, fun _ => ⟨_, at1, hn⟩⟩
end
/-- a list of names -/
def Nms (nm : List Str) (p : Addr) (B : Hp) : Prop := B p = some (.lst (nm.map V.str)) ∧ nm.length ≤ 10 ∧ ∀ n ∈ nm, n.length ≤ 100
theorem Nms.mono {nm : List Str} {p : Addr} {B B' : Hp} (h : Nms nm p B) (e : Ex B B') : Nms nm p B' := ⟨e _ _ h.1, h.2⟩
def preInner (K : PySem.W.Frag) (d : Nat) (Y : Ys) (vs : List V) (B : Hp) (F : V → Hp → Prop) : Prop := ∃ (ps : Addr) (i : Nat) (p : Addr) (nm : List Str), Sto Y ps B ∧ vs = [.ref ps, .ref p, .int (i : Int)] ∧ i < d ∧ Nms nm p B ∧ F = Dt K (ShP nm i)
def preUnion (K : PySem.W.Frag) (d : Nat) (Y : Ys) (vs : List V) (B : Hp) (F : V → Hp → Prop) : Prop := ∃ (ps : Addr) (i : Nat) (p : Addr) (nm : List Str), Sto Y ps B ∧ vs = [.ref ps, .ref p, .int ((i + 1 : Nat) : Int)] ∧ i < d ∧ Nms nm p B ∧ F = Dt K (fun s => ShP nm (i + 1) s ∧ ∃ bs, s = .tuple [.str "union", .tuple bs])
def preOuter (K : PySem.W.Frag) (Y : Ys) (vs : List V) (B : Hp) (F : V → Hp → Prop) : Prop := ∃ (ps p q : Addr) (nm ne : List Str), Sto Y ps B ∧ vs = [.ref ps, .ref p, .ref q, .int 2] ∧ Nms nm p B ∧ Nms ne q B ∧ (∀ n ∈ ne, n ∈ nm) ∧ F = Dt K (fun s => ShP nm 2 s ∧ ∀ n, s = .tuple [.str "named", .str n] → n ∈ ne)
section
variable {K : PySem.W.Frag} {Y : Ys} {σ : L2.St} {B : Hp} {te : TE} {x y : Str}
theorem rv_addStr (hz : x.length + y.length ≤ 100000) : RV (fun x y H Q => ∃ i j, x = V.str i ∧ y = .str j ∧ i.length + j.length ≤ sizeLine ∧ Q (.str (i ++ j)) H) (.str x) (.str y) B (.str (x ++ y)) := fun H1 _ _ q => ⟨x, y, rfl, rfl, sz_of hz, q H1 (Ex.refl H1)⟩
theorem en_tuple {a : Addr} {xs : List V} (h : Ev te σ B (.ref a)) (hx : SqL K B a xs) : EvN (tCB (fun xs H Q => ∃ p ys, xs = [.ref p] ∧ ((SqL K H p ys ∧ ∀ l, H l = none → Q (.ref l) (upd H l (.tup ys))) ∨ (SqT K H p ys ∧ Q (.ref p) H))) (tCons te tNil)) σ B (.tup xs) := fun H1 e Q q =>
  h H1 e _ fun H2 e2 => ⟨a, xs, rfl, .inl ⟨ex_l (e.trans e2) hx, fun l hl => q l _ (fresh_back e2 hl) (e2.trans (Ex.new hl)) upd_same⟩⟩
end
end FK

set_option Elab.async false
set_option linter.all false
set_option maxRecDepth 100000
/-! dicts as data, loops over pairs, definitions as data (own text) -/
namespace FK
open PySem PySem.Spec PyProof.Rows L2 Evl FkE
def isK (x : PyData) (k : Str) : Bool := match x with
  | .str y => decide (y = k)
  | _ => false
theorem isK_str {y k : Str} : isK (.str y) k = decide (y = k) := rfl
section
variable {K : PySem.W.Frag} {N : Hp}
theorem dqk_snoc : ∀ {kvs : List (Key × V)} {ds : List (PyData × PyData)} {k : Str} {v : V} {d : PyData}, DqK K N kvs ds → Dq K N v d → DqK K N (kvs ++ [(.inr k, v)]) (ds ++ [(.str k, d)])
  | _, _, _, _, _, .nil, h => .cons h .nil
  | _, _, _, _, _, .cons a t, h => .cons a (dqk_snoc t h)
theorem dqk_set : ∀ {kvs : List (Key × V)} {ds : List (PyData × PyData)} {k : Str} {v : V} {d : PyData}, DqK K N kvs ds → Dq K N v d → DqK K N (kvs.map fun kv => if kv.1 = .inr k then (kv.1, v) else kv) (ds.map fun kd => if isK kd.1 k = true then (kd.1, d) else kd)
  | _, _, _, _, _, .nil, h => .nil
  | _, _, k, v, d, .cons (k := k') a t, h => by
    have ih := dqk_set (k := k) t h
    by_cases c : k' = k
    · subst c
      simp only [List.map_cons, if_true, isK_str, decide_true]
      exact .cons h ih
    · have c1 : ¬ (Sum.inr k' : Key) = .inr k := fun z => c (Sum.inr.inj z)
      simp only [List.map_cons, if_neg c1, isK_str, decide_eq_false c, if_neg Bool.false_ne_true]
      exact .cons a ih
theorem dqk_any : ∀ {kvs : List (Key × V)} {ds : List (PyData × PyData)} {k : Str}, DqK K N kvs ds → (kvs.any fun kv => decide (kv.1 = .inr k)) = true → ∃ d, (PyData.str k, d) ∈ ds
  | _, _, k, .cons (k := k') (d := d) a t, h => by
    by_cases c : k' = k
    · subst c
      exact ⟨d, List.mem_cons_self⟩
    · have c1 : ¬ (Sum.inr k' : Key) = .inr k := fun z => c (Sum.inr.inj z)
      simp only [List.any_cons, decide_eq_false c1, Bool.false_or] at h
      obtain ⟨e, he⟩ := dqk_any t h
      exact ⟨e, List.mem_cons_of_mem _ he⟩
theorem dqk_put {kvs : List (Key × V)} {ds : List (PyData × PyData)} {k : Str} {v : V} {d : PyData} (h : DqK K N kvs ds) (hv : Dq K N v d) : ∃ es, DqK K N (putK kvs (.inr k) v) es ∧ (∀ x e, (x, e) ∈ es → (x = .str k ∧ e = d) ∨ (x, e) ∈ ds) := by
  unfold putK
  split
  · refine ⟨_, dqk_set h hv, fun x e hm => ?_⟩
    obtain ⟨⟨x', e'⟩, h1, h2⟩ := List.mem_map.mp hm
    by_cases c : isK x' k = true
    · simp only [if_pos c] at h2
      cases h2
      refine .inl ⟨?_, rfl⟩
      unfold isK at c
      split at c
      · rw [of_decide_eq_true c]
      · cases c
    · simp only [if_neg c] at h2
      cases h2
      exact .inr h1
  · refine ⟨_, dqk_snoc h hv, fun x e hm => ?_⟩
    rcases List.mem_append.mp hm with h | h
    · exact .inr h
    · cases List.mem_singleton.mp h
      exact .inl ⟨rfl, rfl⟩
theorem dqk_len : ∀ {kvs : List (Key × V)} {ds : List (PyData × PyData)}, DqK K N kvs ds → kvs.length = ds.length
  | _, _, .nil => rfl
  | _, _, .cons _ t => congrArg (· + 1) (dqk_len t)
/-- what a name stands for -/
theorem dqk_val : ∀ {kvs : List (Key × V)} {ds : List (PyData × PyData)} {k : Str} {d : PyData}, DqK K N kvs ds → (ds.find? fun kd => isK kd.1 k) = some (.str k, d) → ∃ v, valV kvs (.inr k) = some v ∧ Dq K N v d
  | _, _, k, d, .nil, h => by simp at h
  | _, _, k, d, .cons (k := k') (v := v) (d := d') a t, h => by
    by_cases c : k' = k
    · subst c
      rw [List.find?_cons_of_pos (by simp [isK_str])] at h
      cases h
      exact ⟨v, valV_pos rfl, a⟩
    · have c1 : ¬ (Sum.inr k' : Key) = .inr k := fun z => c (Sum.inr.inj z)
      rw [List.find?_cons_of_neg (by simpa [isK_str] using c)] at h
      obtain ⟨w, h1, h2⟩ := dqk_val t h
      exact ⟨w, (valV_neg (p := ((Sum.inr k' : Key), v)) c1).trans h1, h2⟩
theorem dqk_keys : ∀ {kvs : List (Key × V)} {ds : List (PyData × PyData)} {ks : List Str}, DqK K N kvs ds → ds.map (·.1) = ks.map PyData.str → kvs.map (fun kv => kV kv.1) = ks.map V.str
  | _, _, [], .nil, _ => rfl
  | _, _, k :: ks, .cons a t, h => by
    simp only [List.map_cons, List.cons.injEq] at h
    obtain ⟨h1, h2⟩ := h
    injection h1 with h1
    subst h1
    simp only [List.map_cons]
    rw [dqk_keys t h2]
    rfl
  | _, _, [], .cons a t, h => by simp at h
  | _, _, k :: ks, .nil, h => by simp at h
theorem dqk_in : ∀ {kvs : List (Key × V)} {ds : List (PyData × PyData)} {ks : List Str} {k : Str}, DqK K N kvs ds → ds.map (·.1) = ks.map PyData.str → (valV kvs (.inr k)).isSome = decide (k ∈ ks)
  | _, _, [], k, .nil, _ => by simp [valV_nil]
  | _, _, [], k, .cons a t, h => by simp at h
  | _, _, q :: ks, k, .nil, h => by simp at h
  | _, _, q :: ks, k, .cons (k := q') (v := v) a t, h => by
    simp only [List.map_cons, List.cons.injEq] at h
    obtain ⟨h1, h2⟩ := h
    injection h1 with h1
    subst h1
    by_cases c : q' = k
    · subst c
      rw [valV_pos rfl]
      simp
    · have c1 : ¬ (Sum.inr q' : Key) = .inr k := fun z => c (Sum.inr.inj z)
      rw [valV_neg (p := ((Sum.inr q' : Key), v)) c1, dqk_in t h2]
      have c3 : ¬ k = q' := fun z => c z.symm
      simp [c3]
end
section
variable {K : PySem.W.Frag} {Y : Ys} {O : Org} {σ : L2.St} {B : Hp} {te tl td ty : TE} {D : Ends} {tu tz : TS} {v : V}
/-- a for over pairs -/
theorem s_forP {a : Addr} {xs : List V} {j1 j2 : Nat} (h : Ev tl σ B (.ref a)) (hx : SqL K B a xs) (Pv : Nat → L2.St → Hp → Prop) (h0 : Pv 0 σ B) (hl : ∀ i σ' B', i ≤ xs.length → Pv i σ' B' → SqL K B' a xs)
    (hs : ∀ i x σ' B', xs[i]? = some x → Pv i σ' B' → ∃ t k v, x = .ref t ∧ SqT K B' t [k, v] ∧ RS Y O tu (LpS Y O Pv i D tz) ((σ'.set j1 (some k)).set j2 (some v)) B') (hd : ∀ σ' B', Pv xs.length σ' B' → RS Y O tz D σ' B') :
    RS Y O (tSeq (tFor (iList K tl) (gTup K 2 (gCons (gName j1) (gCons (gName j2) gNil))) tu) tz) D σ B := fun H e => h H e.hy.sub _ fun H1 e1 =>
  ⟨a, rfl, ⟨xs, ex_l (e.hy.sub.trans e1) hx⟩, for_list (D := { D with nx := tz D }) (UpS Y O Pv) ⟨B, e.pure e1, h0⟩ (fun i σ' H' hi ⟨B', e', p⟩ => ex_l e'.hy.sub (hl i σ' B' hi p))
    (fun i x σ' H' hx' ⟨B', e', p⟩ => by
      obtain ⟨t, k, v, rfl, ht, hr⟩ := hs i x σ' B' hx' p
      exact ⟨t, [k, v], rfl, ex_t e'.hy.sub ht, rfl, k, [v], rfl, v, [], rfl, rfl, hr H' e'⟩) fun σ' H' ⟨B', e', p⟩ => hd σ' B' p H' e'⟩
theorem ev_din {a : Addr} {kvs : List (Key × V)} {k : Key} (hk : Ev ty σ B (kV k)) (h : Ev td σ B (.ref a)) (hd : B a = some (.dK kvs)) : Ev (tDIn ty td) σ B (.bl (valV kvs k).isSome) := fun H1 e Q q =>
  hk H1 e _ fun H2 e2 => h H2 (e.trans e2) _ fun H3 e3 => ⟨a, valV kvs k, rfl, DGet.k (((e.trans e2).trans e3) a _ hd), q H3 (e2.trans e3)⟩
theorem eis_tup {a : Addr} {xs : List V} {G : List V → Hp → Prop} (h : Ev tl σ B (.ref a)) (hx : SqT K B a xs) (hG : G xs B) : EIS Y (iTup K tl) σ B G := fun H1 e R k => h H1 e.sub _ fun H2 e2 =>
  ⟨a, rfl, ⟨xs, ex_t (e.sub.trans e2) hx⟩, k _ B H2 _ xs FP.refl (e.pure e2) (e.keep e2) hG walk_tup fun H3 e3 => ex_t e3 hx⟩
end
section
variable {K : PySem.W.Frag} {Y : Ys} {σ : L2.St} {B : Hp} {td ty te : TE} {v : V} {F : V → Hp → Prop} {pm : Addr} {kvs : List (Key × V)} {k : Key}
theorem ro_at {H : Hp} (e : HY Y B H) (h : Y.ro pm = some (.dK kvs)) : H pm = some (.dK kvs) := rest_sub pm _ (e.st.r pm _ h)
/-- an item of a dict that may be read beside -/
theorem es_dgetR (hd : Ev td σ B (.ref pm)) (hk : Ev ty σ B (kV k)) (hro : Y.ro pm = some (.dK kvs)) (hv : valV kvs k = some v) (hF : F v B) : ES Y (tDGet td ty) σ B F := fun H1 e Q q =>
  hd H1 e.sub _ fun H2 e2 => hk H2 (e.sub.trans e2) _ fun H3 e3 => ⟨pm, v, rfl, by rw [← hv]; exact DGet.k ((e2.trans e3) pm _ (ro_at e hro)), q v B H3 FP.refl (e.pure (e2.trans e3)) (e.keep (e2.trans e3)) hF⟩
theorem es_dinR (hd : Ev td σ B (.ref pm)) (hk : Ev ty σ B (kV k)) (hro : Y.ro pm = some (.dK kvs)) (hF : F (.bl (valV kvs k).isSome) B) : ES Y (tDIn ty td) σ B F := fun H1 e Q q =>
  hk H1 e.sub _ fun H2 e2 => hd H2 (e.sub.trans e2) _ fun H3 e3 => ⟨pm, valV kvs k, rfl, DGet.k ((e2.trans e3) pm _ (ro_at e hro)), q _ B H3 FP.refl (e.pure (e2.trans e3)) (e.keep (e2.trans e3)) hF⟩
theorem es_listDR (hd : Ev te σ B (.ref pm)) (hro : Y.ro pm = some (.dK kvs)) (hF : ∀ p, B p = none → F (.ref p) (upd B p (.lst (kvs.map fun kv => kV kv.1)))) : ES Y (tCB (fun xs H Q => ∃ (a : Addr) (kvs : List (Key × V)), xs = [.ref a] ∧ Rd H a (.dK kvs) ∧ ∀ p, H p = none → Q (.ref p) (upd H p (.lst (kvs.map fun kv => kV kv.1)))) (tCons te tNil)) σ B F := fun H1 e Q q =>
  hd H1 e.sub _ fun H2 e2 => ⟨pm, kvs, rfl, .of (e2 pm _ (ro_at e hro)), fun p hp => q (.ref p) (upd B p _) _ (FP.new e (fresh_back e2 hp)) ((e.pure e2).new hp) ((e.keep e2).pure (Ex.new hp)) (hF p ((e.pure e2).none hp))⟩
theorem dqa_flat {xs : List V} (h : ∀ x ∈ xs, ∃ i : Int, x = .int i) : ∃ ds, DqA K B xs ds := by
  induction xs with
  | nil => exact ⟨[], .nil⟩
  | cons x r ih =>
    obtain ⟨i, rfl⟩ := h x List.mem_cons_self
    obtain ⟨ds, hd⟩ := ih fun y hy => h y (List.mem_cons_of_mem _ hy)
    exact ⟨_, .cons (.int i) hd⟩
end
theorem op_in_seqK {X : Cx} {K : PySem.W.Frag} (hK : X.K = K) : OpR X (compareOp .In) (rIn K false) := by
  subst hK
  exact op_in_seq
theorem op_notIn_seqK {X : Cx} {K : PySem.W.Frag} (hK : X.K = K) : OpR X (compareOp .NotIn) (rIn K true) := by
  subst hK
  exact op_notIn_seq
section
variable {K : PySem.W.Frag} {Y : Ys} {O : Org} {σ : L2.St} {B N G : Hp} {te tl ta tb : TE} {tz : TS} {D : Ends} {o : HO} {F : V → Hp → Prop}
theorem ei_tup {a : Addr} {xs : List V} (h : Ev tl σ B (.ref a)) (hx : SqT K B a xs) : EvI (iTup K tl) σ B xs := fun H1 e R k => h H1 e _ fun H2 e2 => ⟨a, rfl, ⟨xs, ex_t (e.trans e2) hx⟩, k _ H2 _ e2 walk_tup fun H3 e3 => ex_t ((e.trans e2).trans e3) hx⟩
theorem en_tupleN {xs : List V} (h : EvN te σ B (.lst xs)) : EvN (tCB (fun xs H Q => ∃ p ys, xs = [.ref p] ∧ ((SqL K H p ys ∧ ∀ l, H l = none → Q (.ref l) (upd H l (.tup ys))) ∨ (SqT K H p ys ∧ Q (.ref p) H))) (tCons te tNil)) σ B (.tup xs) := fun H1 e Q q =>
  h H1 e _ fun p H2 np e2 hp => ⟨p, xs, rfl, .inl ⟨sq_of hp, fun l hl => q l _ (fresh_back e2 hl) (e2.trans (Ex.new hl)) upd_same⟩⟩
theorem en_listT {a : Addr} {xs : List V} (h : Ev te σ B (.ref a)) (hx : SqT K B a xs) : EvN (tCB (fun xs H Q => ∃ p ys, xs = [.ref p] ∧ (SqL K H p ys ∨ SqT K H p ys) ∧ ∀ l, H l = none → Q (.ref l) (upd H l (.lst ys))) (tCons te tNil)) σ B (.lst xs) := fun H1 e Q q =>
  h H1 e _ fun H2 e2 => ⟨a, xs, rfl, .inr (ex_t (e.trans e2) hx), fun l hl => q l _ (fresh_back e2 hl) (e2.trans (Ex.new hl)) upd_same⟩
theorem en_slA {tl th : TO} {a : Addr} {xs : List V} {lo hi : Option Int} (h : Ev te σ B (.ref a)) (h1 : EvO tl σ B lo) (h2 : EvO th σ B hi) (hx : SqT K B a xs) (hn : ¬ (HT.sIx xs.length 0 lo = 0 ∧ HT.sIx xs.length xs.length hi = xs.length)) : EvN (tSl (rSlA K) te tl th) σ B (.tup (cutV xs lo hi)) := fun H1 e Q q =>
  h H1 e _ fun H2 e2 => h1 H2 (e.trans e2) _ fun H3 e3 => h2 H3 ((e.trans e2).trans e3) _ fun H4 e4 => ⟨a, xs, rfl, ex_t (((e.trans e2).trans e3).trans e4) hx, fun z => absurd z hn, fun _ p hp => q p _ (fresh_back ((e2.trans e3).trans e4) hp) (((e2.trans e3).trans e4).trans (Ex.new hp)) upd_same⟩
/-- a new object that does not change -/
theorem g_val {i : Nat} (d : Dj O N G) (h : EvN te σ (fr N G) o) (k : ∀ p, G p = none → N p = none → Dj O (upd N p o) G → RS Y O tz D (σ.set i (some (.ref p))) (fr (upd N p o) G)) : RS Y O (tSeq (tAsg te (gName i)) tz) D σ (fr N G) := s_new h fun p np => by
  have hG : G p = none := by
    cases hg : G p with
    | none => rfl
    | some u => rw [fr_in hg] at np; cases np
  have hN : N p = none := fresh_back d.ex np
  have e : upd (fr N G) p o = fr (upd N p o) G := by
    funext a
    by_cases c : a = p
    · subst c
      rw [upd_same, fr_out hG, upd_same]
    · rw [upd_ne c]
      unfold fr
      rw [upd_ne c]
  rw [e]
  refine k p hG hN ⟨fun a z => ?_, d.own, d.old.trans (Ex.new hN)⟩
  have c : a ≠ p := fun c => by
    subst c
    exact z hG
  rw [upd_ne c]
  exact d.off a z
end
/-- an operation that makes a new object -/
def RN (r : R2) (x y : V) (H : Hp) (o : HO) : Prop := ∀ H1, Ex H H1 → ∀ Q : VK, (∀ p, H1 p = none → Q (.ref p) (upd H1 p o)) → r x y H1 Q
section
variable {K : PySem.W.Frag} {Y : Ys} {σ : L2.St} {B : Hp} {ta tb : TE} {r : R2} {F : V → Hp → Prop}
theorem es_opN {Fa : V → Hp → Prop} (ha : ES Y ta σ B Fa) (hb : ∀ x N, Ex B N → Fa x N → ES Y tb σ N fun y N2 => ∃ o, RN r x y N2 o ∧ ∀ p, N2 p = none → F (.ref p) (upd N2 p o)) : ES Y (tOp r ta tb) σ B F := fun H1 e Q q =>
  ha H1 e _ fun x N H2 f1 a1 b1 c1 => hb x N f1.ex c1 H2 a1 _ fun y N2 H3 f2 a2 b2 ⟨o, hr, hF⟩ => hr H3 a2.sub Q (es_alloc e (f1.trans e.st b1 f2) a2 (HY.trans b1 b2) hF q)
theorem rn_catA {a b : Addr} {xs ys : List V} {H : Hp} (h1 : SqT K H a xs) (h2 : SqT K H b ys) (n1 : xs ≠ []) (n2 : ys ≠ []) (hz : xs.length + ys.length ≤ 100000) : RN (rCatA K) (.ref a) (.ref b) H (.tup (xs ++ ys)) := fun H1 e Q q =>
  ⟨a, b, xs, ys, rfl, rfl, ex_t e h1, ex_t e h2, sz_of hz, fun z => absurd z n1, fun _ z => absurd z n2, fun _ _ p hp => q p hp⟩
theorem rn_cat {a b : Addr} {xs ys : List V} {H : Hp} (h1 : H a = some (.lst xs)) (h2 : H b = some (.lst ys)) (hz : xs.length + ys.length ≤ 100000) : RN rCat (.ref a) (.ref b) H (.lst (xs ++ ys)) := fun H1 e Q q =>
  ⟨a, b, xs, ys, rfl, rfl, e _ _ h1, e _ _ h2, sz_of hz, fun p hp => q p hp⟩
end
section
variable {K : PySem.W.Frag} {Y : Ys} {σ : L2.St} {B : Hp} {te tb : TE} {F : V → Hp → Prop} {xs : List V}
theorem es_slA (he : EvN te σ B (.tup xs)) (hb : ∀ N, Ex B N → ES Y tb σ N fun v N2 => ∃ n : Int, v = .int n ∧ ∀ q N3, Ex N2 N3 → ((HT.sIx xs.length xs.length (some n) = xs.length ∧ N3 q = some (.tup xs)) ∨ N3 q = some (.tup (cutV xs none (some n)))) → F (.ref q) N3) : ES Y (tSl (rSlA K) te tNoPart (tPart tb)) σ B F := fun H1 e Q q =>
  he H1 e.sub _ fun p H2 np e2 hp => hb (upd B p (.tup xs)) (Ex.new (e.none np)) H2 ((e.pure e2).beside (rest_new e.st np hp)) _ fun v N2 H3 f2 a2 b2 ⟨n, hv, hF⟩ => by
    subst hv
    have f := (FP.new (o := .tup xs) e np).trans e.st (e.keep e2) f2
    have hp2 := f2.ex p _ upd_same
    refine ⟨n, rfl, p, xs, rfl, st_of (a2.sub p _ hp2), fun z => q _ N2 H3 f a2 (HY.trans (e.keep e2) b2) (hF p N2 (Ex.refl _) (.inl ⟨z.2, hp2⟩)), fun _ r hr => ?_⟩
    exact q (.ref r) (upd N2 r _) _ (f.trans e.st (HY.trans (e.keep e2) b2) (FP.new a2 hr)) (a2.new hr) ((HY.trans (e.keep e2) b2).pure (Ex.new hr)) (hF r _ (Ex.new (a2.none hr)) (.inr upd_same))
theorem es_slL (he : EvN te σ B (.lst xs)) (hb : ∀ N, Ex B N → ES Y tb σ N fun v N2 => ∃ n : Int, v = .int n ∧ ∀ q N3, Ex N2 N3 → N3 q = some (.lst (cutV xs none (some n))) → F (.ref q) N3) : ES Y (tSl (rSlL K) te tNoPart (tPart tb)) σ B F := fun H1 e Q q =>
  he H1 e.sub _ fun p H2 np e2 hp => hb (upd B p (.lst xs)) (Ex.new (e.none np)) H2 ((e.pure e2).beside (rest_new e.st np hp)) _ fun v N2 H3 f2 a2 b2 ⟨n, hv, hF⟩ => by
    subst hv
    have f := (FP.new (o := .lst xs) e np).trans e.st (e.keep e2) f2
    have hp2 := f2.ex p _ upd_same
    refine ⟨n, rfl, p, xs, rfl, sq_of (a2.sub p _ hp2), fun r hr => ?_⟩
    exact q (.ref r) (upd N2 r _) _ (f.trans e.st (HY.trans (e.keep e2) b2) (FP.new a2 hr)) (a2.new hr) ((HY.trans (e.keep e2) b2).pure (Ex.new hr)) (hF r _ (Ex.new (a2.none hr)) upd_same)
end
section
variable {K : PySem.W.Frag} {Y : Ys} {O : Org} {σ : L2.St} {N G : Hp} {te : TE} {tz : TS} {D : Ends} {o : HO}
theorem g_newR {i : Nat} (d : Dj O N G) (h : EvN te σ (fr N G) o) (k : ∀ p, G p = none → N p = none → Y.ro p = none → Dj O N (upd G p o) → RS Y O tz D (σ.set i (some (.ref p))) (fr N (upd G p o))) : RS Y O (tSeq (tAsg te (gName i)) tz) D σ (fr N G) := fun H e =>
  h H e.hy.sub _ fun p H2 np e2 hp => by
    have hb : fr N G p = none := e.hy.none np
    have hG : G p = none := by
      cases hg : G p with
      | none => rfl
      | some u => rw [fr_in hg] at hb; cases hb
    have a := e.step (FP.new (o := o) e.hy np) ((e.hy.pure e2).beside (rest_new e.hy.st np hp)) (e.hy.keep e2)
    rw [fr_upd] at a
    exact k p hG (fresh_back d.ex hb) (e.hy.st.off np) (d.new hb) H2 a
theorem yo_ro {a : Addr} (h : G a = none) : (yo Y G).ro a = Y.ro a := fr_out h
theorem ro_off {a p : Addr} {u : HO} (h1 : Y.ro p = none) (h2 : Y.ro a = some u) : a ≠ p := fun c => by
  subst c
  rw [h1] at h2
  cases h2
end
/-! ### definitions -/
/-- (name, shape, default, aliases) -/
def FdP (nm ne : List Str) (f : PyData) : Prop := ∃ (n : Str) (s d : PyData) (as : List Str), f = .tuple [.str n, s, d, .tuple (as.map PyData.str)] ∧ as.length ≤ 10 ∧ ShP nm 2 s ∧ (∀ m, s = .tuple [.str "named", .str m] → m ∈ ne) ∧ n.length ≤ 100
inductive DfP (nm ne : List Str) (x : Str) : PyData → Prop where
  | fixed {n : Int} {al : PyData} (h0 : 0 ≤ n) (h1 : n < 4) : DfP nm ne x (.tuple [.str "fixed", .str x, .int n, al])
  | choice {s : Str} {ss : List Str} {d al : PyData} (hl : ss.length ≤ 3) : DfP nm ne x (.tuple [.str "choice", .str x, .tuple ((s :: ss).map PyData.str), d, al])
  | record {fs : List PyData} {al : PyData} (hl : fs.length ≤ 4) (hf : ∀ f ∈ fs, FdP nm ne f) : DfP nm ne x (.tuple [.str "record", .str x, .tuple fs, al])
/-- definitions, each leaning on the ones ahead -/
def DfsP (nm : List Str) (ks : List Str) (ds : List (PyData × PyData)) : Prop := ds.map (·.1) = ks.map PyData.str ∧ ks.Nodup ∧ (∀ k ∈ ks, k ∈ nm) ∧ ∀ (i : Nat) k, ks[i]? = some k → ∃ d, ds[i]? = some (.str k, d) ∧ DfP nm (ks.take i) k d
def preDict (K : PySem.W.Frag) (Y : Ys) (vs : List V) (B : Hp) (F : V → Hp → Prop) : Prop := ∃ (p : Addr) (xs : List V) (ds : List PyData), vs = [.ref p] ∧ B p = some (.lst xs) ∧ DqA K B xs ds ∧ (∀ d ∈ ds, ∃ (k : Str) (e : PyData), d = .tuple [.str k, e]) ∧ xs.length ≤ 1000 ∧ F = Dt K (fun _ => True)
/-- how deep its making goes -/
def JsF (ks : List Str) (n : Nat) (s : PyData) : Prop := 1 ≤ n ∧ (∀ bs, s = .tuple [.str "union", bs] → 2 ≤ n) ∧ ∀ m, s = .tuple [.str "named", .str m] → ∃ i : Nat, ks[i]? = some m ∧ i + 3 ≤ n
def preJson (K : PySem.W.Frag) (n : Nat) (Y : Ys) (vs : List V) (B : Hp) (F : V → Hp → Prop) : Prop := ∃ (pm ps : Addr) (v : V) (s : PyData) (kvs : List (Key × V)) (ds : List (PyData × PyData)) (nm ks : List Str),
  Sto Y ps B ∧ vs = [.ref pm, v, .ref ps] ∧ Y.ro pm = some (.dK kvs) ∧ DqK K B kvs ds ∧ DfsP nm ks ds ∧ Dq K B v s ∧ JsF ks n s ∧ ShP nm 2 s ∧ F = Dt K (fun _ => True)
theorem DfsP.find {nm ks : List Str} {ds : List (PyData × PyData)} (h : DfsP nm ks ds) {i : Nat} {k : Str} (hk : ks[i]? = some k) : ∃ d, (ds.find? fun kd => isK kd.1 k) = some (.str k, d) ∧ DfP nm (ks.take i) k d := by
  obtain ⟨h1, h2, _, h4⟩ := h
  obtain ⟨d, hd, hp⟩ := h4 i k hk
  refine ⟨d, ?_, hp⟩
  obtain ⟨hl, he⟩ := List.getElem?_eq_some_iff.mp hd
  obtain ⟨hkl, hke⟩ := List.getElem?_eq_some_iff.mp hk
  rw [List.find?_eq_some_iff_getElem]
  refine ⟨by simp [isK_str], i, hl, he, fun j hj => ?_⟩
  have hjl : j < ks.length := by omega
  have e1 : (ds.map (·.1))[j]? = (ks.map PyData.str)[j]? := by rw [h1]
  rw [List.getElem?_map, List.getElem?_map, List.getElem?_eq_getElem (by omega), List.getElem?_eq_getElem hjl] at e1
  have e2 : (ds[j]).1 = .str ks[j] := by simpa using e1
  rw [e2, isK_str]
  have hne : ¬ ks[j] = k := fun z => by
    have := (List.getElem?_inj hkl h2).mp ((hk.trans (by rw [List.getElem?_eq_getElem hjl, z])))
    omega
  simp [hne]
section
variable {K : PySem.W.Frag} {N : Hp} {a : Addr} {xs : List V} {kd : Str} {d : Nat} {s : PyData} {nm : List Str}
theorem dq_tup0 {k : Str} {ds : List PyData} (h : Dq K N (.ref a) (.tuple (.str k :: ds))) (ha : N a = some (.tup xs)) : ∃ ys, xs = .str k :: ys ∧ DqA K N ys ds := by
  cases h with
  | tup h1 h2 =>
    rw [ha] at h1
    cases h1
    cases h2 with
    | cons h3 h4 =>
      cases h3
      exact ⟨_, rfl, h4⟩
theorem dq_tupI {ds : List PyData} (h : Dq K N (.ref a) (.tuple ds)) (ha : N a = some (.tup xs)) : DqA K N xs ds := by
  cases h with
  | tup h1 h2 =>
    rw [ha] at h1
    cases h1
    exact h2
theorem head_union (h : Dq K N (.ref a) s) (hs : ShP nm d s) (ha : N a = some (.tup xs)) (hk : atI xs 0 = some (.str kd)) (e : kd = "union") : ∃ k0 bs, s = .tuple [.str "union", .tuple (.tuple [.str k0] :: bs)] ∧ k0 ∈ prims := by
  subst e
  cases hs with
  | prim h2 =>
    obtain ⟨ys, rfl, _⟩ := dq_tup0 h ha
    rw [at0] at hk
    cases hk
    exact absurd h2 (by decide +kernel)
  | arr h2 =>
    obtain ⟨ys, rfl, _⟩ := dq_tup0 h ha
    rw [at0] at hk
    have hk : V.str "array" = .str "union" := Option.some.inj hk
    exact absurd hk (by decide +kernel)
  | map h2 =>
    obtain ⟨ys, rfl, _⟩ := dq_tup0 h ha
    rw [at0] at hk
    have hk : V.str "map" = .str "union" := Option.some.inj hk
    exact absurd hk (by decide +kernel)
  | uni h2 h3 h4 => exact ⟨_, _, rfl, h2⟩
  | nam h2 =>
    obtain ⟨ys, rfl, _⟩ := dq_tup0 h ha
    rw [at0] at hk
    have hk : V.str "named" = .str "union" := Option.some.inj hk
    exact absurd hk (by decide +kernel)
theorem dq_union {k0 : Str} {bs : List PyData} (h : Dq K N (.ref a) (.tuple [.str "union", .tuple (.tuple [.str k0] :: bs)])) (ha : N a = some (.tup xs)) : ∃ au xu a0 x0, atI xs 1 = some (.ref au) ∧ N au = some (.tup xu) ∧ atI xu 0 = some x0 ∧ a0 = () ∧ Dq K N x0 (.tuple [.str k0]) := by
  obtain ⟨ys, rfl, h1⟩ := dq_tup0 h ha
  cases h1 with
  | cons h2 h3 =>
    cases h3
    cases h2 with
    | tup h4 h5 =>
      cases h5 with
      | cons h6 h7 => exact ⟨_, _, (), _, at1, h4, at0, rfl, h6⟩
theorem dq_named {m : Str} (h : Dq K N (.ref a) (.tuple [.str "named", .str m])) (ha : N a = some (.tup xs)) : atI xs 1 = some (.str m) := by
  obtain ⟨ys, rfl, h1⟩ := dq_tup0 h ha
  cases h1 with
  | cons h2 h3 =>
    cases h2
    exact at1
theorem head_named (h : Dq K N (.ref a) s) (hs : ShP nm d s) (ha : N a = some (.tup xs)) (hk : atI xs 0 = some (.str kd)) (e : kd ∉ prims ∧ kd ≠ "array" ∧ kd ≠ "map" ∧ kd ≠ "union") : ∃ m, s = .tuple [.str "named", .str m] ∧ m ∈ nm := by
  cases hs with
  | prim h2 =>
    obtain ⟨ys, rfl, _⟩ := dq_tup0 h ha
    rw [at0] at hk
    cases hk
    exact absurd h2 e.1
  | arr h2 =>
    obtain ⟨ys, rfl, _⟩ := dq_tup0 h ha
    rw [at0] at hk
    cases hk
    exact absurd rfl e.2.1
  | map h2 =>
    obtain ⟨ys, rfl, _⟩ := dq_tup0 h ha
    rw [at0] at hk
    cases hk
    exact absurd rfl e.2.2.1
  | uni h2 h3 h4 =>
    obtain ⟨ys, rfl, _⟩ := dq_tup0 h ha
    rw [at0] at hk
    cases hk
    exact absurd rfl e.2.2.2
  | nam h2 => exact ⟨_, rfl, h2⟩
end
def preApart (K : PySem.W.Frag) (nm ne : List Str) (Y : Ys) (vs : List V) (B : Hp) (F : V → Hp → Prop) : Prop := ∃ (p : Addr) (xs : List V) (fs : List PyData), vs = [.ref p] ∧ B p = some (.lst xs) ∧ DqA K B xs fs ∧ fs.length ≤ 4 ∧ (∀ f ∈ fs, FdP nm ne f) ∧
  F = Dt K (fun d => ∃ gs, d = .tuple gs ∧ gs.length = fs.length ∧ ∀ f ∈ gs, FdP nm ne f)
theorem dqa_strs {K : PySem.W.Frag} {N : Hp} : ∀ {ys : List V} {as : List Str}, DqA K N ys (as.map PyData.str) → ys = as.map V.str
  | _, [], .nil => rfl
  | _, a :: as, h => by
    cases h with
    | cons h1 h2 =>
      cases h1
      rw [dqa_strs h2]
      rfl
theorem dqa_ofStrs {K : PySem.W.Frag} {N : Hp} : ∀ as : List Str, DqA K N (as.map V.str) (as.map PyData.str)
  | [] => .nil
  | a :: as => .cons (.str a) (dqa_ofStrs as)
/-- the parts of a field -/
theorem dq_field {K : PySem.W.Frag} {N : Hp} {v : V} {n : Str} {s d : PyData} {as : List Str} (h : Dq K N v (.tuple [.str n, s, d, .tuple (as.map PyData.str)])) : ∃ a vs vd aa, v = .ref a ∧ N a = some (.tup [.str n, vs, vd, .ref aa]) ∧ Dq K N vs s ∧ Dq K N vd d ∧ N aa = some (.tup (as.map V.str)) := by
  cases h with
  | tup h1 h2 =>
    cases h2 with
    | cons h3 h4 =>
      cases h3
      cases h4 with
      | cons h5 h6 =>
        cases h6 with
        | cons h7 h8 =>
          cases h8 with
          | cons h9 h10 =>
            cases h10
            cases h9 with
            | tup h11 h12 =>
              rw [dqa_strs h12] at h11
              exact ⟨_, _, _, _, rfl, h1, h5, h7, h11⟩
def preDef (K : PySem.W.Frag) (Y : Ys) (vs : List V) (B : Hp) (F : V → Hp → Prop) : Prop := ∃ (ps p pm : Addr) (x : Str) (kvs : List (Key × V)) (ds : List (PyData × PyData)) (nm ks : List Str),
  Sto Y ps B ∧ vs = [.ref ps, .str x, .ref p, .ref pm] ∧ Nms nm p B ∧ Y.ro pm = some (.dK kvs) ∧ DqK K B kvs ds ∧ DfsP nm ks ds ∧ ks.length ≤ 10 ∧ F = Dt K (DfP nm ks x)
end FK

set_option Elab.async false
set_option linter.all false
set_option maxRecDepth 100000
/-! what is reached from a shape (own text) -/
namespace FK
open PySem PySem.Spec PyProof.Rows L2 Evl FkE
inductive Al (L : List Str) : PyData → Prop where
  | prim {k : Str} (h : k ∈ prims) : Al L (.tuple [.str k])
  | arr {s : PyData} (h : Al L s) : Al L (.tuple [.str "array", s])
  | map {s : PyData} (h : Al L s) : Al L (.tuple [.str "map", s])
  | uni {k : Str} {bs : List PyData} (h : k ∈ prims) (hb : ∀ b ∈ bs, Al L b) : Al L (.tuple [.str "union", .tuple (.tuple [.str k] :: bs)])
  | nam {n : Str} (h : n ∈ L) : Al L (.tuple [.str "named", .str n])
theorem Al.named {L : List Str} {n : Str} (h : Al L (.tuple [.str "named", .str n])) : n ∈ L := by
  cases h with
  | nam h => exact h
theorem ShP.al {nm L : List Str} : ∀ {d : Nat} {s : PyData}, ShP nm d s → Al L s → ShP L d s
  | _, _, .prim h, _ => .prim h
  | _, _, .nam h, a => .nam a.named
  | _, _, .arr h, a => .arr (h.al (by
    cases a with
    | arr h => exact h))
  | _, _, .map h, a => .map (h.al (by
    cases a with
    | map h => exact h))
  | _, _, .uni h hl hb, a => .uni h hl fun b hm => (hb b hm).al (by
    cases a with
    | uni h2 hb2 => exact hb2 b hm)
mutual
def gsz : PyData → Nat
  | .tuple ds => 1 + gszA ds
  | _ => 1
def gszA : List PyData → Nat
  | [] => 0
  | d :: r => gsz d + gszA r
end
theorem gsz_pos : ∀ d : PyData, 1 ≤ gsz d
  | .tuple ds => by simp only [gsz]; omega
  | .none | .bool _ | .int _ | .str _ | .list _ | .dict _ => by simp only [gsz]; omega
theorem gszA_app : ∀ (a b : List PyData), gszA (a ++ b) = gszA a + gszA b
  | [], b => by simp [gszA]
  | x :: a, b => by simp only [List.cons_append, gszA, gszA_app a b]; omega
theorem gszA_nil {ws : List PyData} (h : gszA ws = 0) : ws = [] := by
  cases ws with
  | nil => rfl
  | cons w r =>
    have := gsz_pos w
    simp only [gszA] at h
    omega
def bnd : Nat → Nat
  | 0 => 3
  | d + 1 => 5 + 2 * bnd d
theorem bnd_3 : ∀ d, 3 ≤ bnd d
  | 0 => Nat.le_refl _
  | d + 1 => by simp only [bnd]; omega
theorem gszA_le {b : Nat} : ∀ {bs : List PyData}, (∀ x ∈ bs, gsz x ≤ b) → gszA bs ≤ bs.length * b
  | [], _ => by simp [gszA]
  | x :: r, h => by
    have h1 := h x List.mem_cons_self
    have h2 := gszA_le (bs := r) fun y hy => h y (List.mem_cons_of_mem _ hy)
    simp only [gszA, List.length_cons, Nat.succ_mul]
    omega
theorem ShP.sz {nm : List Str} : ∀ {d : Nat} {s : PyData}, ShP nm d s → gsz s ≤ bnd d
  | d, _, .prim h => by
    have := bnd_3 d
    simp only [gsz, gszA]
    omega
  | d, _, .nam h => by
    have := bnd_3 d
    simp only [gsz, gszA]
    omega
  | d + 1, _, .arr h => by
    have := h.sz
    simp only [gsz, gszA, bnd]
    omega
  | d + 1, _, .map h => by
    have := h.sz
    simp only [gsz, gszA, bnd]
    omega
  | d + 1, _, .uni (bs := bs) h hl hb => by
    have h1 := gszA_le (b := bnd d) fun x hx => (hb x hx).sz
    have h2 : bs.length * bnd d ≤ 2 * bnd d := Nat.mul_le_mul_right _ hl
    simp only [gsz, gszA, bnd]
    omega
/-- a field's shape; the shapes of a record's fields -/
def fshp : PyData → PyData
  | .tuple (_ :: s :: _) => s
  | _ => .none
def dshp : PyData → List PyData
  | .tuple (.str k :: _ :: .tuple fs :: _) => if k = "record" then fs.map fshp else []
  | _ => []
def inK (x : PyData) (ks : List Str) : Bool := ks.any fun k => isK x k
def Sm (ks : List Str) : List (PyData × PyData) → Nat
  | [] => 0
  | (x, d) :: r => (if inK x ks = true then 0 else gszA (dshp d)) + Sm ks r
theorem inK_str {n : Str} {ks : List Str} : inK (.str n) ks = decide (n ∈ ks) := by
  unfold inK
  rw [Bool.eq_iff_iff]
  simp [isK_str]
theorem inK_more {x : PyData} {ks : List Str} {n : Str} (h : inK x ks = true) : inK x (ks ++ [n]) = true := by
  unfold inK at h ⊢
  rw [List.any_append, h]
  rfl
theorem Sm_le {ks : List Str} {n : Str} : ∀ ds : List (PyData × PyData), Sm (ks ++ [n]) ds ≤ Sm ks ds
  | [] => Nat.le_refl _
  | (x, d) :: r => by
    have ih := Sm_le (ks := ks) (n := n) r
    simp only [Sm]
    by_cases h : inK x ks = true
    · rw [if_pos h, if_pos (inK_more h)]
      omega
    · rw [if_neg h]
      split <;> omega
theorem Sm_add {ks : List Str} {n : Str} {d : PyData} (hn : n ∉ ks) : ∀ {ds : List (PyData × PyData)}, (.str n, d) ∈ ds → Sm (ks ++ [n]) ds + gszA (dshp d) ≤ Sm ks ds
  | (x, e) :: r, h => by
    rcases List.mem_cons.mp h with h | h
    · cases h
      have ih := Sm_le (ks := ks) (n := n) r
      simp only [Sm]
      rw [if_pos (by rw [inK_str]; simp), if_neg (by rw [inK_str]; simp [hn])]
      omega
    · have ih := Sm_add hn h
      have := Sm_le (ks := ks) (n := n) [(x, e)]
      simp only [Sm] at this ⊢
      omega
/-- a definition whose shapes are among these names -/
def AlD (L : List Str) (d : PyData) : Prop := ∀ s ∈ dshp d, Al L s
theorem DfP.all {nm ne L : List Str} {x : Str} {d : PyData} (h : DfP nm ne x d) (a : AlD L d) : DfP L ne x d := by
  cases h with
  | fixed h0 h1 => exact .fixed h0 h1
  | choice hl => exact .choice hl
  | record hl hf =>
    refine .record hl fun f hm => ?_
    obtain ⟨n, s, d, as, rfl, h1, h2, h3, h4⟩ := hf f hm
    have hs : Al L s := a s (by
      simp only [dshp]
      exact List.mem_map.mpr ⟨_, hm, rfl⟩)
    exact ⟨n, s, d, as, rfl, h1, h2.al hs, h3, h4⟩
/-- what has been found, with what waits, is enough -/
def Enough (root : PyData) (ks : List Str) (es : List (PyData × PyData)) (ws : List PyData) : Prop := ∀ L : List Str, (∀ k ∈ ks, k ∈ L) → (∀ w ∈ ws, Al L w) → Al L root ∧ ∀ x d, (x, d) ∈ es → AlD L d
def preReach (K : PySem.W.Frag) (Y : Ys) (vs : List V) (B : Hp) (F : V → Hp → Prop) : Prop := ∃ (v : V) (root : PyData) (pm : Addr) (kvs : List (Key × V)) (ds : List (PyData × PyData)) (nm ks : List Str),
  vs = [v, .ref pm] ∧ Dq K B v root ∧ ShP nm 2 root ∧ Y.ro pm = some (.dK kvs) ∧ DqK K B kvs ds ∧ DfsP nm ks ds ∧ (∀ n ∈ nm, n ∈ ks) ∧ ks.length ≤ 3 ∧
  F = Dt K (fun d => ∃ es us, d = .dict es ∧ es.map (·.1) = us.map PyData.str ∧ us.Nodup ∧ us.length ≤ 3 ∧ (∀ u ∈ us, u ∈ ks) ∧ ShP us 2 root ∧ ∀ u d, (.str u, d) ∈ es → ∃ i : Nat, ks[i]? = some u ∧ DfP us (ks.take i) u d)
section
variable {K : PySem.W.Frag} {Y : Ys} {O : Org} {σ : L2.St} {B N G : Hp} {ta te tl : TE} {as : TA} {tu tz : TS} {D : Ends} {y : V}
theorem g_pop {i : Nat} {l : Addr} {xs : List V} (d : Dj O N G) (hl : G l = some (.lst (xs ++ [y]))) (ha : Ev ta σ (fr N G) (.ref l)) (k : Dj O N (upd G l (.lst xs)) → RS Y O tz D (σ.set i (some y)) (fr N (upd G l (.lst xs)))) : RS Y O (tSeq (tAsg (tBM0 K "list" rPop ta) (gName i)) tz) D σ (fr N G) := fun H e => ha H e.hy.sub _ fun H2 e2 => by
  have a2 := e.pure e2
  have hl2 : H2 l = some (.lst (xs ++ [y])) := a2.hy.sub l _ (fr_in hl)
  have A4 := a2.put (o := .lst xs) (d.own l (by rw [hl]; simp)) (fr_in hl)
  rw [fr_upd] at A4
  refine ⟨Or.inl ⟨rfl, _, sq_of hl2⟩, l, xs ++ [y], y, rfl, rfl, hl2, by simp, ?_⟩
  rw [List.dropLast_concat]
  exact k (d.put hl) _ A4
/-- a new object that will change, made in some way -/
theorem g_asgN {i : Nat} {Fo : HO → Hp → Prop} (d : Dj O N G) (h : ES (yo Y G) te σ N fun v N1 => ∃ N2 q o, v = .ref q ∧ N1 = upd N2 q o ∧ N2 q = none ∧ Ex N N2 ∧ Fo o N2) (k : ∀ N2 q o, Ex N N2 → G q = none → N2 q = none → Y.ro q = none → Dj O N2 (upd G q o) → Fo o N2 → RS Y O tz D (σ.set i (some (.ref q))) (fr N2 (upd G q o))) :
    RS Y O (tSeq (tAsg te (gName i)) tz) D σ (fr N G) := g_asgR d h fun v N1 e hr dj ⟨N2, q, o, hv, hN, hq, e2, hF⟩ => by
  subst hv hN
  have hrq : Y.ro q = none := hr q (by rw [upd_same]; simp) (fresh_back e2 hq)
  have hG : G q = none := by
    cases hg : G q with
    | none => rfl
    | some u =>
      have := dj.off q (by rw [hg]; simp)
      rw [upd_same] at this
      cases this
  have eq : fr (upd N2 q o) G = fr N2 (upd G q o) := by
    funext a
    by_cases c : a = q
    · subst c
      rw [fr_out hG, upd_same, fr_in upd_same]
    · unfold fr
      rw [upd_ne c, upd_ne c]
  rw [eq]
  have old := d.old.trans e2
  refine k N2 q o e2 hG hq hrq ⟨fun a z => ?_, fun a z => ?_, old⟩ hF
  · by_cases c : a = q
    · subst c
      exact hq
    · rw [upd_ne c] at z
      have := dj.off a z
      rwa [upd_ne c] at this
  · by_cases c : a = q
    · subst c
      exact fresh_back old hq
    · rw [upd_ne c] at z
      exact dj.own a z
/-- what no longer counts is forgotten -/
theorem g_less {G' : Hp} (d : Dj O N G) (e : Ex G' G) (k : Dj O N G' → RS Y O tz D σ (fr N G')) : RS Y O tz D σ (fr N G) := by
  have d' : Dj O N G' := ⟨fun a z => d.off a (by
    cases h : G' a with
    | none => exact absurd h z
    | some o => rw [e a o h]; simp), fun a z => d.own a (by
    cases h : G' a with
    | none => exact absurd h z
    | some o => rw [e a o h]; simp), d.old⟩
  refine RS.weak d'.base (fun a u hu => ?_) (k d')
  cases h : G' a with
  | some o =>
    rw [fr_in h] at hu
    rw [fr_in (e a o h)]
    exact hu
  | none =>
    rw [fr_out h] at hu
    exact d.ex a u hu
theorem eis_tupS {Gx : List V → Hp → Prop} (h : ES Y tl σ B fun v N => ∃ a xs, v = .ref a ∧ SqT K N a xs ∧ Gx xs N) : EIS Y (iTup K tl) σ B Gx := fun H1 e R k => h H1 e _ fun v N H2 f a b ⟨ad, xs, hv, hx, hG⟩ => by
  subst hv
  exact ⟨ad, rfl, ⟨xs, ex_t a.sub hx⟩, k _ N H2 _ xs f a b hG walk_tup fun H3 e3 => ex_t e3 hx⟩
theorem s_forR1K {j : Nat} {n : Int} (Mid : L2.St → Hp → Prop) (h : EvA as σ B [.int n]) (hn : 0 ≤ n ∧ n ≤ 100000) (Pv : Nat → L2.St → Hp → Prop) (h0 : Pv 0 σ B) (k : ∀ σ' B', Mid σ' B' → RS Y O tz D σ' B')
    (hs : (∀ σ' B', Mid σ' B' → RS Y O tz D σ' B') → ∀ (i : Nat) σ' B', (i : Int) < n → Pv i σ' B' → RS Y O tu (LpS Y O Pv i D tz) (σ'.set j (some (.int (i : Int)))) B') (hd : ∀ σ' B', Pv n.toNat σ' B' → Mid σ' B') : RS Y O (tSeq (tFor (iRng1 as) (gName j) tu) tz) D σ B := fun H e =>
  q_forR1 (D := D) (h.mono e.hy.sub) hn (UpS Y O Pv) (fun H1 e1 => ⟨B, e.pure e1, h0⟩) (fun i σ' H' hi ⟨B', e', p⟩ => hs k i σ' B' hi p H' e') fun σ' H' ⟨B', e', p⟩ => k σ' B' (hd σ' B' p) H' e'
end
theorem Sm_bound {ks : List Str} {b : Nat} : ∀ {ds : List (PyData × PyData)}, (∀ x d, (x, d) ∈ ds → gszA (dshp d) ≤ b) → Sm ks ds ≤ ds.length * b
  | [], _ => by simp [Sm]
  | (x, d) :: r, h => by
    have h1 := h x d List.mem_cons_self
    have h2 := Sm_bound (ks := ks) (ds := r) fun x d hm => h x d (List.mem_cons_of_mem _ hm)
    simp only [Sm, List.length_cons, Nat.succ_mul]
    split <;> omega
theorem DfP.dsz {nm ne : List Str} {x : Str} {d : PyData} (h : DfP nm ne x d) : gszA (dshp d) ≤ 108 := by
  cases h with
  | fixed h0 h1 =>
    simp only [dshp]
    exact Nat.zero_le _
  | choice hl =>
    simp only [dshp]
    exact Nat.zero_le _
  | record hl hf =>
    rename_i fs al
    have h1 : gszA (fs.map fshp) ≤ (fs.map fshp).length * 27 := gszA_le fun s hs => by
      obtain ⟨f, hm, rfl⟩ := List.mem_map.mp hs
      obtain ⟨n, s, d, as, rfl, _, h2, _⟩ := hf f hm
      exact h2.sz
    rw [List.length_map] at h1
    have h2 : fs.length * 27 ≤ 4 * 27 := Nat.mul_le_mul_right _ hl
    show gszA (if (Str.ofString "record") = (Str.ofString "record") then fs.map fshp else []) ≤ 108
    rw [if_pos rfl]
    omega
theorem DfsP.mem {nm ks : List Str} {ds : List (PyData × PyData)} (h : DfsP nm ks ds) {x d : PyData} (hm : (x, d) ∈ ds) : ∃ (i : Nat) (k : Str), x = .str k ∧ ks[i]? = some k ∧ DfP nm (ks.take i) k d := by
  obtain ⟨i, hi⟩ := List.mem_iff_getElem?.mp hm
  have hl : ds.length = ks.length := by
    have := congrArg List.length h.1
    simpa using this
  have hil := (List.getElem?_eq_some_iff.mp hi).1
  obtain ⟨d2, h1, h2⟩ := h.2.2.2 i ks[i] (List.getElem?_eq_getElem (by omega))
  rw [hi] at h1
  cases h1
  exact ⟨i, _, rfl, List.getElem?_eq_getElem (by omega), h2⟩
theorem len_sub : ∀ {us ks : List Str}, us.Nodup → (∀ u ∈ us, u ∈ ks) → us.length ≤ ks.length
  | [], _, _, _ => Nat.zero_le _
  | u :: r, ks, hn, hs => by
    have hu := hs u List.mem_cons_self
    obtain ⟨h1, h2⟩ := List.nodup_cons.mp hn
    have ih := len_sub (us := r) (ks := ks.erase u) h2 fun w hw => (List.mem_erase_of_ne (fun c : w = u => h1 (by rw [← c]; exact hw))).mpr (hs w (List.mem_cons_of_mem _ hw))
    rw [List.length_erase_of_mem hu] at ih
    have : 0 < ks.length := List.length_pos_of_mem hu
    simp only [List.length_cons]
    omega
section
variable {K : PySem.W.Frag} {Y : Ys} {σ : L2.St} {B N : Hp} {ta tb td ty : TE} {r : R2} {F : V → Hp → Prop}
theorem dqa_last : ∀ {wx : List V} {ws : List PyData}, DqA K N wx ws → wx ≠ [] → ∃ wx' ws' y s, wx = wx' ++ [y] ∧ ws = ws' ++ [s] ∧ DqA K N wx' ws' ∧ Dq K N y s
  | _, _, .nil, hn => absurd rfl hn
  | _, _, .cons (vs := []) a .nil, _ => ⟨[], [], _, _, rfl, rfl, .nil, a⟩
  | _, _, .cons (vs := z :: vs) a t, _ => by
    obtain ⟨wx', ws', y, s, h1, h2, h3, h4⟩ := dqa_last t (by simp)
    exact ⟨_ :: wx', _ :: ws', y, s, by rw [h1]; rfl, by rw [h2]; rfl, .cons a h3, h4⟩
theorem es_opNR {Fa : V → Hp → Prop} (ha : ES Y ta σ B Fa) (hb : ∀ x N, Ex B N → Fa x N → ES Y tb σ N fun y N2 => ∃ o, (∀ H1, Ex N2 H1 → Ex Y.ro H1 → ∀ Q : VK, (∀ p, H1 p = none → Q (.ref p) (upd H1 p o)) → r x y H1 Q) ∧ ∀ p, N2 p = none → F (.ref p) (upd N2 p o)) : ES Y (tOp r ta tb) σ B F := fun H1 e Q q =>
  ha H1 e _ fun x N H2 f1 a1 b1 c1 => hb x N f1.ex c1 H2 a1 _ fun y N2 H3 f2 a2 b2 ⟨o, hr, hF⟩ => hr H3 a2.sub (a2.st.r.trans rest_sub) Q (es_alloc e (f1.trans e.st b1 f2) a2 (HY.trans b1 b2) hF q)
theorem ev_dnin {a : Addr} {kvs : List (Key × V)} {k : Key} (hk : Ev ty σ B (kV k)) (h : Ev td σ B (.ref a)) (hd : B a = some (.dK kvs)) : Ev (tDNotIn ty td) σ B (.bl (!(valV kvs k).isSome)) := fun H1 e Q q =>
  hk H1 e _ fun H2 e2 => h H2 (e.trans e2) _ fun H3 e3 => ⟨a, valV kvs k, rfl, DGet.k (((e.trans e2).trans e3) a _ hd), q H3 (e2.trans e3)⟩
end
theorem Al.more {L L' : List Str} (h : ∀ n ∈ L, n ∈ L') : ∀ {s : PyData}, Al L s → Al L' s
  | _, .prim h1 => .prim h1
  | _, .arr h1 => .arr (h1.more h)
  | _, .map h1 => .map (h1.more h)
  | _, .uni h1 h2 => .uni h1 fun b hb => (h2 b hb).more h
  | _, .nam h1 => .nam (h _ h1)
theorem len_gsz : ∀ ws : List PyData, ws.length ≤ gszA ws
  | [] => Nat.zero_le _
  | w :: r => by
    have h1 := gsz_pos w
    have h2 := len_gsz r
    simp only [gszA, List.length_cons]
    omega
theorem dqa_pt {K : PySem.W.Frag} {N : Hp} : ∀ {ys : List V} {ds : List PyData}, ys.length = ds.length → (∀ (i : Nat) y d, ys[i]? = some y → ds[i]? = some d → Dq K N y d) → DqA K N ys ds
  | [], [], _, _ => .nil
  | [], d :: ds, h, _ => by simp at h
  | y :: ys, [], h, _ => by simp at h
  | y :: ys, d :: ds, h, hp => .cons (hp 0 y d rfl rfl) (dqa_pt (by simpa using h) fun i a b h1 h2 => hp (i + 1) a b (by simpa using h1) (by simpa using h2))
theorem g_ret {Y : Ys} {O : Org} {σ : L2.St} {N G : Hp} {te : TE} {tz : TS} {D : Ends} {F : V → Hp → Prop} (d : Dj O N G) (h : ES (yo Y G) te σ N F) (k : ∀ v N2, Ex N N2 → F v N2 → ∀ H2, At Y O N2 H2 → D.rt v H2) : RS Y O (tSeq (tRet te) tz) D σ (fr N G) := fun H e => h H (d.yo e.hy) _ fun v N2 H2 f a b c =>
  let ⟨A, d2⟩ := At.frame d e f (d.back e.hy b a) (d.back e.hy b b)
  k v N2 f.ex c H2 (At.weak d2.old d2.ex A)
/-- a whole schema -/
def Sch (us : List Str) (root : PyData) (es : List (PyData × PyData)) : Prop := es.map (·.1) = us.map PyData.str ∧ us.Nodup ∧ us.length ≤ 3 ∧ ShP us 2 root ∧ ∃ ks : List Str, ks.Nodup ∧ ks.length ≤ 3 ∧ ∀ u d, (.str u, d) ∈ es → ∃ i : Nat, ks[i]? = some u ∧ DfP us (ks.take i) u d
def preSchema (K : PySem.W.Frag) (Y : Ys) (vs : List V) (B : Hp) (F : V → Hp → Prop) : Prop := ∃ ps : Addr, Sto Y ps B ∧ vs = [.ref ps] ∧ F = fun v N => ∃ root es us, Dq K N v (.tuple [root, .dict es]) ∧ Sch us root es
theorem DfsP.snoc {nm : List Str} {es : List (PyData × PyData)} {i : Nat} {x : Str} {d : PyData} (h : DfsP nm (nm.take i) es) (hx : nm[i]? = some x) (hn : nm.Nodup) (hd : DfP nm (nm.take i) x d) : DfsP nm (nm.take (i + 1)) (es ++ [(.str x, d)]) := by
  have ht : nm.take (i + 1) = nm.take i ++ [x] := by rw [List.take_add_one, hx]; rfl
  obtain ⟨hi, hx2⟩ := List.getElem?_eq_some_iff.mp hx
  have hl : (nm.take i).length = i := by rw [List.length_take]; omega
  have hel : es.length = i := by
    have := congrArg List.length h.1
    rw [List.length_map, List.length_map, hl] at this
    exact this
  refine ⟨by rw [ht, List.map_append, List.map_append, h.1]; rfl, hn.sublist (List.take_sublist _ _), fun k hk => List.mem_of_mem_take hk, fun j k hj => ?_⟩
  rw [List.getElem?_take] at hj
  split at hj
  · by_cases c : j < i
    · obtain ⟨d2, h1, h2⟩ := h.2.2.2 j k (by rw [List.getElem?_take, if_pos c]; exact hj)
      refine ⟨d2, by rw [List.getElem?_append_left (by omega)]; exact h1, ?_⟩
      rw [List.take_take] at h2 ⊢
      rw [Nat.min_eq_left (by omega)] at h2 ⊢
      exact h2
    · have hji : j = i := by omega
      subst hji
      rw [hx] at hj
      cases hj
      refine ⟨d, by rw [List.getElem?_append_right (by omega), hel]; simp, ?_⟩
      rw [List.take_take, Nat.min_eq_left (by omega)]
      exact hd
  · cases hj
end FK

set_option Elab.async false
set_option linter.all false
set_option maxRecDepth 100000
/-! numbers, texts and plain values, drawn (own text) -/
namespace FK
open PySem PySem.Spec PyProof.Rows L2 Evl FkE
def IntF (P : Int → Prop) : V → Hp → Prop := fun v _ => ∃ n : Int, v = .int n ∧ P n
section
variable {K : PySem.W.Frag} {Y : Ys} {σ : L2.St} {B : Hp} {ta tb te : TE} {P1 P2 P : Int → Prop} {f : Int → Int → Int} {C : Int → Int → Prop}
theorem ein_ev {n : Int} (h : Ev te σ B (.int n)) (hP : P n) : ES Y te σ B (IntF P) := es_ev h ⟨n, rfl, hP⟩
theorem ein_opC (h1 : ES Y ta σ B (IntF P1)) (h2 : ∀ N, Ex B N → ES Y tb σ N (IntF P2)) (h : ∀ a b, P1 a → P2 b → C a b ∧ P (f a b)) : ES Y (tOp (rI C fun i j => .int (f i j)) ta tb) σ B (IntF P) :=
  es_op h1 fun x N e ⟨a, hx, ha⟩ => (h2 N e).imp fun y N2 _ ⟨b, hy, hb⟩ => by
    subst hx hy
    exact ⟨_, rv_arC (h a b ha hb).1, _, rfl, (h a b ha hb).2⟩
theorem ein_op (h1 : ES Y ta σ B (IntF P1)) (h2 : ∀ N, Ex B N → ES Y tb σ N (IntF P2)) (h : ∀ a b, P1 a → P2 b → P (f a b)) : ES Y (tOp (rI0 fun i j => .int (f i j)) ta tb) σ B (IntF P) :=
  es_op h1 fun x N e ⟨a, hx, ha⟩ => (h2 N e).imp fun y N2 _ ⟨b, hy, hb⟩ => by
    subst hx hy
    exact ⟨_, rv_ar, _, rfl, h a b ha hb⟩
theorem ein_next {ps : Addr} {b : Int} {E : XK} (hs : Sto Y ps B) (h1 : Ev ta σ B (.ref ps)) (h2 : Ev tb σ B (.int b)) (hb : 0 < b) : ES Y (tCall spNext [] E (tCons ta (tCons tb tNil))) σ B (IntF fun r => 0 ≤ r ∧ r < b) := es_next hs h1 h2 hb
theorem ein_int (h : ES Y te σ B (IntF P)) : ES Y (tCB (fun xs H Q => (∃ i, xs = [V.int i] ∧ Q (.int i) H) ∨ ∃ k, xs = [.bl k] ∧ Q (.int (if k then 1 else 0)) H) (tCons te tNil)) σ B (IntF P) :=
  es_cb (esa_cons h fun x N e ⟨n, hx, hn⟩ => esa_nil ⟨.int n, fun H1 _ Q q => .inl ⟨n, by rw [hx], q H1 (Ex.refl H1)⟩, n, rfl, hn⟩)
end
def preNum (Y : Ys) (vs : List V) (B : Hp) (F : V → Hp → Prop) : Prop := ∃ (ps : Addr) (b : Int), Sto Y ps B ∧ vs = [.ref ps, .int b] ∧ (b = 31 ∨ b = 63) ∧ F = IntF fun n => -(2 ^ b.toNat) ≤ n ∧ n < 2 ^ b.toNat
/-- a text of characters -/
def TXT : List Nat := ("abcXY z09{~" : Str).cps.toList
theorem txt_len : TXT.length = 11 := by decide +kernel
def TxtF (m : Nat) : V → Hp → Prop := fun v _ => ∃ cs : List Nat, v = .str (SX.S cs) ∧ cs.length ≤ m ∧ ∀ c ∈ cs, c ∈ TXT
def preText (Y : Ys) (vs : List V) (B : Hp) (F : V → Hp → Prop) : Prop := ∃ ps : Addr, Sto Y ps B ∧ vs = [.ref ps] ∧ F = TxtF 3
theorem signs_of {ys : List V} {Pc : Nat → Prop} (h : ∀ (i : Nat) y, ys[i]? = some y → ∃ c, Pc c ∧ y = V.str (SX.S [c])) : ∃ cs : List Nat, ys = cs.map (fun c => V.str (SX.S [c])) ∧ ∀ c ∈ cs, Pc c := by
  induction ys with
  | nil => exact ⟨[], rfl, fun c hc => nomatch hc⟩
  | cons y r ih =>
    obtain ⟨c, h1, h2⟩ := h 0 y rfl
    obtain ⟨cs, g1, g2⟩ := ih fun i z hz => h (i + 1) z (by simpa using hz)
    refine ⟨c :: cs, by rw [h2, g1]; rfl, fun d hd => ?_⟩
    rcases List.mem_cons.mp hd with e | e
    · rw [e]
      exact h1
    · exact g2 d e
/-- ''.join(a new list of single signs, made with the state) -/
theorem es_joinC {K : PySem.W.Frag} {Y : Ys} {σ : L2.St} {B : Hp} {tb : TE} {a : Str} (h0 : a = "") (hb : ES Y tb σ B fun v N => ∃ (p : Addr) (cs : List Nat), v = .ref p ∧ N p = some (.lst (cs.map fun c => V.str (SX.S [c]))) ∧ cs.length ≤ 3 ∧ ∀ c ∈ cs, c ∈ TXT) :
    ES Y (tM1 (fun x xs H Q => ∃ a p, ∃ ys : List Str, x = .str a ∧ xs = [.ref p] ∧ (SqL K H p (ys.map V.str) ∨ SqT K H p (ys.map V.str)) ∧ (ys.map (·.length)).sum + ys.length * a.length ≤ 16777216 ∧ Q (.str (Txt.join a ys)) H) (tC (.str a)) tb) σ B (TxtF 3) := fun H1 e Q q =>
  ⟨⟨a, rfl⟩, hb H1 e _ fun v N H2 f a2 b ⟨p, cs, hv, hp, hl, hc⟩ => by
    subst hv h0
    have e0 : (Str.ofString "") = SX.S [] := by decide +kernel
    have e1 : cs.map (fun c => SX.S [c]) = (cs.map fun c => [c]).map SX.S := by rw [List.map_map]; rfl
    have e2 : Txt.join (SX.S []) ((cs.map fun c => [c]).map SX.S) = SX.S cs := by rw [SX.join_S, joinL_signs]
    refine ⟨SX.S [], p, (cs.map fun c => [c]).map SX.S, by rw [← e0], rfl, .inl (sq_of (by rw [← e1, List.map_map]; exact a2.sub p _ hp)), ?_, ?_⟩
    · rw [SX.lens, sum_ones, SX.S_len]
      simp
      omega
    · rw [e2]
      exact q _ N H2 f a2 b ⟨cs, rfl, hl, hc⟩⟩
/-- a value of a plain shape -/
inductive PlP : Str → PyData → Prop where
  | null : PlP "null" .none
  | boolean (b : Bool) : PlP "boolean" (.bool b)
  | int {n : Int} (h0 : -2147483648 ≤ n) (h1 : n < 2147483648) : PlP "int" (.int n)
  | long {n : Int} (h0 : -9223372036854775808 ≤ n) (h1 : n < 9223372036854775808) : PlP "long" (.int n)
  | string {cs : List Nat} (hl : cs.length ≤ 3) (hc : ∀ c ∈ cs, c ∈ TXT) : PlP "string" (.str (SX.S cs))
  | bytes {ns : List Int} (hl : ns.length ≤ 3) (hn : ∀ n ∈ ns, 0 ≤ n ∧ n < 256) : PlP "bytes" (.list (ns.map PyData.int))
def prePlain (K : PySem.W.Frag) (Y : Ys) (vs : List V) (B : Hp) (F : V → Hp → Prop) : Prop := ∃ (ps : Addr) (k : Str), Sto Y ps B ∧ vs = [.str k, .ref ps] ∧ k ∈ prims ∧ F = Dt K (PlP k)
theorem ints_of {ys : List V} {Pn : Int → Prop} (h : ∀ (i : Nat) y, ys[i]? = some y → ∃ n : Int, y = .int n ∧ Pn n) : ∃ ns : List Int, ys = ns.map V.int ∧ ∀ n ∈ ns, Pn n := by
  induction ys with
  | nil => exact ⟨[], rfl, fun c hc => nomatch hc⟩
  | cons y r ih =>
    obtain ⟨c, h1, h2⟩ := h 0 y rfl
    obtain ⟨cs, g1, g2⟩ := ih fun i z hz => h (i + 1) z (by simpa using hz)
    refine ⟨c :: cs, by rw [h1, g1]; rfl, fun d hd => ?_⟩
    rcases List.mem_cons.mp hd with e | e
    · rw [e]
      exact h2
    · exact g2 d e
theorem dqa_int {K : PySem.W.Frag} {N : Hp} : ∀ ns : List Int, DqA K N (ns.map V.int) (ns.map PyData.int)
  | [] => .nil
  | n :: r => .cons (.int n) (dqa_int r)
/-- a value, at most so deep -/
inductive VaP (es : List (PyData × PyData)) : Nat → PyData → PyData → Prop where
  | plain {h : Nat} {k : Str} {v : PyData} (hk : k ∈ prims) (hv : PlP k v) : VaP es h (.tuple [.str k]) v
  | arr {h : Nat} {s : PyData} {vs : List PyData} (hl : vs.length ≤ 2) (hv : ∀ v ∈ vs, VaP es h s v) : VaP es (h + 1) (.tuple [.str "array", s]) (.list vs)
  | map {h : Nat} {s : PyData} {ks : List Str} {kvs : List (PyData × PyData)} (hk : kvs.map (·.1) = ks.map PyData.str) (hn : ks.Nodup) (hl : ks.length ≤ 2) (ht : ∀ k ∈ ks, ∃ cs : List Nat, k = SX.S cs ∧ cs.length ≤ 3 ∧ ∀ c ∈ cs, c ∈ TXT) (hv : ∀ k v, (k, v) ∈ kvs → VaP es h s v) : VaP es (h + 1) (.tuple [.str "map", s]) (.dict kvs)
  | uni {h : Nat} {bs : List PyData} {i : Nat} {b v : PyData} (hb : bs[i]? = some b) (hv : VaP es h b v) : VaP es (h + 1) (.tuple [.str "union", .tuple bs]) (.tuple [.int (i : Int), v])
  | fixed {h : Nat} {n : Str} {m : Int} {al : PyData} {ns : List Int} (hd : (.str n, .tuple [.str "fixed", .str n, .int m, al]) ∈ es) (hl : (ns.length : Int) = m) (hn : ∀ x ∈ ns, 0 ≤ x ∧ x < 256) : VaP es h (.tuple [.str "named", .str n]) (.list (ns.map PyData.int))
  | choice {h : Nat} {n : Str} {ss : List Str} {x : Str} {d al : PyData} (hd : (.str n, .tuple [.str "choice", .str n, .tuple (ss.map PyData.str), d, al]) ∈ es) (hx : x ∈ ss) : VaP es h (.tuple [.str "named", .str n]) (.str x)
  | record {h : Nat} {n : Str} {fs vs : List PyData} {al : PyData} (hd : (.str n, .tuple [.str "record", .str n, .tuple fs, al]) ∈ es) (hl : vs.length = fs.length) (hv : ∀ (i : Nat) f v, fs[i]? = some f → vs[i]? = some v → VaP es h (fshp f) v) : VaP es (h + 1) (.tuple [.str "named", .str n]) (.tuple vs)
/-- how long its making goes on -/
def VaF (ks : List Str) (n : Nat) (dp : Int) (s : PyData) : Prop := (dp ≤ 0 ∧ JsF ks n s) ∨ (0 < dp ∧ dp + 5 ≤ n)
def preValue (K : PySem.W.Frag) (n : Nat) (Y : Ys) (vs : List V) (B : Hp) (F : V → Hp → Prop) : Prop := ∃ (pm ps : Addr) (v : V) (dp : Int) (s : PyData) (kvs : List (Key × V)) (es : List (PyData × PyData)) (us ks : List Str),
  Sto Y ps B ∧ vs = [.ref pm, v, .ref ps, .int dp] ∧ B pm = some (.dK kvs) ∧ DqK K B kvs es ∧ es.map (·.1) = us.map PyData.str ∧ us.Nodup ∧ ks.Nodup ∧ ks.length ≤ 3 ∧ (∀ u d, (.str u, d) ∈ es → ∃ i : Nat, ks[i]? = some u ∧ DfP us (ks.take i) u d) ∧ Dq K B v s ∧ ShP us 2 s ∧ VaF ks n dp s ∧ F = Dt K (VaP es n s)
theorem dqk_put2 {K : PySem.W.Frag} {N : Hp} {kvs : List (Key × V)} {es : List (PyData × PyData)} {ks : List Str} {k : Str} {v : V} {d : PyData} (h : DqK K N kvs es) (hk : es.map (·.1) = ks.map PyData.str) (hn : ks.Nodup) (hv : Dq K N v d) :
    ∃ (es' : List (PyData × PyData)) (ks' : List Str), DqK K N (putK kvs (.inr k) v) es' ∧ es'.map (·.1) = ks'.map PyData.str ∧ ks'.Nodup ∧ ks'.length ≤ ks.length + 1 ∧ (∀ x ∈ ks', x = k ∨ x ∈ ks) ∧ ∀ x e, (x, e) ∈ es' → e = d ∨ (x, e) ∈ es := by
  have hin := dqk_in (k := k) h hk
  by_cases c : k ∈ ks
  · have ha : (kvs.any fun kv => decide (kv.1 = .inr k)) = true := by rw [valV_any, hin]; simp [c]
    refine ⟨_, ks, by unfold putK; rw [if_pos ha]; exact dqk_set h hv, ?_, hn, by omega, fun x hx => .inr hx, fun x e hm => ?_⟩
    · rw [← hk, List.map_map]
      refine List.map_congr_left fun kd _ => ?_
      simp only [Function.comp]
      split <;> rfl
    · obtain ⟨⟨x', e'⟩, h1, h2⟩ := List.mem_map.mp hm
      by_cases c2 : isK x' k = true
      · simp only [if_pos c2] at h2
        cases h2
        exact .inl rfl
      · simp only [if_neg c2] at h2
        cases h2
        exact .inr h1
  · have hvn : valV kvs (.inr k) = none := by
      cases hx : valV kvs (.inr k) with
      | none => rfl
      | some u =>
        rw [hx] at hin
        simp [c] at hin
    rw [putK_new _ hvn]
    refine ⟨_, ks ++ [k], dqk_snoc h hv, by simp [hk], ?_, by simp, fun x hx => ?_, fun x e hm => ?_⟩
    · rw [List.nodup_append]
      exact ⟨hn, by simp, fun a ha b hb z => c (by rw [List.mem_singleton.mp hb] at z; rw [← z]; exact ha)⟩
    · rcases List.mem_append.mp hx with h | h
      · exact .inr h
      · exact .inl (List.mem_singleton.mp h)
    · rcases List.mem_append.mp hm with h | h
      · exact .inr h
      · cases List.mem_singleton.mp h
        exact .inl rfl
theorem va_sub {ks us : List Str} {es : List (PyData × PyData)} {n d : Nat} {dp : Int} {s s' : PyData} (hm : es.map (·.1) = us.map PyData.str) (hk : ∀ u d, (.str u, d) ∈ es → ∃ i : Nat, ks[i]? = some u ∧ DfP us (ks.take i) u d) (hl : ks.length ≤ 3) (h0 : 0 < dp) (hF : VaF ks (n + 1) dp s) (hs : ShP us d s') : VaF ks n (dp - 1) s' := by
  rcases hF with ⟨h1, _⟩ | ⟨_, h1⟩
  · omega
  · by_cases c : 1 < dp
    · exact .inr ⟨by omega, by omega⟩
    · refine .inl ⟨by omega, by omega, fun _ _ => by omega, fun m z => ?_⟩
      subst z
      cases hs with
      | nam hn =>
        have h2 : PyData.str m ∈ es.map (·.1) := by rw [hm]; exact List.mem_map.mpr ⟨m, hn, rfl⟩
        obtain ⟨⟨x, e⟩, h3, h4⟩ := List.mem_map.mp h2
        have h4 : x = .str m := h4
        subst h4
        obtain ⟨i, hi, _⟩ := hk m e h3
        have := (List.getElem?_eq_some_iff.mp hi).1
        exact ⟨i, hi, by omega⟩
section
variable {K : PySem.W.Frag} {Y : Ys} {σ : L2.St} {B : Hp} {ta te : TE} {F : V → Hp → Prop}
theorem ev_intB {b : Bool} (ha : Ev ta σ B (.bl b)) : Ev (tCB (fun xs H Q => (∃ i, xs = [V.int i] ∧ Q (.int i) H) ∨ ∃ k, xs = [.bl k] ∧ Q (.int (if k then 1 else 0)) H) (tCons ta tNil)) σ B (.int (if b then 1 else 0)) := fun H1 e Q q =>
  ha H1 e _ fun H2 e2 => .inr ⟨b, rfl, q H2 e2⟩
theorem ev_lenTp {a : Addr} {xs : List V} (ha : Ev ta σ B (.ref a)) (hx : SqT K B a xs) : Ev (tCB (rLenS K) (tCons ta tNil)) σ B (.int (xs.length : Int)) := fun H1 e Q q => ha H1 e _ fun H2 e2 => ⟨a, xs, rfl, .inr (ex_t (e.trans e2) hx), q H2 e2⟩
theorem es_tupleS (h : ES Y te σ B fun v N => ∃ p ys, v = .ref p ∧ N p = some (.lst ys) ∧ ∀ q, N q = none → F (.ref q) (upd N q (.tup ys))) : ES Y (tCB (fun xs H Q => ∃ p ys, xs = [.ref p] ∧ ((SqL K H p ys ∧ ∀ l, H l = none → Q (.ref l) (upd H l (.tup ys))) ∨ (SqT K H p ys ∧ Q (.ref p) H))) (tCons te tNil)) σ B F := fun H1 e Q q =>
  h H1 e _ fun v N H2 f a b ⟨p, ys, hv, hp, hF⟩ => by
    subst hv
    exact ⟨p, ys, rfl, .inl ⟨sq_of (a.sub p _ hp), es_alloc e f a b hF q⟩⟩
end
theorem prim_tests2 {k : Str} (h : k ∈ prims) : decide (V.str k = V.str "array") = false ∧ decide (V.str k = V.str "map") = false ∧ decide (V.str k = V.str "union") = false ∧ decide (V.str k = V.str "named") = false := by
  simp only [prims, List.mem_cons, List.not_mem_nil, or_false] at h
  rcases h with rfl | rfl | rfl | rfl | rfl | rfl <;> exact ⟨by decide +kernel, by decide +kernel, by decide +kernel, by decide +kernel⟩
end FK

set_option Elab.async false
set_option linter.all false
set_option maxRecDepth 100000
/-! what is asked of data: its type, whole numbers, octets (own text) -/
namespace FK
open PySem PySem.Spec PyProof.Rows L2 Evl FkE
/-- the name of a datum's type -/
def tyn : PyData → String
  | .none => "NoneType"
  | .bool _ => "bool"
  | .int _ => "int"
  | .str _ => "str"
  | .list _ => "list"
  | .tuple _ => "tuple"
  | .dict _ => "dict"
/-- isinstance(d, t) -/
def isD (d : PyData) (t : String) : Bool := tyn d == t || (tyn d == "bool" && t == "int")
def tyns : List String := ["bool", "int", "str", "list", "tuple", "dict"]
section
variable {K : PySem.W.Frag} {Y : Ys} {σ : L2.St} {B : Hp} {ta : TA} {te : TE} {v : V} {d : PyData}
theorem kit_tyn (d : PyData) {t : String} (ht : t ∈ tyns) : PySem.W.kitOne K (.type (tyn d)) (.type t) = some (isD d t) := by
  simp only [tyns, List.mem_cons, List.not_mem_nil, or_false] at ht
  cases d <;> rcases ht with rfl | rfl | rfl | rfl | rfl | rfl <;> rfl
theorem dq_ty (h : Dq K B v d) : TyX K B v (.type (tyn d)) := by
  cases h with
  | non => exact .base .non
  | bl b => exact .base (.bl b)
  | int i => exact .base (.int i)
  | str x => exact .base (.str x)
  | lst h1 _ => exact .base (.lst h1)
  | tup h1 _ => exact .base (.tup h1)
  | dct h1 _ => exact .base (.dK h1)
theorem ev_isT {c : V} {t : String} (hv : Dq K B v d) (h : EvA ta σ B [v, c]) (hc : ClsV c (.type t)) (ht : t ∈ tyns) : Ev (tCB (rIsi K) ta) σ B (.bl (isD d t)) := ev_isi h hc (fun H e => dq_ty (dq_ex e _ _ hv)) (kit_tyn d ht)
end
/-- a whole number, from a to b -/
def wholeB (a b : Int) : PyData → Bool
  | .int n => decide (a ≤ n) && decide (n ≤ b)
  | _ => false
def preWhole (K : PySem.W.Frag) : List V → Hp → V → Prop := fun vs H z => ∃ (v : V) (d : PyData) (a b : Int), Dq K H v d ∧ vs = [v, .int a, .int b] ∧ z = .bl (wholeB a b d)
/-- a list of octets -/
def octB : PyData → Bool
  | .list ds => ds.all (wholeB 0 255)
  | _ => false
theorem inV_false (bs : List Bool) : (!inV (.bl false) (bs.map V.bl)) = bs.all id := by
  induction bs with
  | nil => rfl
  | cons b r ih =>
    have h : inV (.bl false) ((b :: r).map V.bl) = (eqV (.bl b) (.bl false) || inV (.bl false) (r.map V.bl)) := rfl
    rw [h, List.all_cons, ← ih]
    cases b <;> simp [eqV]
section
variable {K : PySem.W.Frag} {σ : L2.St} {B : Hp} {te : TE}
/-- False not in [.. for ..] -/
theorem ev_noF {bs : List Bool} (h : EvN te σ B (.lst (bs.map V.bl))) : Ev (tOp (rIn K true) (tC (.bl false)) te) σ B (.bl (bs.all id)) := by
  rw [← inV_false]
  exact ev_niN ev_c h rfl (by
    rw [List.all_eq_true]
    intro x hx
    obtain ⟨b, _, rfl⟩ := List.mem_map.mp hx
    rfl)
/-- a list of answers over data that stands -/
theorem en_lcB {wi : TI} {xs : List V} {ds : List PyData} {j : Nat} {vs : List Nat} (f : PyData → Bool) (h : EvI wi σ B xs) (hd : DqA K B xs ds) (hz : xs.length ≤ 100000) (hw : ∀ x, wipe ((wipe σ vs).set j (some x)) vs = wipe σ vs)
    (he : ∀ (i : Nat) x d, xs[i]? = some x → ds[i]? = some d → Dq K B x d → ∀ B', Ex B B' → Ev te ((wipe σ vs).set j (some x)) B' (.bl (f d))) : EvN (tLc wi (gName j) tYes te vs) σ B (.lst ((ds.map f).map V.bl)) := fun H1 e Q q =>
  h H1 e _ fun J H2 G e2 w hG => fun Dl hD => by
    have hl := dqa_len hd
    refine lc_it w (fun i H => H2 Dl = none ∧ Ex H2 H ∧ H Dl = some (.lst (((ds.take i).map f).map V.bl))) ⟨hD, Ex.new hD, upd_same⟩ (fun i H _ a => hG H a.2.1) (fun i x H H' hi a y => ?_) fun H a => ?_
    · obtain ⟨a1, a2, a3⟩ := a
      obtain ⟨y1, y2⟩ := y
      subst y1
      obtain ⟨d, hd1, hd2⟩ := dqa_at hd y2
      have eB : Ex B H' := (e.trans e2).trans a2
      refine ⟨hw x, et_yes H' (Ex.refl H') _ fun H3 e3 => he i x d y2 hd1 hd2 H' eB H3 e3 _ fun H4 e4 => ⟨_, e4 Dl _ (e3 Dl _ a3), ?_, a1, Ex.mut ((a2.trans e3).trans e4) a1, ?_⟩⟩
      · rw [List.length_map, List.length_map, List.length_take]
        exact Nat.lt_of_le_of_lt (Nat.le_trans (Nat.min_le_right _ _) (by omega : ds.length ≤ 100000)) (by decide)
      · rw [upd_same, List.take_add_one, hd1, List.map_append, List.map_append]
        rfl
    · exact q Dl H (fresh_back e2 a.1) (e2.trans a.2.1) (by
        have a3 := a.2.2
        rw [hl, List.take_length] at a3
        exact a3)
end
def preOct (K : PySem.W.Frag) : List V → Hp → V → Prop := fun vs H z => ∃ (v : V) (d : PyData), Dq K H v d ∧ vs = [v] ∧ (∀ ds, d = .list ds → ds.length ≤ 1000) ∧ z = .bl (octB d)
end FK

set_option Elab.async false
set_option linter.all false
set_option maxRecDepth 100000
/-! objects with methods, that change and may raise (own text) -/
namespace FK
open PySem PySem.Spec PyProof.Rows L2 Evl FkE
/-! ### fields by name -/
theorem lk_eq {f : Str} {v : V} {r : List (Str × V)} : List.lookup f ((f, v) :: r) = some v := by simp [List.lookup]
theorem lk_ne {f g : Str} {v : V} {r : List (Str × V)} (h : (f == g) = false) : List.lookup f ((g, v) :: r) = List.lookup f r := by simp [List.lookup, h]
theorem put_eq {f : Str} {v x : V} {r : List (Str × V)} : putF f v ((f, x) :: r) = (f, v) :: r := by
  show (if f = f then (f, v) :: r else _) = _
  rw [if_pos rfl]
theorem put_ne {f g : Str} {v x : V} {r : List (Str × V)} (h : (g == f) = false) : putF f v ((g, x) :: r) = (g, x) :: putF f v r := by
  show (if g = f then (g, v) :: r else _) = _
  rw [if_neg (by intro c; subst c; simp at h)]
theorem put_nil {f : Str} {v : V} : putF f v [] = [(f, v)] := rfl
/-! ### methods -/
structure DefM (K : PySem.W.Frag) (C : Addr) (m qual : Str) (st : Stmt) (ps : List Str) : Prop where
  ex : ∃ (f : Addr) (fd : FuncData), Fun K m qual st f fd ∧ Meth K C m f ∧ Binds K fd ps []
structure MetX (P : Program) (w : World) (K : PySem.W.Frag) (mg : Str → Option Value) (base : Heap) (k : Nat) (C : Addr) (m : Str) (sp : Sp) : Prop where
  ex : ∃ (f : Addr) (fd : FuncData) (ps : List Str), FnOk P w K mg base (L2.CX P w) k f fd ps sp ∧ Meth K C m f ∧ Binds K fd ps []
structure MakX (P : Program) (w : World) (K : PySem.W.Frag) (mg : Str → Option Value) (base : Heap) (k : Nat) (C : Addr) (x : Str) (sp : Sp) : Prop where
  ex : ∃ (f : Addr) (fd : FuncData) (ps : List Str), FnOk P w K mg base (L2.CX P w) k f fd ps sp ∧ Mk K C f ∧ Binds K fd ps [] ∧ mg x = some (.ref C)
theorem defM_mk {K : PySem.W.Frag} {C : Addr} {m q : Str} {st : Stmt} {f : Addr} {oc : Value} {od an : Option Addr} {osl : Array (Option Value)} {kV doc pm cdv ct : Value} {ps : List Str}
    (a : PySem.W.findIn K (.ref C) m = some (some (.ref f))) (i : PySem.W.isFn K (.ref f) = true) (l : K.lookup f = some ⟨oc, od, .func (PySem.W.fnOf m q (defArgs st) (defBody st) (defScope st) .none kV doc pm an cdv ct), osl⟩)
    (c : PySem.W.codeIn K cdv q = true) (k : PySem.W.keepIn K (.ref f) = true)
    (b : ∀ (kV doc pm : Value) (an : Option Addr) (cdv ct : Value) (us : List Value), us.length = ps.length → bindArgs (PySem.W.fnOf m q (defArgs st) (defBody st) (defScope st) .none kV doc pm an cdv ct) ⟨us, []⟩ = pure (ps.zip us)) : DefM K C m q st ps :=
  ⟨f, _, fun_mk l c k, ⟨a, i, k⟩, (fun_mk l c k).binds b⟩
section
variable {P : Program} {w : World} {K : PySem.W.Frag} {mg : Str → Option Value} {base : Heap}
theorem metX {C : Addr} {m q : Str} {st : Stmt} {N ps : List Str} {k : Nat} {sp : Sp} (D : DefM K C m q st ps) (S : FnScope N ps (defScope st)) (len : ∀ vs H Q E, sp vs H Q E → vs.length = ps.length)
    (hbody : ∀ (f : Addr) (cdv : Value) (A : Around) (outer : List Env) (s : Shared) (H : Hp) (vs : List V) (Q : VK) (E : XK), Room k (A.deeper (envOfC q (defScope st) s.heap.objs.size f cdv)) → sp vs H Q E →
      ∃ t, PSs (cxOf (L2.CX P w) P w K mg base N q (defScope st) f cdv A outer s H E) (defBody st) t ∧ t { nx := fun _ H' => Q .non H', rt := Q } (start N vs) H) : MetX P w K mg base (k + 1) C m sp := by
  obtain ⟨f, fd, F, m, b⟩ := D.ex
  exact ⟨f, fd, ps, F.okX S len (hbody f), m, b⟩
theorem makX {C : Addr} {x q : Str} {st : Stmt} {N ps : List Str} {k : Nat} {sp : Sp} (D : DefM K C "__init__" q st ps) (hm : PySem.W.makesIn K C = true) (hk : PySem.W.keepIn K (.ref C) = true) (hx : mg x = some (.ref C)) (S : FnScope N ps (defScope st)) (len : ∀ vs H Q E, sp vs H Q E → vs.length = ps.length)
    (hbody : ∀ (f : Addr) (cdv : Value) (A : Around) (outer : List Env) (s : Shared) (H : Hp) (vs : List V) (Q : VK) (E : XK), Room k (A.deeper (envOfC q (defScope st) s.heap.objs.size f cdv)) → sp vs H Q E →
      ∃ t, PSs (cxOf (L2.CX P w) P w K mg base N q (defScope st) f cdv A outer s H E) (defBody st) t ∧ t { nx := fun _ H' => Q .non H', rt := Q } (start N vs) H) : MakX P w K mg base (k + 1) C x sp := by
  obtain ⟨f, fd, F, m, b⟩ := D.ex
  exact ⟨f, fd, ps, F.okX S len (hbody f), ⟨hm, m.at_, m.fn, hk⟩, b, hx⟩
end
def tMethX (C : Addr) (m : Str) (sp : Sp) (E : L2.St → XK) (ta : TE) (t : TA) : TE := fun σ H Q => ta σ H fun x H1 => ∃ a dx fs, x = .ref a ∧ H1 a = some (.ins C dx fs) ∧ fs.lookup m = none ∧ t σ H1 fun vs H2 => sp (x :: vs) H2 Q (E σ)
def tMakeX (C : Addr) (sp : Sp) (E : L2.St → XK) (t : TA) : TE := fun σ H Q => t σ H fun vs H1 => ∀ x dx, H1 x = none → H1 dx = none → dx ≠ x →
  sp (.ref x :: vs) (upd (upd H1 dx (.own x)) x (.ins C dx [])) (fun v H2 => v = .non ∧ Q (.ref x) H2) (E σ)
section
variable {X : Cx} {W : WX} {j k : Nat} {C : Addr} {x m : Str} {sp : Sp} {p pos apos : Pos} {e o : Expr} {es : List Expr} {ta : TE} {t : TA}
theorem pe_mX {pl : Sem Bool} (M : MetX X.prog X.w X.K X.mg X.base k C m sp) (tk : Takes X W) (hr : Room j X.A) (hk : k ≤ j) (c : Cls X.K C) (he : PE X o ta) (ha : PA X (e :: es) t)
    (hst : starEach (e :: es) X.env = (false, eval e X.env) :: starEach es X.env := by rfl) (hpl : (backTo pos (starEach es X.env)).any (·.1) = false := by rfl)
    (ht : eval (.Call (.Attribute o m apos) (e :: es) [] pos) X.env = (do
      let ov ← eval o X.env
      standAt apos.atName
      let (f, first) ← holding [ov] (getMethod ov m pl)
      callWith pos f first (backTo pos (starEach (e :: es) X.env)) (backToKw pos (keywordEach [] X.env))) := by rfl) :
    PE X (.Call (.Attribute o m apos) (e :: es) [] pos) (tMethX C m sp (WE W) ta t) := by
  obtain ⟨f, fd, ps, F, hm, b⟩ := M.ex
  refine ⟨fun pins s σ H Q I h => ?_⟩
  refine PySem.W.methodCall_KW (pl := pl) (thn (he.run pins s σ H _ I h) fun u s1 ⟨x, H1, I1, rx, a, dx, fs, ex, ea, l, q⟩ => ?_) ht
  subst ex
  obtain rfl : u = Value.ref a := rx
  refine getmeth_ok I1 ea c hm l ?_
  refine PySem.W.callWith_K (first := [.ref a]) (h₀ := X.base) I.ok.mod.kin hm.kp (thn (ha.run pos pins s1 σ H1 _ I1 q) fun us s2 ⟨vs, H2, I2, r, q2⟩ => ⟨I2.kIn, ?_⟩) hst hpl
  exact run_fnS (us := .ref a :: us) (vs := .ref a :: vs) F (hr.mono hk) b (passAt tk σ) I2 (.cons rfl r) q2
theorem pe_mX0 {pl : Sem Bool} (M : MetX X.prog X.w X.K X.mg X.base k C m sp) (tk : Takes X W) (hr : Room j X.A) (hk : k ≤ j) (c : Cls X.K C) (he : PE X o ta)
    (ht : eval (.Call (.Attribute o m apos) [] [] pos) X.env = (do
      let ov ← eval o X.env
      standAt apos.atName
      let (f, first) ← holding [ov] (getMethod ov m pl)
      callWith pos f first (backTo pos (starEach [] X.env)) (backToKw pos (keywordEach [] X.env))) := by rfl) :
    PE X (.Call (.Attribute o m apos) [] [] pos) (tMethX C m sp (WE W) ta tNil) := by
  obtain ⟨f, fd, ps, F, hm, b⟩ := M.ex
  refine ⟨fun pins s σ H Q I h => ?_⟩
  refine PySem.W.methodCall_KW (pl := pl) (thn (he.run pins s σ H _ I h) fun u s1 ⟨x, H1, I1, rx, a, dx, fs, ex, ea, l, q⟩ => ?_) ht
  subst ex
  obtain rfl : u = Value.ref a := rx
  refine getmeth_ok I1 ea c hm l ?_
  exact PySem.W.callWith_K0 (first := [.ref a]) I1.kIn hm.kp (run_fnS (us := [.ref a]) (vs := [.ref a]) F (hr.mono hk) b (passAt tk σ) I1 (.cons rfl .nil) q)
theorem run_makeX {CX : CXT} {f : Addr} {fd : FuncData} {ps : List Str} {E : XK} {pins : List (Addr × Obj)} {σ : L2.St} {H : Hp} {s : Shared} {Q : VK} {us : List Value} {vs : List V} (M : Mk X.K C f) (F : FnOk X.prog X.w X.K X.mg X.base CX k f fd ps sp) (hr : Room (k + 1) X.A) (hb : Binds X.K fd ps [])
    (hx : PassesAt CX X σ E) (I : Inv X pins σ H s) (r : Vals vs us)
    (h : ∀ x dx, H x = none → H dx = none → dx ≠ x → sp (.ref x :: vs) (upd (upd H dx (.own x)) x (.ins C dx [])) (fun v H2 => v = .non ∧ Q (.ref x) H2) E) :
    wpAny (model X.prog X.w) X.A (call (.ref C) us) (EP X pins σ Q) X.xe s := by
  have hq := h (s.heap.objs.size + 1) s.heap.objs.size (I.hok.fresh (Nat.le_succ _)) (I.hok.fresh (Nat.le_refl _)) (Nat.ne_of_lt (Nat.lt_succ_self _))
  have I2 := Inv.made (C := C) I
  have r2 : Vals (V.ref (s.heap.objs.size + 1) :: vs) (Value.ref (s.heap.objs.size + 1) :: us) := .cons rfl r
  have hl : (Value.ref (s.heap.objs.size + 1) :: us).length = ps.length := by
    have e := r2.length
    rw [F.len _ _ _ _ hq] at e
    exact e.symm
  have b := hb _ (Value.ref (s.heap.objs.size + 1) :: us) I2.kIn (by rw [List.append_nil]; exact hl)
  rw [List.append_nil] at b
  refine wpAny_call (make_map (f := f) I.kIn M.makes M.init (beq_iff_eq.mp M.fn) (codeAny_mono (F.run _ X.stack _ _ ⟨Value.ref (s.heap.objs.size + 1) :: us, []⟩ (Value.ref (s.heap.objs.size + 1) :: us) _ _ E (hr.make C us [])
    (I2.env0.make C us []) b r2 hq) fun r s' hq' => ?_))
  cases r with
  | error e => exact hx pins _ _ e s' I2 hq'
  | ok fl =>
    cases fl with
    | ret u =>
      obtain ⟨v, H', I3, rv, ev, q3⟩ := I2.after hq'
      subst ev
      exact ⟨rv, ⟨V.ref (s.heap.objs.size + 1), H', I3, rfl, q3⟩⟩
    | next => exact False.elim hq'
    | brk => exact False.elim hq'
    | cont => exact False.elim hq'
theorem pe_mk (M : MakX X.prog X.w X.K X.mg X.base k C x sp) (tk : Takes X W) (hr : Room j X.A) (hk : k + 1 ≤ j) (hg : Gl X x) (ha : PA X (e :: es) t)
    (hdb : (x == ("__debug__" : Str)) = false := by decide) (he : starEach (e :: es) X.env = (false, eval e X.env) :: starEach es X.env := by rfl) (hpl : (backTo pos (starEach es X.env)).any (·.1) = false := by rfl) :
    PE X (.Call (.Name x p) (e :: es) [] pos) (tMakeX C sp (WE W) t) := by
  obtain ⟨f, fd, ps, F, M, b, hm⟩ := M.ex
  refine ⟨fun pins s σ H Q I h => ?_⟩
  refine wpAny_Call_Name_kw (ld_glob I hg hm ?_ hdb)
  refine PySem.W.callWith_K (h₀ := X.base) I.ok.mod.kin M.kp (thn (ha.run pos pins s σ H _ I h) fun us s1 ⟨vs, H1, I1, r, q⟩ => ⟨I1.kIn, ?_⟩) he hpl
  exact run_makeX M F (hr.mono hk) b (passAt tk σ) I1 r q
theorem pe_mk0 (M : MakX X.prog X.w X.K X.mg X.base k C x sp) (tk : Takes X W) (hr : Room j X.A) (hk : k + 1 ≤ j) (hg : Gl X x)
    (hdb : (x == ("__debug__" : Str)) = false := by decide) : PE X (.Call (.Name x p) [] [] pos) (tMakeX C sp (WE W) tNil) := by
  obtain ⟨f, fd, ps, F, M, b, hm⟩ := M.ex
  refine ⟨fun pins s σ H Q I h => ?_⟩
  refine wpAny_Call_Name_kw (ld_glob I hg hm ?_ hdb)
  exact PySem.W.callWith_K0 I.kIn M.kp (run_makeX (us := []) M F (hr.mono hk) b (passAt tk σ) I .nil h)
theorem pe_cX0 (c : CalX X.prog X.w X.K X.mg X.base k x sp) (tk : Takes X W) (hr : Room j X.A) (hk : k ≤ j) (hg : Gl X x)
    (hdb : (x == ("__debug__" : Str)) = false := by decide) : PE X (.Call (.Name x p) [] [] pos) (tCallS sp (WE W) tNil) := by
  obtain ⟨f, fd, ps, F, hm, kp, b⟩ := c.ex
  refine ⟨fun pins s σ H Q I h => ?_⟩
  refine wpAny_Call_Name_kw (ld_glob I hg hm ?_ hdb)
  exact PySem.W.callWith_K0 I.kIn kp (run_fnS (us := []) F (hr.mono hk) b (passAt tk σ) I .nil h)
end
/-! ### what comes of a call that changes things -/
inductive OutM where
  | val (Φ : V → Hp → Prop) | err (x : Str) (v : V) (Ψ : Hp → Prop)
def spM (mg : Str → Option Value) (pre : List V → Hp → OutM → Prop) : Sp := fun vs H Q E => ∃ r, pre vs H r ∧ match r with
  | .val Φ => ∀ v H2, Φ v H2 → Q v H2
  | .err x v Ψ => ∀ C d H2, mg x = some (.ref C) → H d = none → Ψ H2 → H2 d = some (.xd (errF x v)) → E (.ref C) (some d) H2
def EvM (te : TE) (σ : L2.St) (B : Hp) (Φ : V → Hp → Prop) : Prop := ∀ H1, Ex B H1 → ∀ Q : VK, (∀ v H2, Φ v H2 → Q v H2) → te σ H1 Q
def EvTM (t : TT) (σ : L2.St) (B : Hp) (Φ : Bool → Hp → Prop) : Prop := ∀ H1, Ex B H1 → ∀ Q : Bool → Hp → Prop, (∀ v H2, Φ v H2 → Q v H2) → t σ H1 Q
def EvEM (mg : Str → Option Value) (W : WX) (te : TE) (σ : L2.St) (B : Hp) (x : Str) (v : V) (Ψ : Hp → Prop) : Prop := ∀ H1, Ex B H1 → ∀ Q : VK, (∀ C d H2, mg x = some (.ref C) → B d = none → Ψ H2 → H2 d = some (.xd (errF x v)) → W (.ref C) (some d) σ H2) → te σ H1 Q
def EvETM (mg : Str → Option Value) (W : WX) (t : TT) (σ : L2.St) (B : Hp) (x : Str) (v : V) (Ψ : Hp → Prop) : Prop := ∀ H1, Ex B H1 → ∀ Q : Bool → Hp → Prop, (∀ C d H2, mg x = some (.ref C) → B d = none → Ψ H2 → H2 d = some (.xd (errF x v)) → W (.ref C) (some d) σ H2) → t σ H1 Q
section
variable {K : PySem.W.Frag} {mg : Str → Option Value} {W : WX} {σ : L2.St} {B : Hp} {te ta tb to : TE} {t u : TT} {as : TA} {tz tu tw : TS} {D : Ends} {C a dx : Addr} {m x f : Str} {fs : List (Str × V)} {v y z : V} {vs : List V} {o : HO} {Φ Φ2 : V → Hp → Prop} {Ψ : Hp → Prop} {Θ Θ2 : Bool → Hp → Prop} {r : R2} {pre : List V → Hp → OutM → Prop} {Pp : List V → Hp → Prop}
theorem em_ev (h : Ev te σ B v) (k : ∀ H, Ex B H → Φ v H) : EvM te σ B Φ := fun H1 e Q q => h H1 e Q fun H2 e2 => q v H2 (k H2 (e.trans e2))
theorem EvM.imp (h : EvM te σ B Φ) (i : ∀ v H, Φ v H → Φ2 v H) : EvM te σ B Φ2 := fun H1 e Q q => h H1 e Q fun v H2 c => q v H2 (i v H2 c)
theorem EvM.mono {B' : Hp} (e : Ex B B') (h : EvM te σ B Φ) : EvM te σ B' Φ := fun H1 a => h H1 (e.trans a)
theorem em_m (he : Ev te σ B (.ref a)) (hB : B a = some (.ins C dx fs)) (hl : fs.lookup m = none) (ha : EvA as σ B vs) (hp : ∀ H, Ex B H → ∃ Φ', pre (.ref a :: vs) H (.val Φ') ∧ ∀ v H', Φ' v H' → Φ v H') : EvM (tMethX C m (spM mg pre) (WE W) te as) σ B Φ := fun H1 e Q q =>
  he H1 e _ fun H2 e2 => ⟨a, dx, fs, rfl, (e.trans e2) a _ hB, hl, ha H2 (e.trans e2) _ fun H3 e3 =>
    let ⟨Φ', hp', i⟩ := hp H3 ((e.trans e2).trans e3)
    ⟨.val Φ', hp', fun v H4 c => q v H4 (i v H4 c)⟩⟩
theorem ee_m (he : Ev te σ B (.ref a)) (hB : B a = some (.ins C dx fs)) (hl : fs.lookup m = none) (ha : EvA as σ B vs) (hp : ∀ H, Ex B H → ∃ Ψ', pre (.ref a :: vs) H (.err x v Ψ') ∧ ∀ H', Ψ' H' → Ψ H') : EvEM mg W (tMethX C m (spM mg pre) (WE W) te as) σ B x v Ψ := fun H1 e Q q =>
  he H1 e _ fun H2 e2 => ⟨a, dx, fs, rfl, (e.trans e2) a _ hB, hl, ha H2 (e.trans e2) _ fun H3 e3 =>
    let ⟨Ψ', hp', i⟩ := hp H3 ((e.trans e2).trans e3)
    ⟨.err x v Ψ', hp', fun C d H4 hm nd c hd => q C d H4 hm (fresh_back ((e.trans e2).trans e3) nd) (i H4 c) hd⟩⟩
theorem em_c (ha : EvA as σ B vs) (hp : ∀ H, Ex B H → ∃ Φ', pre vs H (.val Φ') ∧ ∀ v H', Φ' v H' → Φ v H') : EvM (tCallS (spM mg pre) (WE W) as) σ B Φ := fun H1 e Q q =>
  ha H1 e _ fun H3 e3 =>
    let ⟨Φ', hp', i⟩ := hp H3 (e.trans e3)
    ⟨.val Φ', hp', fun v H4 c => q v H4 (i v H4 c)⟩
theorem ee_c (ha : EvA as σ B vs) (hp : ∀ H, Ex B H → ∃ Ψ', pre vs H (.err x v Ψ') ∧ ∀ H', Ψ' H' → Ψ H') : EvEM mg W (tCallS (spM mg pre) (WE W) as) σ B x v Ψ := fun H1 e Q q =>
  ha H1 e _ fun H3 e3 =>
    let ⟨Ψ', hp', i⟩ := hp H3 (e.trans e3)
    ⟨.err x v Ψ', hp', fun C d H4 hm nd c hd => q C d H4 hm (fresh_back (e.trans e3) nd) (i H4 c) hd⟩
theorem em_cA (ha : EvAP as σ B Pp) (hp : ∀ vs H, Ex B H → Pp vs H → ∃ Φ', pre vs H (.val Φ') ∧ ∀ v H', Φ' v H' → Φ v H') : EvM (tCallS (spM mg pre) (WE W) as) σ B Φ := fun H1 e Q q =>
  ha H1 e _ fun vs H3 e3 hv =>
    let ⟨Φ', hp', i⟩ := hp vs H3 (e.trans e3) hv
    ⟨.val Φ', hp', fun v H4 c => q v H4 (i v H4 c)⟩
theorem em_mA (he : Ev te σ B (.ref a)) (hB : B a = some (.ins C dx fs)) (hl : fs.lookup m = none) (ha : EvAP as σ B Pp) (hp : ∀ vs H, Ex B H → Pp vs H → ∃ Φ', pre (.ref a :: vs) H (.val Φ') ∧ ∀ v H', Φ' v H' → Φ v H') : EvM (tMethX C m (spM mg pre) (WE W) te as) σ B Φ := fun H1 e Q q =>
  he H1 e _ fun H2 e2 => ⟨a, dx, fs, rfl, (e.trans e2) a _ hB, hl, ha H2 (e.trans e2) _ fun vs H3 e3 hv =>
    let ⟨Φ', hp', i⟩ := hp vs H3 ((e.trans e2).trans e3) hv
    ⟨.val Φ', hp', fun v H4 c => q v H4 (i v H4 c)⟩⟩
theorem em_mk (ha : EvA as σ B vs) (hp : ∀ H x dx, Ex B H → H x = none → H dx = none → dx ≠ x → ∃ Φ', pre (.ref x :: vs) (upd (upd H dx (.own x)) x (.ins C dx [])) (.val Φ') ∧ ∀ v H', Φ' v H' → v = .non ∧ Φ (.ref x) H') : EvM (tMakeX C (spM mg pre) (WE W) as) σ B Φ := fun H1 e Q q =>
  ha H1 e _ fun H3 e3 x dx nx ndx ne =>
    let ⟨Φ', hp', i⟩ := hp H3 x dx (e.trans e3) nx ndx ne
    ⟨.val Φ', hp', fun v H4 c => ⟨(i v H4 c).1, q _ H4 (i v H4 c).2⟩⟩
/-- with what stands behind -/
theorem em_op (ha : EvM ta σ B Φ) (hb : ∀ x B1, Φ x B1 → EvM tb σ B1 fun y H => ∃ z, RV r x y H z ∧ ∀ H', Ex H H' → Φ2 z H') : EvM (tOp r ta tb) σ B Φ2 := fun H1 e Q q =>
  ha H1 e _ fun x H2 c => hb x H2 c H2 (Ex.refl _) _ fun y H3 ⟨z, hr, i⟩ => hr H3 (Ex.refl _) _ fun H4 e4 => q z H4 (i H4 e4)
theorem em_if (h : EvTM t σ B Θ) (h1 : ∀ B', Θ true B' → EvM ta σ B' Φ) (h2 : ∀ B', Θ false B' → EvM tb σ B' Φ) : EvM (tIf t ta tb) σ B Φ := fun H1 e Q q =>
  h H1 e _ fun b H2 c => by
    cases b with
    | true => exact h1 H2 c H2 (Ex.refl _) Q q
    | false => exact h2 H2 c H2 (Ex.refl _) Q q
theorem tm_et {b : Bool} (h : EvT t σ B b) (k : ∀ H, Ex B H → Θ b H) : EvTM t σ B Θ := fun H1 e Q q => h H1 e Q fun H2 e2 => q b H2 (k H2 (e.trans e2))
theorem tm_test (h : EvM te σ B fun v H => ∃ b, v = .bl b ∧ Θ b H) : EvTM (tTest te) σ B Θ := fun H1 e Q q => h H1 e _ fun v H2 ⟨b, hb, c⟩ => ⟨b, hb, q b H2 c⟩
theorem tm_B (h : EvM te σ B fun v H => ∃ b, v = .bl b ∧ Θ b H) : EvTM (tB te) σ B Θ := fun H1 e Q q => h H1 e _ fun v H2 ⟨b, hb, c⟩ => ⟨b, hb, q b H2 c⟩
theorem tm_not (h : EvTM t σ B fun b H => Θ (!b) H) : EvTM (tNot t) σ B Θ := fun H1 e Q q => h H1 e _ fun b H2 c => q _ H2 c
theorem tm_and (h : EvTM t σ B Θ2) (h1 : ∀ B', Θ2 true B' → EvTM u σ B' Θ) (h2 : ∀ B', Θ2 false B' → Θ false B') : EvTM (tAnd t u) σ B Θ := fun H1 e Q q =>
  h H1 e _ fun b H2 c => by
    cases b with
    | true => exact h1 H2 c H2 (Ex.refl _) Q q
    | false => exact q false H2 (h2 H2 c)
theorem tm_or (h : EvTM t σ B Θ2) (h1 : ∀ B', Θ2 false B' → EvTM u σ B' Θ) (h2 : ∀ B', Θ2 true B' → Θ true B') : EvTM (tOr t u) σ B Θ := fun H1 e Q q =>
  h H1 e _ fun b H2 c => by
    cases b with
    | false => exact h1 H2 c H2 (Ex.refl _) Q q
    | true => exact q true H2 (h2 H2 c)
/-! statements -/
theorem r_asgM {i : Nat} (h : EvM te σ B Φ) (k : ∀ v B', Φ v B' → R tz D (σ.set i (some v)) B') : R (tSeq (tAsg te (gName i)) tz) D σ B := fun H e => h H e _ fun v H2 c => k v H2 c H2 (Ex.refl _)
theorem r_dropM (h : EvM te σ B Φ) (k : ∀ v B', Φ v B' → R tz D σ B') : R (tSeq (tDrop te) tz) D σ B := fun H e => h H e _ fun v H2 c => k v H2 c H2 (Ex.refl _)
theorem r_retM (h : EvM te σ B Φ) (k : ∀ v B', Φ v B' → D.rt v B') : R (tSeq (tRet te) tz) D σ B := fun H e => h H e _ fun v H2 c => k v H2 c
theorem r_ifM (h : EvTM t σ B Θ) (h1 : ∀ B', Θ true B' → R tu { D with nx := tz D } σ B') (h2 : ∀ B', Θ false B' → R tw { D with nx := tz D } σ B') : R (tSeq (tIfS t tu tw) tz) D σ B := fun H e =>
  h H e _ fun b H2 c => by
    cases b with
    | true => exact h1 H2 c H2 (Ex.refl _)
    | false => exact h2 H2 c H2 (Ex.refl _)
theorem r_whenM (h : EvTM t σ B Θ) (h1 : ∀ B', Θ true B' → R tu { D with nx := tz D } σ B') (h2 : ∀ B', Θ false B' → R tz D σ B') : R (tSeq (tIfS t tu tNext) tz) D σ B := r_ifM h h1 h2
theorem r_asgEM {i : Nat} (h : EvEM mg W te σ B x v Ψ) (k : ∀ C d H, mg x = some (.ref C) → B d = none → Ψ H → H d = some (.xd (errF x v)) → W (.ref C) (some d) σ H) : R (tSeq (tAsg te (gName i)) tz) D σ B := fun H e => h H e _ k
theorem r_dropEM (h : EvEM mg W te σ B x v Ψ) (k : ∀ C d H, mg x = some (.ref C) → B d = none → Ψ H → H d = some (.xd (errF x v)) → W (.ref C) (some d) σ H) : R (tSeq (tDrop te) tz) D σ B := fun H e => h H e _ k
theorem r_retEM (h : EvEM mg W te σ B x v Ψ) (k : ∀ C d H, mg x = some (.ref C) → B d = none → Ψ H → H d = some (.xd (errF x v)) → W (.ref C) (some d) σ H) : R (tSeq (tRet te) tz) D σ B := fun H e => h H e _ k
theorem r_ifEM (h : EvETM mg W t σ B x v Ψ) (k : ∀ C d H, mg x = some (.ref C) → B d = none → Ψ H → H d = some (.xd (errF x v)) → W (.ref C) (some d) σ H) : R (tSeq (tIfS t tu tw) tz) D σ B := fun H e => h H e _ k
theorem xe_B (h : EvEM mg W te σ B x v Ψ) : EvETM mg W (tB te) σ B x v Ψ := fun H1 e Q q => h H1 e _ q
theorem xe_test (h : EvEM mg W te σ B x v Ψ) : EvETM mg W (tTest te) σ B x v Ψ := fun H1 e Q q => h H1 e _ q
theorem xe_opL (h : EvEM mg W ta σ B x v Ψ) : EvEM mg W (tOp r ta tb) σ B x v Ψ := fun H1 e Q q => h H1 e _ q
theorem xe_if {b : Bool} (h : EvT t σ B b) (h1 : b = true → EvEM mg W ta σ B x v Ψ) (h2 : b = false → EvEM mg W tb σ B x v Ψ) : EvEM mg W (tIf t ta tb) σ B x v Ψ := fun H1 e Q q =>
  h H1 e _ fun H2 e2 => by
    cases b with
    | true => exact h1 rfl H2 (e.trans e2) Q q
    | false => exact h2 rfl H2 (e.trans e2) Q q
/-! a list's end; a dict's pair -/
theorem r_appM {l : Addr} (ha : Ev ta σ B (.ref l)) (hl : ∃ xs, B l = some (.lst xs)) (h : EvM te σ B fun v H => ∃ xs, H l = some (.lst xs) ∧ xs.length < 100000 ∧ R tz D σ (upd H l (.lst (xs ++ [v])))) :
    R (tSeq (tDrop (tBM K "list" rAppend ta (tCons te tNil))) tz) D σ B := fun H e => ha H e _ fun H1 e1 =>
  ⟨Or.inl ⟨rfl, let ⟨xs, hx⟩ := hl; ⟨xs, sq_of (e1 l _ (e l _ hx))⟩⟩, h H1 (e.trans e1) _ fun v H2 ⟨xs, hx, hz, k⟩ => ⟨l, xs, v, rfl, rfl, hx, sz_lt hz, k _ (Ex.refl _)⟩⟩
theorem r_appEM {l : Addr} (ha : Ev ta σ B (.ref l)) (hl : ∃ xs, B l = some (.lst xs)) (h : EvEM mg W te σ B x v Ψ) (k : ∀ C d H, mg x = some (.ref C) → B d = none → Ψ H → H d = some (.xd (errF x v)) → W (.ref C) (some d) σ H) :
    R (tSeq (tDrop (tBM K "list" rAppend ta (tCons te tNil))) tz) D σ B := fun H e => ha H e _ fun H1 e1 =>
  ⟨Or.inl ⟨rfl, let ⟨xs, hx⟩ := hl; ⟨xs, sq_of (e1 l _ (e l _ hx))⟩⟩, h H1 (e.trans e1) _ k⟩
theorem r_dputM {td ty tv : TE} {key : Key} {d : Addr} (hv : EvM tv σ B fun v H => ∃ kvs, H d = some (.dK kvs) ∧ kvs.length < 100000 ∧ Ev td σ H (.ref d) ∧ Ev ty σ H (kV key) ∧ ∀ H', Ex H H' → R tz D σ (upd H' d (.dK (putK kvs key v)))) : R (tSeq (sDPut td ty tv) tz) D σ B := fun H e =>
  hv H e _ fun v H2 ⟨kvs, hd, hz, h1, h2, k⟩ => h1 H2 (Ex.refl _) _ fun H3 e3 => h2 H3 e3 _ fun H4 e4 => ⟨d, _, rfl, DPut.k ((e3.trans e4) d _ hd) (sz_lt hz), k H4 (e3.trans e4) _ (Ex.refl _)⟩
theorem r_dputEM {td ty tv : TE} (h : EvEM mg W tv σ B x v Ψ) (k : ∀ C d H, mg x = some (.ref C) → B d = none → Ψ H → H d = some (.xd (errF x v)) → W (.ref C) (some d) σ H) : R (tSeq (sDPut td ty tv) tz) D σ B := fun H e => h H e _ k
/-! fields -/
theorem ev_fld (h : Ev te σ B (.ref a)) (hB : B a = some (.ins C dx fs)) (c : Cls K C) (n : NoAttr K C f) (l : fs.lookup f = some v) : Ev (tFld K te f) σ B v := fun H1 e Q q => h H1 e _ fun H2 e2 => ⟨a, C, dx, fs, v, rfl, (e.trans e2) a _ hB, c, n, l, q H2 e2⟩
theorem r_fld (hv : Ev te σ B v) (ho : Ev to σ B (.ref a)) (hB : B a = some (.ins C dx fs)) (c : Cls K C) (n : NoAttr K C f) (hz : fs.length < 1000) (k : R tz D σ (upd B a (.ins C dx (putF f v fs)))) : R (tSeq (sFld K to te f) tz) D σ B := fun H e =>
  hv H e _ fun H1 e1 => ho H1 (e.trans e1) _ fun H2 e2 => ⟨a, C, dx, fs, rfl, ((e.trans e1).trans e2) a _ hB, c, n, hz, k _ (ex_mut ((e.trans e1).trans e2))⟩
theorem r_fldN (hv : EvN te σ B o) (ho : ∀ p, B p = none → Ev to σ (upd B p o) (.ref a)) (hB : B a = some (.ins C dx fs)) (c : Cls K C) (n : NoAttr K C f) (hz : fs.length < 1000) (k : ∀ p, B p = none → R tz D σ (upd (upd B p o) a (.ins C dx (putF f (.ref p) fs)))) : R (tSeq (sFld K to te f) tz) D σ B := fun H e =>
  hv H e _ fun p H1 np e1 hp => ho p (fresh_back e np) H1 (ex_up (e.trans e1) hp) _ fun H2 e2 => ⟨a, C, dx, fs, rfl, ((e.trans e1).trans e2) a _ hB, c, n, hz, k p (fresh_back e np) _ (ex_mut ((ex_up (e.trans e1) hp).trans e2))⟩
theorem r_fldM (hv : EvM te σ B fun v H => Ev to σ H (.ref a) ∧ ∃ fs, H a = some (.ins C dx fs) ∧ fs.length < 1000 ∧ ∀ H', Ex H H' → R tz D σ (upd H' a (.ins C dx (putF f v fs)))) (c : Cls K C) (n : NoAttr K C f) : R (tSeq (sFld K to te f) tz) D σ B := fun H e =>
  hv H e _ fun v H1 ⟨ho, fs, hB, hz, k⟩ => ho H1 (Ex.refl _) _ fun H2 e2 => ⟨a, C, dx, fs, rfl, e2 a _ hB, c, n, hz, k H2 e2 _ (Ex.refl _)⟩
theorem r_fldAdd {i j : Int} (ho : Ev to σ B (.ref a)) (hB : B a = some (.ins C dx fs)) (c : Cls K C) (n : NoAttr K C f) (l : fs.lookup f = some (.int i)) (hz : fs.length < 1000) (hv : Ev te σ B (.int j)) (k : R tz D σ (upd B a (.ins C dx (putF f (.int (i + j)) fs)))) : R (tSeq (sFldAug K to te rAdd f) tz) D σ B := fun H e =>
  ho H e _ fun H1 e1 => ⟨a, C, dx, fs, .int i, rfl, (e.trans e1) a _ hB, c, n, l, hv H1 (e.trans e1) _ fun H2 e2 => ⟨i, j, rfl, rfl, dx, fs, ((e.trans e1).trans e2) a _ hB, hz, k _ (ex_mut ((e.trans e1).trans e2))⟩⟩
theorem r_fldSub {i j : Int} (ho : Ev to σ B (.ref a)) (hB : B a = some (.ins C dx fs)) (c : Cls K C) (n : NoAttr K C f) (l : fs.lookup f = some (.int i)) (hz : fs.length < 1000) (hv : Ev te σ B (.int j)) (k : R tz D σ (upd B a (.ins C dx (putF f (.int (i - j)) fs)))) : R (tSeq (sFldAug K to te rSub f) tz) D σ B := fun H e =>
  ho H e _ fun H1 e1 => ⟨a, C, dx, fs, .int i, rfl, (e.trans e1) a _ hB, c, n, l, hv H1 (e.trans e1) _ fun H2 e2 => ⟨i, j, rfl, rfl, dx, fs, ((e.trans e1).trans e2) a _ hB, hz, k _ (ex_mut ((e.trans e1).trans e2))⟩⟩
/-! while, with things that change -/
theorem r_whileM (Pv : Nat → L2.St → Hp → Prop) (m0 : Nat) (h0 : Pv m0 σ B)
    (hs : ∀ m σ' B', Pv m σ' B' → EvTM t σ' B' fun b B2 => (b = true → R tu { D with nx := fun σ2 H2 => ∃ m', m' < m ∧ Pv m' σ2 H2, ct := fun σ2 H2 => ∃ m', m' < m ∧ Pv m' σ2 H2, bk := tz D } σ' B2) ∧ (b = false → R tz D σ' B2)) (up : ∀ m σ' B' B2, Ex B' B2 → Pv m σ' B' → Pv m σ' B2) : R (tSeq (tWhile t tu) tz) D σ B := fun H e =>
  ⟨fun m σ H => Pv m σ H, ⟨m0, up _ _ _ _ e h0⟩, fun m σ' H' p => hs m σ' H' p H' (Ex.refl _) _ fun b H2 ⟨h1, h2⟩ => by
    cases b with
    | true => exact ⟨fun σ2 H3 => ∃ m', m' < m ∧ Pv m' σ2 H3, fun σ2 H3 q => q, h1 rfl H2 (Ex.refl _)⟩
    | false => exact h2 rfl H2 (Ex.refl _)⟩
end
end FK

set_option Elab.async false
set_option linter.all false
set_option maxRecDepth 100000
/-! JSON as it is read: a plain reading of signs (own text) -/
namespace FK
open PySem PySem.Spec PyProof.Rows L2 Evl FkE
/-! ### the signs -/
def cdB (n : Nat) : Bool := n == 9 || n == 10 || (32 ≤ n && n ≤ 126 && n != 37)
def isBl (c : Nat) : Bool := c == 32 || c == 9 || c == 10
def isDg (c : Nat) : Bool := decide (48 ≤ c) && decide (c ≤ 57)
def chL (t : List Nat) (a : Nat) : List Nat := (t[a]?).toList
def chS (t : List Nat) (a : Nat) : V := .str (SX.S (chL t a))
theorem chL_some {t : List Nat} {a c : Nat} (h : t[a]? = some c) : chL t a = [c] := by
  unfold chL
  rw [h]
  rfl
theorem chL_none {t : List Nat} {a : Nat} (h : t[a]? = none) : chL t a = [] := by
  unfold chL
  rw [h]
  rfl
def runL (p : Nat → Bool) (t : List Nat) (a : Nat) : Nat := ((t.drop a).takeWhile p).length
theorem run_step {p : Nat → Bool} {t : List Nat} {a c : Nat} (h : t[a]? = some c) (hp : p c = true) : runL p t a = runL p t (a + 1) + 1 := by
  obtain ⟨hl, e⟩ := List.getElem?_eq_some_iff.mp h
  unfold runL
  rw [List.drop_eq_getElem_cons hl, e, List.takeWhile_cons, if_pos hp, List.length_cons]
theorem run_stop {p : Nat → Bool} {t : List Nat} {a : Nat} (h : ∀ c, t[a]? = some c → p c = false) : runL p t a = 0 := by
  unfold runL
  by_cases hl : a < t.length
  · rw [List.drop_eq_getElem_cons hl, List.takeWhile_cons, if_neg (by rw [h _ (List.getElem?_eq_getElem hl)]; decide)]
    rfl
  · rw [List.drop_eq_nil_of_le (by omega)]
    rfl
theorem run_le {p : Nat → Bool} {t : List Nat} {a : Nat} (h : a ≤ t.length) : a + runL p t a ≤ t.length := by
  unfold runL
  have := (List.takeWhile_sublist (p := p) (l := t.drop a)).length_le
  rw [List.length_drop] at this
  omega
theorem run_end {p : Nat → Bool} {t : List Nat} {a : Nat} : ∀ c, t[a + runL p t a]? = some c → p c = false := by
  intro c hc
  unfold runL at hc
  have e : t[a + ((t.drop a).takeWhile p).length]? = (t.drop a)[((t.drop a).takeWhile p).length]? := by rw [List.getElem?_drop]
  rw [e] at hc
  generalize t.drop a = l at hc
  induction l with
  | nil => simp at hc
  | cons x r ih =>
    rw [List.takeWhile_cons] at hc
    cases hp : p x with
    | true =>
      rw [if_pos hp] at hc
      exact ih (by simpa using hc)
    | false =>
      rw [if_neg (by rw [hp]; decide)] at hc
      simp at hc
      rw [← hc, hp]
theorem run_all {p : Nat → Bool} {t : List Nat} {a i : Nat} (h1 : a ≤ i) (h2 : i < a + runL p t a) : ∃ c, t[i]? = some c ∧ p c = true := by
  have hm : ((t.drop a).takeWhile p)[i - a]? = t[i]? := by
    have hpre : (t.drop a).takeWhile p <+: t.drop a := List.takeWhile_prefix p
    have hlt : i - a < ((t.drop a).takeWhile p).length := by
      unfold runL at h2
      omega
    have := hpre.getElem hlt
    rw [List.getElem?_eq_getElem hlt, this, ← List.getElem?_eq_getElem, List.getElem?_drop]
    congr 1
    omega
  have hlt : i - a < ((t.drop a).takeWhile p).length := by
    unfold runL at h2
    omega
  refine ⟨((t.drop a).takeWhile p)[i - a], by rw [← hm, List.getElem?_eq_getElem hlt], ?_⟩
  exact List.all_eq_true.mp (List.all_takeWhile (p := p) (l := t.drop a)) _ (List.getElem_mem hlt)
def skB (t : List Nat) (a : Nat) : Nat := a + runL isBl t a
theorem skB_ge {t : List Nat} {a : Nat} : a ≤ skB t a := Nat.le_add_right _ _
theorem skB_le {t : List Nat} {a : Nat} (h : a ≤ t.length) : skB t a ≤ t.length := run_le h
theorem skB_step {t : List Nat} {a c : Nat} (h : t[a]? = some c) (hp : isBl c = true) : skB t a = skB t (a + 1) := by
  unfold skB
  rw [run_step h hp]
  omega
theorem skB_stop {t : List Nat} {a : Nat} (h : ∀ c, t[a]? = some c → isBl c = false) : skB t a = a := by
  unfold skB
  rw [run_stop h]
  rfl
theorem skB_at {t : List Nat} {a : Nat} : ∀ c, t[skB t a]? = some c → isBl c = false := run_end
theorem skB_idem {t : List Nat} {a : Nat} : skB t (skB t a) = skB t a := skB_stop skB_at
/-! ### digits -/
def DIG : List Nat := ("0123456789abcdef" : Str).cps.toList
def digN (c b : Nat) : Option Nat := if 48 ≤ c ∧ c ≤ 57 then some (c - 48) else if b = 16 ∧ 97 ≤ c ∧ c ≤ 102 then some (c - 87) else if b = 16 ∧ 65 ≤ c ∧ c ≤ 70 then some (c - 55) else none
def digI (o : Option Nat) : Int := match o with
  | some k => (k : Int)
  | none => -1
theorem dig10_at : ∀ c < 128, Txt.find (SX.S (DIG.take 10)) (Txt.lower (SX.S [c])) = digI (digN c 10) := by decide +kernel
theorem dig16_at : ∀ c < 128, Txt.find (SX.S (DIG.take 16)) (Txt.lower (SX.S [c])) = digI (digN c 16) := by decide +kernel
theorem dig_isDg {c : Nat} : (digN c 10).isSome = isDg c := by
  unfold digN isDg
  by_cases h : 48 ≤ c ∧ c ≤ 57
  · rw [if_pos h]
    simp [h]
  · rw [if_neg h, if_neg (by simp), if_neg (by simp)]
    by_cases h1 : 48 ≤ c
    · have h2 : ¬ c ≤ 57 := fun z => h ⟨h1, z⟩
      simp [h2]
    · simp [h1]
/-! ### what is read -/
inductive Rc where
  | ok (c a : Nat) | er (a : Nat)
inductive Rt where
  | ok (cs : List Nat) (a : Nat) | er (a : Nat)
inductive Rs where
  | ok (d : PyData) (a : Nat) | er (a : Nat)
def hexA (t : List Nat) (a : Nat) : Option Nat := match t[a]? with
  | some c => digN c 16
  | none => none
def cdGo (t : List Nat) (b : Nat) : Nat → Nat → Nat → Rc
  | 0, a, code => if cdB code = true then .ok code a else .er b
  | k + 1, a, code => match hexA t a with
    | none => .er a
    | some d => cdGo t b k (a + 1) (16 * code + d)
theorem cdGo_ok {t : List Nat} {b : Nat} : ∀ {k a code c a' : Nat}, cdGo t b k a code = .ok c a' → a' = a + k ∧ cdB c = true
  | 0, a, code, c, a', h => by
    unfold cdGo at h
    split at h
    · rename_i hc
      cases h
      exact ⟨rfl, hc⟩
    · cases h
  | k + 1, a, code, c, a', h => by
    unfold cdGo at h
    split at h
    · cases h
    · have := cdGo_ok h
      exact ⟨by omega, this.2⟩
theorem hexA_lt {t : List Nat} {a d : Nat} (h : hexA t a = some d) : a < t.length ∧ d < 16 := by
  unfold hexA at h
  split at h
  · rename_i c hc
    refine ⟨(List.getElem?_eq_some_iff.mp hc).1, ?_⟩
    unfold digN at h
    split at h
    · cases h; omega
    · split at h
      · cases h; omega
      · split at h
        · cases h; omega
        · cases h
  · cases h
theorem cdGo_le {t : List Nat} {b : Nat} : ∀ {k a code c a' : Nat}, a ≤ t.length → cdGo t b k a code = .ok c a' → a' ≤ t.length
  | 0, a, code, c, a', hl, h => by
    have := (cdGo_ok h).1
    omega
  | k + 1, a, code, c, a', hl, h => by
    unfold cdGo at h
    split at h
    · cases h
    · rename_i d hd
      exact cdGo_le (by have := (hexA_lt hd).1; omega) h
def rdCode (t : List Nat) (b : Nat) : Rc := cdGo t b 4 (b + 2) 0
def escC (l : Nat) : Option Nat := if l = 34 then some 34 else if l = 92 then some 92 else if l = 47 then some 47 else if l = 110 then some 10 else if l = 116 then some 9 else none
def rdEsc (t : List Nat) (b : Nat) : Rc := match t[b + 1]? with
  | none => .er (b + 1)
  | some l => if l = 117 then rdCode t b else match escC l with
    | some c => .ok c (b + 2)
    | none => .er (b + 1)
theorem rdEsc_ok {t : List Nat} {b c a' : Nat} (h : rdEsc t b = .ok c a') : b + 2 ≤ a' ∧ a' ≤ t.length ∧ c < 128 := by
  unfold rdEsc at h
  split at h
  · cases h
  · rename_i l hl
    have hlt := (List.getElem?_eq_some_iff.mp hl).1
    split at h
    · have h1 := cdGo_ok h
      refine ⟨by omega, cdGo_le (by omega) h, ?_⟩
      have := h1.2
      unfold cdB at this
      simp at this
      omega
    · split at h
      · rename_i c' hc
        cases h
        refine ⟨by omega, by omega, ?_⟩
        unfold escC at hc
        repeat (split at hc; · cases hc; omega)
        cases hc
      · cases h
def rdStr (t : List Nat) (a : Nat) (acc : List Nat) : Rt :=
  match h : t[a]? with
  | none => .er a
  | some c => if c = 34 then .ok acc (a + 1) else if c = 92 then
      (match rdEsc t a with
        | .er e => .er e
        | .ok c' a' => if h2 : a < a' then rdStr t a' (acc ++ [c']) else .er 0)
    else if c = 10 ∨ c = 9 ∨ cdB c = false then .er a else rdStr t (a + 1) (acc ++ [c])
termination_by t.length + 1 - a
decreasing_by
  all_goals
    have hl := (List.getElem?_eq_some_iff.mp h).1
    omega
theorem rdStr_none {t : List Nat} {a : Nat} {acc : List Nat} (h : t[a]? = none) : rdStr t a acc = .er a := by
  rw [rdStr.eq_1]
  split
  · rfl
  · rename_i c hc
    rw [h] at hc
    cases hc
theorem rdStr_quote {t : List Nat} {a : Nat} {acc : List Nat} (h : t[a]? = some 34) : rdStr t a acc = .ok acc (a + 1) := by
  rw [rdStr.eq_1]
  split
  · rename_i hc
    rw [h] at hc
    cases hc
  · rename_i c hc
    rw [h] at hc
    cases hc
    rw [if_pos rfl]
theorem rdStr_esc {t : List Nat} {a : Nat} {acc : List Nat} (h : t[a]? = some 92) : rdStr t a acc = (match rdEsc t a with
    | .er e => .er e
    | .ok c' a' => rdStr t a' (acc ++ [c'])) := by
  rw [rdStr.eq_1]
  split
  · rename_i hc
    rw [h] at hc
    cases hc
  · rename_i c hc
    rw [h] at hc
    cases hc
    rw [if_neg (by decide), if_pos rfl]
    split
    · rfl
    · rename_i c' a' he
      rw [dif_pos (by have := (rdEsc_ok he).1; omega)]
theorem rdStr_bad {t : List Nat} {a c : Nat} {acc : List Nat} (h : t[a]? = some c) (h1 : c ≠ 34) (h2 : c ≠ 92) (h3 : c = 10 ∨ c = 9 ∨ cdB c = false) : rdStr t a acc = .er a := by
  rw [rdStr.eq_1]
  split
  · rfl
  · rename_i c' hc
    rw [h] at hc
    cases hc
    rw [if_neg h1, if_neg h2, if_pos h3]
theorem rdStr_sign {t : List Nat} {a c : Nat} {acc : List Nat} (h : t[a]? = some c) (h1 : c ≠ 34) (h2 : c ≠ 92) (h3 : ¬ (c = 10 ∨ c = 9 ∨ cdB c = false)) : rdStr t a acc = rdStr t (a + 1) (acc ++ [c]) := by
  rw [rdStr.eq_1]
  split
  · rename_i hc
    rw [h] at hc
    cases hc
  · rename_i c' hc
    rw [h] at hc
    cases hc
    rw [if_neg h1, if_neg h2, if_neg h3]
theorem rdStr_ok {t : List Nat} : ∀ (n a : Nat) (acc : List Nat) (cs : List Nat) (a' : Nat), t.length + 1 - a ≤ n → rdStr t a acc = .ok cs a' → a < a' ∧ a' ≤ t.length ∧ cs.length ≤ acc.length + (a' - a) ∧ ((∀ c ∈ acc, c < 128) → ∀ c ∈ cs, c < 128)
  | 0, a, acc, cs, a', hn, h => by
    rw [rdStr_none (by rw [List.getElem?_eq_none]; omega)] at h
    cases h
  | n + 1, a, acc, cs, a', hn, h => by
    cases hc : t[a]? with
    | none =>
      rw [rdStr_none hc] at h
      cases h
    | some c =>
      have hl := (List.getElem?_eq_some_iff.mp hc).1
      by_cases h1 : c = 34
      · subst h1
        rw [rdStr_quote hc] at h
        cases h
        exact ⟨by omega, by omega, by omega, fun z => z⟩
      by_cases h2 : c = 92
      · subst h2
        rw [rdStr_esc hc] at h
        split at h
        · cases h
        · rename_i c' a2 he
          have := rdEsc_ok he
          have ih := rdStr_ok n a2 (acc ++ [c']) cs a' (by omega) h
          rw [List.length_append, List.length_singleton] at ih
          refine ⟨by omega, ih.2.1, by omega, fun z => ih.2.2.2 fun x hx => ?_⟩
          rcases List.mem_append.mp hx with hx | hx
          · exact z x hx
          · rw [List.mem_singleton.mp hx]
            exact this.2.2
      by_cases h3 : c = 10 ∨ c = 9 ∨ cdB c = false
      · rw [rdStr_bad hc h1 h2 h3] at h
        cases h
      · rw [rdStr_sign hc h1 h2 h3] at h
        have ih := rdStr_ok n (a + 1) (acc ++ [c]) cs a' (by omega) h
        rw [List.length_append, List.length_singleton] at ih
        refine ⟨by omega, ih.2.1, by omega, fun z => ih.2.2.2 fun x hx => ?_⟩
        rcases List.mem_append.mp hx with hx | hx
        · exact z x hx
        · rw [List.mem_singleton.mp hx]
          have hcb : cdB c = true := by
            cases hb : cdB c with
            | true => rfl
            | false => exact absurd (.inr (.inr hb)) h3
          unfold cdB at hcb
          simp at hcb
          omega
/-! numbers -/
def cutL (t : List Nat) (a b : Nat) : List Nat := (t.drop a).take (b - a)
def numV (t : List Nat) (a b : Nat) : Int := (intText? (SX.S (cutL t a b))).getD 0
def numE (t : List Nat) (f : Nat) : Nat := if t[f]? = some 48 then f + 1 else f + runL isDg t f
def numF (t : List Nat) (a : Nat) : Nat := if t[a]? = some 45 then a + 1 else a
def rdNum (t : List Nat) (a : Nat) : Rs :=
  match t[numF t a]? with
  | none => .er (numF t a)
  | some c => if isDg c = false then .er (numF t a) else if 15 < numE t (numF t a) - numF t a then .er a else .ok (.int (numV t a (numE t (numF t a)))) (numE t (numF t a))
def wdGo (t : List Nat) : List Nat → Nat → PyData → Rs
  | [], a, d => .ok d a
  | c :: r, a, d => if t[a]? = some c then wdGo t r (a + 1) d else .er a
theorem wdGo_ok {t : List Nat} : ∀ {w : List Nat} {a : Nat} {d d' : PyData} {a' : Nat}, wdGo t w a d = .ok d' a' → a' = a + w.length ∧ d' = d ∧ (w ≠ [] → a' ≤ t.length)
  | [], a, d, d', a', h => by
    cases h
    exact ⟨rfl, rfl, fun z => absurd rfl z⟩
  | c :: r, a, d, d', a', h => by
    unfold wdGo at h
    split at h
    · rename_i hc
      have hl := (List.getElem?_eq_some_iff.mp hc).1
      have ih := wdGo_ok h
      refine ⟨by rw [List.length_cons]; omega, ih.2.1, fun _ => ?_⟩
      cases r with
      | nil =>
        have := ih.1
        simp at this
        omega
      | cons x y => exact ih.2.2 (by simp)
    · cases h
/-! lists and dicts -/
def lsGo (t : List Nat) (rv : Nat → Rs) (a : Nat) (acc : List PyData) : Rs :=
  match rv a with
  | .er e => .er e
  | .ok v a' => match t[skB t a']? with
    | none => .er (skB t a')
    | some c => if c = 93 then .ok (.list (acc ++ [v])) (skB t a' + 1) else if c = 44 then
        (if h : a < skB t a' + 1 ∧ skB t a' < t.length then lsGo t rv (skB t a' + 1) (acc ++ [v]) else .er 0) else .er (skB t a')
termination_by t.length + 1 - a
decreasing_by omega
def dcGo (t : List Nat) (rv : Nat → Rs) (a : Nat) (acc : List (List Nat × PyData)) : Rs :=
  match t[skB t a]? with
  | none => .er (skB t a)
  | some c => if c ≠ 34 then .er (skB t a) else match rdStr t (skB t a + 1) [] with
    | .er e => .er e
    | .ok k a2 => if k ∈ acc.map (·.1) then .er (skB t a) else if t[skB t a2]? ≠ some 58 then .er (skB t a2) else match rv (skB t a2 + 1) with
      | .er e => .er e
      | .ok v a4 => match t[skB t a4]? with
        | none => .er (skB t a4)
        | some c => if c = 125 then .ok (.dict ((acc ++ [(k, v)]).map fun p => (.str (SX.S p.1), p.2))) (skB t a4 + 1) else if c = 44 then
            (if h : a < skB t a4 + 1 ∧ skB t a4 < t.length then dcGo t rv (skB t a4 + 1) (acc ++ [(k, v)]) else .er 0) else .er (skB t a4)
termination_by t.length + 1 - a
decreasing_by omega
def lsR (t : List Nat) (rv : Nat → Rs) (a : Nat) : Rs := if t[skB t (a + 1)]? = some 93 then .ok (.list []) (skB t (a + 1) + 1) else lsGo t rv (skB t (a + 1)) []
def dcR (t : List Nat) (rv : Nat → Rs) (a : Nat) : Rs := if t[skB t (a + 1)]? = some 125 then .ok (.dict []) (skB t (a + 1) + 1) else dcGo t rv (skB t (a + 1)) []
def stR (t : List Nat) (a : Nat) : Rs := match rdStr t (a + 1) [] with
  | .er e => .er e
  | .ok cs a' => .ok (.str (SX.S cs)) a'
def wNull : List Nat := [110, 117, 108, 108]
def wTrue : List Nat := [116, 114, 117, 101]
def wFalse : List Nat := [102, 97, 108, 115, 101]
/-- what stands behind the blanks -/
def rdC (t : List Nat) (rv : Option (Nat → Rs)) (a c : Nat) : Rs :=
  if c = 91 then (match rv with
    | none => .er a
    | some r => lsR t r a)
  else if c = 123 then (match rv with
    | none => .er a
    | some r => dcR t r a)
  else if c = 34 then stR t a
  else if c = 45 ∨ isDg c = true then rdNum t a
  else if c = 110 then wdGo t wNull a .none
  else if c = 116 then wdGo t wTrue a (.bool true)
  else if c = 102 then wdGo t wFalse a (.bool false)
  else .er a
def rdA (t : List Nat) (rv : Option (Nat → Rs)) (a : Nat) : Rs := match t[skB t a]? with
  | none => .er (skB t a)
  | some c => rdC t rv (skB t a) c
def rdV (t : List Nat) : Nat → Nat → Rs
  | 0, a => rdA t none a
  | n + 1, a => rdA t (some (rdV t n)) a
def upN (t : List Nat) : Nat → Option (Nat → Rs)
  | 0 => none
  | n + 1 => some (rdV t n)
theorem rdV_eq (t : List Nat) (n a : Nat) : rdV t n a = rdA t (upN t n) a := by
  cases n <;> rfl
def rdW (t : List Nat) : Rs := match rdV t 32 0 with
  | .er e => .er e
  | .ok d a => if skB t a < t.length then .er (skB t a) else .ok d a
/-! ### the reading goes on -/
theorem numE_le {t : List Nat} {f c : Nat} (h : t[f]? = some c) (hd : isDg c = true) : f < numE t f ∧ numE t f ≤ t.length := by
  have hl := (List.getElem?_eq_some_iff.mp h).1
  unfold numE
  split
  · omega
  · have h1 := run_step h hd
    have h2 := run_le (p := isDg) (t := t) (a := f) (by omega)
    omega
theorem rdNum_ok {t : List Nat} {a a' : Nat} {d : PyData} (h : rdNum t a = .ok d a') : a < a' ∧ a' ≤ t.length := by
  unfold rdNum at h
  split at h
  · cases h
  · rename_i c hc
    split at h
    · cases h
    · rename_i hd
      split at h
      · cases h
      · cases h
        have hd' : isDg c = true := by simpa using hd
        have := numE_le hc hd'
        unfold numF at this ⊢
        split at this <;> rename_i hq <;> simp only [hq, if_true, if_false] at * <;> omega
theorem lsGo_ok {t : List Nat} {rv : Nat → Rs} (hr : ∀ a d a', rv a = .ok d a' → a < a' ∧ a' ≤ t.length) : ∀ (n a : Nat) (acc : List PyData) (d : PyData) (a' : Nat), t.length + 1 - a ≤ n → lsGo t rv a acc = .ok d a' → a < a' ∧ a' ≤ t.length
  | 0, a, acc, d, a', hn, h => by
    rw [lsGo.eq_1] at h
    split at h
    · cases h
    · rename_i v a2 h1
      have := hr _ _ _ h1
      omega
  | n + 1, a, acc, d, a', hn, h => by
    rw [lsGo.eq_1] at h
    split at h
    · cases h
    · rename_i v a2 h1
      have hv := hr _ _ _ h1
      have hs := skB_ge (t := t) (a := a2)
      split at h
      · cases h
      · rename_i c hc
        have hl := (List.getElem?_eq_some_iff.mp hc).1
        split at h
        · cases h
          omega
        · split at h
          · split at h
            · have := lsGo_ok hr n _ _ _ _ (by omega) h
              omega
            · cases h
          · cases h
theorem dcGo_ok {t : List Nat} {rv : Nat → Rs} (hr : ∀ a d a', rv a = .ok d a' → a < a' ∧ a' ≤ t.length) : ∀ (n a : Nat) (acc : List (List Nat × PyData)) (d : PyData) (a' : Nat), t.length + 1 - a ≤ n → dcGo t rv a acc = .ok d a' → a < a' ∧ a' ≤ t.length := by
  intro n
  induction n with
  | zero =>
    intro a acc d a' hn h
    rw [dcGo.eq_1] at h
    split at h
    · cases h
    · rename_i c hc
      have hl := (List.getElem?_eq_some_iff.mp hc).1
      have := skB_ge (t := t) (a := a)
      omega
  | succ n ih =>
    intro a acc d a' hn h
    have h0 := skB_ge (t := t) (a := a)
    rw [dcGo.eq_1] at h
    split at h
    · cases h
    · rename_i c hc
      have hl := (List.getElem?_eq_some_iff.mp hc).1
      split at h
      · cases h
      · split at h
        · cases h
        · rename_i k a2 hk
          have hk2 := rdStr_ok _ _ _ _ _ (Nat.le_refl _) hk
          have h2 := skB_ge (t := t) (a := a2)
          split at h
          · cases h
          · split at h
            · cases h
            · split at h
              · cases h
              · rename_i v a4 h4
                have hv := hr _ _ _ h4
                have h5 := skB_ge (t := t) (a := a4)
                split at h
                · cases h
                · rename_i c2 hc2
                  have hl2 := (List.getElem?_eq_some_iff.mp hc2).1
                  split at h
                  · cases h
                    omega
                  · split at h
                    · split at h
                      · have := ih _ _ _ _ (by omega) h
                        omega
                      · cases h
                    · cases h
theorem rdA_ok {t : List Nat} {rv : Option (Nat → Rs)} (hr : ∀ r, rv = some r → ∀ a d a', r a = .ok d a' → a < a' ∧ a' ≤ t.length) {a a' : Nat} {d : PyData} (h : rdA t rv a = .ok d a') : a < a' ∧ a' ≤ t.length := by
  have h0 := skB_ge (t := t) (a := a)
  unfold rdA at h
  split at h
  · cases h
  · rename_i c hc
    have hl := (List.getElem?_eq_some_iff.mp hc).1
    generalize skB t a = b at *
    have h1 := skB_ge (t := t) (a := b + 1)
    suffices b < a' ∧ a' ≤ t.length by omega
    unfold rdC at h
    split at h
    · split at h
      · cases h
      · rename_i r
        unfold lsR at h
        split at h
        · rename_i he
          cases h
          have := (List.getElem?_eq_some_iff.mp he).1
          omega
        · have := lsGo_ok (hr r rfl) _ _ _ _ _ (Nat.le_refl _) h
          omega
    · split at h
      · split at h
        · cases h
        · rename_i r
          unfold dcR at h
          split at h
          · rename_i he
            cases h
            have := (List.getElem?_eq_some_iff.mp he).1
            omega
          · have := dcGo_ok (hr r rfl) _ _ _ _ _ (Nat.le_refl _) h
            omega
      · split at h
        · unfold stR at h
          split at h
          · cases h
          · rename_i cs a2 hs
            cases h
            have := rdStr_ok _ _ _ _ _ (Nat.le_refl _) hs
            omega
        · split at h
          · exact rdNum_ok h
          · split at h
            · have := wdGo_ok h
              have h2 := this.2.2 (by decide)
              have h3 := this.1
              simp [wNull] at h3
              omega
            · split at h
              · have := wdGo_ok h
                have h2 := this.2.2 (by decide)
                have h3 := this.1
                simp [wTrue] at h3
                omega
              · split at h
                · have := wdGo_ok h
                  have h2 := this.2.2 (by decide)
                  have h3 := this.1
                  simp [wFalse] at h3
                  omega
                · cases h
theorem rdV_ok {t : List Nat} : ∀ (n : Nat) {a a' : Nat} {d : PyData}, rdV t n a = .ok d a' → a < a' ∧ a' ≤ t.length
  | 0, _, _, _, h => rdA_ok (fun r e => by cases e) h
  | n + 1, _, _, _, h => rdA_ok (fun r e a d a' h => by cases e; exact rdV_ok n h) h
theorem upN_ok {t : List Nat} {n : Nat} {r : Nat → Rs} (e : upN t n = some r) {a a' : Nat} {d : PyData} (h : r a = .ok d a') : a < a' ∧ a' ≤ t.length := by
  cases n with
  | zero => cases e
  | succ n =>
    cases e
    exact rdV_ok n h
/-! ### the number's text -/
theorem num_is {t : List Nat} {a c : Nat} (h : t[numF t a]? = some c) (hd : isDg c = true) (hz : numE t (numF t a) - numF t a ≤ 15) : intText? (SX.S (cutL t a (numE t (numF t a)))) = some (numV t a (numE t (numF t a))) ∧ (cutL t a (numE t (numF t a))).length ≤ 16 := by
  have hE := numE_le h hd
  generalize he : numE t (numF t a) = e at *
  have hdig : ∀ i, numF t a ≤ i → i < e → ∃ c, t[i]? = some c ∧ isDg c = true := by
    intro i h1 h2
    unfold numE at he
    split at he
    · rename_i h48
      have : i = numF t a := by omega
      subst this
      exact ⟨48, h48, rfl⟩
    · exact run_all h1 (by omega)
  have hF : numF t a = a ∨ (numF t a = a + 1 ∧ t[a]? = some 45) := by
    unfold numF
    split
    · rename_i hq
      exact .inr ⟨rfl, hq⟩
    · exact .inl rfl
  have hcl : ∀ b, b ≤ e → (cutL t b e).length = e - b := by
    intro b hb
    unfold cutL
    rw [List.length_take, List.length_drop]
    omega
  have hget : ∀ b j, b ≤ e → j < e - b → (cutL t b e)[j]? = t[b + j]? := by
    intro b j hb hj
    unfold cutL
    rw [List.getElem?_take_of_lt hj, List.getElem?_drop]
  have all : NumText.AllDigits (cutL t (numF t a) e) := by
    intro x hx
    obtain ⟨j, hj⟩ := List.mem_iff_getElem?.mp hx
    have hjl := (List.getElem?_eq_some_iff.mp hj).1
    rw [hcl _ (by omega)] at hjl
    rw [hget _ _ (by omega) hjl] at hj
    obtain ⟨c', hc', hd'⟩ := hdig (numF t a + j) (by omega) (by omega)
    rw [hj] at hc'
    cases hc'
    unfold isDg at hd'
    simpa using hd'
  have nn : cutL t (numF t a) e ≠ [] := by
    intro z
    have := hcl (numF t a) (by omega)
    rw [z] at this
    simp at this
    omega
  have some_of : ∀ n, intText? (SX.S (cutL t a e)) = some n → intText? (SX.S (cutL t a e)) = some (numV t a e) := fun n hn => by
    unfold numV
    rw [hn]
    rfl
  have tl : ∀ l : List Nat, (SX.S l).cps.toList = l := fun l => by simp [SX.S]
  have ln : ∀ l : List Nat, (SX.S l).length = l.length := fun l => SX.S_len l
  rcases hF with hF | ⟨hF, h45⟩
  · rw [hF] at all nn hz
    refine ⟨some_of _ (intText_digits (by rw [tl]; exact all) (by rw [tl]; exact nn) (by rw [ln, hcl _ (by omega)]; omega)), by rw [hcl _ (by omega)]; omega⟩
  · have hcons : cutL t a e = 45 :: cutL t (a + 1) e := by
      unfold cutL
      have hl := (List.getElem?_eq_some_iff.mp h45)
      obtain ⟨hl, hv⟩ := hl
      rw [List.drop_eq_getElem_cons hl, hv, show e - a = (e - (a + 1)) + 1 by omega, List.take_succ_cons]
    rw [hF] at all nn hz
    refine ⟨some_of _ (intText_neg (cs := cutL t (a + 1) e) (by rw [tl]; exact hcons) all nn (by rw [ln, hcl _ (by omega)]; omega)), by rw [hcl _ (by omega)]; omega⟩
end FK

set_option Elab.async false
set_option linter.all false
set_option maxRecDepth 100000
/-! data that is made anew; JSON as it is written (own text) -/
namespace FK
open PySem PySem.Spec PyProof.Rows L2 Evl FkE
def noH : Hp := fun _ => none
/-- new data: all of it stands in what is new -/
def EvF (K : PySem.W.Frag) (te : TE) (σ : L2.St) (B : Hp) (d : PyData) : Prop := ∀ H1, Ex B H1 → ∀ Q : VK, (∀ v H2 N, Ex H1 H2 → Ex N H2 → (∀ p, N p ≠ none → H1 p = none) → Dq K N v d → Q v H2) → te σ H1 Q
def EvFA (K : PySem.W.Frag) (ta : TA) (σ : L2.St) (B : Hp) (ds : List PyData) : Prop := ∀ H1, Ex B H1 → ∀ Q : List V → Hp → Prop, (∀ vs H2 N, Ex H1 H2 → Ex N H2 → (∀ p, N p ≠ none → H1 p = none) → DqA K N vs ds → Q vs H2) → ta σ H1 Q
/-- a call that gives new data -/
def PF (K : PySem.W.Frag) (pre : List V → Hp → PyData → Prop) : Sp := fun vs H Q _ => ∃ d, pre vs H d ∧ ∀ v H2 N, Ex H H2 → Ex N H2 → (∀ p, N p ≠ none → H p = none) → Dq K N v d → Q v H2
theorem fragN {N N2 H1 H2 : Hp} (h1 : Ex N H1) (h2 : ∀ p, N2 p ≠ none → H1 p = none) : Ex N (fr N N2) ∧ Ex N2 (fr N N2) := by
  refine ⟨fun p o e => ?_, fun p o e => fr_in e⟩
  cases c : N2 p with
  | none => rw [fr_out c]; exact e
  | some u =>
    have h3 := h2 p (by rw [c]; simp)
    rw [h1 p _ e] at h3
    cases h3
theorem dqa_snocD {K : PySem.W.Frag} {N : Hp} : ∀ {xs : List V} {ds : List PyData} {v : V} {d : PyData}, DqA K N xs ds → Dq K N v d → DqA K N (xs ++ [v]) (ds ++ [d])
  | _, _, _, _, .nil, h => .cons h .nil
  | _, _, _, _, .cons a b, h => .cons a (dqa_snocD b h)
theorem fr_ex {N N2 H : Hp} (h1 : Ex N H) (h2 : Ex N2 H) : Ex (fr N N2) H := fun p o e => by
  cases c : N2 p with
  | none => rw [fr_out c] at e; exact h1 p o e
  | some u => rw [fr_in c] at e; cases e; exact h2 p _ c
theorem fr_new {N N2 H : Hp} (h1 : ∀ p, N p ≠ none → H p = none) (h2 : ∀ p, N2 p ≠ none → H p = none) : ∀ p, fr N N2 p ≠ none → H p = none := fun p h => by
  cases c : N2 p with
  | none => rw [fr_out c] at h; exact h1 p h
  | some u => exact h2 p (by rw [c]; simp)
theorem upd_ex {N H : Hp} {p : Addr} {o : HO} (h : Ex N H) (hp : H p = some o) : Ex (upd N p o) H := fun x u e => by
  by_cases c : x = p
  · subst c
    rw [upd_same] at e
    cases e
    exact hp
  · rw [upd_ne c] at e
    exact h x u e
theorem upd_new {N H : Hp} {p : Addr} {o : HO} (h : ∀ x, N x ≠ none → H x = none) (hp : H p = none) : ∀ x, upd N p o x ≠ none → H x = none := fun x e => by
  by_cases c : x = p
  · subst c
    exact hp
  · rw [upd_ne c] at e
    exact h x e
section
variable {K : PySem.W.Frag} {σ : L2.St} {B B' : Hp} {te tb : TE} {t : TT} {as : TA} {tz : TS} {D : Ends} {v : V} {d : PyData} {ds : List PyData} {vs : List V} {pre : List V → Hp → PyData → Prop} {E : XK} {W : WX} {Pp : List V → Hp → Prop}
theorem EvF.mono (e : Ex B B') (h : EvF K te σ B d) : EvF K te σ B' d := fun H1 a => h H1 (e.trans a)
theorem ef_ev (h : Ev te σ B v) (hd : Dq K noH v d) : EvF K te σ B d := fun H1 e Q q => h H1 e Q fun H2 e2 => q v H2 noH e2 (fun x o z => by cases z) (fun p z => absurd rfl z) hd
theorem ef_pf (h : EvA as σ B vs) (hp : ∀ H, Ex B H → pre (vs ++ []) H d) : EvF K (tCall (PF K pre) [] E as) σ B d := fun H1 e Q q =>
  h H1 e _ fun H2 e2 => ⟨d, hp H2 (e.trans e2), fun v H3 N e3 eN fN dN => q v H3 N (e2.trans e3) eN (fun p z => fresh_back e2 (fN p z)) dN⟩
theorem ef_pfX (h : EvA as σ B vs) (hp : ∀ H, Ex B H → pre vs H d) : EvF K (tCallS (PF K pre) (WE W) as) σ B d := fun H1 e Q q =>
  h H1 e _ fun H2 e2 => ⟨d, hp H2 (e.trans e2), fun v H3 N e3 eN fN dN => q v H3 N (e2.trans e3) eN (fun p z => fresh_back e2 (fN p z)) dN⟩
theorem ef_pfXA (h : EvAP as σ B Pp) (hp : ∀ vs H, Ex B H → Pp vs H → pre vs H d) : EvF K (tCallS (PF K pre) (WE W) as) σ B d := fun H1 e Q q =>
  h H1 e _ fun vs H2 e2 hv => ⟨d, hp vs H2 (e.trans e2) hv, fun v H3 N e3 eN fN dN => q v H3 N (e2.trans e3) eN (fun p z => fresh_back e2 (fN p z)) dN⟩
theorem ef_if {b : Bool} (h : EvT t σ B b) (h1 : b = true → EvF K te σ B d) (h2 : b = false → EvF K tb σ B d) : EvF K (tIf t te tb) σ B d := fun H1 e Q q =>
  h H1 e _ fun H2 e2 => by
    cases b with
    | true => exact h1 rfl H2 (e.trans e2) Q fun v H3 N e3 eN fN dN => q v H3 N (e2.trans e3) eN (fun p z => fresh_back e2 (fN p z)) dN
    | false => exact h2 rfl H2 (e.trans e2) Q fun v H3 N e3 eN fN dN => q v H3 N (e2.trans e3) eN (fun p z => fresh_back e2 (fN p z)) dN
theorem efa_nil : EvFA K tNil σ B [] := fun H1 e Q q => q [] H1 noH (Ex.refl _) (fun x o z => by cases z) (fun p z => absurd rfl z) .nil
theorem efa_cons (h : EvF K te σ B d) (hs : EvFA K as σ B ds) : EvFA K (tCons te as) σ B (d :: ds) := fun H1 e Q q =>
  h H1 e _ fun v H2 N e2 eN fN dN => hs H2 (e.trans e2) _ fun vs H3 N2 e3 eN2 fN2 dN2 =>
    have x := fragN eN fN2 (H2 := H3)
    q (v :: vs) H3 (fr N N2) (e2.trans e3) (fr_ex (eN.trans e3) eN2) (fr_new fN fun p z => fresh_back e2 (fN2 p z)) (.cons (dq_ex x.1 _ _ dN) (dqa_ex x.2 _ _ dN2))
theorem ef_tup (h : EvFA K as σ B ds) (hz : ds.length ≤ 100000) : EvF K (tTup as) σ B (.tuple ds) := fun H1 e Q q =>
  h H1 e _ fun vs H2 N e2 eN fN dN => ⟨by
    have := dqa_len dN
    exact sz_of (by omega), fun p hp => q (.ref p) _ (upd N p (.tup vs)) (e2.trans (Ex.new hp)) (upd_ex (eN.trans (Ex.new hp)) upd_same) (upd_new fN (fresh_back e2 hp)) (.tup upd_same (dqa_ex (Ex.new (by
      cases c : N p with
      | none => rfl
      | some u =>
        have := eN p _ c
        rw [hp] at this
        cases this)) _ _ dN))⟩
theorem ef_lst (h : EvFA K as σ B ds) (hz : ds.length ≤ 100000) : EvF K (tLst as) σ B (.list ds) := fun H1 e Q q =>
  h H1 e _ fun vs H2 N e2 eN fN dN => ⟨by
    have := dqa_len dN
    exact sz_of (by omega), fun p hp => q (.ref p) _ (upd N p (.lst vs)) (e2.trans (Ex.new hp)) (upd_ex (eN.trans (Ex.new hp)) upd_same) (upd_new fN (fresh_back e2 hp)) (.lst upd_same (dqa_ex (Ex.new (by
      cases c : N p with
      | none => rfl
      | some u =>
        have := eN p _ c
        rw [hp] at this
        cases this)) _ _ dN))⟩
/-- tuple(new list) -/
theorem ef_tuple (h : EvF K te σ B (.list ds)) : EvF K (tCB (fun xs H Q => ∃ p ys, xs = [.ref p] ∧ ((SqL K H p ys ∧ ∀ l, H l = none → Q (.ref l) (upd H l (.tup ys))) ∨ (SqT K H p ys ∧ Q (.ref p) H))) (tCons te tNil)) σ B (.tuple ds) := fun H1 e Q q =>
  h H1 e _ fun v H2 N e2 eN fN dN => by
    cases dN with
    | lst ha hs => exact ⟨_, _, rfl, .inl ⟨sq_of (eN _ _ ha), fun p hp => q (.ref p) _ (upd N p (.tup _)) (e2.trans (Ex.new hp)) (upd_ex (eN.trans (Ex.new hp)) upd_same) (upd_new fN (fresh_back e2 hp)) (.tup upd_same (dqa_ex (Ex.new (by
      cases c : N p with
      | none => rfl
      | some u =>
        have := eN p _ c
        rw [hp] at this
        cases this)) _ _ hs))⟩⟩
/-- a comprehension of new data -/
theorem ef_lc {wi : TI} {xs : List V} {j : Nat} {ws : List Nat} (h : EvI wi σ B xs) (hl : xs.length = ds.length) (hz : xs.length ≤ 100000) (hw : ∀ x, wipe ((wipe σ ws).set j (some x)) ws = wipe σ ws)
    (he : ∀ (i : Nat) x d, xs[i]? = some x → ds[i]? = some d → ∀ B', Ex B B' → EvF K te ((wipe σ ws).set j (some x)) B' d) : EvF K (tLc wi (gName j) tYes te ws) σ B (.list ds) := fun H1 e Q q =>
  h H1 e _ fun J H2 G e2 w hG => fun Dl hD => by
    refine lc_it w (fun i H => ∃ ys N, Ex H2 H ∧ H Dl = some (.lst ys) ∧ Ex N H ∧ (∀ p, N p ≠ none → H2 p = none) ∧ N Dl = none ∧ DqA K N ys (ds.take i) ∧ i ≤ ds.length) ⟨[], noH, Ex.new hD, upd_same, (fun x o z => by cases z), (fun p z => absurd rfl z), rfl, by rw [List.take_zero]; exact .nil, Nat.zero_le _⟩ (fun i H _ a => ?_) (fun i x H H' hi a y => ?_) fun H a => ?_
    · obtain ⟨_, _, a1, _⟩ := a
      exact hG H a1
    · obtain ⟨ys, N, a1, a2, a3, a4, a5, a6, a7⟩ := a
      obtain ⟨y1, y2⟩ := y
      subst y1
      have hil : i < ds.length := by omega
      have hd : ds[i]? = some ds[i] := List.getElem?_eq_getElem hil
      refine ⟨hw x, et_yes H' (Ex.refl H') _ fun H3 e3 => he i x _ y2 hd H3 (((e.trans e2).trans a1).trans e3) H3 (Ex.refl _) _ fun v H4 N2 e4 eN2 fN2 dN2 => ⟨ys, e4 Dl _ (e3 Dl _ a2), ?_, ?_⟩⟩
      · have := dqa_len a6
        rw [List.length_take] at this
        exact Nat.lt_of_le_of_lt (by omega : ys.length ≤ 100000) (by decide)
      · have n2 : N2 Dl = none := by
          cases c : N2 Dl with
          | none => rfl
          | some u =>
            have := fN2 Dl (by rw [c]; simp)
            rw [e3 Dl _ a2] at this
            cases this
        have x := fragN (a3.trans e3) fN2 (H2 := H4)
        have hne : ∀ {y : Addr} {o : HO}, fr N N2 y = some o → y ≠ Dl := fun {y o} z c => by
          subst c
          rw [fr_out n2, a5] at z
          cases z
        refine ⟨ys ++ [v], fr N N2, ?_, upd_same, fun y o z => ?_, ?_, by rw [fr_out n2]; exact a5, ?_, by omega⟩
        · exact Ex.mut ((a1.trans e3).trans e4) hD
        · rw [upd_ne (hne z)]
          exact fr_ex ((a3.trans e3).trans e4) eN2 y o z
        · exact fr_new a4 fun p z => fresh_back (a1.trans e3) (fN2 p z)
        · rw [List.take_add_one, hd]
          exact dqa_snocD (dqa_ex x.1 _ _ a6) (dq_ex x.2 _ _ dN2)
    · obtain ⟨ys, N, a1, a2, a3, a4, a5, a6, a7⟩ := a
      rw [hl, List.take_length] at a6
      exact q (.ref Dl) H (upd N Dl (.lst ys)) (e2.trans a1) (upd_ex a3 a2) (upd_new (fun p z => fresh_back e2 (a4 p z)) (fresh_back e2 hD)) (.lst upd_same (dqa_ex (Ex.new a5) _ _ a6))
/-- new data as an argument -/
theorem eap_f (h : EvF K te σ B d) (t : EvAP as σ B Pp) : EvAP (tCons te as) σ B (fun vs H => ∃ v r, vs = v :: r ∧ Dq K H v d ∧ Pp r H) := fun H1 e Q q =>
  h H1 e _ fun v H2 N e2 eN fN dN => t H2 (e.trans e2) _ fun r H3 e3 hr => q _ H3 (e2.trans e3) ⟨v, r, rfl, dq_ex (eN.trans e3) _ _ dN, hr⟩
theorem ep_f (h : EvF K te σ B d) : EvP te σ B (fun v H => Dq K H v d) := fun H1 e Q q => h H1 e Q fun v H2 N e2 eN fN dN => q v H2 e2 (dq_ex eN _ _ dN)
theorem r_retF (h : EvF K te σ B d) (k : ∀ v H2 N, Ex B H2 → Ex N H2 → (∀ p, N p ≠ none → B p = none) → Dq K N v d → D.rt v H2) : R (tSeq (tRet te) tz) D σ B := fun H1 e => h H1 e _ fun v H2 N e2 eN fN dN => k v H2 N (e.trans e2) eN (fun p z => fresh_back e (fN p z)) dN
/-! values of calls that let nothing out -/
theorem ev_pvX {pre : List V → Hp → V → Prop} {z : V} (h : EvA as σ B vs) (hp : ∀ H, Ex B H → pre vs H z) : Ev (tCallS (PV pre) (WE W) as) σ B z := fun H1 e Q q => h H1 e _ fun H2 e2 => ⟨z, hp H2 (e.trans e2), fun H3 e3 => q H3 (e2.trans e3)⟩
theorem ev_pvXA {pre : List V → Hp → V → Prop} {z : V} (h : EvAP as σ B Pp) (hp : ∀ vs H, Ex B H → Pp vs H → pre vs H z) : Ev (tCallS (PV pre) (WE W) as) σ B z := fun H1 e Q q => h H1 e _ fun vs H2 e2 hv => ⟨z, hp vs H2 (e.trans e2) hv, fun H3 e3 => q H3 (e2.trans e3)⟩
theorem en_pnX {pre : List V → Hp → HO → Prop} {o : HO} (h : EvA as σ B vs) (hp : ∀ H, Ex B H → pre vs H o) : EvN (tCallS (PN pre) (WE W) as) σ B o := fun H1 e Q q => h H1 e _ fun H2 e2 => ⟨o, hp H2 (e.trans e2), fun p H3 hp' e3 h3 => q p H3 (fresh_back e2 hp') (e2.trans e3) h3⟩
theorem en_pnXA {pre : List V → Hp → HO → Prop} {o : HO} (h : EvAP as σ B Pp) (hp : ∀ vs H, Ex B H → Pp vs H → pre vs H o) : EvN (tCallS (PN pre) (WE W) as) σ B o := fun H1 e Q q => h H1 e _ fun vs H2 e2 hv => ⟨o, hp vs H2 (e.trans e2) hv, fun p H3 hp' e3 h3 => q p H3 (fresh_back e2 hp') (e2.trans e3) h3⟩
/-- one answer over data that stands -/
theorem en_lcV {wi : TI} {xs : List V} {j : Nat} {ws : List Nat} (f : PyData → V) (h : EvI wi σ B xs) (hd : DqA K B xs ds) (hz : xs.length ≤ 100000) (hw : ∀ x, wipe ((wipe σ ws).set j (some x)) ws = wipe σ ws)
    (he : ∀ (i : Nat) x d, xs[i]? = some x → ds[i]? = some d → Dq K B x d → ∀ B', Ex B B' → Ev te ((wipe σ ws).set j (some x)) B' (f d)) : EvN (tLc wi (gName j) tYes te ws) σ B (.lst (ds.map f)) := fun H1 e Q q =>
  h H1 e _ fun J H2 G e2 w hG => fun Dl hD => by
    have hl := dqa_len hd
    refine lc_it w (fun i H => H2 Dl = none ∧ Ex H2 H ∧ H Dl = some (.lst ((ds.take i).map f))) ⟨hD, Ex.new hD, upd_same⟩ (fun i H _ a => hG H a.2.1) (fun i x H H' hi a y => ?_) fun H a => ?_
    · obtain ⟨a1, a2, a3⟩ := a
      obtain ⟨y1, y2⟩ := y
      subst y1
      obtain ⟨d, hd1, hd2⟩ := dqa_at hd y2
      have eB : Ex B H' := (e.trans e2).trans a2
      refine ⟨hw x, et_yes H' (Ex.refl H') _ fun H3 e3 => he i x d y2 hd1 hd2 H' eB H3 e3 _ fun H4 e4 => ⟨_, e4 Dl _ (e3 Dl _ a3), ?_, a1, Ex.mut ((a2.trans e3).trans e4) a1, ?_⟩⟩
      · rw [List.length_map, List.length_take]
        exact Nat.lt_of_le_of_lt (Nat.le_trans (Nat.min_le_right _ _) (by omega : ds.length ≤ 100000)) (by decide)
      · rw [upd_same, List.take_add_one, hd1, List.map_append]
        rfl
    · exact q Dl H (fresh_back e2 a.1) (e2.trans a.2.1) (by
        have a3 := a.2.2
        rw [hl, List.take_length] at a3
        exact a3)
end
/-! ### identity with a truth value -/
def rIsBx : R2 := fun x y H Q => ∃ b : Bool, y = .bl b ∧ Q (.bl (decide (x = .bl b))) H
theorem op_isBx {X : Cx} : OpR X (compareOp .Is) rIsBx := by
  intro pins s σ H x y v u Q I rx ry h
  obtain ⟨b, rfl, q⟩ := h
  cases (show u = Value.bool b from ry)
  cases x with
  | bl a =>
    cases (show v = Value.bool a from rx)
    by_cases e : a = b
    · subst e
      exact wpAny_is_self rfl ⟨.bl true, H, I, rfl, by simpa using q⟩
    · exact wpAny_is_other rfl (fun z => e (Value.bool.inj z)) ⟨.bl false, H, I, rfl, by simpa [e] using q⟩
  | non => cases rx; exact wpAny_is_other rfl (fun z => by cases z) ⟨.bl false, H, I, rfl, by simpa using q⟩
  | int i => obtain ⟨t, rfl⟩ := rx; exact wpAny_is_other rfl (fun z => by cases z) ⟨.bl false, H, I, rfl, by simpa using q⟩
  | str i => obtain ⟨t, rfl⟩ := rx; exact wpAny_is_other rfl (fun z => by cases z) ⟨.bl false, H, I, rfl, by simpa using q⟩
  | byt i => obtain ⟨t, rfl⟩ := rx; exact wpAny_is_other rfl (fun z => by cases z) ⟨.bl false, H, I, rfl, by simpa using q⟩
  | flt i => obtain ⟨t, rfl⟩ := rx; exact wpAny_is_other rfl (fun z => by cases z) ⟨.bl false, H, I, rfl, by simpa using q⟩
  | ref a => cases rx; exact wpAny_is_other rfl (fun z => by cases z) ⟨.bl false, H, I, rfl, by simpa using q⟩
  | ty a => cases rx; exact wpAny_is_other rfl (fun z => by cases z) ⟨.bl false, H, I, rfl, by simpa using q⟩
theorem rv_isBx {B : Hp} {x : V} {b : Bool} : RV rIsBx x (.bl b) B (.bl (decide (x = .bl b))) := fun H1 _ _ q => ⟨b, rfl, q H1 (Ex.refl H1)⟩
end FK

set_option Elab.async false
set_option linter.all false
set_option maxRecDepth 100000
/-! JSON as it is written, and read again (own text) -/
namespace FK
open PySem PySem.Spec PyProof.Rows L2 Evl FkE
def eC (c : Nat) : List Nat := if c = 34 then [92, 34] else if c = 92 then [92, 92] else if c = 10 then [92, 110] else if c = 9 then [92, 116] else [c]
def qS (cs : List Nat) : List Nat := 34 :: (cs.flatMap eC ++ [34])
def numI (n : Int) : List Nat := (Str.ofString (toString n)).cps.toList
mutual
def wJ : PyData → List Nat
  | .none => wNull
  | .bool b => if b = true then wTrue else wFalse
  | .int n => numI n
  | .str z => qS z.cps.toList
  | .list ds => 91 :: (TL.joinL [44] (wJA ds) ++ [93])
  | .tuple ds => 91 :: (TL.joinL [44] (wJA ds) ++ [93])
  | _ => []
def wJA : List PyData → List (List Nat)
  | [] => []
  | d :: r => wJ d :: wJA r
end
mutual
/-- tuples as lists -/
def wl : PyData → PyData
  | .list ds => .list (wlA ds)
  | .tuple ds => .list (wlA ds)
  | d => d
def wlA : List PyData → List PyData
  | [] => []
  | d :: r => wl d :: wlA r
end
mutual
/-- lists as tuples -/
def wt : PyData → PyData
  | .list ds => .tuple (wtA ds)
  | d => d
def wtA : List PyData → List PyData
  | [] => []
  | d :: r => wt d :: wtA r
end
mutual
def isW : PyData → Bool
  | .none => true
  | .bool _ => true
  | .int n => decide (0 ≤ n) && decide (n < 1000000000000000)
  | .str z => z.cps.toList.all cdB
  | .list ds => isWA ds
  | .tuple ds => isWA ds
  | _ => false
def isWA : List PyData → Bool
  | [] => true
  | d :: r => isW d && isWA r
end
mutual
def dep : PyData → Nat
  | .list ds => 1 + depA ds
  | .tuple ds => 1 + depA ds
  | _ => 0
def depA : List PyData → Nat
  | [] => 0
  | d :: r => max (dep d) (depA r)
end
theorem wJA_map : ∀ ds : List PyData, wJA ds = ds.map wJ
  | [] => rfl
  | d :: r => congrArg (wJ d :: ·) (wJA_map r)
theorem wlA_map : ∀ ds : List PyData, wlA ds = ds.map wl
  | [] => rfl
  | d :: r => congrArg (wl d :: ·) (wlA_map r)
theorem wtA_map : ∀ ds : List PyData, wtA ds = ds.map wt
  | [] => rfl
  | d :: r => congrArg (wt d :: ·) (wtA_map r)
theorem isWA_mem : ∀ {ds : List PyData}, isWA ds = true → ∀ d ∈ ds, isW d = true
  | d :: r, h, x, hx => by
    unfold isWA at h
    rw [Bool.and_eq_true] at h
    rcases List.mem_cons.mp hx with rfl | hx
    · exact h.1
    · exact isWA_mem h.2 x hx
theorem depA_mem : ∀ {ds : List PyData} {d : PyData}, d ∈ ds → dep d ≤ depA ds
  | d :: r, x, hx => by
    unfold depA
    rcases List.mem_cons.mp hx with rfl | hx
    · exact Nat.le_max_left _ _
    · exact Nat.le_trans (depA_mem hx) (Nat.le_max_right _ _)
mutual
theorem wJ_wl : ∀ d : PyData, isW d = true → wJ (wl d) = wJ d
  | .none, _ => rfl
  | .bool _, _ => rfl
  | .int _, _ => rfl
  | .str _, _ => rfl
  | .list ds, h => by
    show 91 :: (TL.joinL [44] (wJA (wlA ds)) ++ [93]) = 91 :: (TL.joinL [44] (wJA ds) ++ [93])
    rw [wJA_wl ds h]
  | .tuple ds, h => by
    show 91 :: (TL.joinL [44] (wJA (wlA ds)) ++ [93]) = 91 :: (TL.joinL [44] (wJA ds) ++ [93])
    rw [wJA_wl ds h]
theorem wJA_wl : ∀ ds : List PyData, isWA ds = true → wJA (wlA ds) = wJA ds
  | [], _ => rfl
  | d :: r, h => by
    unfold isWA at h
    rw [Bool.and_eq_true] at h
    show wJ (wl d) :: wJA (wlA r) = wJ d :: wJA r
    rw [wJ_wl d h.1, wJA_wl r h.2]
end
/-! ### what stands at a place -/
def Sat (t : List Nat) (a : Nat) (l : List Nat) : Prop := ∃ r, t.drop a = l ++ r
theorem Sat.cons {t : List Nat} {a c : Nat} {l : List Nat} (h : Sat t a (c :: l)) : t[a]? = some c ∧ Sat t (a + 1) l := by
  obtain ⟨r, h⟩ := h
  have e : t[a]? = (t.drop a)[0]? := by rw [List.getElem?_drop]; rfl
  refine ⟨by rw [e, h]; rfl, r, ?_⟩
  rw [← List.drop_drop, h]
  rfl
theorem Sat.app {t : List Nat} {a : Nat} {l m : List Nat} (h : Sat t a (l ++ m)) : Sat t a l ∧ Sat t (a + l.length) m := by
  obtain ⟨r, h⟩ := h
  refine ⟨⟨m ++ r, by rw [h, List.append_assoc]⟩, r, ?_⟩
  rw [← List.drop_drop, h, List.append_assoc, List.drop_left]
theorem Sat.get {t : List Nat} {a i : Nat} {l : List Nat} (h : Sat t a l) (hi : i < l.length) : t[a + i]? = l[i]? := by
  obtain ⟨r, h⟩ := h
  rw [← List.getElem?_drop, h, List.getElem?_append_left hi]
theorem Sat.len {t : List Nat} {a : Nat} {l : List Nat} (h : Sat t a l) (hl : l ≠ []) : a + l.length ≤ t.length := by
  obtain ⟨r, h⟩ := h
  have := congrArg List.length h
  rw [List.length_drop, List.length_append] at this
  have : 0 < l.length := List.length_pos_iff.mpr hl
  omega
/-! ### strings -/
theorem rd_qs : ∀ (cs : List Nat) (t : List Nat) (a : Nat) (acc : List Nat), cs.all cdB = true → Sat t a (cs.flatMap eC ++ [34]) → rdStr t a acc = .ok (acc ++ cs) (a + (cs.flatMap eC).length + 1)
  | [], t, a, acc, _, h => by
    rw [rdStr_quote h.cons.1, List.append_nil]
    rfl
  | c :: cs, t, a, acc, hc, h => by
    rw [List.all_cons, Bool.and_eq_true] at hc
    rw [List.flatMap_cons, List.append_assoc] at h
    have esc : ∀ x y : Nat, eC c = [92, x] → escC x = some y → y = c → x ≠ 117 → rdStr t a acc = .ok (acc ++ c :: cs) (a + ((c :: cs).flatMap eC).length + 1) := by
      intro x y he hx hy hne
      subst hy
      rw [he] at h
      have h1 := h.cons
      have h2 := h1.2.cons
      have hE : rdEsc t a = .ok y (a + 2) := by
        unfold rdEsc
        rw [h2.1]
        show (if x = 117 then rdCode t a else match escC x with
          | some c => Rc.ok c (a + 2)
          | none => .er (a + 1)) = _
        rw [if_neg hne, hx]
      rw [rdStr_esc h1.1, hE]
      show rdStr t (a + 2) (acc ++ [y]) = _
      rw [rd_qs cs t (a + 2) (acc ++ [y]) hc.2 h2.2, List.append_assoc, List.flatMap_cons, he, List.length_append]
      congr 1
      simp
      omega
    by_cases h34 : c = 34
    · exact esc 34 34 (by unfold eC; rw [if_pos h34]) rfl h34.symm (by decide)
    by_cases h92 : c = 92
    · exact esc 92 92 (by unfold eC; rw [if_neg h34, if_pos h92]) rfl h92.symm (by decide)
    by_cases h10 : c = 10
    · exact esc 110 10 (by unfold eC; rw [if_neg h34, if_neg h92, if_pos h10]) rfl h10.symm (by decide)
    by_cases h9 : c = 9
    · exact esc 116 9 (by unfold eC; rw [if_neg h34, if_neg h92, if_neg h10, if_pos h9]) rfl h9.symm (by decide)
    have he : eC c = [c] := by unfold eC; rw [if_neg h34, if_neg h92, if_neg h10, if_neg h9]
    rw [he] at h
    have h1 := h.cons
    rw [rdStr_sign h1.1 h34 h92 (by
      rintro (z | z | z)
      · exact h10 z
      · exact h9 z
      · rw [hc.1] at z; cases z), rd_qs cs t (a + 1) (acc ++ [c]) hc.2 h1.2, List.append_assoc, List.flatMap_cons, he, List.length_append]
    congr 1
    simp
    omega
/-! ### numbers -/
theorem isDg_iff {c : Nat} : isDg c = true ↔ 48 ≤ c ∧ c ≤ 57 := by
  unfold isDg
  rw [Bool.and_eq_true, decide_eq_true_iff, decide_eq_true_iff]
theorem run_at : ∀ (l : List Nat) (t : List Nat) (a : Nat), Sat t a l → (∀ c ∈ l, isDg c = true) → (∀ c, t[a + l.length]? = some c → isDg c = false) → runL isDg t a = l.length
  | [], t, a, _, _, h => run_stop h
  | c :: l, t, a, h, hd, he => by
    have h1 := h.cons
    rw [run_step h1.1 (hd c List.mem_cons_self), run_at l t (a + 1) h1.2 (fun x hx => hd x (List.mem_cons_of_mem _ hx)) (fun x hx => he x (by rw [List.length_cons, ← hx]; congr 1; omega))]
    rfl
theorem num_head : ∀ (k n : Nat), n ≤ k → 0 < n → ∃ c r, TL.numL n = c :: r ∧ c ≠ 48
  | 0, n, h, h0 => by omega
  | k + 1, n, h, h0 => by
    by_cases hn : n < 10
    · exact ⟨48 + n, [], TL.numL_lt hn, by omega⟩
    · obtain ⟨c, r, e, hc⟩ := num_head k (n / 10) (by omega) (by omega)
      exact ⟨c, r ++ [48 + n % 10], by rw [TL.numL_step (by omega), e]; rfl, hc⟩
theorem numI_nat (n : Nat) : numI (n : Int) = TL.numL n := TL.tl_num n
theorem cut_at {t l : List Nat} {a : Nat} (h : Sat t a l) : cutL t a (a + l.length) = l := by
  obtain ⟨r, h⟩ := h
  unfold cutL
  rw [h, Nat.add_sub_cancel_left, List.take_left]
theorem rd_num {t : List Nat} {a n : Nat} (hn : n < 1000000000000000) (h : Sat t a (TL.numL n)) (he : ∀ c, t[a + (TL.numL n).length]? = some c → isDg c = false) : rdNum t a = .ok (.int (n : Int)) (a + (TL.numL n).length) ∧ ∃ c, t[a]? = some c ∧ isDg c = true := by
  have hdg : ∀ c ∈ TL.numL n, isDg c = true := fun c hc => isDg_iff.mpr (TL.numL_digits n c hc)
  have hlen : (TL.numL n).length ≤ 15 := TL.numL_len (by decide) hn
  have hne := TL.numL_ne n
  obtain ⟨c, r, e⟩ : ∃ c r, TL.numL n = c :: r := by
    cases e : TL.numL n with
    | nil => exact absurd e hne
    | cons c r => exact ⟨c, r, rfl⟩
  have hc : t[a]? = some c := by
    rw [e] at h
    exact h.cons.1
  have hcd : isDg c = true := hdg c (by rw [e]; exact List.mem_cons_self)
  have hF : numF t a = a := if_neg (by rw [hc]; intro z; cases z; cases hcd)
  have hE : numE t a = a + (TL.numL n).length := by
    unfold numE
    by_cases h0 : n = 0
    · subst h0
      have e0 : TL.numL 0 = [48] := TL.numL_lt (by decide)
      rw [e0] at h ⊢
      rw [if_pos h.cons.1]
      rfl
    · obtain ⟨c', r', e', hc'⟩ := num_head n n (Nat.le_refl _) (by omega)
      rw [e] at e'
      cases e'
      rw [if_neg (by rw [hc]; intro z; cases z; exact hc' rfl), run_at _ t a h hdg he]
  refine ⟨?_, c, hc, hcd⟩
  unfold rdNum
  rw [hF, hc]
  show (if isDg c = false then Rs.er a else if 15 < numE t a - a then .er a else .ok (.int (numV t a (numE t a))) (numE t a)) = _
  rw [if_neg (by rw [hcd]; decide), hE, if_neg (by omega)]
  congr 2
  unfold numV
  rw [cut_at h]
  have := intText_digits (x := SX.S (TL.numL n)) (by simp [SX.S]; exact TL.numL_digits n) (by simp [SX.S]; exact hne) (by rw [SX.S_len]; omega)
  rw [this]
  have e2 : (SX.S (TL.numL n)).cps.toList = TL.numL n := by simp [SX.S]
  rw [e2, TL.numL_val]
  rfl
/-! ### values -/
theorem wJ_head : ∀ d : PyData, isW d = true → ∃ c r, wJ d = c :: r ∧ isBl c = false ∧ c ≠ 93
  | .none, _ => ⟨110, _, rfl, rfl, by decide⟩
  | .bool true, _ => ⟨116, _, rfl, rfl, by decide⟩
  | .bool false, _ => ⟨102, _, rfl, rfl, by decide⟩
  | .int n, h => by
    unfold isW at h
    rw [Bool.and_eq_true, decide_eq_true_iff, decide_eq_true_iff] at h
    obtain ⟨m, rfl⟩ := Int.eq_ofNat_of_zero_le h.1
    have e : wJ (.int (m : Int)) = TL.numL m := numI_nat m
    cases e2 : TL.numL m with
    | nil => exact absurd e2 (TL.numL_ne m)
    | cons c r =>
      have := TL.numL_digits m c (by rw [e2]; exact List.mem_cons_self)
      refine ⟨c, r, by rw [e, e2], ?_, by omega⟩
      unfold isBl
      simp
      omega
  | .str z, _ => ⟨34, _, rfl, rfl, by decide⟩
  | .list ds, _ => ⟨91, _, rfl, rfl, by decide⟩
  | .tuple ds, _ => ⟨91, _, rfl, rfl, by decide⟩
theorem word_at : ∀ (w t : List Nat) (a : Nat) (d : PyData), Sat t a w → wdGo t w a d = .ok d (a + w.length)
  | [], t, a, d, _ => rfl
  | c :: w, t, a, d, h => by
    show (if t[a]? = some c then wdGo t w (a + 1) d else .er a) = _
    rw [if_pos h.cons.1, word_at w t (a + 1) d h.cons.2, List.length_cons]
    congr 1
    omega
theorem sk_at {t : List Nat} {a c : Nat} {r : List Nat} (h : Sat t a (c :: r)) (hb : isBl c = false) : skB t a = a := skB_stop (fun x hx => by
  rw [h.cons.1] at hx
  cases hx
  exact hb)
theorem rd_ls : ∀ (ds : List PyData), isWA ds = true → (ds ≠ [] → (∀ (n : Nat) (t : List Nat) (a : Nat) (acc : List PyData), depA ds ≤ n → Sat t a (TL.joinL [44] (wJA ds) ++ [93]) → lsGo t (rdV t n) a acc = .ok (.list (acc ++ wlA ds)) (a + (TL.joinL [44] (wJA ds) ++ [93]).length))) → ∀ (n : Nat) (t : List Nat) (a : Nat), depA ds ≤ n → Sat t a (91 :: (TL.joinL [44] (wJA ds) ++ [93])) → rdV t (n + 1) a = .ok (.list (wlA ds)) (a + (91 :: (TL.joinL [44] (wJA ds) ++ [93])).length)
  | [], hW, go, n, t, a, hn, h => by
    have hs := sk_at h rfl
    have h2 := h.cons.2
    have hs2 : skB t (a + 1) = a + 1 := sk_at (r := []) h2 rfl
    show rdA t (some (rdV t n)) a = _
    unfold rdA
    rw [hs, h.cons.1]
    show lsR t (rdV t n) a = _
    unfold lsR
    rw [hs2, if_pos h2.cons.1]
    rfl
  | d :: r, hW, go, n, t, a, hn, h => by
    have hs := sk_at h rfl
    have h2 := h.cons.2
    have hW' : isW d = true ∧ isWA r = true := by
      unfold isWA at hW
      rwa [Bool.and_eq_true] at hW
    have hn' : dep d ≤ n ∧ depA r ≤ n := by
      unfold depA at hn
      exact ⟨Nat.le_trans (Nat.le_max_left _ _) hn, Nat.le_trans (Nat.le_max_right _ _) hn⟩
    obtain ⟨c, r', e, hb, h93⟩ := wJ_head d hW'.1
    have hj : ∃ x, TL.joinL [44] (wJA (d :: r)) ++ [93] = c :: x := by
      cases r with
      | nil => exact ⟨r' ++ [93], by show wJ d ++ [93] = _; rw [e]; rfl⟩
      | cons d2 r2 => exact ⟨_, by show (wJ d ++ ([44] ++ TL.joinL [44] (wJA (d2 :: r2)))) ++ [93] = _; rw [e]; rfl⟩
    obtain ⟨x, hj⟩ := hj
    have hs2 : skB t (a + 1) = a + 1 := by
      rw [hj] at h2
      exact sk_at h2 hb
    have hc1 : t[a + 1]? = some c := by
      rw [hj] at h2
      exact h2.cons.1
    show rdA t (some (rdV t n)) a = _
    unfold rdA
    rw [hs, h.cons.1]
    show lsR t (rdV t n) a = _
    unfold lsR
    rw [hs2, if_neg (by rw [hc1]; intro z; cases z; exact h93 rfl), go (by simp) n t (a + 1) [] hn h2]
    rw [List.nil_append, List.length_cons]
    congr 1
    omega
mutual
theorem rd_d : ∀ (d : PyData), isW d = true → ∀ (n : Nat) (t : List Nat) (a : Nat), dep d ≤ n → Sat t a (wJ d) → (∀ c, t[a + (wJ d).length]? = some c → isDg c = false) → rdV t n a = .ok (wl d) (a + (wJ d).length)
  | .none, hW, n, t, a, hn, h, he => by
    have hs := sk_at h rfl
    rw [rdV_eq]
    unfold rdA
    rw [hs, h.cons.1]
    show rdC t (upN t n) a 110 = _
    exact word_at wNull t a .none h
  | .bool true, hW, n, t, a, hn, h, he => by
    have hs := sk_at h rfl
    rw [rdV_eq]
    unfold rdA
    rw [hs, h.cons.1]
    show rdC t (upN t n) a 116 = _
    exact word_at wTrue t a (.bool true) h
  | .bool false, hW, n, t, a, hn, h, he => by
    have hs := sk_at h rfl
    rw [rdV_eq]
    unfold rdA
    rw [hs, h.cons.1]
    show rdC t (upN t n) a 102 = _
    exact word_at wFalse t a (.bool false) h
  | .int m, hW, n, t, a, hn, h, he => by
    unfold isW at hW
    rw [Bool.and_eq_true, decide_eq_true_iff, decide_eq_true_iff] at hW
    obtain ⟨k, rfl⟩ := Int.eq_ofNat_of_zero_le hW.1
    have e : wJ (.int (k : Int)) = TL.numL k := numI_nat k
    rw [e] at h he ⊢
    obtain ⟨hr, c, hc, hd⟩ := rd_num (by omega) h he
    have hd2 := isDg_iff.mp hd
    have hs : skB t a = a := skB_stop (fun x hx => by
      rw [hc] at hx
      cases hx
      unfold isBl
      simp
      omega)
    rw [rdV_eq]
    unfold rdA
    rw [hs, hc]
    show rdC t (upN t n) a c = _
    unfold rdC
    rw [if_neg (by omega), if_neg (by omega), if_neg (by omega), if_pos (.inr hd)]
    exact hr
  | .str z, hW, n, t, a, hn, h, he => by
    have hs := sk_at (r := z.cps.toList.flatMap eC ++ [34]) h rfl
    rw [rdV_eq]
    unfold rdA
    rw [hs, h.cons.1]
    show stR t a = _
    unfold stR
    rw [rd_qs z.cps.toList t (a + 1) [] hW h.cons.2]
    show Rs.ok (.str (SX.S ([] ++ z.cps.toList))) (a + 1 + (z.cps.toList.flatMap eC).length + 1) = .ok (.str z) (a + (34 :: (z.cps.toList.flatMap eC ++ [34])).length)
    have ez : SX.S z.cps.toList = z := by cases z; simp [SX.S]
    rw [List.nil_append, ez]
    congr 1
    simp
    omega
  | .list ds, hW, n, t, a, hn, h, he => by
    cases n with
    | zero => unfold dep at hn; omega
    | succ n => exact rd_ls ds hW (fun hne => rd_go ds hne hW) n t a (by unfold dep at hn; omega) h
  | .tuple ds, hW, n, t, a, hn, h, he => by
    cases n with
    | zero => unfold dep at hn; omega
    | succ n => exact rd_ls ds hW (fun hne => rd_go ds hne hW) n t a (by unfold dep at hn; omega) h
theorem rd_go : ∀ (ds : List PyData), ds ≠ [] → isWA ds = true → (∀ (n : Nat) (t : List Nat) (a : Nat) (acc : List PyData), depA ds ≤ n → Sat t a (TL.joinL [44] (wJA ds) ++ [93]) → lsGo t (rdV t n) a acc = .ok (.list (acc ++ wlA ds)) (a + (TL.joinL [44] (wJA ds) ++ [93]).length))
  | [], hne, _, _, _, _, _, _, _ => absurd rfl hne
  | [d], _, hW0, n, t, a, acc, hn0, h => by
    have hW : isW d = true := by
      unfold isWA at hW0
      rw [Bool.and_eq_true] at hW0
      exact hW0.1
    have hn : dep d ≤ n := by
      unfold depA at hn0
      exact Nat.le_trans (Nat.le_max_left _ _) hn0
    have h : Sat t a (wJ d ++ [93]) := h
    have h1 := h.app
    have h93 := h1.2.cons.1
    rw [lsGo.eq_1, rd_d d hW n t a hn h1.1 (fun c hc => by rw [h93] at hc; cases hc; rfl)]
    have hs : skB t (a + (wJ d).length) = a + (wJ d).length := sk_at h1.2 rfl
    show (match t[skB t (a + (wJ d).length)]? with
      | none => Rs.er (skB t (a + (wJ d).length))
      | some c => if c = 93 then .ok (.list (acc ++ [wl d])) (skB t (a + (wJ d).length) + 1) else if c = 44 then
        (if h : a < skB t (a + (wJ d).length) + 1 ∧ skB t (a + (wJ d).length) < t.length then lsGo t (rdV t n) (skB t (a + (wJ d).length) + 1) (acc ++ [wl d]) else .er 0) else .er (skB t (a + (wJ d).length))) = _
    rw [hs, h93]
    show Rs.ok (.list (acc ++ [wl d])) (a + (wJ d).length + 1) = .ok (.list (acc ++ [wl d])) (a + (wJ d ++ [93]).length)
    rw [List.length_append]
    rfl
  | d :: d2 :: r, _, hW0, n, t, a, acc, hn0, h => by
    have hW : isW d = true ∧ isWA (d2 :: r) = true := by
      unfold isWA at hW0
      rwa [Bool.and_eq_true] at hW0
    obtain ⟨hW, hW2⟩ := hW
    have hn : dep d ≤ n ∧ depA (d2 :: r) ≤ n := by
      unfold depA at hn0
      exact ⟨Nat.le_trans (Nat.le_max_left _ _) hn0, Nat.le_trans (Nat.le_max_right _ _) hn0⟩
    obtain ⟨hn, hn2⟩ := hn
    have e0 : TL.joinL [44] (wJA (d :: d2 :: r)) ++ [93] = wJ d ++ (44 :: (TL.joinL [44] (wJA (d2 :: r)) ++ [93])) := by
      show (wJ d ++ ([44] ++ TL.joinL [44] (wJA (d2 :: r)))) ++ [93] = _
      simp
    rw [e0] at h ⊢
    have h1 := h.app
    have h44 := h1.2.cons
    rw [lsGo.eq_1, rd_d d hW n t a hn h1.1 (fun c hc => by rw [h44.1] at hc; cases hc; rfl)]
    have hs : skB t (a + (wJ d).length) = a + (wJ d).length := sk_at h1.2 rfl
    have hlt := (List.getElem?_eq_some_iff.mp h44.1).1
    show (match t[skB t (a + (wJ d).length)]? with
      | none => Rs.er (skB t (a + (wJ d).length))
      | some c => if c = 93 then .ok (.list (acc ++ [wl d])) (skB t (a + (wJ d).length) + 1) else if c = 44 then
        (if h : a < skB t (a + (wJ d).length) + 1 ∧ skB t (a + (wJ d).length) < t.length then lsGo t (rdV t n) (skB t (a + (wJ d).length) + 1) (acc ++ [wl d]) else .er 0) else .er (skB t (a + (wJ d).length))) = _
    rw [hs, h44.1]
    show (if h : a < a + (wJ d).length + 1 ∧ a + (wJ d).length < t.length then lsGo t (rdV t n) (a + (wJ d).length + 1) (acc ++ [wl d]) else .er 0) = _
    rw [dif_pos ⟨by omega, hlt⟩, rd_go (d2 :: r) (by simp) hW2 n t _ (acc ++ [wl d]) hn2 h44.2, List.append_assoc]
    congr 1
    simp
    omega
end
/-- what is written is read -/
theorem rd_whole {d : PyData} (hW : isW d = true) (hd : dep d ≤ 32) : rdW (wJ d) = .ok (wl d) (wJ d).length := by
  unfold rdW
  have h := rd_d d hW 32 (wJ d) 0 hd ⟨[], by simp⟩ (fun c hc => by
    rw [Nat.zero_add, List.getElem?_eq_none (Nat.le_refl _)] at hc
    cases hc)
  rw [Nat.zero_add] at h
  rw [h]
  have hs : skB (wJ d) (wJ d).length = (wJ d).length := skB_stop (fun c hc => by
    rw [List.getElem?_eq_none (Nat.le_refl _)] at hc
    cases hc)
  show (if skB (wJ d) (wJ d).length < (wJ d).length then Rs.er _ else .ok (wl d) (wJ d).length) = _
  rw [hs, if_neg (Nat.lt_irrefl _)]
end FK

set_option Elab.async false
set_option linter.all false
set_option maxRecDepth 100000
/-! JSON written: a def that gives out a token, texts replaced, data as new lists, loose texts (own text) -/
namespace FK
open PySem PySem.Spec PyProof.Rows L2 Evl FkE
section
variable {P : Program} {w : World} {K : PySem.W.Frag} {mg : Str → Option Value} {base : Heap}
/-- a def behind whose parameters a token is out -/
theorem calT {x : Str} {st : Stmt} {N ps : List Str} {k : Nat} {sp : Sp} (D : Def K mg x st ps) (S : FnScope N ps (defScope st)) (hnc : ∀ y ∈ (defScope st).names, y.2 ≠ .cell) (hps : 1 ≤ ps.length) (len : ∀ vs H Q E, sp vs H Q E → vs.length = ps.length)
    (hbody : ∀ (f : Addr) (cdv : Value) (A : Around) (outer : List Env) (s : Shared) (H : Hp) (vs : List V) (Q : VK) (E : XK), Room k (A.deeper (envOfC x (defScope st) s.heap.objs.size f cdv)) → sp vs H Q E →
      ∃ t, PSsT (cxOf CX0 P w K mg base N x (defScope st) f cdv A outer s H E) (defBody st) t ∧ t { nx := fun _ H' => Q .non H', rt := Q } (start N vs) H) : Cal CX0 P w K mg base (k + 1) x sp := by
  obtain ⟨f, fd, F, m, b⟩ := D.ex
  obtain ⟨⟨oc, od, kV, doc, pm, an, cdv, ct, osl, rfl, lk, hcd⟩, kp⟩ := id F
  exact ⟨f, _, ps, fn_ofT lk hcd S hnc hps len (hbody f cdv), m, kp, b⟩
end
section
variable {X : Cx}
theorem pst_set {i : Nat} {x : Str} {e : Expr} {te : TE} {pos' pos : Pos} (hN : X.N.Nodup) (hi : X.N[i]? = some x) (hx : Loc X.env.scope x) (he : PET X e te) (hs : swapsWith e (some (.Name x pos')) pos.line X.env = pure false := by rfl) (hf : X.fn x = true ∨ X.env.scope.names.lookup x = some .local := by first | exact .inl rfl | exact .inr rfl | assumption) :
    PST X (.Assign [.Name x pos'] e pos) (tAsg te (gName i)) := by
  intro pins s σ H D h0 I h
  refine wpAny_Assign_Name (thn (he pins s σ H _ h0 I h) fun v s1 ⟨y, H1, I1, r1, q1⟩ => ?_) hs
  exact store_ok I1 hN hi hx r1 (fun s2 I2 => ⟨_, H1, I2, q1⟩) hf
end
/-! ### a list or a tuple walked -/
def iSeq (K : PySem.W.Frag) (tl : TE) : TI := fun σ H R => tl σ H fun x H1 => ∃ a, x = .ref a ∧ (((∃ xs, SqL K H1 a xs) ∧ R (Itl K a) H1) ∨ ((∃ xs, SqT K H1 a xs) ∧ R (Itt K a) H1))
theorem pi_seq {X : Cx} {tg l : Expr} {tl : TE} (hl : PE X l tl) : PI X tg l (iSeq X.K tl) := by
  refine ⟨fun pins s σ H R I h => ?_⟩
  refine thn (hl.run pins s σ H _ I h) fun v s1 ⟨x, H1, I1, r1, a, e, q1⟩ => ?_
  subst e
  cases r1
  have mine : ∀ {pins : List (Addr × Obj)}, Inv X pins σ H1 s1 → ∀ b ∈ [s1.heap.objs.size], FpOk X pins H1 b := fun I b hb => by
    have e : b = s1.heap.objs.size := by simpa using hb
    subst e
    exact I.fpOk (Nat.le_refl _) (I.hok.fresh (Nat.le_refl _))
  have more : Inv X pins σ H1 { s1 with heap := s1.heap, toks := s1.toks } := I1
  rcases q1 with ⟨⟨xs, hq⟩, q⟩ | ⟨⟨xs, hq⟩, q⟩
  · obtain ⟨its, rv, p, hz⟩ := I1.list hq
    exact wpAny_pyIter_list p.isList ⟨_, [s1.heap.objs.size], _, _, H1, rfl, I1.kept (t' := s1.toks) fun b o e => Heap.get?_push_of_some _ e, turn_list a _, ⟨_, Heap.get?_push_size _ rfl, rfl, rfl⟩, mine I1, q⟩
  · obtain ⟨its, rv, p, hz⟩ := I1.tuple hq
    exact wpAny_pyIter_tuple (show s1.heap.IsTuple a its.toArray from p) ⟨_, [s1.heap.objs.size], _, _, H1, rfl, I1.kept (t' := s1.toks) fun b o e => Heap.get?_push_of_some _ e, turn_tuple a _, ⟨_, Heap.get?_push_size _ rfl, rfl, rfl⟩, mine I1, q⟩
section
variable {K : PySem.W.Frag} {σ : L2.St} {B : Hp} {tl : TE} {a : Addr} {xs : List V}
theorem ei_seqL (h : Ev tl σ B (.ref a)) (hx : SqL K B a xs) : EvI (iSeq K tl) σ B xs := fun H1 e R k => h H1 e _ fun H2 e2 => ⟨a, rfl, .inl ⟨⟨xs, ex_l (e.trans e2) hx⟩, k _ H2 _ e2 walk_list fun H3 e3 => ex_l ((e.trans e2).trans e3) hx⟩⟩
theorem ei_seqT (h : Ev tl σ B (.ref a)) (hx : SqT K B a xs) : EvI (iSeq K tl) σ B xs := fun H1 e R k => h H1 e _ fun H2 e2 => ⟨a, rfl, .inr ⟨⟨xs, ex_t (e.trans e2) hx⟩, k _ H2 _ e2 walk_tup fun H3 e3 => ex_t ((e.trans e2).trans e3) hx⟩⟩
end
/-! ### one sign replaced -/
theorem replL_one {c : Nat} {z : List Nat} : ∀ l : List Nat, PySem.StrLaws.replL [c] z l = l.flatMap fun x => if x = c then z else [x]
  | [] => PySem.StrLaws.replL_nil
  | x :: r => by
    rw [List.flatMap_cons]
    by_cases h : x = c
    · subst h
      rw [if_pos rfl, PySem.StrLaws.replL_hit (by simp) rfl]
      exact congrArg (z ++ ·) (replL_one r)
    · rw [if_neg h, PySem.StrLaws.replL_miss (by intro e; cases e; exact h rfl), replL_one r]
      rfl
theorem repl_S {c : Nat} {z : List Nat} (l : List Nat) : Txt.replace (SX.S l) (SX.S [c]) (SX.S z) = SX.S (l.flatMap fun x => if x = c then z else [x]) := by
  have h := PySem.StrLaws.replace_list (x := SX.S l) (y := SX.S [c]) (z := SX.S z) (by rw [SX.S_len]; exact Nat.le_refl 1)
  have e : ∀ l : List Nat, (SX.S l).cps.toList = l := fun l => by simp [SX.S]
  rw [e, e, e, replL_one] at h
  rw [← SX.S_tl (Txt.replace (SX.S l) (SX.S [c]) (SX.S z)), h]
theorem flat_len {f : Nat → List Nat} (hf : ∀ c, (f c).length ≤ 2) : ∀ l : List Nat, (l.flatMap f).length ≤ 2 * l.length
  | [] => Nat.le_refl 0
  | c :: r => by
    rw [List.flatMap_cons, List.length_append, List.length_cons]
    have := hf c
    have := flat_len hf r
    omega
theorem eC_len (c : Nat) : (eC c).length ≤ 2 := by
  unfold eC
  repeat' split
  all_goals simp
theorem esc_all (l : List Nat) : ((((l.flatMap fun x => if x = 92 then [92, 92] else [x]).flatMap fun x => if x = 34 then [92, 34] else [x]).flatMap fun x => if x = 10 then [92, 110] else [x]).flatMap fun x => if x = 9 then [92, 116] else [x]) = l.flatMap eC := by
  induction l with
  | nil => rfl
  | cons c r ih =>
    rw [List.flatMap_cons, List.flatMap_append, List.flatMap_append, List.flatMap_append, List.flatMap_cons, ih]
    congr 1
    unfold eC
    by_cases h1 : c = 34
    · subst h1; rfl
    by_cases h2 : c = 92
    · subst h2; rfl
    by_cases h3 : c = 10
    · subst h3; rfl
    by_cases h4 : c = 9
    · subst h4; rfl
    simp [h1, h2, h3, h4]
section
variable {K : PySem.W.Frag} {σ : L2.St} {B : Hp} {te tt : TE}
theorem ev_repl {l z : List Nat} {c : Nat} {y zz : Str} (h : Ev te σ B (.str (SX.S l))) (hy : y = SX.S [c]) (hz : zz = SX.S z) (hb : l.length ≤ 1000000 := by omega) (h2 : z.length = 2 := by rfl) : Ev (CwR.tReplC te y zz) σ B (.str (SX.S (l.flatMap fun x => if x = c then z else [x]))) := fun H1 e Q q =>
  h H1 e _ fun H2 e2 => by
    subst hy hz
    refine ⟨SX.S l, rfl, by rw [SX.S_len, SX.S_len, h2]; omega, ?_⟩
    rw [repl_S]
    exact q H2 e2
theorem ev_cL {x : Str} {l : List Nat} (h : x = SX.S l) : Ev (tC (.str x)) σ B (.str (SX.S l)) := by
  rw [← h]
  exact ev_c
theorem ev_joinNL {a : List Nat} {x : Str} {ys : List (List Nat)} (hx : x = SX.S a) (hb : EvN tt σ B (.lst (ys.map fun l => V.str (SX.S l)))) (hz : (ys.map (·.length)).sum + ys.length * a.length ≤ 16777216) :
    Ev (tM1 (fun x xs H Q => ∃ a p, ∃ ys : List Str, x = .str a ∧ xs = [.ref p] ∧ (SqL K H p (ys.map V.str) ∨ SqT K H p (ys.map V.str)) ∧ (ys.map (·.length)).sum + ys.length * a.length ≤ 16777216 ∧ Q (.str (Txt.join a ys)) H) (tC (.str x)) tt) σ B (.str (SX.S (TL.joinL a ys))) := by
  rw [← SX.join_S]
  refine ev_joinN (ev_cL hx) (ys := ys.map SX.S) ?_ ?_
  · rw [List.map_map]
    exact hb
  · rw [SX.lens, List.length_map, SX.S_len]
    exact hz
/-- isinstance(x, (list, tuple)) -/
theorem ev_isLT {v : V} {d : PyData} (hv : Dq K B v d) (h : Ev te σ B v) (ht : EvN tt σ B (.tup [.ty "list", .ty "tuple"])) : Ev (tCB (rIsiT K) (tCons te (tCons tt tNil))) σ B (.bl (tyn d == "list" || tyn d == "tuple")) := fun H1 e Q q =>
  h H1 e _ fun H2 e2 => ht H2 (e.trans e2) _ fun p H3 np e3 h3 =>
    ⟨v, p, _, .type (tyn d), [.type "list", .type "tuple"], _, rfl, h3, .cons (.ty _) (.cons (.ty _) .nil), dq_ty (dq_ex ((e.trans e2).trans e3) _ _ hv), by cases d <;> rfl, q H3 (e2.trans e3)⟩
theorem ev_strI {i : Int} (h : Ev te σ B (.int i)) (hi : i.natAbs < 2 ^ 60) : Ev (tCB (fun xs H Q => ∃ i, xs = [V.int i] ∧ i.natAbs.log2 < 1920 ∧ Q (.str (toString i)) H) (tCons te tNil)) σ B (.str (SX.S (numI i))) := fun H1 e Q q =>
  h H1 e _ fun H2 e2 => ⟨i, rfl, by
    by_cases h0 : i.natAbs = 0
    · rw [h0]; decide
    · have := (Nat.log2_lt h0).mpr hi
      omega, by
    have : SX.S (numI i) = (Str.ofString (toString i)) := by
      unfold numI
      exact SX.S_tl _
    rw [this] at q
    exact q H2 e2⟩
/-- all of a new list -/
theorem ev_allN {bs : List Bool} (h : EvN te σ B (.lst (bs.map V.bl))) : Ev (tCB (rAll K) (tCons te tNil)) σ B (.bl (bs.all id)) := fun H1 e Q q =>
  h H1 e _ fun p H2 np e2 h2 => ⟨p, bs, rfl, sq_of h2, q H2 e2⟩
end
/-! ### joined texts -/
theorem joinL_mem {s : List Nat} : ∀ {ys : List (List Nat)} {y : List Nat}, y ∈ ys → y.length ≤ (TL.joinL s ys).length
  | [a], y, h => by
    rw [List.mem_singleton.mp h]
    exact Nat.le_refl _
  | a :: b :: r, y, h => by
    show _ ≤ (a ++ (s ++ TL.joinL s (b :: r))).length
    rw [List.length_append, List.length_append]
    rcases List.mem_cons.mp h with rfl | h
    · omega
    · have := joinL_mem (s := s) h
      omega
theorem joinL_cnt {s : List Nat} : ∀ {ys : List (List Nat)}, (∀ y ∈ ys, y ≠ []) → ys.length ≤ (TL.joinL s ys).length
  | [], _ => Nat.le_refl 0
  | [a], h => List.length_pos_iff.mpr (h a (by simp))
  | a :: b :: r, h => by
    show _ ≤ (a ++ (s ++ TL.joinL s (b :: r))).length
    rw [List.length_append, List.length_append]
    have h1 := List.length_pos_iff.mpr (h a (by simp))
    have h2 := joinL_cnt (s := s) (ys := b :: r) fun y hy => h y (List.mem_cons_of_mem _ hy)
    rw [List.length_cons]
    omega
theorem joinL_sum {s : List Nat} : ∀ {ys : List (List Nat)}, (ys.map (·.length)).sum ≤ (TL.joinL s ys).length
  | [] => Nat.le_refl 0
  | [a] => by
    show a.length + 0 ≤ a.length
    omega
  | a :: b :: r => by
    show a.length + ((b :: r).map (·.length)).sum ≤ (a ++ (s ++ TL.joinL s (b :: r))).length
    rw [List.length_append, List.length_append]
    have := joinL_sum (s := s) (ys := b :: r)
    omega
theorem wJA_in {ds : List PyData} {d : PyData} (h : d ∈ ds) : wJ d ∈ wJA ds := by
  rw [wJA_map]
  exact List.mem_map_of_mem h
theorem wJ_ne {d : PyData} (h : isW d = true) : wJ d ≠ [] := by
  obtain ⟨c, r, e, _⟩ := wJ_head d h
  rw [e]
  simp
/-- what stands in a list of small text -/
theorem wJ_item {ds : List PyData} {m : Nat} (h : (91 :: (TL.joinL [44] (wJA ds) ++ [93])).length ≤ m) (hW : isWA ds = true) : ds.length ≤ m ∧ (∀ d ∈ ds, (wJ d).length ≤ m) ∧ ((wJA ds).map (·.length)).sum ≤ m := by
  rw [List.length_cons, List.length_append] at h
  have h1 := joinL_cnt (s := [44]) (ys := wJA ds) (fun y hy => by
    rw [wJA_map] at hy
    obtain ⟨d, hd, rfl⟩ := List.mem_map.mp hy
    exact wJ_ne (isWA_mem hW d hd))
  have h2 : (wJA ds).length = ds.length := by rw [wJA_map, List.length_map]
  refine ⟨by omega, fun d hd => ?_, ?_⟩
  · have := joinL_mem (s := [44]) (wJA_in hd)
    omega
  · have := joinL_sum (s := [44]) (ys := wJA ds)
    omega
/-! ### no tuples | no lists -/
mutual
def noT : PyData → Bool
  | .list ds => noTA ds
  | .tuple _ => false
  | _ => true
def noTA : List PyData → Bool
  | [] => true
  | d :: r => noT d && noTA r
end
mutual
def noL : PyData → Bool
  | .tuple ds => noLA ds
  | .list _ => false
  | _ => true
def noLA : List PyData → Bool
  | [] => true
  | d :: r => noL d && noLA r
end
theorem noTA_mem : ∀ {ds : List PyData}, noTA ds = true → ∀ d ∈ ds, noT d = true
  | d :: r, h, x, hx => by
    unfold noTA at h
    rw [Bool.and_eq_true] at h
    rcases List.mem_cons.mp hx with rfl | hx
    · exact h.1
    · exact noTA_mem h.2 x hx
mutual
theorem wl_noT : ∀ d : PyData, noT (wl d) = true
  | .none => rfl
  | .bool _ => rfl
  | .int _ => rfl
  | .str _ => rfl
  | .dict _ => rfl
  | .list ds => wlA_noT ds
  | .tuple ds => wlA_noT ds
theorem wlA_noT : ∀ ds : List PyData, noTA (wlA ds) = true
  | [] => rfl
  | d :: r => by
    show (noT (wl d) && noTA (wlA r)) = true
    rw [wl_noT d, wlA_noT r]
    rfl
end
mutual
theorem wl_isW : ∀ d : PyData, isW (wl d) = isW d
  | .none => rfl
  | .bool _ => rfl
  | .int _ => rfl
  | .str _ => rfl
  | .dict _ => rfl
  | .list ds => wlA_isW ds
  | .tuple ds => wlA_isW ds
theorem wlA_isW : ∀ ds : List PyData, isWA (wlA ds) = isWA ds
  | [] => rfl
  | d :: r => by
    show (isW (wl d) && isWA (wlA r)) = (isW d && isWA r)
    rw [wl_isW d, wlA_isW r]
end
mutual
theorem wl_dep : ∀ d : PyData, dep (wl d) = dep d
  | .none => rfl
  | .bool _ => rfl
  | .int _ => rfl
  | .str _ => rfl
  | .dict _ => rfl
  | .list ds => congrArg (1 + ·) (wlA_dep ds)
  | .tuple ds => congrArg (1 + ·) (wlA_dep ds)
theorem wlA_dep : ∀ ds : List PyData, depA (wlA ds) = depA ds
  | [] => rfl
  | d :: r => by
    show max (dep (wl d)) (depA (wlA r)) = max (dep d) (depA r)
    rw [wl_dep d, wlA_dep r]
end
mutual
theorem wt_wl : ∀ d : PyData, noL d = true → wt (wl d) = d
  | .none, _ => rfl
  | .bool _, _ => rfl
  | .int _, _ => rfl
  | .str _, _ => rfl
  | .dict _, _ => rfl
  | .tuple ds, h => congrArg PyData.tuple (wtA_wl ds h)
theorem wtA_wl : ∀ ds : List PyData, noLA ds = true → wtA (wlA ds) = ds
  | [], _ => rfl
  | d :: r, h => by
    unfold noLA at h
    rw [Bool.and_eq_true] at h
    show wt (wl d) :: wtA (wlA r) = d :: r
    rw [wt_wl d h.1, wtA_wl r h.2]
end
/-! ### compared whole -/
mutual
theorem isW_lay : ∀ d : PyData, isW d = true → d.canLay0 = true
  | .none, _ => rfl
  | .bool _, _ => rfl
  | .int _, _ => rfl
  | .str z, h => by
    show (z.cps.all (· < 0x110000)) = true
    have h : z.cps.toList.all cdB = true := h
    rw [← Array.all_toList, List.all_eq_true]
    intro c hc
    have h1 := List.all_eq_true.mp h c hc
    unfold cdB at h1
    simp at h1 ⊢
    omega
  | .list ds, h => isWA_lay ds h
  | .tuple ds, h => isWA_lay ds h
theorem isWA_lay : ∀ ds : List PyData, isWA ds = true → PyData.canLayAll0 ds = true
  | [], _ => rfl
  | d :: r, h => by
    unfold isWA at h
    rw [Bool.and_eq_true] at h
    show (d.canLay0 && PyData.canLayAll0 r) = true
    rw [isW_lay d h.1, isWA_lay r h.2]
    rfl
end
mutual
theorem isW_deep : ∀ d : PyData, isW d = true → d.depth = dep d
  | .none, _ => rfl
  | .bool _, _ => rfl
  | .int _, _ => rfl
  | .str z, h => rfl
  | .list ds, h => by
    show PyData.depthAll ds + 1 = 1 + depA ds
    rw [isWA_deep ds h]
    omega
  | .tuple ds, h => by
    show PyData.depthAll ds + 1 = 1 + depA ds
    rw [isWA_deep ds h]
    omega
theorem isWA_deep : ∀ ds : List PyData, isWA ds = true → PyData.depthAll ds = depA ds
  | [], _ => rfl
  | d :: r, h => by
    unfold isWA at h
    rw [Bool.and_eq_true] at h
    show max d.depth (PyData.depthAll r) = max (dep d) (depA r)
    rw [isW_deep d h.1, isWA_deep r h.2]
end
section
variable {K : PySem.W.Frag} {σ : L2.St} {B : Hp} {ta tb : TE}
mutual
theorem dq_dp {H : Hp} : ∀ (d : PyData) (v : V), isW d = true → Dq K H v d → Dp K H v d
  | .none, _, _, h => by cases h; exact .non
  | .bool _, _, _, h => by cases h; exact .bl _
  | .int _, _, _, h => by cases h; exact .int _
  | .str _, _, _, h => by cases h; exact .str _
  | .list ds, _, hW, h => by
    cases h with
    | lst h1 h2 => exact .lst (sq_of h1) (dqa_dp ds _ hW h2)
  | .tuple ds, _, hW, h => by
    cases h with
    | tup h1 h2 => exact .tup (st_of h1) (dqa_dp ds _ hW h2)
theorem dqa_dp {H : Hp} : ∀ (ds : List PyData) (vs : List V), isWA ds = true → DqA K H vs ds → DpAll K H vs ds
  | [], _, _, h => by cases h; exact .nil
  | d :: r, _, hW, h => by
    unfold isWA at hW
    rw [Bool.and_eq_true] at hW
    cases h with
    | cons h1 h2 => exact .cons (dq_dp d _ hW.1 h1) (dqa_dp r _ hW.2 h2)
end
/-- the same data twice -/
theorem ev_neSame {d : PyData} (hW : isW d = true) (hd : dep d ≤ 64) (ha : EvP ta σ B (fun v H => Dq K H v d)) (hb : ∀ B', Ex B B' → EvP tb σ B' (fun v H => Dq K H v d)) : Ev (tOp (rNeD K) ta tb) σ B (.bl false) := fun H1 e Q q =>
  ha H1 e _ fun v H2 e2 hv => hb H2 (e.trans e2) H2 (Ex.refl _) _ fun u H3 e3 hu => by
    have hs : SeqAt.shaped d = true := by
      unfold SeqAt.shaped
      rw [isW_lay d hW, isW_deep d hW]
      simpa using hd
    refine ⟨d, d, dq_dp d v hW (dq_ex e3 _ _ hv), dq_dp d u hW hu, hs, hs, ?_⟩
    rw [SeqAt.eqv_refl d (isW_lay d hW)]
    exact q H3 (e2.trans e3)
end
theorem wordB {l : List Nat} (h : l.all cdB = true := by rfl) : l.all cdB = true := h
theorem joinL_all {p : Nat → Bool} {s : List Nat} (hs : s.all p = true) : ∀ {ys : List (List Nat)}, (∀ y ∈ ys, y.all p = true) → (TL.joinL s ys).all p = true
  | [], _ => rfl
  | [a], h => h a (by simp)
  | a :: b :: r, h => by
    show (a ++ (s ++ TL.joinL s (b :: r))).all p = true
    rw [List.all_append, List.all_append, h a (by simp), hs, joinL_all hs (ys := b :: r) fun y hy => h y (List.mem_cons_of_mem _ hy)]
    rfl
theorem numI_cd {n : Int} (h : 0 ≤ n) : (numI n).all cdB = true := by
  obtain ⟨m, rfl⟩ := Int.eq_ofNat_of_zero_le h
  rw [numI_nat, List.all_eq_true]
  intro c hc
  have := TL.numL_digits m c hc
  unfold cdB
  simp
  omega
theorem eC_cd {c : Nat} (h : cdB c = true) : (eC c).all cdB = true := by
  unfold eC
  repeat' split
  · rfl
  · rfl
  · rfl
  · rfl
  · rw [List.all_cons, h]
    rfl
theorem esc_cd : ∀ {l : List Nat}, l.all cdB = true → (l.flatMap eC).all cdB = true
  | [], _ => rfl
  | c :: r, h => by
    rw [List.all_cons, Bool.and_eq_true] at h
    rw [List.flatMap_cons, List.all_append, eC_cd h.1, esc_cd h.2]
    rfl
mutual
theorem wJ_cd : ∀ d : PyData, isW d = true → (wJ d).all cdB = true
  | .none, _ => rfl
  | .bool true, _ => rfl
  | .bool false, _ => rfl
  | .int n, h => by
    unfold isW at h
    rw [Bool.and_eq_true, decide_eq_true_iff, decide_eq_true_iff] at h
    exact numI_cd h.1
  | .str z, h => by
    show (34 :: (z.cps.toList.flatMap eC ++ [34])).all cdB = true
    rw [List.all_cons, List.all_append, esc_cd h]
    rfl
  | .list ds, h => by
    show (91 :: (TL.joinL [44] (wJA ds) ++ [93])).all cdB = true
    rw [List.all_cons, List.all_append, joinL_all rfl (wJA_cd ds h)]
    rfl
  | .tuple ds, h => by
    show (91 :: (TL.joinL [44] (wJA ds) ++ [93])).all cdB = true
    rw [List.all_cons, List.all_append, joinL_all rfl (wJA_cd ds h)]
    rfl
theorem wJA_cd : ∀ ds : List PyData, isWA ds = true → ∀ y ∈ wJA ds, y.all cdB = true
  | d :: r, h, y, hy => by
    unfold isWA at h
    rw [Bool.and_eq_true] at h
    rcases List.mem_cons.mp hy with rfl | hy
    · exact wJ_cd d h.1
    · exact wJA_cd r h.2 y hy
end
section
variable {K : PySem.W.Frag} {σ : L2.St} {B : Hp} {as : TA} {Pp : List V → Hp → Prop} {pre : List V → Hp → PyData → Prop} {d : PyData} {E : XK}
theorem ef_pfA (h : EvAP as σ B Pp) (hp : ∀ vs H, Ex B H → Pp vs H → pre (vs ++ []) H d) : EvF K (tCall (PF K pre) [] E as) σ B d := fun H1 e Q q =>
  h H1 e _ fun vs H2 e2 hv => ⟨d, hp vs H2 (e.trans e2) hv, fun v H3 N e3 eN fN dN => q v H3 N (e2.trans e3) eN (fun p z => fresh_back e2 (fN p z)) dN⟩
end
/-! ### loose texts -/
def TxF (m : Nat) : V → Hp → Prop := fun v _ => ∃ t : List Nat, v = .str (SX.S t) ∧ t.all cdB = true ∧ t.length ≤ m
section
variable {K : PySem.W.Frag} {σ : L2.St} {B : Hp} {ta tb : TE}
theorem ep_ev {v : V} {Pp : V → Hp → Prop} (h : Ev ta σ B v) (hp : ∀ H, Pp v H) : EvP ta σ B Pp := fun H1 e Q q => h H1 e _ fun H2 e2 => q v H2 e2 (hp H2)
theorem ep_cS {x : Str} {m : Nat} (h : (x.cps.toList.all cdB && decide (x.cps.toList.length ≤ m)) = true) : EvP (tC (.str x)) σ B (TxF m) := ep_ev ev_cS fun _ => by
  rw [Bool.and_eq_true, decide_eq_true_iff] at h
  exact ⟨_, rfl, h.1, h.2⟩
theorem ep_addS {m n k : Nat} (ha : EvP ta σ B (TxF m)) (hb : EvP tb σ B (TxF n)) (hk : m + n ≤ k := by decide) (hz : k ≤ 100000 := by decide) : EvP (tOp (fun x y H Q => ∃ i j, x = V.str i ∧ y = .str j ∧ i.length + j.length ≤ sizeLine ∧ Q (.str (i ++ j)) H) ta tb) σ B (TxF k) := fun H1 e Q q =>
  ha H1 e _ fun v H2 e2 ⟨t, hv, ht, hm⟩ => hb H2 (e.trans e2) _ fun u H3 e3 ⟨s, hu, hs, hn⟩ =>
    ⟨_, _, hv, hu, by rw [SX.S_len, SX.S_len]; exact sz_of (by omega), by
      rw [SX.S_cat]
      exact q _ H3 (e2.trans e3) ⟨_, rfl, by rw [List.all_append, ht, hs]; rfl, by rw [List.length_append]; omega⟩⟩
theorem ep_mono {Pp Pq : V → Hp → Prop} (h : EvP ta σ B Pp) (hp : ∀ v H, Pp v H → Pq v H) : EvP ta σ B Pq := fun H1 e Q q => h H1 e Q fun v H2 e2 a => q v H2 e2 (hp v H2 a)
/-- one of some texts that are written down -/
theorem ep_pick {xs : List V} {i : Int} {m : Nat} (ha : EvN ta σ B (.lst xs)) (hb : ∀ B', Ex B B' → Ev tb σ B' (.int i)) (h0 : 0 ≤ i) (h1 : i < xs.length) (h : xs.all (fun v => match v with | .str x => x.cps.toList.all cdB && decide (x.cps.toList.length ≤ m) | _ => false) = true) : EvP (tOp (rIxL K) ta tb) σ B (TxF m) := by
  obtain ⟨j, rfl⟩ := Int.eq_ofNat_of_zero_le h0
  have hj : j < xs.length := by omega
  have hx := List.getElem?_eq_getElem hj
  refine ep_ev (ev_ixN ha hb (atI_nat hx)) fun _ => ?_
  have := List.all_eq_true.mp h xs[j] (List.getElem_mem hj)
  revert this
  cases xs[j] <;> intro this <;> try cases this
  rw [Bool.and_eq_true, decide_eq_true_iff] at this
  exact ⟨_, by rw [SX.S_tl], this.1, this.2⟩
theorem ep_sign {s : Str} {i : Int} {m : Nat} (ha : Ev ta σ B (.str s)) (hb : Ev tb σ B (.int i)) (h0 : 0 ≤ i) (h1 : i < s.cps.toList.length) (hs : (s.cps.toList.all cdB && decide (s.cps.toList.length ≤ 1000)) = true) (hm : 1 ≤ m) : EvP (tOp rIxS ta tb) σ B (TxF m) := by
  rw [Bool.and_eq_true, decide_eq_true_iff] at hs
  have ha' : Ev ta σ B (.str (SX.S s.cps.toList)) := by rw [SX.S_tl]; exact ha
  refine ep_ev (ev_op ha' hb (rv_ixSt (by omega) h0 h1)) fun _ => ⟨_, rfl, ?_, by simpa using hm⟩
  have hj : i.toNat < s.cps.toList.length := by omega
  rw [List.all_cons, List.all_nil, Bool.and_true, List.getD_eq_getElem?_getD, List.getElem?_eq_getElem hj]
  exact List.all_eq_true.mp hs.1 _ (List.getElem_mem hj)
end

/-! ### new data of which something is known -/
def EvG (K : PySem.W.Frag) (te : TE) (σ : L2.St) (B : Hp) (G : PyData → Prop) : Prop := ∀ H1, Ex B H1 → ∀ Q : VK, (∀ v H2 N d, Ex H1 H2 → Ex N H2 → (∀ p, N p ≠ none → H1 p = none) → Dq K N v d → G d → Q v H2) → te σ H1 Q
def EvGA (K : PySem.W.Frag) (ta : TA) (σ : L2.St) (B : Hp) (G : List PyData → Prop) : Prop := ∀ H1, Ex B H1 → ∀ Q : List V → Hp → Prop, (∀ vs H2 N ds, Ex H1 H2 → Ex N H2 → (∀ p, N p ≠ none → H1 p = none) → DqA K N vs ds → G ds → Q vs H2) → ta σ H1 Q
def PG (K : PySem.W.Frag) (pre : List V → Hp → (PyData → Prop) → Prop) : Sp := fun vs H Q _ => ∃ G, pre vs H G ∧ ∀ v H2 N d, Ex H H2 → Ex N H2 → (∀ p, N p ≠ none → H p = none) → Dq K N v d → G d → Q v H2
section
variable {K : PySem.W.Frag} {σ : L2.St} {B : Hp} {te : TE} {as ta : TA} {tz : TS} {D : Ends} {v : V} {d : PyData} {G : PyData → Prop} {GA : List PyData → Prop} {E : XK} {vs : List V} {pre : List V → Hp → (PyData → Prop) → Prop}
theorem eg_f (h : EvF K te σ B d) (hg : G d) : EvG K te σ B G := fun H1 e Q q => h H1 e Q fun v H2 N a b c dN => q v H2 N d a b c dN hg
theorem eg_ev (h : Ev te σ B v) (hd : Dq K noH v d) (hg : G d) : EvG K te σ B G := eg_f (ef_ev h hd) hg
theorem eg_tx {m : Nat} (h : EvP te σ B (TxF m)) : EvG K te σ B (fun d => ∃ t : List Nat, d = .str (SX.S t) ∧ t.all cdB = true ∧ t.length ≤ m) := fun H1 e Q q => h H1 e _ fun v H2 e2 ⟨t, hv, h1, h2⟩ =>
  q v H2 noH (.str (SX.S t)) e2 (fun x o z => by cases z) (fun p z => absurd rfl z) (by rw [hv]; exact .str _) ⟨t, rfl, h1, h2⟩
theorem eg_call (h : EvA as σ B vs) (hp : ∀ H, Ex B H → pre (vs ++ []) H G) : EvG K (tCall (PG K pre) [] E as) σ B G := fun H1 e Q q =>
  h H1 e _ fun H2 e2 => ⟨G, hp H2 (e.trans e2), fun v H3 N d e3 eN fN dN g => q v H3 N d (e2.trans e3) eN (fun p z => fresh_back e2 (fN p z)) dN g⟩
theorem ega_nil : EvGA K tNil σ B (fun ds => ds = []) := fun H1 e Q q => q [] H1 noH [] (Ex.refl _) (fun x o z => by cases z) (fun p z => absurd rfl z) .nil rfl
theorem ega_cons (h : EvG K te σ B G) (hs : EvGA K as σ B GA) : EvGA K (tCons te as) σ B (fun ds => ∃ d r, ds = d :: r ∧ G d ∧ GA r) := fun H1 e Q q =>
  h H1 e _ fun v H2 N d e2 eN fN dN g => hs H2 (e.trans e2) _ fun vs H3 N2 ds e3 eN2 fN2 dN2 g2 =>
    have x := fragN eN fN2 (H2 := H3)
    q (v :: vs) H3 (fr N N2) (d :: ds) (e2.trans e3) (fr_ex (eN.trans e3) eN2) (fr_new fN fun p z => fresh_back e2 (fN2 p z)) (.cons (dq_ex x.1 _ _ dN) (dqa_ex x.2 _ _ dN2)) ⟨d, ds, rfl, g, g2⟩
theorem eg_tup (h : EvGA K as σ B GA) (hz : ∀ ds, GA ds → ds.length ≤ 1000 ∧ G (.tuple ds)) : EvG K (tTup as) σ B G := fun H1 e Q q =>
  h H1 e _ fun vs H2 N ds e2 eN fN dN g => ⟨by
    have := dqa_len dN
    have := (hz ds g).1
    exact sz_of (by omega), fun p hp => q (.ref p) _ (upd N p (.tup vs)) (.tuple ds) (e2.trans (Ex.new hp)) (upd_ex (eN.trans (Ex.new hp)) upd_same) (upd_new fN (fresh_back e2 hp)) (.tup upd_same (dqa_ex (Ex.new (by
      cases c : N p with
      | none => rfl
      | some u =>
        have := eN p _ c
        rw [hp] at this
        cases this)) _ _ dN)) (hz ds g).2⟩
theorem r_retG (h : EvG K te σ B G) (k : ∀ v H2 N d, Ex B H2 → Ex N H2 → (∀ p, N p ≠ none → B p = none) → Dq K N v d → G d → D.rt v H2) : R (tSeq (tRet te) tz) D σ B := fun H1 e => h H1 e _ fun v H2 N d e2 eN fN dN g => k v H2 N d (e.trans e2) eN (fun p z => fresh_back e (fN p z)) dN g
theorem r_asgG {i : Nat} (h : EvG K te σ B G) (k : ∀ v B' d, Ex B B' → Dq K B' v d → G d → R tz D (σ.set i (some v)) B') : R (tSeq (tAsg te (gName i)) tz) D σ B := fun H1 e => h H1 e _ fun v H2 N d e2 eN fN dN g => k v H2 d (e.trans e2) (dq_ex eN _ _ dN) g H2 (Ex.refl H2)
theorem r_asgF {i : Nat} (h : EvF K te σ B d) (k : ∀ v B', Ex B B' → Dq K B' v d → R tz D (σ.set i (some v)) B') : R (tSeq (tAsg te (gName i)) tz) D σ B := fun H1 e => h H1 e _ fun v H2 N e2 eN fN dN => k v H2 (e.trans e2) (dq_ex eN _ _ dN) H2 (Ex.refl H2)
/-- a text that is written down, by its place -/
theorem pick_at {xs : List V} {i : Int} {m : Nat} (h0 : 0 ≤ i) (h1 : i < xs.length) (h : xs.all (fun v => match v with | .str x => x.cps.toList.all cdB && decide (x.cps.toList.length ≤ m) | _ => false) = true) : ∃ t : List Nat, atI xs i = some (.str (SX.S t)) ∧ t.all cdB = true ∧ t.length ≤ m := by
  obtain ⟨j, rfl⟩ := Int.eq_ofNat_of_zero_le h0
  have hj : j < xs.length := by omega
  have hx := List.getElem?_eq_getElem hj
  have := List.all_eq_true.mp h xs[j] (List.getElem_mem hj)
  cases hv : xs[j] with
  | str x =>
    rw [hv] at this hx
    simp only [Bool.and_eq_true, decide_eq_true_iff] at this
    exact ⟨x.cps.toList, by rw [SX.S_tl]; exact atI_nat hx, this.1, this.2⟩
  | _ => rw [hv] at this; cases this
theorem tx_of {t : List Nat} {m : Nat} (h : t.all cdB = true) (hl : t.length ≤ m) : TxF m (.str (SX.S t)) noH := ⟨t, rfl, h, hl⟩
theorem ep_pickV {xs : List V} {i : Int} {m : Nat} {p : Addr} {tl tb : TE} (ha : Ev tl σ B (.ref p)) (hx : SqL K B p xs) (hb : Ev tb σ B (.int i)) (h0 : 0 ≤ i) (h1 : i < xs.length) (h : xs.all (fun v => match v with | .str x => x.cps.toList.all cdB && decide (x.cps.toList.length ≤ m) | _ => false) = true) : EvP (tOp (rIxL K) tl tb) σ B (TxF m) := by
  obtain ⟨t, e, h1, h2⟩ := pick_at h0 h1 h
  exact ep_ev (ev_op ha hb (rv_ixL hx e)) fun _ => ⟨t, rfl, h1, h2⟩
theorem ep_tx {v : V} {m : Nat} (h : Ev te σ B v) (hv : ∃ t : List Nat, v = .str (SX.S t) ∧ t.all cdB = true ∧ t.length ≤ m) : EvP te σ B (TxF m) := ep_ev h fun _ => hv
end
section
variable {K : PySem.W.Frag} {σ : L2.St} {B : Hp} {te ta : TE} {tz : TS} {D : Ends} {Pp : V → Hp → Prop}
theorem r_appP {l : Addr} {xs : List V} (hl : B l = some (.lst xs)) (ha : Ev ta σ B (.ref l)) (h : EvP te σ B Pp) (hz : xs.length < 100000) (k : ∀ v B', Ex B B' → Pp v B' → R tz D σ (upd B' l (.lst (xs ++ [v])))) :
    R (tSeq (tDrop (tBM K "list" rAppend ta (tCons te tNil))) tz) D σ B := fun H a => ha H a _ fun H1 e1 =>
  ⟨Or.inl ⟨rfl, xs, sq_of (e1 l _ (a l _ hl))⟩, h H1 (a.trans e1) _ fun v H2 e2 hv => ⟨l, xs, v, rfl, rfl, e2 l _ (e1 l _ (a l _ hl)), sz_lt hz, k v H2 ((a.trans e1).trans e2) hv _ (Ex.refl _)⟩⟩
end
/-! ### small data without lists -/
def GoodD (D m : Nat) (d : PyData) : Prop := isW d = true ∧ noL d = true ∧ dep d ≤ D ∧ (wJ d).length ≤ m
theorem joinL_le : ∀ ys : List (List Nat), (TL.joinL [44] ys).length ≤ (ys.map (·.length)).sum + ys.length
  | [] => Nat.le_refl 0
  | [a] => by
    show a.length ≤ a.length + 0 + 1
    omega
  | a :: b :: r => by
    show (a ++ ([44] ++ TL.joinL [44] (b :: r))).length ≤ a.length + ((b :: r).map (·.length)).sum + ((b :: r).length + 1)
    rw [List.length_append, List.length_append]
    have := joinL_le (b :: r)
    have : [44].length = 1 := rfl
    omega
theorem good_str {t : List Nat} {m D : Nat} (h : t.all cdB = true) (hl : 2 * t.length + 2 ≤ m) : GoodD D m (.str (SX.S t)) := by
  have e : (SX.S t).cps.toList = t := by simp [SX.S]
  refine ⟨by show (SX.S t).cps.toList.all cdB = true; rw [e]; exact h, rfl, Nat.zero_le _, ?_⟩
  show (34 :: ((SX.S t).cps.toList.flatMap eC ++ [34])).length ≤ m
  rw [e, List.length_cons, List.length_append]
  have := flat_len eC_len t
  have : [34].length = 1 := rfl
  omega
theorem good_none {m D : Nat} (h : 4 ≤ m) : GoodD D m .none := ⟨rfl, rfl, Nat.zero_le _, h⟩
theorem good_bool {m D : Nat} (b : Bool) (h : 5 ≤ m) : GoodD D m (.bool b) := ⟨rfl, rfl, Nat.zero_le _, by
  cases b
  · exact h
  · exact Nat.le_trans (by decide) h⟩
theorem good_int {m D : Nat} {n : Int} (h0 : 0 ≤ n) (h1 : n < 1000000000000000) (h : 15 ≤ m) : GoodD D m (.int n) := by
  obtain ⟨k, rfl⟩ := Int.eq_ofNat_of_zero_le h0
  refine ⟨by unfold isW; simp; omega, rfl, Nat.zero_le _, ?_⟩
  show (numI (k : Int)).length ≤ m
  rw [numI_nat]
  have := TL.numL_len (n := k) (k := 15) (by decide) (by omega)
  omega
theorem good_tuple {m D : Nat} {ds : List PyData} (h : ∀ d ∈ ds, GoodD D m d) : GoodD (D + 1) (2 + ds.length * (m + 1)) (.tuple ds) := by
  have a : ∀ ds : List PyData, (∀ d ∈ ds, GoodD D m d) → isWA ds = true ∧ noLA ds = true ∧ depA ds ≤ D ∧ ((wJA ds).map (·.length)).sum ≤ ds.length * m := fun ds => by
    induction ds with
    | nil => exact fun _ => ⟨rfl, rfl, Nat.zero_le _, Nat.zero_le _⟩
    | cons d r ih =>
      intro h
      obtain ⟨a1, a2, a3, a4⟩ := h d (by simp)
      obtain ⟨b1, b2, b3, b4⟩ := ih fun x hx => h x (List.mem_cons_of_mem _ hx)
      refine ⟨by unfold isWA; rw [a1, b1]; rfl, by unfold noLA; rw [a2, b2]; rfl, Nat.max_le.mpr ⟨a3, b3⟩, ?_⟩
      show (wJ d).length + ((wJA r).map (·.length)).sum ≤ (r.length + 1) * m
      rw [Nat.succ_mul]
      omega
  obtain ⟨a1, a2, a3, a4⟩ := a ds h
  refine ⟨a1, a2, by show 1 + depA ds ≤ D + 1; omega, ?_⟩
  show (91 :: (TL.joinL [44] (wJA ds) ++ [93])).length ≤ _
  rw [List.length_cons, List.length_append]
  have := joinL_le (wJA ds)
  rw [wJA_map, List.length_map, ← wJA_map] at this
  have : [93].length = 1 := rfl
  rw [Nat.mul_succ]
  omega
theorem GoodD.mono {D D' m m' : Nat} {d : PyData} (h : GoodD D m d) (h1 : D ≤ D') (h2 : m ≤ m') : GoodD D' m' d := ⟨h.1, h.2.1, Nat.le_trans h.2.2.1 h1, Nat.le_trans h.2.2.2 h2⟩
theorem good_shaped {D m : Nat} {d : PyData} (h : GoodD D m d) (hD : D ≤ 64) : SeqAt.shaped d = true := by
  unfold SeqAt.shaped
  rw [isW_lay d h.1, isW_deep d h.1]
  have := h.2.2.1
  simp
  omega
theorem good_self {D m : Nat} {d : PyData} (h : GoodD D m d) : PyData.eqv d d = true := SeqAt.eqv_refl d (isW_lay d h.1)
end FK

set_option Elab.async false
set_option linter.all false
set_option maxRecDepth 100000
/-! the dict of escapes as it stands in the module (own text) -/
namespace FK
open PySem PySem.Spec PyProof.Rows L2 Evl FkE
def escOf (e : DictEntry) : Option (Nat × Nat) := match e.key, e.val with
  | .str x _, .str y _ => (match x.cps.toList, y.cps.toList with
    | [a], [b] => some (a, b)
    | _, _ => none)
  | _, _ => none
theorem escOf_inv {e : DictEntry} {a b : Nat} (h : escOf e = some (a, b)) : ∃ t u, e.key = .str (SX.S [a]) t ∧ e.val = .str (SX.S [b]) u := by
  unfold escOf at h
  split at h
  · rename_i x t y u h1 h2
    split at h
    · rename_i a' b' h3 h4
      cases h
      exact ⟨t, u, by rw [h1, ← SX.S_tl x, h3], by rw [h2, ← SX.S_tl y, h4]⟩
    · cases h
  · cases h
def escL : List (Option (Nat × Nat)) := [some (34, 34), some (92, 92), some (47, 47), some (110, 10), some (116, 9)]
theorem esc_find : ∀ (es : List DictEntry) (ps : List (Nat × Nat)) (l : List Nat), es.map escOf = ps.map some → (ps.find? (fun p => decide ([p.1] = l)) = none → es.find? (·.key.isStr (SX.S l)) = none) ∧ ((∀ p, ps.find? (fun p => decide ([p.1] = l)) = some p → ∃ e u, es.find? (·.key.isStr (SX.S l)) = some e ∧ e.val = .str (SX.S [p.2]) u) ∧ es.any (·.refKey) = false)
  | [], [], l, h => ⟨fun _ => rfl, ⟨fun p hp => (by cases hp), rfl⟩⟩
  | [], p :: ps, l, h => by cases h
  | e :: es, [], l, h => by cases h
  | e :: es, p :: ps, l, h => by
    obtain ⟨a, b⟩ := p
    rw [List.map_cons, List.map_cons] at h
    injection h with h1 h2
    obtain ⟨t, u, hk, hv⟩ := escOf_inv h1
    obtain ⟨i1, i2, i3⟩ := esc_find es ps l h2
    have hs : e.key.isStr (SX.S l) = decide ([a] = l) := by
      rw [hk]
      exact SX.S_beq_eq
    have hr : e.refKey = false := by
      unfold DictEntry.refKey
      rw [hk]
    have ha : (e :: es).any (·.refKey) = false := by rw [List.any_cons, hr, i3]; rfl
    by_cases c : [a] = l
    · have f1 : (e :: es).find? (·.key.isStr (SX.S l)) = some e := by
        rw [List.find?_cons, hs, decide_eq_true c]
      have f2 : ((a, b) :: ps).find? (fun p => decide ([p.1] = l)) = some (a, b) := by
        rw [List.find?_cons]
        show (match decide ([a] = l) with | true => _ | false => _) = _
        rw [decide_eq_true c]
      rw [f1, f2]
      exact ⟨fun z => (by cases z), fun p hp => (by cases hp; exact ⟨e, u, rfl, hv⟩), ha⟩
    · have f1 : (e :: es).find? (·.key.isStr (SX.S l)) = es.find? (·.key.isStr (SX.S l)) := by
        rw [List.find?_cons, hs, decide_eq_false c]
      have f2 : ((a, b) :: ps).find? (fun p => decide ([p.1] = l)) = ps.find? (fun p => decide ([p.1] = l)) := by
        rw [List.find?_cons]
        show (match decide ([a] = l) with | true => _ | false => _) = _
        rw [decide_eq_false c]
      rw [f1, f2]
      exact ⟨i1, i2, ha⟩
theorem esc_tab {K : PySem.W.Frag} {a : Addr} {es : Array DictEntry} {n : Nat} (hl : K.lookup a = some ⟨.type "dict", none, .dict es n, #[]⟩) (h : es.toList.map escOf = escL) :
    (∀ l : List Nat, l.length ≤ 1 → (∀ c, l = [c] → escC c = none) → PySem.W.nsIn K a (SX.S l) = some none) ∧ (∀ c e, escC c = some e → ∃ u, PySem.W.nsIn K a (SX.S [c]) = some (some u) ∧ RelV (.str (SX.S [e])) u) := by
  have hx : ∀ l : List Nat, PySem.W.nsIn K a (SX.S l) = (match es.toList.find? (·.key.isStr (SX.S l)) with
      | some e => some (some e.val)
      | none => if es.toList.any (·.refKey) then none else some none) := fun l => by
    unfold PySem.W.nsIn
    rw [hl]
    rfl
  have hp := fun l : List Nat => esc_find es.toList [(34, 34), (92, 92), (47, 47), (110, 10), (116, 9)] l h
  refine ⟨fun l h1 h2 => ?_, fun c e he => ?_⟩
  · have hn : [((34, 34) : Nat × Nat), (92, 92), (47, 47), (110, 10), (116, 9)].find? (fun p => decide ([p.1] = l)) = none := by
      rw [List.find?_eq_none]
      intro p hm hd
      have hd := of_decide_eq_true hd
      have h3 := h2 p.1 hd.symm
      simp only [List.mem_cons, List.not_mem_nil, or_false] at hm
      rcases hm with rfl | rfl | rfl | rfl | rfl <;> exact absurd h3 (by decide)
    rw [hx, (hp l).1 hn, (hp l).2.2]
    rfl
  · have hy : [((34, 34) : Nat × Nat), (92, 92), (47, 47), (110, 10), (116, 9)].find? (fun p => decide ([p.1] = [c])) = some (c, e) := by
      unfold escC at he
      split at he
      · rename_i q; subst q; cases he; rfl
      split at he
      · rename_i q; subst q; cases he; rfl
      split at he
      · rename_i q; subst q; cases he; rfl
      split at he
      · rename_i q; subst q; cases he; rfl
      split at he
      · rename_i q; subst q; cases he; rfl
      · cases he
    obtain ⟨en, u, h1, h2⟩ := (hp [c]).2.1 _ hy
    refine ⟨.str (SX.S [e]) u, ?_, ⟨u, rfl⟩⟩
    rw [hx, h1]
    show some (some en.val) = _
    rw [h2]
/-! ### a part of a text -/
theorem cutS_nat {l : List Nat} {i j : Nat} : cutS (SX.S l) (some (i : Int)) (some (j : Int)) = SX.S ((l.drop i).take (j - i)) := by
  unfold cutS
  rw [HT.sIx_nat, HT.sIx_nat, SX.S_len]
  have e : (SX.S l).cps.toList = l := by simp [SX.S]
  rw [e]
  show SX.S _ = SX.S _
  congr 1
  by_cases hi : i ≤ l.length
  · rw [Nat.min_eq_left hi]
    by_cases hj : j ≤ l.length
    · rw [Nat.min_eq_left hj]
    · rw [Nat.min_eq_right (by omega), List.take_of_length_le (by rw [List.length_drop]; omega), List.take_of_length_le (by rw [List.length_drop]; omega)]
  · rw [Nat.min_eq_right (show l.length ≤ i by omega), List.drop_of_length_le (Nat.le_refl _), List.drop_of_length_le (show l.length ≤ i by omega), List.take_nil, List.take_nil]
theorem take_ch (t : List Nat) (a : Nat) : (t.drop a).take 1 = chL t a := by
  cases h : t[a]? with
  | none =>
    rw [chL_none h, List.drop_of_length_le (List.getElem?_eq_none_iff.mp h)]
    rfl
  | some c =>
    rw [chL_some h]
    obtain ⟨hl, rfl⟩ := List.getElem?_eq_some_iff.mp h
    rw [List.drop_eq_getElem_cons hl]
    rfl
section
variable {σ : L2.St} {B : Hp} {te : TE} {tl th : TO}
/-- text[a:b] -/
theorem ev_cut {t : List Nat} {a b : Nat} {i j : Int} (ht : t.length ≤ 100000) (h : Ev te σ B (.str (SX.S t))) (h1 : EvO tl σ B (some i)) (h2 : EvO th σ B (some j)) (hi : i = (a : Int)) (hj : j = (b : Int)) : Ev (tSl rSlS te tl th) σ B (.str (SX.S (cutL t a b))) := by
  subst hi hj
  have e := ev_slice_str h h1 h2 ht
  rw [cutS_nat] at e
  exact e
/-- text[a:a + 1] -/
theorem ev_cut1 {t : List Nat} {a : Nat} {i j : Int} (ht : t.length ≤ 100000) (h : Ev te σ B (.str (SX.S t))) (h1 : EvO tl σ B (some i)) (h2 : EvO th σ B (some j)) (hi : i = (a : Int)) (hj : j = (a : Int) + 1) : Ev (tSl rSlS te tl th) σ B (.str (SX.S (chL t a))) := by
  have e := ev_cut (b := a + 1) ht h h1 h2 hi (by omega)
  unfold cutL at e
  rw [Nat.add_sub_cancel_left, take_ch] at e
  exact e
end
/-! ### a dict walked: locked meanwhile -/
section
variable {K : PySem.W.Frag} {σ : L2.St} {B : Hp} {td ty : TE} {tz tu : TS} {D : Ends} {d : Addr} {kvs : List (Key × V)} {v : V}
theorem ex_unlock {H : Hp} {o : HO} (hd : B d = some (.dK kvs)) (e : Ex (upd B d o) H) : Ex B (upd H d (.dK kvs)) := fun p x h => by
  by_cases c : p = d
  · subst c
    rw [upd_same, ← h, hd]
  · rw [upd_ne c]
    exact e p x (by rw [upd_ne c]; exact h)
theorem r_forKL {j : Nat} (hd : B d = some (.dK kvs)) (h : ∀ B', Ev td σ B' (.ref d)) (Pv : Nat → L2.St → Prop) (h0 : Pv 0 σ)
    (hs : ∀ (od : Obj) (i : Nat) (k : Key) (v : V) (σ' : L2.St), kvs[i]? = some (k, v) → Pv i σ' → R tu { nx := fun σ2 H2 => Ex (upd B d (.frz od (.dK kvs))) H2 ∧ Pv (i + 1) σ2, rt := fun w H2 => H2 d = some (.frz od (.dK kvs)) ∧ D.rt w (upd H2 d (.dK kvs)), bk := fun σ2 H2 => H2 d = some (.frz od (.dK kvs)) ∧ tz D σ2 (upd H2 d (.dK kvs)), ct := fun σ2 H2 => Ex (upd B d (.frz od (.dK kvs))) H2 ∧ Pv (i + 1) σ2 } (σ'.set j (some (kV k))) (upd B d (.frz od (.dK kvs))))
    (hk : ∀ σ', Pv kvs.length σ' → R tz D σ' B) : R (tSeq (tLock (tFor (iKeys td) (gName j) tu)) tz) D σ B := fun H e =>
  ⟨d, .dK kvs, e d _ hd, trivial, fun od => h _ _ (Ex.refl _) _ fun H2 e2 => ⟨d, od, rfl, .inl ⟨kvs, e2 d _ upd_same,
    for_it walk_keys (fun i σ' H' => Ex (upd B d (.frz od (.dK kvs))) H' ∧ Pv i σ') ⟨(ex_mut e).trans e2, h0⟩ (fun i σ' H' hi p => p.1 d _ upd_same)
      (fun i x σ' H' H3 hi p y => by
        obtain ⟨y1, k, v, y2, y3⟩ := y
        subst y1 y3
        exact hs od i k v σ' y2 p.2 _ p.1) fun σ' H' p => ⟨p.1 d _ upd_same, hk σ' p.2 _ (ex_unlock hd p.1)⟩⟩⟩⟩
/-- d[k], d locked -/
theorem ev_dgetL {a : Addr} {od : Obj} {k : Key} (h : Ev td σ B (.ref a)) (hk : Ev ty σ B (kV k)) (hd : B a = some (.frz od (.dK kvs))) (hv : valV kvs k = some v) : Ev (tDGet td ty) σ B v := fun H1 e Q q =>
  h H1 e _ fun H2 e2 => hk H2 (e.trans e2) _ fun H3 e3 => ⟨a, v, rfl, .inl ⟨kvs, k, .inr ⟨od, ((e.trans e2).trans e3) a _ hd⟩, rfl, hv.symm⟩, q H3 (e2.trans e3)⟩
end
end FK

set_option Elab.async false
set_option linter.all false
set_option maxRecDepth 100000
/-! first, *rest = a list; a number of two hexadecimal digits in an f-string (own text) -/
namespace FkU
open PySem PySem.W PySem.Calls PyProof.Rows
section
variable {prog : Program} {w : World} {A : Around} {E : Value → Shared → Prop} {s : Shared}
theorem items_ext {acc : Array Value} {P : Nat → Value → Prop} {us : List Value} (h : ItemsOf P acc us.length) (hp : ∀ i v, P i v → us[i]? = some v) : acc.toList = us := by
  refine List.ext_getElem? fun i => ?_
  by_cases hi : i < us.length
  · have h1 : acc[i]? = some acc[i]! := by rw [Array.getElem?_eq_getElem (by rw [h.1]; exact hi), getElem!_pos]
    rw [Array.getElem?_toList, h1, hp i _ (h.2 i _ h1)]
  · rw [List.getElem?_eq_none (by rw [Array.length_toList, h.1]; omega), List.getElem?_eq_none (by omega)]
/-- the first item and the list of the others -/
theorem star_items {l : Addr} {u : Value} {us : List Value} {Q : List Value → Shared → Prop} (hh : A.handled = none) (hl : s.heap.IsList l (u :: us).toArray) (hz : us.length ≤ sizeLine)
    (hQ : ∀ (h' : Heap) (tk : Nat), (∀ b o, s.heap.get? b = some o → h'.get? b = some o) → Q [u, .ref h'.objs.size] { s with heap := h'.push { cls := .type "list", data := .seq us.toArray }, toks := tk }) :
    wpAny (model prog w) A (unpackItems (.ref l) 2 (some 1)) Q E s := by
  have hlt : l ≠ s.heap.objs.size := by obtain ⟨o, ho, _⟩ := hl; exact Nat.ne_of_lt (Heap.lt_size ho)
  unfold unpackItems
  refine wpAny_bind ?_
  unfold notIterableAtAll
  refine wpAny_bind (wpAny_specialOf hl.typeIs slot_list_iter.lookup ?_)
  refine wpAny_pure ?_
  simp only [Bool.false_eq_true, if_false]
  refine wpAny_bind (wpAny_holding (wpAny_pyIter_list hl ?_))
  refine wpAny_bind (wpAny_holding (kun_draw hlt 1 0 _ _ ⟨_, Heap.get?_push_size _ rfl, rfl, rfl⟩ (hl.push _) (by simp) fun h₁ hit₁ hs₁ => ?_))
  have hall : List.take 1 (List.drop 0 (u :: us).toArray.toList) = [u] := by simp
  rw [hall]
  rw [if_neg (by simp)]
  have hl₁ : h₁.IsList l (u :: us).toArray := (hl.push _).extBut hs₁.extBut hlt
  have W := Walks.list (prog := prog) (w := w) (A := A.in1) hh s.heap.objs.size l hlt (u :: us).toArray
  have W2 : Walks prog w A.in1 s.heap.objs.size [s.heap.objs.size, l] [s.heap.objs.size] us.length (fun i v => us[i]? = some v) (fun i h => h.IsListIter s.heap.objs.size l (i + 1) ∧ h.IsList l (u :: us).toArray) :=
    ⟨W.sub, fun i => W.frame (i + 1), fun i s Q E hi st hQ => W.item (i + 1) s Q E (by simp; omega) st fun v h' tk p st' k => hQ v h' tk (by simpa using p) st' k,
      fun s Q E st hQ => W.done s Q E (by simpa using st) hQ, fun i => W.self (i + 1)⟩
  have hlt2 : s.heap.objs.size < h₁.objs.size := by
    obtain ⟨o, ho, _⟩ := hit₁
    exact Heap.lt_size ho
  have hlt3 : l < h₁.objs.size := by
    obtain ⟨o, ho, _⟩ := hl₁
    exact Heap.lt_size ho
  refine wpAny_bind (wpAny_holding (wpAny_collect_iter (T := "list_iterator") (.inr (.inr (.inl rfl))) W2.toS (fun i s st => ?_) ⟨hit₁, hl₁⟩ (fun b hb => ?_) (by simp) (fun s' acc mv ha => ?_) hz))
  · obtain ⟨⟨o, ho, hc, _⟩, _⟩ := st
    exact ⟨o, ho, hc⟩
  · simp at hb
    rcases hb with rfl | rfl
    · exact hlt2
    · exact hlt3
  have ea := items_ext ha fun i v h => h
  rw [ea]
  have k : ∀ b o, s.heap.get? b = some o → s'.heap.get? b = some o := fun b o e => by
    have hb : b ≠ s.heap.objs.size := Nat.ne_of_lt (Heap.lt_size e)
    exact mv.heap b o (by simpa using hb) (hs₁.extBut b o hb (Heap.get?_push_of_some _ e))
  simp only [List.length_singleton, Nat.sub_self, Nat.sub_zero, List.take_length, List.drop_length]
  rw [if_neg (by simp)]
  refine wpAny_bind (wpAny_newList (wpAny_pure ?_))
  have q := hQ s'.heap s'.toks k
  obtain ⟨hp', g', d', t', o'⟩ := s'
  obtain ⟨_, g1, g2, g3, _⟩ := mv
  cases g1
  cases g2
  cases g3
  simpa using q
end
end FkU
namespace FK
open PySem PySem.Spec PyProof.Rows L2 Evl FkE
/-- first, *rest = a list -/
def gStar (K : PySem.W.Frag) (t : TGs) : TG := fun v σ H Q => ∃ a x xs, v = .ref a ∧ SqL K H a (x :: xs) ∧ xs.length ≤ 1000000 ∧ ∀ p, H p = none → t [x, .ref p] σ (upd H p (.lst xs)) Q
theorem pgs_star {X : Cx} {e : Expr} {es : List Expr} {t : TG} {u : TGs} {pos : Pos} (h1 : L2.PG X e t) (h2 : PGs X es u)
    (hs : (assignEach (.Starred e pos :: es) X.env).map (·.2) = assign e X.env :: (assignEach es X.env).map (·.2) := by rfl) : PGs X (.Starred e pos :: es) (gCons t u) := by
  refine ⟨fun pins s σ H vs us Q I r h => ?_⟩
  obtain ⟨v, vr, e1, h⟩ := h
  subst e1
  cases r with
  | cons r rr =>
    rw [hs]
    refine assignInOrder_cons (thn (h1.run pins s σ H _ _ _ I r h) fun _ s1 ⟨σ1, H1, I1, q1⟩ => ?_)
    exact h2.run pins s1 σ1 H1 _ _ Q I1 rr q1
theorem pg_star {X : Cx} {K : PySem.W.Frag} {es : List Expr} {k : Nat} {t : TGs} {pos : Pos} (hK : X.K = K) (hc : X.calm = true) (h : PGs X es t)
    (hn : (assignEach es X.env).length = 2 := by rfl) (hst : (assignEach es X.env).findIdx? (·.1) = some 1 := by rfl) : L2.PG X (.Tuple es k pos) (gStar K t) := by
  subst hK
  refine ⟨fun pins s σ H v u Q I r hw => ?_⟩
  obtain ⟨a, x, xs, e1, hq, hz, hw⟩ := hw
  subst e1
  cases r
  obtain ⟨its, rv, pl, _⟩ := I.list hq
  have hl' : s.heap.IsList a its.toArray := by
    obtain ⟨o, m, e, c, d, q⟩ := pl
    exact ⟨o, e, c, m, q⟩
  cases rv with
  | @cons _ ux _ us rx rr =>
    have hlen : xs.length = us.length := rr.length
    rw [PyProof.Rows.assign_Tuple]
    refine wpAny_bind (wpAny_standAt ?_)
    unfold unpack
    rw [hn, hst]
    refine wpAny_bind (wpAny_holding (FkU.star_items (I.ok.hd hc) hl' (by rw [← hlen]; exact Nat.le_trans hz (by decide)) fun h' tk k => ?_))
    have I2 : Inv X pins σ H { s with heap := h', toks := tk } := I.kept (t' := tk) k
    have np : H h'.objs.size = none := I2.hok.fresh (Nat.le_refl _)
    have I3 := I2.laid (a := h'.objs.size) (o := .lst xs) (h' := h'.push { cls := .type "list", data := .seq us.toArray }) (t' := tk) (fun b o e => Heap.get?_push_of_some _ e) (Nat.le_refl _)
      ⟨Nat.le_trans hz (by decide), us, _, rr, Heap.get?_push_size _ rfl⟩
    exact h.run pins _ σ _ [x, .ref h'.objs.size] [ux, .ref h'.objs.size] Q I3 (.cons rx (.cons rfl .nil)) (hw _ np)
section
variable {K : PySem.W.Frag} {σ : L2.St} {B : Hp} {te : TE} {tz : TS} {D : Ends}
theorem r_starN {xs : List V} {x : V} {i j : Nat} (h : EvN te σ B (.lst (x :: xs))) (hz : xs.length ≤ 1000000) (k : ∀ p, B p = none → R tz D ((σ.set i (some x)).set j (some (.ref p))) (upd B p (.lst xs))) :
    R (tSeq (tAsg te (gStar K (gCons (gName i) (gCons (gName j) gNil)))) tz) D σ B := fun H e =>
  h H e _ fun a H2 na e2 ha => ⟨a, x, xs, rfl, sq_of ha, hz, fun p np => ⟨x, [.ref p], rfl, .ref p, [], rfl, rfl, k p (fresh_back (e.trans e2) np) _ (ex_up ((e.trans e2).trans (Ex.new np)) upd_same)⟩⟩
end
/-! ### two hexadecimal digits -/
def hexd (d : Nat) : Nat := if d < 10 then 48 + d else 87 + d
def hex2 (n : Nat) : List Nat := [hexd (n / 16), hexd (n % 16)]
def GoodH (n : Nat) : Prop := ∀ t u, Meets (Builtin.«int.__format__» ⟨[.int (n : Int) t, .str (PySem.Str.ofString "02x") u], []⟩) (fun _ R s => ∀ t' k, R (.ok (.ret (.str (SX.S (hex2 n)) t'))) { s with toks := k })
theorem goodH : ∀ n ∈ [9, 10, 32, 33, 34, 35, 36, 38, 39, 40, 41, 42, 43, 44, 47, 58, 59, 60, 61, 62, 63, 64, 91, 92, 93, 94, 96, 123, 124, 125, 126], GoodH n := by
  intro n h
  simp only [List.mem_cons, List.not_mem_nil, or_false] at h
  rcases h with rfl | rfl | rfl | rfl | rfl | rfl | rfl | rfl | rfl | rfl | rfl | rfl | rfl | rfl | rfl | rfl | rfl | rfl | rfl | rfl | rfl | rfl | rfl | rfl | rfl | rfl | rfl | rfl | rfl | rfl | rfl <;> (intro t; kxf_run_i)
def tHex2 (te : TE) : TE := fun σ H Q => te σ H fun x H1 => ∃ n : Nat, x = .int (n : Int) ∧ GoodH n ∧ Q (.str (SX.S (hex2 n))) H1
theorem pe_hex2 {X : Cx} {e : Expr} {te : TE} {pos p1 p2 : Pos} {k : Nat} (he : PE X e te) : PE X (.FormattedValue e (-1) (some (.JoinedStr [.Constant (.str "02x") k p1] p2)) pos) (tHex2 te) := by
  refine ⟨fun pins s σ H Q I h => ?_⟩
  refine wpAny_FormattedValue_spec (thn (he.run pins s σ H _ I h) fun v s1 ⟨x, H1, I1, r1, n, ex, g, q⟩ => ?_)
  subst ex
  obtain ⟨t, rfl⟩ := r1
  refine thn ((pe_joined1 (X := X) pe_str).run pins s1 σ H1 (fun v H2 => v = .str "02x" ∧ H2 = H1) I1 ⟨rfl, rfl⟩) fun r s2 ⟨y, H2, I2, r2, ey, eH⟩ => ?_
  subst ey eH
  obtain ⟨t2, rfl⟩ := r2
  exact ⟨_, t2, rfl, PySem.W.KXf.field_int rfl (by decide +kernel) (by decide +kernel) (g t) fun t' k => ⟨.str (SX.S (hex2 n)), H2, I2.tok _, ⟨t', rfl⟩, q⟩⟩
section
variable {σ : L2.St} {B : Hp} {te : TE}
theorem ev_hex2 {n : Nat} (h : Ev te σ B (.int (n : Int))) (g : GoodH n) : Ev (tHex2 te) σ B (.str (SX.S (hex2 n))) := fun H1 e Q q => h H1 e _ fun H2 e2 => ⟨n, rfl, g, q H2 e2⟩
/-- f'..{..}' : a written text and one more -/
theorem ev_js2 {ta tb : TE} {a b : List Nat} (ha : Ev ta σ B (.str (SX.S a))) (hb : Ev tb σ B (.str (SX.S b))) (hz : a.length + b.length ≤ 1000000) : Ev (fun σ H Q => tJs [ta, tb] Str.empty σ H fun out H1 => Q (.str out) H1) σ B (.str (SX.S (a ++ b))) := fun H1 e Q q =>
  ha H1 e _ fun H2 e2 => ⟨_, rfl, by
    show ((Str.empty : Str) ++ SX.S a).length ≤ sizeLine
    rw [show (Str.empty : Str) = SX.S [] from rfl, SX.S_cat, SX.S_len]
    exact Nat.le_trans (by simp; omega) (by decide : 1000000 ≤ sizeLine), hb H2 (e.trans e2) _ fun H3 e3 => ⟨_, rfl, by
    rw [show (Str.empty : Str) = SX.S [] from rfl, SX.S_cat, SX.S_cat, SX.S_len]
    exact Nat.le_trans (by simp; omega) (by decide : 1000000 ≤ sizeLine), by
    have q2 := q H3 (e2.trans e3)
    show Q (.str (((Str.empty : Str) ++ SX.S a) ++ SX.S b)) H3
    rw [show (Str.empty : Str) = SX.S [] from rfl, SX.S_cat, SX.S_cat]
    exact q2⟩⟩
end
end FK

set_option Elab.async false
set_option linter.all false
set_option maxRecDepth 100000
/-! words of texts; the state of the draws as a list of two numbers (own text) -/
namespace FK
open PySem PySem.Spec PyProof.Rows L2 Evl FkE
section
variable {K : PySem.W.Frag} {σ : L2.St} {B : Hp} {te tb : TE} {t u : TT} {v : V}
theorem S_inj' {x y : List Nat} : V.str (SX.S x) = V.str (SX.S y) ↔ x = y := ⟨fun h => by
  have h2 : SX.S x = SX.S y := by injection h
  have := congrArg (fun z : Str => z.cps.toList) h2
  simpa [SX.S] using this, fun h => by rw [h]⟩
theorem ev_eqS {x y : List Nat} (ha : Ev te σ B (.str (SX.S x))) (hb : Ev tb σ B (.str (SX.S y))) : Ev (tOp rEq te tb) σ B (.bl (decide (x = y))) := by
  have e : decide (x = y) = decide (V.str (SX.S x) = V.str (SX.S y)) := decide_eq_decide.mpr S_inj'.symm
  rw [e]
  exact ev_op ha hb (rv_eq rfl)
theorem ev_neS {x y : List Nat} (ha : Ev te σ B (.str (SX.S x))) (hb : Ev tb σ B (.str (SX.S y))) : Ev (tOp rNe te tb) σ B (.bl (!decide (x = y))) := by
  have e : decide (x = y) = decide (V.str (SX.S x) = V.str (SX.S y)) := decide_eq_decide.mpr S_inj'.symm
  rw [e]
  exact ev_op ha hb (rv_ne rfl)
theorem ev_lit {z : Str} (l : List Nat) (h : z = SX.S l) : Ev (tC (.str z)) σ B (.str (SX.S l)) := by
  rw [h]
  exact ev_c
theorem ev_findS {x y : Str} (h : Ev te σ B (.str x)) (h2 : Ev tb σ B (.str y)) : Ev (tM1 (fun x xs H Q => ∃ a b, x = .str a ∧ xs = [.str b] ∧ Q (.int (Txt.find a b)) H) te tb) σ B (.int (Txt.find x y)) := fun H1 e Q q =>
  h H1 e _ fun H2 e2 => ⟨⟨x, rfl⟩, h2 H2 (e.trans e2) _ fun H3 e3 => ⟨x, y, rfl, rfl, q H3 (e2.trans e3)⟩⟩
theorem ev_lowerS {x : Str} (h : Ev te σ B (.str x)) (hz : x.length ≤ 5592405) : Ev (tM0 (fun x xs H Q => ∃ a, x = .str a ∧ xs = [] ∧ a.length ≤ 5592405 ∧ Q (.str (Txt.lower a)) H) te) σ B (.str (Txt.lower x)) := fun H1 e Q q =>
  h H1 e _ fun H2 e2 => ⟨⟨x, rfl⟩, x, rfl, rfl, hz, q H2 e2⟩
/-- truth -/
theorem et_tru {k : Bool} (h : Ev te σ B v) (hk : ∀ H, Ex B H → TruV K v H k) : EvT (fun σ H Q => te σ H fun x H' => ∃ k, TruV K x H' k ∧ Q k H') σ B k := fun H1 e Q q =>
  h H1 e _ fun H2 e2 => ⟨k, hk H2 (e.trans e2), q H2 e2⟩
theorem et_truL {a : Addr} {xs : List V} (h : Ev te σ B (.ref a)) (hx : SqL K B a xs) : EvT (fun σ H Q => te σ H fun x H' => ∃ k, TruV K x H' k ∧ Q k H') σ B (!xs.isEmpty) :=
  et_tru h fun H e => .inl ⟨xs, ex_l e hx, rfl⟩
theorem et_truS {l : List Nat} (h : Ev te σ B (.str (SX.S l))) (hz : l.length ≤ 100000) : EvT (fun σ H Q => te σ H fun x H' => ∃ k, TruV K x H' k ∧ Q k H') σ B (!l.isEmpty) :=
  et_tru h fun H e => ⟨by rw [SX.S_len]; exact sz_of hz, by
    rw [SX.S_len]
    cases l with
    | nil => rfl
    | cons c r =>
      rw [Bool.eq_iff_iff]
      simp
      omega⟩
theorem et_truI {i : Int} (h : Ev te σ B (.int i)) : EvT (fun σ H Q => te σ H fun x H' => ∃ k, TruV K x H' k ∧ Q k H') σ B (i != 0) := et_tru h fun H e => rfl
end
/-! ### digits -/
def digO : Option Nat → V
  | some k => .int (k : Int)
  | none => .non
def digL (l : List Nat) (b : Nat) : Option Nat := match l with
  | [c] => digN c b
  | _ => none
def digV (l : List Nat) (b : Nat) : V := digO (digL l b)
def spDig : Sp := PV fun vs _ z => ∃ (l : List Nat) (b : Nat), vs = [.str (SX.S l), .int (b : Int)] ∧ (b = 10 ∨ b = 16) ∧ l.length ≤ 1 ∧ (∀ c ∈ l, c < 128) ∧ z = digV l b
/-! ### parts at one sign -/
def sp1 (s : Nat) : List Nat → List (List Nat)
  | [] => [[]]
  | c :: r => if c = s then [] :: sp1 s r else match sp1 s r with
    | p :: ps => (c :: p) :: ps
    | [] => [[c]]
theorem sp1_ne {s : Nat} : ∀ l : List Nat, sp1 s l ≠ []
  | [] => by simp [sp1]
  | c :: r => by
    unfold sp1
    split
    · simp
    · split <;> simp
theorem sp1_hit {s : Nat} {r : List Nat} : sp1 s (s :: r) = [] :: sp1 s r := by
  show (if s = s then _ else _) = _
  rw [if_pos rfl]
theorem sp1_miss {s c : Nat} {r p : List Nat} {ps : List (List Nat)} (h : c ≠ s) (e : sp1 s r = p :: ps) : sp1 s (c :: r) = (c :: p) :: ps := by
  show (if c = s then _ else match sp1 s r with
    | p :: ps => (c :: p) :: ps
    | [] => [[c]]) = _
  rw [if_neg h, e]
theorem spl_sp1 {s : Nat} : ∀ (l acc p : List Nat) (ps : List (List Nat)), sp1 s l = p :: ps → TL.spl [s] 0 acc l = (acc ++ p) :: ps
  | [], acc, p, ps, h => by
    rw [TL.spl_nil]
    have h : [[]] = p :: ps := h
    injection h with h1 h2
    subst h1 h2
    simp
  | c :: r, acc, p, ps, h => by
    cases h2 : sp1 s r with
    | nil => exact absurd h2 (sp1_ne r)
    | cons q qs =>
    by_cases hc : c = s
    · subst hc
      have e : TL.spl [c] 0 acc (c :: r) = acc :: TL.spl [c] 0 [] r := TL.spl_hit (by simp [TL.pre])
      rw [e, spl_sp1 r [] q qs h2]
      rw [sp1_hit, h2] at h
      injection h with h3 h4
      subst h3 h4
      simp
    · have e : TL.spl [s] 0 acc (c :: r) = TL.spl [s] 0 (acc ++ [c]) r := TL.spl_miss (by simp [TL.pre]; exact fun z => hc z)
      rw [e, spl_sp1 r _ q qs h2]
      rw [sp1_miss hc h2] at h
      injection h with h3 h4
      subst h3 h4
      simp
theorem spl_is {s : Nat} (l : List Nat) : TL.spl [s] 0 [] l = sp1 s l := by
  cases h : sp1 s l with
  | nil => exact absurd h (sp1_ne l)
  | cons p ps => rw [spl_sp1 l [] p ps h]; simp
theorem sp1_mem {s : Nat} : ∀ (l : List Nat), ∀ p ∈ sp1 s l, ∀ c ∈ p, c ∈ l
  | [], p, hp, c, hc => by
    have hp : p ∈ [[]] := hp
    simp at hp
    subst hp
    cases hc
  | d :: r, p, hp, c, hc => by
    cases h2 : sp1 s r with
    | nil => exact absurd h2 (sp1_ne r)
    | cons q qs =>
    by_cases hd : d = s
    · subst hd
      rw [sp1_hit] at hp
      rcases List.mem_cons.mp hp with rfl | hp
      · cases hc
      · exact List.mem_cons_of_mem _ (sp1_mem r p hp c hc)
    · rw [sp1_miss hd h2] at hp
      rcases List.mem_cons.mp hp with rfl | hp
      · rcases List.mem_cons.mp hc with rfl | hc
        · exact List.mem_cons_self
        · exact List.mem_cons_of_mem _ (sp1_mem r q (by rw [h2]; exact List.mem_cons_self) c hc)
      · exact List.mem_cons_of_mem _ (sp1_mem r p (by rw [h2]; exact List.mem_cons_of_mem _ hp) c hc)
theorem sp1_len {s : Nat} : ∀ (l : List Nat), (sp1 s l).length ≤ l.length + 1 ∧ ((sp1 s l).map (·.length)).sum ≤ l.length
  | [] => by simp [sp1]
  | d :: r => by
    have ih := sp1_len (s := s) r
    cases h2 : sp1 s r with
    | nil => exact absurd h2 (sp1_ne r)
    | cons q qs =>
    rw [h2] at ih
    by_cases hd : d = s
    · subst hd
      rw [sp1_hit, h2]
      simp at ih ⊢
      omega
    · rw [sp1_miss hd h2]
      simp at ih ⊢
      omega
/-! ### the state of the draws: a list of two numbers -/
def shL (o : HO) : Prop := ∃ k r : Int, o = .lst [.int k, .int r]
/-- the state at ps, the script at ss -/
def Stl (K : PySem.W.Frag) (Y : Ys) (ps ss : Addr) (B : Hp) : Prop := Y.st = some ps ∧ Y.sh = shL ∧ ∃ ns : List Int, SqL K B ss (ns.map V.int) ∧ ns.length ≤ 1000
theorem Stl.mono {K : PySem.W.Frag} {Y : Ys} {ps ss : Addr} {B B' : Hp} (h : Stl K Y ps ss B) (e : Ex B B') : Stl K Y ps ss B' := let ⟨a, b, ns, c, d⟩ := h; ⟨a, b, ns, ex_l e c, d⟩
theorem At.stateL {K : PySem.W.Frag} {Y : Ys} {O : Org} {B H : Hp} {ps ss : Addr} (e : At Y O B H) (h : Stl K Y ps ss B) : ∃ k r : Int, H ps = some (.lst [.int k, .int r]) := by
  have := e.hy.st.p
  unfold Stp at this
  rw [h.1] at this
  obtain ⟨o, h1, h2⟩ := this
  rw [h.2.1] at h2
  obtain ⟨k, r, rfl⟩ := h2
  exact ⟨k, r, h1⟩
theorem At.drawL {K : PySem.W.Frag} {Y : Ys} {O : Org} {B H H1 : Hp} {ps ss : Addr} {k r : Int} (e : At Y O B H) (h : Stl K Y ps ss B) (x : Ex (upd H ps (.lst [.int k, .int r])) H1) : At Y O B H1 :=
  e.moved h.1 (by rw [h.2.1]; exact ⟨k, r, rfl⟩) x
def preDrw (K : PySem.W.Frag) (Y : Ys) (vs : List V) (B : Hp) (F : V → Hp → Prop) : Prop := ∃ (ps ss : Addr) (b : Int), Stl K Y ps ss B ∧ vs = [.ref ps, .ref ss, .int b] ∧ 0 < b ∧ b < 1073741824 ∧ F = nextF b
def spDrw (K : PySem.W.Frag) : Sp := PY (preDrw K)
def spRef (K : PySem.W.Frag) : Sp := PVd fun vs H F => ∃ (ss : Addr) (ns : List Int) (k : Int), vs = [.ref ss, .int k] ∧ SqL K H ss (ns.map V.int) ∧ ns.length ≤ 1000 ∧ F = fun v => ∃ i : Int, v = .int i
section
variable {K : PySem.W.Frag} {Y : Ys} {O : Org} {σ : L2.St} {B : Hp} {ps ss : Addr} {b : Int} {ta tb tc : TE} {E : XK} {tz : TS} {D : Ends}
theorem es_drw (hs : Stl K Y ps ss B) (h1 : Ev ta σ B (.ref ps)) (h2 : Ev tb σ B (.ref ss)) (h3 : Ev tc σ B (.int b)) (hb : 0 < b) (hz : b < 1073741824 := by omega) : ES Y (tCall (spDrw K) [] E (tCons ta (tCons tb (tCons tc tNil)))) σ B (nextF b) :=
  es_pyA (ea_cons h1 (ea_cons h2 (ea_cons h3 ea_nil))) ⟨ps, ss, b, hs, rfl, hb, hz, rfl⟩
/-- a number is drawn -/
theorem b_drw {i : Nat} (h0 : Ex O.B0 B) (hs : Stl K Y ps ss B) (h1 : Ev ta σ B (.ref ps)) (h2 : Ev tb σ B (.ref ss)) (h3 : Ev tc σ B (.int b)) (hb : 0 < b) (k : ∀ r : Int, 0 ≤ r → r < b → RS Y O tz D (σ.set i (some (.int r))) B) (hz : b < 1073741824 := by omega) : RS Y O (tSeq (tAsg (tCall (spDrw K) [] E (tCons ta (tCons tb (tCons tc tNil)))) (gName i)) tz) D σ B :=
  s_asg (es_drw hs h1 h2 h3 hb hz) fun v N e ⟨r, hv, r0, r1⟩ => by
    subst hv
    exact RS.weak h0 e (k r r0 r1)
end
/-- the state is made; from then on it belongs to the draws -/
theorem r_enterL {tz : TS} {D : Ends} {σ : L2.St} {B : Hp} {ps : Addr} {k r : Int} (hs : B ps = some (.lst [.int k, .int r])) (h : ∀ O : Org, O.B0 = del B ps → RS { st := some ps, sh := shL } O tz D σ (del B ps)) : R tz D σ B := fun H e => by
  have ed : Ex (del B ps) (del H ps) := fun a u ha => by
    by_cases c : a = ps
    · subst c
      rw [del_same] at ha
      cases ha
    · rw [del_ne c] at ha ⊢
      exact e a u ha
  have st : Stt { st := some ps, sh := shL } H := ⟨⟨_, e ps _ hs, k, r, rfl⟩, fun a u z => nomatch z⟩
  exact h ⟨del B ps, H⟩ rfl H ⟨⟨ed, st⟩, st, FP.refl, ⟨Ex.refl _, st⟩⟩
section
variable {K : PySem.W.Frag} {σ : L2.St} {B : Hp} {ta tb te : TE} {tz : TS} {D : Ends} {Pp : V → Hp → Prop}
theorem r_setLP {l : Addr} {xs : List V} {j : Nat} (hl : B l = some (.lst xs)) (h : EvP te σ B Pp) (ho : Ev ta σ B (.ref l)) (hi : Ev tb σ B (.int (j : Int))) (hj : j < xs.length) (k : ∀ v B', Ex B B' → Pp v B' → R tz D σ (upd B' l (.lst (xs.set j v)))) :
    R (tSeq (tAsg te (gSub ta tb rSetL)) tz) D σ B := fun H e => h H e _ fun v H2 e2 hv =>
  Evl.s_setL (te := tC v) (D := { D with nx := tz D }) (((e.trans e2) l _ hl)) ev_c (ho.mono (e.trans e2)) (hi.mono (e.trans e2)) hj fun H3 e3 => k v H2 (e.trans e2) hv _ (ex_mut e3)
end
/-! ### parts of texts -/
theorem cutS_ut {l : List Nat} {j : Nat} : cutS (SX.S l) none (some (j : Int)) = SX.S (l.take j) := by
  unfold cutS
  rw [HT.sIx_none, HT.sIx_nat, SX.S_len]
  have e : (SX.S l).cps.toList = l := by simp [SX.S]
  rw [e]
  show SX.S _ = SX.S _
  congr 1
  rw [List.drop_zero, Nat.sub_zero]
  by_cases hj : j ≤ l.length
  · rw [Nat.min_eq_left hj]
  · rw [Nat.min_eq_right (by omega), List.take_of_length_le (by omega), List.take_of_length_le (by omega)]
theorem cutS_fr {l : List Nat} {j : Nat} : cutS (SX.S l) (some (j : Int)) none = SX.S (l.drop j) := by
  unfold cutS
  rw [HT.sIx_none, HT.sIx_nat, SX.S_len]
  have e : (SX.S l).cps.toList = l := by simp [SX.S]
  rw [e]
  show SX.S _ = SX.S _
  congr 1
  by_cases hj : j ≤ l.length
  · rw [Nat.min_eq_left hj, List.take_of_length_le (by rw [List.length_drop]; omega)]
  · rw [Nat.min_eq_right (by omega), List.drop_of_length_le (Nat.le_refl _), List.drop_of_length_le (by omega), List.take_nil]
theorem cutS_neg {l : List Nat} {j : Nat} (hj : 0 < j) : cutS (SX.S l) none (some (-(j : Int))) = SX.S (l.take (l.length - j)) := by
  unfold cutS
  have e2 : HT.sIx (SX.S l).length (SX.S l).length (some (-(j : Int))) = l.length - j := by
    show (if (-(j : Int)) < 0 then ((-(j : Int)) + ((SX.S l).length : Int)).toNat else _) = _
    rw [if_pos (by omega), SX.S_len]
    omega
  rw [e2, HT.sIx_none]
  have e : (SX.S l).cps.toList = l := by simp [SX.S]
  rw [e]
  show SX.S _ = SX.S _
  rw [List.drop_zero, Nat.sub_zero]
section
variable {K : PySem.W.Frag} {Y : Ys} {σ : L2.St} {B : Hp} {te : TE} {tl th : TO}
theorem ev_cutT {t : List Nat} {b : Nat} {j : Int} (ht : t.length ≤ 100000) (h : Ev te σ B (.str (SX.S t))) (h2 : EvO th σ B (some j)) (hj : j = (b : Int)) : Ev (tSl rSlS te tNoPart th) σ B (.str (SX.S (t.take b))) := by
  subst hj
  have e := ev_slice_str h eo_none h2 ht
  rw [cutS_ut] at e
  exact e
theorem ev_cutF {t : List Nat} {b : Nat} {j : Int} (ht : t.length ≤ 100000) (h : Ev te σ B (.str (SX.S t))) (h2 : EvO th σ B (some j)) (hj : j = (b : Int)) : Ev (tSl rSlS te th tNoPart) σ B (.str (SX.S (t.drop b))) := by
  subst hj
  have e := ev_slice_str h h2 eo_none ht
  rw [cutS_fr] at e
  exact e
theorem ev_cutN {t : List Nat} {b : Nat} {j : Int} (ht : t.length ≤ 100000) (h : Ev te σ B (.str (SX.S t))) (h2 : EvO th σ B (some j)) (hj : j = -(b : Int)) (hb : 0 < b) : Ev (tSl rSlS te tNoPart th) σ B (.str (SX.S (t.take (t.length - b)))) := by
  subst hj
  have e := ev_slice_str h eo_none h2 ht
  rw [cutS_neg hb] at e
  exact e
/-- ''.join(a new list of single signs, made with the state) -/
theorem es_joinK {G : List Nat → Prop} (h : ES Y te σ B fun v N => ∃ (p : Addr) (cs : List Nat), v = .ref p ∧ N p = some (.lst (cs.map fun c => V.str (SX.S [c]))) ∧ cs.length ≤ 100000 ∧ G cs) :
    ES Y (tM1 (fun x xs H Q => ∃ a p, ∃ ys : List Str, x = .str a ∧ xs = [.ref p] ∧ (SqL K H p (ys.map V.str) ∨ SqT K H p (ys.map V.str)) ∧ (ys.map (·.length)).sum + ys.length * a.length ≤ 16777216 ∧ Q (.str (Txt.join a ys)) H) (tC (.str "")) te) σ B (fun v _ => ∃ cs, v = .str (SX.S cs) ∧ G cs) := fun H1 e Q q =>
  ⟨⟨_, rfl⟩, h H1 e _ fun v N H2 f a b ⟨p, cs, hv, hp, hz, hG⟩ => by
    subst hv
    refine ⟨SX.S [], p, (cs.map fun c => [c]).map SX.S, rfl, rfl, .inl (sq_of (a.sub p _ (by rw [hp, List.map_map, List.map_map]; rfl))), ?_, ?_⟩
    · rw [SX.lens, sum_ones, SX.S_len]
      simp
      omega
    · rw [SX.join_S, joinL_signs]
      exact q _ N H2 f a b ⟨cs, rfl, hG⟩⟩
end
section
variable {K : PySem.W.Frag} {σ : L2.St} {B : Hp} {te : TE} {t : TT}
/-- over the signs of a text, with a test -/
theorem en_lcSF {wi : TI} {s : List Nat} {j : Nat} {vs : List Nat} (p : Nat → Bool) (f : Nat → V) (h : EvI wi σ B (s.map fun c => .str (SX.S [c]))) (hz : s.length ≤ 100000) (hw : ∀ x, wipe ((wipe σ vs).set j (some x)) vs = wipe σ vs)
    (ht : ∀ c ∈ s, ∀ B', Ex B B' → EvT t ((wipe σ vs).set j (some (.str (SX.S [c])))) B' (p c)) (he : ∀ c ∈ s, ∀ B', Ex B B' → p c = true → Ev te ((wipe σ vs).set j (some (.str (SX.S [c])))) B' (f c)) : EvN (tLc wi (gName j) t te vs) σ B (.lst ((s.filter p).map f)) := by
  have e := en_lc (t := t) (te := te) (σ := σ) (B := B) (j := j) (vs := vs) (fun x => match x with | .str z => p (z.cps.getD 0 0) | _ => false) (fun x => match x with | .str z => f (z.cps.getD 0 0) | _ => .non) h (by rw [List.length_map]; exact hz) hw (fun x hx B' a => by
    obtain ⟨c, hc, rfl⟩ := List.mem_map.mp hx
    exact ht c hc B' a) (fun x hx B' a hp => by
    obtain ⟨c, hc, rfl⟩ := List.mem_map.mp hx
    exact he c hc B' a hp)
  rw [List.filter_map, List.map_map] at e
  exact e
end
/-- from here on the heap as it is -/
theorem s_leave {Y : Ys} {O : Org} {tz : TS} {D : Ends} {σ : L2.St} {B : Hp} (h : ∀ H, At Y O B H → R tz D σ H) : RS Y O tz D σ B := fun H a => (h H a).go
theorem At.old {Y : Ys} {O : Org} {B H : Hp} (a : At Y O B H) : Ex O.B0 H := a.fp.ex.trans a.hy.sub
end FK

set_option Elab.async false
set_option linter.all false
set_option maxRecDepth 100000
/-! data as it is read from JSON; data beside a locked dict (own text) -/
namespace FK
open PySem PySem.Spec PyProof.Rows L2 Evl FkE
/-- data of this depth, as it is read -/
inductive Jd : Nat → PyData → Prop where
  | non {n : Nat} : Jd n .none
  | bl {n : Nat} (b : Bool) : Jd n (.bool b)
  | int {n : Nat} (i : Int) : Jd n (.int i)
  | str {n : Nat} {l : List Nat} : (∀ c ∈ l, c < 128) → Jd n (.str (SX.S l))
  | lst {n : Nat} {ds : List PyData} : (∀ d ∈ ds, Jd n d) → ds.length ≤ 20000 → Jd (n + 1) (.list ds)
  | dct {n : Nat} {ps : List (List Nat × PyData)} : (∀ p ∈ ps, Jd n p.2) → (∀ p ∈ ps, ∀ c ∈ p.1, c < 128) → (ps.map (·.1)).Nodup → ps.length ≤ 20000 → Jd (n + 1) (.dict (ps.map fun p => (.str (SX.S p.1), p.2)))
theorem jd_ls {t : List Nat} {rv : Nat → Rs} {m : Nat} (ht : t.length ≤ 20000) (hr : ∀ a d a', rv a = .ok d a' → a < a' ∧ a' ≤ t.length) (hj : ∀ a d a', rv a = .ok d a' → Jd m d) : ∀ (n a : Nat) (acc : List PyData) (d : PyData) (a' : Nat), t.length + 1 - a ≤ n → (∀ x ∈ acc, Jd m x) → acc.length ≤ a → lsGo t rv a acc = .ok d a' → Jd (m + 1) d := by
  intro n
  induction n with
  | zero =>
    intro a acc d a' hn ha hl h
    rw [lsGo.eq_1] at h
    split at h
    · cases h
    · rename_i v a2 h1
      have := hr _ _ _ h1
      omega
  | succ n ih =>
    intro a acc d a' hn ha hl h
    rw [lsGo.eq_1] at h
    split at h
    · cases h
    · rename_i v a2 h1
      have hv := hr _ _ _ h1
      have hs := skB_ge (t := t) (a := a2)
      have hall : ∀ x ∈ acc ++ [v], Jd m x := fun x hx => by
        rcases List.mem_append.mp hx with hx | hx
        · exact ha x hx
        · rw [List.mem_singleton.mp hx]
          exact hj _ _ _ h1
      split at h
      · cases h
      · rename_i c hc
        have hlc := (List.getElem?_eq_some_iff.mp hc).1
        split at h
        · cases h
          exact .lst hall (by rw [List.length_append, List.length_singleton]; omega)
        · split at h
          · split at h
            · exact ih _ _ _ _ (by omega) hall (by rw [List.length_append, List.length_singleton]; omega) h
            · cases h
          · cases h
theorem jd_dc {t : List Nat} {rv : Nat → Rs} {m : Nat} (ht : t.length ≤ 20000) (hr : ∀ a d a', rv a = .ok d a' → a < a' ∧ a' ≤ t.length) (hj : ∀ a d a', rv a = .ok d a' → Jd m d) : ∀ (n a : Nat) (acc : List (List Nat × PyData)) (d : PyData) (a' : Nat), t.length + 1 - a ≤ n → (∀ x ∈ acc, Jd m x.2) → (∀ x ∈ acc, ∀ c ∈ x.1, c < 128) → (acc.map (·.1)).Nodup → acc.length ≤ a → dcGo t rv a acc = .ok d a' → Jd (m + 1) d := by
  intro n
  induction n with
  | zero =>
    intro a acc d a' hn ha hk hd hl h
    rw [dcGo.eq_1] at h
    split at h
    · cases h
    · rename_i c hc
      have hlc := (List.getElem?_eq_some_iff.mp hc).1
      have := skB_ge (t := t) (a := a)
      omega
  | succ n ih =>
    intro a acc d a' hn ha hk hd hl h
    have h0 := skB_ge (t := t) (a := a)
    rw [dcGo.eq_1] at h
    split at h
    · cases h
    · rename_i c hc
      have hlc := (List.getElem?_eq_some_iff.mp hc).1
      split at h
      · cases h
      · split at h
        · cases h
        · rename_i k a2 hk2
          have hk3 := rdStr_ok _ _ _ _ _ (Nat.le_refl _) hk2
          have hkc := hk3.2.2.2 (fun c hc => nomatch hc)
          have h2 := skB_ge (t := t) (a := a2)
          split at h
          · cases h
          · rename_i hnk
            split at h
            · cases h
            · split at h
              · cases h
              · rename_i v a4 h4
                have hv := hr _ _ _ h4
                have h5 := skB_ge (t := t) (a := a4)
                have hall : ∀ x ∈ acc ++ [(k, v)], Jd m x.2 := fun x hx => by
                  rcases List.mem_append.mp hx with hx | hx
                  · exact ha x hx
                  · rw [List.mem_singleton.mp hx]
                    exact hj _ _ _ h4
                have hal2 : ∀ x ∈ acc ++ [(k, v)], ∀ c ∈ x.1, c < 128 := fun x hx => by
                  rcases List.mem_append.mp hx with hx | hx
                  · exact hk x hx
                  · rw [List.mem_singleton.mp hx]
                    exact hkc
                have hnd : ((acc ++ [(k, v)]).map (·.1)).Nodup := by
                  rw [List.map_append, List.nodup_append]
                  refine ⟨hd, by simp, fun x hx y hy e => ?_⟩
                  have hy : y = k := by simpa using hy
                  rw [e, hy] at hx
                  exact hnk hx
                split at h
                · cases h
                · rename_i c2 hc2
                  have hl2 := (List.getElem?_eq_some_iff.mp hc2).1
                  split at h
                  · cases h
                    exact .dct hall hal2 hnd (by rw [List.length_append, List.length_singleton]; omega)
                  · split at h
                    · split at h
                      · exact ih _ _ _ _ (by omega) hall hal2 hnd (by rw [List.length_append, List.length_singleton]; omega) h
                      · cases h
                    · cases h
theorem Jd.up {n : Nat} {d : PyData} (h : Jd n d) : Jd (n + 1) d := by
  induction h with
  | non => exact .non
  | bl b => exact .bl b
  | int i => exact .int i
  | str h => exact .str h
  | lst h hl ih => exact .lst ih hl
  | dct h hk hd hl ih => exact .dct ih hk hd hl
theorem jd_C {t : List Nat} {rv : Option (Nat → Rs)} {m a c a' : Nat} {d : PyData} (ht : t.length ≤ 20000) (hr : ∀ r, rv = some r → ∃ k, m = k + 1 ∧ ∀ a d a', r a = .ok d a' → (a < a' ∧ a' ≤ t.length) ∧ Jd k d) (h : rdC t rv a c = .ok d a') : Jd m d := by
  unfold rdC at h
  split at h
  · split at h
    · cases h
    · rename_i r
      obtain ⟨k, rfl, hk⟩ := hr r rfl
      unfold lsR at h
      split at h
      · cases h
        exact .lst (fun d hd => nomatch hd) (by simp)
      · exact jd_ls ht (fun a d a' h => (hk a d a' h).1) (fun a d a' h => (hk a d a' h).2) _ _ [] _ _ (Nat.le_refl _) (fun x hx => nomatch hx) (Nat.zero_le _) h
  · split at h
    · split at h
      · cases h
      · rename_i r
        obtain ⟨k, rfl, hk⟩ := hr r rfl
        unfold dcR at h
        split at h
        · cases h
          exact .dct (ps := []) (fun d hd => nomatch hd) (fun d hd => nomatch hd) (by simp) (by simp)
        · exact jd_dc ht (fun a d a' h => (hk a d a' h).1) (fun a d a' h => (hk a d a' h).2) _ _ [] _ _ (Nat.le_refl _) (fun x hx => nomatch hx) (fun x hx => nomatch hx) (by simp) (Nat.zero_le _) h
    · split at h
      · unfold stR at h
        split at h
        · cases h
        · rename_i cs a2 hs
          cases h
          exact .str ((rdStr_ok _ _ _ _ _ (Nat.le_refl _) hs).2.2.2 fun c hc => nomatch hc)
      · split at h
        · unfold rdNum at h
          split at h
          · cases h
          · split at h
            · cases h
            · split at h
              · cases h
              · cases h
                exact .int _
        · split at h
          · rw [(wdGo_ok h).2.1]
            exact .non
          · split at h
            · rw [(wdGo_ok h).2.1]
              exact .bl _
            · split at h
              · rw [(wdGo_ok h).2.1]
                exact .bl _
              · cases h
theorem jd_A {t : List Nat} {rv : Option (Nat → Rs)} {m a a' : Nat} {d : PyData} (ht : t.length ≤ 20000) (hr : ∀ r, rv = some r → ∃ k, m = k + 1 ∧ ∀ a d a', r a = .ok d a' → (a < a' ∧ a' ≤ t.length) ∧ Jd k d) (h : rdA t rv a = .ok d a') : Jd m d := by
  unfold rdA at h
  split at h
  · cases h
  · exact jd_C ht hr h
theorem jd_V {t : List Nat} (ht : t.length ≤ 20000) : ∀ (n : Nat) {a a' : Nat} {d : PyData}, rdV t n a = .ok d a' → Jd n d
  | 0, _, _, _, h => jd_A ht (fun r e => by cases e) h
  | n + 1, _, _, _, h => jd_A ht (fun r e => by
    cases e
    exact ⟨n, rfl, fun a d a' h => ⟨rdV_ok n h, jd_V ht n h⟩⟩) h
/-! ### what an address holds is one thing -/
section
variable {K : PySem.W.Frag} {H : Hp}
mutual
theorem dq_det : ∀ (d1 d2 : PyData) (v : V), Dq K H v d1 → Dq K H v d2 → d1 = d2
  | .none, _, _, .non, h2 => by cases h2; rfl
  | .bool b, _, _, .bl _, h2 => by cases h2; rfl
  | .int i, _, _, .int _, h2 => by cases h2; rfl
  | .str x, _, _, .str _, h2 => by cases h2; rfl
  | .list ds, _, _, .lst h1 g1, h2 => by
    cases h2 with
    | lst h3 g3 =>
      rw [h1] at h3
      cases h3
      rw [dqa_det _ _ _ g1 g3]
    | tup h3 g3 => rw [h1] at h3; cases h3
    | dct h3 g3 => rw [h1] at h3; cases h3
  | .tuple ds, _, _, .tup h1 g1, h2 => by
    cases h2 with
    | lst h3 g3 => rw [h1] at h3; cases h3
    | tup h3 g3 =>
      rw [h1] at h3
      cases h3
      rw [dqa_det _ _ _ g1 g3]
    | dct h3 g3 => rw [h1] at h3; cases h3
  | .dict ds, _, _, .dct h1 g1, h2 => by
    cases h2 with
    | lst h3 g3 => rw [h1] at h3; cases h3
    | tup h3 g3 => rw [h1] at h3; cases h3
    | dct h3 g3 =>
      rw [h1] at h3
      cases h3
      rw [dqk_det _ _ _ g1 g3]
theorem dqa_det : ∀ (ds1 ds2 : List PyData) (vs : List V), DqA K H vs ds1 → DqA K H vs ds2 → ds1 = ds2
  | [], _, _, .nil, h2 => by cases h2; rfl
  | d :: ds, _, _, .cons a b, h2 => by
    cases h2 with
    | cons a2 b2 => rw [dq_det _ _ _ a a2, dqa_det _ _ _ b b2]
theorem dqk_det : ∀ (ds1 ds2 : List (PyData × PyData)) (vs : List (Key × V)), DqK K H vs ds1 → DqK K H vs ds2 → ds1 = ds2
  | [], _, _, .nil, h2 => by cases h2; rfl
  | (.str k, d) :: ds, _, _, .cons a b, h2 => by
    cases h2 with
    | cons a2 b2 => rw [dq_det _ _ _ a a2, dqk_det _ _ _ b b2]
  | (.none, d) :: ds, _, _, h, _ => nomatch h
  | (.bool _, d) :: ds, _, _, h, _ => nomatch h
  | (.int _, d) :: ds, _, _, h, _ => nomatch h
  | (.list _, d) :: ds, _, _, h, _ => nomatch h
  | (.tuple _, d) :: ds, _, _, h, _ => nomatch h
  | (.dict _, d) :: ds, _, _, h, _ => nomatch h
end
mutual
/-- lesser data does not hold the object at a -/
theorem dq_lock {a : Addr} {dd : PyData} {o : HO} (ha : Dq K H (.ref a) dd) : ∀ (d : PyData) (v : V), sizeOf d < sizeOf dd → Dq K H v d → Dq K (upd H a o) v d
  | .none, _, _, .non => .non
  | .bool b, _, _, .bl _ => .bl _
  | .int i, _, _, .int _ => .int _
  | .str x, _, _, .str _ => .str _
  | .list ds, _, hs, h => by
    cases h with
    | @lst b xs _ h1 g1 =>
      have hne : b ≠ a := fun c => by
        subst c
        rw [dq_det _ _ _ ha (.lst h1 g1)] at hs
        omega
      exact .lst (by rw [upd_ne hne]; exact h1) (dqa_lock ha ds xs (by simp at hs; omega) g1)
  | .tuple ds, _, hs, h => by
    cases h with
    | @tup b xs _ h1 g1 =>
      have hne : b ≠ a := fun c => by
        subst c
        rw [dq_det _ _ _ ha (.tup h1 g1)] at hs
        omega
      exact .tup (by rw [upd_ne hne]; exact h1) (dqa_lock ha ds xs (by simp at hs; omega) g1)
  | .dict ds, _, hs, h => by
    cases h with
    | @dct b xs _ h1 g1 =>
      have hne : b ≠ a := fun c => by
        subst c
        rw [dq_det _ _ _ ha (.dct h1 g1)] at hs
        omega
      exact .dct (by rw [upd_ne hne]; exact h1) (dqk_lock ha ds xs (by simp at hs; omega) g1)
theorem dqa_lock {a : Addr} {dd : PyData} {o : HO} (ha : Dq K H (.ref a) dd) : ∀ (ds : List PyData) (vs : List V), sizeOf ds < sizeOf dd → DqA K H vs ds → DqA K (upd H a o) vs ds
  | [], _, _, .nil => .nil
  | d :: ds, _, hs, .cons x y => by
    have hs : 1 + sizeOf d + sizeOf ds < sizeOf dd := hs
    exact .cons (dq_lock ha d _ (by omega) x) (dqa_lock ha ds _ (by omega) y)
theorem dqk_lock {a : Addr} {dd : PyData} {o : HO} (ha : Dq K H (.ref a) dd) : ∀ (ds : List (PyData × PyData)) (vs : List (Key × V)), sizeOf ds < sizeOf dd → DqK K H vs ds → DqK K (upd H a o) vs ds
  | [], _, _, .nil => .nil
  | (.str k, d) :: ds, _, hs, .cons x y => by
    have hs : 1 + (1 + sizeOf (PyData.str k) + sizeOf d) + sizeOf ds < sizeOf dd := hs
    exact .cons (dq_lock ha d _ (by omega) x) (dqk_lock ha ds _ (by omega) y)
  | (.none, d) :: ds, _, _, h => nomatch h
  | (.bool _, d) :: ds, _, _, h => nomatch h
  | (.int _, d) :: ds, _, _, h => nomatch h
  | (.list _, d) :: ds, _, _, h => nomatch h
  | (.tuple _, d) :: ds, _, _, h => nomatch h
  | (.dict _, d) :: ds, _, _, h => nomatch h
end
theorem dqk_at : ∀ {kvs : List (Key × V)} {ps : List (List Nat × PyData)} {i : Nat} {k : Key} {v : V}, DqK K H kvs (ps.map fun p => (.str (SX.S p.1), p.2)) → kvs[i]? = some (k, v) → ∃ p, ps[i]? = some p ∧ k = .inr (SX.S p.1) ∧ Dq K H v p.2
  | _, [], i, k, v, h, hi => by
    cases h
    simp at hi
  | _, p :: ps, 0, k, v, h, hi => by
    cases h with
    | cons a b =>
      simp at hi
      obtain ⟨rfl, rfl⟩ := hi
      exact ⟨p, rfl, rfl, a⟩
  | _, p :: ps, i + 1, k, v, h, hi => by
    cases h with
    | cons a b =>
      obtain ⟨p2, h1, h2⟩ := dqk_at (i := i) b (by simpa using hi)
      exact ⟨p2, by simpa using h1, h2⟩
theorem dqk_at' : ∀ {kvs : List (Key × V)} {ps : List (List Nat × PyData)} {i : Nat} {p : List Nat × PyData}, DqK K H kvs (ps.map fun p => (.str (SX.S p.1), p.2)) → ps[i]? = some p → ∃ v, kvs[i]? = some (.inr (SX.S p.1), v) ∧ Dq K H v p.2
  | _, [], i, p, h, hi => by simp at hi
  | _, q :: ps, 0, p, h, hi => by
    cases h with
    | cons a b =>
      simp at hi
      subst hi
      exact ⟨_, rfl, a⟩
  | _, q :: ps, i + 1, p, h, hi => by
    cases h with
    | cons a b =>
      obtain ⟨v, h1, h2⟩ := dqk_at' (i := i) b (by simpa using hi)
      exact ⟨v, by simpa using h1, h2⟩
theorem dqk_keysP : ∀ {kvs : List (Key × V)} {ps : List (List Nat × PyData)}, DqK K H kvs (ps.map fun p => (.str (SX.S p.1), p.2)) → kvs.map (·.1) = ps.map fun p => (.inr (SX.S p.1) : Key)
  | _, [], h => by
    cases h
    rfl
  | _, p :: ps, h => by
    cases h with
    | cons a b =>
      rw [List.map_cons, List.map_cons, dqk_keysP b]
/-- the value at a key -/
theorem valV_nd : ∀ {kvs : List (Key × V)} {i : Nat} {k : Key} {v : V}, (kvs.map (·.1)).Nodup → kvs[i]? = some (k, v) → valV kvs k = some v
  | [], i, k, v, _, hi => by simp at hi
  | (k0, v0) :: r, 0, k, v, _, hi => by
    simp at hi
    obtain ⟨rfl, rfl⟩ := hi
    exact valV_pos rfl
  | (k0, v0) :: r, i + 1, k, v, hn, hi => by
    have hi : r[i]? = some (k, v) := by simpa using hi
    rw [List.map_cons, List.nodup_cons] at hn
    have hne : ¬ k0 = k := fun e => hn.1 (by
      rw [e]
      exact List.mem_map_of_mem (f := (·.1)) (List.mem_of_getElem? hi))
    exact (valV_neg (p := (k0, v0)) hne).trans (valV_nd hn.2 hi)
end
theorem S_inj2 {x y : List Nat} (h : SX.S x = SX.S y) : x = y := by
  have := congrArg (fun z : Str => z.cps.toList) h
  simpa [SX.S] using this
theorem nd_keys : ∀ {ps : List (List Nat × PyData)}, (ps.map (·.1)).Nodup → (ps.map fun p => (.inr (SX.S p.1) : Key)).Nodup
  | [], _ => by simp
  | p :: ps, h => by
    rw [List.map_cons, List.nodup_cons] at h ⊢
    refine ⟨fun hm => h.1 ?_, nd_keys h.2⟩
    obtain ⟨q, hq, e⟩ := List.mem_map.mp hm
    rw [← S_inj2 (Sum.inr.inj e)]
    exact List.mem_map_of_mem (f := (·.1)) hq
/-! ### texts made with the state -/
/-- some text of which this holds -/
def TxS (Pt : List Nat → Prop) : V → Hp → Prop := fun v _ => ∃ l, v = .str (SX.S l) ∧ Pt l
/-- these texts in a list -/
def LsS (K : PySem.W.Frag) (ls : List (List Nat)) : V → Hp → Prop := fun v N => ∃ p, v = .ref p ∧ SqL K N p (ls.map fun l => V.str (SX.S l))
section
variable {K : PySem.W.Frag} {Y : Ys} {σ : L2.St} {B : Hp} {ta tb te : TE} {ls : List (List Nat)} {P1 P2 Pt : List Nat → Prop}
theorem es_tx {l : List Nat} (h : Ev te σ B (.str (SX.S l))) (hP : Pt l) : ES Y te σ B (TxS Pt) := es_ev h ⟨l, rfl, hP⟩
theorem es_lsN (h : EvN te σ B (.lst (ls.map fun l => V.str (SX.S l)))) : ES Y te σ B (LsS K ls) := es_new h fun p np => ⟨p, rfl, sq_of upd_same⟩
theorem es_lsV {p : Addr} (h : Ev te σ B (.ref p)) (hp : SqL K B p (ls.map fun l => V.str (SX.S l))) : ES Y te σ B (LsS K ls) := es_ev h ⟨p, rfl, hp⟩
theorem es_pickT (h : ES Y te σ B (LsS K ls)) (hb : ∀ N, Ex B N → ES Y tb σ N (nextF (ls.length : Int))) (hP : ∀ l ∈ ls, Pt l) : ES Y (tOp (rIxL K) te tb) σ B (TxS Pt) :=
  es_op h fun x N e hx => (hb N e).imp fun y N2 e2 ⟨r, hy, r0, r1⟩ => by
    obtain ⟨p, rfl, hp⟩ := hx
    subst hy
    obtain ⟨a, rfl⟩ := Int.eq_ofNat_of_zero_le r0
    have ha : a < ls.length := by omega
    exact ⟨.str (SX.S ls[a]), rv_ixL (ex_l e2 hp) (atI_nat (j := a) (by
      rw [List.getElem?_map, List.getElem?_eq_getElem ha]
      rfl)), ls[a], rfl, hP _ (List.getElem_mem ha)⟩
theorem es_addT (h1 : ES Y ta σ B (TxS P1)) (h2 : ∀ N, Ex B N → ES Y tb σ N (TxS P2)) (hP : ∀ a b, P1 a → P2 b → a.length + b.length ≤ 100000 ∧ Pt (a ++ b)) :
    ES Y (tOp (fun x y H Q => ∃ i j, x = V.str i ∧ y = .str j ∧ i.length + j.length ≤ sizeLine ∧ Q (.str (i ++ j)) H) ta tb) σ B (TxS Pt) :=
  es_op h1 fun x N e ⟨a, hx, ha⟩ => (h2 N e).imp fun y N2 e2 ⟨b, hy, hb⟩ => by
    subst hx hy
    obtain ⟨g1, g2⟩ := hP a b ha hb
    exact ⟨_, rv_addS g1, a ++ b, rfl, g2⟩
end
section
variable {K : PySem.W.Frag} {Y : Ys} {σ : L2.St} {B : Hp} {ta tb te : TE}
theorem es_cutD {t : List Nat} {n : Int} (ht : t.length ≤ 100000) (h : Ev te σ B (.str (SX.S t))) (hd : ES Y tb σ B (nextF n)) : ES Y (tSl rSlS te tNoPart (tPart tb)) σ B (TxS fun l => ∃ k, l = t.take k) := fun H1 e Q q =>
  h H1 e.sub _ fun H2 e2 => hd H2 (e.pure e2) _ fun v N H3 f a b ⟨r, hv, r0, r1⟩ => by
    subst hv
    obtain ⟨k, rfl⟩ := Int.eq_ofNat_of_zero_le r0
    refine ⟨(k : Int), rfl, SX.S t, rfl, by rw [SX.S_len]; exact sz_of ht, ?_⟩
    rw [cutS_ut]
    have f2 : FP B N H1 := ⟨f.ex, fun x h1 h2 => fresh_back e2 (f.nw x h1 h2)⟩
    exact q _ N H3 f2 a (HY.trans (e.keep e2) b) ⟨_, rfl, k, rfl⟩
end
/-! ### tuples taken apart -/
section
variable {K : PySem.W.Frag} {σ : L2.St} {B : Hp} {te : TE} {tz : TS} {D : Ends} {d1 d2 d3 : PyData}
theorem r_tup2F {i j : Nat} (h : EvF K te σ B (.tuple [d1, d2])) (k : ∀ v1 v2 B', Ex B B' → Dq K B' v1 d1 → Dq K B' v2 d2 → R tz D ((σ.set i (some v1)).set j (some v2)) B') :
    R (tSeq (tAsg te (gTup K 2 (gCons (gName i) (gCons (gName j) gNil)))) tz) D σ B := fun H e =>
  h H e _ fun v H2 N e2 eN fN dN => by
    cases dN with
    | @tup a xs _ ha hd =>
      cases hd with
      | @cons v1 _ _ _ g1 hd =>
        cases hd with
        | @cons v2 _ _ _ g2 hd =>
          cases hd
          exact ⟨a, [v1, v2], rfl, st_of (eN _ _ ha), rfl, v1, [v2], rfl, v2, [], rfl, rfl, k v1 v2 H2 (e.trans e2) (dq_ex eN _ _ g1) (dq_ex eN _ _ g2) H2 (Ex.refl _)⟩
theorem r_tup3F {i j l : Nat} (h : EvF K te σ B (.tuple [d1, d2, d3])) (k : ∀ v1 v2 v3 B', Ex B B' → Dq K B' v1 d1 → Dq K B' v2 d2 → Dq K B' v3 d3 → R tz D (((σ.set i (some v1)).set j (some v2)).set l (some v3)) B') :
    R (tSeq (tAsg te (gTup K 3 (gCons (gName i) (gCons (gName j) (gCons (gName l) gNil))))) tz) D σ B := fun H e =>
  h H e _ fun v H2 N e2 eN fN dN => by
    cases dN with
    | @tup a xs _ ha hd =>
      cases hd with
      | @cons v1 _ _ _ g1 hd =>
        cases hd with
        | @cons v2 _ _ _ g2 hd =>
          cases hd with
          | @cons v3 _ _ _ g3 hd =>
            cases hd
            exact ⟨a, [v1, v2, v3], rfl, st_of (eN _ _ ha), rfl, v1, [v2, v3], rfl, v2, [v3], rfl, v3, [], rfl, rfl, k v1 v2 v3 H2 (e.trans e2) (dq_ex eN _ _ g1) (dq_ex eN _ _ g2) (dq_ex eN _ _ g3) H2 (Ex.refl _)⟩
theorem dq_i {H : Hp} {v : V} {i : Int} (h : Dq K H v (.int i)) : v = .int i := by cases h; rfl
theorem dq_b {H : Hp} {v : V} {i : Bool} (h : Dq K H v (.bool i)) : v = .bl i := by cases h; rfl
end
/-- a state of the draws is made of a new list -/
theorem r_draws {σ : L2.St} {B : Hp} {te : TE} {tz : TS} {D : Ends} {E : XK} {i : Nat} {ns : List Int} (h : EvN te σ B (.lst (ns.map V.int))) (h0 : 0 < ns.length) (h1 : ns.length ≤ 20)
    (k : ∀ (ps pn : Addr) (ms : List Int) (B' : Hp), ps ≠ pn → B ps = none → B' ps = some (stO pn 0) → B' pn = some (.lst (ms.map V.int)) → 0 < ms.length → ms.length ≤ 1000 → Ex B B' → R tz D (σ.set i (some (.ref ps))) B') : R (tSeq (tAsg (tCall spDraws [] E (tCons te tNil)) (gName i)) tz) D σ B := fun H1 e1 =>
  h H1 e1 _ fun pl H2 npl e2 hpl => ⟨pl, ns, rfl, hpl, h0, h1, fun ps pn ms H3 hne nps npn hps hpn g0 g1 e3 => k ps pn ms H3 hne (fresh_back (e1.trans e2) nps) hps hpn g0 g1 ((e1.trans e2).trans e3) H3 (Ex.refl _)⟩
end FK

set_option Elab.async false
set_option linter.all false
set_option maxRecDepth 100000
/-! JSON written loosely, and read (own text) -/
namespace FK
open PySem PySem.Spec PyProof.Rows L2 Evl FkE
def Bl (b : List Nat) : Prop := ∀ c ∈ b, isBl c = true
theorem Bl.nil : Bl [] := fun _ h => nomatch h
theorem Bl.app {a b : List Nat} (h : Bl a) (k : Bl b) : Bl (a ++ b) := fun c hc => by
  rcases List.mem_append.mp hc with hc | hc
  · exact h c hc
  · exact k c hc
/-- one sign of a string, written -/
inductive Ws : Nat → List Nat → Prop where
  | self {c : Nat} : c ≠ 34 → c ≠ 92 → c ≠ 10 → c ≠ 9 → cdB c = true → Ws c [c]
  | esc {c x : Nat} : escC x = some c → Ws c [92, x]
  | code {c h1 h2 d1 d2 : Nat} : digN h1 16 = some d1 → digN h2 16 = some d2 → 16 * d1 + d2 = c → cdB c = true → Ws c [92, 117, 48, 48, h1, h2]
inductive Wt : List Nat → List Nat → Prop where
  | nil : Wt [] []
  | cons {c : Nat} {l e s : List Nat} : Ws c e → Wt l s → Wt (c :: l) (e ++ s)
theorem Wt.app {l m s u : List Nat} (h : Wt l s) (k : Wt m u) : Wt (l ++ m) (s ++ u) := by
  induction h with
  | nil => exact k
  | cons a b ih =>
    rw [List.cons_append, List.append_assoc]
    exact .cons a ih
theorem rd_wt {cs s : List Nat} (h : Wt cs s) : ∀ (t : List Nat) (a : Nat) (acc : List Nat), Sat t a (s ++ [34]) → rdStr t a acc = .ok (acc ++ cs) (a + s.length + 1) := by
  induction h with
  | nil =>
    intro t a acc h
    rw [rdStr_quote h.cons.1, List.append_nil]
    rfl
  | @cons c l e s w hw ih =>
    intro t a acc h
    rw [List.append_assoc] at h
    cases w with
    | self h34 h92 h10 h9 hc =>
      have h1 := h.cons
      rw [rdStr_sign h1.1 h34 h92 (by
        rintro (z | z | z)
        · exact h10 z
        · exact h9 z
        · rw [hc] at z; cases z), ih t (a + 1) (acc ++ [c]) h1.2, List.append_assoc]
      simp
      omega
    | @esc x hx =>
      have h1 := h.cons
      have h2 := h1.2.cons
      have hne : x ≠ 117 := fun z => by
        subst z
        cases hx
      have hE : rdEsc t a = .ok c (a + 2) := by
        unfold rdEsc
        rw [h2.1]
        show (if x = 117 then rdCode t a else match escC x with
          | some c => Rc.ok c (a + 2)
          | none => .er (a + 1)) = _
        rw [if_neg hne, hx]
      rw [rdStr_esc h1.1, hE]
      show rdStr t (a + 2) (acc ++ [c]) = _
      rw [ih t (a + 2) (acc ++ [c]) h2.2, List.append_assoc]
      simp
      omega
    | @code x1 x2 d1 d2 g1 g2 gc hc =>
      have k0 := h.cons
      have k1 := k0.2.cons
      have k2 := k1.2.cons
      have k3 := k2.2.cons
      have k4 := k3.2.cons
      have k5 := k4.2.cons
      have hx2 : hexA t (a + 1 + 1) = some 0 := by unfold hexA; rw [k2.1]; rfl
      have hx3 : hexA t (a + 1 + 1 + 1) = some 0 := by unfold hexA; rw [k3.1]; rfl
      have hx4 : hexA t (a + 1 + 1 + 1 + 1) = some d1 := by unfold hexA; rw [k4.1]; exact g1
      have hx5 : hexA t (a + 1 + 1 + 1 + 1 + 1) = some d2 := by unfold hexA; rw [k5.1]; exact g2
      have hE : rdEsc t a = .ok c (a + 6) := by
        unfold rdEsc
        rw [k1.1]
        show (if 117 = 117 then rdCode t a else _) = _
        rw [if_pos rfl]
        unfold rdCode
        show cdGo t a 4 (a + 2) 0 = _
        have e1 : cdGo t a 4 (a + 2) 0 = cdGo t a 3 (a + 1 + 1 + 1) (16 * 0 + 0) := by
          show (match hexA t (a + 2) with | none => Rc.er (a + 2) | some d => cdGo t a 3 (a + 2 + 1) (16 * 0 + d)) = _
          rw [show a + 2 = a + 1 + 1 from rfl, hx2]
        have e2 : cdGo t a 3 (a + 1 + 1 + 1) 0 = cdGo t a 2 (a + 1 + 1 + 1 + 1) (16 * 0 + 0) := by
          show (match hexA t (a + 1 + 1 + 1) with | none => Rc.er _ | some d => cdGo t a 2 (a + 1 + 1 + 1 + 1) (16 * 0 + d)) = _
          rw [hx3]
        have e3 : cdGo t a 2 (a + 1 + 1 + 1 + 1) 0 = cdGo t a 1 (a + 1 + 1 + 1 + 1 + 1) (16 * 0 + d1) := by
          show (match hexA t (a + 1 + 1 + 1 + 1) with | none => Rc.er _ | some d => cdGo t a 1 (a + 1 + 1 + 1 + 1 + 1) (16 * 0 + d)) = _
          rw [hx4]
        have e4 : cdGo t a 1 (a + 1 + 1 + 1 + 1 + 1) d1 = cdGo t a 0 (a + 1 + 1 + 1 + 1 + 1 + 1) (16 * d1 + d2) := by
          show (match hexA t (a + 1 + 1 + 1 + 1 + 1) with | none => Rc.er _ | some d => cdGo t a 0 (a + 1 + 1 + 1 + 1 + 1 + 1) (16 * d1 + d)) = _
          rw [hx5]
        rw [e1, e2, e3, Nat.mul_zero, Nat.zero_add, e4, gc]
        show (if cdB c = true then Rc.ok c (a + 1 + 1 + 1 + 1 + 1 + 1) else .er a) = _
        rw [if_pos hc]
      rw [rdStr_esc k0.1, hE]
      show rdStr t (a + 6) (acc ++ [c]) = _
      rw [ih t (a + 6) (acc ++ [c]) k5.2, List.append_assoc]
      simp
      omega
/-! ### blanks at a place -/
theorem sk_bl : ∀ {b : List Nat} {t : List Nat} {a : Nat}, Sat t a b → Bl b → skB t a = skB t (a + b.length)
  | [], _, _, _, _ => rfl
  | c :: b, t, a, h, hb => by
    have h1 := h.cons
    rw [skB_step h1.1 (hb c List.mem_cons_self), sk_bl h1.2 (fun x hx => hb x (List.mem_cons_of_mem _ hx)), List.length_cons]
    congr 1
    omega
theorem sk_to {b r : List Nat} {t : List Nat} {a c : Nat} (h : Sat t a (b ++ c :: r)) (hb : Bl b) (hc : isBl c = false) : skB t a = a + b.length := by
  have h1 := h.app
  rw [sk_bl h1.1 hb]
  exact sk_at h1.2 hc
theorem rdV_sk {t : List Nat} {n a b : Nat} (h : skB t a = skB t b) : rdV t n a = rdV t n b := by
  rw [rdV_eq, rdV_eq]
  unfold rdA
  rw [h]
/-! ### values -/
inductive It where
  | v (d : PyData) | ls (ds : List PyData) | ks (ps : List (List Nat × PyData))
inductive Lx : It → List Nat → Prop where
  | non : Lx (.v .none) wNull
  | yes : Lx (.v (.bool true)) wTrue
  | no : Lx (.v (.bool false)) wFalse
  | int {i : Int} : i.natAbs < 1000000000000000 → Lx (.v (.int i)) (numI i)
  | str {l s : List Nat} : Wt l s → Lx (.v (.str (SX.S l))) (34 :: (s ++ [34]))
  | lnil {b : List Nat} : Bl b → Lx (.v (.list [])) (91 :: (b ++ [93]))
  | lst {ds : List PyData} {b s : List Nat} : Bl b → Lx (.ls ds) s → Lx (.v (.list ds)) (91 :: (b ++ s))
  | dnil {b : List Nat} : Bl b → Lx (.v (.dict [])) (123 :: (b ++ [125]))
  | dct {ps : List (List Nat × PyData)} {b s : List Nat} : Bl b → Lx (.ks ps) s → Lx (.v (.dict (ps.map fun p : List Nat × PyData => (PyData.str (SX.S p.1), p.2)))) (123 :: (b ++ s))
  | l1 {d : PyData} {u b : List Nat} : Lx (.v d) u → Bl b → Lx (.ls [d]) (u ++ (b ++ [93]))
  | ln {d : PyData} {ds : List PyData} {u b b2 s : List Nat} : Lx (.v d) u → Bl b → Bl b2 → Lx (.ls ds) s → Lx (.ls (d :: ds)) (u ++ (b ++ (44 :: (b2 ++ s))))
  | k1 {k ks : List Nat} {d : PyData} {u b1 b2 b3 : List Nat} : Wt k ks → Bl b1 → Bl b2 → Lx (.v d) u → Bl b3 → Lx (.ks [(k, d)]) (34 :: (ks ++ (34 :: (b1 ++ (58 :: (b2 ++ (u ++ (b3 ++ [125]))))))))
  | kn {k ks : List Nat} {d : PyData} {ps : List (List Nat × PyData)} {u b1 b2 b3 b4 s : List Nat} : Wt k ks → Bl b1 → Bl b2 → Lx (.v d) u → Bl b3 → Bl b4 → Lx (.ks ps) s → Lx (.ks ((k, d) :: ps)) (34 :: (ks ++ (34 :: (b1 ++ (58 :: (b2 ++ (u ++ (b3 ++ (44 :: (b4 ++ s))))))))))
theorem numI_neg {m : Nat} (h : 0 < m) : numI (-(m : Int)) = 45 :: TL.numL m := by
  obtain ⟨k, rfl⟩ : ∃ k, m = k + 1 := ⟨m - 1, by omega⟩
  unfold numI
  rw [PySem.Str.ofString_eq_toList]
  show ("-" ++ Nat.repr (k + 1)).toList.map Char.toNat = _
  rw [String.toList_append, List.map_append, Nat.toList_repr]
  rfl
theorem dg_first (m : Nat) : ∃ c r, TL.numL m = c :: r ∧ 48 ≤ c ∧ c ≤ 57 := by
  cases e2 : TL.numL m with
  | nil => exact absurd e2 (TL.numL_ne m)
  | cons c r =>
    have := TL.numL_digits m c (by rw [e2]; exact List.mem_cons_self)
    exact ⟨c, r, rfl, this⟩
theorem num_first {i : Int} : ∃ c r, numI i = c :: r ∧ isBl c = false ∧ c ≠ 93 ∧ c ≠ 125 := by
  by_cases h : 0 ≤ i
  · obtain ⟨m, rfl⟩ := Int.eq_ofNat_of_zero_le h
    obtain ⟨c, r, e, h1, h2⟩ := dg_first m
    refine ⟨c, r, by rw [numI_nat, e], ?_, by omega, by omega⟩
    unfold isBl
    simp
    omega
  · obtain ⟨m, rfl⟩ : ∃ m : Nat, i = -(m : Int) := ⟨i.natAbs, by omega⟩
    exact ⟨45, _, numI_neg (by omega), rfl, by decide, by decide⟩
/-- a number's text is read -/
theorem rd_numI {t : List Nat} {a : Nat} {i : Int} (hi : i.natAbs < 1000000000000000) (h : Sat t a (numI i)) (he : ∀ c, t[a + (numI i).length]? = some c → isDg c = false) : rdNum t a = .ok (.int i) (a + (numI i).length) ∧ ∃ c, t[a]? = some c ∧ (c = 45 ∨ isDg c = true) := by
  by_cases h0 : 0 ≤ i
  · obtain ⟨m, rfl⟩ := Int.eq_ofNat_of_zero_le h0
    rw [numI_nat] at h he ⊢
    obtain ⟨h1, c, h2, h3⟩ := rd_num (by omega) h he
    exact ⟨h1, c, h2, .inr h3⟩
  · obtain ⟨m, rfl⟩ : ∃ m : Nat, i = -(m : Int) := ⟨i.natAbs, by omega⟩
    have hm : 0 < m := by omega
    rw [numI_neg hm] at h he ⊢
    have hc := h.cons
    have hdg : ∀ c ∈ TL.numL m, isDg c = true := fun c hc => isDg_iff.mpr (TL.numL_digits m c hc)
    have hlen : (TL.numL m).length ≤ 15 := TL.numL_len (by decide) (by omega)
    have hF : numF t a = a + 1 := if_pos hc.1
    have he2 : ∀ c, t[a + 1 + (TL.numL m).length]? = some c → isDg c = false := fun c hx => he c (by
      rw [List.length_cons, ← hx]
      congr 1
      omega)
    obtain ⟨c, r, e, c1, c2⟩ := dg_first m
    have hc1 : t[a + 1]? = some c := by
      have h2 := hc.2
      rw [e] at h2
      exact h2.cons.1
    have hcd : isDg c = true := isDg_iff.mpr ⟨c1, c2⟩
    have hE : numE t (a + 1) = a + 1 + (TL.numL m).length := by
      unfold numE
      obtain ⟨c', r', e', hc'⟩ := num_head m m (Nat.le_refl _) hm
      rw [e] at e'
      cases e'
      rw [if_neg (by rw [hc1]; intro z; cases z; exact hc' rfl), run_at _ t (a + 1) hc.2 hdg he2]
    refine ⟨?_, 45, hc.1, .inl rfl⟩
    unfold rdNum
    rw [hF, hc1]
    show (if isDg c = false then Rs.er (a + 1) else if 15 < numE t (a + 1) - (a + 1) then .er a else .ok (.int (numV t a (numE t (a + 1)))) (numE t (a + 1))) = _
    rw [if_neg (by rw [hcd]; decide), hE, if_neg (by omega)]
    have hl : a + 1 + (TL.numL m).length = a + (45 :: TL.numL m).length := by rw [List.length_cons]; omega
    rw [hl]
    congr 2
    unfold numV
    rw [cut_at h]
    have := intText_neg (x := SX.S (45 :: TL.numL m)) (cs := TL.numL m) (by simp [SX.S]) (TL.numL_digits m) (TL.numL_ne m) (by rw [SX.S_len, List.length_cons]; omega)
    rw [this]
    rw [TL.numL_val]
    rfl
theorem lx_head : ∀ {x : It} {s : List Nat}, Lx x s → ∃ c r, s = c :: r ∧ isBl c = false ∧ c ≠ 93 ∧ c ≠ 125 := by
  intro x s h
  induction h with
  | non => exact ⟨110, _, rfl, rfl, by decide, by decide⟩
  | yes => exact ⟨116, _, rfl, rfl, by decide, by decide⟩
  | no => exact ⟨102, _, rfl, rfl, by decide, by decide⟩
  | int _ => exact num_first
  | str _ => exact ⟨34, _, rfl, rfl, by decide, by decide⟩
  | lnil _ => exact ⟨91, _, rfl, rfl, by decide, by decide⟩
  | lst _ _ _ => exact ⟨91, _, rfl, rfl, by decide, by decide⟩
  | dnil _ => exact ⟨123, _, rfl, rfl, by decide, by decide⟩
  | dct _ _ _ => exact ⟨123, _, rfl, rfl, by decide, by decide⟩
  | l1 _ _ ih => obtain ⟨c, r, rfl, h1, h2, h3⟩ := ih; exact ⟨c, _, rfl, h1, h2, h3⟩
  | ln _ _ _ _ ih _ => obtain ⟨c, r, rfl, h1, h2, h3⟩ := ih; exact ⟨c, _, rfl, h1, h2, h3⟩
  | k1 _ _ _ _ _ _ => exact ⟨34, _, rfl, rfl, by decide, by decide⟩
  | kn _ _ _ _ _ _ _ _ _ => exact ⟨34, _, rfl, rfl, by decide, by decide⟩
theorem dict_inj : ∀ {ps qs : List (List Nat × PyData)}, ps.map (fun p => (PyData.str (SX.S p.1), p.2)) = qs.map (fun p => (PyData.str (SX.S p.1), p.2)) → ps = qs
  | [], [], _ => rfl
  | [], q :: r, h => by cases h
  | p :: ps, [], h => by cases h
  | p :: ps, q :: r, hd => by
    simp only [List.map_cons, List.cons.injEq, Prod.mk.injEq, PyData.str.injEq] at hd
    obtain ⟨⟨h1, h2⟩, h3⟩ := hd
    rw [dict_inj h3]
    obtain ⟨p1, p2⟩ := p
    obtain ⟨q1, q2⟩ := q
    have h1 : p1 = q1 := S_inj2 h1
    have h2 : p2 = q2 := h2
    rw [h1, h2]
theorem sat_blk {t : List Nat} {a : Nat} {b s : List Nat} (h : Sat t a (b ++ s)) : Sat t (a + b.length) s := h.app.2
theorem notdig {t : List Nat} {a c : Nat} {b r : List Nat} (h : Sat t a (b ++ c :: r)) (hb : Bl b) (hc : isDg c = false) : ∀ x, t[a]? = some x → isDg x = false := fun x hx => by
  cases b with
  | nil =>
    rw [(h.cons).1] at hx
    cases hx
    exact hc
  | cons y b =>
    rw [(h.cons).1] at hx
    cases hx
    have := hb _ List.mem_cons_self
    unfold isBl at this
    unfold isDg
    simp at this ⊢
    omega
/-- one pair of a dict, up to the sign behind it -/
theorem dc_step {t : List Nat} {n a c : Nat} {k ks u b0 b1 b2 b3 r : List Nat} {d : PyData} {acc : List (List Nat × PyData)} (w : Wt k ks) (hb0 : Bl b0) (h1 : Bl b1) (h2 : Bl b2) (h3 : Bl b3) (hc : isBl c = false) (hcd : isDg c = false) (hk : k ∉ acc.map (·.1)) (hu : ∃ c r, u = c :: r ∧ isBl c = false ∧ c ≠ 93 ∧ c ≠ 125)
    (hv : ∀ a, Sat t a u → (∀ c, t[a + u.length]? = some c → isDg c = false) → rdV t n a = .ok d (a + u.length)) (h : Sat t a (b0 ++ (34 :: (ks ++ (34 :: (b1 ++ (58 :: (b2 ++ (u ++ (b3 ++ c :: r)))))))))) :
    dcGo t (rdV t n) a acc = (match some c with
      | none => .er (a + b0.length + 1 + ks.length + 1 + b1.length + 1 + b2.length + u.length + b3.length)
      | some c => if c = 125 then .ok (.dict ((acc ++ [(k, d)]).map fun p : List Nat × PyData => (PyData.str (SX.S p.1), p.2))) (a + b0.length + 1 + ks.length + 1 + b1.length + 1 + b2.length + u.length + b3.length + 1) else if c = 44 then
          (if h : a < a + b0.length + 1 + ks.length + 1 + b1.length + 1 + b2.length + u.length + b3.length + 1 ∧ a + b0.length + 1 + ks.length + 1 + b1.length + 1 + b2.length + u.length + b3.length < t.length then dcGo t (rdV t n) (a + b0.length + 1 + ks.length + 1 + b1.length + 1 + b2.length + u.length + b3.length + 1) (acc ++ [(k, d)]) else .er 0) else .er (a + b0.length + 1 + ks.length + 1 + b1.length + 1 + b2.length + u.length + b3.length)) ∧ Sat t (a + b0.length + 1 + ks.length + 1 + b1.length + 1 + b2.length + u.length + b3.length + 1) r ∧ a + b0.length + 1 + ks.length + 1 + b1.length + 1 + b2.length + u.length + b3.length < t.length := by
  have s0 := sk_to h hb0 (c := 34) rfl
  have g0 := (sat_blk h).cons
  have gs : Sat t (a + b0.length + 1) (ks ++ [34]) := by
    have := g0.2
    rw [show ks ++ (34 :: (b1 ++ (58 :: (b2 ++ (u ++ (b3 ++ c :: r)))))) = (ks ++ [34]) ++ (b1 ++ (58 :: (b2 ++ (u ++ (b3 ++ c :: r))))) by simp] at this
    exact this.app.1
  have rs := rd_wt w t (a + b0.length + 1) [] gs
  have g1 := (sat_blk g0.2).cons.2
  have s1 := sk_to g1 h1 (c := 58) rfl
  have g2 := (sat_blk g1).cons
  have g3 := sat_blk g2.2
  have g4 := sat_blk g3
  have s2 : skB t (a + b0.length + 1 + ks.length + 1 + b1.length + 1) = skB t (a + b0.length + 1 + ks.length + 1 + b1.length + 1 + b2.length) := sk_bl g2.2.app.1 h2
  have rv : rdV t n (a + b0.length + 1 + ks.length + 1 + b1.length + 1) = .ok d (a + b0.length + 1 + ks.length + 1 + b1.length + 1 + b2.length + u.length) := by
    rw [rdV_sk s2]
    exact hv _ g3.app.1 (notdig g4 h3 hcd)
  have s3 := sk_to g4 h3 hc
  have g5 := (sat_blk g4).cons
  refine ⟨?_, g5.2, (List.getElem?_eq_some_iff.mp g5.1).1⟩
  rw [dcGo.eq_1, s0, g0.1]
  show (if 34 ≠ 34 then Rs.er _ else match rdStr t (a + b0.length + 1) [] with
    | .er e => .er e
    | .ok k a2 => if k ∈ acc.map (·.1) then .er (a + b0.length) else if t[skB t a2]? ≠ some 58 then .er (skB t a2) else match rdV t n (skB t a2 + 1) with
      | .er e => .er e
      | .ok v a4 => match t[skB t a4]? with
        | none => .er (skB t a4)
        | some c => if c = 125 then .ok (.dict ((acc ++ [(k, v)]).map fun p : List Nat × PyData => (PyData.str (SX.S p.1), p.2))) (skB t a4 + 1) else if c = 44 then
            (if h : a < skB t a4 + 1 ∧ skB t a4 < t.length then dcGo t (rdV t n) (skB t a4 + 1) (acc ++ [(k, v)]) else .er 0) else .er (skB t a4)) = _
  rw [if_neg (by decide), rs]
  show (if ([] ++ k) ∈ acc.map (·.1) then Rs.er (a + b0.length) else if t[skB t (a + b0.length + 1 + ks.length + 1)]? ≠ some 58 then .er (skB t (a + b0.length + 1 + ks.length + 1)) else match rdV t n (skB t (a + b0.length + 1 + ks.length + 1) + 1) with
      | .er e => .er e
      | .ok v a4 => match t[skB t a4]? with
        | none => .er (skB t a4)
        | some c => if c = 125 then .ok (.dict ((acc ++ [([] ++ k, v)]).map fun p : List Nat × PyData => (PyData.str (SX.S p.1), p.2))) (skB t a4 + 1) else if c = 44 then
            (if h : a < skB t a4 + 1 ∧ skB t a4 < t.length then dcGo t (rdV t n) (skB t a4 + 1) (acc ++ [([] ++ k, v)]) else .er 0) else .er (skB t a4)) = _
  rw [List.nil_append, if_neg hk, s1, if_neg (by rw [g2.1]; simp), rv]
  show (match t[skB t (a + b0.length + 1 + ks.length + 1 + b1.length + 1 + b2.length + u.length)]? with
        | none => Rs.er (skB t (a + b0.length + 1 + ks.length + 1 + b1.length + 1 + b2.length + u.length))
        | some c => if c = 125 then .ok (.dict ((acc ++ [(k, d)]).map fun p : List Nat × PyData => (PyData.str (SX.S p.1), p.2))) (skB t (a + b0.length + 1 + ks.length + 1 + b1.length + 1 + b2.length + u.length) + 1) else if c = 44 then
            (if h : a < skB t (a + b0.length + 1 + ks.length + 1 + b1.length + 1 + b2.length + u.length) + 1 ∧ skB t (a + b0.length + 1 + ks.length + 1 + b1.length + 1 + b2.length + u.length) < t.length then dcGo t (rdV t n) (skB t (a + b0.length + 1 + ks.length + 1 + b1.length + 1 + b2.length + u.length) + 1) (acc ++ [(k, d)]) else .er 0) else .er (skB t (a + b0.length + 1 + ks.length + 1 + b1.length + 1 + b2.length + u.length))) = _
  rw [s3, g5.1]
/-- what the reading of such a text gives -/
def RdOf (x : It) (s : List Nat) : Prop := match x with
  | .v d => ∀ (n : Nat) (t : List Nat) (a : Nat), Jd n d → Sat t a s → (∀ c, t[a + s.length]? = some c → isDg c = false) → rdV t n a = .ok d (a + s.length)
  | .ls ds => ∀ (n : Nat) (t : List Nat) (a : Nat) (b : List Nat) (acc : List PyData), (∀ d ∈ ds, Jd n d) → Bl b → Sat t a (b ++ s) → lsGo t (rdV t n) a acc = .ok (.list (acc ++ ds)) (a + b.length + s.length)
  | .ks ps => ∀ (n : Nat) (t : List Nat) (a : Nat) (b : List Nat) (acc : List (List Nat × PyData)), (∀ p ∈ ps, Jd n p.2) → ((acc ++ ps).map (·.1)).Nodup → Bl b → Sat t a (b ++ s) → dcGo t (rdV t n) a acc = .ok (.dict ((acc ++ ps).map fun p : List Nat × PyData => (PyData.str (SX.S p.1), p.2))) (a + b.length + s.length)
theorem rd_lx : ∀ {x : It} {s : List Nat}, Lx x s → RdOf x s := by
  intro x s h
  induction h with
  | non =>
    intro n t a hJ h he
    have hs := sk_at h rfl
    rw [rdV_eq]
    unfold rdA
    rw [hs, h.cons.1]
    exact word_at wNull t a .none h
  | yes =>
    intro n t a hJ h he
    have hs := sk_at h rfl
    rw [rdV_eq]
    unfold rdA
    rw [hs, h.cons.1]
    exact word_at wTrue t a (.bool true) h
  | no =>
    intro n t a hJ h he
    have hs := sk_at h rfl
    rw [rdV_eq]
    unfold rdA
    rw [hs, h.cons.1]
    exact word_at wFalse t a (.bool false) h
  | @int i hi =>
    intro n t a hJ h he
    obtain ⟨hr, c, hc, hd⟩ := rd_numI hi h he
    have hs : skB t a = a := skB_stop (fun x hx => by
      rw [hc] at hx
      cases hx
      rcases hd with rfl | hd
      · rfl
      · have := isDg_iff.mp hd
        unfold isBl
        simp
        omega)
    rw [rdV_eq]
    unfold rdA
    rw [hs, hc]
    show rdC t (upN t n) a c = _
    have hne : c ≠ 91 ∧ c ≠ 123 ∧ c ≠ 34 := by
      rcases hd with rfl | hd
      · decide
      · have := isDg_iff.mp hd
        omega
    unfold rdC
    rw [if_neg hne.1, if_neg hne.2.1, if_neg hne.2.2, if_pos hd]
    exact hr
  | @str l s w =>
    intro n t a hJ h he
    have hs := sk_at h rfl
    rw [rdV_eq]
    unfold rdA
    rw [hs, h.cons.1]
    show stR t a = _
    unfold stR
    rw [rd_wt w t (a + 1) [] h.cons.2]
    show Rs.ok (.str (SX.S ([] ++ l))) (a + 1 + s.length + 1) = _
    rw [List.nil_append]
    congr 1
    simp
    omega
  | @lnil b hb =>
    intro n t a hJ h he
    cases n with
    | zero => cases hJ
    | succ n =>
    have hs := sk_at h rfl
    have h2 := sk_to h.cons.2 hb (c := 93) (r := []) rfl
    show rdA t (some (rdV t n)) a = _
    unfold rdA
    rw [hs, h.cons.1]
    show lsR t (rdV t n) a = _
    unfold lsR
    have h3 := (sat_blk h.cons.2).cons.1
    rw [h2, if_pos h3]
    congr 1
    simp
    omega
  | @lst ds b s hb hl ih =>
    intro n t a hJ h he
    cases hJ with
    | @lst n _ hj hlen =>
    have hs := sk_at h rfl
    obtain ⟨c, r, e, hc, h93, _⟩ := lx_head hl
    have h2 : skB t (a + 1) = a + 1 + b.length := by
      have := h.cons.2
      rw [e] at this
      exact sk_to this hb hc
    have h3 := sat_blk h.cons.2
    show rdA t (some (rdV t n)) a = _
    unfold rdA
    rw [hs, h.cons.1]
    show lsR t (rdV t n) a = _
    unfold lsR
    rw [h2, if_neg (by
      rw [e] at h3
      rw [h3.cons.1]
      intro z
      cases z
      exact h93 rfl), ih n t _ [] [] hj Bl.nil h3]
    rw [List.nil_append]
    congr 1
    simp
    omega
  | @dnil b hb =>
    intro n t a hJ h he
    cases n with
    | zero => cases hJ
    | succ n =>
    have hs := sk_at h rfl
    have h2 := sk_to h.cons.2 hb (c := 125) (r := []) rfl
    show rdA t (some (rdV t n)) a = _
    unfold rdA
    rw [hs, h.cons.1]
    show dcR t (rdV t n) a = _
    unfold dcR
    have h3 := (sat_blk h.cons.2).cons.1
    rw [h2, if_pos h3]
    congr 1
    simp
    omega
  | @dct ps b s hb hl ih =>
    intro n t a hJ h he
    have hJ2 : ∃ m, n = m + 1 ∧ (∀ p ∈ ps, Jd m p.2) ∧ (ps.map (·.1)).Nodup := by
      generalize hd : PyData.dict (ps.map fun p => (PyData.str (SX.S p.1), p.2)) = d at hJ
      cases hJ with
      | non => cases hd
      | bl => cases hd
      | int => cases hd
      | str => cases hd
      | lst => cases hd
      | @dct m qs hj hk hn hl =>
        have e : ps = qs := dict_inj (PyData.dict.inj hd)
        subst e
        exact ⟨m, rfl, hj, hn⟩
    obtain ⟨m, rfl, hj, hnd⟩ := hJ2
    have hs := sk_at h rfl
    obtain ⟨c, r, e, hc, _, h125⟩ := lx_head hl
    have h2 : skB t (a + 1) = a + 1 + b.length := by
      have := h.cons.2
      rw [e] at this
      exact sk_to this hb hc
    have h3 := sat_blk h.cons.2
    show rdA t (some (rdV t m)) a = _
    unfold rdA
    rw [hs, h.cons.1]
    show dcR t (rdV t m) a = _
    unfold dcR
    rw [h2, if_neg (by
      rw [e] at h3
      rw [h3.cons.1]
      intro z
      cases z
      exact h125 rfl), ih m t _ [] [] hj hnd Bl.nil h3]
    rw [List.nil_append]
    congr 1
    simp
    omega
  | @l1 d u b hl hb ih =>
    intro n t a b0 acc hj hb0 h
    have hj := hj d List.mem_cons_self
    obtain ⟨c, r, e, hc, _, _⟩ := lx_head hl
    have hsk : skB t a = skB t (a + b0.length) := sk_bl h.app.1 hb0
    have h1 := sat_blk h
    have h2 := sat_blk h1
    have hv : rdV t n a = .ok d (a + b0.length + u.length) := by
      rw [rdV_sk hsk]
      exact ih n t _ hj h1.app.1 (notdig (r := []) h2 hb rfl)
    have hk := sk_to (r := []) h2 hb rfl
    rw [lsGo.eq_1, hv]
    show (match t[skB t (a + b0.length + u.length)]? with
      | none => Rs.er (skB t (a + b0.length + u.length))
      | some c => if c = 93 then .ok (.list (acc ++ [d])) (skB t (a + b0.length + u.length) + 1) else if c = 44 then
        (if h : a < skB t (a + b0.length + u.length) + 1 ∧ skB t (a + b0.length + u.length) < t.length then lsGo t (rdV t n) (skB t (a + b0.length + u.length) + 1) (acc ++ [d]) else .er 0) else .er (skB t (a + b0.length + u.length))) = _
    rw [hk, (sat_blk h2).cons.1]
    show Rs.ok (.list (acc ++ [d])) _ = _
    congr 1
    simp
    omega
  | @ln d ds u b b2 s hl hb hb2 hls ih ih2 =>
    intro n t a b0 acc hj hb0 h
    have hjd := hj d List.mem_cons_self
    obtain ⟨c, r, e, hc, _, _⟩ := lx_head hl
    have hsk : skB t a = skB t (a + b0.length) := sk_bl h.app.1 hb0
    have h1 := sat_blk h
    have h2 := sat_blk h1
    have hv : rdV t n a = .ok d (a + b0.length + u.length) := by
      rw [rdV_sk hsk]
      exact ih n t _ hjd h1.app.1 (notdig h2 hb rfl)
    have hk := sk_to h2 hb rfl
    have h44 := (sat_blk h2).cons
    have hlt := (List.getElem?_eq_some_iff.mp h44.1).1
    rw [lsGo.eq_1, hv]
    show (match t[skB t (a + b0.length + u.length)]? with
      | none => Rs.er (skB t (a + b0.length + u.length))
      | some c => if c = 93 then .ok (.list (acc ++ [d])) (skB t (a + b0.length + u.length) + 1) else if c = 44 then
        (if h : a < skB t (a + b0.length + u.length) + 1 ∧ skB t (a + b0.length + u.length) < t.length then lsGo t (rdV t n) (skB t (a + b0.length + u.length) + 1) (acc ++ [d]) else .er 0) else .er (skB t (a + b0.length + u.length))) = _
    rw [hk, h44.1]
    show (if h : a < a + b0.length + u.length + b.length + 1 ∧ a + b0.length + u.length + b.length < t.length then lsGo t (rdV t n) (a + b0.length + u.length + b.length + 1) (acc ++ [d]) else .er 0) = _
    rw [dif_pos ⟨by omega, hlt⟩, ih2 n t _ b2 (acc ++ [d]) (fun x hx => hj x (List.mem_cons_of_mem _ hx)) hb2 h44.2, List.append_assoc]
    congr 1
    simp
    omega
  | @k1 k ks d u b1 b2 b3 w h1 h2 hl h3 ih =>
    intro n t a b0 acc hj hnd hb0 h
    have hk : k ∉ acc.map (·.1) := fun hm => by
      rw [List.map_append, List.nodup_append] at hnd
      exact hnd.2.2 k hm k (by simp) rfl
    have st := (dc_step (c := 125) (r := []) w hb0 h1 h2 h3 rfl rfl hk (lx_head hl) (fun a sa he => ih n t a (hj _ List.mem_cons_self) sa he) h).1
    rw [st]
    show Rs.ok _ _ = _
    congr 1
    simp
    omega
  | @kn k ks d ps u b1 b2 b3 b4 s w h1 h2 hl h3 h4 hls ih ih2 =>
    intro n t a b0 acc hj hnd hb0 h
    have hk : k ∉ acc.map (·.1) := fun hm => by
      rw [List.map_append, List.nodup_append] at hnd
      exact hnd.2.2 k hm k (by simp) rfl
    obtain ⟨st, g, hlt⟩ := dc_step (c := 44) (r := b4 ++ s) w hb0 h1 h2 h3 rfl rfl hk (lx_head hl) (fun a sa he => ih n t a (hj _ List.mem_cons_self) sa he) h
    rw [st]
    show (if h : _ then dcGo t (rdV t n) _ (acc ++ [(k, d)]) else Rs.er 0) = _
    rw [dif_pos ⟨by omega, hlt⟩, ih2 n t _ b4 (acc ++ [(k, d)]) (fun x hx => hj x (List.mem_cons_of_mem _ hx)) (by rw [List.append_assoc]; exact hnd) h4 g, List.append_assoc]
    congr 1
    simp
    omega
/-! ### the text as it is written -/
mutual
def wX : PyData → List Nat
  | .none => wNull
  | .bool b => if b = true then wTrue else wFalse
  | .int n => numI n
  | .str z => qS z.cps.toList
  | .list ds => 91 :: (TL.joinL [44] (wXA ds) ++ [93])
  | .dict ps => 123 :: (TL.joinL [44] (wXK ps) ++ [125])
  | .tuple _ => []
def wXA : List PyData → List (List Nat)
  | [] => []
  | d :: r => wX d :: wXA r
def wXK : List (PyData × PyData) → List (List Nat)
  | [] => []
  | (k, d) :: r => (wX k ++ (58 :: wX d)) :: wXK r
end
theorem wXA_map : ∀ ds : List PyData, wXA ds = ds.map wX
  | [] => rfl
  | d :: r => congrArg (wX d :: ·) (wXA_map r)
theorem wX_str {l : List Nat} : wX (.str (SX.S l)) = qS l := by
  show qS (SX.S l).cps.toList = qS l
  have : (SX.S l).cps.toList = l := by simp [SX.S]
  rw [this]
def wP (p : List Nat × PyData) : List Nat := qS p.1 ++ (58 :: wX p.2)
theorem wXK_map : ∀ ps : List (List Nat × PyData), wXK (ps.map fun p => (PyData.str (SX.S p.1), p.2)) = ps.map wP
  | [] => rfl
  | p :: r => by
    show (wX (.str (SX.S p.1)) ++ (58 :: wX p.2)) :: wXK (r.map fun p => (PyData.str (SX.S p.1), p.2)) = _
    rw [wXK_map r, wX_str]
    rfl
/-- small data -/
inductive Js : Nat → PyData → Prop where
  | non {n : Nat} : Js n .none
  | bl {n : Nat} (b : Bool) : Js n (.bool b)
  | int {n : Nat} {i : Int} : i.natAbs < 1000000000000000 → Js n (.int i)
  | str {n : Nat} {l : List Nat} : l.all cdB = true → l.length ≤ 4 → Js n (.str (SX.S l))
  | lst {n : Nat} {ds : List PyData} : (∀ d ∈ ds, Js n d) → ds.length ≤ 3 → Js (n + 1) (.list ds)
  | dct {n : Nat} {ps : List (List Nat × PyData)} : (∀ p ∈ ps, Js n p.2) → (∀ p ∈ ps, p.1.all cdB = true ∧ p.1.length ≤ 4) → (ps.map (·.1)).Nodup → ps.length ≤ 3 → Js (n + 1) (.dict (ps.map fun p => (.str (SX.S p.1), p.2)))
theorem cd_128 {l : List Nat} (h : l.all cdB = true) : ∀ c ∈ l, c < 128 := fun c hc => by
  have := List.all_eq_true.mp h c hc
  unfold cdB at this
  simp at this
  omega
theorem Js.jd {n : Nat} {d : PyData} (h : Js n d) : Jd n d := by
  induction h with
  | non => exact .non
  | bl b => exact .bl b
  | int _ => exact .int _
  | str h _ => exact .str (cd_128 h)
  | lst _ hl ih => exact .lst ih (by omega)
  | dct _ hk hn hl ih => exact .dct ih (fun p hp => cd_128 (hk p hp).1) hn (by omega)
/-! ### loosened -/
def brk : List Nat := [91, 93, 123, 125, 58, 44]
def nxI (i e : Bool) (c : Nat) : Bool := if c = 34 ∧ e = false then !i else i
def nxE (i e : Bool) (c : Nat) : Bool := nxI i e c && decide (c = 92) && !e
def StpL (i e : Bool) (c : Nat) (o : List Nat) : Prop := (i = false ∧ c ∈ brk ∧ ∃ b1 b2, Bl b1 ∧ Bl b2 ∧ o = b1 ++ (c :: b2)) ∨ (i = true ∧ e = false ∧ c ≠ 34 ∧ c ≠ 92 ∧ ∃ h1 h2 d1 d2, o = [92, 117, 48, 48, h1, h2] ∧ digN h1 16 = some d1 ∧ digN h2 16 = some d2 ∧ 16 * d1 + d2 = c)
  ∨ (i = true ∧ e = false ∧ c = 47 ∧ o = [92, 47]) ∨ (o = [c] ∧ ¬ (i = false ∧ c ∈ brk))
def Lz : List Nat → Bool → Bool → List Nat → Bool → Bool → Prop
  | [], i, e, o, i', e' => o = [] ∧ i' = i ∧ e' = e
  | c :: l, i, e, o, i', e' => ∃ o1 o2, StpL i e c o1 ∧ Lz l (nxI i e c) (nxE i e c) o2 i' e' ∧ o = o1 ++ o2
theorem Lz.app : ∀ {l m : List Nat} {i e : Bool} {o : List Nat} {i' e' : Bool}, Lz (l ++ m) i e o i' e' → ∃ o1 o2 i2 e2, Lz l i e o1 i2 e2 ∧ Lz m i2 e2 o2 i' e' ∧ o = o1 ++ o2
  | [], m, i, e, o, i', e', h => ⟨[], o, i, e, ⟨rfl, rfl, rfl⟩, h, rfl⟩
  | c :: l, m, i, e, o, i', e', h => by
    obtain ⟨o1, o2, h1, h2, rfl⟩ := h
    obtain ⟨p1, p2, i2, e2, g1, g2, rfl⟩ := Lz.app (l := l) h2
    exact ⟨o1 ++ p1, p2, i2, e2, ⟨o1, p1, h1, g1, rfl⟩, g2, by rw [List.append_assoc]⟩
theorem Lz.self : ∀ (l : List Nat) (i e : Bool), ∃ i' e', Lz l i e l i' e'
  | [], i, e => ⟨i, e, rfl, rfl, rfl⟩
  | c :: l, i, e => by
    obtain ⟨i', e', h⟩ := Lz.self l (nxI i e c) (nxE i e c)
    refine ⟨i', e', [c], l, ?_, h, rfl⟩
    by_cases hb : i = false ∧ c ∈ brk
    · exact .inl ⟨hb.1, hb.2, [], [], Bl.nil, Bl.nil, rfl⟩
    · exact .inr (.inr (.inr ⟨rfl, hb⟩))
theorem Lz.snoc : ∀ {l : List Nat} {i e : Bool} {o : List Nat} {i' e' : Bool} {c : Nat} {o2 : List Nat}, Lz l i e o i' e' → StpL i' e' c o2 → Lz (l ++ [c]) i e (o ++ o2) (nxI i' e' c) (nxE i' e' c)
  | [], i, e, o, i', e', c, o2, h, hs => by
    obtain ⟨rfl, rfl, rfl⟩ := h
    exact ⟨o2, [], hs, ⟨rfl, rfl, rfl⟩, by simp⟩
  | x :: l, i, e, o, i', e', c, o2, h, hs => by
    obtain ⟨o1, o3, h1, h2, rfl⟩ := h
    exact ⟨o1, o3 ++ o2, h1, Lz.snoc h2 hs, by rw [List.append_assoc]⟩
theorem stp_len {i e : Bool} {c : Nat} {o : List Nat} (h : StpL i e c o) (hb : ∀ b1 b2 : List Nat, o = b1 ++ (c :: b2) → Bl b1 → Bl b2 → b1.length ≤ 2 ∧ b2.length ≤ 2) : o.length ≤ 6 := by
  rcases h with ⟨_, _, b1, b2, g1, g2, rfl⟩ | ⟨_, _, _, _, _, _, _, _, rfl, _⟩ | ⟨_, _, _, rfl⟩ | ⟨rfl, _⟩
  · have := hb b1 b2 rfl g1 g2
    rw [List.length_append, List.length_cons]
    omega
  all_goals simp
/-- signs outside that are no brackets -/
theorem lz_plain : ∀ {l : List Nat} {o : List Nat} {i' e' : Bool}, (∀ c ∈ l, c ≠ 34 ∧ c ∉ brk) → Lz l false false o i' e' → o = l ∧ i' = false ∧ e' = false
  | [], o, i', e', _, h => h
  | c :: l, o, i', e', hl, h => by
    obtain ⟨o1, o2, h1, h2, rfl⟩ := h
    have hc := hl c List.mem_cons_self
    have e1 : nxI false false c = false := if_neg (fun z => hc.1 z.1)
    have e2 : nxE false false c = false := by
      unfold nxE
      rw [e1]
      rfl
    rw [e1, e2] at h2
    obtain ⟨rfl, rfl, rfl⟩ := lz_plain (fun x hx => hl x (List.mem_cons_of_mem _ hx)) h2
    rcases h1 with ⟨_, hb, _⟩ | ⟨z, _⟩ | ⟨z, _⟩ | ⟨rfl, _⟩
    · exact absurd hb hc.2
    · cases z
    · cases z
    · exact ⟨rfl, rfl, rfl⟩
theorem stp_brk {c : Nat} {o : List Nat} (hc : c ∈ brk) (h : StpL false false c o) : ∃ b1 b2, Bl b1 ∧ Bl b2 ∧ o = b1 ++ (c :: b2) := by
  rcases h with ⟨_, _, h⟩ | ⟨z, _⟩ | ⟨z, _⟩ | ⟨_, z⟩
  · exact h
  · cases z
  · cases z
  · exact absurd ⟨rfl, hc⟩ z
theorem nx_brk {c : Nat} (hc : c ∈ brk) : nxI false false c = false ∧ nxE false false c = false := by
  have hne : c ≠ 34 := by
    intro z
    subst z
    exact absurd hc (by decide)
  have e1 : nxI false false c = false := if_neg (fun z => hne z.1)
  exact ⟨e1, by unfold nxE; rw [e1]; rfl⟩
theorem ne_brk {c : Nat} (hc : c ∈ brk) : c ≠ 34 := by
  intro z
  subst z
  exact absurd hc (by decide)
/-- the signs of a string, within -/
theorem lz_in : ∀ {cs o : List Nat} {i' e' : Bool}, cs.all cdB = true → Lz (cs.flatMap eC) true false o i' e' → i' = true ∧ e' = false ∧ Wt cs o
  | [], o, i', e', _, h => by
    obtain ⟨rfl, rfl, rfl⟩ := h
    exact ⟨rfl, rfl, .nil⟩
  | c :: cs, o, i', e', hc, h => by
    rw [List.all_cons, Bool.and_eq_true] at hc
    rw [List.flatMap_cons] at h
    obtain ⟨o1, o2, i2, e2, h1, h2, rfl⟩ := h.app
    have esc : ∀ x, eC c = [92, x] → escC x = some c → i2 = true ∧ e2 = false ∧ Ws c o1 := by
      intro x he hx
      rw [he] at h1
      obtain ⟨p1, p2, s1, s2, rfl⟩ := h1
      obtain ⟨q1, q2, s3, s4, rfl⟩ := s2
      obtain ⟨rfl, rfl, rfl⟩ := s4
      have e1 : nxI true false 92 = true := rfl
      have e2 : nxE true false 92 = true := rfl
      rw [e1, e2] at s3
      have hp : p1 = [92] := by
        rcases s1 with ⟨z, _⟩ | ⟨_, _, _, z, _⟩ | ⟨_, _, z, _⟩ | ⟨z, _⟩
        · cases z
        · exact absurd rfl z
        · cases z
        · exact z
      have hq : q1 = [x] := by
        rcases s3 with ⟨z, _⟩ | ⟨_, z, _⟩ | ⟨_, z, _⟩ | ⟨z, _⟩
        · cases z
        · cases z
        · cases z
        · exact z
      subst hp hq
      have e3 : nxI true true x = true := if_neg (fun z => by cases z.2)
      refine ⟨by rw [e1, e2, e3], ?_, .esc hx⟩
      show nxE (nxI true false 92) (nxE true false 92) x = false
      rw [e1, e2]
      unfold nxE
      simp
    have key : i2 = true ∧ e2 = false ∧ Ws c o1 := by
      by_cases h34 : c = 34
      · exact esc 34 (by unfold eC; rw [if_pos h34]) (by rw [h34]; rfl)
      by_cases h92 : c = 92
      · exact esc 92 (by unfold eC; rw [if_neg h34, if_pos h92]) (by rw [h92]; rfl)
      by_cases h10 : c = 10
      · exact esc 110 (by unfold eC; rw [if_neg h34, if_neg h92, if_pos h10]) (by rw [h10]; rfl)
      by_cases h9 : c = 9
      · exact esc 116 (by unfold eC; rw [if_neg h34, if_neg h92, if_neg h10, if_pos h9]) (by rw [h9]; rfl)
      have he : eC c = [c] := by unfold eC; rw [if_neg h34, if_neg h92, if_neg h10, if_neg h9]
      rw [he] at h1
      obtain ⟨p1, p2, s1, s2, rfl⟩ := h1
      obtain ⟨rfl, rfl, rfl⟩ := s2
      have e1 : nxI true false c = true := if_neg (fun z => h34 z.1)
      refine ⟨e1, ?_, ?_⟩
      · unfold nxE
        rw [decide_eq_false h92]
        simp
      · rw [List.append_nil]
        rcases s1 with ⟨z, _⟩ | ⟨_, _, _, _, x1, x2, d1, d2, rfl, g1, g2, g3⟩ | ⟨_, _, rfl, rfl⟩ | ⟨rfl, _⟩
        · cases z
        · exact .code g1 g2 g3 hc.1
        · exact .esc rfl
        · exact .self h34 h92 h10 h9 hc.1
    obtain ⟨rfl, rfl, w⟩ := key
    obtain ⟨k1, k2, k3⟩ := lz_in hc.2 h2
    exact ⟨k1, k2, .cons w k3⟩
theorem lz_str {cs o : List Nat} {i' e' : Bool} (hc : cs.all cdB = true) (h : Lz (qS cs) false false o i' e') : i' = false ∧ e' = false ∧ ∃ s, o = 34 :: (s ++ [34]) ∧ Wt cs s := by
  obtain ⟨o1, o2, h1, h2, rfl⟩ := h
  have q : ∀ {i : Bool} {o : List Nat}, StpL i false 34 o → o = [34] := fun {i o} h => by
    rcases h with ⟨_, z, _⟩ | ⟨_, _, z, _⟩ | ⟨_, _, z, _⟩ | ⟨z, _⟩
    · exact absurd z (by decide)
    · exact absurd rfl z
    · cases z
    · exact z
  have e1 := q h1
  subst e1
  obtain ⟨o3, o4, i2, e2, h3, h4, rfl⟩ := Lz.app h2
  have h3 : Lz (cs.flatMap eC) true false o3 i2 e2 := h3
  obtain ⟨rfl, rfl, w⟩ := lz_in hc h3
  obtain ⟨p1, p2, s1, s2, rfl⟩ := h4
  obtain ⟨rfl, rfl, rfl⟩ := s2
  have e1 := q s1
  subst e1
  exact ⟨rfl, rfl, o3, by simp, w⟩
theorem numI_plain {i : Int} : ∀ c ∈ numI i, c ≠ 34 ∧ c ∉ brk := by
  have hd : ∀ (m : Nat), ∀ c ∈ TL.numL m, c ≠ 34 ∧ c ∉ brk := fun m c hc => by
    have := TL.numL_digits m c hc
    refine ⟨by omega, fun z => ?_⟩
    simp [brk] at z
    omega
  by_cases h : 0 ≤ i
  · obtain ⟨m, rfl⟩ := Int.eq_ofNat_of_zero_le h
    rw [numI_nat]
    exact hd m
  · obtain ⟨m, rfl⟩ : ∃ m : Nat, i = -(m : Int) := ⟨i.natAbs, by omega⟩
    rw [numI_neg (by omega)]
    intro c hc
    rcases List.mem_cons.mp hc with rfl | hc
    · decide
    · exact hd m c hc
/-- what is loosened is such a text -/
def LzOk (d : PyData) : Prop := ∀ o i' e', Lz (wX d) false false o i' e' → i' = false ∧ e' = false ∧ ∃ b1 u b2, o = b1 ++ (u ++ b2) ∧ Bl b1 ∧ Bl b2 ∧ Lx (.v d) u
theorem lz_ls : ∀ {ds : List PyData}, ds ≠ [] → (∀ d ∈ ds, LzOk d) → ∀ o i' e', Lz (TL.joinL [44] (wXA ds) ++ [93]) false false o i' e' → i' = false ∧ e' = false ∧ ∃ b1 s b2, o = b1 ++ (s ++ b2) ∧ Bl b1 ∧ Bl b2 ∧ Lx (.ls ds) s
  | [], h, _, _, _, _, _ => absurd rfl h
  | [d], _, hd, o, i', e', h => by
    have h : Lz (wX d ++ [93]) false false o i' e' := h
    obtain ⟨o1, o2, i2, e2, h1, h2, rfl⟩ := h.app
    obtain ⟨rfl, rfl, b1, u, b2, rfl, g1, g2, g3⟩ := hd d List.mem_cons_self _ _ _ h1
    obtain ⟨p1, p2, s1, s2, rfl⟩ := h2
    obtain ⟨rfl, rfl, rfl⟩ := s2
    obtain ⟨c1, c2, k1, k2, rfl⟩ := stp_brk (by decide) s1
    exact ⟨rfl, rfl, b1, _, c2, by simp, g1, k2, .l1 g3 (g2.app k1)⟩
  | d :: d2 :: r, _, hd, o, i', e', h => by
    have e0 : TL.joinL [44] (wXA (d :: d2 :: r)) ++ [93] = wX d ++ (44 :: (TL.joinL [44] (wXA (d2 :: r)) ++ [93])) := by
      show (wX d ++ ([44] ++ TL.joinL [44] (wXA (d2 :: r)))) ++ [93] = _
      simp
    rw [e0] at h
    obtain ⟨o1, o2, i2, e2, h1, h2, rfl⟩ := h.app
    obtain ⟨rfl, rfl, b1, u, b2, rfl, g1, g2, g3⟩ := hd d List.mem_cons_self _ _ _ h1
    obtain ⟨p1, p2, s1, s2, rfl⟩ := h2
    obtain ⟨c1, c2, k1, k2, rfl⟩ := stp_brk (by decide) s1
    have hn := nx_brk (c := 44) (by decide)
    rw [hn.1, hn.2] at s2
    obtain ⟨rfl, rfl, x1, s, x2, rfl, y1, y2, y3⟩ := lz_ls (ds := d2 :: r) (by simp) (fun x hx => hd x (List.mem_cons_of_mem _ hx)) _ _ _ s2
    exact ⟨rfl, rfl, b1, _, x2, by simp, g1, y2, .ln g3 (g2.app k1) (k2.app y1) y3⟩
theorem lz_ks : ∀ {ps : List (List Nat × PyData)}, ps ≠ [] → (∀ p ∈ ps, LzOk p.2) → (∀ p ∈ ps, p.1.all cdB = true) → ∀ o i' e', Lz (TL.joinL [44] (ps.map wP) ++ [125]) false false o i' e' → i' = false ∧ e' = false ∧ ∃ b1 s b2, o = b1 ++ (s ++ b2) ∧ Bl b1 ∧ Bl b2 ∧ Lx (.ks ps) s := by
  have pair : ∀ (p : List Nat × PyData), LzOk p.2 → p.1.all cdB = true → ∀ o i' e', Lz (wP p) false false o i' e' → i' = false ∧ e' = false ∧ ∃ ks c1 c2 u b2, o = 34 :: (ks ++ (34 :: (c1 ++ (58 :: (c2 ++ (u ++ b2)))))) ∧ Wt p.1 ks ∧ Bl c1 ∧ Bl c2 ∧ Lx (.v p.2) u ∧ Bl b2 := by
    intro p hd hk o i' e' h
    obtain ⟨o1, o2, i2, e2, h1, h2, rfl⟩ := Lz.app (l := qS p.1) h
    obtain ⟨rfl, rfl, ks, rfl, w⟩ := lz_str hk h1
    obtain ⟨p1, p2, s1, s2, rfl⟩ := h2
    obtain ⟨c1, c2, k1, k2, rfl⟩ := stp_brk (by decide) s1
    have hn := nx_brk (c := 58) (by decide)
    rw [hn.1, hn.2] at s2
    obtain ⟨rfl, rfl, b1, u, b2, rfl, g1, g2, g3⟩ := hd _ _ _ s2
    exact ⟨rfl, rfl, ks, c1, c2 ++ b1, u, b2, by simp, w, k1, k2.app g1, g3, g2⟩
  intro ps
  induction ps with
  | nil => intro h; exact absurd rfl h
  | cons p r ih =>
    intro _ hd hk o i' e' h
    cases r with
    | nil =>
      have h : Lz (wP p ++ [125]) false false o i' e' := h
      obtain ⟨o1, o2, i2, e2, h1, h2, rfl⟩ := h.app
      obtain ⟨rfl, rfl, ks, c1, c2, u, b2, rfl, w, k1, k2, g3, g2⟩ := pair p (hd p List.mem_cons_self) (hk p List.mem_cons_self) _ _ _ h1
      obtain ⟨p1, p2, s1, s2, rfl⟩ := h2
      obtain ⟨rfl, rfl, rfl⟩ := s2
      obtain ⟨x1, x2, y1, y2, rfl⟩ := stp_brk (by decide) s1
      exact ⟨rfl, rfl, [], _, x2, by simp, Bl.nil, y2, .k1 (k := p.1) (d := p.2) w k1 k2 g3 (g2.app y1)⟩
    | cons p2 r =>
      have e0 : TL.joinL [44] ((p :: p2 :: r).map wP) ++ [125] = wP p ++ (44 :: (TL.joinL [44] ((p2 :: r).map wP) ++ [125])) := by
        show (wP p ++ ([44] ++ TL.joinL [44] ((p2 :: r).map wP))) ++ [125] = _
        simp
      rw [e0] at h
      obtain ⟨o1, o2, i2, e2, h1, h2, rfl⟩ := h.app
      obtain ⟨rfl, rfl, ks, c1, c2, u, b2, rfl, w, k1, k2, g3, g2⟩ := pair p (hd p List.mem_cons_self) (hk p List.mem_cons_self) _ _ _ h1
      obtain ⟨p1, p3, s1, s2, rfl⟩ := h2
      obtain ⟨x1, x2, y1, y2, rfl⟩ := stp_brk (by decide) s1
      have hn := nx_brk (c := 44) (by decide)
      rw [hn.1, hn.2] at s2
      obtain ⟨rfl, rfl, z1, s, z2, rfl, w1, w2, w3⟩ := ih (by simp) (fun x hx => hd x (List.mem_cons_of_mem _ hx)) (fun x hx => hk x (List.mem_cons_of_mem _ hx)) _ _ _ s2
      exact ⟨rfl, rfl, [], _, z2, by simp, Bl.nil, w2, .kn (k := p.1) (d := p.2) w k1 k2 g3 (g2.app y1) (y2.app w1) w3⟩
theorem lz_ok {n : Nat} {d : PyData} (h : Js n d) : LzOk d := by
  induction h with
  | non =>
    intro o i' e' h
    obtain ⟨rfl, rfl, rfl⟩ := lz_plain (l := wNull) (by decide) h
    exact ⟨rfl, rfl, [], _, [], by simp [wX], Bl.nil, Bl.nil, .non⟩
  | bl b =>
    intro o i' e' h
    cases b with
    | true =>
      obtain ⟨rfl, rfl, rfl⟩ := lz_plain (l := wTrue) (by decide) h
      exact ⟨rfl, rfl, [], _, [], by simp [wX], Bl.nil, Bl.nil, .yes⟩
    | false =>
      obtain ⟨rfl, rfl, rfl⟩ := lz_plain (l := wFalse) (by decide) h
      exact ⟨rfl, rfl, [], _, [], by simp [wX], Bl.nil, Bl.nil, .no⟩
  | @int n i hi =>
    intro o i' e' h
    obtain ⟨rfl, rfl, rfl⟩ := lz_plain (l := numI i) numI_plain h
    exact ⟨rfl, rfl, [], numI i, [], by simp [wX], Bl.nil, Bl.nil, .int hi⟩
  | @str n l hl _ =>
    intro o i' e' h
    rw [wX_str] at h
    obtain ⟨rfl, rfl, s, rfl, w⟩ := lz_str hl h
    exact ⟨rfl, rfl, [], _, [], by simp, Bl.nil, Bl.nil, .str w⟩
  | @lst n ds _ _ ih =>
    intro o i' e' h
    obtain ⟨p1, p2, s1, s2, rfl⟩ := h
    obtain ⟨x1, x2, y1, y2, rfl⟩ := stp_brk (by decide) s1
    have hn := nx_brk (c := 91) (by decide)
    rw [hn.1, hn.2] at s2
    cases ds with
    | nil =>
      obtain ⟨p3, p4, s3, s4, rfl⟩ := s2
      obtain ⟨rfl, rfl, rfl⟩ := s4
      obtain ⟨x3, x4, y3, y4, rfl⟩ := stp_brk (by decide) s3
      exact ⟨rfl, rfl, x1, _, x4, by simp, y1, y4, .lnil (y2.app y3)⟩
    | cons d r =>
      obtain ⟨rfl, rfl, b1, s, b2, rfl, g1, g2, g3⟩ := lz_ls (by simp) ih _ _ _ s2
      exact ⟨rfl, rfl, x1, _, b2, by simp, y1, g2, .lst (y2.app g1) g3⟩
  | @dct n ps _ hk _ _ ih =>
    intro o i' e' h
    obtain ⟨p1, p2, s1, s2, rfl⟩ := h
    obtain ⟨x1, x2, y1, y2, rfl⟩ := stp_brk (by decide) s1
    have hn := nx_brk (c := 123) (by decide)
    rw [hn.1, hn.2, wXK_map] at s2
    cases ps with
    | nil =>
      obtain ⟨p3, p4, s3, s4, rfl⟩ := s2
      obtain ⟨rfl, rfl, rfl⟩ := s4
      obtain ⟨x3, x4, y3, y4, rfl⟩ := stp_brk (by decide) s3
      exact ⟨rfl, rfl, x1, _, x4, by simp, y1, y4, .dnil (y2.app y3)⟩
    | cons d r =>
      obtain ⟨rfl, rfl, b1, s, b2, rfl, g1, g2, g3⟩ := lz_ks (by simp) ih (fun p hp => (hk p hp).1) _ _ _ s2
      exact ⟨rfl, rfl, x1, _, b2, by simp, y1, g2, .dct (y2.app g1) g3⟩
theorem Jd.upTo {n : Nat} {d : PyData} (h : Jd n d) : ∀ {m : Nat}, n ≤ m → Jd m d := by
  have g : ∀ k, Jd (n + k) d := fun k => by
    induction k with
    | zero => exact h
    | succ k ih => exact ih.up
  intro m hm
  have := g (m - n)
  rwa [Nat.add_sub_cancel' hm] at this
/-- such a text, blanks around, is read whole -/
theorem rdW_lx {n : Nat} {d : PyData} {b1 u b2 : List Nat} (hJ : Jd n d) (hn : n ≤ 32) (h1 : Bl b1) (h2 : Bl b2) (h : Lx (.v d) u) : ∃ a, rdW (b1 ++ (u ++ b2)) = .ok d a := by
  have hJ2 : Jd 32 d := hJ.upTo hn
  have hS : Sat (b1 ++ (u ++ b2)) 0 (b1 ++ (u ++ b2)) := ⟨[], by simp⟩
  have hu := sat_blk hS
  have hb := sat_blk hu
  have hend : ∀ x, (b1 ++ (u ++ b2))[0 + b1.length + u.length]? = some x → isDg x = false := fun x hx => by
    have e : (b1 ++ (u ++ b2))[0 + b1.length + u.length]? = b2[0]? := by
      rw [Nat.zero_add, ← List.append_assoc, ← List.length_append, List.getElem?_append_right (Nat.le_refl _), Nat.sub_self]
    rw [e] at hx
    have hm := h2 x (List.mem_of_getElem? hx)
    unfold isBl at hm
    unfold isDg
    simp at hm ⊢
    omega
  have hv : rdV (b1 ++ (u ++ b2)) 32 0 = .ok d (0 + b1.length + u.length) := by
    rw [rdV_sk (sk_bl hS.app.1 h1)]
    exact rd_lx h 32 _ _ hJ2 hu.app.1 hend
  have hk : skB (b1 ++ (u ++ b2)) (0 + b1.length + u.length) = (b1 ++ (u ++ b2)).length := by
    rw [sk_bl hb h2]
    have e : 0 + b1.length + u.length + b2.length = (b1 ++ (u ++ b2)).length := by simp; omega
    rw [e]
    exact skB_stop fun c hc => by
      rw [List.getElem?_eq_none (Nat.le_refl _)] at hc
      cases hc
  refine ⟨0 + b1.length + u.length, ?_⟩
  unfold rdW
  rw [hv]
  show (if skB (b1 ++ (u ++ b2)) (0 + b1.length + u.length) < (b1 ++ (u ++ b2)).length then Rs.er _ else .ok d _) = _
  rw [hk, if_neg (Nat.lt_irrefl _)]
theorem rdW_wX {n : Nat} {d : PyData} (h : Js n d) (hn : n ≤ 32) : ∃ a, rdW (wX d) = .ok d a := by
  obtain ⟨i', e', hl⟩ := Lz.self (wX d) false false
  obtain ⟨_, _, b1, u, b2, e, h1, h2, h3⟩ := lz_ok h _ _ _ hl
  rw [e]
  exact rdW_lx h.jd hn h1 h2 h3
end FK
namespace FK
open PySem PySem.Spec PyProof.Rows L2 Evl FkE
/-! ### many brackets -/
def nestD : Nat → PyData
  | 0 => .int 7
  | m + 1 => .list [nestD m]
def deepT (m : Nat) : List Nat := List.replicate m 91 ++ ([55] ++ List.replicate m 93)
theorem deep_step (m : Nat) : deepT (m + 1) = 91 :: ([] ++ (deepT m ++ ([] ++ [93]))) := by
  unfold deepT
  rw [List.replicate_succ, List.replicate_succ' (n := m) (a := 93)]
  simp
theorem nest_jd : ∀ m, Jd m (nestD m)
  | 0 => .int 7
  | m + 1 => .lst (fun d hd => by
    rw [List.mem_singleton.mp hd]
    exact nest_jd m) (by simp)
theorem nest_lx : ∀ m, Lx (.v (nestD m)) (deepT m)
  | 0 => by
    have e : deepT 0 = numI 7 := by decide +kernel
    rw [e]
    exact .int (by decide)
  | m + 1 => by
    rw [deep_step]
    exact .lst Bl.nil (.l1 (nest_lx m) Bl.nil)
theorem deep_ok {m : Nat} (h : m ≤ 32) : ∃ a, rdW (deepT m) = .ok (nestD m) a := by
  obtain ⟨a, e⟩ := rdW_lx (b1 := []) (b2 := []) (nest_jd m) h Bl.nil Bl.nil (nest_lx m)
  exact ⟨a, by simpa using e⟩
theorem rdV_deep : ∀ (n : Nat) {t : List Nat} {a : Nat}, Sat t a (List.replicate (n + 1) 91) → rdV t n a = .er (a + n)
  | 0, t, a, h => by
    have hs := sk_at (r := []) h rfl
    show rdA t none a = _
    unfold rdA
    rw [hs, (Sat.cons (l := []) h).1]
    rfl
  | n + 1, t, a, h => by
    have h : Sat t a (91 :: (91 :: List.replicate n 91)) := h
    have hs := sk_at h rfl
    have h2 := h.cons.2
    have hs2 := sk_at h2 rfl
    have ih := rdV_deep n (t := t) (a := a + 1) h2
    show rdA t (some (rdV t n)) a = _
    unfold rdA
    rw [hs, h.cons.1]
    show lsR t (rdV t n) a = _
    unfold lsR
    rw [hs2, h2.cons.1, if_neg (by decide), lsGo.eq_1, ih]
    show Rs.er _ = _
    congr 1
    omega
theorem deep_er {t : List Nat} {r : List Nat} (h : t = List.replicate 33 91 ++ r) : rdW t = .er 32 := by
  have hS : Sat t 0 (List.replicate 33 91) := ⟨r, by rw [h]; rfl⟩
  unfold rdW
  rw [rdV_deep 32 hS]
end FK
namespace FK
open PySem PySem.Spec PyProof.Rows L2 Evl FkE
/-! ### a sign many times -/
def rMulS : R2 := fun x y H Q => ∃ (z : Str) (n : Int), x = .str z ∧ y = .int n ∧ MulOk z n ∧ Q (.str (Txt.mul z n)) H
theorem op_mulS {X : Cx} : OpR X (binaryOp .Mult) rMulS := by
  intro pins s σ H x y v u Q I rx ry h
  obtain ⟨z, n, rfl, rfl, hz, q⟩ := h
  obtain ⟨t, rfl⟩ := rx
  obtain ⟨t', rfl⟩ := ry
  exact SB.mul hz (fun t' tk => ⟨.str (Txt.mul z n), H, I.tok _, ⟨_, rfl⟩, q⟩)
theorem foldl_rep (c : Nat) : ∀ (k : Nat) (acc : Array Nat), ((List.replicate k #[c]).foldl (· ++ ·) acc).toList = acc.toList ++ List.replicate k c
  | 0, acc => by simp
  | k + 1, acc => by
    rw [List.replicate_succ, List.foldl_cons, foldl_rep c k]
    simp [List.replicate_succ]
theorem mul_S {c n : Nat} : Txt.mul (SX.S [c]) (n : Int) = SX.S (List.replicate n c) := by
  unfold Txt.mul
  by_cases h1 : (n : Int) < 1
  · have : n = 0 := by omega
    subst this
    rw [if_pos h1]
    rfl
  · rw [if_neg h1]
    by_cases h2 : n = 1
    · subst h2
      rfl
    · have e : ((n : Int) == 1 || (SX.S [c]).length == 0) = false := by
        rw [SX.S_len]
        simp
        omega
      rw [e, if_neg (by decide)]
      have h3 := foldl_rep c n #[]
      have e2 : ∀ x : Array Nat, (⟨x⟩ : Str) = SX.S x.toList := fun x => (SX.S_tl ⟨x⟩).symm
      rw [e2]
      congr 1
theorem rv_mulS {B : Hp} {c n : Nat} {i : Int} (hi : i = (n : Int)) (hn : n ≤ 100000) : RV rMulS (.str (SX.S [c])) (.int i) B (.str (SX.S (List.replicate n c))) := fun H1 _ Q q => by
  subst hi
  refine ⟨SX.S [c], (n : Int), rfl, rfl, mulOk_of 1 n (by rw [SX.S_len]; exact Nat.le_refl 1) (Int.le_refl _) (by omega) (by omega) (by omega), ?_⟩
  rw [mul_S]
  exact q H1 (Ex.refl H1)
/-! ### a comprehension over a dict -/
section
variable {σ : L2.St} {B : Hp} {td te : TE} {d : Addr} {kvs : List (Key × V)}
theorem en_lcK {j : Nat} {vs : List Nat} (f : Key × V → V) (hd : B d = some (.dK kvs)) (h : ∀ B', Ev td σ B' (.ref d)) (hz : kvs.length ≤ 100000) (hw : ∀ x, wipe ((wipe σ vs).set j (some x)) vs = wipe σ vs)
    (he : ∀ (od : Obj) (i : Nat) (k : Key) (v : V), kvs[i]? = some (k, v) → ∀ B', Ex (upd B d (.frz od (.dK kvs))) B' → Ev te ((wipe σ vs).set j (some (kV k))) B' (f (k, v))) : EvN (tLockE (tLc (iKeys td) (gName j) tYes te vs)) σ B (.lst (kvs.map f)) := fun H1 e Q q =>
  ⟨d, .dK kvs, e d _ hd, trivial, fun od => h _ _ (Ex.refl _) _ fun H2 e2 => ⟨d, od, rfl, .inl ⟨kvs, e2 d _ upd_same, fun Dl hD => by
    have hdD : d ≠ Dl := fun c => by
      rw [← c, e2 d _ upd_same] at hD
      cases hD
    have e0 : Ex (upd B d (.frz od (.dK kvs))) H2 := (ex_mut e).trans e2
    refine lc_it walk_keys (fun i H => Ex H2 H ∧ H Dl = some (.lst ((kvs.take i).map f))) ⟨Ex.new hD, upd_same⟩ (fun i H _ a => a.1 d _ (e2 d _ upd_same)) (fun i x H H' hi a y => ?_) fun H a => ?_
    · obtain ⟨y1, k, v, y2, y3⟩ := y
      subst y1 y3
      refine ⟨hw _, et_yes _ (Ex.refl _) _ fun H3 e3 => he od i k v y2 _ (e0.trans (a.1.trans e3)) H3 (Ex.refl _) _ fun H4 e4 => ⟨_, e4 Dl _ (e3 Dl _ a.2), ?_, Ex.mut ((a.1.trans e3).trans e4) hD, ?_⟩⟩
      · rw [List.length_map, List.length_take]
        exact Nat.lt_of_le_of_lt (Nat.le_trans (Nat.min_le_right _ _) hz) (by decide)
      · rw [upd_same, List.take_add_one, y2, List.map_append]
        rfl
    · have hdH : H d = some (.frz od (.dK kvs)) := a.1 d _ (e2 d _ upd_same)
      refine ⟨hdH, q Dl (upd H d (.dK kvs)) ?_ ?_ ?_⟩
      · have h3 := fresh_back e2 hD
        rw [upd_ne (Ne.symm hdD)] at h3
        exact h3
      · intro p x hx
        by_cases c : p = d
        · subst c
          rw [upd_same, ← hx, e p _ hd]
        · rw [upd_ne c]
          exact a.1 p x (e2 p x (by rw [upd_ne c]; exact hx))
      · rw [upd_ne (Ne.symm hdD), a.2, List.take_length]⟩⟩⟩
end
end FK
namespace FK
open PySem PySem.Spec PyProof.Rows L2 Evl FkE
/-- data that is written -/
inductive Jw : Nat → PyData → Prop where
  | non {n : Nat} : Jw n .none
  | bl {n : Nat} (b : Bool) : Jw n (.bool b)
  | int {n : Nat} {i : Int} : i.natAbs < 2 ^ 60 → Jw n (.int i)
  | str {n : Nat} {l : List Nat} : (∀ c ∈ l, c < 128) → Jw n (.str (SX.S l))
  | lst {n : Nat} {ds : List PyData} : (∀ d ∈ ds, Jw n d) → ds.length ≤ 20000 → Jw (n + 1) (.list ds)
  | dct {n : Nat} {ps : List (List Nat × PyData)} : (∀ p ∈ ps, Jw n p.2) → (∀ p ∈ ps, ∀ c ∈ p.1, c < 128) → (ps.map (·.1)).Nodup → ps.length ≤ 20000 → Jw (n + 1) (.dict (ps.map fun p => (.str (SX.S p.1), p.2)))
theorem Js.jw {n : Nat} {d : PyData} (h : Js n d) : Jw n d := by
  induction h with
  | non => exact .non
  | bl b => exact .bl b
  | int h => exact .int (Nat.lt_trans h (by decide))
  | str h _ => exact .str (cd_128 h)
  | lst _ hl ih => exact .lst ih (by omega)
  | dct _ hk hn hl ih => exact .dct ih (fun p hp => cd_128 (hk p hp).1) hn (by omega)
theorem wX_li {ds : List PyData} {m : Nat} (h : (wX (.list ds)).length ≤ m) : (∀ d ∈ ds, (wX d).length ≤ m) ∧ ((wXA ds).map (·.length)).sum ≤ m ∧ (TL.joinL [44] (wXA ds)).length + 2 ≤ m := by
  have h : (91 :: (TL.joinL [44] (wXA ds) ++ [93])).length ≤ m := h
  rw [List.length_cons, List.length_append] at h
  have e93 : [93].length = 1 := rfl
  refine ⟨fun d hd => ?_, ?_, by omega⟩
  · have := joinL_mem (s := [44]) (ys := wXA ds) (y := wX d) (by rw [wXA_map]; exact List.mem_map_of_mem hd)
    omega
  · have := joinL_sum (s := [44]) (ys := wXA ds)
    omega
theorem wX_di {ps : List (List Nat × PyData)} {m : Nat} (h : (wX (.dict (ps.map fun p => (.str (SX.S p.1), p.2)))).length ≤ m) : (∀ p ∈ ps, (qS p.1).length + 1 + (wX p.2).length ≤ m) ∧ ((ps.map wP).map (·.length)).sum ≤ m ∧ (TL.joinL [44] (ps.map wP)).length + 2 ≤ m := by
  have h : (123 :: (TL.joinL [44] (wXK (ps.map fun p => (.str (SX.S p.1), p.2))) ++ [125])).length ≤ m := h
  rw [wXK_map, List.length_cons, List.length_append] at h
  have e93 : [125].length = 1 := rfl
  refine ⟨fun p hp => ?_, ?_, by omega⟩
  · have := joinL_mem (s := [44]) (ys := ps.map wP) (y := wP p) (List.mem_map_of_mem hp)
    have e : (wP p).length = (qS p.1).length + ((wX p.2).length + 1) := by
      unfold wP
      rw [List.length_append, List.length_cons]
    omega
  · have := joinL_sum (s := [44]) (ys := ps.map wP)
    omega
theorem qS_len {l : List Nat} : l.length ≤ (qS l).length := by
  have h : ∀ l : List Nat, l.length ≤ (l.flatMap eC).length := fun l => by
    induction l with
    | nil => exact Nat.le_refl 0
    | cons c r ih =>
      rw [List.flatMap_cons, List.length_append, List.length_cons]
      have : 1 ≤ (eC c).length := by
        unfold eC
        repeat' split
        all_goals simp
      omega
  have := h l
  unfold qS
  rw [List.length_cons, List.length_append]
  omega
theorem numI_len {i : Int} (h : i.natAbs < 1000000000000000) : (numI i).length ≤ 16 := by
  by_cases h0 : 0 ≤ i
  · obtain ⟨m, rfl⟩ := Int.eq_ofNat_of_zero_le h0
    rw [numI_nat]
    have : (TL.numL m).length ≤ 15 := TL.numL_len (by decide) (by omega)
    omega
  · obtain ⟨m, rfl⟩ : ∃ m : Nat, i = -(m : Int) := ⟨i.natAbs, by omega⟩
    rw [numI_neg (by omega), List.length_cons]
    have : (TL.numL m).length ≤ 15 := TL.numL_len (by decide) (by omega)
    omega
theorem qS_max {l : List Nat} (h : l.length ≤ 4) : (qS l).length ≤ 10 := by
  have := flat_len eC_len l
  unfold qS
  rw [List.length_cons, List.length_append]
  show _ + 1 + 1 ≤ 10
  omega
def mxJ : Nat → Nat
  | 0 => 16
  | n + 1 => 2 + 3 * (mxJ n + 12)
theorem joinL_max {m : Nat} : ∀ {ys : List (List Nat)}, (∀ y ∈ ys, y.length ≤ m) → (TL.joinL [44] ys).length ≤ ys.length * (m + 1)
  | [], _ => Nat.zero_le _
  | [y], h => by
    have := h y List.mem_cons_self
    show y.length ≤ 1 * (m + 1)
    omega
  | y :: z :: r, h => by
    have h1 := h y List.mem_cons_self
    have h2 := joinL_max (ys := z :: r) fun x hx => h x (List.mem_cons_of_mem _ hx)
    show (y ++ ([44] ++ TL.joinL [44] (z :: r))).length ≤ _
    rw [List.length_append, List.length_append]
    have e44 : [44].length = 1 := rfl
    rw [List.length_cons (a := y), Nat.succ_mul]
    omega
theorem js_len {n : Nat} {d : PyData} (h : Js n d) : (wX d).length ≤ mxJ n := by
  have h16 : ∀ n, 16 ≤ mxJ n := fun n => by
    induction n with
    | zero => exact Nat.le_refl _
    | succ n ih =>
      show 16 ≤ 2 + 3 * (mxJ n + 12)
      omega
  induction h with
  | @non n => exact Nat.le_trans (by decide : 4 ≤ 16) (h16 n)
  | @bl n b =>
    have := h16 n
    cases b <;> exact Nat.le_trans (by decide) this
  | @int n i hi => exact Nat.le_trans (numI_len hi) (h16 n)
  | @str n l _ hl =>
    rw [wX_str]
    have := qS_max hl
    have := h16 n
    omega
  | @lst n ds _ hl ih =>
    show (91 :: (TL.joinL [44] (wXA ds) ++ [93])).length ≤ 2 + 3 * (mxJ n + 12)
    have h1 := joinL_max (m := mxJ n) (ys := wXA ds) (fun y hy => by
      rw [wXA_map] at hy
      obtain ⟨d, hd, rfl⟩ := List.mem_map.mp hy
      exact ih d hd)
    rw [wXA_map, List.length_map, ← wXA_map] at h1
    have h2 : ds.length * (mxJ n + 1) ≤ 3 * (mxJ n + 1) := Nat.mul_le_mul_right _ hl
    rw [List.length_cons, List.length_append]
    show _ + 1 + 1 ≤ _
    omega
  | @dct n ps _ hk _ hl ih =>
    show (123 :: (TL.joinL [44] (wXK (ps.map fun p => (.str (SX.S p.1), p.2))) ++ [125])).length ≤ 2 + 3 * (mxJ n + 12)
    rw [wXK_map]
    have h1 := joinL_max (m := mxJ n + 11) (ys := ps.map wP) (fun y hy => by
      obtain ⟨p, hp, rfl⟩ := List.mem_map.mp hy
      have a := ih p hp
      have b := qS_max (hk p hp).2
      unfold wP
      rw [List.length_append, List.length_cons]
      omega)
    rw [List.length_map] at h1
    have h2 : ps.length * (mxJ n + 11 + 1) ≤ 3 * (mxJ n + 11 + 1) := Nat.mul_le_mul_right _ hl
    rw [List.length_cons, List.length_append]
    show _ + 1 + 1 ≤ _
    omega
theorem mxJ_4 : mxJ 4 ≤ 3000 := by decide
theorem mxJ_mono {n : Nat} : mxJ n ≤ mxJ (n + 1) := by
  show mxJ n ≤ 2 + 3 * (mxJ n + 12)
  omega
end FK
namespace FK
open PySem PySem.Spec PyProof.Rows L2 Evl FkE
theorem nd_map {α β : Type} {f : α → β} (hf : ∀ x y, f x = f y → x = y) : ∀ {l : List α}, l.Nodup → (l.map f).Nodup
  | [], _ => by simp
  | a :: r, h => by
    rw [List.map_cons, List.nodup_cons]
    rw [List.nodup_cons] at h
    refine ⟨fun hm => ?_, nd_map hf h.2⟩
    obtain ⟨b, hb, e⟩ := List.mem_map.mp hm
    exact h.1 (hf _ _ e ▸ hb)
/-- a pair put into a dict of data -/
theorem dqk_putP {K : PySem.W.Frag} {N : Hp} {kvs : List (Key × V)} {ps : List (List Nat × PyData)} {k : List Nat} {v : V} {d : PyData} (h : DqK K N kvs (ps.map fun p => (.str (SX.S p.1), p.2))) (hn : (ps.map (·.1)).Nodup) (hv : Dq K N v d) :
    ∃ ps' : List (List Nat × PyData), DqK K N (putK kvs (.inr (SX.S k)) v) (ps'.map fun p => (.str (SX.S p.1), p.2)) ∧ (ps'.map (·.1)).Nodup ∧ ps'.length ≤ ps.length + 1 ∧ (∀ q ∈ ps', q.1 = k ∨ ∃ p ∈ ps, p.1 = q.1) ∧ ∀ q ∈ ps', q.2 = d ∨ ∃ p ∈ ps, p.2 = q.2 := by
  have hk : (ps.map fun p => (PyData.str (SX.S p.1), p.2)).map (·.1) = (ps.map fun p => SX.S p.1).map PyData.str := by
    rw [List.map_map, List.map_map]
    rfl
  have hn2 : (ps.map fun p => SX.S p.1).Nodup := by
    have := nd_map (f := SX.S) (fun x y e => S_inj2 e) hn
    rw [List.map_map] at this
    exact this
  obtain ⟨es, ks, h1, h2, h3, h4, h5, h6⟩ := dqk_put2 (k := SX.S k) h hk hn2 hv
  have hlen : es.length = ks.length := by
    have := congrArg List.length h2
    simpa using this
  have hstr : ∀ x ∈ es, ∃ z ∈ ks, x.1 = PyData.str z := fun x hx => by
    have : x.1 ∈ es.map (·.1) := List.mem_map_of_mem hx
    rw [h2] at this
    obtain ⟨z, hz, e⟩ := List.mem_map.mp this
    exact ⟨z, hz, e.symm⟩
  let un : PyData → List Nat := fun x => match x with
    | .str z => z.cps.toList
    | _ => []
  have eM : (es.map fun x => (un x.1, x.2)).map (fun p => (PyData.str (SX.S p.1), p.2)) = es := by
    rw [List.map_map]
    have : ∀ x ∈ es, ((fun p : List Nat × PyData => (PyData.str (SX.S p.1), p.2)) ∘ fun x : PyData × PyData => (un x.1, x.2)) x = x := fun x hx => by
      obtain ⟨z, _, hz⟩ := hstr x hx
      obtain ⟨a, b⟩ := x
      have hz : a = PyData.str z := hz
      subst hz
      show (PyData.str (SX.S z.cps.toList), b) = _
      rw [SX.S_tl]
    exact (List.map_congr_left this).trans (List.map_id _)
  have eK : (es.map fun x => (un x.1, x.2)).map (·.1) = ks.map fun z => z.cps.toList := by
    have : (es.map fun x => (un x.1, x.2)).map (·.1) = (es.map (·.1)).map un := by
      rw [List.map_map, List.map_map]
      rfl
    rw [this, h2, List.map_map]
    rfl
  refine ⟨es.map fun x => (un x.1, x.2), by rw [eM]; exact h1, ?_, ?_, fun q hq => ?_, fun q hq => ?_⟩
  · rw [eK]
    exact nd_map (fun x y e => by
      have := congrArg SX.S e
      rwa [SX.S_tl, SX.S_tl] at this) h3
  · rw [List.length_map, hlen]
    simpa using h4
  · obtain ⟨x, hx, rfl⟩ := List.mem_map.mp hq
    obtain ⟨z, hz, e⟩ := hstr x hx
    show un x.1 = k ∨ _
    rw [e]
    show z.cps.toList = k ∨ ∃ p ∈ ps, p.1 = z.cps.toList
    rcases h5 z hz with h | h
    · left
      rw [h]
    · obtain ⟨p, hp, rfl⟩ := List.mem_map.mp h
      exact .inr ⟨p, hp, by simp [SX.S]⟩
  · obtain ⟨x, hx, rfl⟩ := List.mem_map.mp hq
    show x.2 = d ∨ _
    rcases h6 x.1 x.2 hx with h | h
    · exact .inl h
    · obtain ⟨p, hp, e⟩ := List.mem_map.mp h
      exact .inr ⟨p, hp, (Prod.mk.inj e).2⟩
end FK
namespace FK
open PySem PySem.Spec PyProof.Rows L2 Evl FkE
theorem joinL_in {s : List Nat} {c : Nat} : ∀ {ys : List (List Nat)}, c ∈ TL.joinL s ys → c ∈ s ∨ ∃ y ∈ ys, c ∈ y
  | [], h => by cases h
  | [y], h => .inr ⟨y, List.mem_cons_self, h⟩
  | y :: z :: r, h => by
    have h : c ∈ y ++ (s ++ TL.joinL s (z :: r)) := h
    rcases List.mem_append.mp h with h | h
    · exact .inr ⟨y, List.mem_cons_self, h⟩
    · rcases List.mem_append.mp h with h | h
      · exact .inl h
      · rcases joinL_in h with h | ⟨x, hx, h⟩
        · exact .inl h
        · exact .inr ⟨x, List.mem_cons_of_mem _ hx, h⟩
theorem qS_cd {l : List Nat} (h : l.all cdB = true) : ∀ c ∈ qS l, cdB c = true := by
  intro c hc
  rcases List.mem_cons.mp hc with rfl | hc
  · rfl
  rcases List.mem_append.mp hc with hc | hc
  · obtain ⟨x, hx, hc⟩ := List.mem_flatMap.mp hc
    have hxc := List.all_eq_true.mp h x hx
    unfold eC at hc
    split at hc
    · simp at hc
      rcases hc with rfl | rfl <;> rfl
    · split at hc
      · simp at hc
        subst hc
        rfl
      · split at hc
        · simp at hc
          rcases hc with rfl | rfl <;> rfl
        · split at hc
          · simp at hc
            rcases hc with rfl | rfl <;> rfl
          · rw [List.mem_singleton.mp hc]
            exact hxc
  · rw [List.mem_singleton.mp hc]
    rfl
theorem numI_cd2 {i : Int} : ∀ c ∈ numI i, cdB c = true := by
  have hd : ∀ (m : Nat), ∀ c ∈ TL.numL m, cdB c = true := fun m c hc => by
    have := TL.numL_digits m c hc
    unfold cdB
    simp
    omega
  by_cases h : 0 ≤ i
  · obtain ⟨m, rfl⟩ := Int.eq_ofNat_of_zero_le h
    rw [numI_nat]
    exact hd m
  · obtain ⟨m, rfl⟩ : ∃ m : Nat, i = -(m : Int) := ⟨i.natAbs, by omega⟩
    rw [numI_neg (by omega)]
    intro c hc
    rcases List.mem_cons.mp hc with rfl | hc
    · rfl
    · exact hd m c hc
theorem wX_cd {n : Nat} {d : PyData} (h : Js n d) : ∀ c ∈ wX d, cdB c = true := by
  induction h with
  | non => decide
  | bl b => cases b <;> decide
  | int _ => exact numI_cd2
  | str hl _ =>
    rw [wX_str]
    exact qS_cd hl
  | @lst n ds _ _ ih =>
    intro c hc
    have hc : c ∈ 91 :: (TL.joinL [44] (wXA ds) ++ [93]) := hc
    rcases List.mem_cons.mp hc with rfl | hc
    · rfl
    rcases List.mem_append.mp hc with hc | hc
    · rcases joinL_in hc with h | ⟨y, hy, h⟩
      · rw [List.mem_singleton.mp h]
        rfl
      · rw [wXA_map] at hy
        obtain ⟨d, hd, rfl⟩ := List.mem_map.mp hy
        exact ih d hd c h
    · rw [List.mem_singleton.mp hc]
      rfl
  | @dct n ps _ hk _ _ ih =>
    intro c hc
    have hc : c ∈ 123 :: (TL.joinL [44] (wXK (ps.map fun p => (.str (SX.S p.1), p.2))) ++ [125]) := hc
    rw [wXK_map] at hc
    rcases List.mem_cons.mp hc with rfl | hc
    · rfl
    rcases List.mem_append.mp hc with hc | hc
    · rcases joinL_in hc with h | ⟨y, hy, h⟩
      · rw [List.mem_singleton.mp h]
        rfl
      · obtain ⟨p, hp, rfl⟩ := List.mem_map.mp hy
        rcases List.mem_append.mp h with h | h
        · exact qS_cd (hk p hp).1 c h
        · rcases List.mem_cons.mp h with rfl | h
          · rfl
          · exact ih p hp c h
    · rw [List.mem_singleton.mp hc]
      rfl
/-! ### further statements with the state -/
section
variable {K : PySem.W.Frag} {Y : Ys} {O : Org} {σ : L2.St} {B : Hp} {tl : TE} {t : TT} {tu tw tz : TS} {D : Ends}
theorem s_forS {s : List Nat} {j : Nat} (h : Ev tl σ B (.str (SX.S s))) (Pv : Nat → L2.St → Hp → Prop) (h0 : Pv 0 σ B)
    (hs : ∀ (i c : Nat) σ' B', s[i]? = some c → Pv i σ' B' → RS Y O tu (LpS Y O Pv i D tz) (σ'.set j (some (.str (SX.S [c])))) B') (hd : ∀ σ' B', Pv s.length σ' B' → RS Y O tz D σ' B') : RS Y O (tSeq (tFor (iStr tl) (gName j) tu) tz) D σ B := fun H e =>
  h H e.hy.sub _ fun H1 e1 => ⟨_, rfl, for_str (x := s) (UpS Y O Pv) ⟨B, e.pure e1, h0⟩ (fun i c σ' H' hc ⟨B', e', p⟩ => hs i c σ' B' hc p H' e') fun σ' H' ⟨B', e', p⟩ => hd σ' B' p H' e'⟩
theorem s_ifP {b : Bool} (h : EvT t σ B b) (h1 : b = true → RS Y O tu { D with nx := tz D } σ B) (h2 : b = false → RS Y O tw { D with nx := tz D } σ B) : RS Y O (tSeq (tIfS t tu tw) tz) D σ B :=
  s_if (Ft := fun c N => c = b ∧ N = B) (est_of h ⟨rfl, rfl⟩) (fun N _ ⟨c, d⟩ => by subst d; exact h1 c.symm) fun N _ ⟨c, d⟩ => by subst d; exact h2 c.symm
theorem s_ifPK {b : Bool} (Mid : L2.St → Hp → Prop) (h : EvT t σ B b) (k : ∀ σ' B', Mid σ' B' → RS Y O tz D σ' B') (h1 : (∀ σ' B', Mid σ' B' → RS Y O tz D σ' B') → b = true → RS Y O tu { D with nx := tz D } σ B) (h2 : (∀ σ' B', Mid σ' B' → RS Y O tz D σ' B') → b = false → RS Y O tw { D with nx := tz D } σ B) : RS Y O (tSeq (tIfS t tu tw) tz) D σ B :=
  s_ifP h (h1 k) (h2 k)
theorem b_if {Ft : Bool → Prop} (h0 : Ex O.B0 B) (h : EST Y t σ B fun b _ => Ft b) (h1 : Ft true → RS Y O tu { D with nx := tz D } σ B) (h2 : Ft false → RS Y O tw { D with nx := tz D } σ B) : RS Y O (tSeq (tIfS t tu tw) tz) D σ B :=
  s_if h (fun N e c => RS.weak h0 e (h1 c)) fun N e c => RS.weak h0 e (h2 c)
end
end FK
namespace FK
open PySem PySem.Spec PyProof.Rows L2 Evl FkE
section
variable {K : PySem.W.Frag} {Y : Ys} {σ : L2.St} {B : Hp} {te : TE} {as : TA} {F : V → Hp → Prop}
/-- a fragment of new objects is put to what is known -/
theorem HY.plus {N N3 H2 H3 : Hp} (a : HY Y N H2) (e3 : Ex H2 H3) (eN : Ex N3 H3) (fN : ∀ p, N3 p ≠ Option.none → H2 p = Option.none) : HY Y (fr N N3) H3 ∧ FP N (fr N N3) H2 := by
  have a3 := a.pure e3
  refine ⟨⟨fun p o h => ?_, a3.st⟩, ⟨fun p o h => ?_, fun p h1 h2 => ?_⟩⟩
  · cases c : N3 p with
    | none =>
      rw [fr_out c] at h
      exact a3.ex p o h
    | some u =>
      rw [fr_in c] at h
      cases h
      exact rest_new a.st (fN p (by rw [c]; simp)) (eN p _ c)
  · cases c : N3 p with
    | none => rw [fr_out c]; exact h
    | some u =>
      have := a.sub p o h
      rw [fN p (by rw [c]; simp)] at this
      cases this
  · cases c : N3 p with
    | none =>
      rw [fr_out c] at h1
      exact absurd h2 h1
    | some u => exact fN p (by rw [c]; simp)
theorem es_pvS {E : XK} {pre : List V → Hp → V → Prop} (h : ESA Y as σ B fun vs N => ∃ z, (∀ H, Ex N H → pre (vs ++ []) H z) ∧ F z N) : ES Y (tCall (PV pre) [] E as) σ B F := fun H1 e Q q =>
  h H1 e _ fun vs N H2 f a b ⟨z, hp, hF⟩ => ⟨z, hp H2 a.sub, fun H3 e3 => q z N H3 f (a.pure e3) (b.pure e3) hF⟩
end
end FK

set_option Elab.async false
set_option linter.all false
set_option maxRecDepth 100000
/-! data of tuples, written as lists; a written dict's get; new objects with new parts (own text) -/
namespace FK
open PySem PySem.Spec PyProof.Rows L2 Evl FkE
inductive Jt : Nat → PyData → Prop where
  | non {n : Nat} : Jt n .none
  | bl {n : Nat} (b : Bool) : Jt n (.bool b)
  | int {n : Nat} {i : Int} : i.natAbs < 1000000000000000 → Jt n (.int i)
  | str {n : Nat} {l : List Nat} : l.all cdB = true → l.length ≤ 13 → Jt n (.str (SX.S l))
  | tup {n : Nat} {ds : List PyData} : (∀ d ∈ ds, Jt n d) → ds.length ≤ 6 → Jt (n + 1) (.tuple ds)
theorem Jt.up {n : Nat} {d : PyData} (h : Jt n d) : Jt (n + 1) d := by
  induction h with
  | non => exact .non
  | bl b => exact .bl b
  | int h => exact .int h
  | str h k => exact .str h k
  | tup _ hl ih => exact .tup ih hl
theorem Jt.upTo {n : Nat} {d : PyData} (h : Jt n d) : ∀ {m : Nat}, n ≤ m → Jt m d := by
  intro m hm
  induction hm with
  | refl => exact h
  | step _ ih => exact ih.up
theorem wl_tup {ds : List PyData} : wl (.tuple ds) = .list (ds.map wl) := by
  show PyData.list (wlA ds) = _
  rw [wlA_map]
theorem jt_noL {n : Nat} {d : PyData} (h : Jt n d) : noL d = true := by
  induction h with
  | @tup n ds _ _ ih =>
    show noLA ds = true
    have : ∀ ds : List PyData, (∀ d ∈ ds, noL d = true) → noLA ds = true := by
      intro ds
      induction ds with
      | nil => intro _; rfl
      | cons d r ih2 =>
        intro h
        show (noL d && noLA r) = true
        rw [h d List.mem_cons_self, ih2 fun x hx => h x (List.mem_cons_of_mem _ hx)]
        rfl
    exact this ds ih
  | _ => rfl
theorem jt_jw {n : Nat} {d : PyData} (h : Jt n d) : Jw n (wl d) := by
  induction h with
  | non => exact .non
  | bl b => exact .bl b
  | int h => exact .int (Nat.lt_trans h (by decide))
  | str h _ => exact .str (cd_128 h)
  | tup _ hl ih =>
    rw [wl_tup]
    refine .lst (fun d hd => ?_) (by rw [List.length_map]; omega)
    obtain ⟨e, he, rfl⟩ := List.mem_map.mp hd
    exact ih e he
theorem jt_jd {n : Nat} {d : PyData} (h : Jt n d) : Jd n (wl d) := by
  induction h with
  | non => exact .non
  | bl b => exact .bl b
  | int _ => exact .int _
  | str h _ => exact .str (cd_128 h)
  | tup _ hl ih =>
    rw [wl_tup]
    refine .lst (fun d hd => ?_) (by rw [List.length_map]; omega)
    obtain ⟨e, he, rfl⟩ := List.mem_map.mp hd
    exact ih e he
theorem wt_in : ∀ {l : List Nat}, l.all cdB = true → Wt l (l.flatMap eC)
  | [], _ => .nil
  | c :: r, h => by
    rw [List.all_cons, Bool.and_eq_true] at h
    obtain ⟨i, e, hz⟩ := Lz.self ((c :: r).flatMap eC) true false
    exact (lz_in (by rw [List.all_cons, h.1, h.2]; rfl) hz).2.2
theorem lx_ls : ∀ {ds : List PyData}, ds ≠ [] → (∀ d ∈ ds, Lx (.v d) (wX d)) → Lx (.ls ds) (TL.joinL [44] (wXA ds) ++ [93])
  | [], h, _ => absurd rfl h
  | [d], _, h => by
    have e := Lx.l1 (h d List.mem_cons_self) Bl.nil
    exact e
  | d :: d2 :: r, _, h => by
    have ih := lx_ls (ds := d2 :: r) (by simp) fun x hx => h x (List.mem_cons_of_mem _ hx)
    have e := Lx.ln (h d List.mem_cons_self) Bl.nil Bl.nil ih
    have eq : TL.joinL [44] (wXA (d :: d2 :: r)) ++ [93] = wX d ++ ([] ++ (44 :: ([] ++ (TL.joinL [44] (wXA (d2 :: r)) ++ [93])))) := by
      show (wX d ++ ([44] ++ TL.joinL [44] (wXA (d2 :: r)))) ++ [93] = _
      simp
    rw [eq]
    exact e
theorem jt_lx {n : Nat} {d : PyData} (h : Jt n d) : Lx (.v (wl d)) (wX (wl d)) := by
  induction h with
  | non => exact .non
  | bl b => cases b; exact .no; exact .yes
  | int h => exact .int h
  | @str n l h _ =>
    show Lx (.v (.str (SX.S l))) (wX (.str (SX.S l)))
    rw [wX_str]
    exact .str (wt_in h)
  | @tup n ds _ hl ih =>
    rw [wl_tup]
    show Lx (.v (.list (ds.map wl))) (91 :: (TL.joinL [44] (wXA (ds.map wl)) ++ [93]))
    cases ds with
    | nil => exact .lnil Bl.nil
    | cons d r =>
      exact Lx.lst (b := []) Bl.nil (lx_ls (ds := (d :: r).map wl) (by simp) fun x hx => by
        obtain ⟨e, he, rfl⟩ := List.mem_map.mp hx
        exact ih e he)
theorem jt_rd {n : Nat} {d : PyData} (h : Jt n d) (hn : n ≤ 32) : ∃ a, rdW (wX (wl d)) = .ok (wl d) a := by
  have := rdW_lx (b1 := []) (b2 := []) (jt_jd h) hn Bl.nil Bl.nil (jt_lx h)
  simpa using this
def mxT : Nat → Nat
  | 0 => 80
  | n + 1 => 2 + 6 * (mxT n + 1)
theorem qS_mx {l : List Nat} {m : Nat} (h : l.length ≤ m) : (qS l).length ≤ 2 * m + 2 := by
  have := flat_len eC_len l
  unfold qS
  rw [List.length_cons, List.length_append]
  show _ + 1 + 1 ≤ _
  omega
theorem jt_len {n : Nat} {d : PyData} (h : Jt n d) : (wX (wl d)).length ≤ mxT n := by
  have h80 : ∀ n, 80 ≤ mxT n := fun n => by
    induction n with
    | zero => exact Nat.le_refl _
    | succ n ih =>
      show 80 ≤ 2 + 6 * (mxT n + 1)
      omega
  induction h with
  | @non n => exact Nat.le_trans (by decide : 4 ≤ 80) (h80 n)
  | @bl n b =>
    have := h80 n
    cases b <;> exact Nat.le_trans (by decide) this
  | @int n i hi => exact Nat.le_trans (numI_len hi) (Nat.le_trans (by decide) (h80 n))
  | @str n l _ hl =>
    show (wX (.str (SX.S l))).length ≤ _
    rw [wX_str]
    have := qS_mx hl
    have := h80 n
    omega
  | @tup n ds _ hl ih =>
    rw [wl_tup]
    show (91 :: (TL.joinL [44] (wXA (ds.map wl)) ++ [93])).length ≤ 2 + 6 * (mxT n + 1)
    have h1 := joinL_max (m := mxT n) (ys := wXA (ds.map wl)) (fun y hy => by
      rw [wXA_map] at hy
      obtain ⟨d, hd, rfl⟩ := List.mem_map.mp hy
      obtain ⟨e, he, rfl⟩ := List.mem_map.mp hd
      exact ih e he)
    rw [wXA_map, List.length_map, ← wXA_map, List.length_map] at h1
    have h2 : ds.length * (mxT n + 1) ≤ 6 * (mxT n + 1) := Nat.mul_le_mul_right _ hl
    rw [List.length_cons, List.length_append]
    show _ + 1 + 1 ≤ _
    omega
theorem mxT_3 : mxT 3 ≤ 20000 := by decide
theorem jt_cd {n : Nat} {d : PyData} (h : Jt n d) : ∀ c ∈ wX (wl d), cdB c = true := by
  induction h with
  | non => exact fun c hc => List.all_eq_true.mp (by decide : wNull.all cdB = true) c hc
  | bl b =>
    cases b
    · exact fun c hc => List.all_eq_true.mp (by decide : wFalse.all cdB = true) c hc
    · exact fun c hc => List.all_eq_true.mp (by decide : wTrue.all cdB = true) c hc
  | int _ => exact numI_cd2
  | @str n l h _ =>
    show ∀ c ∈ wX (.str (SX.S l)), _
    rw [wX_str]
    exact qS_cd h
  | @tup n ds _ _ ih =>
    rw [wl_tup]
    show ∀ c ∈ 91 :: (TL.joinL [44] (wXA (ds.map wl)) ++ [93]), _
    intro c hc
    rcases List.mem_cons.mp hc with rfl | hc
    · decide
    rcases List.mem_append.mp hc with hc | hc
    · rcases joinL_in hc with hc | ⟨y, hy, hc⟩
      · rw [List.mem_singleton.mp hc]
        decide
      · rw [wXA_map] at hy
        obtain ⟨d, hd, rfl⟩ := List.mem_map.mp hy
        obtain ⟨e, he, rfl⟩ := List.mem_map.mp hd
        exact ih e he c hc
    · rw [List.mem_singleton.mp hc]
      decide
/-! compared whole -/
theorem dqa_dpW {K : PySem.W.Frag} {H : Hp} : ∀ {ds : List PyData} {vs : List V}, (∀ d ∈ ds, ∀ v, Dq K H v d → Dp K H v d) → DqA K H vs ds → DpAll K H vs ds
  | [], _, _, .nil => .nil
  | d :: r, _, h, .cons h1 h2 => .cons (h d List.mem_cons_self _ h1) (dqa_dpW (fun x hx => h x (List.mem_cons_of_mem _ hx)) h2)
theorem jt_dp {K : PySem.W.Frag} {H : Hp} {n : Nat} {d : PyData} (h : Jt n d) : (∀ v, Dq K H v d → Dp K H v d) ∧ ∀ v, Dq K H v (wl d) → Dp K H v (wl d) := by
  induction h with
  | non =>
    refine ⟨fun v h => ?_, fun v h => ?_⟩ <;> (cases h; exact .non)
  | bl b =>
    refine ⟨fun v h => ?_, fun v h => ?_⟩ <;> (cases h; exact .bl b)
  | int _ =>
    refine ⟨fun v h => ?_, fun v h => ?_⟩ <;> (cases h; exact .int _)
  | str _ _ =>
    refine ⟨fun v h => ?_, fun v h => ?_⟩ <;> (cases h; exact .str _)
  | @tup n ds _ _ ih =>
    refine ⟨fun v h => ?_, fun v h => ?_⟩
    · cases h with
      | tup h1 h2 => exact .tup (st_of h1) (dqa_dpW (fun d hd => (ih d hd).1) h2)
    · rw [wl_tup] at h ⊢
      cases h with
      | lst h1 h2 => exact .lst (sq_of h1) (dqa_dpW (fun d hd => by
        obtain ⟨e, he, rfl⟩ := List.mem_map.mp hd
        exact (ih e he).2) h2)
theorem layAll : ∀ {ds : List PyData}, (∀ d ∈ ds, d.canLay0 = true) → PyData.canLayAll0 ds = true
  | [], _ => rfl
  | d :: r, h => by
    show (d.canLay0 && PyData.canLayAll0 r) = true
    rw [h d List.mem_cons_self, layAll fun x hx => h x (List.mem_cons_of_mem _ hx)]
    rfl
theorem deepAll {m : Nat} : ∀ {ds : List PyData}, (∀ d ∈ ds, d.depth ≤ m) → PyData.depthAll ds ≤ m
  | [], _ => Nat.zero_le _
  | d :: r, h => by
    show max d.depth (PyData.depthAll r) ≤ m
    have h1 := h d List.mem_cons_self
    have h2 := deepAll (m := m) (ds := r) fun x hx => h x (List.mem_cons_of_mem _ hx)
    omega
theorem lay_str {l : List Nat} (h : l.all cdB = true) : (PyData.str (SX.S l)).canLay0 = true := by
  show ((SX.S l).cps.all (· < 0x110000)) = true
  rw [← Array.all_toList, List.all_eq_true]
  intro c hc
  have hc : c ∈ l := by simpa [SX.S] using hc
  have := cd_128 h c hc
  simp
  omega
theorem jt_lay {n : Nat} {d : PyData} (h : Jt n d) : (d.canLay0 = true ∧ d.depth ≤ n + 1) ∧ (wl d).canLay0 = true ∧ (wl d).depth ≤ n + 1 := by
  induction h with
  | non => exact ⟨⟨rfl, by simp [PyData.depth]⟩, rfl, by simp [PyData.depth, wl]⟩
  | bl b => exact ⟨⟨rfl, by simp [PyData.depth]⟩, rfl, by simp [PyData.depth, wl]⟩
  | int _ => exact ⟨⟨rfl, by simp [PyData.depth]⟩, rfl, by simp [PyData.depth, wl]⟩
  | str h _ => exact ⟨⟨lay_str h, by simp [PyData.depth]⟩, lay_str h, by simp [PyData.depth, wl]⟩
  | @tup n ds _ _ ih =>
    rw [wl_tup]
    refine ⟨⟨layAll fun d hd => (ih d hd).1.1, ?_⟩, layAll fun d hd => ?_, ?_⟩
    · show PyData.depthAll ds + 1 ≤ _
      have := deepAll fun d hd => (ih d hd).1.2
      omega
    · obtain ⟨e, he, rfl⟩ := List.mem_map.mp hd
      exact (ih e he).2.1
    · show PyData.depthAll (ds.map wl) + 1 ≤ _
      have := deepAll (m := n + 1) (ds := ds.map wl) fun d hd => by
        obtain ⟨e, he, rfl⟩ := List.mem_map.mp hd
        exact (ih e he).2.2
      omega
theorem shaped_of {d : PyData} (h : d.canLay0 = true) (k : d.depth ≤ 8) : SeqAt.shaped d = true := by
  unfold SeqAt.shaped
  rw [h]
  simp
  omega
/-! ### a written dict's get -/
def tKGet2 (K : PySem.W.Frag) (d : Addr) (td ty tx : TE) : TE := fun σ H Q => td σ H fun x H1 => x = .ref d ∧ ty σ H1 fun y H2 => tx σ H2 fun z H3 => ∃ (k : Str) (r : Option Value) (v0 : V), y = .str k ∧ PySem.W.nsIn K d k = some r ∧ (∀ u, r = some u → RelV v0 u) ∧ (r = none → v0 = z) ∧ Q v0 H3
theorem pe_kget2 {X : Cx} {o e f : Expr} {apos cpos : Pos} {td ty tx : TE} {d : Addr} {es : Array DictEntry} {n : Nat} (D : KDict X.K X.w d es n) (ho : PE X o td) (he : PE X e ty) (hf : PE X f tx) (m : M2 X o "get" apos e f cpos) : PE X (.Call (.Attribute o "get" apos) [e, f] [] cpos) (tKGet2 X.K d td ty tx) := by
  refine ⟨fun pins s σ H Q I h => ?_⟩
  refine wpAny_Call_method m.base m.few m.line PySem.F.plainAttrs_dict PySem.F.slot_dict_get PySem.F.type_dict_get (thn (ho.run pins s σ H _ I h) fun u s1 ⟨x, H1, I1, rx, ex, q1⟩ => ?_)
  subst ex
  obtain rfl : u = Value.ref d := rx
  refine ⟨kd_type D I1, fun b q => ?_, ?_⟩
  · cases q
    exact ⟨_, I1.kIn _ _ D.at_, rfl⟩
  rw [m.trees]
  refine Calls.callWith_builtin rfl (Calls.evalArgs_plain (Calls.spliced_cons (thn (he.run pins s1 σ H1 _ I1 q1) fun iv s2 ⟨y, H2, I2, ry, q2⟩ =>
    Calls.spliced_cons (thn (hf.run pins s2 σ H2 _ I2 q2) fun fv s3 ⟨z, H3, I3, rz, k, r, v0, ey, ek, h1, h2, q3⟩ => Calls.spliced_nil ?_))))
  subst ey
  obtain ⟨t, rfl⟩ := ry
  refine call_meetsIn PySem.F.slot_dict_get (kd_type D I3) PySem.F.entry_dict_get (PySem.F.args_dict_get_3 _ _ _) (meets_dict_get_default (strKind X.prog X.w) d (PySem.strKind_is X.prog X.w k t) D.low fv) ⟨_, PySem.W.mapOf_K (prog := X.prog) I3.kIn D.at_ D.lit, ?_⟩
  refine ⟨v0, H3, I3.tok _, ?_, q3⟩
  show RelV v0 ((PySem.findBy PySem.Value.isStrOf es k).getD fv)
  rw [PySem.W.find_K D.at_ ek]
  cases r with
  | some u => exact h1 u rfl
  | none =>
    rw [h2 rfl]
    exact rz
theorem ev_kget2 {K : PySem.W.Frag} {σ : L2.St} {B : Hp} {td ty tx : TE} {d : Addr} {k : Str} {z v0 : V} {r : Option Value} (h1 : Ev td σ B (.ref d)) (h2 : Ev ty σ B (.str k)) (h3 : Ev tx σ B z) (hr : PySem.W.nsIn K d k = some r) (hs : ∀ u, r = some u → RelV v0 u) (hn : r = none → v0 = z) : Ev (tKGet2 K d td ty tx) σ B v0 := fun H1 e Q q =>
  h1 H1 e _ fun H2 e2 => ⟨rfl, h2 H2 (e.trans e2) _ fun H3 e3 => h3 H3 ((e.trans e2).trans e3) _ fun H4 e4 => ⟨k, r, v0, rfl, hr, hs, hn, q H4 ((e2.trans e3).trans e4)⟩⟩
/-- a written dict of numbers by texts -/
def sttOf (e : DictEntry) : Option (List Nat × Int) := match e.key, e.val with
  | .str x _, .int i _ => some (x.cps.toList, i)
  | _, _ => none
theorem sttOf_inv {e : DictEntry} {a : List Nat} {i : Int} (h : sttOf e = some (a, i)) : ∃ t u, e.key = .str (SX.S a) t ∧ e.val = .int i u := by
  unfold sttOf at h
  split at h
  · rename_i x t j u h1 h2
    cases h
    exact ⟨t, u, by rw [h1, SX.S_tl x], h2⟩
  · cases h
theorem stt_find : ∀ (es : List DictEntry) (ps : List (List Nat × Int)) (l : List Nat), es.map sttOf = ps.map some → (ps.find? (fun p => decide (p.1 = l)) = none → es.find? (·.key.isStr (SX.S l)) = none) ∧ ((∀ p, ps.find? (fun p => decide (p.1 = l)) = some p → ∃ e u, es.find? (·.key.isStr (SX.S l)) = some e ∧ e.val = .int p.2 u) ∧ es.any (·.refKey) = false)
  | [], [], l, h => ⟨fun _ => rfl, ⟨fun p hp => (by cases hp), rfl⟩⟩
  | [], p :: ps, l, h => by cases h
  | e :: es, [], l, h => by cases h
  | e :: es, p :: ps, l, h => by
    obtain ⟨a, b⟩ := p
    rw [List.map_cons, List.map_cons] at h
    injection h with h1 h2
    obtain ⟨t, u, hk, hv⟩ := sttOf_inv h1
    obtain ⟨i1, i2, i3⟩ := stt_find es ps l h2
    have hs : e.key.isStr (SX.S l) = decide (a = l) := by
      rw [hk]
      exact SX.S_beq_eq
    have hr : e.refKey = false := by
      unfold DictEntry.refKey
      rw [hk]
    have ha : (e :: es).any (·.refKey) = false := by rw [List.any_cons, hr, i3]; rfl
    by_cases c : a = l
    · have f1 : (e :: es).find? (·.key.isStr (SX.S l)) = some e := by
        rw [List.find?_cons, hs, decide_eq_true c]
      have f2 : ((a, b) :: ps).find? (fun p => decide (p.1 = l)) = some (a, b) := by
        rw [List.find?_cons]
        show (match decide (a = l) with | true => _ | false => _) = _
        rw [decide_eq_true c]
      rw [f1, f2]
      exact ⟨fun z => (by cases z), fun p hp => (by cases hp; exact ⟨e, u, rfl, hv⟩), ha⟩
    · have f1 : (e :: es).find? (·.key.isStr (SX.S l)) = es.find? (·.key.isStr (SX.S l)) := by
        rw [List.find?_cons, hs, decide_eq_false c]
      have f2 : ((a, b) :: ps).find? (fun p => decide (p.1 = l)) = ps.find? (fun p => decide (p.1 = l)) := by
        rw [List.find?_cons]
        show (match decide (a = l) with | true => _ | false => _) = _
        rw [decide_eq_false c]
      rw [f1, f2]
      exact ⟨i1, i2, ha⟩
theorem stt_tab {K : PySem.W.Frag} {a : Addr} {es : Array DictEntry} {n : Nat} {ps : List (List Nat × Int)} (hl : K.lookup a = some ⟨.type "dict", none, .dict es n, #[]⟩) (h : es.toList.map sttOf = ps.map some) (l : List Nat) :
    ∃ r, PySem.W.nsIn K a (SX.S l) = some r ∧ match ps.find? (fun p => decide (p.1 = l)) with
      | some p => ∃ u, r = some u ∧ RelV (.int p.2) u
      | none => r = none := by
  have hx : PySem.W.nsIn K a (SX.S l) = (match es.toList.find? (·.key.isStr (SX.S l)) with
      | some e => some (some e.val)
      | none => if es.toList.any (·.refKey) then none else some none) := by
    unfold PySem.W.nsIn
    rw [hl]
    rfl
  have hp := stt_find es.toList ps l h
  cases hf : ps.find? (fun p => decide (p.1 = l)) with
  | none =>
    refine ⟨none, ?_, rfl⟩
    rw [hx, hp.1 hf, hp.2.2]
    rfl
  | some p =>
    obtain ⟨en, u, h1, h2⟩ := hp.2.1 p hf
    refine ⟨some en.val, by rw [hx, h1], .int p.2 u, by rw [h2], ⟨u, rfl⟩⟩
/-! ### a new object, some of its parts new -/
section
variable {K : PySem.W.Frag} {mg : Str → Option Value} {W : WX} {σ : L2.St} {B : Hp} {te : TE} {as : TA} {C : Addr} {Pp : List V → Hp → Prop} {Φ : V → Hp → Prop} {pre : List V → Hp → OutM → Prop}
theorem em_mkA (ha : EvAP as σ B Pp) (hp : ∀ vs H x dx, Ex B H → Pp vs H → H x = none → H dx = none → dx ≠ x → ∃ Φ', pre (.ref x :: vs) (upd (upd H dx (.own x)) x (.ins C dx [])) (.val Φ') ∧ ∀ v H', Φ' v H' → v = .non ∧ Φ (.ref x) H') : EvM (tMakeX C (spM mg pre) (WE W) as) σ B Φ := fun H1 e Q q =>
  ha H1 e _ fun vs H3 e3 hv x dx nx ndx ne =>
    let ⟨Φ', hp', i⟩ := hp vs H3 x dx (e.trans e3) hv nx ndx ne
    ⟨.val Φ', hp', fun v H4 c => ⟨(i v H4 c).1, q _ H4 (i v H4 c).2⟩⟩
end
end FK

set_option Elab.async false
set_option linter.all false
set_option maxRecDepth 100000
namespace K65
open PySem PySem.Spec PyProof.Rows L2 Evl FK FkE
def topS (i : Nat) : Stmt := PySem.Challenge.pw_formkeeper_k65_answers_as_messages.main.body.getD i (.Pass ⟨0, 0, 0, 0⟩)
abbrev s_FormkeeperError___init__ : Stmt := inClass (topS 1) 0
theorem sc_FormkeeperError___init__ : FnScope ["self", "place"] ["self", "place"] (defScope s_FormkeeperError___init__) := ⟨rfl, rfl, rfl, by decide +kernel, rfl, by decide +kernel, by decide +kernel⟩
abbrev s_is_code : Stmt := topS 12
theorem sc_is_code : FnScope ["code"] ["code"] (defScope s_is_code) := ⟨rfl, rfl, rfl, by decide +kernel, rfl, by decide +kernel, by decide +kernel⟩
abbrev s_character_of : Stmt := topS 13
theorem sc_character_of : FnScope ["code"] ["code"] (defScope s_character_of) := ⟨rfl, rfl, rfl, by decide +kernel, rfl, by decide +kernel, by decide +kernel⟩
abbrev s_is_text : Stmt := topS 14
theorem sc_is_text : FnScope ["text", "character"] ["text"] (defScope s_is_text) := ⟨rfl, rfl, rfl, by decide +kernel, rfl, by decide +kernel, by decide +kernel⟩
abbrev s_encode_text : Stmt := topS 15
theorem sc_encode_text : FnScope ["text", "character"] ["text"] (defScope s_encode_text) := ⟨rfl, rfl, rfl, by decide +kernel, rfl, by decide +kernel, by decide +kernel⟩
abbrev s_decode_text : Stmt := topS 16
theorem sc_decode_text : FnScope ["octets", "characters", "at", "octet", "character"] ["octets"] (defScope s_decode_text) := ⟨rfl, rfl, rfl, by decide +kernel, rfl, by decide +kernel, by decide +kernel⟩
abbrev s_digit_of : Stmt := topS 24
theorem sc_digit_of : FnScope ["character", "base", "worth"] ["character", "base"] (defScope s_digit_of) := ⟨rfl, rfl, rfl, by decide +kernel, rfl, by decide +kernel, by decide +kernel⟩
abbrev s_JsonReader___init__ : Stmt := inClass (topS 25) 0
theorem sc_JsonReader___init__ : FnScope ["self", "text", "place"] ["self", "text"] (defScope s_JsonReader___init__) := ⟨rfl, rfl, rfl, by decide +kernel, rfl, by decide +kernel, by decide +kernel⟩
abbrev s_JsonReader_peek : Stmt := inClass (topS 25) 1
theorem sc_JsonReader_peek : FnScope ["self"] ["self"] (defScope s_JsonReader_peek) := ⟨rfl, rfl, rfl, by decide +kernel, rfl, by decide +kernel, by decide +kernel⟩
abbrev s_JsonReader_peek_token : Stmt := inClass (topS 25) 2
theorem sc_JsonReader_peek_token : FnScope ["self"] ["self"] (defScope s_JsonReader_peek_token) := ⟨rfl, rfl, rfl, by decide +kernel, rfl, by decide +kernel, by decide +kernel⟩
abbrev s_JsonReader_read_whole : Stmt := inClass (topS 25) 3
theorem sc_JsonReader_read_whole : FnScope ["self", "value"] ["self"] (defScope s_JsonReader_read_whole) := ⟨rfl, rfl, rfl, by decide +kernel, rfl, by decide +kernel, by decide +kernel⟩
abbrev s_JsonReader_read_value : Stmt := inClass (topS 25) 4
theorem sc_JsonReader_read_value : FnScope ["self", "around", "first", "word", "value"] ["self", "around"] (defScope s_JsonReader_read_value) := ⟨rfl, rfl, rfl, by decide +kernel, rfl, by decide +kernel, by decide +kernel⟩
abbrev s_JsonReader_skip_word : Stmt := inClass (topS 25) 5
theorem sc_JsonReader_skip_word : FnScope ["self", "word", "letter"] ["self", "word"] (defScope s_JsonReader_skip_word) := ⟨rfl, rfl, rfl, by decide +kernel, rfl, by decide +kernel, by decide +kernel⟩
abbrev s_JsonReader_read_number : Stmt := inClass (topS 25) 6
theorem sc_JsonReader_read_number : FnScope ["self", "begin", "first"] ["self"] (defScope s_JsonReader_read_number) := ⟨rfl, rfl, rfl, by decide +kernel, rfl, by decide +kernel, by decide +kernel⟩
abbrev s_JsonReader_read_string : Stmt := inClass (topS 25) 7
theorem sc_JsonReader_read_string : FnScope ["self", "characters"] ["self"] (defScope s_JsonReader_read_string) := ⟨rfl, rfl, rfl, by decide +kernel, rfl, by decide +kernel, by decide +kernel⟩
abbrev s_JsonReader_read_character : Stmt := inClass (topS 25) 8
theorem sc_JsonReader_read_character : FnScope ["self", "character"] ["self"] (defScope s_JsonReader_read_character) := ⟨rfl, rfl, rfl, by decide +kernel, rfl, by decide +kernel, by decide +kernel⟩
abbrev s_JsonReader_read_escape : Stmt := inClass (topS 25) 9
theorem sc_JsonReader_read_escape : FnScope ["self", "begin", "letter"] ["self"] (defScope s_JsonReader_read_escape) := ⟨rfl, rfl, rfl, by decide +kernel, rfl, by decide +kernel, by decide +kernel⟩
abbrev s_JsonReader_read_code : Stmt := inClass (topS 25) 10
theorem sc_JsonReader_read_code : FnScope ["self", "begin", "code", "_", "worth", "character"] ["self", "begin"] (defScope s_JsonReader_read_code) := ⟨rfl, rfl, rfl, by decide +kernel, rfl, by decide +kernel, by decide +kernel⟩
abbrev s_JsonReader_read_list : Stmt := inClass (topS 25) 11
theorem sc_JsonReader_read_list : FnScope ["self", "depth", "values"] ["self", "depth"] (defScope s_JsonReader_read_list) := ⟨rfl, rfl, rfl, by decide +kernel, rfl, by decide +kernel, by decide +kernel⟩
abbrev s_JsonReader_read_dict : Stmt := inClass (topS 25) 12
theorem sc_JsonReader_read_dict : FnScope ["self", "depth", "pairs", "key"] ["self", "depth"] (defScope s_JsonReader_read_dict) := ⟨rfl, rfl, rfl, by decide +kernel, rfl, by decide +kernel, by decide +kernel⟩
abbrev s_JsonReader_read_key : Stmt := inClass (topS 25) 13
theorem sc_JsonReader_read_key : FnScope ["self", "pairs", "begin", "key"] ["self", "pairs"] (defScope s_JsonReader_read_key) := ⟨rfl, rfl, rfl, by decide +kernel, rfl, by decide +kernel, by decide +kernel⟩
abbrev s_JsonReader_read_end : Stmt := inClass (topS 25) 14
theorem sc_JsonReader_read_end : FnScope ["self", "bracket", "token"] ["self", "bracket"] (defScope s_JsonReader_read_end) := ⟨rfl, rfl, rfl, by decide +kernel, rfl, by decide +kernel, by decide +kernel⟩
abbrev s_parse_json : Stmt := topS 26
theorem sc_parse_json : FnScope ["text"] ["text"] (defScope s_parse_json) := ⟨rfl, rfl, rfl, by decide +kernel, rfl, by decide +kernel, by decide +kernel⟩
abbrev s_write_string : Stmt := topS 27
theorem sc_write_string : FnScope ["text", "escaped"] ["text"] (defScope s_write_string) := ⟨rfl, rfl, rfl, by decide +kernel, rfl, by decide +kernel, by decide +kernel⟩
abbrev s_write_json : Stmt := topS 28
theorem sc_write_json : FnScope ["value", "key", "item"] ["value"] (defScope s_write_json) := ⟨rfl, rfl, rfl, by decide +kernel, rfl, by decide +kernel, by decide +kernel⟩
abbrev s_with_lists : Stmt := topS 30
theorem sc_with_lists : FnScope ["value", "item"] ["value"] (defScope s_with_lists) := ⟨rfl, rfl, rfl, by decide +kernel, rfl, by decide +kernel, by decide +kernel⟩
abbrev s_with_tuples : Stmt := topS 31
theorem sc_with_tuples : FnScope ["value", "key", "item"] ["value"] (defScope s_with_tuples) := ⟨rfl, rfl, rfl, by decide +kernel, rfl, by decide +kernel, by decide +kernel⟩
abbrev s_written : Stmt := topS 32
theorem sc_written : FnScope ["value"] ["value"] (defScope s_written) := ⟨rfl, rfl, rfl, by decide +kernel, rfl, by decide +kernel, by decide +kernel⟩
abbrev s_read_back : Stmt := topS 33
theorem sc_read_back : FnScope ["octets"] ["octets"] (defScope s_read_back) := ⟨rfl, rfl, rfl, by decide +kernel, rfl, by decide +kernel, by decide +kernel⟩
abbrev s_Answer___init__ : Stmt := inClass (topS 35) 0
theorem sc_Answer___init__ : FnScope ["self", "status", "headers", "body", "place"] ["self", "status", "headers", "body"] (defScope s_Answer___init__) := ⟨rfl, rfl, rfl, by decide +kernel, rfl, by decide +kernel, by decide +kernel⟩
abbrev s_status_of : Stmt := topS 39
theorem sc_status_of : FnScope ["answer"] ["answer"] (defScope s_status_of) := ⟨rfl, rfl, rfl, by decide +kernel, rfl, by decide +kernel, by decide +kernel⟩
abbrev s_answer_octets : Stmt := topS 40
theorem sc_answer_octets : FnScope ["answer"] ["answer"] (defScope s_answer_octets) := ⟨rfl, rfl, rfl, by decide +kernel, rfl, by decide +kernel, by decide +kernel⟩
abbrev s_told_answer : Stmt := topS 41
theorem sc_told_answer : FnScope ["message"] ["message"] (defScope s_told_answer) := ⟨rfl, rfl, rfl, by decide +kernel, rfl, by decide +kernel, by decide +kernel⟩
abbrev s__law_refill : Stmt := topS 44
theorem sc__law_refill : FnScope ["script", "k", "cell"] ["script", "k"] (defScope s__law_refill) := ⟨rfl, rfl, rfl, by decide +kernel, rfl, by decide +kernel, by decide +kernel⟩
abbrev s__law_draw : Stmt := topS 45
theorem sc__law_draw : FnScope ["state", "script", "size", "digit"] ["state", "script", "size"] (defScope s__law_draw) := ⟨rfl, rfl, rfl, by decide +kernel, rfl, by decide +kernel, by decide +kernel⟩
abbrev s__law_pick : Stmt := topS 46
theorem sc__law_pick : FnScope ["state", "script", "signs", "k"] ["state", "script", "signs"] (defScope s__law_pick) := ⟨rfl, rfl, rfl, by decide +kernel, rfl, by decide +kernel, by decide +kernel⟩
abbrev s__law_signs : Stmt := topS 47
theorem sc__law_signs : FnScope [] [] (defScope s__law_signs) := ⟨rfl, rfl, rfl, by decide +kernel, rfl, by decide +kernel, by decide +kernel⟩
abbrev s__law_text : Stmt := topS 49
theorem sc__law_text : FnScope ["state", "script", "least", "most", "signs", "kind", "k"] ["state", "script", "least", "most"] (defScope s__law_text) := ⟨rfl, rfl, rfl, by decide +kernel, rfl, by decide +kernel, by decide +kernel⟩
abbrev s__law_fact : Stmt := topS 50
theorem sc__law_fact : FnScope ["state", "script", "depth", "kind", "k"] ["state", "script", "depth"] (defScope s__law_fact) := ⟨rfl, rfl, rfl, by decide +kernel, rfl, by decide +kernel, by decide +kernel⟩
abbrev s__law_listed : Stmt := topS 51
theorem sc__law_listed : FnScope ["value", "one"] ["value"] (defScope s__law_listed) := ⟨rfl, rfl, rfl, by decide +kernel, rfl, by decide +kernel, by decide +kernel⟩
abbrev s__law_alike : Stmt := topS 52
theorem sc__law_alike : FnScope ["first", "second", "k"] ["first", "second"] (defScope s__law_alike) := ⟨rfl, rfl, rfl, by decide +kernel, rfl, by decide +kernel, by decide +kernel⟩
abbrev s_law : Stmt := topS 53
theorem sc_law : FnScope ["script", "state", "reasons", "status", "answer", "k", "message"] ["script"] (defScope s_law) := ⟨rfl, rfl, rfl, by decide +kernel, rfl, by decide +kernel, by decide +kernel⟩
/-! ### the characters -/
def codeB (n : Int) : Bool := decide (n = 9 ∨ n = 10 ∨ (32 ≤ n ∧ n ≤ 126 ∧ n ≠ 37))
theorem codeB_iff {n : Int} : codeB n = true ↔ (n = 9 ∨ n = 10 ∨ (32 ≤ n ∧ n ≤ 126 ∧ n ≠ 37)) := by simp [codeB]
theorem codeB_no {n : Int} : codeB n = false ↔ ¬ (n = 9 ∨ n = 10 ∨ (32 ≤ n ∧ n ≤ 126 ∧ n ≠ 37)) := by
  unfold codeB
  rw [decide_eq_false_iff_not]
def BP : List Nat := (" !\"#$" : Str).cps.toList
def AB : List Nat := ("&'()*+,-./0123456789:;<=>?@ABCDEFGHIJKLMNOPQRSTUVWXYZ[\\]^_`abcdefghijklmnopqrstuvwxyz{|}~" : Str).cps.toList
theorem bp_len : BP.length = 5 := by decide +kernel
theorem ab_len : AB.length = 89 := by decide +kernel
theorem bp_at : ∀ i < 5, BP.getD i 0 = 32 + i := by decide +kernel
theorem ab_at : ∀ i < 89, AB.getD i 0 = 38 + i := by decide +kernel
def AL : List Nat := ([10, 9] ++ (List.range 5).map (32 + ·)) ++ (List.range 89).map (38 + ·)
theorem al_len : AL.length = 96 := by decide +kernel
theorem al_nd : AL.Nodup := by decide +kernel
theorem al_mem {c : Nat} : c ∈ AL ↔ codeB (c : Int) = true := by
  rw [codeB_iff]
  unfold AL
  simp only [List.mem_append, List.mem_map, List.mem_range, List.mem_cons, List.not_mem_nil, or_false]
  constructor
  · rintro (((h | h) | ⟨a, h, e⟩) | ⟨a, h, e⟩) <;> omega
  · intro h
    rcases h with h | h | ⟨h1, h2, h3⟩
    · exact .inl (.inl (.inr (by omega)))
    · exact .inl (.inl (.inl (by omega)))
    · by_cases hc : c < 37
      · exact .inl (.inr ⟨c - 32, by omega, by omega⟩)
      · exact .inr ⟨c - 38, by omega, by omega⟩
theorem al_lt {c : Nat} (h : c ∈ AL) : c < 200 := by
  have := codeB_iff.mp (al_mem.mp h)
  omega
theorem al_get {i : Nat} (h : i < 96) : AL.getD i 0 ∈ AL := by
  have h' : i < AL.length := by rw [al_len]; exact h
  simp [List.getD, List.getElem?_eq_getElem h']
def kvA (l : List Nat) : List (Key × V) := l.map fun c => (.inr (SX.S [c]), .int (c : Int))
theorem S_inj {c d : Nat} (h : SX.S [c] = SX.S [d]) : c = d := by
  have := congrArg (fun x : Str => x.cps.getD 0 0) h
  simpa [SX.S] using this
theorem kvA_in {c : Nat} : ∀ {l : List Nat}, c ∈ l → valV (kvA l) (.inr (SX.S [c])) = some (.int (c : Int))
  | d :: r, h => by
    by_cases e : d = c
    · subst e
      exact valV_pos rfl
    · have hne : ¬ (Sum.inr (SX.S [d]) : Key) = Sum.inr (SX.S [c]) := fun z => e (S_inj (Sum.inr.inj z))
      refine (valV_neg (p := (Sum.inr (SX.S [d]), V.int (d : Int))) hne).trans (kvA_in (l := r) ?_)
      rcases List.mem_cons.mp h with h | h
      · exact absurd h.symm e
      · exact h
theorem kvA_out {c : Nat} : ∀ {l : List Nat}, c ∉ l → valV (kvA l) (.inr (SX.S [c])) = none
  | [], _ => rfl
  | d :: r, h => by
    have hne : ¬ (Sum.inr (SX.S [d]) : Key) = Sum.inr (SX.S [c]) := fun z => h (by rw [S_inj (Sum.inr.inj z)]; exact List.mem_cons_self)
    exact (valV_neg (p := (Sum.inr (SX.S [d]), V.int (d : Int))) hne).trans (kvA_out fun z => h (List.mem_cons_of_mem _ z))
theorem kvA_put {c : Nat} {l : List Nat} (h : c ∉ l) : putK (kvA l) (.inr (SX.S [c])) (.int (c : Int)) = kvA (l ++ [c]) := by
  rw [putK_new _ (kvA_out h)]
  unfold kvA
  rw [List.map_append]
  rfl
def chV (n : Int) : V := if codeB n = true then .str (SX.S [n.toNat]) else .non
theorem chV_yes {n : Int} (h : codeB n = true) : chV n = .str (SX.S [n.toNat]) := if_pos h
theorem chV_no {n : Int} (h : codeB n = false) : chV n = .non := if_neg (by rw [h]; decide)
def bad (ns : List Int) : Option Nat := ns.findIdx? fun n => !codeB n
theorem bad_none {ns : List Int} (h : ∀ n ∈ ns, codeB n = true) : bad ns = none := by
  unfold bad
  rw [List.findIdx?_eq_none_iff]
  intro n hn
  rw [h n hn]
  rfl
theorem bad_some {ns : List Int} {i : Nat} {n : Int} (hi : ns[i]? = some n) (hn : codeB n = false) (h : ∀ m ∈ ns.take i, codeB m = true) : bad ns = some i := by
  obtain ⟨hl, e⟩ := List.getElem?_eq_some_iff.mp hi
  unfold bad
  rw [List.findIdx?_eq_some_iff_getElem]
  refine ⟨hl, by rw [e, hn]; rfl, fun j hj => ?_⟩
  have := h ns[j] (List.mem_take_iff_getElem.mpr ⟨j, by omega, rfl⟩)
  rw [this]
  decide
def txtOf (ns : List Int) : List Nat := ns.map Int.toNat
def decOut (ns : List Int) : Out := match bad ns with
  | none => .val (.str (SX.S (txtOf ns)))
  | some i => .err "InvalidText" (.int (i : Int))
def toldOut (ns : List Int) : Out := match bad ns with
  | none => .val (.str (SX.S (txtOf ns)))
  | some i => .new (.tup [.str "InvalidText", .int (i : Int)])
def toldDat (ns : List Int) : PyData := match bad ns with
  | none => .str (SX.S (txtOf ns))
  | some i => .tuple [.str "InvalidText", .int (i : Int)]

def sttL : List (List Nat × Int) := [([110, 111, 32, 115, 117, 98, 106, 101, 99, 116], 404), ([110, 111, 32, 118, 101, 114, 115, 105, 111, 110], 404), ([110, 111, 32, 115, 99, 104, 101, 109, 97], 404), ([111, 108, 100], 409), ([110, 111, 116, 32, 102, 105, 116, 116, 105, 110, 103], 409), ([105, 110, 32, 117, 115, 101], 409), ([115, 116, 97, 110, 100, 105, 110, 103], 409)]
structure Ja where
  aB : Addr
  aW : Addr
  w0 : Addr
  w1 : Addr
  w2 : Addr
  aE : Addr
  es : Array DictEntry
  n : Nat
  aH : Addr
  aH0 : Addr
  aS : Addr
  ss : Array DictEntry
  sn : Nat
structure Tx (K : PySem.W.Frag) (w : World) (mg : Str → Option Value) (J : Ja) : Prop where
  g_BELOW_PERCENT : ∃ u, mg "BELOW_PERCENT" = some u ∧ RelV (.str (SX.S BP)) u
  g_ABOVE_PERCENT : ∃ u, mg "ABOVE_PERCENT" = some u ∧ RelV (.str (SX.S AB)) u
  g_TAB : ∃ u, mg "TAB" = some u ∧ RelV (.int 9) u
  g_LINE_FEED : ∃ u, mg "LINE_FEED" = some u ∧ RelV (.int 10) u
  g_SPACE : ∃ u, mg "SPACE" = some u ∧ RelV (.int 32) u
  g_PERCENT : ∃ u, mg "PERCENT" = some u ∧ RelV (.int 37) u
  g_TILDE : ∃ u, mg "TILDE" = some u ∧ RelV (.int 126) u
  g_DEEPEST : ∃ u, mg "DEEPEST" = some u ∧ RelV (.int 32) u
  g_MOST_DIGITS : ∃ u, mg "MOST_DIGITS" = some u ∧ RelV (.int 15) u
  g_DIGITS : ∃ u, mg "DIGITS" = some u ∧ RelV (.str (SX.S DIG)) u
  z_len : mg "len" = none
  z_int : mg "int" = none
  z_range : mg "range" = none
  z_isinstance : mg "isinstance" = none
  z_bool : mg "bool" = none
  z_list : mg "list" = none
  z_dict : mg "dict" = none
  z_ord : mg "ord" = none
  z_enumerate : mg "enumerate" = none
  z_str : mg "str" = none
  z_tuple : mg "tuple" = none
  z_all : mg "all" = none
  z_abs : mg "abs" = none
  g_BLANKS : ∃ u, mg "BLANKS" = some u ∧ RelV (.ref J.aB) u
  t_BLANKS : ∀ H, SqT K H J.aB [.str (SX.S [32]), .str (SX.S [9]), .str (SX.S [10])]
  g_WORDS : ∃ u, mg "WORDS" = some u ∧ RelV (.ref J.aW) u
  t_WORDS : ∀ H, SqT K H J.aW [.ref J.w0, .ref J.w1, .ref J.w2]
  g_HEADERS_OF_ANSWER : ∃ u, mg "HEADERS_OF_ANSWER" = some u ∧ RelV (.ref J.aH) u
  t_HEADERS : ∀ H, SqT K H J.aH [.ref J.aH0]
  t_W0 : ∀ H, SqT K H J.w0 [.str (SX.S wNull), .non]
  t_W1 : ∀ H, SqT K H J.w1 [.str (SX.S wTrue), .bl true]
  t_W2 : ∀ H, SqT K H J.w2 [.str (SX.S wFalse), .bl false]
  g_ESCAPES : ∃ u, mg "ESCAPES" = some u ∧ RelV (.ref J.aE) u
  d_ESCAPES : KDict K w J.aE J.es J.n
  e_no : ∀ l : List Nat, l.length ≤ 1 → (∀ c, l = [c] → escC c = none) → PySem.W.nsIn K J.aE (SX.S l) = some none
  e_yes : ∀ c e, escC c = some e → ∃ u, PySem.W.nsIn K J.aE (SX.S [c]) = some (some u) ∧ RelV (.str (SX.S [e])) u
  t_H0 : ∀ H, SqT K H J.aH0 [.str "content-type", .str "application/json"]
  g_STATUSES : ∃ u, mg "STATUSES" = some u ∧ RelV (.ref J.aS) u
  d_STATUSES : KDict K w J.aS J.ss J.sn
  s_STATUSES : ∀ l : List Nat, ∃ r, PySem.W.nsIn K J.aS (SX.S l) = some r ∧ match sttL.find? (fun p => decide (p.1 = l)) with
    | some p => ∃ u, r = some u ∧ RelV (.int p.2) u
    | none => r = none
def spCode : Sp := PV fun vs _ z => ∃ n : Int, vs = [.int n] ∧ z = .bl (codeB n)
def spChar : Sp := PV fun vs _ z => ∃ n : Int, vs = [.int n] ∧ z = chV n
def spIsText : Sp := PV fun vs _ z => ∃ t : List Nat, vs = [.str (SX.S t)] ∧ t.length ≤ 30000 ∧ z = .bl (t.all fun c => codeB (c : Int))
def spEnc : Sp := PN fun vs _ o => ∃ t : List Nat, vs = [.str (SX.S t)] ∧ t.length ≤ 30000 ∧ o = .lst ((t.map fun c : Nat => (c : Int)).map V.int)
def spDec (K : PySem.W.Frag) (mg : Str → Option Value) : Sp := spO mg fun vs H o => ∃ (p : Addr) (ns : List Int), vs = [.ref p] ∧ SqL K H p (ns.map V.int) ∧ ns.length ≤ 30000 ∧ o = decOut ns
def spAlpha : Sp := PN fun vs _ o => vs = [] ∧ o = .dK (kvA AL)

section
variable {P : Program} {w : World} {K : PySem.W.Frag} {mg : Str → Option Value} {base : Heap} {J : Ja}
theorem ok_init {f : Addr} {fd : FuncData} (F : Fun K "__init__" "FormkeeperError.__init__" s_FormkeeperError___init__ f fd) : FnOk P w K mg base CX0 1 f fd ["self", "place"] (spInit K) := by
  refine F.ok sc_FormkeeperError___init__ (fun vs H Q E h => ?_) (fun cdv A outer s H vs Q E hr h => ?_)
  · obtain ⟨_, _, _, _, rfl, _⟩ := h
    rfl
  obtain ⟨a, C, nm, v, rfl, Z, ha, q⟩ := h
  refine ⟨_, (pss_cons (ps_ost (pv 0) (pv 1)) (pss_cons (ps_ost (pv 0) (pe_nmC (pe_clsE (pv 0)))) pss_nil)), ?_⟩
  refine ⟨v, rfl, .ref a, rfl, a, C, rfl, Z.ox, Z.np, .inl ⟨ha, fun dx hdx hne => ?_⟩⟩
  exact ⟨.ref a, rfl, a, C, dx, [("place", v)], rfl, upd_same, (upd_ne hne).trans upd_same, Z.ex, C, nm, rfl, Z.nm, .ref a, rfl, a, C, rfl, Z.ox, Z.nn, .inr ⟨dx, [("place", v)], upd_same, (upd_ne hne).trans upd_same, by simp, q dx hdx hne⟩⟩

theorem ok_code (D : Def K mg "is_code" s_is_code ["code"]) (T : Tx K w mg J) : Cal CX0 P w K mg base 1 "is_code" spCode := by
  refine cal0 D sc_is_code (fun vs H Q E h => ?_) (fun f cdv A outer s H vs Q E hr h => ?_)
  · obtain ⟨_, ⟨n, rfl, _⟩, _⟩ := h
    rfl
  obtain ⟨_, ⟨n, rfl, rfl⟩, q⟩ := h
  refine ⟨_, (pss_cons (ps_if (pt_chain op_le op_le (pe_gc (by rfl) T.g_SPACE) (pv 0) (pe_gc (by rfl) T.g_TILDE))
      (pss_cons (ps_ret (pe_cmpR op_ne (pv 0) (pe_gc (by rfl) T.g_PERCENT) (nomark _))) pss_nil)
      pss_nil)
    (pss_cons (ps_ret (pe_or (pe_cmpR op_eq (pv 0) (pe_gc (by rfl) T.g_LINE_FEED) (nomark _)) (pe_one (pe_cmpR op_eq (pv 0) (pe_gc (by rfl) T.g_TAB) (nomark _))))) pss_nil)), R.go ?_⟩
  refine r_when (et_test (ev_chain ev_c (ev_var rfl) rv_cmp (fun _ => ev_c) (fun _ => rv_cmp))) (fun hb => ?_) (fun hb => ?_)
  · refine r_ret (ev_op (ev_var rfl) ev_c (rv_ne rfl)) (fun H1 e1 => ?_)
    have e : codeB n = !decide (V.int n = V.int 37) := Bool.eq_iff_iff.mpr (by
      rw [codeB_iff]
      simp at hb ⊢
      omega)
    rw [e] at q
    exact q H1 e1
  · refine r_ret (ev_orV (ev_op (ev_var rfl) ev_c (rv_eq rfl)) (fun hb => (ev_op (ev_var rfl) ev_c (rv_eq rfl)))) (fun H1 e1 => ?_)
    have e : codeB n = (decide (V.int n = V.int 10) || decide (V.int n = V.int 9)) := Bool.eq_iff_iff.mpr (by
      rw [codeB_iff]
      simp at hb ⊢
      omega)
    rw [e] at q
    exact q H1 e1
theorem ok_char (D : Def K mg "character_of" s_character_of ["code"]) (T : Tx K w mg J) (c_is_code : Cal CX0 P w K mg base 1 "is_code" spCode) : Cal CX0 P w K mg base 2 "character_of" spChar := by
  refine cal0 D sc_character_of (fun vs H Q E h => ?_) (fun f cdv A outer s H vs Q E hr h => ?_)
  · obtain ⟨_, ⟨n, rfl, _⟩, _⟩ := h
    rfl
  obtain ⟨_, ⟨n, rfl, rfl⟩, q⟩ := h
  refine ⟨_, (pss_cons (ps_if (pt_not (pt_val (pe_c c_is_code hr (by decide) (by rfl) (pa_cons (pv 0) pa_nil))))
      (pss_cons (ps_ret pe_non) pss_nil)
      pss_nil)
    (pss_cons (ps_if (pt_cmpR op_eq (pv 0) (pe_gc (by rfl) T.g_TAB) (nomark _))
      (pss_cons (ps_ret pe_str) pss_nil)
      pss_nil)
    (pss_cons (ps_if (pt_cmpR op_eq (pv 0) (pe_gc (by rfl) T.g_LINE_FEED) (nomark _))
      (pss_cons (ps_ret pe_str) pss_nil)
      pss_nil)
    (pss_cons (ps_if (pt_cmpR op_lt (pv 0) (pe_gc (by rfl) T.g_PERCENT) (nomark _))
      (pss_cons (ps_ret (pe_ix ix_str (pe_gc (by rfl) T.g_BELOW_PERCENT) (pe_op op_sub (pv 0) (pe_gc (by rfl) T.g_SPACE)) (fun _ _ => rfl))) pss_nil)
      pss_nil)
    (pss_cons (ps_ret (pe_ix ix_str (pe_gc (by rfl) T.g_ABOVE_PERCENT) (pe_op op_sub (pe_op op_sub (pv 0) (pe_gc (by rfl) T.g_PERCENT)) pe_int) (fun _ _ => rfl))) pss_nil))))), R.go ?_⟩
  refine r_when (et_not (et_B (ev_pv (ea_cons (ev_var rfl) ea_nil) (fun H _ => ⟨n, rfl, rfl⟩)))) (fun hb => ?_) (fun hb => ?_)
  · rw [chV_no (by simpa using hb)] at q
    exact r_ret ev_c (fun H1 e1 => q H1 e1)
  have hc : codeB n = true := by simpa using hb
  rw [chV_yes hc] at q
  have hi := codeB_iff.mp hc
  refine r_when (et_test (ev_op (ev_var rfl) ev_c (rv_eq rfl))) (fun hb => ?_) (fun hb => ?_)
  · have hn : n = 9 := by simpa using hb
    subst hn
    exact r_ret ev_c (fun H1 e1 => q H1 e1)
  have h9 : ¬ n = 9 := by simpa using hb
  refine r_when (et_test (ev_op (ev_var rfl) ev_c (rv_eq rfl))) (fun hb => ?_) (fun hb => ?_)
  · have hn : n = 10 := by simpa using hb
    subst hn
    exact r_ret ev_c (fun H1 e1 => q H1 e1)
  have h10 : ¬ n = 10 := by simpa using hb
  refine r_when (et_test (ev_op (ev_var rfl) ev_c rv_cmp)) (fun hb => ?_) (fun hb => ?_)
  · have hn : n < 37 := by simpa using hb
    refine r_ret (ev_op ev_c (ev_op (ev_var rfl) ev_c rv_ar) (rv_ixSt (by rw [bp_len]; omega) (by omega) (by rw [bp_len]; omega))) (fun H1 e1 => ?_)
    rw [bp_at (n - 32).toNat (by omega), show 32 + (n - 32).toNat = n.toNat by omega]
    exact q H1 e1
  · have hn : ¬ n < 37 := by simpa using hb
    refine r_ret (ev_op ev_c (ev_op (ev_op (ev_var rfl) ev_c rv_ar) ev_c rv_ar) (rv_ixSt (by rw [ab_len]; omega) (by omega) (by rw [ab_len]; omega))) (fun H1 e1 => ?_)
    rw [ab_at (n - 37 - 1).toNat (by omega), show 38 + (n - 37 - 1).toNat = n.toNat by omega]
    exact q H1 e1
theorem ok_istext (D : Def K mg "is_text" s_is_text ["text"]) (T : Tx K w mg J) (c_is_code : Cal CX0 P w K mg base 1 "is_code" spCode) : Cal CX0 P w K mg base 2 "is_text" spIsText := by
  refine cal0 D sc_is_text (fun vs H Q E h => ?_) (fun f cdv A outer s H vs Q E hr h => ?_)
  · obtain ⟨_, ⟨n, rfl, _⟩, _⟩ := h
    rfl
  obtain ⟨_, ⟨t, rfl, hl, rfl⟩, q⟩ := h
  refine ⟨_, (pss_cons (ps_for PassesOwn.never rfl (pi_str (pv 0)) (pg_name (i := 1) sc_is_text.nd rfl (.inl rfl))
      (pss_cons (ps_if (pt_not (pt_val (pe_c c_is_code hr (by decide) (by rfl) (pa_cons (pe_callB call_ord (by rfl) T.z_ord (by decide +kernel) (pa_cons (pv 1) pa_nil)) pa_nil))))
        (pss_cons (ps_ret pe_bl) pss_nil)
        pss_nil) pss_nil))
    (pss_cons (ps_ret pe_bl) pss_nil)), R.go ?_⟩
  refine r_forS (ev_var rfl) (fun i σ B => ∃ y, σ = [some (.str (SX.S t)), y] ∧ Ex H B ∧ (t.take i).all (fun c => codeB (c : Int)) = true) ⟨none, rfl, Ex.refl _, rfl⟩ (fun i c σ B hc hI => ?_) (fun σ B hI => ?_)
  · obtain ⟨y, rfl, eB, hI⟩ := hI
    refine r_when (et_not (et_B (ev_pv (ea_cons (ev_ord (ev_var rfl)) ea_nil) (fun H _ => ⟨_, rfl, rfl⟩)))) (fun hb => ?_) (fun hb => ?_)
    · have e : (t.all fun c => codeB (c : Int)) = false := by
        rw [List.all_eq_false]
        exact ⟨c, List.mem_of_getElem? hc, by simpa using hb⟩
      rw [e] at q
      exact r_ret ev_c (fun H1 e1 => q H1 (eB.trans e1))
    · refine r_up ⟨_, rfl, eB, ?_⟩
      rw [List.take_add_one, hc, List.all_append, hI]
      simpa using hb
  · obtain ⟨y, rfl, eB, hI⟩ := hI
    rw [List.take_length] at hI
    rw [hI] at q
    exact r_ret ev_c (fun H1 e1 => q H1 (eB.trans e1))

theorem ok_dec {C_X : Addr} (D : Def K mg "decode_text" s_decode_text ["octets"]) (T : Tx K w mg J) (Z_InvalidText : ErrC P w K mg base "InvalidText" C_X) (c_character_of : Cal CX0 P w K mg base 2 "character_of" spChar) : CalX P w K mg base 3 "decode_text" (spDec K mg) := by
  refine calX D sc_decode_text (fun vs H Q E h => ?_) (fun f cdv A outer s H vs Q E hr h => ?_)
  · obtain ⟨_, ⟨_, _, rfl, _⟩, _⟩ := h
    rfl
  obtain ⟨_, ⟨p, ns, rfl, hS, hl, rfl⟩, q⟩ := h
  refine ⟨_, (pss_cons (ps_set (i := 1) sc_decode_text.nd rfl (.inl rfl) (pe_lst pa_nil))
    (pss_cons (ps_for (passes_of rfl) rfl (pi_enum (by rfl) T.z_enumerate (pa_cons (pv 0) pa_nil)) (pg_tup rfl (pgs_cons (pg_name (i := 2) sc_decode_text.nd rfl (.inl rfl)) (pgs_cons (pg_name (i := 3) sc_decode_text.nd rfl (.inl rfl)) pgs_nil)))
      (pss_cons (ps_set (i := 4) sc_decode_text.nd rfl (.inl rfl) (pe_c c_character_of hr (by decide) (by rfl) (pa_cons (pv 3) pa_nil)))
      (pss_cons (ps_if (pt_cmpR op_isN (pv 4) pe_non (nomark _))
        (pss_cons (ps_raiseC Z_InvalidText rfl (takes_of rfl rfl rfl rfl) hr (by decide) (by rfl) (pa_cons (pv 2) pa_nil)) pss_nil)
        pss_nil)
      (pss_cons (ps_expr (pe_bm PySem.F.plainAttrs_list PySem.F.slot_list_append PySem.F.type_list_append mt_append (pv 1) (pa_cons (pv 4) pa_nil))) pss_nil))))
    (pss_cons (ps_ret (pe_join pe_str (pv 1))) pss_nil))), R.go ?_⟩
  refine r_asgN (en_lst ea_nil (by decide)) (fun pc npc => ?_)
  have hS1 := ex_l (Ex.new (o := .lst []) npc) hS
  refine r_forEnum (ea_cons (ev_var rfl) ea_nil) hS1 (fun i σ B => ∃ y2 y3 y4, σ = [some (.ref p), some (.ref pc), y2, y3, y4] ∧ Ex H B ∧ B pc = some (.lst ((ns.take i).map fun n => V.str (SX.S [n.toNat]))) ∧ ∀ n ∈ ns.take i, codeB n = true)
    ⟨none, none, none, rfl, Ex.new npc, upd_same, fun n hn => by simp at hn⟩ (fun i σ B hi hI => ?_) (fun i x σ B hx hI => ?_) (fun σ B hI => ?_)
  · obtain ⟨_, _, _, _, eB, _⟩ := hI
    exact ex_l eB hS
  · obtain ⟨y2, y3, y4, rfl, eB, hp, hI⟩ := hI
    rw [List.getElem?_map] at hx
    obtain ⟨n, hn, rfl⟩ := Option.map_eq_some_iff.mp hx
    refine r_asg (ev_pv (ea_cons (ev_var rfl) ea_nil) (fun H _ => ⟨n, rfl, rfl⟩)) ?_
    refine r_when (et_test (ev_op (ev_var rfl) ev_c rv_isN)) (fun hb => ?_) (fun hb => ?_)
    · have hc : codeB n = false := by
        cases h : codeB n with
        | false => rfl
        | true =>
          rw [chV_yes h] at hb
          simp at hb
      rw [show decOut ns = .err "InvalidText" (.int (i : Int)) by unfold decOut; rw [bad_some hn hc hI]] at q
      exact r_raise Z_InvalidText.k (ev_var rfl) (fun d H1 nd e1 hd => q C_X d H1 Z_InvalidText.gC (fresh_back eB nd) (eB.trans e1) hd)
    · have hc : codeB n = true := by
        cases h : codeB n with
        | true => rfl
        | false =>
          rw [chV_no h] at hb
          simp at hb
      rw [chV_yes hc]
      refine r_app hp (ev_var rfl) (ev_var rfl) (by
        rw [List.length_map, List.length_take]
        omega) ?_
      refine r_up ⟨_, _, _, rfl, Ex.mut eB npc, ?_, fun m hm => ?_⟩
      · rw [upd_same, List.take_add_one, hn, List.map_append]
        rfl
      · rw [List.take_add_one, hn] at hm
        rcases List.mem_append.mp hm with h | h
        · exact hI m h
        · have : m = n := by simpa using h
          subst this
          exact hc
  · obtain ⟨y2, y3, y4, rfl, eB, hp, hI⟩ := hI
    rw [List.length_map, List.take_length] at hp hI
    rw [show decOut ns = .val (.str (SX.S (txtOf ns))) by unfold decOut; rw [bad_none hI]] at q
    refine r_ret (v := .str (SX.S (txtOf ns))) ?_ (fun H1 e1 => q H1 (eB.trans e1))
    have ej := ev_joinL (K := K) (σ := [some (.ref p), some (.ref pc), y2, y3, y4]) (te := tC (.str "")) (tb := tVar 1) (a := []) (ys := (txtOf ns).map fun c => [c]) (B := B) ev_c (ev_var rfl) (sq_of (by rw [hp]; unfold txtOf; rw [List.map_map, List.map_map]; rfl)) (by
      rw [sum_ones]
      unfold txtOf
      simp
      omega)
    rw [joinL_signs] at ej
    exact ej


theorem ok_enc (D : Def K mg "encode_text" s_encode_text ["text"]) (T : Tx K w mg J) : Cal CX0 P w K mg base 1 "encode_text" spEnc := by
  refine cal0 D sc_encode_text (fun vs H Q E h => ?_) (fun f cdv A outer s H vs Q E hr h => ?_)
  · obtain ⟨_, ⟨n, rfl, _⟩, _⟩ := h
    rfl
  obtain ⟨_, ⟨t, rfl, hl, rfl⟩, q⟩ := h
  refine ⟨_, (pss_cons (ps_ret (pe_lc (own := [("character", 1)]) (g := gName 1) (tt := tYes) rfl sc_encode_text.nd (pi_str (pv 0)) (blkOk_by (N := ["text", "character"]) (sc := defScope s_encode_text) (by decide +kernel)) (fun _ _ _ _ _ => (pg_name (i := 1) sc_encode_text.nd rfl (.inl rfl))) (fun _ _ _ _ _ => pts_nil) (fun _ _ _ _ _ => (pe_callB call_ord (by rfl) T.z_ord (by decide +kernel) (pa_cons (pv 1) pa_nil))))) pss_nil), R.go ?_⟩
  refine r_retN (o := .lst ((t.map fun c : Nat => (c : Int)).map V.int)) (by
    rw [List.map_map]
    exact en_lcS (fun c => V.int (c : Int)) (ei_str (ev_var rfl)) (by omega) (fun _ => rfl) (fun c _ B' e' => ev_ord (ev_var rfl))) (fun p np H1 e1 => q p H1 np ((Ex.new np).trans e1) (e1 p _ upd_same))

/-! ### the reader -/
def okT (t : List Nat) : Prop := t.length ≤ 30000 ∧ ∀ c ∈ t, c < 128
def rdF (t : List Nat) (a : Nat) : List (Str × V) := [("text", .str (SX.S t)), ("at", .int (a : Int))]
theorem rdF_at {t : List Nat} {a : Nat} : (rdF t a).lookup ("at" : Str) = some (.int (a : Int)) := by
  unfold rdF
  rw [lk_ne (by decide +kernel), lk_eq]
theorem rdF_text {t : List Nat} {a : Nat} : (rdF t a).lookup ("text" : Str) = some (.str (SX.S t)) := lk_eq
theorem rdF_no {t : List Nat} {a : Nat} {m : Str} (h1 : (m == ("text" : Str)) = false) (h2 : (m == ("at" : Str)) = false) : (rdF t a).lookup m = none := by
  unfold rdF
  rw [lk_ne h1, lk_ne h2]
  rfl
theorem rdF_put {t : List Nat} {a b : Nat} {x : Int} (h : x = (b : Int)) : putF ("at" : Str) (.int x) (rdF t a) = rdF t b := by
  subst h
  unfold rdF
  rw [put_ne (by decide +kernel), put_eq]
structure RdC (K : PySem.W.Frag) (C : Addr) : Prop where
  c : Cls K C
  nT : NoAttr K C "text"
  nA : NoAttr K C "at"
abbrev Mv (H : Hp) (rd C dx : Addr) (t : List Nat) (b : Nat) (H' : Hp) : Prop := Ex (upd H rd (.ins C dx (rdF t b))) H'
section
variable {K : PySem.W.Frag} {σ : L2.St} {B H H' : Hp} {te tb : TE} {rd C dx : Addr} {t : List Nat} {a b : Nat} {tz : TS} {D : Ends}
theorem Mv.at_ (m : Mv H rd C dx t b H') : H' rd = some (.ins C dx (rdF t b)) := m rd _ upd_same
theorem Mv.id (h : H rd = some (.ins C dx (rdF t a))) : Mv H rd C dx t a H := fun x o e => by
  by_cases c : x = rd
  · subst c
    rw [upd_same] at e
    cases e
    exact h
  · rw [upd_ne c] at e
    exact e
theorem Mv.old (m : Mv H rd C dx t b H') (h : H' d = none) : H d = none := by
  have h2 := fresh_back m h
  by_cases c : d = rd
  · subst c
    rw [upd_same] at h2
    cases h2
  · rwa [upd_ne c] at h2
theorem Mv.then {H2 : Hp} (m : Mv H rd C dx t a H') (n : Mv H' rd C dx t b H2) : Mv H rd C dx t b H2 := fun x o e => by
  refine n x o ?_
  by_cases c : x = rd
  · subst c
    rw [upd_same] at e ⊢
    exact e
  · rw [upd_ne c] at e ⊢
    exact m x o (by rw [upd_ne c]; exact e)
theorem Mv.set (m : Mv H rd C dx t a H') : Mv H rd C dx t b (upd H' rd (.ins C dx (rdF t b))) := m.then (Ex.refl _)
theorem Mv.more {H2 : Hp} (m : Mv H rd C dx t a H') (e : Ex H' H2) : Mv H rd C dx t a H2 := m.trans e
theorem Mv.keep (m : Mv H rd C dx t b H') {x : Addr} {o : HO} (h : H x = some o) (hn : x ≠ rd) : H' x = some o := m x o (by rw [upd_ne hn]; exact h)
theorem ev_at (R0 : RdC K C) (h : Ev te σ B (.ref rd)) (hB : B rd = some (.ins C dx (rdF t a))) : Ev (tFld K te "at") σ B (.int (a : Int)) := ev_fld h hB R0.c R0.nA rdF_at
theorem ev_text (R0 : RdC K C) (h : Ev te σ B (.ref rd)) (hB : B rd = some (.ins C dx (rdF t a))) : Ev (tFld K te "text") σ B (.str (SX.S t)) := ev_fld h hB R0.c R0.nT rdF_text
theorem r_step (R0 : RdC K C) (h : Ev te σ B (.ref rd)) (hB : B rd = some (.ins C dx (rdF t a))) (k : R tz D σ (upd B rd (.ins C dx (rdF t (a + 1))))) : R (tSeq (sFldAug K te (tC (.int 1)) rAdd "at") tz) D σ B := by
  refine r_fldAdd h hB R0.c R0.nA rdF_at (by show 2 < 1000; decide) ev_c ?_
  rw [rdF_put (b := a + 1) (by omega)]
  exact k
/-- signs compared -/
theorem ev_eqS {x y : List Nat} (ha : Ev te σ B (.str (SX.S x))) (hb : Ev tb σ B (.str (SX.S y))) : Ev (tOp rEq te tb) σ B (.bl (decide (x = y))) := by
  have e : decide (x = y) = decide (V.str (SX.S x) = V.str (SX.S y)) := by
    refine decide_eq_decide.mpr ⟨fun h => by rw [h], fun h => ?_⟩
    have h2 : SX.S x = SX.S y := by injection h
    have := congrArg (fun z : Str => z.cps.toList) h2
    simpa [SX.S] using this
  rw [e]
  exact ev_op ha hb (rv_eq rfl)
theorem ev_neS {x y : List Nat} (ha : Ev te σ B (.str (SX.S x))) (hb : Ev tb σ B (.str (SX.S y))) : Ev (tOp rNe te tb) σ B (.bl (!decide (x = y))) := by
  have e : decide (x = y) = decide (V.str (SX.S x) = V.str (SX.S y)) := by
    refine decide_eq_decide.mpr ⟨fun h => by rw [h], fun h => ?_⟩
    have h2 : SX.S x = SX.S y := by injection h
    have := congrArg (fun z : Str => z.cps.toList) h2
    simpa [SX.S] using this
  rw [e]
  exact ev_op ha hb (rv_ne rfl)
theorem ev_lit {z : Str} (l : List Nat) (h : z = SX.S l) : Ev (tC (.str z)) σ B (.str (SX.S l)) := by
  rw [h]
  exact ev_c
theorem ev_findS {x y : Str} (h : Ev te σ B (.str x)) (h2 : Ev tb σ B (.str y)) : Ev (tM1 (fun x xs H Q => ∃ a b, x = .str a ∧ xs = [.str b] ∧ Q (.int (Txt.find a b)) H) te tb) σ B (.int (Txt.find x y)) := fun H1 e Q q =>
  h H1 e _ fun H2 e2 => ⟨⟨x, rfl⟩, h2 H2 (e.trans e2) _ fun H3 e3 => ⟨x, y, rfl, rfl, q H3 (e2.trans e3)⟩⟩
theorem ev_lowerS {x : Str} (h : Ev te σ B (.str x)) (hz : x.length ≤ 5592405) : Ev (tM0 (fun x xs H Q => ∃ a, x = .str a ∧ xs = [] ∧ a.length ≤ 5592405 ∧ Q (.str (Txt.lower a)) H) te) σ B (.str (Txt.lower x)) := fun H1 e Q q =>
  h H1 e _ fun H2 e2 => ⟨⟨x, rfl⟩, x, rfl, rfl, hz, q H2 e2⟩
/-- a method that changes nothing -/
theorem ev_m {mg : Str → Option Value} {pre : List V → Hp → OutM → Prop} {W : WX} {fs : List (Str × V)} {m : Str} {as : TA} {vs : List V} {v : V} {x : Addr} (he : Ev te σ B (.ref x)) (hB : B x = some (.ins C dx fs)) (hl : fs.lookup m = none) (ha : EvA as σ B vs)
    (hp : ∀ H, Ex B H → pre (.ref x :: vs) H (.val fun v' H' => v' = v ∧ Ex H H')) : Ev (tMethX C m (spM mg pre) (WE W) te as) σ B v := fun H1 e Q q =>
  he H1 e _ fun H2 e2 => ⟨x, dx, fs, rfl, (e.trans e2) x _ hB, hl, ha H2 (e.trans e2) _ fun H3 e3 => ⟨_, hp H3 ((e.trans e2).trans e3), fun v' H4 ⟨ev, e4⟩ => by
    subst ev
    exact q H4 ((e2.trans e3).trans e4)⟩⟩
end
theorem rv_kdN {K : PySem.W.Frag} {B : Hp} {d : Addr} {z : Str} {r : Option Value} (h : PySem.W.nsIn K d z = some r) : RV (fun x y H Q => ∃ (z : Str) (r : Option Value), x = .str z ∧ y = .ref d ∧ PySem.W.nsIn K d z = some r ∧ Q (.bl (!r.isSome)) H) (.str z) (.ref d) B (.bl (!r.isSome)) := fun H1 _ Q q => ⟨z, r, rfl, rfl, h, q H1 (Ex.refl H1)⟩
theorem rv_kdI {K : PySem.W.Frag} {w : World} {B : Hp} {d : Addr} {z : Str} {es : Array DictEntry} {n : Nat} {u : Value} {v : V} (D : KDict K w d es n) (h : PySem.W.nsIn K d z = some (some u)) (r : RelV v u) : RV (rIxD K w) (.ref d) (.str z) B v := fun H1 _ Q q => ⟨d, z, v, rfl, rfl, ⟨es, n, u, D.at_, D.lit, h, r⟩, q H1 (Ex.refl H1)⟩
theorem cutS_S {t : List Nat} {a b : Nat} (ha : a ≤ t.length) (hb : b ≤ t.length) : cutS (SX.S t) (some (a : Int)) (some (b : Int)) = SX.S (cutL t a b) := by
  unfold cutS
  rw [HT.sIx_nat, HT.sIx_nat, SX.S_len, Nat.min_eq_left ha, Nat.min_eq_left hb]
  unfold cutL SX.S
  simp
theorem ch_le {t : List Nat} {a : Nat} : (chL t a).length ≤ 1 := by
  unfold chL
  cases t[a]? <;> simp
theorem ch_lt {t : List Nat} (h : okT t) {a : Nat} : ∀ c ∈ chL t a, c < 128 := by
  intro c hc
  unfold chL at hc
  cases e : t[a]? with
  | none => rw [e] at hc; simp at hc
  | some d =>
    rw [e] at hc
    simp at hc
    subst hc
    exact h.2 _ (List.mem_of_getElem? e)
def V.eqS (x y : List Nat) : Bool := eqV (.str (SX.S x)) (.str (SX.S y))
def digO : Option Nat → V
  | some k => .int (k : Int)
  | none => .non
def digL (l : List Nat) (b : Nat) : Option Nat := match l with
  | [c] => digN c b
  | _ => none
def digV (l : List Nat) (b : Nat) : V := digO (digL l b)
def spDig : Sp := PV fun vs _ z => ∃ (l : List Nat) (b : Nat), vs = [.str (SX.S l), .int (b : Int)] ∧ (b = 10 ∨ b = 16) ∧ l.length ≤ 1 ∧ (∀ c ∈ l, c < 128) ∧ z = digV l b
def preRd (C : Addr) (args : List V) (out : Addr → Addr → List Nat → Nat → Hp → OutM) (vs : List V) (H : Hp) (r : OutM) : Prop := ∃ rd dx t a, vs = .ref rd :: args ∧ H rd = some (.ins C dx (rdF t a)) ∧ okT t ∧ a ≤ t.length ∧ r = out rd dx t a H
def errR (C rd dx : Addr) (t : List Nat) (H : Hp) (e : Nat) : OutM := .err "InvalidJson" (.int (e : Int)) fun H' => ∃ b, Mv H rd C dx t b H'
def outC (C rd dx : Addr) (t : List Nat) (H : Hp) : Rc → OutM
  | .ok c a' => .val fun v H' => v = .str (SX.S [c]) ∧ Mv H rd C dx t a' H'
  | .er e => errR C rd dx t H e
def outT (C rd dx : Addr) (t : List Nat) (H : Hp) : Rt → OutM
  | .ok cs a' => .val fun v H' => v = .str (SX.S cs) ∧ Mv H rd C dx t a' H'
  | .er e => errR C rd dx t H e
def outS (K : PySem.W.Frag) (C rd dx : Addr) (t : List Nat) (H : Hp) : Rs → OutM
  | .ok d a' => .val fun v H' => Mv H rd C dx t a' H' ∧ ∃ N, Ex N H' ∧ (∀ p, N p ≠ none → H p = none) ∧ Dq K N v d
  | .er e => errR C rd dx t H e
def prePeek (C : Addr) : List V → Hp → OutM → Prop := preRd C [] fun rd dx t a H => .val fun v H' => v = chS t a ∧ Ex H H'
def preTok (C : Addr) : List V → Hp → OutM → Prop := preRd C [] fun rd dx t a H => .val fun v H' => v = chS t (skB t a) ∧ Mv H rd C dx t (skB t a) H'
theorem eqS_one {z c : Nat} : V.eqS [z] [c] = decide (z = c) := by
  unfold V.eqS
  show (SX.S [z] == SX.S [c]) = decide (z = c)
  rw [Bool.eq_iff_iff, beq_iff_eq, decide_eq_true_iff]
  exact ⟨fun h => by
    have := congrArg (fun x : Str => x.cps.toList) h
    simpa [SX.S] using this, fun h => by rw [h]⟩
theorem ok_digit (D : Def K mg "digit_of" s_digit_of ["character", "base"]) (T : Tx K w mg J) : Cal CX0 P w K mg base 1 "digit_of" spDig := by
  refine cal0 D sc_digit_of (fun vs H Q E h => ?_) (fun f cdv A outer s H vs Q E hr h => ?_)
  · obtain ⟨_, ⟨_, _, rfl, _⟩, _⟩ := h
    rfl
  obtain ⟨_, ⟨l, b, rfl, hbase, hl, hc, rfl⟩, q⟩ := h
  refine ⟨_, (pss_cons (ps_if (pt_cmpR op_eq (pv 0) pe_str (nomark _))
      (pss_cons (ps_ret pe_non) pss_nil)
      pss_nil)
    (pss_cons (ps_set (i := 2) sc_digit_of.nd rfl (.inl rfl) (pe_m1 PySem.F.slot_str_find PySem.F.type_str_find mt_find (pe_slice sl_str (pe_gc (by rfl) T.g_DIGITS) po_none (po_some (pv 1))) (pe_m0 PySem.F.slot_str_lower PySem.F.type_str_lower mt_lower (pv 0))))
    (pss_cons (ps_ret (pe_ifExp (pt_cmpR op_lt (pv 2) pe_int (nomark _)) pe_non (pv 2))) pss_nil))), R.go ?_⟩
  refine r_when (et_test (ev_eqS (ev_var rfl) (ev_lit [] rfl))) (fun hb => ?_) (fun hb => ?_)
  · have h0 : l = [] := by simpa using hb
    subst h0
    exact r_ret ev_c (fun H1 e1 => q H1 e1)
  have h0 : l ≠ [] := by simpa using hb
  obtain ⟨c, rfl⟩ : ∃ c, l = [c] := by
    cases l with
    | nil => exact absurd rfl h0
    | cons c r =>
      cases r with
      | nil => exact ⟨c, rfl⟩
      | cons d r => simp at hl
  have hc' := hc c List.mem_cons_self
  refine r_asg (v := .int (digI (digN c b))) ?_ ?_
  · rcases hbase with rfl | rfl
    · rw [← dig10_at c hc']
      exact ev_findS (ev_slice_str (lo := none) (hi := some 10) ev_c eo_none (eo_some (ev_var rfl)) (by decide)) (ev_lowerS (ev_var rfl) (by rw [SX.S_len]; simp))
    · rw [← dig16_at c hc']
      exact ev_findS (ev_slice_str (lo := none) (hi := some 16) ev_c eo_none (eo_some (ev_var rfl)) (by decide)) (ev_lowerS (ev_var rfl) (by rw [SX.S_len]; simp))
  cases hd : digN c b with
  | none =>
    have e : digV [c] b = .non := by
      show digO (digN c b) = _
      rw [hd]
      rfl
    rw [e] at q
    exact r_ret (ev_if (et_test (ev_op (ev_var rfl) ev_c rv_cmp)) (fun hb => ev_c) (fun hb => by
      have := of_decide_eq_false hb
      simp [digI] at this)) (fun H1 e1 => q H1 e1)
  | some k =>
    have e : digV [c] b = .int (k : Int) := by
      show digO (digN c b) = _
      rw [hd]
      rfl
    rw [e] at q
    exact r_ret (ev_if (et_test (ev_op (ev_var rfl) ev_c rv_cmp)) (fun hb => by
      have := of_decide_eq_true hb
      simp [digI] at this
      omega) (fun hb => ev_var rfl)) (fun H1 e1 => q H1 e1)
theorem ok_peek {C : Addr} (D : DefM K C "peek" "JsonReader.peek" s_JsonReader_peek ["self"]) (R0 : RdC K C) (T : Tx K w mg J) : MetX P w K mg base 1 C "peek" (spM mg (prePeek C)) := by
  refine metX D sc_JsonReader_peek (fun vs H Q E h => ?_) (fun f cdv A outer s H vs Q E hr h => ?_)
  · obtain ⟨_, ⟨_, _, _, _, rfl, _⟩, _⟩ := h
    rfl
  obtain ⟨_, ⟨rd, dx, t, a, rfl, hB, ht, ha, rfl⟩, q⟩ := h
  refine ⟨_, (pss_cons (ps_if (pt_cmpR op_lt (pe_fld (pv 0) rfl) (pe_callB call_len_str (by rfl) T.z_len PySem.boot_len (pa_cons (pe_fld (pv 0) rfl) pa_nil)) (nomark _))
      (pss_cons (ps_ret (pe_ix ix_str (pe_fld (pv 0) rfl) (pe_fld (pv 0) rfl) (fun _ _ => rfl))) pss_nil)
      pss_nil)
    (pss_cons (ps_ret pe_str) pss_nil)), R.go ?_⟩
  refine r_when (et_test (ev_op (ev_at R0 (ev_var rfl) hB) (ev_lenS (ev_text R0 (ev_var rfl) hB) (by have := ht.1; omega)) rv_cmp)) (fun hb => ?_) (fun hb => ?_)
  · have hl : a < t.length := by simpa using hb
    refine r_ret (ev_op (ev_text R0 (ev_var rfl) hB) (ev_at R0 (ev_var rfl) hB) (rv_ixSt (by have := ht.1; omega) (by omega) (by omega))) (fun H1 e1 => ?_)
    refine q _ H1 ⟨?_, e1⟩
    unfold chS
    rw [chL_some (List.getElem?_eq_getElem hl)]
    simp [List.getD, List.getElem?_eq_getElem hl]
  · have hl : t.length ≤ a := by simpa using hb
    refine r_ret ev_c (fun H1 e1 => q _ H1 ⟨?_, e1⟩)
    unfold chS
    rw [chL_none (List.getElem?_eq_none hl)]
    rfl
section
variable {σ : L2.St} {B : Hp} {te : TE} {rd C dx : Addr} {t : List Nat} {a : Nat} {W : WX}
/-- self.peek() -/
theorem ev_peek (h : Ev te σ B (.ref rd)) (hB : B rd = some (.ins C dx (rdF t a))) (ht : okT t) (ha : a ≤ t.length) : Ev (tMethX C "peek" (spM mg (prePeek C)) (WE W) te tNil) σ B (.str (SX.S (chL t a))) :=
  ev_m h hB (rdF_no (by decide +kernel) (by decide +kernel)) ea_nil (fun H e => ⟨rd, dx, t, a, rfl, e rd _ hB, ht, ha, rfl⟩)
/-- self.peek_token() -/
theorem em_tok {H0 : Hp} {Φ : V → Hp → Prop} (h : Ev te σ B (.ref rd)) (m : Mv H0 rd C dx t a B) (ht : okT t) (ha : a ≤ t.length) (k : ∀ H', Mv H0 rd C dx t (skB t a) H' → Φ (.str (SX.S (chL t (skB t a)))) H') : EvM (tMethX C "peek_token" (spM mg (preTok C)) (WE W) te tNil) σ B Φ :=
  em_m h m.at_ (rdF_no (by decide +kernel) (by decide +kernel)) ea_nil (fun H e => ⟨_, ⟨rd, dx, t, a, rfl, e rd _ m.at_, ht, ha, rfl⟩, fun v H' ⟨ev, mv⟩ => by
    subst ev
    exact k H' ((m.more e).then mv)⟩)
end
section
variable {σ : L2.St} {B H : Hp} {te : TE} {rd C dx : Addr} {t : List Nat} {a a' : Nat} {W : WX} {as : TA} {vs : List V} {m : Str} {pre : List V → Hp → OutM → Prop} {Pv : V → Prop} {e : Nat}
theorem em_mv (h : Ev te σ B (.ref rd)) (mv : Mv H rd C dx t a B) (no : (rdF t a).lookup m = none) (ha : EvA as σ B vs) (hpre : ∀ H2, Ex B H2 → pre (.ref rd :: vs) H2 (.val fun v H' => Pv v ∧ Mv H2 rd C dx t a' H')) :
    EvM (tMethX C m (spM mg pre) (WE W) te as) σ B (fun v H' => Pv v ∧ Mv H rd C dx t a' H') :=
  em_m h mv.at_ no ha fun H2 e => ⟨_, hpre H2 e, fun v H' ⟨hv, m3⟩ => ⟨hv, (mv.more e).then m3⟩⟩
theorem ee_mv (h : Ev te σ B (.ref rd)) (mv : Mv H rd C dx t a B) (no : (rdF t a).lookup m = none) (ha : EvA as σ B vs) (hpre : ∀ H2, Ex B H2 → pre (.ref rd :: vs) H2 (errR C rd dx t H2 e)) :
    EvEM mg W (tMethX C m (spM mg pre) (WE W) te as) σ B "InvalidJson" (.int (e : Int)) (fun H' => ∃ b, Mv H rd C dx t b H') :=
  ee_m h mv.at_ no ha fun H2 e => ⟨_, hpre H2 e, fun H' ⟨b, m3⟩ => ⟨b, (mv.more e).then m3⟩⟩
end
theorem ok_tok {C : Addr} (D : DefM K C "peek_token" "JsonReader.peek_token" s_JsonReader_peek_token ["self"]) (R0 : RdC K C) (T : Tx K w mg J) (Z_JsonReader : Cls K C) (m_JsonReader_peek : MetX P w K mg base 1 C "peek" (spM mg (prePeek C))) : MetX P w K mg base 2 C "peek_token" (spM mg (preTok C)) := by
  refine metX D sc_JsonReader_peek_token (fun vs H Q E h => ?_) (fun f cdv A outer s H vs Q E hr h => ?_)
  · obtain ⟨_, ⟨_, _, _, _, rfl, _⟩, _⟩ := h
    rfl
  obtain ⟨_, ⟨rd, dx, t, a, rfl, hB, ht, ha, rfl⟩, q⟩ := h
  refine ⟨_, (pss_cons (ps_while (passes_of rfl) (pt_cmpR op_in_seq (pe_mX0 m_JsonReader_peek (takes_of rfl rfl rfl rfl) hr (by decide) Z_JsonReader (pv 0)) (pe_gc (by rfl) T.g_BLANKS) (by with_unfolding_all rfl))
      (pss_cons (ps_fldaug (pv 0) pe_int in_add) pss_nil))
    (pss_cons (ps_ret (pe_mX0 m_JsonReader_peek (takes_of rfl rfl rfl rfl) hr (by decide) Z_JsonReader (pv 0))) pss_nil)), R.go ?_⟩
  refine r_while (fun m σ B => ∃ b, σ = [some (.ref rd)] ∧ Mv H rd C dx t b B ∧ b ≤ t.length ∧ m = t.length - b ∧ skB t b = skB t a) (t.length - a) ⟨a, rfl, Mv.id hB, ha, rfl, rfl⟩ (fun m σ B hI => ?_)
  obtain ⟨b, rfl, mv, hb, rfl, hk⟩ := hI
  have hBB : ∀ l : List Nat, l.length ≤ 1 → inV (.str (SX.S l)) [.str (SX.S [32]), .str (SX.S [9]), .str (SX.S [10])] = (match l with
    | [c] => isBl c
    | _ => false) := by
    intro l hl
    match l, hl with
    | [], _ => decide +kernel
    | [c], _ =>
      show (V.eqS [32] [c] || (V.eqS [9] [c] || (V.eqS [10] [c] || false))) = _
      have e : ∀ z : Nat, decide (z = c) = (c == z) := fun z => by
        rw [Bool.eq_iff_iff, decide_eq_true_iff, beq_iff_eq]
        exact eq_comm
      rw [eqS_one, eqS_one, eqS_one, e, e, e, Bool.or_false, ← Bool.or_assoc]
      rfl
  refine ⟨_, (et_test (ev_op (ev_peek (ev_var rfl) mv.at_ ht hb) ev_c (rv_isT (T.t_BLANKS _) rfl rfl))), fun hc => ?_, fun hc => ?_⟩
  · rw [hBB _ ch_le] at hc
    cases he : t[b]? with
    | none =>
      rw [chL_none he] at hc
      cases hc
    | some c =>
      rw [chL_some he] at hc
      have hl := (List.getElem?_eq_some_iff.mp he).1
      refine r_step R0 (ev_var rfl) mv.at_ ?_
      exact r_next (fun H1 e1 => ⟨t.length - (b + 1), by omega, _, e1, b + 1, rfl, mv.set, by omega, rfl, by rw [← skB_step he hc]; exact hk⟩)
  · rw [hBB _ ch_le] at hc
    have hs : skB t b = b := skB_stop (fun c he => by
      rw [chL_some he] at hc
      exact hc)
    rw [hs] at hk
    refine r_ret (ev_peek (ev_var rfl) mv.at_ ht hb) (fun H1 e1 => q _ H1 ?_)
    rw [← hk]
    exact ⟨rfl, mv.more e1⟩
section
variable {σ : L2.St} {B : Hp} {te : TE} {rd C dx : Addr} {t : List Nat} {a : Nat} {W : WX} {E : XK}
/-- digit_of(self.peek(), b) -/
theorem ev_digP {H0 : Hp} (h : Ev te σ B (.ref rd)) (m : Mv H0 rd C dx t a B) (ht : okT t) (ha : a ≤ t.length) (b : Nat) (hb : b = 10 ∨ b = 16) : Ev (tCall spDig [] E (tCons (tMethX C "peek" (spM mg (prePeek C)) (WE W) te tNil) (tCons (tC (.int (b : Int))) tNil))) σ B (digV (chL t a) b) :=
  ev_pv (ea_cons (ev_peek h m.at_ ht ha) (ea_cons ev_c ea_nil)) (fun H _ => ⟨chL t a, b, rfl, hb, ch_le, ch_lt ht, rfl⟩)
theorem dig_none {l : List Nat} {b : Nat} : decide (digV l b = .non) = (digL l b).isNone := by
  unfold digV
  cases digL l b <;> simp [digO]
end
theorem hexA_L {t : List Nat} {a : Nat} : hexA t a = digL (chL t a) 16 := by
  unfold hexA chL
  cases t[a]? <;> rfl
def preCode (C : Addr) (vs : List V) (H : Hp) (r : OutM) : Prop := ∃ (rd dx : Addr) (t : List Nat) (a b : Nat), vs = [.ref rd, .int (b : Int)] ∧ H rd = some (.ins C dx (rdF t a)) ∧ okT t ∧ a ≤ t.length ∧ a = b + 2 ∧ r = outC C rd dx t H (rdCode t b)
def preEsc (C : Addr) (vs : List V) (H : Hp) (r : OutM) : Prop := ∃ (rd dx : Addr) (t : List Nat) (a : Nat), vs = [.ref rd] ∧ H rd = some (.ins C dx (rdF t a)) ∧ okT t ∧ a ≤ t.length ∧ t[a]? = some 92 ∧ r = outC C rd dx t H (rdEsc t a)
theorem cdB_code (n : Nat) : codeB (n : Int) = cdB n := by
  rw [Bool.eq_iff_iff, codeB_iff]
  unfold cdB
  simp
  omega
theorem ok_rcode {C C_J : Addr} (D : DefM K C "read_code" "JsonReader.read_code" s_JsonReader_read_code ["self", "begin"]) (R0 : RdC K C) (T : Tx K w mg J) (Z_JsonReader : Cls K C) (Z_InvalidJson : ErrC P w K mg base "InvalidJson" C_J) (c_digit_of : Cal CX0 P w K mg base 1 "digit_of" spDig) (c_character_of : Cal CX0 P w K mg base 2 "character_of" spChar)
    (m_JsonReader_peek : MetX P w K mg base 1 C "peek" (spM mg (prePeek C))) : MetX P w K mg base 3 C "read_code" (spM mg (preCode C)) := by
  refine metX D sc_JsonReader_read_code (fun vs H Q E h => ?_) (fun f cdv A outer s H vs Q E hr h => ?_)
  · obtain ⟨_, ⟨_, _, _, _, _, rfl, _⟩, _⟩ := h
    rfl
  obtain ⟨_, ⟨rd, dx, t, a, b, rfl, hB, ht, ha, hab, rfl⟩, q⟩ := h
  refine ⟨_, (pss_cons (ps_set (i := 2) sc_JsonReader_read_code.nd rfl (.inl rfl) pe_int)
    (pss_cons (ps_for (passes_of rfl) rfl (pi_range1 rfl T.z_range (pa_cons pe_int pa_nil)) (pg_name (i := 3) sc_JsonReader_read_code.nd rfl (.inl rfl))
      (pss_cons (ps_set (i := 4) sc_JsonReader_read_code.nd rfl (.inl rfl) (pe_c c_digit_of hr (by decide) (by rfl) (pa_cons (pe_mX0 m_JsonReader_peek (takes_of rfl rfl rfl rfl) hr (by decide) Z_JsonReader (pv 0)) (pa_cons pe_int pa_nil))))
      (pss_cons (ps_if (pt_cmpR op_isN (pv 4) pe_non (nomark _))
        (pss_cons (ps_raiseC Z_InvalidJson rfl (takes_of rfl rfl rfl rfl) hr (by decide) (by rfl) (pa_cons (pe_fld (pv 0) rfl) pa_nil)) pss_nil)
        pss_nil)
      (pss_cons (ps_set (i := 2) sc_JsonReader_read_code.nd rfl (.inl rfl) (pe_op op_add (pe_op op_mul pe_int (pv 2)) (pv 4)))
      (pss_cons (ps_fldaug (pv 0) pe_int in_add) pss_nil)))))
    (pss_cons (ps_set (i := 5) sc_JsonReader_read_code.nd rfl (.inl rfl) (pe_c c_character_of hr (by decide) (by rfl) (pa_cons (pv 2) pa_nil)))
    (pss_cons (ps_if (pt_cmpR op_isN (pv 5) pe_non (nomark _))
      (pss_cons (ps_raiseC Z_InvalidJson rfl (takes_of rfl rfl rfl rfl) hr (by decide) (by rfl) (pa_cons (pv 1) pa_nil)) pss_nil)
      pss_nil)
    (pss_cons (ps_ret (pv 5)) pss_nil))))), R.go ?_⟩
  refine r_asg ev_c ?_
  refine r_forR1 (ea_cons ev_c ea_nil) ⟨by decide, by decide⟩ (fun i σ B => ∃ (code : Nat) (y3 y4 : Option V), σ = [some (.ref rd), some (.int (b : Int)), some (.int (code : Int)), y3, y4, none] ∧ Mv H rd C dx t (a + i) B ∧ a + i ≤ t.length ∧ i ≤ 4 ∧ cdGo t b (4 - i) (a + i) code = rdCode t b)
    ⟨0, none, none, rfl, Mv.id hB, ha, by decide, by rw [hab]; rfl⟩ (fun i σ B hi hI => ?_) (fun σ B hI => ?_)
  · obtain ⟨code, y3, y4, rfl, mv, hl, h4, hc⟩ := hI
    obtain ⟨j, hj⟩ : ∃ j, 4 - i = j + 1 := ⟨3 - i, by omega⟩
    rw [hj] at hc
    refine r_asg (ev_digP (ev_var rfl) mv ht hl 16 (.inr rfl)) ?_
    have hx : hexA t (a + i) = digL (chL t (a + i)) 16 := hexA_L
    refine r_when (et_test (ev_op (ev_var rfl) ev_c rv_isN)) (fun hb => ?_) (fun hb => ?_)
    · rw [dig_none] at hb
      have hn : hexA t (a + i) = none := by
        rw [hx]
        simpa using hb
      have hc : (match hexA t (a + i) with
        | none => Rc.er (a + i)
        | some d => cdGo t b j (a + i + 1) (16 * code + d)) = rdCode t b := hc
      rw [hn] at hc
      have hc : Rc.er (a + i) = rdCode t b := hc
      rw [← hc] at q
      exact r_raise Z_InvalidJson.k (ev_at R0 (ev_var rfl) mv.at_) (fun d H1 nd e1 hd => q C_J d H1 Z_InvalidJson.gC (mv.old nd) ⟨_, mv.more e1⟩ hd)
    · rw [dig_none] at hb
      obtain ⟨d, hd⟩ : ∃ d, hexA t (a + i) = some d := by
        rw [hx]
        cases he : digL (chL t (a + i)) 16 with
        | none => rw [he] at hb; cases hb
        | some d => exact ⟨d, rfl⟩
      have hdl := hexA_lt hd
      have hc : (match hexA t (a + i) with
        | none => Rc.er (a + i)
        | some d => cdGo t b j (a + i + 1) (16 * code + d)) = rdCode t b := hc
      rw [hd] at hc
      have hv : digV (chL t (a + i)) 16 = .int (d : Int) := by
        unfold digV
        rw [← hx, hd]
        rfl
      rw [hv]
      refine r_asg (v := .int ((16 * code + d : Nat) : Int)) (by
        rw [Int.natCast_add, Int.natCast_mul]
        exact ev_op (ev_op ev_c (ev_var rfl) (rv_arC (.inl ⟨by decide, by decide⟩))) (ev_var rfl) rv_ar) ?_
      refine r_step R0 (ev_var rfl) mv.at_ ?_
      exact r_up ⟨_, _, _, rfl, mv.set, by omega, by omega, by rw [show 4 - (i + 1) = j by omega]; exact hc⟩
  · obtain ⟨code, y3, y4, rfl, mv, hl, h4, hc⟩ := hI
    have e4 : Int.toNat 4 = 4 := rfl
    rw [e4] at mv hl hc
    have hc : (if cdB code = true then Rc.ok code (a + 4) else .er b) = rdCode t b := hc
    refine r_asg (ev_pv (ea_cons (ev_var rfl) ea_nil) (fun H _ => ⟨_, rfl, rfl⟩)) ?_
    cases hcb : cdB code with
    | false =>
      rw [hcb, if_neg (by decide)] at hc
      rw [← hc] at q
      rw [chV_no (by rw [cdB_code]; exact hcb)]
      refine r_when (et_test (ev_op (ev_var rfl) ev_c rv_isN)) (fun hb => ?_) (fun hb => by simp at hb)
      exact r_raise Z_InvalidJson.k (ev_var rfl) (fun d H1 nd e1 hd => q C_J d H1 Z_InvalidJson.gC (mv.old nd) ⟨_, mv.more e1⟩ hd)
    | true =>
      rw [hcb, if_pos rfl] at hc
      rw [← hc] at q
      rw [chV_yes (by rw [cdB_code]; exact hcb), Int.toNat_natCast]
      refine r_when (et_test (ev_op (ev_var rfl) ev_c rv_isN)) (fun hb => by simp at hb) (fun hb => ?_)
      exact r_ret (ev_var rfl) (fun H1 e1 => q _ H1 ⟨rfl, mv.more e1⟩)
theorem ok_resc {C C_J : Addr} (D : DefM K C "read_escape" "JsonReader.read_escape" s_JsonReader_read_escape ["self"]) (R0 : RdC K C) (T : Tx K w mg J) (Z_JsonReader : Cls K C) (Z_InvalidJson : ErrC P w K mg base "InvalidJson" C_J)
    (m_JsonReader_peek : MetX P w K mg base 1 C "peek" (spM mg (prePeek C))) (m_JsonReader_read_code : MetX P w K mg base 3 C "read_code" (spM mg (preCode C))) : MetX P w K mg base 4 C "read_escape" (spM mg (preEsc C)) := by
  refine metX D sc_JsonReader_read_escape (fun vs H Q E h => ?_) (fun f cdv A outer s H vs Q E hr h => ?_)
  · obtain ⟨_, ⟨_, _, _, _, rfl, _⟩, _⟩ := h
    rfl
  obtain ⟨_, ⟨rd, dx, t, a, rfl, hB, ht, ha, h92, rfl⟩, q⟩ := h
  refine ⟨_, (pss_cons (ps_set (i := 1) sc_JsonReader_read_escape.nd rfl (.inl rfl) (pe_fld (pv 0) rfl))
    (pss_cons (ps_fldaug (pv 0) pe_int in_add)
    (pss_cons (ps_set (i := 2) sc_JsonReader_read_escape.nd rfl (.inl rfl) (pe_mX0 m_JsonReader_peek (takes_of rfl rfl rfl rfl) hr (by decide) Z_JsonReader (pv 0)))
    (pss_cons (ps_if (pt_cmpR op_eq (pv 2) pe_str (nomark _))
      (pss_cons (ps_fldaug (pv 0) pe_int in_add)
      (pss_cons (ps_ret (pe_mX m_JsonReader_read_code (takes_of rfl rfl rfl rfl) hr (by decide) Z_JsonReader (pv 0) (pa_cons (pv 1) pa_nil))) pss_nil))
      pss_nil)
    (pss_cons (ps_if (pt_cmpR (op_notIn_kd T.d_ESCAPES) (pv 2) (pe_gc (by rfl) T.g_ESCAPES) (by with_unfolding_all rfl))
      (pss_cons (ps_raiseC Z_InvalidJson rfl (takes_of rfl rfl rfl rfl) hr (by decide) (by rfl) (pa_cons (pe_fld (pv 0) rfl) pa_nil)) pss_nil)
      pss_nil)
    (pss_cons (ps_fldaug (pv 0) pe_int in_add)
    (pss_cons (ps_ret (pe_ix ix_kdict (pe_gc (by rfl) T.g_ESCAPES) (pv 2) (fun _ _ => rfl))) pss_nil))))))), R.go ?_⟩
  have hl := (List.getElem?_eq_some_iff.mp h92).1
  refine r_asg (ev_at R0 (ev_var rfl) hB) ?_
  refine r_step R0 (ev_var rfl) hB ?_
  have mv : Mv H rd C dx t (a + 1) (upd H rd (.ins C dx (rdF t (a + 1)))) := Ex.refl _
  generalize upd H rd (.ins C dx (rdF t (a + 1))) = B at mv ⊢
  refine r_asg (ev_peek (ev_var rfl) mv.at_ ht (by omega)) ?_
  refine r_when (et_test (ev_eqS (ev_var rfl) (ev_lit [117] rfl))) (fun hb => ?_) (fun hb => ?_)
  · have h117 : t[a + 1]? = some 117 := by
      have := of_decide_eq_true hb
      unfold chL at this
      cases he : t[a + 1]? with
      | none => rw [he] at this; cases this
      | some c => rw [he] at this; cases this; rfl
    have hl2 := (List.getElem?_eq_some_iff.mp h117).1
    have hq : rdEsc t a = rdCode t a := by
      unfold rdEsc
      rw [h117]
      rfl
    rw [hq] at q
    refine r_step R0 (ev_var rfl) mv.at_ ?_
    have mv2 : Mv H rd C dx t (a + 1 + 1) (upd B rd (.ins C dx (rdF t (a + 1 + 1)))) := mv.set
    generalize upd B rd (.ins C dx (rdF t (a + 1 + 1))) = B2 at mv2 ⊢
    have no := rdF_no (t := t) (a := a + 1 + 1) (m := "read_code") (by decide +kernel) (by decide +kernel)
    cases hc : rdCode t a with
    | ok c a' =>
      rw [hc] at q
      exact r_retM (em_mv (ev_var rfl) mv2 no (ea_cons (ev_var rfl) ea_nil) (fun H2 e => ⟨rd, dx, t, a + 1 + 1, a, rfl, e rd _ mv2.at_, ht, by omega, by omega, by rw [hc]; rfl⟩)) (fun v B' h => q v B' h)
    | er x =>
      rw [hc] at q
      exact r_retEM (ee_mv (ev_var rfl) mv2 no (ea_cons (ev_var rfl) ea_nil) (fun H2 e => ⟨rd, dx, t, a + 1 + 1, a, rfl, e rd _ mv2.at_, ht, by omega, by omega, by rw [hc]; rfl⟩)) (fun C' d H' hm nd hp hd => q C' d H' hm (mv2.old nd) hp hd)
  have h117 : t[a + 1]? ≠ some 117 := fun z => by
    rw [chL_some z] at hb
    simp at hb
  cases he : t[a + 1]? with
  | none =>
    have hq : rdEsc t a = .er (a + 1) := by
      unfold rdEsc
      rw [he]
    rw [hq] at q
    rw [chL_none he]
    refine r_when (et_test (ev_op (ev_var rfl) ev_c (rv_kdN (T.e_no [] (by decide) (fun c h => by cases h))))) (fun hb => ?_) (fun hb => by cases hb)
    exact r_raise Z_InvalidJson.k (ev_at R0 (ev_var rfl) mv.at_) (fun d H1 nd e1 hd => q C_J d H1 Z_InvalidJson.gC (mv.old nd) ⟨_, mv.more e1⟩ hd)
  | some l =>
    have hl2 := (List.getElem?_eq_some_iff.mp he).1
    have hq : rdEsc t a = (match escC l with
        | some c => Rc.ok c (a + 2)
        | none => Rc.er (a + 1)) := by
      have hne : ¬ l = 117 := fun z => h117 (by rw [he, z])
      have e : rdEsc t a = if l = 117 then rdCode t a else (match escC l with
        | some c => Rc.ok c (a + 2)
        | none => Rc.er (a + 1)) := by
        unfold rdEsc
        rw [he] <;> rfl
      rw [e, if_neg hne]
    rw [chL_some he]
    cases hc : escC l with
    | none =>
      rw [hc] at hq
      rw [hq] at q
      refine r_when (et_test (ev_op (ev_var rfl) ev_c (rv_kdN (T.e_no [l] (by simp) (fun c h => by cases h; exact hc))))) (fun hb => ?_) (fun hb => by cases hb)
      exact r_raise Z_InvalidJson.k (ev_at R0 (ev_var rfl) mv.at_) (fun d H1 nd e1 hd => q C_J d H1 Z_InvalidJson.gC (mv.old nd) ⟨_, mv.more e1⟩ hd)
    | some c =>
      rw [hc] at hq
      rw [hq] at q
      obtain ⟨u, hu, ru⟩ := T.e_yes l c hc
      refine r_when (et_test (ev_op (ev_var rfl) ev_c (rv_kdN hu))) (fun hb => by cases hb) (fun hb => ?_)
      refine r_step R0 (ev_var rfl) mv.at_ ?_
      exact r_ret (ev_op ev_c (ev_var rfl) (rv_kdI T.d_ESCAPES hu ru)) (fun H1 e1 => q _ H1 ⟨rfl, mv.set.more e1⟩)
def chR (t : List Nat) (a : Nat) : Rc := match t[a]? with
  | none => .er a
  | some c => if c = 92 then rdEsc t a else if c = 10 ∨ c = 9 ∨ cdB c = false then .er a else .ok c (a + 1)
theorem rdStr_ch {t : List Nat} {a : Nat} {acc : List Nat} (h : t[a]? ≠ some 34) : rdStr t a acc = (match chR t a with
    | .er e => .er e
    | .ok c a' => rdStr t a' (acc ++ [c])) := by
  unfold chR
  cases he : t[a]? with
  | none => rw [rdStr_none he]
  | some c =>
    have h1 : c ≠ 34 := fun z => h (by rw [he, z])
    by_cases h2 : c = 92
    · subst h2
      rw [rdStr_esc he]
      rfl
    · show _ = (match (if c = 92 then rdEsc t a else if c = 10 ∨ c = 9 ∨ cdB c = false then Rc.er a else .ok c (a + 1)) with
        | .er e => Rt.er e
        | .ok c a' => rdStr t a' (acc ++ [c]))
      rw [if_neg h2]
      by_cases h3 : c = 10 ∨ c = 9 ∨ cdB c = false
      · rw [if_pos h3, rdStr_bad he h1 h2 h3]
      · rw [if_neg h3, rdStr_sign he h1 h2 h3]
theorem chR_ok {t : List Nat} {a c a' : Nat} (h : chR t a = .ok c a') : a < a' ∧ a' ≤ t.length := by
  unfold chR at h
  split at h
  · cases h
  · rename_i x he
    have hl := (List.getElem?_eq_some_iff.mp he).1
    split at h
    · have := rdEsc_ok h
      omega
    · split at h
      · cases h
      · cases h
        omega
def preChar (C : Addr) (vs : List V) (H : Hp) (r : OutM) : Prop := ∃ (rd dx : Addr) (t : List Nat) (a : Nat), vs = [.ref rd] ∧ H rd = some (.ins C dx (rdF t a)) ∧ okT t ∧ a ≤ t.length ∧ r = outC C rd dx t H (chR t a)
theorem ok_rchar {C C_J : Addr} (D : DefM K C "read_character" "JsonReader.read_character" s_JsonReader_read_character ["self"]) (R0 : RdC K C) (T : Tx K w mg J) (Z_JsonReader : Cls K C) (Z_InvalidJson : ErrC P w K mg base "InvalidJson" C_J) (c_is_text : Cal CX0 P w K mg base 2 "is_text" spIsText)
    (m_JsonReader_peek : MetX P w K mg base 1 C "peek" (spM mg (prePeek C))) (m_JsonReader_read_escape : MetX P w K mg base 4 C "read_escape" (spM mg (preEsc C))) : MetX P w K mg base 5 C "read_character" (spM mg (preChar C)) := by
  refine metX D sc_JsonReader_read_character (fun vs H Q E h => ?_) (fun f cdv A outer s H vs Q E hr h => ?_)
  · obtain ⟨_, ⟨_, _, _, _, rfl, _⟩, _⟩ := h
    rfl
  obtain ⟨_, ⟨rd, dx, t, a, rfl, hB, ht, ha, rfl⟩, q⟩ := h
  refine ⟨_, (pss_cons (ps_set (i := 1) sc_JsonReader_read_character.nd rfl (.inl rfl) (pe_mX0 m_JsonReader_peek (takes_of rfl rfl rfl rfl) hr (by decide) Z_JsonReader (pv 0)))
    (pss_cons (ps_if (pt_cmpR op_eq (pv 1) pe_str (nomark _))
      (pss_cons (ps_ret (pe_mX0 m_JsonReader_read_escape (takes_of rfl rfl rfl rfl) hr (by decide) Z_JsonReader (pv 0))) pss_nil)
      pss_nil)
    (pss_cons (ps_if (pw_or (pt_cmpR op_eq (pv 1) pe_str (nomark _)) (pw_or (pt_cmpR op_eq (pv 1) pe_str (nomark _)) (pw_or (pt_cmpR op_eq (pv 1) pe_str (nomark _)) (pw_or1 (pt_not (pt_val (pe_c c_is_text hr (by decide) (by rfl) (pa_cons (pv 1) pa_nil)))))))).pt
      (pss_cons (ps_raiseC Z_InvalidJson rfl (takes_of rfl rfl rfl rfl) hr (by decide) (by rfl) (pa_cons (pe_fld (pv 0) rfl) pa_nil)) pss_nil)
      pss_nil)
    (pss_cons (ps_fldaug (pv 0) pe_int in_add)
    (pss_cons (ps_ret (pv 1)) pss_nil))))), R.go ?_⟩
  have mv := Mv.id hB
  refine r_asg (ev_peek (ev_var rfl) hB ht ha) ?_
  refine r_when (et_test (ev_eqS (ev_var rfl) (ev_lit [92] rfl))) (fun hb => ?_) (fun hb => ?_)
  · have h92 : t[a]? = some 92 := by
      have := of_decide_eq_true hb
      unfold chL at this
      cases he : t[a]? with
      | none => rw [he] at this; cases this
      | some c => rw [he] at this; cases this; rfl
    have hq : chR t a = rdEsc t a := by
      unfold chR
      rw [h92]
      rfl
    rw [hq] at q
    have no := rdF_no (t := t) (a := a) (m := "read_escape") (by decide +kernel) (by decide +kernel)
    cases hc : rdEsc t a with
    | ok c a' =>
      rw [hc] at q
      exact r_retM (em_mv (ev_var rfl) mv no ea_nil (fun H2 e => ⟨rd, dx, t, a, rfl, e rd _ hB, ht, ha, h92, by rw [hc]; rfl⟩)) (fun v B' h => q v B' h)
    | er x =>
      rw [hc] at q
      exact r_retEM (ee_mv (ev_var rfl) mv no ea_nil (fun H2 e => ⟨rd, dx, t, a, rfl, e rd _ hB, ht, ha, h92, by rw [hc]; rfl⟩)) (fun C' d H' hm nd hp hd => q C' d H' hm nd hp hd)
  have hne : t[a]? ≠ some 92 := fun z => by
    rw [chL_some z] at hb
    simp at hb
  have hall : (chL t a).all (fun c => codeB (c : Int)) = (chL t a).all cdB := by
    refine List.all_congr rfl fun c => ?_
    exact cdB_code c
  have hbad : ∀ {b : Bool}, (decide (chL t a = []) || (decide (chL t a = [10]) || (decide (chL t a = [9]) || !(chL t a).all cdB))) = b → chR t a = (if b = true then .er a else .ok ((chL t a).getD 0 0) (a + 1)) := by
    intro b hb
    unfold chR
    cases he : t[a]? with
    | none =>
      rw [chL_none he] at hb
      have : b = true := by rw [← hb]; rfl
      rw [this]
      rfl
    | some c =>
      rw [chL_some he] at hb ⊢
      have h2 : ¬ c = 92 := fun z => hne (by rw [he, z])
      show (if c = 92 then rdEsc t a else if c = 10 ∨ c = 9 ∨ cdB c = false then Rc.er a else .ok c (a + 1)) = _
      rw [if_neg h2]
      have hb2 : b = decide (c = 10 ∨ c = 9 ∨ cdB c = false) := by
        rw [← hb]
        by_cases h10 : c = 10 <;> by_cases h9 : c = 9 <;> cases hcd : cdB c <;> simp [h10, h9, hcd]
      rw [hb2]
      simp only [decide_eq_true_eq]
      rfl
  refine r_when (et_or (et_test (ev_eqS (ev_var rfl) (ev_lit [] rfl))) (fun _ => et_or (et_test (ev_eqS (ev_var rfl) (ev_lit [10] rfl))) (fun _ => et_or (et_test (ev_eqS (ev_var rfl) (ev_lit [9] rfl))) (fun _ => et_not (et_B (ev_pv (ea_cons (ev_var rfl) ea_nil) (fun H _ => ⟨chL t a, rfl, by have := ch_le (t := t) (a := a); omega, rfl⟩))))))) (fun hb => ?_) (fun hb => ?_)
  · rw [hall] at hb
    rw [hbad hb, if_pos rfl] at q
    exact r_raise Z_InvalidJson.k (ev_at R0 (ev_var rfl) hB) (fun d H1 nd e1 hd => q C_J d H1 Z_InvalidJson.gC nd ⟨_, mv.more e1⟩ hd)
  · rw [hall] at hb
    rw [hbad hb, if_neg (by decide)] at q
    obtain ⟨c, hc⟩ : ∃ c, t[a]? = some c := by
      cases he : t[a]? with
      | none => rw [chL_none he] at hb; cases hb
      | some c => exact ⟨c, rfl⟩
    rw [chL_some hc] at q ⊢
    refine r_step R0 (ev_var rfl) hB ?_
    exact r_ret (ev_var rfl) (fun H1 e1 => q _ H1 ⟨rfl, mv.set.more e1⟩)
def preStr (C : Addr) (vs : List V) (H : Hp) (r : OutM) : Prop := ∃ (rd dx : Addr) (t : List Nat) (a : Nat), vs = [.ref rd] ∧ H rd = some (.ins C dx (rdF t a)) ∧ okT t ∧ a ≤ t.length ∧ t[a]? = some 34 ∧ r = outT C rd dx t H (rdStr t (a + 1) [])
theorem ok_rstr {C : Addr} (D : DefM K C "read_string" "JsonReader.read_string" s_JsonReader_read_string ["self"]) (R0 : RdC K C) (T : Tx K w mg J) (Z_JsonReader : Cls K C)
    (m_JsonReader_peek : MetX P w K mg base 1 C "peek" (spM mg (prePeek C))) (m_JsonReader_read_character : MetX P w K mg base 5 C "read_character" (spM mg (preChar C))) : MetX P w K mg base 6 C "read_string" (spM mg (preStr C)) := by
  refine metX D sc_JsonReader_read_string (fun vs H Q E h => ?_) (fun f cdv A outer s H vs Q E hr h => ?_)
  · obtain ⟨_, ⟨_, _, _, _, rfl, _⟩, _⟩ := h
    rfl
  obtain ⟨_, ⟨rd, dx, t, a, rfl, hB, ht, ha, h34, rfl⟩, q⟩ := h
  refine ⟨_, (pss_cons (ps_fldaug (pv 0) pe_int in_add)
    (pss_cons (ps_set (i := 1) sc_JsonReader_read_string.nd rfl (.inl rfl) (pe_lst pa_nil))
    (pss_cons (ps_while (passes_of rfl) (pt_cmpR op_ne (pe_mX0 m_JsonReader_peek (takes_of rfl rfl rfl rfl) hr (by decide) Z_JsonReader (pv 0)) pe_str (nomark _))
      (pss_cons (ps_expr (pe_bm PySem.F.plainAttrs_list PySem.F.slot_list_append PySem.F.type_list_append mt_append (pv 1) (pa_cons (pe_mX0 m_JsonReader_read_character (takes_of rfl rfl rfl rfl) hr (by decide) Z_JsonReader (pv 0)) pa_nil))) pss_nil))
    (pss_cons (ps_fldaug (pv 0) pe_int in_add)
    (pss_cons (ps_ret (pe_join pe_str (pv 1))) pss_nil))))), R.go ?_⟩
  have hl := (List.getElem?_eq_some_iff.mp h34).1
  have hz := ht.1
  refine r_step R0 (ev_var rfl) hB ?_
  have mv : Mv H rd C dx t (a + 1) (upd H rd (.ins C dx (rdF t (a + 1)))) := Ex.refl _
  generalize upd H rd (.ins C dx (rdF t (a + 1))) = B at mv ⊢
  refine r_asgN (en_lst ea_nil (by decide)) (fun pc npc => ?_)
  have hpc : H pc = none := mv.old npc
  have hne : pc ≠ rd := fun z => by
    subst z
    rw [hB] at hpc
    cases hpc
  refine r_while (fun m σ B => ∃ (b : Nat) (acc : List Nat), σ = [some (.ref rd), some (.ref pc)] ∧ Mv H rd C dx t b B ∧ B pc = some (.lst (acc.map fun c => V.str (SX.S [c]))) ∧ b ≤ t.length ∧ acc.length ≤ b ∧ m = t.length - b ∧ rdStr t b acc = rdStr t (a + 1) []) (t.length - (a + 1)) ⟨a + 1, [], rfl, mv.more (Ex.new npc), upd_same, by omega, by simp, rfl, rfl⟩ (fun m σ B hI => ?_)
  obtain ⟨b, acc, rfl, mv, hp, hb, hacc, rfl, hk⟩ := hI
  refine ⟨_, (et_test (ev_neS (ev_peek (ev_var rfl) mv.at_ ht hb) (ev_lit [34] rfl))), fun hc => ?_, fun hc => ?_⟩
  · have h34' : t[b]? ≠ some 34 := fun z => by
      rw [chL_some z] at hc
      simp at hc
    have no := rdF_no (t := t) (a := b) (m := "read_character") (by decide +kernel) (by decide +kernel)
    rw [rdStr_ch h34'] at hk
    cases hr2 : chR t b with
    | er x =>
      rw [hr2] at hk
      have hk : Rt.er x = rdStr t (a + 1) [] := hk
      rw [← hk] at q
      exact r_appEM (ev_var rfl) ⟨_, hp⟩ (ee_mv (ev_var rfl) mv no ea_nil (fun H2 e => ⟨rd, dx, t, b, rfl, e rd _ mv.at_, ht, hb, by rw [hr2]; rfl⟩)) (fun C' d H' hm nd hp hd => q C' d H' hm (mv.old nd) hp hd)
    | ok c a' =>
      rw [hr2] at hk
      have hk : rdStr t a' (acc ++ [c]) = rdStr t (a + 1) [] := hk
      have hlt := chR_ok hr2
      refine r_appM (ev_var rfl) ⟨_, hp⟩ (em_m (Φ := fun v H' => ∃ xs, H' pc = some (.lst xs) ∧ xs.length < 100000 ∧ R _ _ _ (upd H' pc (.lst (xs ++ [v])))) (ev_var rfl) mv.at_ no ea_nil (fun H2 e => ⟨fun v H' => v = .str (SX.S [c]) ∧ Mv H2 rd C dx t a' H', ⟨rd, dx, t, b, rfl, e rd _ mv.at_, ht, hb, by rw [hr2]; rfl⟩, fun v H' ⟨hv, m3⟩ => ⟨_, m3.keep (e pc _ hp) hne, by rw [List.length_map]; omega, ?_⟩⟩))
      subst hv
      refine r_next (fun H1 e1 => ⟨t.length - a', by omega, _, e1, a', acc ++ [c], rfl, ?_, ?_, hlt.2, by rw [List.length_append, List.length_singleton]; omega, rfl, hk⟩)
      · intro x o ho
        have hx := ((mv.more e).then m3) x o ho
        have hxp : x ≠ pc := fun z => by
          subst z
          rw [upd_ne hne, hpc] at ho
          cases ho
        rw [upd_ne hxp]
        exact hx
      · rw [upd_same, List.map_append]
        rfl
  · have h34' : t[b]? = some 34 := by
      cases he : t[b]? with
      | none => rw [chL_none he] at hc; simp at hc
      | some c =>
        rw [chL_some he] at hc
        simp at hc
        rw [hc]
    have hl2 := (List.getElem?_eq_some_iff.mp h34').1
    rw [rdStr_quote h34'] at hk
    rw [← hk] at q
    refine r_step R0 (ev_var rfl) mv.at_ ?_
    refine r_ret (v := .str (SX.S acc)) ?_ (fun H1 e1 => q _ H1 ⟨rfl, mv.set.more e1⟩)
    have hp2 : (upd B rd (.ins C dx (rdF t (b + 1)))) pc = some (.lst (acc.map fun c => V.str (SX.S [c]))) := by
      rw [upd_ne hne]
      exact hp
    have ej := ev_joinL (K := K) (σ := [some (.ref rd), some (.ref pc)]) (te := tC (.str "")) (tb := tVar 1) (a := []) (ys := acc.map fun c => [c]) (B := upd B rd (.ins C dx (rdF t (b + 1)))) ev_c (ev_var rfl) (sq_of (by rw [hp2, List.map_map]; rfl)) (by
      rw [sum_ones]
      simp
      omega)
    rw [joinL_signs] at ej
    exact ej
/-! words, numbers, ends -/
def outW (C rd dx : Addr) (t : List Nat) (H : Hp) : Rs → OutM
  | .ok _ a' => .val fun _ H' => True ∧ Mv H rd C dx t a' H'
  | .er e => errR C rd dx t H e
def preWord (C : Addr) (vs : List V) (H : Hp) (r : OutM) : Prop := ∃ (rd dx : Addr) (t : List Nat) (a : Nat) (wd : List Nat), vs = [.ref rd, .str (SX.S wd)] ∧ H rd = some (.ins C dx (rdF t a)) ∧ okT t ∧ a ≤ t.length ∧ r = outW C rd dx t H (wdGo t wd a .none)
theorem ok_skip {C C_J : Addr} (D : DefM K C "skip_word" "JsonReader.skip_word" s_JsonReader_skip_word ["self", "word"]) (R0 : RdC K C) (T : Tx K w mg J) (Z_JsonReader : Cls K C) (Z_InvalidJson : ErrC P w K mg base "InvalidJson" C_J)
    (m_JsonReader_peek : MetX P w K mg base 1 C "peek" (spM mg (prePeek C))) : MetX P w K mg base 3 C "skip_word" (spM mg (preWord C)) := by
  refine metX D sc_JsonReader_skip_word (fun vs H Q E h => ?_) (fun f cdv A outer s H vs Q E hr h => ?_)
  · obtain ⟨_, ⟨_, _, _, _, _, rfl, _⟩, _⟩ := h
    rfl
  obtain ⟨_, ⟨rd, dx, t, a, wd, rfl, hB, ht, ha, rfl⟩, q⟩ := h
  refine ⟨_, (pss_cons (ps_for (passes_of rfl) rfl (pi_str (pv 1)) (pg_name (i := 2) sc_JsonReader_skip_word.nd rfl (.inl rfl))
      (pss_cons (ps_if (pt_cmpR op_ne (pe_mX0 m_JsonReader_peek (takes_of rfl rfl rfl rfl) hr (by decide) Z_JsonReader (pv 0)) (pv 2) (nomark _))
        (pss_cons (ps_raiseC Z_InvalidJson rfl (takes_of rfl rfl rfl rfl) hr (by decide) (by rfl) (pa_cons (pe_fld (pv 0) rfl) pa_nil)) pss_nil)
        pss_nil)
      (pss_cons (ps_fldaug (pv 0) pe_int in_add) pss_nil))) pss_nil), R.go ?_⟩
  refine r_forS (ev_var rfl) (fun i σ B => ∃ y : Option V, σ = [some (.ref rd), some (.str (SX.S wd)), y] ∧ Mv H rd C dx t (a + i) B ∧ a + i ≤ t.length ∧ wdGo t (wd.drop i) (a + i) .none = wdGo t wd a .none) ⟨none, rfl, Mv.id hB, ha, rfl⟩ (fun i c σ B hc hI => ?_) (fun σ B hI => ?_)
  · obtain ⟨y, rfl, mv, hb, hk⟩ := hI
    obtain ⟨hil, hic⟩ := List.getElem?_eq_some_iff.mp hc
    rw [List.drop_eq_getElem_cons hil, hic] at hk
    have hk : (if t[a + i]? = some c then wdGo t (wd.drop (i + 1)) (a + i + 1) .none else .er (a + i)) = wdGo t wd a .none := hk
    refine r_when (et_test (ev_neS (ev_peek (ev_var rfl) mv.at_ ht hb) (ev_var rfl))) (fun hn => ?_) (fun hn => ?_)
    · have hne : t[a + i]? ≠ some c := fun z => by
        rw [chL_some z] at hn
        simp at hn
      rw [if_neg hne] at hk
      rw [← hk] at q
      exact r_raise Z_InvalidJson.k (ev_at R0 (ev_var rfl) mv.at_) (fun d H1 nd e1 hd => q C_J d H1 Z_InvalidJson.gC (mv.old nd) ⟨_, mv.more e1⟩ hd)
    · have hne : t[a + i]? = some c := by
        unfold chL at hn
        cases he : t[a + i]? with
        | none => rw [he] at hn; simp at hn
        | some x => rw [he] at hn; simp at hn; rw [hn]
      have hl := (List.getElem?_eq_some_iff.mp hne).1
      rw [if_pos hne] at hk
      refine r_step R0 (ev_var rfl) mv.at_ ?_
      exact r_up ⟨_, rfl, mv.set, by omega, hk⟩
  · obtain ⟨y, rfl, mv, hb, hk⟩ := hI
    rw [List.drop_length] at hk
    have hk : Rs.ok .none (a + wd.length) = wdGo t wd a .none := hk
    rw [← hk] at q
    exact r_next (fun H1 e1 => q _ H1 ⟨trivial, mv.more e1⟩)
def none0H : Hp := fun _ => none
def preNumb (C : Addr) (vs : List V) (H : Hp) (r : OutM) : Prop := ∃ (rd dx : Addr) (t : List Nat) (a : Nat), vs = [.ref rd] ∧ H rd = some (.ins C dx (rdF t a)) ∧ okT t ∧ a ≤ t.length ∧ r = outS K C rd dx t H (rdNum t a)
section
variable {σ : L2.St} {B : Hp} {te : TE}
theorem ev_intS {z : Str} {n : Int} (h : Ev te σ B (.str z)) (hn : intText? z = some n) (hl : z.length ≤ 640) : Ev (tCB (fun xs H Q => ∃ a n, xs = [V.str a] ∧ intText? a = some n ∧ a.length ≤ 640 ∧ Q (.int n) H) (tCons te tNil)) σ B (.int n) := fun H1 e Q q =>
  h H1 e _ fun H2 e2 => ⟨z, n, rfl, hn, hl, q H2 e2⟩
end
theorem dig_L {t : List Nat} {a : Nat} : digL (chL t a) 10 = (match t[a]? with
    | some c => digN c 10
    | none => none) := by
  unfold chL
  cases t[a]? <;> rfl
theorem ok_numb {C C_J : Addr} (D : DefM K C "read_number" "JsonReader.read_number" s_JsonReader_read_number ["self"]) (R0 : RdC K C) (T : Tx K w mg J) (Z_JsonReader : Cls K C) (Z_InvalidJson : ErrC P w K mg base "InvalidJson" C_J) (c_digit_of : Cal CX0 P w K mg base 1 "digit_of" spDig)
    (m_JsonReader_peek : MetX P w K mg base 1 C "peek" (spM mg (prePeek C))) : MetX P w K mg base 3 C "read_number" (spM mg (preNumb (K := K) C)) := by
  refine metX D sc_JsonReader_read_number (fun vs H Q E h => ?_) (fun f cdv A outer s H vs Q E hr h => ?_)
  · obtain ⟨_, ⟨_, _, _, _, rfl, _⟩, _⟩ := h
    rfl
  obtain ⟨_, ⟨rd, dx, t, a, rfl, hB, ht, ha, rfl⟩, q⟩ := h
  refine ⟨_, (pss_cons (ps_set (i := 1) sc_JsonReader_read_number.nd rfl (.inl rfl) (pe_fld (pv 0) rfl))
    (pss_cons (ps_if (pt_cmpR op_eq (pe_mX0 m_JsonReader_peek (takes_of rfl rfl rfl rfl) hr (by decide) Z_JsonReader (pv 0)) pe_str (nomark _))
      (pss_cons (ps_fldaug (pv 0) pe_int in_add) pss_nil)
      pss_nil)
    (pss_cons (ps_set (i := 2) sc_JsonReader_read_number.nd rfl (.inl rfl) (pe_fld (pv 0) rfl))
    (pss_cons (ps_if (pt_cmpR op_isN (pe_c c_digit_of hr (by decide) (by rfl) (pa_cons (pe_mX0 m_JsonReader_peek (takes_of rfl rfl rfl rfl) hr (by decide) Z_JsonReader (pv 0)) (pa_cons pe_int pa_nil))) pe_non (nomark _))
      (pss_cons (ps_raiseC Z_InvalidJson rfl (takes_of rfl rfl rfl rfl) hr (by decide) (by rfl) (pa_cons (pe_fld (pv 0) rfl) pa_nil)) pss_nil)
      pss_nil)
    (pss_cons (ps_fldaug (pv 0) pe_int in_add)
    (pss_cons (ps_if (pt_cmpR op_ne (pe_ix ix_str (pe_fld (pv 0) rfl) (pv 2) (fun _ _ => rfl)) pe_str (nomark _))
      (pss_cons (ps_while (passes_of rfl) (pt_cmpR op_notN (pe_c c_digit_of hr (by decide) (by rfl) (pa_cons (pe_mX0 m_JsonReader_peek (takes_of rfl rfl rfl rfl) hr (by decide) Z_JsonReader (pv 0)) (pa_cons pe_int pa_nil))) pe_non (nomark _))
        (pss_cons (ps_fldaug (pv 0) pe_int in_add) pss_nil)) pss_nil)
      pss_nil)
    (pss_cons (ps_if (pt_cmpR op_gt (pe_op op_sub (pe_fld (pv 0) rfl) (pv 2)) (pe_gc (by rfl) T.g_MOST_DIGITS) (nomark _))
      (pss_cons (ps_raiseC Z_InvalidJson rfl (takes_of rfl rfl rfl rfl) hr (by decide) (by rfl) (pa_cons (pv 1) pa_nil)) pss_nil)
      pss_nil)
    (pss_cons (ps_ret (pe_callTy call_int_str (by rfl) T.z_int (by decide +kernel) (pa_cons (pe_slice sl_str (pe_fld (pv 0) rfl) (po_some (pv 1)) (po_some (pe_fld (pv 0) rfl))) pa_nil))) pss_nil)))))))), R.go ?_⟩
  have hz := ht.1
  refine r_asg (ev_at R0 (ev_var rfl) hB) ?_
  refine r_whenK (fun σ' B' => σ' = [some (.ref rd), some (.int (a : Int)), none] ∧ Mv H rd C dx t (numF t a) B' ∧ numF t a ≤ t.length) (et_test (ev_eqS (ev_peek (ev_var rfl) hB ht ha) (ev_lit [45] rfl))) (fun σ' B hM => ?_) (fun k hb => ?_) (fun k hb => ?_)
  rotate_left
  · have h45 : t[a]? = some 45 := by
      have := of_decide_eq_true hb
      unfold chL at this
      cases he : t[a]? with
      | none => rw [he] at this; cases this
      | some c => rw [he] at this; cases this; rfl
    have hl := (List.getElem?_eq_some_iff.mp h45).1
    have e : numF t a = a + 1 := if_pos h45
    refine r_step R0 (ev_var rfl) hB ?_
    exact r_on (k _ _ ⟨rfl, by rw [e]; exact Ex.refl _, by omega⟩)
  · have h45 : t[a]? ≠ some 45 := fun z => by
      rw [chL_some z] at hb
      simp at hb
    have e : numF t a = a := if_neg h45
    exact k _ _ ⟨rfl, by rw [e]; exact Mv.id hB, by omega⟩
  obtain ⟨rfl, mv, hf⟩ := hM
  refine r_asg (ev_at R0 (ev_var rfl) mv.at_) ?_
  have hdn := dig_L (t := t) (a := numF t a)
  cases hc : t[numF t a]? with
  | none =>
    have hq : rdNum t a = .er (numF t a) := by
      unfold rdNum
      rw [hc]
    rw [hq] at q
    rw [hc] at hdn
    refine r_when (et_test (ev_op (ev_digP (ev_var rfl) mv ht hf 10 (.inl rfl)) ev_c rv_isN)) (fun hb => ?_) (fun hb => ?_)
    · exact r_raise Z_InvalidJson.k (ev_at R0 (ev_var rfl) mv.at_) (fun d H1 nd e1 hd => q C_J d H1 Z_InvalidJson.gC (mv.old nd) ⟨_, mv.more e1⟩ hd)
    · rw [dig_none, hdn] at hb
      cases hb
  | some c =>
    rw [hc] at hdn
    have hdn : digL (chL t (numF t a)) 10 = digN c 10 := hdn
    have hl := (List.getElem?_eq_some_iff.mp hc).1
    have hisd : (digN c 10).isNone = !isDg c := by
      rw [← dig_isDg]
      cases digN c 10 <;> rfl
    have hq0 : rdNum t a = if isDg c = false then .er (numF t a) else if 15 < numE t (numF t a) - numF t a then .er a else .ok (.int (numV t a (numE t (numF t a)))) (numE t (numF t a)) := by
      unfold rdNum
      rw [hc]
    refine r_when (et_test (ev_op (ev_digP (ev_var rfl) mv ht hf 10 (.inl rfl)) ev_c rv_isN)) (fun hb => ?_) (fun hb => ?_)
    · rw [dig_none, hdn, hisd] at hb
      rw [if_pos (by simpa using hb)] at hq0
      rw [hq0] at q
      exact r_raise Z_InvalidJson.k (ev_at R0 (ev_var rfl) mv.at_) (fun d H1 nd e1 hd => q C_J d H1 Z_InvalidJson.gC (mv.old nd) ⟨_, mv.more e1⟩ hd)
    rw [dig_none, hdn, hisd] at hb
    have hd : isDg c = true := by simpa using hb
    rw [if_neg (by rw [hd]; decide)] at hq0
    have hE := numE_le hc hd
    generalize hfe : numF t a = f at *
    refine r_step R0 (ev_var rfl) mv.at_ ?_
    have mv2 : Mv H rd C dx t (f + 1) (upd B rd (.ins C dx (rdF t (f + 1)))) := mv.set
    generalize upd B rd (.ins C dx (rdF t (f + 1))) = B2 at mv2 ⊢
    refine r_whenK (fun σ' B' => σ' = [some (.ref rd), some (.int (a : Int)), some (.int (f : Int))] ∧ Mv H rd C dx t (numE t f) B') (et_test (ev_neS (ev_op (ev_text R0 (ev_var rfl) mv2.at_) (ev_var rfl) (rv_ixSt (by omega) (by omega) (by omega))) (ev_lit [48] rfl))) (fun σ' B3 hM => ?_) (fun k hb => ?_) (fun k hb => ?_)
    · obtain ⟨rfl, mv3⟩ := hM
      refine r_when (et_test (ev_op (ev_op (ev_at R0 (ev_var rfl) mv3.at_) (ev_var rfl) rv_ar) ev_c rv_cmp)) (fun hb => ?_) (fun hb => ?_)
      · have hgt : 15 < numE t f - f := by
          have := of_decide_eq_true hb
          omega
        rw [if_pos hgt] at hq0
        rw [hq0] at q
        exact r_raise Z_InvalidJson.k (ev_var rfl) (fun d H1 nd e1 hd => q C_J d H1 Z_InvalidJson.gC (mv3.old nd) ⟨_, mv3.more e1⟩ hd)
      · have hgt : ¬ 15 < numE t f - f := by
          have := of_decide_eq_false hb
          omega
        rw [if_neg hgt] at hq0
        rw [hq0] at q
        have hn := num_is (t := t) (a := a) (c := c) (by rw [hfe]; exact hc) hd (by rw [hfe]; omega)
        rw [hfe] at hn
        refine r_ret (ev_intS (z := SX.S (cutL t a (numE t f))) (by
          rw [← cutS_S ha (by omega)]
          exact ev_slice_str (ev_text R0 (ev_var rfl) mv3.at_) (eo_some (ev_var rfl)) (eo_some (ev_at R0 (ev_var rfl) mv3.at_)) (by omega)) hn.1 (by rw [SX.S_len]; omega)) (fun H1 e1 => ?_)
        exact q _ H1 ⟨mv3.more e1, none0H, fun x o e => (by cases e), fun p h => absurd rfl h, .int _⟩
    · have e0 : (t.getD ((f : Int)).toNat 0) = c := by
        rw [Int.toNat_natCast]
        simp [List.getD, hc]
      rw [e0] at hb
      have h48 : ¬ c = 48 := by
        intro z
        subst z
        simp at hb
      have eE : numE t f = f + runL isDg t f := if_neg (by rw [hc]; intro z; cases z; exact h48 rfl)
      refine r_while (fun m σ' B' => ∃ b, σ' = [some (.ref rd), some (.int (a : Int)), some (.int (f : Int))] ∧ Mv H rd C dx t b B' ∧ b ≤ t.length ∧ m = t.length - b ∧ b + runL isDg t b = numE t f) (t.length - (f + 1)) ⟨f + 1, rfl, mv2, by omega, rfl, by rw [eE, run_step hc hd]; omega⟩ (fun m σ' B' hI => ?_)
      obtain ⟨b, rfl, mvb, hbl, rfl, hrun⟩ := hI
      have hdb := dig_L (t := t) (a := b)
      refine ⟨_, (et_test (ev_op (ev_digP (ev_var rfl) mvb ht hbl 10 (.inl rfl)) ev_c rv_notN)), fun hw => ?_, fun hw => ?_⟩
      · rw [dig_none] at hw
        cases hcb : t[b]? with
        | none => rw [hdb, hcb] at hw; cases hw
        | some x =>
          rw [hdb, hcb] at hw
          have hx : isDg x = true := by
            rw [← dig_isDg]
            have hw : (!(digN x 10).isNone) = true := hw
            cases hh : digN x 10 with
            | none => rw [hh] at hw; cases hw
            | some _ => rfl
          have hlb := (List.getElem?_eq_some_iff.mp hcb).1
          refine r_step R0 (ev_var rfl) mvb.at_ ?_
          exact r_next (fun H1 e1 => ⟨t.length - (b + 1), by omega, _, e1, b + 1, rfl, mvb.set, by omega, rfl, by rw [run_step hcb hx] at hrun; omega⟩)
      · rw [dig_none] at hw
        have hst : runL isDg t b = 0 := run_stop (fun x hx => by
          rw [hdb, hx] at hw
          have hw : (!(digN x 10).isNone) = false := hw
          rw [← dig_isDg]
          cases hh : digN x 10 with
          | none => rfl
          | some _ => rw [hh] at hw; cases hw)
        rw [hst] at hrun
        exact r_on (k _ _ ⟨rfl, by rw [← hrun]; exact mvb⟩)
    · have e0 : (t.getD ((f : Int)).toNat 0) = c := by
        rw [Int.toNat_natCast]
        simp [List.getD, hc]
      rw [e0] at hb
      have h48 : c = 48 := by simpa using hb
      subst h48
      have eE : numE t f = f + 1 := if_pos hc
      exact k _ _ ⟨rfl, by rw [eE]; exact mv2⟩
inductive Rb where
  | ok (b : Bool) (a : Nat) | er (a : Nat)
def endR (t : List Nat) (a x : Nat) : Rb := match t[skB t a]? with
  | none => .er (skB t a)
  | some c => if c = x then .ok true (skB t a + 1) else if c = 44 then .ok false (skB t a + 1) else .er (skB t a)
def outB (C rd dx : Addr) (t : List Nat) (H : Hp) : Rb → OutM
  | .ok b a' => .val fun v H' => v = .bl b ∧ Mv H rd C dx t a' H'
  | .er e => errR C rd dx t H e
def preEnd (C : Addr) (vs : List V) (H : Hp) (r : OutM) : Prop := ∃ (rd dx : Addr) (t : List Nat) (a x : Nat), vs = [.ref rd, .str (SX.S [x])] ∧ H rd = some (.ins C dx (rdF t a)) ∧ okT t ∧ a ≤ t.length ∧ r = outB C rd dx t H (endR t a x)
theorem ok_end {C C_J : Addr} (D : DefM K C "read_end" "JsonReader.read_end" s_JsonReader_read_end ["self", "bracket"]) (R0 : RdC K C) (T : Tx K w mg J) (Z_JsonReader : Cls K C) (Z_InvalidJson : ErrC P w K mg base "InvalidJson" C_J)
    (m_JsonReader_peek_token : MetX P w K mg base 2 C "peek_token" (spM mg (preTok C))) : MetX P w K mg base 3 C "read_end" (spM mg (preEnd C)) := by
  refine metX D sc_JsonReader_read_end (fun vs H Q E h => ?_) (fun f cdv A outer s H vs Q E hr h => ?_)
  · obtain ⟨_, ⟨_, _, _, _, _, rfl, _⟩, _⟩ := h
    rfl
  obtain ⟨_, ⟨rd, dx, t, a, x, rfl, hB, ht, ha, rfl⟩, q⟩ := h
  refine ⟨_, (pss_cons (ps_set (i := 2) sc_JsonReader_read_end.nd rfl (.inl rfl) (pe_mX0 m_JsonReader_peek_token (takes_of rfl rfl rfl rfl) hr (by decide) Z_JsonReader (pv 0)))
    (pss_cons (ps_if (pw_and (pt_cmpR op_ne (pv 2) (pv 1) (nomark _)) (pw_and1 (pt_cmpR op_ne (pv 2) pe_str (nomark _)))).pt
      (pss_cons (ps_raiseC Z_InvalidJson rfl (takes_of rfl rfl rfl rfl) hr (by decide) (by rfl) (pa_cons (pe_fld (pv 0) rfl) pa_nil)) pss_nil)
      pss_nil)
    (pss_cons (ps_fldaug (pv 0) pe_int in_add)
    (pss_cons (ps_ret (pe_cmpR op_eq (pv 2) (pv 1) (nomark _))) pss_nil)))), R.go ?_⟩
  refine r_asgM (em_tok (Φ := fun v H' => v = .str (SX.S (chL t (skB t a))) ∧ Mv H rd C dx t (skB t a) H') (ev_var rfl) (Mv.id hB) ht ha (fun H' m => ⟨rfl, m⟩)) (fun v B hM => ?_)
  obtain ⟨rfl, mv⟩ := hM
  have hq0 : endR t a x = (match t[skB t a]? with
    | none => Rb.er (skB t a)
    | some c => if c = x then .ok true (skB t a + 1) else if c = 44 then .ok false (skB t a + 1) else .er (skB t a)) := rfl
  have hsl := skB_le ha
  generalize skB t a = b at *
  refine r_when (et_and (et_test (ev_neS (ev_var rfl) (ev_var rfl))) (fun _ => et_test (ev_neS (ev_var rfl) (ev_lit [44] rfl)))) (fun hb => ?_) (fun hb => ?_)
  · have hq : endR t a x = .er b := by
      rw [hq0]
      cases hc : t[b]? with
      | none => rfl
      | some c =>
        rw [chL_some hc] at hb
        simp at hb
        show (if c = x then Rb.ok true (b + 1) else if c = 44 then .ok false (b + 1) else .er b) = _
        rw [if_neg hb.1, if_neg hb.2]
    rw [hq] at q
    exact r_raise Z_InvalidJson.k (ev_at R0 (ev_var rfl) mv.at_) (fun d H1 nd e1 hd => q C_J d H1 Z_InvalidJson.gC (mv.old nd) ⟨_, mv.more e1⟩ hd)
  · obtain ⟨c, hc⟩ : ∃ c, t[b]? = some c := by
      cases hc : t[b]? with
      | none => rw [chL_none hc] at hb; simp at hb
      | some c => exact ⟨c, rfl⟩
    rw [chL_some hc] at hb ⊢
    have hq : endR t a x = .ok (decide ([c] = [x])) (b + 1) := by
      rw [hq0, hc]
      show (if c = x then Rb.ok true (b + 1) else if c = 44 then .ok false (b + 1) else .er b) = _
      by_cases h1 : c = x
      · rw [if_pos h1, h1]
        simp
      · rw [if_neg h1]
        have h2 : c = 44 := by
          simp [h1] at hb
          exact hb
        rw [if_pos h2]
        congr 1
        symm
        simp [h1]
    rw [hq] at q
    refine r_step R0 (ev_var rfl) mv.at_ ?_
    exact r_ret (ev_eqS (ev_var rfl) (ev_var rfl)) (fun H1 e1 => q _ H1 ⟨rfl, mv.set.more e1⟩)
/-! keys -/
def keyR (t : List Nat) (a : Nat) (ks : List (List Nat)) : Rt := match t[skB t a]? with
  | none => .er (skB t a)
  | some c => if c ≠ 34 then .er (skB t a) else match rdStr t (skB t a + 1) [] with
    | .er e => .er e
    | .ok k a2 => if k ∈ ks then .er (skB t a) else if t[skB t a2]? ≠ some 58 then .er (skB t a2) else .ok k (skB t a2 + 1)
theorem S_injL {x y : List Nat} (h : SX.S x = SX.S y) : x = y := by
  have := congrArg (fun z : Str => z.cps.toList) h
  simpa [SX.S] using this
theorem key_in {kvs : List (Key × V)} {ks : List (List Nat)} {k : List Nat} (h : kvs.map (·.1) = ks.map fun k => (Sum.inr (SX.S k) : Key)) : (valV kvs (.inr (SX.S k))).isSome = decide (k ∈ ks) := by
  rw [← valV_any, Bool.eq_iff_iff, List.any_eq_true, decide_eq_true_iff]
  constructor
  · rintro ⟨kv, hm, he⟩
    have he := of_decide_eq_true he
    have : (Sum.inr (SX.S k) : Key) ∈ kvs.map (·.1) := List.mem_map.mpr ⟨kv, hm, he⟩
    rw [h] at this
    obtain ⟨k', hk', e⟩ := List.mem_map.mp this
    rw [← S_injL (Sum.inr.inj e)]
    exact hk'
  · intro hk
    have : (Sum.inr (SX.S k) : Key) ∈ kvs.map (·.1) := by
      rw [h]
      exact List.mem_map.mpr ⟨k, hk, rfl⟩
    obtain ⟨kv, hm, e⟩ := List.mem_map.mp this
    exact ⟨kv, hm, decide_eq_true e⟩
def preKey (C : Addr) (vs : List V) (H : Hp) (r : OutM) : Prop := ∃ (rd dx : Addr) (t : List Nat) (a : Nat) (pp : Addr) (kvs : List (Key × V)) (ks : List (List Nat)), vs = [.ref rd, .ref pp] ∧ H rd = some (.ins C dx (rdF t a)) ∧ okT t ∧ a ≤ t.length ∧ H pp = some (.dK kvs) ∧ (kvs.map (·.1) = ks.map fun k => (Sum.inr (SX.S k) : Key)) ∧ r = outT C rd dx t H (keyR t a ks)
section
variable {σ : L2.St} {B H : Hp} {te : TE} {rd C dx : Addr} {t : List Nat} {a : Nat} {W : WX} {z : Str}
theorem tm_tokEq (l : List Nat) (h : Ev te σ B (.ref rd)) (m : Mv H rd C dx t a B) (ht : okT t) (ha : a ≤ t.length) (hz : z = SX.S l) : EvTM (tTest (tOp rEq (tMethX C "peek_token" (spM mg (preTok C)) (WE W) te tNil) (tC (.str z)))) σ B (fun b H' => b = decide (chL t (skB t a) = l) ∧ Mv H rd C dx t (skB t a) H') := fun H1 e Q q =>
  em_tok (Φ := fun v H' => v = .str (SX.S (chL t (skB t a))) ∧ Mv H rd C dx t (skB t a) H') h m ht ha (fun H' m => ⟨rfl, m⟩) H1 e _ fun v H2 ⟨hv, m2⟩ => by
    subst hv hz
    refine ⟨rfl, decide (chL t (skB t a) = l), ?_, q _ H2 ⟨rfl, m2⟩⟩
    congr 1
    exact decide_eq_decide.mpr ⟨fun h => S_injL (by injection h), fun h => by rw [h]⟩
theorem tm_tokNe (l : List Nat) (h : Ev te σ B (.ref rd)) (m : Mv H rd C dx t a B) (ht : okT t) (ha : a ≤ t.length) (hz : z = SX.S l) : EvTM (tTest (tOp rNe (tMethX C "peek_token" (spM mg (preTok C)) (WE W) te tNil) (tC (.str z)))) σ B (fun b H' => b = !decide (chL t (skB t a) = l) ∧ Mv H rd C dx t (skB t a) H') := fun H1 e Q q =>
  em_tok (Φ := fun v H' => v = .str (SX.S (chL t (skB t a))) ∧ Mv H rd C dx t (skB t a) H') h m ht ha (fun H' m => ⟨rfl, m⟩) H1 e _ fun v H2 ⟨hv, m2⟩ => by
    subst hv hz
    refine ⟨rfl, !decide (chL t (skB t a) = l), ?_, q _ H2 ⟨rfl, m2⟩⟩
    congr 2
    exact decide_eq_decide.mpr ⟨fun h => S_injL (by injection h), fun h => by rw [h]⟩
end
theorem ch_eq {t : List Nat} {a c : Nat} (h : decide (chL t a = [c]) = true) : t[a]? = some c := by
  have := of_decide_eq_true h
  unfold chL at this
  cases he : t[a]? with
  | none => rw [he] at this; cases this
  | some x => rw [he] at this; cases this; rfl
theorem ch_ne {t : List Nat} {a c : Nat} (h : decide (chL t a = [c]) = false) : t[a]? ≠ some c := fun z => by
  rw [chL_some z] at h
  simp at h
theorem ok_key {C C_J : Addr} (D : DefM K C "read_key" "JsonReader.read_key" s_JsonReader_read_key ["self", "pairs"]) (R0 : RdC K C) (T : Tx K w mg J) (Z_JsonReader : Cls K C) (Z_InvalidJson : ErrC P w K mg base "InvalidJson" C_J)
    (m_JsonReader_peek_token : MetX P w K mg base 2 C "peek_token" (spM mg (preTok C))) (m_JsonReader_read_string : MetX P w K mg base 6 C "read_string" (spM mg (preStr C))) : MetX P w K mg base 7 C "read_key" (spM mg (preKey C)) := by
  refine metX D sc_JsonReader_read_key (fun vs H Q E h => ?_) (fun f cdv A outer s H vs Q E hr h => ?_)
  · obtain ⟨_, ⟨_, _, _, _, _, _, _, rfl, _⟩, _⟩ := h
    rfl
  obtain ⟨_, ⟨rd, dx, t, a, pp, kvs, ks, rfl, hB, ht, ha, hpp, hks, rfl⟩, q⟩ := h
  refine ⟨_, (pss_cons (ps_if (pt_cmpR op_ne (pe_mX0 m_JsonReader_peek_token (takes_of rfl rfl rfl rfl) hr (by decide) Z_JsonReader (pv 0)) pe_str (nomark _))
      (pss_cons (ps_raiseC Z_InvalidJson rfl (takes_of rfl rfl rfl rfl) hr (by decide) (by rfl) (pa_cons (pe_fld (pv 0) rfl) pa_nil)) pss_nil)
      pss_nil)
    (pss_cons (ps_set (i := 2) sc_JsonReader_read_key.nd rfl (.inl rfl) (pe_fld (pv 0) rfl))
    (pss_cons (ps_set (i := 3) sc_JsonReader_read_key.nd rfl (.inl rfl) (pe_mX0 m_JsonReader_read_string (takes_of rfl rfl rfl rfl) hr (by decide) Z_JsonReader (pv 0)))
    (pss_cons (ps_if (pt_cmp (pc_din (hu_of hr) (pv 3) (pv 1)))
      (pss_cons (ps_raiseC Z_InvalidJson rfl (takes_of rfl rfl rfl rfl) hr (by decide) (by rfl) (pa_cons (pv 2) pa_nil)) pss_nil)
      pss_nil)
    (pss_cons (ps_if (pt_cmpR op_ne (pe_mX0 m_JsonReader_peek_token (takes_of rfl rfl rfl rfl) hr (by decide) Z_JsonReader (pv 0)) pe_str (nomark _))
      (pss_cons (ps_raiseC Z_InvalidJson rfl (takes_of rfl rfl rfl rfl) hr (by decide) (by rfl) (pa_cons (pe_fld (pv 0) rfl) pa_nil)) pss_nil)
      pss_nil)
    (pss_cons (ps_fldaug (pv 0) pe_int in_add)
    (pss_cons (ps_ret (pv 3)) pss_nil))))))), R.go ?_⟩
  have hne : pp ≠ rd := fun z => by
    subst z
    rw [hB] at hpp
    cases hpp
  have hq0 : keyR t a ks = (match t[skB t a]? with
    | none => Rt.er (skB t a)
    | some c => if c ≠ 34 then .er (skB t a) else match rdStr t (skB t a + 1) [] with
      | .er e => .er e
      | .ok k a2 => if k ∈ ks then .er (skB t a) else if t[skB t a2]? ≠ some 58 then .er (skB t a2) else .ok k (skB t a2 + 1)) := rfl
  have hsl := skB_le ha
  refine r_whenM (tm_tokNe [34] (ev_var rfl) (Mv.id hB) ht ha rfl) (fun B ⟨hb, mv⟩ => ?_) (fun B ⟨hb, mv⟩ => ?_)
  · have h34 : t[skB t a]? ≠ some 34 := ch_ne (by simpa using hb.symm)
    have hq : keyR t a ks = .er (skB t a) := by
      rw [hq0]
      cases hc : t[skB t a]? with
      | none => rfl
      | some c => exact if_pos (fun z => h34 (by rw [hc, z]))
    rw [hq] at q
    exact r_raise Z_InvalidJson.k (ev_at R0 (ev_var rfl) mv.at_) (fun d H1 nd e1 hd => q C_J d H1 Z_InvalidJson.gC (mv.old nd) ⟨_, mv.more e1⟩ hd)
  have h34 : t[skB t a]? = some 34 := ch_eq (by simpa using hb.symm)
  rw [h34] at hq0
  have hq0 : keyR t a ks = (match rdStr t (skB t a + 1) [] with
      | .er e => Rt.er e
      | .ok k a2 => if k ∈ ks then .er (skB t a) else if t[skB t a2]? ≠ some 58 then .er (skB t a2) else .ok k (skB t a2 + 1)) := hq0
  generalize skB t a = b at *
  refine r_asg (ev_at R0 (ev_var rfl) mv.at_) ?_
  have no := rdF_no (t := t) (a := b) (m := "read_string") (by decide +kernel) (by decide +kernel)
  cases hs : rdStr t (b + 1) [] with
  | er x =>
    rw [hs] at hq0
    have hq0 : keyR t a ks = .er x := hq0
    rw [hq0] at q
    exact r_asgEM (ee_mv (ev_var rfl) mv no ea_nil (fun H2 e => ⟨rd, dx, t, b, rfl, e rd _ mv.at_, ht, hsl, h34, by rw [hs]; rfl⟩)) (fun C' d H' hm nd hp hd => q C' d H' hm (mv.old nd) hp hd)
  | ok k a2 =>
    rw [hs] at hq0
    have hq0 : keyR t a ks = (if k ∈ ks then Rt.er b else if t[skB t a2]? ≠ some 58 then .er (skB t a2) else .ok k (skB t a2 + 1)) := hq0
    have ha2 := (rdStr_ok _ _ _ _ _ (Nat.le_refl _) hs).2.1
    refine r_asgM (em_mv (Pv := fun v => v = .str (SX.S k)) (a' := a2) (ev_var rfl) mv no ea_nil (fun H2 e => ⟨rd, dx, t, b, rfl, e rd _ mv.at_, ht, hsl, h34, by rw [hs]; rfl⟩)) (fun v B2 hM => ?_)
    obtain ⟨rfl, mv2⟩ := hM
    have hpp2 := mv2.keep hpp hne
    refine r_when (et_test (ev_din (k := .inr (SX.S k)) (ev_var rfl) (ev_var rfl) hpp2)) (fun hb => ?_) (fun hb => ?_)
    · rw [key_in hks] at hb
      rw [if_pos (of_decide_eq_true hb)] at hq0
      rw [hq0] at q
      exact r_raise Z_InvalidJson.k (ev_var rfl) (fun d H1 nd e1 hd => q C_J d H1 Z_InvalidJson.gC (mv2.old nd) ⟨_, mv2.more e1⟩ hd)
    rw [key_in hks] at hb
    rw [if_neg (of_decide_eq_false hb)] at hq0
    have hsl2 := skB_le ha2
    refine r_whenM (tm_tokNe [58] (ev_var rfl) mv2 ht ha2 rfl) (fun B3 ⟨hb, mv3⟩ => ?_) (fun B3 ⟨hb, mv3⟩ => ?_)
    · have h58 : t[skB t a2]? ≠ some 58 := ch_ne (by simpa using hb.symm)
      rw [if_pos h58] at hq0
      rw [hq0] at q
      exact r_raise Z_InvalidJson.k (ev_at R0 (ev_var rfl) mv3.at_) (fun d H1 nd e1 hd => q C_J d H1 Z_InvalidJson.gC (mv3.old nd) ⟨_, mv3.more e1⟩ hd)
    · have h58 : t[skB t a2]? = some 58 := ch_eq (by simpa using hb.symm)
      rw [if_neg (fun z => z h58)] at hq0
      rw [hq0] at q
      refine r_step R0 (ev_var rfl) mv3.at_ ?_
      exact r_ret (ev_var rfl) (fun H1 e1 => q _ H1 ⟨rfl, mv3.set.more e1⟩)
/-! values -/
def argD (n : Nat) : Int := 32 - (n : Int)
def preVal (n : Nat) (C : Addr) (vs : List V) (H : Hp) (r : OutM) : Prop := ∃ (rd dx : Addr) (t : List Nat) (a : Nat), vs = [.ref rd, .int (argD n)] ∧ H rd = some (.ins C dx (rdF t a)) ∧ okT t ∧ a ≤ t.length ∧ r = outS K C rd dx t H (rdV t n a)
def preList (n : Nat) (C : Addr) (vs : List V) (H : Hp) (r : OutM) : Prop := ∃ (rd dx : Addr) (t : List Nat) (a : Nat), vs = [.ref rd, .int (argD n)] ∧ H rd = some (.ins C dx (rdF t a)) ∧ okT t ∧ t[a]? = some 91 ∧ r = outS K C rd dx t H (lsR t (rdV t n) a)
def preDic (n : Nat) (C : Addr) (vs : List V) (H : Hp) (r : OutM) : Prop := ∃ (rd dx : Addr) (t : List Nat) (a : Nat), vs = [.ref rd, .int (argD n)] ∧ H rd = some (.ins C dx (rdF t a)) ∧ okT t ∧ t[a]? = some 123 ∧ r = outS K C rd dx t H (dcR t (rdV t n) a)
theorem lsGo_end {t : List Nat} {rv : Nat → Rs} (hr : ∀ a d a', rv a = .ok d a' → a < a' ∧ a' ≤ t.length) {a : Nat} {acc : List PyData} : lsGo t rv a acc = (match rv a with
    | .er e => .er e
    | .ok v a' => match endR t a' 93 with
      | .er e => .er e
      | .ok true a2 => .ok (.list (acc ++ [v])) a2
      | .ok false a2 => lsGo t rv a2 (acc ++ [v])) := by
  rw [lsGo.eq_1]
  cases h1 : rv a with
  | er e => rfl
  | ok v a' =>
    have hv := hr _ _ _ h1
    have hs := skB_ge (t := t) (a := a')
    show (match t[skB t a']? with
      | none => Rs.er (skB t a')
      | some c => if c = 93 then .ok (.list (acc ++ [v])) (skB t a' + 1) else if c = 44 then
          (if h : a < skB t a' + 1 ∧ skB t a' < t.length then lsGo t rv (skB t a' + 1) (acc ++ [v]) else .er 0) else .er (skB t a')) = (match endR t a' 93 with
      | .er e => Rs.er e
      | .ok true a2 => .ok (.list (acc ++ [v])) a2
      | .ok false a2 => lsGo t rv a2 (acc ++ [v]))
    unfold endR
    cases hc : t[skB t a']? with
    | none => rfl
    | some c =>
      have hl := (List.getElem?_eq_some_iff.mp hc).1
      show (if c = 93 then Rs.ok (.list (acc ++ [v])) (skB t a' + 1) else if c = 44 then
          (if h : a < skB t a' + 1 ∧ skB t a' < t.length then lsGo t rv (skB t a' + 1) (acc ++ [v]) else .er 0) else .er (skB t a')) = (match (if c = 93 then Rb.ok true (skB t a' + 1) else if c = 44 then .ok false (skB t a' + 1) else .er (skB t a')) with
      | .er e => Rs.er e
      | .ok true a2 => .ok (.list (acc ++ [v])) a2
      | .ok false a2 => lsGo t rv a2 (acc ++ [v]))
      by_cases h93 : c = 93
      · rw [if_pos h93, if_pos h93]
      · rw [if_neg h93, if_neg h93]
        by_cases h44 : c = 44
        · rw [if_pos h44, if_pos h44, dif_pos ⟨by omega, hl⟩]
        · rw [if_neg h44, if_neg h44]
theorem dcGo_end {t : List Nat} {rv : Nat → Rs} (hr : ∀ a d a', rv a = .ok d a' → a < a' ∧ a' ≤ t.length) {a : Nat} {acc : List (List Nat × PyData)} : dcGo t rv a acc = (match keyR t a (acc.map (·.1)) with
    | .er e => .er e
    | .ok k a2 => match rv a2 with
      | .er e => .er e
      | .ok v a4 => match endR t a4 125 with
        | .er e => .er e
        | .ok true a' => .ok (.dict ((acc ++ [(k, v)]).map fun p => (.str (SX.S p.1), p.2))) a'
        | .ok false a' => dcGo t rv a' (acc ++ [(k, v)])) := by
  rw [dcGo.eq_1]
  unfold keyR
  have h0 := skB_ge (t := t) (a := a)
  cases hc : t[skB t a]? with
  | none => rfl
  | some c =>
    by_cases h34 : c = 34
    · subst h34
      cases hs : rdStr t (skB t a + 1) [] with
      | er e => simp [hs]
      | ok k a2 =>
        have hk2 := rdStr_ok _ _ _ _ _ (Nat.le_refl _) hs
        have h2 := skB_ge (t := t) (a := a2)
        by_cases hk : k ∈ acc.map (·.1)
        · simp [hs, hk]
        · by_cases h58 : t[skB t a2]? = some 58
          · cases h4 : rv (skB t a2 + 1) with
            | er e => simp [hs, hk, h58, h4]
            | ok v a4 =>
              have hv := hr _ _ _ h4
              have h5 := skB_ge (t := t) (a := a4)
              simp only [ne_eq, not_true_eq_false, if_false, hs, hk, h58, h4]
              unfold endR
              cases hc2 : t[skB t a4]? with
              | none => rfl
              | some x =>
                have hl := (List.getElem?_eq_some_iff.mp hc2).1
                by_cases h125 : x = 125
                · simp [h125]
                · by_cases h44 : x = 44
                  · subst h44
                    simp only [if_neg (show ¬ (44 : Nat) = 125 by decide), if_true]
                    rw [dif_pos ⟨by omega, hl⟩]
                  · simp [h125, h44]
          · simp [hs, hk, h58]
    · simp [h34]
theorem endR_ok {t : List Nat} {a x a2 : Nat} {b : Bool} (h : endR t a x = .ok b a2) : a < a2 ∧ a2 ≤ t.length := by
  have h0 := skB_ge (t := t) (a := a)
  unfold endR at h
  split at h
  · cases h
  · rename_i c hc
    have hl := (List.getElem?_eq_some_iff.mp hc).1
    split at h
    · cases h
      omega
    · split at h
      · cases h
        omega
      · cases h
theorem frag {N N2 : Hp} (h : ∀ p, N2 p ≠ none → N p = none) : Ex N (fr N N2) ∧ Ex N2 (fr N N2) := ⟨fun p o e => by
  have h2 : N2 p = none := by
    cases c : N2 p with
    | none => rfl
    | some u =>
      have := h p (by rw [c]; simp)
      rw [e] at this
      cases this
  rw [fr_out h2]
  exact e, fun p o e => fr_in e⟩
theorem dqa_snoc {K : PySem.W.Frag} {N : Hp} : ∀ {xs : List V} {ds : List PyData} {v : V} {d : PyData}, DqA K N xs ds → Dq K N v d → DqA K N (xs ++ [v]) (ds ++ [d])
  | _, _, _, _, .nil, h => .cons h .nil
  | _, _, _, _, .cons a b, h => .cons a (dqa_snoc b h)
theorem ok_list (n : Nat) {C C_J : Addr} (D : DefM K C "read_list" "JsonReader.read_list" s_JsonReader_read_list ["self", "depth"]) (R0 : RdC K C) (T : Tx K w mg J) (Z_JsonReader : Cls K C)
    (m_JsonReader_peek_token : MetX P w K mg base 2 C "peek_token" (spM mg (preTok C))) (m_JsonReader_read_end : MetX P w K mg base 3 C "read_end" (spM mg (preEnd C))) (m_JsonReader_read_value : MetX P w K mg base (7 + 2 * n) C "read_value" (spM mg (preVal (K := K) n C))) :
    MetX P w K mg base (8 + 2 * n) C "read_list" (spM mg (preList (K := K) n C)) := by
  rw [show 8 + 2 * n = (7 + 2 * n) + 1 by omega]
  refine metX D sc_JsonReader_read_list (fun vs H Q E h => ?_) (fun f cdv A outer s H vs Q E hr h => ?_)
  · obtain ⟨_, ⟨_, _, _, _, rfl, _⟩, _⟩ := h
    rfl
  obtain ⟨_, ⟨rd, dx, t, a, rfl, hB, ht, h91, rfl⟩, q⟩ := h
  refine ⟨_, (pss_cons (ps_fldaug (pv 0) pe_int in_add)
    (pss_cons (ps_set (i := 2) sc_JsonReader_read_list.nd rfl (.inl rfl) (pe_lst pa_nil))
    (pss_cons (ps_if (pt_cmpR op_eq (pe_mX0 m_JsonReader_peek_token (takes_of rfl rfl rfl rfl) hr (by omega) Z_JsonReader (pv 0)) pe_str (nomark _))
      (pss_cons (ps_fldaug (pv 0) pe_int in_add)
      (pss_cons (ps_ret (pv 2)) pss_nil))
      pss_nil)
    (pss_cons (ps_while (passes_of rfl) (pt_val pe_bl)
      (pss_cons (ps_expr (pe_bm PySem.F.plainAttrs_list PySem.F.slot_list_append PySem.F.type_list_append mt_append (pv 2) (pa_cons (pe_mX m_JsonReader_read_value (takes_of rfl rfl rfl rfl) hr (by omega) Z_JsonReader (pv 0) (pa_cons (pv 1) pa_nil)) pa_nil)))
      (pss_cons (ps_if (pt_val (pe_mX m_JsonReader_read_end (takes_of rfl rfl rfl rfl) hr (by omega) Z_JsonReader (pv 0) (pa_cons pe_str pa_nil)))
        (pss_cons (ps_ret (pv 2)) pss_nil)
        pss_nil) pss_nil))) pss_nil)))), R.go ?_⟩
  have hl := (List.getElem?_eq_some_iff.mp h91).1
  have hz := ht.1
  have hrv : ∀ a d a', rdV t n a = .ok d a' → a < a' ∧ a' ≤ t.length := fun _ _ _ h => rdV_ok n h
  refine r_step R0 (ev_var rfl) hB ?_
  have mv : Mv H rd C dx t (a + 1) (upd H rd (.ins C dx (rdF t (a + 1)))) := Ex.refl _
  generalize upd H rd (.ins C dx (rdF t (a + 1))) = B at mv ⊢
  refine r_asgN (en_lst ea_nil (by decide)) (fun pl npl => ?_)
  have hpl : H pl = none := mv.old npl
  have hne : pl ≠ rd := fun z => by
    subst z
    rw [hB] at hpl
    cases hpl
  have mv1 : Mv H rd C dx t (a + 1) (upd B pl (.lst [])) := mv.more (Ex.new npl)
  have hp1 : (upd B pl (.lst [])) pl = some (.lst []) := upd_same
  generalize upd B pl (.lst []) = B1 at mv1 hp1 ⊢
  have hsl := skB_le (t := t) (a := a + 1) (by omega)
  have back : ∀ (xs : List V) (ds : List PyData) (N B2 : Hp) (b : Nat), lsR t (rdV t n) a = .ok (.list ds) b → Mv H rd C dx t b B2 → B2 pl = some (.lst xs) → Ex N B2 → N pl = none → (∀ p, N p ≠ none → H p = none) → DqA K N xs ds → ∀ H1, Ex B2 H1 → Q (.ref pl) H1 := by
    intro xs ds N B2 b hres m hp eN nN fN dA H1 e1
    rw [hres] at q
    refine q _ H1 ⟨m.more e1, upd N pl (.lst xs), fun x o e => ?_, fun x hx => ?_, .lst upd_same (dqa_ex (Ex.new nN) _ _ dA)⟩
    · by_cases c : x = pl
      · subst c
        rw [upd_same] at e
        cases e
        exact e1 _ _ hp
      · rw [upd_ne c] at e
        exact e1 _ _ (eN _ _ e)
    · by_cases c : x = pl
      · subst c
        exact hpl
      · rw [upd_ne c] at hx
        exact fN x hx
  refine r_whenM (tm_tokEq [93] (ev_var rfl) (Mv.id mv1.at_) ht (by omega) rfl) (fun B2 ⟨hb, mv2⟩ => ?_) (fun B2 ⟨hb, mv2⟩ => ?_)
  · have h93 : t[skB t (a + 1)]? = some 93 := ch_eq hb.symm
    refine r_step R0 (ev_var rfl) mv2.at_ ?_
    refine r_ret (ev_var rfl) (back [] [] none0H _ (skB t (a + 1) + 1) (if_pos h93) (mv1.then mv2).set ?_ (fun x o e => by cases e) rfl (fun p h => absurd rfl h) .nil)
    rw [upd_ne hne]
    exact mv2.keep hp1 hne
  have h93 : t[skB t (a + 1)]? ≠ some 93 := ch_ne hb.symm
  have hk0 : lsR t (rdV t n) a = lsGo t (rdV t n) (skB t (a + 1)) [] := if_neg h93
  refine r_while (fun m σ B => ∃ (b : Nat) (acc : List PyData) (xs : List V) (N : Hp), σ = [some (.ref rd), some (.int (argD n)), some (.ref pl)] ∧ Mv H rd C dx t b B ∧ B pl = some (.lst xs) ∧ Ex N B ∧ N pl = none ∧ (∀ p, N p ≠ none → H p = none) ∧ DqA K N xs acc ∧ b ≤ t.length ∧ xs.length ≤ b ∧ m = t.length - b ∧ lsGo t (rdV t n) b acc = lsR t (rdV t n) a)
    (t.length - skB t (a + 1)) ⟨_, [], [], none0H, rfl, mv1.then mv2, mv2.keep hp1 hne, (fun x o e => by cases e), rfl, (fun p h => absurd rfl h), .nil, hsl, Nat.zero_le _, rfl, hk0.symm⟩ (fun m σ B hI => ?_)
  obtain ⟨b, acc, xs, N, rfl, mv, hp, eN, nN, fN, dA, hb, hxl, rfl, hk⟩ := hI
  refine ⟨true, et_B ev_c, fun _ => ?_, fun h => by cases h⟩
  rw [lsGo_end hrv] at hk
  have no := rdF_no (t := t) (a := b) (m := "read_value") (by decide +kernel) (by decide +kernel)
  cases hv : rdV t n b with
  | er x =>
    rw [hv] at hk
    have hk : Rs.er x = lsR t (rdV t n) a := hk
    rw [← hk] at q
    exact r_appEM (ev_var rfl) ⟨_, hp⟩ (ee_mv (ev_var rfl) mv no (ea_cons (ev_var rfl) ea_nil) (fun H2 e => ⟨rd, dx, t, b, rfl, e rd _ mv.at_, ht, hb, by rw [hv]; rfl⟩)) (fun C' d H' hm nd hp hd => q C' d H' hm (mv.old nd) hp hd)
  | ok v a' =>
    rw [hv] at hk
    have hk : (match endR t a' 93 with
      | .er e => Rs.er e
      | .ok true a2 => .ok (.list (acc ++ [v])) a2
      | .ok false a2 => lsGo t (rdV t n) a2 (acc ++ [v])) = lsR t (rdV t n) a := hk
    have hv2 := hrv _ _ _ hv
    refine r_appM (ev_var rfl) ⟨_, hp⟩ (em_m (Φ := fun v H' => ∃ xs, H' pl = some (.lst xs) ∧ xs.length < 100000 ∧ R _ _ _ (upd H' pl (.lst (xs ++ [v])))) (ev_var rfl) mv.at_ no (ea_cons (ev_var rfl) ea_nil) (fun H2 e => ⟨fun v' H' => Mv H2 rd C dx t a' H' ∧ ∃ N2, Ex N2 H' ∧ (∀ p, N2 p ≠ none → H2 p = none) ∧ Dq K N2 v' v, ⟨rd, dx, t, b, rfl, e rd _ mv.at_, ht, hb, by rw [hv]; rfl⟩, fun x H' ⟨m3, N2, eN2, fN2, d2⟩ => ⟨xs, m3.keep (e pl _ hp) hne, by omega, ?_⟩⟩))
    have hdis : ∀ p, N2 p ≠ none → N p = none := fun p h => fresh_back (eN.trans e) (fN2 p h)
    have n2l : N2 pl = none := by
      cases c : N2 pl with
      | none => rfl
      | some u =>
        have := fN2 pl (by rw [c]; simp)
        rw [e pl _ hp] at this
        cases this
    have mvT : Mv H rd C dx t a' (upd H' pl (.lst (xs ++ [x]))) := fun y o ho => by
      have hx := ((mv.more e).then m3) y o ho
      have hxp : y ≠ pl := fun z => by
        subst z
        rw [upd_ne hne, hpl] at ho
        cases ho
      rw [upd_ne hxp]
      exact hx
    have hp3 : (upd H' pl (.lst (xs ++ [x]))) pl = some (.lst (xs ++ [x])) := upd_same
    have eN3 : Ex (fr N N2) (upd H' pl (.lst (xs ++ [x]))) := fun y o ho => by
      cases c : N2 y with
      | some u =>
        rw [fr_in c] at ho
        cases ho
        rw [upd_ne (fun z => by subst z; rw [n2l] at c; cases c)]
        exact eN2 y _ c
      | none =>
        rw [fr_out c] at ho
        have hyr : y ≠ rd := fun z => by
          subst z
          have := fN y (by rw [ho]; simp)
          rw [hB] at this
          cases this
        rw [upd_ne (fun z => by subst z; rw [nN] at ho; cases ho)]
        exact m3.keep (e y _ (eN y _ ho)) hyr
    have nN3 : fr N N2 pl = none := by rw [fr_out n2l]; exact nN
    have fN3 : ∀ p, fr N N2 p ≠ none → H p = none := fun p h => by
      cases c : N2 p with
      | some u => exact (mv.more e).old (fN2 p (by rw [c]; simp))
      | none =>
        rw [fr_out c] at h
        exact fN p h
    have dA3 : DqA K (fr N N2) (xs ++ [x]) (acc ++ [v]) := dqa_snoc (dqa_ex (frag hdis).1 _ _ dA) (dq_ex (frag hdis).2 _ _ d2)
    have hxl3 : (xs ++ [x]).length ≤ a' := by
      rw [List.length_append, List.length_singleton]
      omega
    generalize upd H' pl (.lst (xs ++ [x])) = B3 at mvT hp3 eN3 ⊢
    generalize fr N N2 = N3 at eN3 nN3 fN3 dA3
    generalize xs ++ [x] = xs3 at hp3 dA3 hxl3
    have no2 := rdF_no (t := t) (a := a') (m := "read_end") (by decide +kernel) (by decide +kernel)
    cases he : endR t a' 93 with
    | er y =>
      rw [he] at hk
      have hk : Rs.er y = lsR t (rdV t n) a := hk
      rw [← hk] at q
      exact r_ifEM (xe_B (ee_mv (ev_var rfl) mvT no2 (ea_cons (ev_lit [93] rfl) ea_nil) (fun H2 e => ⟨rd, dx, t, a', 93, rfl, e rd _ mvT.at_, ht, hv2.2, by rw [he]; rfl⟩))) (fun C' d H' hm nd hp hd => q C' d H' hm (mvT.old nd) hp hd)
    | ok bb a2 =>
      rw [he] at hk
      have he2 := endR_ok he
      refine r_whenM (tm_B (em_m (Φ := fun v H' => ∃ b, v = .bl b ∧ b = bb ∧ Mv B3 rd C dx t a2 H') (ev_var rfl) mvT.at_ no2 (ea_cons (ev_lit [93] rfl) ea_nil) (fun H2 e => ⟨fun v H' => v = .bl bb ∧ Mv H2 rd C dx t a2 H', ⟨rd, dx, t, a', 93, rfl, e rd _ mvT.at_, ht, hv2.2, by rw [he]; rfl⟩, fun v H' ⟨h1, h2⟩ => ⟨bb, h1, rfl, (Mv.id mvT.at_).more e |>.then h2⟩⟩))) (fun B4 ⟨hbb, m4⟩ => ?_) (fun B4 ⟨hbb, m4⟩ => ?_)
      · subst hbb
        have hk : Rs.ok (.list (acc ++ [v])) a2 = lsR t (rdV t n) a := hk
        refine r_ret (ev_var rfl) (back xs3 _ N3 B4 a2 hk.symm (mvT.then m4) (m4.keep hp3 hne) (fun y o ho => m4.keep (eN3 y o ho) (fun z => ?_)) nN3 fN3 dA3)
        subst z
        have := fN3 y (by rw [ho]; simp)
        rw [hB] at this
        cases this
      · subst hbb
        have hk : lsGo t (rdV t n) a2 (acc ++ [v]) = lsR t (rdV t n) a := hk
        refine r_next (fun H1 e1 => ⟨t.length - a2, by omega, _, e1, a2, _, xs3, N3, rfl, mvT.then m4, m4.keep hp3 hne, fun y o ho => m4.keep (eN3 y o ho) (fun z => ?_), nN3, fN3, dA3, he2.2, by omega, rfl, hk⟩)
        subst z
        have := fN3 y (by rw [ho]; simp)
        rw [hB] at this
        cases this
theorem none0_ex {B : Hp} : Ex none0H B := fun x o e => by cases e
theorem kvs_snoc {kvs : List (Key × V)} {ks : List (List Nat)} {k : List Nat} {v : V} (h : kvs.map (·.1) = ks.map fun k => (Sum.inr (SX.S k) : Key)) (hn : k ∉ ks) : putK kvs (.inr (SX.S k)) v = kvs ++ [(.inr (SX.S k), v)] := by
  refine putK_new _ ?_
  have := key_in (k := k) h
  rw [decide_eq_false hn] at this
  cases c : valV kvs (.inr (SX.S k)) with
  | none => rfl
  | some u => rw [c] at this; cases this
theorem keyR_ok {t : List Nat} {a a2 : Nat} {ks : List (List Nat)} {k : List Nat} (h : keyR t a ks = .ok k a2) : a < a2 ∧ a2 ≤ t.length ∧ k ∉ ks := by
  have h0 := skB_ge (t := t) (a := a)
  unfold keyR at h
  split at h
  · cases h
  · split at h
    · cases h
    · split at h
      · cases h
      · rename_i k' a3 hk
        have hk2 := rdStr_ok _ _ _ _ _ (Nat.le_refl _) hk
        have h2 := skB_ge (t := t) (a := a3)
        split at h
        · cases h
        · rename_i hn
          split at h
          · cases h
          · rename_i h58
            cases h
            have h58 : t[skB t a3]? = some 58 := Classical.not_not.mp h58
            have := (List.getElem?_eq_some_iff.mp h58).1
            exact ⟨by omega, by omega, hn⟩
theorem ok_dict (n : Nat) {C C_J : Addr} (D : DefM K C "read_dict" "JsonReader.read_dict" s_JsonReader_read_dict ["self", "depth"]) (R0 : RdC K C) (T : Tx K w mg J) (Z_JsonReader : Cls K C)
    (m_JsonReader_peek_token : MetX P w K mg base 2 C "peek_token" (spM mg (preTok C))) (m_JsonReader_read_key : MetX P w K mg base 7 C "read_key" (spM mg (preKey C))) (m_JsonReader_read_end : MetX P w K mg base 3 C "read_end" (spM mg (preEnd C))) (m_JsonReader_read_value : MetX P w K mg base (7 + 2 * n) C "read_value" (spM mg (preVal (K := K) n C))) :
    MetX P w K mg base (8 + 2 * n) C "read_dict" (spM mg (preDic (K := K) n C)) := by
  rw [show 8 + 2 * n = (7 + 2 * n) + 1 by omega]
  refine metX D sc_JsonReader_read_dict (fun vs H Q E h => ?_) (fun f cdv A outer s H vs Q E hr h => ?_)
  · obtain ⟨_, ⟨_, _, _, _, rfl, _⟩, _⟩ := h
    rfl
  obtain ⟨_, ⟨rd, dx, t, a, rfl, hB, ht, h91, rfl⟩, q⟩ := h
  refine ⟨_, (pss_cons (ps_fldaug (pv 0) pe_int in_add)
    (pss_cons (ps_set (i := 2) sc_JsonReader_read_dict.nd rfl (.inl rfl) pe_dnewK)
    (pss_cons (ps_if (pt_cmpR op_eq (pe_mX0 m_JsonReader_peek_token (takes_of rfl rfl rfl rfl) hr (by omega) Z_JsonReader (pv 0)) pe_str (nomark _))
      (pss_cons (ps_fldaug (pv 0) pe_int in_add)
      (pss_cons (ps_ret (pv 2)) pss_nil))
      pss_nil)
    (pss_cons (ps_while (passes_of rfl) (pt_val pe_bl)
      (pss_cons (ps_set (i := 3) sc_JsonReader_read_dict.nd rfl (.inl rfl) (pe_mX m_JsonReader_read_key (takes_of rfl rfl rfl rfl) hr (by omega) Z_JsonReader (pv 0) (pa_cons (pv 2) pa_nil)))
      (pss_cons (ps_dput (hu_of hr) (pv 2) (pv 3) (pe_mX m_JsonReader_read_value (takes_of rfl rfl rfl rfl) hr (by omega) Z_JsonReader (pv 0) (pa_cons (pv 1) pa_nil)) rfl)
      (pss_cons (ps_if (pt_val (pe_mX m_JsonReader_read_end (takes_of rfl rfl rfl rfl) hr (by omega) Z_JsonReader (pv 0) (pa_cons pe_str pa_nil)))
        (pss_cons (ps_ret (pv 2)) pss_nil)
        pss_nil) pss_nil)))) pss_nil)))), R.go ?_⟩
  have hl := (List.getElem?_eq_some_iff.mp h91).1
  have hz := ht.1
  have hrv : ∀ a d a', rdV t n a = .ok d a' → a < a' ∧ a' ≤ t.length := fun _ _ _ h => rdV_ok n h
  refine r_step R0 (ev_var rfl) hB ?_
  have mv : Mv H rd C dx t (a + 1) (upd H rd (.ins C dx (rdF t (a + 1)))) := Ex.refl _
  generalize upd H rd (.ins C dx (rdF t (a + 1))) = B at mv ⊢
  refine r_asgN en_dict (fun pl npl => ?_)
  have hpl : H pl = none := mv.old npl
  have hne : pl ≠ rd := fun z => by
    subst z
    rw [hB] at hpl
    cases hpl
  have mv1 : Mv H rd C dx t (a + 1) (upd B pl (.dK [])) := mv.more (Ex.new npl)
  have hp1 : (upd B pl (.dK [])) pl = some (.dK []) := upd_same
  generalize upd B pl (.dK []) = B1 at mv1 hp1 ⊢
  have hsl := skB_le (t := t) (a := a + 1) (by omega)
  have back : ∀ (xs : List (Key × V)) (ds : List (PyData × PyData)) (N B2 : Hp) (b : Nat), dcR t (rdV t n) a = .ok (.dict ds) b → Mv H rd C dx t b B2 → B2 pl = some (.dK xs) → Ex N B2 → N pl = none → (∀ p, N p ≠ none → H p = none) → DqK K N xs ds → ∀ H1, Ex B2 H1 → Q (.ref pl) H1 := by
    intro xs ds N B2 b hres m hp eN nN fN dA H1 e1
    rw [hres] at q
    refine q _ H1 ⟨m.more e1, upd N pl (.dK xs), fun x o e => ?_, fun x hx => ?_, .dct upd_same (dqk_ex (Ex.new nN) _ _ dA)⟩
    · by_cases c : x = pl
      · subst c
        rw [upd_same] at e
        cases e
        exact e1 _ _ hp
      · rw [upd_ne c] at e
        exact e1 _ _ (eN _ _ e)
    · by_cases c : x = pl
      · subst c
        exact hpl
      · rw [upd_ne c] at hx
        exact fN x hx
  refine r_whenM (tm_tokEq [125] (ev_var rfl) (Mv.id mv1.at_) ht (by omega) rfl) (fun B2 ⟨hb, mv2⟩ => ?_) (fun B2 ⟨hb, mv2⟩ => ?_)
  · have h93 : t[skB t (a + 1)]? = some 125 := ch_eq hb.symm
    refine r_step R0 (ev_var rfl) mv2.at_ ?_
    refine r_ret (ev_var rfl) (back [] [] none0H _ (skB t (a + 1) + 1) (if_pos h93) (mv1.then mv2).set ?_ (fun x o e => by cases e) rfl (fun p h => absurd rfl h) .nil)
    rw [upd_ne hne]
    exact mv2.keep hp1 hne
  have h93 : t[skB t (a + 1)]? ≠ some 125 := ch_ne hb.symm
  have hk0 : dcR t (rdV t n) a = dcGo t (rdV t n) (skB t (a + 1)) [] := if_neg h93
  refine r_while (fun m σ B => ∃ (b : Nat) (acc : List (List Nat × PyData)) (xs : List (Key × V)) (N : Hp) (y3 : Option V), σ = [some (.ref rd), some (.int (argD n)), some (.ref pl), y3] ∧ Mv H rd C dx t b B ∧ B pl = some (.dK xs) ∧ Ex N B ∧ N pl = none ∧ (∀ p, N p ≠ none → H p = none) ∧ DqK K N xs (acc.map fun p => (.str (SX.S p.1), p.2)) ∧ (xs.map (·.1) = (acc.map (·.1)).map fun k => (Sum.inr (SX.S k) : Key)) ∧ b ≤ t.length ∧ xs.length ≤ b ∧ m = t.length - b ∧ dcGo t (rdV t n) b acc = dcR t (rdV t n) a)
    (t.length - skB t (a + 1)) ⟨_, [], [], none0H, none, rfl, mv1.then mv2, mv2.keep hp1 hne, none0_ex, rfl, (fun p h => absurd rfl h), .nil, rfl, hsl, Nat.zero_le _, rfl, hk0.symm⟩ (fun m σ B hI => ?_)
  obtain ⟨b, acc, xs, N, y3, rfl, mv, hp, eN, nN, fN, dA, hks, hb, hxl, rfl, hk⟩ := hI
  refine ⟨true, et_B ev_c, fun _ => ?_, fun h => by cases h⟩
  rw [dcGo_end hrv] at hk
  have noK := rdF_no (t := t) (a := b) (m := "read_key") (by decide +kernel) (by decide +kernel)
  have off : ∀ {N : Hp} (y : Addr) (o : HO), (∀ p, N p ≠ none → H p = none) → N y = some o → y ≠ rd := fun y o fN ho z => by
    subst z
    have := fN y (by rw [ho]; simp)
    rw [hB] at this
    cases this
  cases hky : keyR t b (acc.map (·.1)) with
  | er x =>
    rw [hky] at hk
    have hk : Rs.er x = dcR t (rdV t n) a := hk
    rw [← hk] at q
    exact r_asgEM (ee_mv (ev_var rfl) mv noK (ea_cons (ev_var rfl) ea_nil) (fun H2 e => ⟨rd, dx, t, b, pl, xs, acc.map (·.1), rfl, e rd _ mv.at_, ht, hb, e pl _ hp, hks, by rw [hky]; rfl⟩)) (fun C' d H' hm nd hp hd => q C' d H' hm (mv.old nd) hp hd)
  | ok k a2 =>
    rw [hky] at hk
    have hk : (match rdV t n a2 with
      | .er e => Rs.er e
      | .ok v a4 => match endR t a4 125 with
        | .er e => .er e
        | .ok true a' => .ok (.dict ((acc ++ [(k, v)]).map fun p => (.str (SX.S p.1), p.2))) a'
        | .ok false a' => dcGo t (rdV t n) a' (acc ++ [(k, v)])) = dcR t (rdV t n) a := hk
    have hky2 := keyR_ok hky
    refine r_asgM (em_m (Φ := fun v H' => v = .str (SX.S k) ∧ Mv B rd C dx t a2 H') (ev_var rfl) mv.at_ noK (ea_cons (ev_var rfl) ea_nil) (fun H2 e => ⟨fun v H' => v = .str (SX.S k) ∧ Mv H2 rd C dx t a2 H', ⟨rd, dx, t, b, pl, xs, acc.map (·.1), rfl, e rd _ mv.at_, ht, hb, e pl _ hp, hks, by rw [hky]; rfl⟩, fun v H' ⟨h1, h2⟩ => ⟨h1, ((Mv.id mv.at_).more e).then h2⟩⟩)) (fun v1 B2 hM => ?_)
    obtain ⟨rfl, m2⟩ := hM
    have hp2 := m2.keep hp hne
    have eN2 : Ex N B2 := fun y o ho => m2.keep (eN y o ho) (off y o fN ho)
    replace mv := mv.then m2
    have no := rdF_no (t := t) (a := a2) (m := "read_value") (by decide +kernel) (by decide +kernel)
    cases hv : rdV t n a2 with
    | er x =>
      rw [hv] at hk
      have hk : Rs.er x = dcR t (rdV t n) a := hk
      rw [← hk] at q
      exact r_dputEM (ee_mv (ev_var rfl) mv no (ea_cons (ev_var rfl) ea_nil) (fun H2 e => ⟨rd, dx, t, a2, rfl, e rd _ mv.at_, ht, hky2.2.1, by rw [hv]; rfl⟩)) (fun C' d H' hm nd hp hd => q C' d H' hm (mv.old nd) hp hd)
    | ok v a' =>
      rw [hv] at hk
      have hk : (match endR t a' 125 with
        | .er e => Rs.er e
        | .ok true a3 => .ok (.dict ((acc ++ [(k, v)]).map fun p => (.str (SX.S p.1), p.2))) a3
        | .ok false a3 => dcGo t (rdV t n) a3 (acc ++ [(k, v)])) = dcR t (rdV t n) a := hk
      have hv2 := hrv _ _ _ hv
      refine r_dputM (d := pl) (key := .inr (SX.S k)) (em_m (Φ := fun v H' => ∃ kvs, H' pl = some (.dK kvs) ∧ kvs.length < 100000 ∧ Ev _ _ H' (.ref pl) ∧ Ev _ _ H' (.str (SX.S k)) ∧ ∀ H3, Ex H' H3 → R _ _ _ (upd H3 pl (.dK (putK kvs (.inr (SX.S k)) v)))) (ev_var rfl) mv.at_ no (ea_cons (ev_var rfl) ea_nil) (fun H2 e => ⟨fun v' H' => Mv H2 rd C dx t a' H' ∧ ∃ N2, Ex N2 H' ∧ (∀ p, N2 p ≠ none → H2 p = none) ∧ Dq K N2 v' v, ⟨rd, dx, t, a2, rfl, e rd _ mv.at_, ht, hky2.2.1, by rw [hv]; rfl⟩, fun x H' ⟨m3, N2, eNN, fN2, d2⟩ => ⟨xs, m3.keep (e pl _ hp2) hne, by omega, ev_var rfl, ev_var rfl, fun H3 e3 => ?_⟩⟩))
      rw [kvs_snoc hks hky2.2.2]
      have hdis : ∀ p, N2 p ≠ none → N p = none := fun p h => fresh_back (eN2.trans e) (fN2 p h)
      have n2l : N2 pl = none := by
        cases c : N2 pl with
        | none => rfl
        | some u =>
          have := fN2 pl (by rw [c]; simp)
          rw [e pl _ hp2] at this
          cases this
      have mvT : Mv H rd C dx t a' (upd H3 pl (.dK (xs ++ [(.inr (SX.S k), x)]))) := fun y o ho => by
        have hx := e3 y o (((mv.more e).then m3) y o ho)
        have hxp : y ≠ pl := fun z => by
          subst z
          rw [upd_ne hne, hpl] at ho
          cases ho
        rw [upd_ne hxp]
        exact hx
      have hp3 : (upd H3 pl (.dK (xs ++ [(.inr (SX.S k), x)]))) pl = some (.dK (xs ++ [(.inr (SX.S k), x)])) := upd_same
      have eN3 : Ex (fr N N2) (upd H3 pl (.dK (xs ++ [(.inr (SX.S k), x)]))) := fun y o ho => by
        cases c : N2 y with
        | some u =>
          rw [fr_in c] at ho
          cases ho
          rw [upd_ne (fun z => by subst z; rw [n2l] at c; cases c)]
          exact e3 y _ (eNN y _ c)
        | none =>
          rw [fr_out c] at ho
          rw [upd_ne (fun z => by subst z; rw [nN] at ho; cases ho)]
          exact e3 y _ (m3.keep (e y _ (eN2 y _ ho)) (off y o fN ho))
      have nN3 : fr N N2 pl = none := by rw [fr_out n2l]; exact nN
      have fN3 : ∀ p, fr N N2 p ≠ none → H p = none := fun p h => by
        cases c : N2 p with
        | some u => exact (mv.more e).old (fN2 p (by rw [c]; simp))
        | none =>
          rw [fr_out c] at h
          exact fN p h
      have dA3 : DqK K (fr N N2) (xs ++ [(.inr (SX.S k), x)]) ((acc ++ [(k, v)]).map fun p => (.str (SX.S p.1), p.2)) := by
        rw [List.map_append]
        exact dqk_snoc (dqk_ex (frag hdis).1 _ _ dA) (dq_ex (frag hdis).2 _ _ d2)
      have hks3 : (xs ++ [((.inr (SX.S k) : Key), x)]).map (·.1) = ((acc ++ [(k, v)]).map (·.1)).map fun k => (Sum.inr (SX.S k) : Key) := by
        rw [List.map_append, hks, List.map_append, List.map_append]
        rfl
      have hxl3 : (xs ++ [((.inr (SX.S k) : Key), x)]).length ≤ a' := by
        rw [List.length_append, List.length_singleton]
        omega
      generalize upd H3 pl (.dK (xs ++ [(.inr (SX.S k), x)])) = B3 at mvT hp3 eN3 ⊢
      generalize fr N N2 = N3 at eN3 nN3 fN3 dA3
      generalize xs ++ [((.inr (SX.S k) : Key), x)] = xs3 at hp3 dA3 hxl3 hks3
      have no2 := rdF_no (t := t) (a := a') (m := "read_end") (by decide +kernel) (by decide +kernel)
      cases he : endR t a' 125 with
      | er y =>
        rw [he] at hk
        have hk : Rs.er y = dcR t (rdV t n) a := hk
        rw [← hk] at q
        exact r_ifEM (xe_B (ee_mv (ev_var rfl) mvT no2 (ea_cons (ev_lit [125] rfl) ea_nil) (fun H2 e => ⟨rd, dx, t, a', 125, rfl, e rd _ mvT.at_, ht, hv2.2, by rw [he]; rfl⟩))) (fun C' d H' hm nd hp hd => q C' d H' hm (mvT.old nd) hp hd)
      | ok bb a3 =>
        rw [he] at hk
        have he2 := endR_ok he
        refine r_whenM (tm_B (em_m (Φ := fun v H' => ∃ b, v = .bl b ∧ b = bb ∧ Mv B3 rd C dx t a3 H') (ev_var rfl) mvT.at_ no2 (ea_cons (ev_lit [125] rfl) ea_nil) (fun H2 e => ⟨fun v H' => v = .bl bb ∧ Mv H2 rd C dx t a3 H', ⟨rd, dx, t, a', 125, rfl, e rd _ mvT.at_, ht, hv2.2, by rw [he]; rfl⟩, fun v H' ⟨h1, h2⟩ => ⟨bb, h1, rfl, (Mv.id mvT.at_).more e |>.then h2⟩⟩))) (fun B4 ⟨hbb, m4⟩ => ?_) (fun B4 ⟨hbb, m4⟩ => ?_)
        · subst hbb
          have hk : Rs.ok (.dict ((acc ++ [(k, v)]).map fun p => (.str (SX.S p.1), p.2))) a3 = dcR t (rdV t n) a := hk
          exact r_ret (ev_var rfl) (back xs3 _ N3 B4 a3 hk.symm (mvT.then m4) (m4.keep hp3 hne) (fun y o ho => m4.keep (eN3 y o ho) (off y o fN3 ho)) nN3 fN3 dA3)
        · subst hbb
          have hk : dcGo t (rdV t n) a3 (acc ++ [(k, v)]) = dcR t (rdV t n) a := hk
          exact r_next (fun H1 e1 => ⟨t.length - a3, by omega, _, e1, a3, _, xs3, N3, _, rfl, mvT.then m4, m4.keep hp3 hne, fun y o ho => m4.keep (eN3 y o ho) (off y o fN3 ho), nN3, fN3, dA3, hks3, he2.2, by omega, rfl, hk⟩)
def spListP (mg : Str → Option Value) (C : Addr) : Nat → Sp
  | 0 => fun _ _ _ _ => False
  | n + 1 => spM mg (preList (K := K) n C)
def spDicP (mg : Str → Option Value) (C : Addr) : Nat → Sp
  | 0 => fun _ _ _ _ => False
  | n + 1 => spM mg (preDic (K := K) n C)
section
variable {σ : L2.St} {B : Hp} {tl : TE} {tz tu : TS} {D : Ends} {a : Addr} {xs : List V} {j1 j2 : Nat}
/-- a for over a tuple of pairs -/
theorem r_forTP (h : Ev tl σ B (.ref a)) (hx : ∀ H, SqT K H a xs) (Pv : Nat → L2.St → Hp → Prop) (h0 : Pv 0 σ B)
    (hs : ∀ i x σ' B', xs[i]? = some x → Pv i σ' B' → ∃ p u v, x = .ref p ∧ (∀ H, SqT K H p [u, v]) ∧ R tu (Lp Pv i D tz) ((σ'.set j1 (some u)).set j2 (some v)) B') (hd : ∀ σ' B', Pv xs.length σ' B' → R tz D σ' B') :
    R (tSeq (tFor (iTup K tl) (gTup K 2 (gCons (gName j1) (gCons (gName j2) gNil))) tu) tz) D σ B := fun H e => h H e _ fun H1 e1 =>
  ⟨a, rfl, ⟨xs, hx H1⟩, for_it walk_tup (D := { D with nx := tz D }) (Up Pv) ⟨B, e.trans e1, h0⟩ (fun i σ' H' hi _ => hx H')
    (fun i x σ' H' H2 hi ⟨B', e', p⟩ ⟨e2, h2⟩ => by
      subst e2
      obtain ⟨q, u, v, rfl, hq, k⟩ := hs i x σ' B' h2 p
      exact ⟨q, [u, v], rfl, hq _, rfl, u, [v], rfl, v, [], rfl, rfl, k _ e'⟩) fun σ' H' ⟨B', e', p⟩ => hd σ' B' p H' e'⟩
end
theorem wd_any {t : List Nat} {w : List Nat} {a : Nat} {d d' : PyData} : wdGo t w a d = (match wdGo t w a d' with
    | .ok _ a' => .ok d a'
    | .er e => .er e) := by
  induction w generalizing a with
  | nil => rfl
  | cons c r ih =>
    show (if t[a]? = some c then wdGo t r (a + 1) d else .er a) = (match (if t[a]? = some c then wdGo t r (a + 1) d' else .er a) with
      | .ok _ a' => Rs.ok d a'
      | .er e => .er e)
    by_cases h : t[a]? = some c
    · rw [if_pos h, if_pos h, ih]
    · rw [if_neg h, if_neg h]
theorem ok_value (n : Nat) (hn : n ≤ 32) {C C_J : Addr} (D : DefM K C "read_value" "JsonReader.read_value" s_JsonReader_read_value ["self", "around"]) (R0 : RdC K C) (T : Tx K w mg J) (Z_JsonReader : Cls K C) (Z_InvalidJson : ErrC P w K mg base "InvalidJson" C_J) (c_digit_of : Cal CX0 P w K mg base 1 "digit_of" spDig)
    (m_JsonReader_peek_token : MetX P w K mg base 2 C "peek_token" (spM mg (preTok C))) (m_JsonReader_read_string : MetX P w K mg base 6 C "read_string" (spM mg (preStr C))) (m_JsonReader_read_number : MetX P w K mg base 3 C "read_number" (spM mg (preNumb (K := K) C))) (m_JsonReader_skip_word : MetX P w K mg base 3 C "skip_word" (spM mg (preWord C)))
    (m_JsonReader_read_list : MetX P w K mg base (6 + 2 * n) C "read_list" (spListP (K := K) mg C n)) (m_JsonReader_read_dict : MetX P w K mg base (6 + 2 * n) C "read_dict" (spDicP (K := K) mg C n)) :
    MetX P w K mg base (7 + 2 * n) C "read_value" (spM mg (preVal (K := K) n C)) := by
  rw [show 7 + 2 * n = (6 + 2 * n) + 1 by omega]
  refine metX D sc_JsonReader_read_value (fun vs H Q E h => ?_) (fun f cdv A outer s H vs Q E hr h => ?_)
  · obtain ⟨_, ⟨_, _, _, _, rfl, _⟩, _⟩ := h
    rfl
  obtain ⟨_, ⟨rd, dx, t, a, rfl, hB, ht, ha, rfl⟩, q⟩ := h
  refine ⟨_, (pss_cons (ps_set (i := 2) sc_JsonReader_read_value.nd rfl (.inl rfl) (pe_mX0 m_JsonReader_peek_token (takes_of rfl rfl rfl rfl) hr (by omega) Z_JsonReader (pv 0)))
    (pss_cons (ps_if (pw_or (pt_cmpR op_eq (pv 2) pe_str (nomark _)) (pw_or1 (pt_cmpR op_eq (pv 2) pe_str (nomark _)))).pt
      (pss_cons (ps_if (pt_cmpR op_eq (pv 1) (pe_gc (by rfl) T.g_DEEPEST) (nomark _))
        (pss_cons (ps_raiseC Z_InvalidJson rfl (takes_of rfl rfl rfl rfl) hr (by omega) (by rfl) (pa_cons (pe_fld (pv 0) rfl) pa_nil)) pss_nil)
        pss_nil)
      (pss_cons (ps_ret (pe_ifExp (pt_cmpR op_eq (pv 2) pe_str (nomark _)) (pe_mX m_JsonReader_read_list (takes_of rfl rfl rfl rfl) hr (by omega) Z_JsonReader (pv 0) (pa_cons (pe_op op_add (pv 1) pe_int) pa_nil)) (pe_mX m_JsonReader_read_dict (takes_of rfl rfl rfl rfl) hr (by omega) Z_JsonReader (pv 0) (pa_cons (pe_op op_add (pv 1) pe_int) pa_nil)))) pss_nil))
      pss_nil)
    (pss_cons (ps_if (pt_cmpR op_eq (pv 2) pe_str (nomark _))
      (pss_cons (ps_ret (pe_mX0 m_JsonReader_read_string (takes_of rfl rfl rfl rfl) hr (by omega) Z_JsonReader (pv 0))) pss_nil)
      pss_nil)
    (pss_cons (ps_if (pw_or (pt_cmpR op_eq (pv 2) pe_str (nomark _)) (pw_or1 (pt_cmpR op_notN (pe_c c_digit_of hr (by omega) (by rfl) (pa_cons (pv 2) (pa_cons pe_int pa_nil))) pe_non (nomark _)))).pt
      (pss_cons (ps_ret (pe_mX0 m_JsonReader_read_number (takes_of rfl rfl rfl rfl) hr (by omega) Z_JsonReader (pv 0))) pss_nil)
      pss_nil)
    (pss_cons (ps_for (passes_of rfl) rfl (pi_tup (pe_gc (by rfl) T.g_WORDS)) (pg_tup rfl (pgs_cons (pg_name (i := 3) sc_JsonReader_read_value.nd rfl (.inl rfl)) (pgs_cons (pg_name (i := 4) sc_JsonReader_read_value.nd rfl (.inl rfl)) pgs_nil)))
      (pss_cons (ps_if (pt_cmpR op_eq (pv 2) (pe_ix ix_str (pv 3) pe_int (fun _ _ => rfl)) (nomark _))
        (pss_cons (ps_expr (pe_mX m_JsonReader_skip_word (takes_of rfl rfl rfl rfl) hr (by omega) Z_JsonReader (pv 0) (pa_cons (pv 3) pa_nil)))
        (pss_cons (ps_ret (pv 4)) pss_nil))
        pss_nil) pss_nil))
    (pss_cons (ps_raiseC Z_InvalidJson rfl (takes_of rfl rfl rfl rfl) hr (by omega) (by rfl) (pa_cons (pe_fld (pv 0) rfl) pa_nil)) pss_nil)))))), R.go ?_⟩
  have hz := ht.1
  rw [rdV_eq] at q
  have hsl := skB_le ha
  refine r_asgM (em_tok (Φ := fun v H' => v = .str (SX.S (chL t (skB t a))) ∧ Mv H rd C dx t (skB t a) H') (ev_var rfl) (Mv.id hB) ht ha (fun H' m => ⟨rfl, m⟩)) (fun v B hM => ?_)
  obtain ⟨rfl, mv⟩ := hM
  have hq0 : rdA t (upN t n) a = (match t[skB t a]? with
    | none => .er (skB t a)
    | some c => rdC t (upN t n) (skB t a) c) := rfl
  rw [hq0] at q
  clear hq0
  generalize skB t a = b at *
  have err : ∀ {tz : TS} {D' : Ends} {σ : L2.St} {B2 : Hp}, (match t[b]? with
    | none => Rs.er b
    | some c => rdC t (upN t n) b c) = .er b → Mv H rd C dx t b B2 → σ[0]? = some (some (.ref rd)) → R (tSeq (tRz K C_J (tFld K (tVar 0) "at") (fun cls d σ H => E cls d H)) tz) D' σ B2 := by
    intro tz D' σ B2 he m hσ
    rw [he] at q
    exact r_raise Z_InvalidJson.k (ev_at R0 (ev_var hσ) m.at_) (fun d H1 nd e1 hd => q C_J d H1 Z_InvalidJson.gC (m.old nd) ⟨_, m.more e1⟩ hd)
  refine r_when (et_or (et_test (ev_eqS (ev_var rfl) (ev_lit [91] rfl))) (fun _ => et_test (ev_eqS (ev_var rfl) (ev_lit [123] rfl)))) (fun hb => ?_) (fun hb => ?_)
  · cases n with
    | zero =>
      refine r_when (et_test (ev_op (ev_var rfl) ev_c (rv_eq rfl))) (fun _ => ?_) (fun h => by simp [argD] at h)
      refine err ?_ mv rfl
      rw [Bool.or_eq_true] at hb
      rcases hb with hb | hb
      · rw [ch_eq hb]
        rfl
      · rw [ch_eq hb]
        rfl
    | succ n =>
      refine r_when (et_test (ev_op (ev_var rfl) ev_c (rv_eq rfl))) (fun h => by
        have := of_decide_eq_true h
        injection this with h2
        unfold argD at h2
        omega) (fun _ => ?_)
      have hargs : ∀ {B' : Hp}, EvA (tCons (tOp (rI0 fun i j => .int (i + j)) (tVar 1) (tC (.int 1))) tNil) [some (.ref rd), some (.int (argD (n + 1))), some (.str (SX.S (chL t b))), none, none] B' [.int (argD n)] := by
        intro B'
        have : argD n = argD (n + 1) + 1 := by unfold argD; omega
        rw [this]
        exact ea_cons (ev_op (ev_var rfl) ev_c rv_ar) ea_nil
      cases h91 : decide (chL t b = [91]) with
      | true =>
        have hc := ch_eq h91
        rw [hc] at q
        have q : (match outS K C rd dx t H (lsR t (rdV t n) b) with
          | .val Φ => ∀ v H2, Φ v H2 → Q v H2
          | .err x v Ψ => ∀ C d H2, mg x = some (.ref C) → H d = none → Ψ H2 → H2 d = some (.xd (errF x v)) → E (.ref C) (some d) H2) := q
        have no := rdF_no (t := t) (a := b) (m := "read_list") (by decide +kernel) (by decide +kernel)
        have hT := et_test (ev_eqS (te := tVar 2) (tb := tC (.str "[")) (σ := [some (.ref rd), some (.int (argD (n + 1))), some (.str (SX.S (chL t b))), none, none]) (B := B) (ev_var rfl) (ev_lit [91] rfl))
        rw [h91] at hT
        cases hl : lsR t (rdV t n) b with
        | er x =>
          rw [hl] at q
          exact r_retEM (xe_if hT (fun _ => ee_mv (ev_var rfl) mv no hargs (fun H2 e => ⟨rd, dx, t, b, rfl, e rd _ mv.at_, ht, hc, by rw [hl]; rfl⟩)) (fun h => by cases h)) (fun C' d H' hm nd hp hd => q C' d H' hm (mv.old nd) hp hd)
        | ok d a' =>
          rw [hl] at q
          refine r_retM (em_if (tm_et (Θ := fun b' H' => b' = true ∧ Ex B H') hT (fun H' e => ⟨rfl, e⟩)) (fun B' hB' => em_m (Φ := fun v H' => Mv H rd C dx t a' H' ∧ ∃ N, Ex N H' ∧ (∀ p, N p ≠ none → H p = none) ∧ Dq K N v d) (ev_var rfl) (hB'.2 rd _ mv.at_) no hargs (fun H2 e => ⟨_, ⟨rd, dx, t, b, rfl, e rd _ (hB'.2 rd _ mv.at_), ht, hc, by rw [hl]; rfl⟩, fun v H' h => ?_⟩)) (fun B' h => by cases h.1)) (fun v B' h => q v B' h)
          obtain ⟨m3, N, eN, fN, dN⟩ := h
          exact ⟨(mv.more (hB'.2.trans e)).then m3, N, eN, fun p hp => (mv.more (hB'.2.trans e)).old (fN p hp), dN⟩
      | false =>
        rw [h91, Bool.false_or] at hb
        have hc := ch_eq hb
        rw [hc] at q
        have q : (match outS K C rd dx t H (dcR t (rdV t n) b) with
          | .val Φ => ∀ v H2, Φ v H2 → Q v H2
          | .err x v Ψ => ∀ C d H2, mg x = some (.ref C) → H d = none → Ψ H2 → H2 d = some (.xd (errF x v)) → E (.ref C) (some d) H2) := q
        have no := rdF_no (t := t) (a := b) (m := "read_dict") (by decide +kernel) (by decide +kernel)
        have hT := et_test (ev_eqS (te := tVar 2) (tb := tC (.str "[")) (σ := [some (.ref rd), some (.int (argD (n + 1))), some (.str (SX.S (chL t b))), none, none]) (B := B) (ev_var rfl) (ev_lit [91] rfl))
        rw [h91] at hT
        cases hl : dcR t (rdV t n) b with
        | er x =>
          rw [hl] at q
          exact r_retEM (xe_if hT (fun h => by cases h) (fun _ => ee_mv (ev_var rfl) mv no hargs (fun H2 e => ⟨rd, dx, t, b, rfl, e rd _ mv.at_, ht, hc, by rw [hl]; rfl⟩))) (fun C' d H' hm nd hp hd => q C' d H' hm (mv.old nd) hp hd)
        | ok d a' =>
          rw [hl] at q
          refine r_retM (em_if (tm_et (Θ := fun b' H' => b' = false ∧ Ex B H') hT (fun H' e => ⟨rfl, e⟩)) (fun B' h => by cases h.1) (fun B' hB' => em_m (Φ := fun v H' => Mv H rd C dx t a' H' ∧ ∃ N, Ex N H' ∧ (∀ p, N p ≠ none → H p = none) ∧ Dq K N v d) (ev_var rfl) (hB'.2 rd _ mv.at_) no hargs (fun H2 e => ⟨_, ⟨rd, dx, t, b, rfl, e rd _ (hB'.2 rd _ mv.at_), ht, hc, by rw [hl]; rfl⟩, fun v H' h => ?_⟩))) (fun v B' h => q v B' h)
          obtain ⟨m3, N, eN, fN, dN⟩ := h
          exact ⟨(mv.more (hB'.2.trans e)).then m3, N, eN, fun p hp => (mv.more (hB'.2.trans e)).old (fN p hp), dN⟩
  rw [Bool.or_eq_false_iff] at hb
  have h91 := ch_ne hb.1
  have h123 := ch_ne hb.2
  clear hb
  refine r_when (et_test (ev_eqS (ev_var rfl) (ev_lit [34] rfl))) (fun hb => ?_) (fun hb => ?_)
  · have h34 := ch_eq hb
    rw [h34] at q
    have q : (match outS K C rd dx t H (stR t b) with
          | .val Φ => ∀ v H2, Φ v H2 → Q v H2
          | .err x v Ψ => ∀ C d H2, mg x = some (.ref C) → H d = none → Ψ H2 → H2 d = some (.xd (errF x v)) → E (.ref C) (some d) H2) := q
    have no := rdF_no (t := t) (a := b) (m := "read_string") (by decide +kernel) (by decide +kernel)
    unfold stR at q
    cases hs : rdStr t (b + 1) [] with
    | er x =>
      rw [hs] at q
      exact r_retEM (ee_mv (ev_var rfl) mv no ea_nil (fun H2 e => ⟨rd, dx, t, b, rfl, e rd _ mv.at_, ht, hsl, h34, by rw [hs]; rfl⟩)) (fun C' d H' hm nd hp hd => q C' d H' hm (mv.old nd) hp hd)
    | ok cs a' =>
      rw [hs] at q
      refine r_retM (em_mv (Pv := fun v => v = .str (SX.S cs)) (a' := a') (ev_var rfl) mv no ea_nil (fun H2 e => ⟨rd, dx, t, b, rfl, e rd _ mv.at_, ht, hsl, h34, by rw [hs]; rfl⟩)) (fun v B' h => ?_)
      obtain ⟨rfl, m3⟩ := h
      exact q _ B' ⟨m3, none0H, none0_ex, fun p h => absurd rfl h, .str _⟩
  have h34 := ch_ne hb
  clear hb
  have hd0 : (!decide (digV (chL t b) 10 = .non)) = (match t[b]? with
      | some c => isDg c
      | none => false) := by
    rw [dig_none, dig_L]
    cases t[b]? with
    | none => rfl
    | some c =>
      show (!(digN c 10).isNone) = isDg c
      rw [← dig_isDg]
      cases digN c 10 <;> rfl
  refine r_when (et_or (et_test (ev_eqS (ev_var rfl) (ev_lit [45] rfl))) (fun _ => et_test (ev_op (ev_pv (ea_cons (ev_var rfl) (ea_cons ev_c ea_nil)) (fun H _ => ⟨chL t b, 10, rfl, .inl rfl, ch_le, ch_lt ht, rfl⟩)) ev_c rv_notN))) (fun hb => ?_) (fun hb => ?_)
  · rw [hd0] at hb
    obtain ⟨c, hc, hcd⟩ : ∃ c, t[b]? = some c ∧ (c = 45 ∨ isDg c = true) := by
      cases hc : t[b]? with
      | none => rw [chL_none hc, hc] at hb; simp at hb
      | some c =>
        rw [chL_some hc, hc] at hb
        refine ⟨c, rfl, ?_⟩
        simpa using hb
    rw [hc] at q
    have e : rdC t (upN t n) b c = rdNum t b := by
      unfold rdC
      rw [if_neg (fun z => h91 (by rw [hc, z])), if_neg (fun z => h123 (by rw [hc, z])), if_neg (fun z => h34 (by rw [hc, z])), if_pos hcd]
    have q : (match outS K C rd dx t H (rdC t (upN t n) b c) with
          | .val Φ => ∀ v H2, Φ v H2 → Q v H2
          | .err x v Ψ => ∀ C d H2, mg x = some (.ref C) → H d = none → Ψ H2 → H2 d = some (.xd (errF x v)) → E (.ref C) (some d) H2) := q
    rw [e] at q
    have no := rdF_no (t := t) (a := b) (m := "read_number") (by decide +kernel) (by decide +kernel)
    cases hl : rdNum t b with
    | er x =>
      rw [hl] at q
      exact r_retEM (ee_mv (ev_var rfl) mv no ea_nil (fun H2 e => ⟨rd, dx, t, b, rfl, e rd _ mv.at_, ht, hsl, by rw [hl]; rfl⟩)) (fun C' d H' hm nd hp hd => q C' d H' hm (mv.old nd) hp hd)
    | ok d a' =>
      rw [hl] at q
      refine r_retM (em_m (Φ := fun v H' => Mv H rd C dx t a' H' ∧ ∃ N, Ex N H' ∧ (∀ p, N p ≠ none → H p = none) ∧ Dq K N v d) (ev_var rfl) mv.at_ no ea_nil (fun H2 e => ⟨_, ⟨rd, dx, t, b, rfl, e rd _ mv.at_, ht, hsl, by rw [hl]; rfl⟩, fun v H' h => ?_⟩)) (fun v B' h => q v B' h)
      obtain ⟨m3, N, eN, fN, dN⟩ := h
      exact ⟨(mv.more e).then m3, N, eN, fun p hp => (mv.more e).old (fN p hp), dN⟩
  have hnum : ∀ c, t[b]? = some c → ¬ (c = 45 ∨ isDg c = true) := by
    intro c hc z
    rw [hd0, chL_some hc, hc] at hb
    simp at hb
    rcases z with z | z
    · exact hb.1 z
    · rw [hb.2] at z
      cases z
  clear hb hd0
  have hrest : ∀ c, t[b]? = some c → rdC t (upN t n) b c = (if c = 110 then wdGo t wNull b .none else if c = 116 then wdGo t wTrue b (.bool true) else if c = 102 then wdGo t wFalse b (.bool false) else .er b) := by
    intro c hc
    unfold rdC
    rw [if_neg (fun z => h91 (by rw [hc, z])), if_neg (fun z => h123 (by rw [hc, z])), if_neg (fun z => h34 (by rw [hc, z])), if_neg (hnum c hc)]
  have word : ∀ (x : Nat) (r : List Nat) (v : V) (d : PyData) (tz : TS) (D' : Ends) (σ : L2.St) (B2 : Hp) (hσ : σ = [some (.ref rd), some (.int (argD n)), some (.str (SX.S (chL t b))), some (.str (SX.S (x :: r))), some v]), (x :: r).length ≤ 100000 → Dq K none0H v d → Mv H rd C dx t b B2 → (t[b]? = some x → rdC t (upN t n) b x = wdGo t (x :: r) b d) →
      (∀ c, t[b]? = some c → c ≠ x → R tNext D' σ B2) → (t[b]? = none → R tNext D' σ B2) → D'.rt = Q →
      R (tSeq (tIfS (tTest (tOp rEq (tVar 2) (tOp rIxS (tVar 3) (tC (.int 0))))) (tSeq (tDrop (tMethX C "skip_word" (spM mg (preWord C)) (WE fun cls d σ H => E cls d H) (tVar 0) (tCons (tVar 3) tNil))) (tSeq (tRet (tVar 4)) tNext)) tNext) tNext) D' σ B2 := by
    intro x r v d tz D' σ B2 hσ hsz hd m hx hno hnone hrt
    subst hσ
    have he : Ev (tOp rIxS (tVar 3) (tC (.int 0))) [some (.ref rd), some (.int (argD n)), some (.str (SX.S (chL t b))), some (.str (SX.S (x :: r))), some v] B2 (.str (SX.S [x])) := by
      exact ev_op (ev_var rfl) ev_c (rv_ixSt hsz (by decide) (by rw [List.length_cons]; omega))
    refine r_when (et_test (ev_eqS (ev_var rfl) he)) (fun hb => ?_) (fun hb => ?_)
    · have hc := ch_eq hb
      rw [hc] at q
      have q : (match outS K C rd dx t H (rdC t (upN t n) b x) with
          | .val Φ => ∀ v H2, Φ v H2 → Q v H2
          | .err x v Ψ => ∀ C d H2, mg x = some (.ref C) → H d = none → Ψ H2 → H2 d = some (.xd (errF x v)) → E (.ref C) (some d) H2) := q
      rw [hx hc, wd_any (d' := .none)] at q
      have no := rdF_no (t := t) (a := b) (m := "skip_word") (by decide +kernel) (by decide +kernel)
      cases hl : wdGo t (x :: r) b .none with
      | er y =>
        rw [hl] at q
        exact r_dropEM (ee_mv (ev_var rfl) m no (ea_cons (ev_var rfl) ea_nil) (fun H2 e => ⟨rd, dx, t, b, x :: r, rfl, e rd _ m.at_, ht, hsl, by rw [hl]; rfl⟩)) (fun C' d H' hm nd hp hd => q C' d H' hm (m.old nd) hp hd)
      | ok d0 a' =>
        rw [hl] at q
        refine r_dropM (em_mv (Pv := fun _ => True) (a' := a') (ev_var rfl) m no (ea_cons (ev_var rfl) ea_nil) (fun H2 e => ⟨rd, dx, t, b, x :: r, rfl, e rd _ m.at_, ht, hsl, by rw [hl]; rfl⟩)) (fun v' B' h => ?_)
        refine r_ret (ev_var rfl) (fun H1 e1 => ?_)
        rw [hrt]
        exact q _ H1 ⟨h.2.more e1, none0H, none0_ex, fun p h => absurd rfl h, hd⟩
    · cases hc : t[b]? with
      | none => exact hnone hc
      | some c => exact hno c hc (fun z => ch_ne hb (by rw [hc, z]))
  refine r_forTP (xs := [.ref J.w0, .ref J.w1, .ref J.w2]) ev_c T.t_WORDS (fun i σ B2 => ∃ y3 y4, σ = [some (.ref rd), some (.int (argD n)), some (.str (SX.S (chL t b))), y3, y4] ∧ Mv H rd C dx t b B2 ∧ (1 ≤ i → t[b]? ≠ some 110) ∧ (2 ≤ i → t[b]? ≠ some 116) ∧ (3 ≤ i → t[b]? ≠ some 102))
    ⟨none, none, rfl, mv, fun h => by omega, fun h => by omega, fun h => by omega⟩ (fun i x σ B2 hx hI => ?_) (fun σ B2 hI => ?_)
  · obtain ⟨y3, y4, rfl, m, p1, p2, p3⟩ := hI
    match i, hx with
    | 0, hx =>
      cases hx
      refine ⟨J.w0, _, _, rfl, T.t_W0, ?_⟩
      exact word 110 [117, 108, 108] .non .none tNext _ _ B2 rfl (by decide) .non m (fun hc => by rw [hrest _ hc, if_pos rfl]; rfl) (fun c hc hne => r_up ⟨_, _, rfl, m, fun _ z => hne (by rw [hc] at z; cases z; rfl), fun h => by omega, fun h => by omega⟩) (fun hc => r_up ⟨_, _, rfl, m, fun _ z => (by rw [hc] at z; cases z), fun h => by omega, fun h => by omega⟩) rfl
    | 1, hx =>
      cases hx
      refine ⟨J.w1, _, _, rfl, T.t_W1, ?_⟩
      exact word 116 [114, 117, 101] (.bl true) (.bool true) tNext _ _ B2 rfl (by decide) (.bl _) m (fun hc => by rw [hrest _ hc, if_neg (by decide), if_pos rfl]; rfl) (fun c hc hne => r_up ⟨_, _, rfl, m, fun _ => p1 (by omega), fun _ z => hne (by rw [hc] at z; cases z; rfl), fun h => by omega⟩) (fun hc => r_up ⟨_, _, rfl, m, fun _ => p1 (by omega), fun _ z => (by rw [hc] at z; cases z), fun h => by omega⟩) rfl
    | 2, hx =>
      cases hx
      refine ⟨J.w2, _, _, rfl, T.t_W2, ?_⟩
      exact word 102 [97, 108, 115, 101] (.bl false) (.bool false) tNext _ _ B2 rfl (by decide) (.bl _) m (fun hc => by rw [hrest _ hc, if_neg (by decide), if_neg (by decide), if_pos rfl]; rfl) (fun c hc hne => r_up ⟨_, _, rfl, m, fun _ => p1 (by omega), fun _ => p2 (by omega), fun _ z => hne (by rw [hc] at z; cases z; rfl)⟩) (fun hc => r_up ⟨_, _, rfl, m, fun _ => p1 (by omega), fun _ => p2 (by omega), fun _ z => (by rw [hc] at z; cases z)⟩) rfl
    | i + 3, hx => simp at hx
  · obtain ⟨y3, y4, rfl, m, p1, p2, p3⟩ := hI
    refine err ?_ m rfl
    cases hc : t[b]? with
    | none => rfl
    | some c =>
      show rdC t (upN t n) b c = .er b
      rw [hrest c hc, if_neg (fun z => p1 (by simp) (by rw [hc, z])), if_neg (fun z => p2 (by simp) (by rw [hc, z])), if_neg (fun z => p3 (by simp) (by rw [hc, z]))]
/-! the whole -/
theorem ok_vals {C C_J : Addr} (DV : DefM K C "read_value" "JsonReader.read_value" s_JsonReader_read_value ["self", "around"]) (DL : DefM K C "read_list" "JsonReader.read_list" s_JsonReader_read_list ["self", "depth"]) (DD : DefM K C "read_dict" "JsonReader.read_dict" s_JsonReader_read_dict ["self", "depth"])
    (R0 : RdC K C) (T : Tx K w mg J) (Z_JsonReader : Cls K C) (Z_InvalidJson : ErrC P w K mg base "InvalidJson" C_J) (c_digit_of : Cal CX0 P w K mg base 1 "digit_of" spDig)
    (m_tok : MetX P w K mg base 2 C "peek_token" (spM mg (preTok C))) (m_str : MetX P w K mg base 6 C "read_string" (spM mg (preStr C))) (m_num : MetX P w K mg base 3 C "read_number" (spM mg (preNumb (K := K) C))) (m_word : MetX P w K mg base 3 C "skip_word" (spM mg (preWord C)))
    (m_end : MetX P w K mg base 3 C "read_end" (spM mg (preEnd C))) (m_key : MetX P w K mg base 7 C "read_key" (spM mg (preKey C))) : ∀ n, n ≤ 32 → MetX P w K mg base (7 + 2 * n) C "read_value" (spM mg (preVal (K := K) n C))
  | 0, _ => ok_value 0 (by decide) DV R0 T Z_JsonReader Z_InvalidJson c_digit_of m_tok m_str m_num m_word (metX DL sc_JsonReader_read_list (fun vs H Q E h => False.elim h) (fun f cdv A outer s H vs Q E hr h => False.elim h)) (metX DD sc_JsonReader_read_dict (fun vs H Q E h => False.elim h) (fun f cdv A outer s H vs Q E hr h => False.elim h))
  | n + 1, h => by
    have ih := ok_vals DV DL DD R0 T Z_JsonReader Z_InvalidJson c_digit_of m_tok m_str m_num m_word m_end m_key n (by omega)
    have e : 6 + 2 * (n + 1) = 8 + 2 * n := by omega
    exact ok_value (n + 1) h DV R0 T Z_JsonReader Z_InvalidJson c_digit_of m_tok m_str m_num m_word (by rw [e]; exact ok_list (C_J := C_J) n DL R0 T Z_JsonReader m_tok m_end ih) (by rw [e]; exact ok_dict (C_J := C_J) n DD R0 T Z_JsonReader m_tok m_key m_end ih)
def outP (K : PySem.W.Frag) (C rd dx : Addr) (t : List Nat) (H : Hp) : Rs → OutM
  | .ok d _ => .val fun v H' => (∃ b, Mv H rd C dx t b H') ∧ ∃ N, Ex N H' ∧ (∀ p, N p ≠ none → H p = none) ∧ Dq K N v d
  | .er e => errR C rd dx t H e
def preWhole' (C : Addr) (vs : List V) (H : Hp) (r : OutM) : Prop := ∃ (rd dx : Addr) (t : List Nat), vs = [.ref rd] ∧ H rd = some (.ins C dx (rdF t 0)) ∧ okT t ∧ r = outP K C rd dx t H (rdW t)
theorem ok_rwhole {C C_J : Addr} (D : DefM K C "read_whole" "JsonReader.read_whole" s_JsonReader_read_whole ["self"]) (R0 : RdC K C) (T : Tx K w mg J) (Z_JsonReader : Cls K C) (Z_InvalidJson : ErrC P w K mg base "InvalidJson" C_J)
    (m_JsonReader_peek_token : MetX P w K mg base 2 C "peek_token" (spM mg (preTok C))) (m_JsonReader_read_value : MetX P w K mg base 71 C "read_value" (spM mg (preVal (K := K) 32 C))) : MetX P w K mg base 72 C "read_whole" (spM mg (preWhole' (K := K) C)) := by
  refine metX D sc_JsonReader_read_whole (fun vs H Q E h => ?_) (fun f cdv A outer s H vs Q E hr h => ?_)
  · obtain ⟨_, ⟨_, _, _, rfl, _⟩, _⟩ := h
    rfl
  obtain ⟨_, ⟨rd, dx, t, rfl, hB, ht, rfl⟩, q⟩ := h
  refine ⟨_, (pss_cons (ps_set (i := 1) sc_JsonReader_read_whole.nd rfl (.inl rfl) (pe_mX m_JsonReader_read_value (takes_of rfl rfl rfl rfl) hr (by decide) Z_JsonReader (pv 0) (pa_cons pe_int pa_nil)))
    (pss_cons (ps_if (pt_cmpR op_ne (pe_mX0 m_JsonReader_peek_token (takes_of rfl rfl rfl rfl) hr (by decide) Z_JsonReader (pv 0)) pe_str (nomark _))
      (pss_cons (ps_raiseC Z_InvalidJson rfl (takes_of rfl rfl rfl rfl) hr (by decide) (by rfl) (pa_cons (pe_fld (pv 0) rfl) pa_nil)) pss_nil)
      pss_nil)
    (pss_cons (ps_ret (pv 1)) pss_nil))), R.go ?_⟩
  have mv := Mv.id hB
  have no := rdF_no (t := t) (a := 0) (m := "read_value") (by decide +kernel) (by decide +kernel)
  unfold rdW at q
  cases hv : rdV t 32 0 with
  | er x =>
    rw [hv] at q
    exact r_asgEM (ee_mv (ev_var rfl) mv no (ea_cons ev_c ea_nil) (fun H2 e => ⟨rd, dx, t, 0, rfl, e rd _ mv.at_, ht, Nat.zero_le _, by rw [hv]; rfl⟩)) (fun C' d H' hm nd hp hd => q C' d H' hm nd hp hd)
  | ok d a' =>
    rw [hv] at q
    have hv2 := rdV_ok 32 hv
    refine r_asgM (em_m (Φ := fun v H' => Mv H rd C dx t a' H' ∧ ∃ N, Ex N H' ∧ (∀ p, N p ≠ none → H p = none) ∧ Dq K N v d) (ev_var rfl) mv.at_ no (ea_cons ev_c ea_nil) (fun H2 e => ⟨_, ⟨rd, dx, t, 0, rfl, e rd _ mv.at_, ht, Nat.zero_le _, by rw [hv]; rfl⟩, fun v H' h => ?_⟩)) (fun v B hM => ?_)
    · obtain ⟨m3, N, eN, fN, dN⟩ := h
      exact ⟨(mv.more e).then m3, N, eN, fun p hp => (mv.more e).old (fN p hp), dN⟩
    obtain ⟨m2, N, eN, fN, dN⟩ := hM
    have hsl := skB_le hv2.2
    have q : (match outP K C rd dx t H (if skB t a' < t.length then Rs.er (skB t a') else .ok d a') with
          | .val Φ => ∀ v H2, Φ v H2 → Q v H2
          | .err x v Ψ => ∀ C d H2, mg x = some (.ref C) → H d = none → Ψ H2 → H2 d = some (.xd (errF x v)) → E (.ref C) (some d) H2) := q
    refine r_whenM (tm_tokNe [] (ev_var rfl) (Mv.id m2.at_) ht hv2.2 rfl) (fun B2 ⟨hb, m4⟩ => ?_) (fun B2 ⟨hb, m4⟩ => ?_)
    all_goals have m3 := m2.then m4
    · have hlt : skB t a' < t.length := by
        cases hc : t[skB t a']? with
        | none => rw [chL_none hc] at hb; simp at hb
        | some c => exact (List.getElem?_eq_some_iff.mp hc).1
      rw [if_pos hlt] at q
      exact r_raise Z_InvalidJson.k (ev_at R0 (ev_var rfl) m3.at_) (fun d H1 nd e1 hd => q C_J d H1 Z_InvalidJson.gC (m3.old nd) ⟨_, m3.more e1⟩ hd)
    · have hlt : ¬ skB t a' < t.length := fun z => by
        rw [chL_some (List.getElem?_eq_getElem z)] at hb
        simp at hb
      rw [if_neg hlt] at q
      refine r_ret (ev_var rfl) (fun H1 e1 => q _ H1 ⟨⟨_, m3.more e1⟩, N, fun p o ho => e1 p o ?_, fN, dN⟩)
      have hne : p ≠ rd := fun z => by
        subst z
        have := fN p (by rw [ho]; simp)
        rw [hB] at this
        cases this
      exact (m4 p o (by rw [upd_ne hne]; exact eN p o ho))
def preInitR (C : Addr) (vs : List V) (H : Hp) (r : OutM) : Prop := ∃ (rd dx : Addr) (t : List Nat), vs = [.ref rd, .str (SX.S t)] ∧ H rd = some (.ins C dx []) ∧ r = .val fun v H' => v = .non ∧ Mv H rd C dx t 0 H'
theorem ok_rinit {C : Addr} (D : DefM K C "__init__" "JsonReader.__init__" s_JsonReader___init__ ["self", "text"]) (hm : PySem.W.makesIn K C = true) (hk : PySem.W.keepIn K (.ref C) = true) (hx : mg "JsonReader" = some (.ref C)) (R0 : RdC K C) (T : Tx K w mg J) : MakX P w K mg base 1 C "JsonReader" (spM mg (preInitR C)) := by
  refine makX D hm hk hx sc_JsonReader___init__ (fun vs H Q E h => ?_) (fun f cdv A outer s H vs Q E hr h => ?_)
  · obtain ⟨_, ⟨_, _, _, rfl, _⟩, _⟩ := h
    rfl
  obtain ⟨_, ⟨rd, dx, t, rfl, hB, rfl⟩, q⟩ := h
  refine ⟨_, (pss_cons (ps_fld (pv 0) (pv 1) rfl)
    (pss_cons (ps_fld (pv 0) pe_int rfl) pss_nil)), R.go ?_⟩
  refine r_fld (ev_var rfl) (ev_var rfl) hB R0.c R0.nT (by show 0 < 1000; decide) ?_
  rw [put_nil]
  refine r_fld ev_c (ev_var rfl) upd_same R0.c R0.nA (by show 1 < 1000; decide) ?_
  rw [put_ne (by decide +kernel), put_nil, updw]
  exact r_next (fun H1 e1 => q _ H1 ⟨rfl, e1⟩)
def preParse (vs : List V) (H : Hp) (r : OutM) : Prop := ∃ t : List Nat, vs = [.str (SX.S t)] ∧ okT t ∧ r = (match rdW t with
  | .ok d _ => .val fun v H' => Ex H H' ∧ ∃ N, Ex N H' ∧ (∀ p, N p ≠ none → H p = none) ∧ Dq K N v d
  | .er e => .err "InvalidJson" (.int (e : Int)) fun H' => Ex H H')
section
variable {σ : L2.St} {B : Hp} {te : TE} {C : Addr} {m : Str} {pre : List V → Hp → OutM → Prop} {W : WX} {Φ Φ0 : V → Hp → Prop} {Ψ : Hp → Prop} {x : Str} {v : V}
theorem em_mM (he : EvM te σ B Φ0) (k : ∀ v H, Φ0 v H → ∃ a dx fs, v = .ref a ∧ H a = some (.ins C dx fs) ∧ fs.lookup m = none ∧ ∃ Φ', pre [.ref a] H (.val Φ') ∧ ∀ v H', Φ' v H' → Φ v H') : EvM (tMethX C m (spM mg pre) (WE W) te tNil) σ B Φ := fun H1 e Q q =>
  he H1 e _ fun v H2 c => by
    obtain ⟨a, dx, fs, rfl, hB, hl, Φ', hp', i⟩ := k v H2 c
    exact ⟨a, dx, fs, rfl, hB, hl, .val Φ', hp', fun v H4 c => q v H4 (i v H4 c)⟩
theorem ee_mM (he : EvM te σ B Φ0) (k : ∀ y H, Φ0 y H → ∃ a dx fs, y = .ref a ∧ H a = some (.ins C dx fs) ∧ fs.lookup m = none ∧ (∀ d, H d = none → B d = none) ∧ ∃ Ψ', pre [.ref a] H (.err x v Ψ') ∧ ∀ H', Ψ' H' → Ψ H') : EvEM mg W (tMethX C m (spM mg pre) (WE W) te tNil) σ B x v Ψ := fun H1 e Q q =>
  he H1 e _ fun y H2 c => by
    obtain ⟨a, dx, fs, rfl, hB, hl, hf, Ψ', hp', i⟩ := k y H2 c
    exact ⟨a, dx, fs, rfl, hB, hl, .err x v Ψ', hp', fun C d H4 hm nd c hd => q C d H4 hm (hf d nd) (i H4 c) hd⟩
end
theorem ok_parse {C C_J : Addr} (D : Def K mg "parse_json" s_parse_json ["text"]) (R0 : RdC K C) (T : Tx K w mg J) (Z_JsonReader : Cls K C) (k_JsonReader : MakX P w K mg base 1 C "JsonReader" (spM mg (preInitR C))) (m_JsonReader_read_whole : MetX P w K mg base 72 C "read_whole" (spM mg (preWhole' (K := K) C))) :
    CalX P w K mg base 73 "parse_json" (spM mg (preParse (K := K))) := by
  refine calX D sc_parse_json (fun vs H Q E h => ?_) (fun f cdv A outer s H vs Q E hr h => ?_)
  · obtain ⟨_, ⟨_, rfl, _⟩, _⟩ := h
    rfl
  obtain ⟨_, ⟨t, rfl, ht, rfl⟩, q⟩ := h
  refine ⟨_, (pss_cons (ps_ret (pe_mX0 m_JsonReader_read_whole (takes_of rfl rfl rfl rfl) hr (by decide) Z_JsonReader (pe_mk k_JsonReader (takes_of rfl rfl rfl rfl) hr (by decide) (by rfl) (pa_cons (pv 0) pa_nil)))) pss_nil), R.go ?_⟩
  have hm : ∀ {W : WX}, EvM (tMakeX C (spM mg (preInitR C)) (WE W) (tCons (tVar 0) tNil)) [some (.str (SX.S t))] H (fun v H' => ∃ x dx, v = .ref x ∧ H x = none ∧ Ex H H' ∧ H' x = some (.ins C dx (rdF t 0))) := fun {W} =>
    em_mk (ea_cons (ev_var rfl) ea_nil) (fun H2 x dx e nx ndx hne => ⟨_, ⟨x, dx, t, rfl, upd_same, rfl⟩, fun v H' ⟨h1, h2⟩ => ⟨h1, x, dx, rfl, fresh_back e nx, fun p o ho => h2 p o (by
      have h3 := e p o ho
      have n1 : p ≠ x := fun z => by subst z; rw [nx] at h3; cases h3
      have n2 : p ≠ dx := fun z => by subst z; rw [ndx] at h3; cases h3
      rw [upd_ne n1, upd_ne n1, upd_ne n2]
      exact h3), h2 x _ upd_same⟩⟩)
  have no := rdF_no (t := t) (a := 0) (m := "read_whole") (by decide +kernel) (by decide +kernel)
  have keep : ∀ {x dx : Addr} {b : Nat} {H2 H' : Hp}, H x = none → Ex H H2 → Mv H2 x C dx t b H' → Ex H H' := fun nx e m p o ho => m.keep (e p o ho) (fun z => by subst z; rw [nx] at ho; cases ho)
  cases hw : rdW t with
  | ok d a' =>
    rw [hw] at q
    refine r_retM (em_mM (Φ := fun v H' => Ex H H' ∧ ∃ N, Ex N H' ∧ (∀ p, N p ≠ none → H p = none) ∧ Dq K N v d) hm (fun v H2 ⟨x, dx, hv, nx, e, hx⟩ => ⟨x, dx, _, hv, hx, no, (fun v H' => (∃ b, Mv H2 x C dx t b H') ∧ ∃ N, Ex N H' ∧ (∀ p, N p ≠ none → H2 p = none) ∧ Dq K N v d), ⟨x, dx, t, rfl, hx, ht, by rw [hw]; rfl⟩, fun v H' ⟨⟨b, m⟩, N, eN, fN, dN⟩ => ⟨keep nx e m, N, eN, fun p hp => fresh_back e (fN p hp), dN⟩⟩)) (fun v B' h => q v B' h)
  | er y =>
    rw [hw] at q
    exact r_retEM (ee_mM (Ψ := fun H' => Ex H H') hm (fun v H2 ⟨x, dx, hv, nx, e, hx⟩ => ⟨x, dx, _, hv, hx, no, fun d nd => fresh_back e nd, (fun H' => ∃ b, Mv H2 x C dx t b H'), ⟨x, dx, t, rfl, hx, ht, by rw [hw]; rfl⟩, fun H' ⟨b, m⟩ => keep nx e m⟩)) (fun C' d H' hm nd hp hd => q C' d H' hm nd hp hd)

/-! JSON written -/
def spWStr : Sp := PV fun vs _ z => ∃ l : List Nat, vs = [.str (SX.S l)] ∧ l.length ≤ 30000 ∧ z = .str (SX.S (qS l))
theorem ok_wstr (D : Def K mg "write_string" s_write_string ["text"]) : Cal CX0 P w K mg base 1 "write_string" spWStr := by
  refine calT D sc_write_string (by decide +kernel) (by decide) (fun vs H Q E h => ?_) (fun f cdv A outer s H vs Q E hr h => ?_)
  · obtain ⟨_, ⟨_, rfl, _⟩, _⟩ := h
    rfl
  obtain ⟨_, ⟨l, rfl, hl, rfl⟩, q⟩ := h
  refine ⟨_, psst_cons (pst_set (i := 1) sc_write_string.nd rfl (.inl rfl) (CwR.pet_replT (CwR.pet_replC (pv 0)))) (psst_cons (CwR.pst_ret (CwR.pet_op op_add_str (CwR.pet_op op_add_str (CwR.PET.of pe_str) (CwR.pet_replT (CwR.pet_replC (pv 1)))) (CwR.PET.of pe_str))) CwR.psst_nil), R.go ?_⟩
  have h2 : ∀ {l : List Nat} {c : Nat} {z : List Nat}, z.length = 2 → (l.flatMap fun x => if x = c then z else [x]).length ≤ 2 * l.length := fun {l c z} hz => flat_len (fun x => by
    split
    · exact Nat.le_of_eq hz
    · exact Nat.le_succ 1) l
  have a1 := h2 (l := l) (c := 92) (z := [92, 92]) rfl
  have a2 := h2 (l := l.flatMap fun x => if x = 92 then [92, 92] else [x]) (c := 34) (z := [92, 34]) rfl
  have a3 := flat_len eC_len l
  have a4 := h2 (l := (l.flatMap fun x => if x = 92 then [92, 92] else [x]).flatMap fun x => if x = 34 then [92, 34] else [x]) (c := 10) (z := [92, 110]) rfl
  refine r_asg (ev_repl (z := [92, 34]) (c := 34) (ev_repl (z := [92, 92]) (c := 92) (ev_var rfl) rfl rfl) rfl rfl) ?_
  have hE : ∀ B', Ev (CwR.tReplC (CwR.tReplC (tVar 1) "\n" "\\n") "\t" "\\t") [some (.str (SX.S l)), some (.str (SX.S ((l.flatMap fun x => if x = 92 then [92, 92] else [x]).flatMap fun x => if x = 34 then [92, 34] else [x])))] B' (.str (SX.S (l.flatMap eC))) := fun B' => by
    have h := ev_repl (B := B') (z := [92, 116]) (c := 9) (zz := "\\t") (y := "\t") (ev_repl (z := [92, 110]) (c := 10) (zz := "\\n") (y := "\n") (ev_var (σ := [some (.str (SX.S l)), some (.str (SX.S ((l.flatMap fun x => if x = 92 then [92, 92] else [x]).flatMap fun x => if x = 34 then [92, 34] else [x])))]) (i := 1) rfl) rfl rfl) rfl rfl
    rw [esc_all] at h
    exact h
  refine r_ret (ev_op (ev_op (ev_cL (l := [34]) rfl) (hE _) (rv_addS (by show 1 + _ ≤ _; omega))) (ev_cL (l := [34]) rfl) (rv_addS (by rw [List.length_append]; show 1 + _ + 1 ≤ _; omega))) (fun H1 e1 => ?_)
  exact q H1 e1

/-! JSON written, dicts too -/
def spWX (K : PySem.W.Frag) (n : Nat) : Sp := PV fun vs H z => ∃ (v : V) (d : PyData) (m : Nat), vs = [v] ∧ Dq K H v d ∧ Jw m d ∧ m < n ∧ (wX d).length ≤ 30000 ∧ z = .str (SX.S (wX d))
theorem ev_join44 {σ : L2.St} {B : Hp} {te : TE} {ys : List (List Nat)} (h : EvN te σ B (.lst (ys.map fun l => V.str (SX.S l)))) (h1 : (ys.map (·.length)).sum ≤ 30000) (h2 : ys.length ≤ 20000) :
    Ev (tM1 (fun x xs H Q => ∃ a p, ∃ ys : List Str, x = .str a ∧ xs = [.ref p] ∧ (SqL K H p (ys.map V.str) ∨ SqT K H p (ys.map V.str)) ∧ (ys.map (·.length)).sum + ys.length * a.length ≤ 16777216 ∧ Q (.str (Txt.join a ys)) H) (tC (.str ",")) te) σ B (.str (SX.S (TL.joinL [44] ys))) :=
  ev_joinNL (a := [44]) rfl h (by show _ + _ * 1 ≤ _; omega)
theorem ev_braced {σ : L2.St} {B : Hp} {te : TE} {x y : Str} {a b : Nat} {l : List Nat} (hx : x = SX.S [a]) (hy : y = SX.S [b]) (h : Ev te σ B (.str (SX.S l))) (hl : l.length ≤ 30000) :
    Ev (tOp (fun x y H Q => ∃ i j, x = V.str i ∧ y = .str j ∧ i.length + j.length ≤ sizeLine ∧ Q (.str (i ++ j)) H) (tOp (fun x y H Q => ∃ i j, x = V.str i ∧ y = .str j ∧ i.length + j.length ≤ sizeLine ∧ Q (.str (i ++ j)) H) (tC (.str x)) te) (tC (.str y))) σ B (.str (SX.S (a :: (l ++ [b])))) :=
  ev_op (ev_op (ev_cL hx) h (rv_addS (by show 1 + _ ≤ _; omega))) (ev_cL hy) (rv_addS (by rw [List.length_append]; show 1 + _ + 1 ≤ _; omega))
/-- the items of a list, written -/
theorem en_wXA {σ : L2.St} {B : Hp} {te tl : TE} {j : Nat} {ws : List Nat} {a : Addr} {xs : List V} {ds : List PyData} (h : Ev tl σ B (.ref a)) (ha : B a = some (.lst xs)) (hd : DqA K B xs ds) (hz : xs.length ≤ 100000) (hw : ∀ x, wipe ((wipe σ ws).set j (some x)) ws = wipe σ ws)
    (he : ∀ x d, d ∈ ds → ∀ B', Ex B B' → Dq K B' x d → Ev te ((wipe σ ws).set j (some x)) B' (.str (SX.S (wX d)))) : EvN (tLc (iList K tl) (gName j) tYes te ws) σ B (.lst ((wXA ds).map fun l => V.str (SX.S l))) := by
  rw [wXA_map, List.map_map]
  exact en_lcV (fun d => V.str (SX.S (wX d))) (ei_list h (sq_of ha)) hd hz hw (fun i x d hx hdi hxd B' e' => he x d (List.mem_of_getElem? hdi) B' e' (dq_ex e' _ _ hxd))
/-- the pairs of a dict, written -/
theorem en_wXK {σ : L2.St} {B : Hp} {te td : TE} {j : Nat} {ws : List Nat} {a : Addr} {kvs : List (Key × V)} {ps : List (List Nat × PyData)} (ha : B a = some (.dK kvs)) (hk : DqK K B kvs (ps.map fun p => (.str (SX.S p.1), p.2))) (h : ∀ B', Ev td σ B' (.ref a)) (hz : ps.length ≤ 100000) (hw : ∀ x, wipe ((wipe σ ws).set j (some x)) ws = wipe σ ws)
    (he : ∀ (od : Obj) (p : List Nat × PyData) (v : V), p ∈ ps → ∀ B', B' a = some (.frz od (.dK kvs)) → valV kvs (.inr (SX.S p.1)) = some v → Dq K B' v p.2 → Ev te ((wipe σ ws).set j (some (.str (SX.S p.1)))) B' (.str (SX.S (wP p)))) (hn : (ps.map (·.1)).Nodup) :
    EvN (tLockE (tLc (iKeys td) (gName j) tYes te ws)) σ B (.lst ((ps.map wP).map fun l => V.str (SX.S l))) := by
  have hlen : kvs.length = ps.length := by
    have := congrArg List.length (dqk_keysP hk)
    simpa using this
  have e := en_lcK (te := te) (σ := σ) (B := B) (j := j) (vs := ws) (fun kv => match kv.1 with
    | .inr z => (match ps.find? (fun p : List Nat × PyData => decide (SX.S p.1 = z)) with
      | some p => V.str (SX.S (wP p))
      | none => .non)
    | _ => .non) ha h (by omega) hw (fun od i k v hi B' e' => by
    obtain ⟨p, hp, rfl, hv⟩ := dqk_at hk hi
    have hpm := List.mem_of_getElem? hp
    have hB : Dq K B (.ref a) (.dict (ps.map fun p => (.str (SX.S p.1), p.2))) := .dct ha hk
    have hsz : sizeOf p.2 < sizeOf (PyData.dict (ps.map fun p => (PyData.str (SX.S p.1), p.2))) := by
      have h1 : ((PyData.str (SX.S p.1), p.2) : PyData × PyData) ∈ ps.map fun p => (PyData.str (SX.S p.1), p.2) := List.mem_map_of_mem (f := fun p : List Nat × PyData => (PyData.str (SX.S p.1), p.2)) hpm
      have h2 := List.sizeOf_lt_of_mem h1
      simp at h2 ⊢
      omega
    have w1 := dq_lock (o := .frz od (.dK kvs)) hB p.2 v hsz hv
    have hf : ps.find? (fun q => decide (SX.S q.1 = SX.S p.1)) = some p := by
      have hd2 : ∀ {qs : List (List Nat × PyData)}, (qs.map (·.1)).Nodup → p ∈ qs → qs.find? (fun q => decide (SX.S q.1 = SX.S p.1)) = some p := by
        intro qs
        induction qs with
        | nil => intro _ h; cases h
        | cons q r ih =>
          intro hn hm
          rw [List.map_cons, List.nodup_cons] at hn
          rw [List.find?_cons]
          rcases List.mem_cons.mp hm with rfl | hm
          · simp
          · have hne : ¬ SX.S q.1 = SX.S p.1 := fun e => hn.1 (by
              rw [S_inj2 e]
              exact List.mem_map_of_mem (f := (·.1)) hm)
            rw [decide_eq_false hne]
            exact ih hn.2 hm
      exact hd2 hn hpm
    show Ev te ((wipe σ ws).set j (some (.str (SX.S p.1)))) B' (match ps.find? (fun q => decide (SX.S q.1 = SX.S p.1)) with
      | some p => V.str (SX.S (wP p))
      | none => .non)
    rw [hf]
    exact he od p v hpm B' (e' a _ upd_same) (valV_nd (by rw [dqk_keysP hk]; exact nd_keys hn) hi) (dq_ex e' _ _ w1))
  have eL : (ps.map wP).map (fun l => V.str (SX.S l)) = kvs.map (fun kv => match kv.1 with
    | .inr z => (match ps.find? (fun p : List Nat × PyData => decide (SX.S p.1 = z)) with
      | some p => V.str (SX.S (wP p))
      | none => .non)
    | _ => .non) := by
    have hk2 := dqk_keysP hk
    have e2 : kvs.map (fun kv => match kv.1 with
      | .inr z => (match ps.find? (fun p : List Nat × PyData => decide (SX.S p.1 = z)) with
        | some p => V.str (SX.S (wP p))
        | none => .non)
      | _ => .non) = (kvs.map (·.1)).map (fun k => match k with
      | .inr z => (match ps.find? (fun p : List Nat × PyData => decide (SX.S p.1 = z)) with
        | some p => V.str (SX.S (wP p))
        | none => .non)
      | _ => .non) := by rw [List.map_map]; rfl
    rw [e2, hk2, List.map_map, List.map_map]
    refine List.map_congr_left fun p hpm => ?_
    have hd2 : ∀ {qs : List (List Nat × PyData)}, (qs.map (·.1)).Nodup → p ∈ qs → qs.find? (fun q => decide (SX.S q.1 = SX.S p.1)) = some p := by
      intro qs
      induction qs with
      | nil => intro _ h; cases h
      | cons q r ih =>
        intro hn hm
        rw [List.map_cons, List.nodup_cons] at hn
        rw [List.find?_cons]
        rcases List.mem_cons.mp hm with rfl | hm
        · simp
        · have hne : ¬ SX.S q.1 = SX.S p.1 := fun e => hn.1 (by
            rw [S_inj2 e]
            exact List.mem_map_of_mem (f := (·.1)) hm)
          rw [decide_eq_false hne]
          exact ih hn.2 hm
    show V.str (SX.S (wP p)) = (match ps.find? (fun q => decide (SX.S q.1 = SX.S p.1)) with
      | some p => V.str (SX.S (wP p))
      | none => .non)
    rw [hd2 hn hpm]
  rw [eL]
  exact e
theorem ok_wx (D : Def K mg "write_json" s_write_json ["value"]) (T : Tx K w mg J) (c_write_string : Cal CX0 P w K mg base 1 "write_string" spWStr) : ∀ n, Cal CX0 P w K mg base (1 + n) "write_json" (spWX K n)
  | 0 => cal0 D sc_write_json (fun vs H Q E h => by
      obtain ⟨_, ⟨_, _, _, rfl, _⟩, _⟩ := h
      rfl) (fun f cdv A outer s H vs Q E hr h => by
      obtain ⟨_, ⟨_, _, _, _, _, _, hm, _⟩, _⟩ := h
      exact absurd hm (Nat.not_lt_zero _))
  | n + 1 => by
    have c_write_json := ok_wx D T c_write_string n
    have e : 1 + (n + 1) = (1 + n) + 1 := by omega
    rw [e]
    refine cal0 D sc_write_json (fun vs H Q E h => ?_) (fun f cdv A outer s H vs Q E hr h => ?_)
    · obtain ⟨_, ⟨_, _, _, rfl, _⟩, _⟩ := h
      rfl
    obtain ⟨_, ⟨v, d, m, rfl, hD, hJ, hm, hl, rfl⟩, q⟩ := h
    refine ⟨_, (pss_cons (ps_if (pt_cmpR op_isN (pv 0) pe_non (nomark _))
        (pss_cons (ps_ret pe_str) pss_nil)
        pss_nil)
      (pss_cons (ps_if (pt_cmpR op_isBx (pv 0) pe_bl (nomark _))
        (pss_cons (ps_ret pe_str) pss_nil)
        pss_nil)
      (pss_cons (ps_if (pt_cmpR op_isBx (pv 0) pe_bl (nomark _))
        (pss_cons (ps_ret pe_str) pss_nil)
        pss_nil)
      (pss_cons (ps_if (pt_val (pe_callB call_isi (by rfl) T.z_isinstance (by decide +kernel) (pa_cons (pv 0) (pa_cons (pe_bltn (v := .ty "int") (by rfl) T.z_int (by decide +kernel) rfl) pa_nil))))
        (pss_cons (ps_ret (pe_callTy call_str_int (by rfl) T.z_str (by decide +kernel) (pa_cons (pv 0) pa_nil))) pss_nil)
        pss_nil)
      (pss_cons (ps_if (pt_val (pe_callB call_isi (by rfl) T.z_isinstance (by decide +kernel) (pa_cons (pv 0) (pa_cons (pe_bltn (v := .ty "str") (by rfl) T.z_str (by decide +kernel) rfl) pa_nil))))
        (pss_cons (ps_ret (pe_c c_write_string hr (by omega) (by rfl) (pa_cons (pv 0) pa_nil))) pss_nil)
        pss_nil)
      (pss_cons (ps_if (pt_val (pe_callB call_isi (by rfl) T.z_isinstance (by decide +kernel) (pa_cons (pv 0) (pa_cons (pe_bltn (v := .ty "list") (by rfl) T.z_list (by decide +kernel) rfl) pa_nil))))
        (pss_cons (ps_ret (pe_op op_add_str (pe_op op_add_str pe_str (pe_join pe_str (pe_lc (own := [("item", 2)]) (g := gName 2) (tt := tYes) rfl sc_write_json.nd (pi_list (pv 0)) (blkOk_by (N := ["value", "key", "item"]) (sc := defScope s_write_json) (by decide +kernel)) (fun _ _ _ _ _ => (pg_name (i := 2) sc_write_json.nd rfl (.inl rfl))) (fun _ _ _ _ _ => pts_nil) (fun _ _ _ _ _ => (pe_c c_write_json hr (by omega) (by rfl) (pa_cons (pv 2) pa_nil)))))) pe_str)) pss_nil)
        pss_nil)
      (pss_cons (ps_ret (pe_op op_add_str (pe_op op_add_str pe_str (pe_join pe_str (pe_lock (pe_lc (own := [("key", 1)]) (g := gName 1) (tt := tYes) rfl sc_write_json.nd (pi_keys (pv 0)) (blkOk_by (N := ["value", "key", "item"]) (sc := defScope s_write_json) (by decide +kernel)) (fun _ _ _ _ _ => (pg_name (i := 1) sc_write_json.nd rfl (.inl rfl))) (fun _ _ _ _ _ => pts_nil) (fun _ _ _ _ _ => (pe_op op_add_str (pe_op op_add_str (pe_c c_write_string hr (by omega) (by rfl) (pa_cons (pv 1) pa_nil)) pe_str) (pe_c c_write_json hr (by omega) (by rfl) (pa_cons (pe_dget (hu_of hr) (pv 0) (pv 1) (fun _ _ => rfl)) pa_nil)))))))) pe_str)) pss_nil))))))), R.go ?_⟩
    cases hJ with
    | non =>
      cases hD
      exact r_when (et_test (ev_op (ev_var rfl) ev_c rv_isN)) (fun _ => r_ret (ev_cL (l := wNull) rfl) (fun H1 e1 => q H1 e1)) (fun hb => by simp at hb)
    | bl b =>
      cases hD
      refine r_when (et_test (ev_op (ev_var rfl) ev_c rv_isN)) (fun hb => absurd hb (by simp)) (fun _ => ?_)
      cases b with
      | true => exact r_when (et_test (ev_op (ev_var rfl) ev_c rv_isBx)) (fun _ => r_ret (ev_cL (l := wTrue) rfl) (fun H1 e1 => q H1 e1)) (fun hb => by simp at hb)
      | false =>
        refine r_when (et_test (ev_op (ev_var rfl) ev_c rv_isBx)) (fun hb => absurd hb (by simp)) (fun _ => ?_)
        exact r_when (et_test (ev_op (ev_var rfl) ev_c rv_isBx)) (fun _ => r_ret (ev_cL (l := wFalse) rfl) (fun H1 e1 => q H1 e1)) (fun hb => by simp at hb)
    | @int _ i hi =>
      cases hD
      refine r_when (et_test (ev_op (ev_var rfl) ev_c rv_isN)) (fun hb => absurd hb (by simp)) (fun _ => ?_)
      refine r_when (et_test (ev_op (ev_var rfl) ev_c rv_isBx)) (fun hb => absurd hb (by simp)) (fun _ => ?_)
      refine r_when (et_test (ev_op (ev_var rfl) ev_c rv_isBx)) (fun hb => absurd hb (by simp)) (fun _ => ?_)
      exact r_when (et_B (ev_isT (.int i) (ea_cons (ev_var rfl) (ea_cons ev_c ea_nil)) (.ty "int") (by decide))) (fun _ => r_ret (ev_strI (ev_var rfl) hi) (fun H1 e1 => q H1 e1)) (fun hb => by cases hb)
    | @str _ l hc =>
      cases hD
      rw [wX_str] at hl q
      have := qS_len (l := l)
      refine r_when (et_test (ev_op (ev_var rfl) ev_c rv_isN)) (fun hb => absurd hb (by simp)) (fun _ => ?_)
      refine r_when (et_test (ev_op (ev_var rfl) ev_c rv_isBx)) (fun hb => absurd hb (by simp)) (fun _ => ?_)
      refine r_when (et_test (ev_op (ev_var rfl) ev_c rv_isBx)) (fun hb => absurd hb (by simp)) (fun _ => ?_)
      refine r_when (et_B (ev_isT (.str _) (ea_cons (ev_var rfl) (ea_cons ev_c ea_nil)) (.ty "int") (by decide))) (fun hb => by cases hb) (fun _ => ?_)
      exact r_when (et_B (ev_isT (.str _) (ea_cons (ev_var rfl) (ea_cons ev_c ea_nil)) (.ty "str") (by decide))) (fun _ => r_ret (ev_pv (ea_cons (ev_var rfl) ea_nil) (fun H2 _ => ⟨l, rfl, by omega, rfl⟩)) (fun H1 e1 => q H1 e1)) (fun hb => by cases hb)
    | @lst m ds hj hlen =>
      cases hD with
      | lst h1 h2 =>
      refine r_when (et_test (ev_op (ev_var rfl) ev_c rv_isN)) (fun hb => absurd hb (by simp)) (fun _ => ?_)
      refine r_when (et_test (ev_op (ev_var rfl) ev_c rv_isBx)) (fun hb => absurd hb (by simp)) (fun _ => ?_)
      refine r_when (et_test (ev_op (ev_var rfl) ev_c rv_isBx)) (fun hb => absurd hb (by simp)) (fun _ => ?_)
      refine r_when (et_B (ev_isT (.lst h1 h2) (ea_cons (ev_var rfl) (ea_cons ev_c ea_nil)) (.ty "int") (by decide))) (fun hb => by cases hb) (fun _ => ?_)
      refine r_when (et_B (ev_isT (.lst h1 h2) (ea_cons (ev_var rfl) (ea_cons ev_c ea_nil)) (.ty "str") (by decide))) (fun hb => by cases hb) (fun _ => ?_)
      refine r_when (et_B (ev_isT (.lst h1 h2) (ea_cons (ev_var rfl) (ea_cons ev_c ea_nil)) (.ty "list") (by decide))) (fun _ => ?_) (fun hb => by cases hb)
      obtain ⟨b1, b2, b3⟩ := wX_li hl
      have hln := dqa_len h2
      refine r_ret (ev_braced (a := 91) (b := 93) rfl rfl (ev_join44 (ys := wXA ds) ?_ b2 (by rw [wXA_map, List.length_map]; omega)) (by omega)) (fun H1 e1 => q H1 e1)
      exact en_wXA (ev_var rfl) h1 h2 (by omega) (fun _ => rfl) (fun x d hd B' e' hx => ev_pv (ea_cons (ev_var rfl) ea_nil) (fun H2 e2 => ⟨x, d, m, rfl, dq_ex e2 _ _ hx, hj d hd, by omega, b1 d hd, rfl⟩))
    | @dct m ps hj hk hn hlen =>
      cases hD with
      | @dct a kvs _ h1 h2 =>
      refine r_when (et_test (ev_op (ev_var rfl) ev_c rv_isN)) (fun hb => absurd hb (by simp)) (fun _ => ?_)
      refine r_when (et_test (ev_op (ev_var rfl) ev_c rv_isBx)) (fun hb => absurd hb (by simp)) (fun _ => ?_)
      refine r_when (et_test (ev_op (ev_var rfl) ev_c rv_isBx)) (fun hb => absurd hb (by simp)) (fun _ => ?_)
      refine r_when (et_B (ev_isT (.dct h1 h2) (ea_cons (ev_var rfl) (ea_cons ev_c ea_nil)) (.ty "int") (by decide))) (fun hb => by cases hb) (fun _ => ?_)
      refine r_when (et_B (ev_isT (.dct h1 h2) (ea_cons (ev_var rfl) (ea_cons ev_c ea_nil)) (.ty "str") (by decide))) (fun hb => by cases hb) (fun _ => ?_)
      refine r_when (et_B (ev_isT (.dct h1 h2) (ea_cons (ev_var rfl) (ea_cons ev_c ea_nil)) (.ty "list") (by decide))) (fun hb => by cases hb) (fun _ => ?_)
      obtain ⟨b1, b2, b3⟩ := wX_di hl
      have eW : wX (.dict (ps.map fun p => (.str (SX.S p.1), p.2))) = 123 :: (TL.joinL [44] (ps.map wP) ++ [125]) := by
        rw [← wXK_map]
        rfl
      rw [eW] at q
      refine r_ret (ev_braced (a := 123) (b := 125) rfl rfl (ev_join44 (ys := ps.map wP) ?_ b2 (by rw [List.length_map]; omega)) (by omega)) (fun H1 e1 => q H1 e1)
      refine en_wXK h1 h2 (fun B' => ev_var rfl) (by omega) (fun _ => rfl) (fun od p v hp B' ha hv hx => ?_) hn
      have hb := b1 p hp
      have hql := qS_len (l := p.1)
      refine ev_op (ev_op (ev_pv (ea_cons (ev_var rfl) ea_nil) (fun H2 _ => ⟨p.1, rfl, by omega, rfl⟩)) (ev_cL (l := [58]) rfl) (rv_addS (by show _ + 1 ≤ _; omega))) (ev_pv (ea_cons (ev_dgetL (k := .inr (SX.S p.1)) (ev_var rfl) (ev_var rfl) ha hv) ea_nil) (fun H2 e2 => ⟨v, p.2, m, rfl, dq_ex e2 _ _ hx, hj p hp, by omega, by omega, rfl⟩)) ?_
      have := rv_addS (B := B') (a := qS p.1 ++ [58]) (b := wX p.2) (by rw [List.length_append]; show _ + 1 + _ ≤ _; omega)
      rw [List.append_assoc] at this
      exact this

theorem ok_refill (D : Def K mg "_law_refill" s__law_refill ["script", "k"]) (T : Tx K w mg J) : Cal CX0 P w K mg base 1 "_law_refill" (spRef K) := by
  refine cal0 D sc__law_refill (fun vs H Q E h => ?_) (fun f cdv A outer s H vs Q E hr h => ?_)
  · obtain ⟨_, ⟨_, _, _, rfl, _⟩, _⟩ := h
    rfl
  obtain ⟨_, ⟨ss, ns, k, rfl, hS, hl, rfl⟩, q⟩ := h
  refine ⟨_, (pss_cons (ps_set (i := 2) sc__law_refill.nd rfl (.inl rfl) pe_int)
    (pss_cons (ps_if (pt_truth (pv 0) (fun _ => rfl))
      (pss_cons (ps_set (i := 2) sc__law_refill.nd rfl (.inl rfl) (pe_ix ix_list (pv 0) (pe_op op_mod (pv 1) (pe_callB call_len_seq (by rfl) T.z_len PySem.boot_len (pa_cons (pv 0) pa_nil))) (fun _ _ => rfl))) pss_nil)
      pss_nil)
    (pss_cons (ps_if (pt_cmpR op_lt (pv 2) pe_int (nomark _))
      (pss_cons (ps_set (i := 2) sc__law_refill.nd rfl (.inl rfl) (pe_op op_sub pe_int (pe_op op_mul pe_int (pv 2)))) pss_nil)
      pss_nil)
    (pss_cons (ps_if (pw_and (pt_cmpR op_ge (pv 2) (pe_op op_pow pe_int pe_int) (nomark _)) (pw_and1 (pt_cmpR op_lt (pv 1) (pe_callB call_len_seq (by rfl) T.z_len PySem.boot_len (pa_cons (pv 0) pa_nil)) (nomark _)))).pt
      (pss_cons (ps_ret (pv 2)) pss_nil)
      pss_nil)
    (pss_cons (ps_ret (pe_op op_mod (pe_callTy call_int1 (by rfl) T.z_int (by decide +kernel) (pa_cons (pe_op op_add (pe_op op_mul (pe_callTy call_int1 (by rfl) T.z_int (by decide +kernel) (pa_cons (pe_op op_add (pe_op op_add (pe_op op_mul (pv 2) pe_int) (pe_op op_mul (pv 1) pe_int)) pe_int) pa_nil)) pe_int) pe_int) pa_nil)) pe_int)) pss_nil))))), R.go ?_⟩
  refine r_asg ev_c ?_
  refine r_whenK (fun σ B => Ex H B ∧ ∃ c : Int, σ = [some (.ref ss), some (.int k), some (.int c)]) (et_truL (ev_var rfl) hS) (fun σ B hM => ?_) (fun kk hb => ?_) (fun kk hb => kk _ _ ⟨Ex.refl _, 0, rfl⟩)
  · obtain ⟨eB, c, rfl⟩ := hM
    refine r_whenK (fun σ B => Ex H B ∧ ∃ c : Int, σ = [some (.ref ss), some (.int k), some (.int c)]) (et_test (ev_op (ev_var rfl) ev_c rv_cmp)) (fun σ B hM => ?_) (fun kk hb => ?_) (fun kk hb => kk _ _ ⟨eB, c, rfl⟩)
    · obtain ⟨eB, c, rfl⟩ := hM
      refine r_when (et_and (et_test (ev_op (ev_var rfl) (ev_op ev_c ev_c (rv_arC ⟨by decide, by decide, by decide⟩)) rv_cmp)) (fun hb => (et_test (ev_op (ev_var rfl) (ev_len (ev_var rfl) (ex_l eB hS)) rv_cmp)))) (fun hb => ?_) (fun hb => ?_)
      · exact r_ret (ev_var rfl) (fun H1 e1 => q _ H1 (eB.trans e1) ⟨c, rfl⟩)
      · exact r_ret (ev_op (ev_int (ev_op (ev_op (ev_int (ev_op (ev_op (ev_op (ev_var rfl) ev_c (rv_arC (.inr ⟨by decide, by decide⟩))) (ev_op (ev_var rfl) ev_c (rv_arC (.inr ⟨by decide, by decide⟩))) rv_ar) ev_c rv_ar)) ev_c (rv_arC (.inr ⟨by decide, by decide⟩))) ev_c rv_ar)) ev_c (rv_arC (by decide))) (fun H1 e1 => q _ H1 (eB.trans e1) ⟨_, rfl⟩)
    · exact r_asg (ev_op ev_c (ev_op ev_c (ev_var rfl) (rv_arC (.inl ⟨by decide, by decide⟩))) rv_ar) (r_on (kk _ _ ⟨eB, _, rfl⟩))
  · have hne : ns ≠ [] := by
      intro e
      subst e
      simp at hb
    have hlen : (0 : Int) < ((ns.map V.int).length : Int) := by
      rw [List.length_map]
      have := List.length_pos_iff.mpr hne
      omega
    have i1 := Int.emod_lt_of_pos k hlen
    rw [List.length_map] at i1
    exact r_asg (ev_op (ev_var rfl) (ev_op (ev_var rfl) (ev_len (ev_var rfl) hS) (rv_arC hlen)) (rv_ixI hS (Int.emod_nonneg k (by omega)) (by rw [List.length_map]; exact i1))) (r_on (kk _ _ ⟨Ex.refl _, _, rfl⟩))
theorem ok_drw (D : Def K mg "_law_draw" s__law_draw ["state", "script", "size"]) (T : Tx K w mg J) (c__law_refill : Cal CX0 P w K mg base 1 "_law_refill" (spRef K)) : Cal CX0 P w K mg base 2 "_law_draw" (spDrw K) := by
  refine calY D sc__law_draw (fun Y vs B F h => ?_) (fun f cdv A outer s H Y vs B F Q E hr h O hO g => ?_)
  · obtain ⟨_, _, _, _, rfl, _⟩ := h
    rfl
  obtain ⟨ps, ss, b, hs, rfl, hb, hb2, rfl⟩ := h
  refine ⟨_, (pss_cons (ps_if (pt_cmpR op_eq (pe_ix ix_list (pv 0) pe_int (fun _ _ => rfl)) pe_int (nomark _))
      (pss_cons (ps_asg (pe_c c__law_refill hr (by decide) (by rfl) (pa_cons (pv 1) (pa_cons (pe_ix ix_list (pv 0) pe_int (fun _ _ => rfl)) pa_nil))) (pg_sub (pv 0) pe_int set_list))
      (pss_cons (ps_asg (pe_op op_add (pe_ix ix_list (pv 0) pe_int (fun _ _ => rfl)) pe_int) (pg_sub (pv 0) pe_int set_list)) pss_nil))
      pss_nil)
    (pss_cons (ps_set (i := 3) sc__law_draw.nd rfl (.inl rfl) (pe_op op_mod (pe_callTy call_int1 (by rfl) T.z_int (by decide +kernel) (pa_cons (pe_ix ix_list (pv 0) pe_int (fun _ _ => rfl)) pa_nil)) (pv 2)))
    (pss_cons (ps_asg (pe_op op_fdiv (pe_ix ix_list (pv 0) pe_int (fun _ _ => rfl)) (pv 2)) (pg_sub (pv 0) pe_int set_list))
    (pss_cons (ps_ret (pv 3)) pss_nil)))), ?_⟩
  intro H0 hA
  obtain ⟨k, r, hn⟩ := hA.stateL hs
  obtain ⟨_, _, ns, hS, hl⟩ := id hs
  have hS0 : SqL K H0 ss (ns.map V.int) := ex_l hA.hy.sub hS
  have hi0 : ∀ {H' : Hp} {k r : Int}, H' ps = some (.lst [.int k, .int r]) → atI [V.int k, V.int r] 0 = some (.int k) := fun _ => rfl
  have hi1 : ∀ {H' : Hp} {k r : Int}, H' ps = some (.lst [.int k, .int r]) → atI [V.int k, V.int r] 1 = some (.int r) := fun _ => rfl
  refine R.go (B := H0) ?_
  refine r_whenK (fun σ B1 => σ = [some (.ref ps), some (.ref ss), some (.int b), none] ∧ At Y O B B1 ∧ ∃ k r : Int, B1 ps = some (.lst [.int k, .int r])) (et_test (ev_op (ev_op (ev_var rfl) ev_c (rv_ixL (sq_of hn) rfl)) ev_c (rv_eq rfl))) (fun σ B1 hM => ?_) (fun kk hq => ?_) (fun kk hq => kk _ _ ⟨rfl, hA, k, r, hn⟩)
  · obtain ⟨rfl, hA, k, r, hn⟩ := hM
    refine r_asg (ev_op (ev_int (ev_op (ev_var rfl) ev_c (rv_ixL (sq_of hn) rfl))) (ev_var rfl) (rv_arC hb)) ?_
    refine r_setL (j := 1) hn (ev_op (ev_op (ev_var rfl) ev_c (rv_ixL (sq_of hn) rfl)) (ev_var rfl) (rv_arC ⟨hb, by omega⟩)) (ev_var rfl) ev_c (by simp) ?_
    refine r_ret (ev_var rfl) (fun H1 e1 => ?_)
    exact g _ B H1 (hA.drawL hs e1) ⟨_, rfl, Int.emod_nonneg _ (by omega), Int.emod_lt_of_pos _ hb⟩
  refine r_setLP (j := 1) hn (ep_pvd (ea_cons (ev_var rfl) (ea_cons (ev_op (ev_var rfl) ev_c (rv_ixL (sq_of hn) rfl)) ea_nil)) (fun H e => ⟨ss, ns, k, rfl, ex_l e hS0, hl, rfl⟩)) (ev_var rfl) ev_c (by simp) (fun v B1 e1 hv => ?_)
  obtain ⟨i, rfl⟩ := hv
  have hA1 := hA.drawL hs (k := k) (r := i) (H1 := upd B1 ps (.lst [.int k, .int i])) (ex_mut e1)
  refine r_setL (j := 0) (xs := [.int k, .int i]) upd_same (ev_op (ev_op (ev_var rfl) ev_c (rv_ixL (sq_of upd_same) rfl)) ev_c rv_ar) (ev_var rfl) ev_c (by simp) ?_
  exact r_on (kk _ _ ⟨rfl, hA1.drawL hs (k := k + 1) (r := i) (Ex.refl _), k + 1, i, upd_same⟩)

/-! the law's signs -/
def goodT (t : List Nat) : Prop := ∀ c ∈ t, codeB (c : Int) = true
def SGL : List Nat := (" !#$&'()*+,-./0123456789:;<=>?@ABCDEFGHIJKLMNOPQRSTUVWXYZ[]^_`abcdefghijklmnopqrstuvwxyz{|}~" : Str).cps.toList ++ [34] ++ [92]
def SG : List Nat := SGL ++ [10, 9]
theorem sgl_len : SGL.length = 94 := by decide +kernel
theorem sg_len : SG.length = 96 := by decide +kernel
theorem sg_all : ∀ c ∈ SG, codeB (c : Int) = true := by decide +kernel
theorem sg_good {c : Nat} (h : c ∈ SG) : codeB (c : Int) = true := sg_all c h
def spSigns : Sp := PV fun vs _ z => vs = [] ∧ z = .str (SX.S SGL)
theorem ok_signs (D : Def K mg "_law_signs" s__law_signs []) (T : Tx K w mg J) : Cal CX0 P w K mg base 1 "_law_signs" spSigns := by
  refine cal0 D sc__law_signs (fun vs H Q E h => ?_) (fun f cdv A outer s H vs Q E hr h => ?_)
  · obtain ⟨_, ⟨rfl, _⟩, _⟩ := h
    rfl
  obtain ⟨_, ⟨rfl, rfl⟩, q⟩ := h
  refine ⟨_, (pss_cons (ps_ret (pe_op op_add_str (pe_op op_add_str pe_str pe_str) pe_str)) pss_nil), R.go ?_⟩
  exact r_ret (ev_op (ev_op ev_cS (ev_lit [34] rfl) (rv_addS (by decide))) (ev_lit [92] rfl) (rv_addS (by decide))) (fun H1 e1 => q H1 e1)

/-! drawn texts -/
def prePick (K : PySem.W.Frag) (Y : Ys) (vs : List V) (B : Hp) (F : V → Hp → Prop) : Prop := ∃ (ps ss : Addr) (l : List Nat), Stl K Y ps ss B ∧ vs = [.ref ps, .ref ss, .str (SX.S l)] ∧ 0 < l.length ∧ l.length ≤ 1000 ∧ F = fun v _ => ∃ c, c ∈ l ∧ v = .str (SX.S [c])
def spPick (K : PySem.W.Frag) : Sp := PY (prePick K)
def preTxt (K : PySem.W.Frag) (Y : Ys) (vs : List V) (B : Hp) (F : V → Hp → Prop) : Prop := ∃ (ps ss : Addr) (a b : Nat), Stl K Y ps ss B ∧ vs = [.ref ps, .ref ss, .int (a : Int), .int (b : Int)] ∧ a ≤ b ∧ b ≤ 1000 ∧ F = fun v _ => ∃ t, v = .str (SX.S t) ∧ goodT t ∧ a ≤ t.length ∧ t.length ≤ b
def spTxt (K : PySem.W.Frag) : Sp := PY (preTxt K)
theorem ok_pick (D : Def K mg "_law_pick" s__law_pick ["state", "script", "signs"]) (T : Tx K w mg J) (c__law_draw : Cal CX0 P w K mg base 2 "_law_draw" (spDrw K)) : Cal CX0 P w K mg base 3 "_law_pick" (spPick K) := by
  refine calY D sc__law_pick (fun Y vs B F h => ?_) (fun f cdv A outer s H Y vs B F Q E hr h O hO g => ?_)
  · obtain ⟨_, _, _, _, rfl, _⟩ := h
    rfl
  obtain ⟨ps, ss, l, hs, rfl, h0, h1, rfl⟩ := h
  have hB0 : Ex O.B0 B := by rw [hO]; exact Ex.refl _
  refine ⟨_, (pss_cons (ps_set (i := 3) sc__law_pick.nd rfl (.inl rfl) (pe_c c__law_draw hr (by decide) (by rfl) (pa_cons (pv 0) (pa_cons (pv 1) (pa_cons (pe_callB call_len_str (by rfl) T.z_len PySem.boot_len (pa_cons (pv 2) pa_nil)) pa_nil)))))
    (pss_cons (ps_ret (pe_slice sl_str (pv 2) (po_some (pv 3)) (po_some (pe_op op_add (pv 3) pe_int)))) pss_nil)), ?_⟩
  refine b_drw hB0 hs (ev_var rfl) (ev_var rfl) (ev_lenS (ev_var rfl) (by omega)) (by omega) (fun r r0 r1 => ?_)
  obtain ⟨a, rfl⟩ := Int.eq_ofNat_of_zero_le r0
  have ha : a < l.length := by omega
  have hc : chL l a = [l[a]] := chL_some (List.getElem?_eq_getElem ha)
  refine FK.s_ret (F := fun v _ => ∃ c, c ∈ l ∧ v = .str (SX.S [c])) (es_ev (v := .str (SX.S (chL l a))) (ev_cut1 (by omega) (ev_var rfl) (eo_some (ev_var rfl)) (eo_some (ev_op (ev_var rfl) ev_c rv_ar)) rfl rfl) ⟨l[a], List.getElem_mem ha, by rw [hc]⟩) (fun v N e hv H2 A2 => g v N H2 A2 hv)
theorem ok_txt (D : Def K mg "_law_text" s__law_text ["state", "script", "least", "most"]) (T : Tx K w mg J) (c__law_draw : Cal CX0 P w K mg base 2 "_law_draw" (spDrw K)) (c__law_pick : Cal CX0 P w K mg base 3 "_law_pick" (spPick K)) (c__law_signs : Cal CX0 P w K mg base 1 "_law_signs" spSigns) : Cal CX0 P w K mg base 4 "_law_text" (spTxt K) := by
  refine calY D sc__law_text (fun Y vs B F h => ?_) (fun f cdv A outer s H Y vs B F Q E hr h O hO g => ?_)
  · obtain ⟨_, _, _, _, _, rfl, _⟩ := h
    rfl
  obtain ⟨ps, ss, lo, hi, hs, rfl, hlh, hh, rfl⟩ := h
  have hB0 : Ex O.B0 B := by rw [hO]; exact Ex.refl _
  refine ⟨_, (pss_cons (ps_set (i := 4) sc__law_text.nd rfl (.inr rfl) (pe_op op_add_str (pe_c0 c__law_signs hr (by decide) (by rfl)) pe_str))
    (pss_cons (ps_set (i := 5) sc__law_text.nd rfl (.inl rfl) (pe_c c__law_draw hr (by decide) (by rfl) (pa_cons (pv 0) (pa_cons (pv 1) (pa_cons pe_int pa_nil)))))
    (pss_cons (ps_if (pt_cmpR op_eq (pv 5) pe_int (nomark _))
      (pss_cons (ps_set (i := 4) sc__law_text.nd rfl (.inr rfl) pe_str) pss_nil)
      pss_nil)
    (pss_cons (ps_if (pt_cmpR op_eq (pv 5) pe_int (nomark _))
      (pss_cons (ps_set (i := 4) sc__law_text.nd rfl (.inr rfl) pe_str) pss_nil)
      pss_nil)
    (pss_cons (ps_ret (pe_join pe_str (pe_lc (own := [("k", 6)]) (g := gName 6) (tt := tYes) rfl sc__law_text.nd (pi_range1 rfl T.z_range (pa_cons (pe_op op_add (pv 2) (pe_c c__law_draw hr (by decide) (by rfl) (pa_cons (pv 0) (pa_cons (pv 1) (pa_cons (pe_op op_add (pe_op op_sub (pv 3) (pv 2)) pe_int) pa_nil))))) pa_nil)) (blkOk_by (N := ["state", "script", "least", "most", "signs", "kind", "k"]) (sc := defScope s__law_text) (by decide +kernel)) (fun _ _ _ _ _ => (pg_name (i := 6) sc__law_text.nd rfl (.inl rfl))) (fun _ _ _ _ _ => pts_nil) (fun _ _ _ _ _ => (pe_c c__law_pick hr (by decide) (by rfl) (pa_cons (pv 0) (pa_cons (pv 1) (pa_cons (pv 4) pa_nil)))))))) pss_nil))))), ?_⟩
  refine FK.s_set (v := .str (SX.S SG)) (ev_op (ev_pv ea_nil (fun H2 _ => ⟨rfl, rfl⟩)) (ev_lit [10, 9] rfl) (rv_addS (by decide))) ?_
  refine b_drw hB0 hs (ev_var rfl) (ev_var rfl) ev_c (by decide) (fun r r0 r1 => ?_) (by decide)
  refine s_whenPK (fun σ' B' => B' = B ∧ ∃ l : List Nat, goodT l ∧ 0 < l.length ∧ l.length ≤ 1000 ∧ σ' = [some (.ref ps), some (.ref ss), some (.int (lo : Int)), some (.int (hi : Int)), some (.str (SX.S l)), some (.int r), none]) (et_test (ev_op (ev_var rfl) ev_c (rv_eq rfl))) (fun σ' B' hM => ?_) (fun kk hb => ?_) (fun hb => ⟨rfl, SG, fun c hc => sg_good hc, by rw [sg_len]; decide, by rw [sg_len]; decide, rfl⟩)
  · obtain ⟨rfl, l, hg, h0, h1, rfl⟩ := hM
    refine s_whenPK (fun σ' B'' => B'' = B' ∧ ∃ l : List Nat, goodT l ∧ 0 < l.length ∧ l.length ≤ 1000 ∧ σ' = [some (.ref ps), some (.ref ss), some (.int (lo : Int)), some (.int (hi : Int)), some (.str (SX.S l)), some (.int r), none]) (et_test (ev_op (ev_var rfl) ev_c (rv_eq rfl))) (fun σ' B'' hM => ?_) (fun kk hb => ?_) (fun hb => ⟨rfl, l, hg, h0, h1, rfl⟩)
    · obtain ⟨rfl, l, hg, h0, h1, rfl⟩ := hM
      refine FK.s_ret (es_joinK (G := fun t => goodT t ∧ lo ≤ t.length ∧ t.length ≤ hi) (es_lc (fun xs i v N => ∃ c, c ∈ l ∧ v = .str (SX.S [c])) (eis_range1 (Fn := fun _ _ => True) (G := fun xs N => lo ≤ xs.length ∧ xs.length ≤ hi) (esa_cons (Fa := fun v N => ∃ n : Int, v = .int n ∧ (lo : Int) ≤ n ∧ n ≤ hi) (es_op (es_ev (F := fun v _ => v = .int (lo : Int)) (ev_var rfl) rfl) (fun x N e hx => by
        subst hx
        exact (es_drw (hs.mono e) (ev_var rfl) (ev_var rfl) (ev_op (ev_op (ev_var rfl) (ev_var rfl) rv_ar) ev_c rv_ar) (by omega)).imp fun y N2 _ ⟨k, hk, k0, k1⟩ => by
          subst hk
          exact ⟨_, rv_ar, _, rfl, by omega, by omega⟩)) (fun x N e ⟨n, hx, n0, n1⟩ => by
        subst hx
        exact esa_nil ⟨n, rfl, by omega, by omega, by rw [List.length_map, List.length_range]; omega, by rw [List.length_map, List.length_range]; omega⟩))) (fun xs N hG => by omega) (fun _ => rfl)
        (fun xs N e hG i x hx N2 e2 => es_pyA (ea_cons (ev_var rfl) (ea_cons (ev_var rfl) (ea_cons (ev_var rfl) ea_nil))) ⟨ps, ss, l, (hs.mono e).mono e2, rfl, h0, h1, rfl⟩) (fun xs i v N N' e h => h)
        (fun xs N0 ys N p e0 hG e1 hl hy np => by
          obtain ⟨cs, rfl, hcs⟩ := signs_of (Pc := fun c => c ∈ l) (ys := ys) fun i y h => hy i y h
          rw [List.length_map] at hl
          exact ⟨p, cs, rfl, upd_same, by omega, fun c hc => hg c (hcs c hc), by omega, by omega⟩))) (fun v N e hv H2 A2 => g v N H2 A2 hv)
    · exact FK.s_set (v := .str (SX.S [97, 32, 47, 126, 63, 10])) (ev_lit _ rfl) (FK.s_on (kk _ _ ⟨rfl, _, by unfold goodT; decide, by decide, by decide, rfl⟩))
  · exact FK.s_set (v := .str (SX.S [97, 98, 99, 88, 89, 90, 48, 49, 57, 45, 95, 46])) (ev_lit _ rfl) (FK.s_on (kk _ _ ⟨rfl, _, by unfold goodT; decide, by decide, by decide, rfl⟩))

/-! states: data as lists, as tuples; written and read back -/
def preWL2 (n : Nat) (K : PySem.W.Frag) (vs : List V) (H : Hp) (d' : PyData) : Prop := ∃ (v : V) (d : PyData) (m : Nat), vs = [v] ∧ Dq K H v d ∧ Jt m d ∧ m < n ∧ d' = wl d
def spWL2 (K : PySem.W.Frag) (n : Nat) : Sp := PF K (preWL2 n K)
theorem sca {K : PySem.W.Frag} {H : Hp} {v : V} {d : PyData} {m : Nat} (hJ : Jt m d) (hD : Dq K H v d) (ht : tyn d ≠ "tuple") : Dq K noH v d ∧ wl d = d := by
  cases hJ with
  | non => cases hD; exact ⟨.non, rfl⟩
  | bl b => cases hD; exact ⟨.bl b, rfl⟩
  | int _ => cases hD; exact ⟨.int _, rfl⟩
  | str _ _ => cases hD; exact ⟨.str _, rfl⟩
  | tup _ _ => exact absurd rfl ht
theorem sca2 {K : PySem.W.Frag} {H : Hp} {v : V} {d : PyData} {m : Nat} (hJ : Jt m d) (hD : Dq K H v (wl d)) (ht : tyn d ≠ "tuple") : Dq K noH v d ∧ wl d = d := by
  cases hJ with
  | non => cases hD; exact ⟨.non, rfl⟩
  | bl b => cases hD; exact ⟨.bl b, rfl⟩
  | int _ => cases hD; exact ⟨.int _, rfl⟩
  | str _ _ => cases hD; exact ⟨.str _, rfl⟩
  | tup _ _ => exact absurd rfl ht
theorem tup_of {d : PyData} {m : Nat} (hJ : Jt m d) (ht : tyn d = "tuple") : ∃ ds m', d = .tuple ds ∧ m = m' + 1 ∧ (∀ x ∈ ds, Jt m' x) ∧ ds.length ≤ 6 := by
  cases hJ with
  | non => exact absurd ht (by decide)
  | bl b => exact absurd ht (by simp [tyn])
  | int _ => exact absurd ht (by simp [tyn])
  | str _ _ => exact absurd ht (by simp [tyn])
  | tup h k => exact ⟨_, _, rfl, rfl, h, k⟩
theorem ok_wl2 (D : Def K mg "with_lists" s_with_lists ["value"]) (T : Tx K w mg J) : ∀ n, Cal CX0 P w K mg base (1 + n) "with_lists" (spWL2 K n)
  | 0 => cal0 D sc_with_lists (fun vs H Q E h => by
      obtain ⟨_, ⟨_, _, _, rfl, _⟩, _⟩ := h
      rfl) (fun f cdv A outer s H vs Q E hr h => by
      obtain ⟨_, ⟨_, _, _, _, _, _, hm, _⟩, _⟩ := h
      exact absurd hm (Nat.not_lt_zero _))
  | n + 1 => by
    have c_with_lists := ok_wl2 D T n
    have e : 1 + (n + 1) = (1 + n) + 1 := by omega
    rw [e]
    refine cal0 D sc_with_lists (fun vs H Q E h => ?_) (fun f cdv A outer s H vs Q E hr h => ?_)
    · obtain ⟨_, ⟨_, _, _, rfl, _⟩, _⟩ := h
      rfl
    obtain ⟨_, ⟨v, d, m, rfl, hD, hJ, hm, rfl⟩, q⟩ := h
    refine ⟨_, (pss_cons (ps_if (pt_val (pe_callB call_isiT (by rfl) T.z_isinstance (by decide +kernel) (pa_cons (pv 0) (pa_cons (pe_tup (pa_cons (pe_bltn (v := .ty "list") (by rfl) T.z_list (by decide +kernel) rfl) (pa_cons (pe_bltn (v := .ty "tuple") (by rfl) T.z_tuple (by decide +kernel) rfl) pa_nil))) pa_nil))))
        (pss_cons (ps_ret (pe_lc (own := [("item", 1)]) (g := gName 1) (tt := tYes) rfl sc_with_lists.nd (pi_seq (pv 0)) (blkOk_by (N := ["value", "item"]) (sc := defScope s_with_lists) (by decide +kernel)) (fun _ _ _ _ _ => (pg_name (i := 1) sc_with_lists.nd rfl (.inl rfl))) (fun _ _ _ _ _ => pts_nil) (fun _ _ _ _ _ => (pe_c c_with_lists hr (by omega) (by rfl) (pa_cons (pv 1) pa_nil))))) pss_nil)
        pss_nil)
      (pss_cons (ps_ret (pv 0)) pss_nil)), R.go ?_⟩
    refine r_when (et_B (ev_isLT hD (ev_var rfl) (en_tup (ea_cons ev_c (ea_cons ev_c ea_nil)) (by decide)))) (fun hb => ?_) (fun hb => ?_)
    · have ht : tyn d = "tuple" := by
        cases hJ with
        | tup _ _ => rfl
        | non => cases hb
        | bl b => cases hb
        | int _ => cases hb
        | str _ _ => cases hb
      obtain ⟨ds, m', rfl, rfl, hj, hlen⟩ := tup_of hJ ht
      rw [wl_tup] at q
      cases hD with
      | tup h1 h2 =>
      have hl := dqa_len h2
      refine r_retF (ef_lc (ds := ds.map wl) (ei_seqT (ev_var rfl) (st_of h1)) (by rw [List.length_map, hl]) (by omega) (fun _ => rfl) (fun i x d' hx hdi B' e' => ?_)) (fun v H2 N a b c d => q v H2 N a b c d)
      obtain ⟨d0, hd0, hxd⟩ := dqa_at h2 hx
      rw [List.getElem?_map, hd0] at hdi
      cases hdi
      exact ef_pf (ea_cons (ev_var rfl) ea_nil) (fun H2 e2 => ⟨x, d0, m', rfl, dq_ex (e'.trans e2) _ _ hxd, hj d0 (List.mem_of_getElem? hd0), by omega, rfl⟩)
    · obtain ⟨h0, hw⟩ := sca hJ hD (fun z => by rw [z] at hb; exact absurd hb (by decide))
      rw [hw] at q
      exact r_retF (ef_ev (ev_var rfl) h0) (fun v H2 N a b c d => q v H2 N a b c d)
def preWT2 (n : Nat) (K : PySem.W.Frag) (vs : List V) (H : Hp) (d : PyData) : Prop := ∃ (v : V) (m : Nat), vs = [v] ∧ Dq K H v (wl d) ∧ Jt m d ∧ m < n
def spWT2 (K : PySem.W.Frag) (n : Nat) : Sp := PF K (preWT2 n K)
theorem ok_wt2 (D : Def K mg "with_tuples" s_with_tuples ["value"]) (T : Tx K w mg J) : ∀ n, Cal CX0 P w K mg base (1 + n) "with_tuples" (spWT2 K n)
  | 0 => cal0 D sc_with_tuples (fun vs H Q E h => by
      obtain ⟨_, ⟨_, _, rfl, _⟩, _⟩ := h
      rfl) (fun f cdv A outer s H vs Q E hr h => by
      obtain ⟨_, ⟨_, _, _, _, _, hm⟩, _⟩ := h
      exact absurd hm (Nat.not_lt_zero _))
  | n + 1 => by
    have c_with_tuples := ok_wt2 D T n
    have e : 1 + (n + 1) = (1 + n) + 1 := by omega
    rw [e]
    refine cal0 D sc_with_tuples (fun vs H Q E h => ?_) (fun f cdv A outer s H vs Q E hr h => ?_)
    · obtain ⟨_, ⟨_, _, rfl, _⟩, _⟩ := h
      rfl
    obtain ⟨d, ⟨v, m, rfl, hD, hJ, hm⟩, q⟩ := h
    refine ⟨_, (pss_cons (ps_if (pt_val (pe_callB call_isi (by rfl) T.z_isinstance (by decide +kernel) (pa_cons (pv 0) (pa_cons (pe_bltn (v := .ty "list") (by rfl) T.z_list (by decide +kernel) rfl) pa_nil))))
        (pss_cons (ps_ret (pe_callTy call_tuple_of (by rfl) T.z_tuple (by decide +kernel) (pa_cons (pe_lc (own := [("item", 2)]) (g := gName 2) (tt := tYes) rfl sc_with_tuples.nd (pi_list (pv 0)) (blkOk_by (N := ["value", "key", "item"]) (sc := defScope s_with_tuples) (by decide +kernel)) (fun _ _ _ _ _ => (pg_name (i := 2) sc_with_tuples.nd rfl (.inl rfl))) (fun _ _ _ _ _ => pts_nil) (fun _ _ _ _ _ => (pe_c c_with_tuples hr (by omega) (by rfl) (pa_cons (pv 2) pa_nil)))) pa_nil))) pss_nil)
        pss_nil)
      (pss_cons (ps_if (pt_val (pe_callB call_isi (by rfl) T.z_isinstance (by decide +kernel) (pa_cons (pv 0) (pa_cons (pe_bltn (v := .ty "dict") (by rfl) T.z_dict (by decide +kernel) rfl) pa_nil))))
        (pss_cons ps_never pss_nil)
        pss_nil)
      (pss_cons (ps_ret (pv 0)) pss_nil))), R.go ?_⟩
    refine r_when (et_B (ev_isT hD (ea_cons (ev_var rfl) (ea_cons ev_c ea_nil)) (.ty "list") (by decide))) (fun hb => ?_) (fun hb => ?_)
    · have ht : tyn d = "tuple" := by
        cases hJ with
        | tup _ _ => rfl
        | non => cases hb
        | bl b => cases hb
        | int _ => cases hb
        | str _ _ => cases hb
      obtain ⟨ds, m', rfl, rfl, hj, hlen⟩ := tup_of hJ ht
      rw [wl_tup] at hD
      cases hD with
      | @lst a xs _ h1 h2 =>
      have hl := dqa_len h2
      rw [List.length_map] at hl
      refine r_retF (d := .tuple ds) (ef_tuple (ef_lc (ei_list (ev_var rfl) (sq_of h1)) hl (by omega) (fun _ => rfl) (fun i x d' hx hdi B' e' => ?_))) (fun v H2 N a b c d => q v H2 N a b c d)
      obtain ⟨d0, hd0, hxd⟩ := dqa_at h2 hx
      rw [List.getElem?_map, hdi] at hd0
      cases hd0
      exact ef_pf (ea_cons (ev_var rfl) ea_nil) (fun H2 e2 => ⟨x, m', rfl, dq_ex (e'.trans e2) _ _ hxd, hj d' (List.mem_of_getElem? hdi), by omega⟩)
    · have ht : tyn d ≠ "tuple" := fun z => by
        obtain ⟨ds, m', rfl, rfl, hj, hlen⟩ := tup_of hJ z
        cases hb
      obtain ⟨h0, hw⟩ := sca2 hJ hD ht
      rw [hw] at hD
      refine r_when (et_B (ev_isT hD (ea_cons (ev_var rfl) (ea_cons ev_c ea_nil)) (.ty "dict") (by decide))) (fun hb => ?_) (fun hb => ?_)
      · exfalso
        cases hJ with
        | tup _ _ => exact ht rfl
        | non => cases hb
        | bl b => cases hb
        | int _ => cases hb
        | str _ _ => cases hb
      exact r_retF (ef_ev (ev_var rfl) h0) (fun v H2 N a b c d => q v H2 N a b c d)
def codO (t : List Nat) : HO := .lst ((t.map fun c : Nat => (c : Int)).map V.int)
def spWritten2 (K : PySem.W.Frag) : Sp := PN fun vs H o => ∃ (v : V) (d : PyData), vs = [v] ∧ Dq K H v d ∧ Jt 3 d ∧ o = codO (wX (wl d))
theorem jt3_len {d : PyData} (h : Jt 3 d) : (wX (wl d)).length ≤ 20000 := Nat.le_trans (jt_len h) mxT_3
theorem ok_written2 (D : Def K mg "written" s_written ["value"]) (T : Tx K w mg J) (c_encode_text : Cal CX0 P w K mg base 1 "encode_text" spEnc) (c_write_json : Cal CX0 P w K mg base 5 "write_json" (spWX K 4)) (c_with_lists : Cal CX0 P w K mg base 5 "with_lists" (spWL2 K 4)) : Cal CX0 P w K mg base 6 "written" (spWritten2 K) := by
  refine cal0 D sc_written (fun vs H Q E h => ?_) (fun f cdv A outer s H vs Q E hr h => ?_)
  · obtain ⟨_, ⟨_, _, rfl, _⟩, _⟩ := h
    rfl
  obtain ⟨_, ⟨v, d, rfl, hD, hJ, rfl⟩, q⟩ := h
  have hlen := jt3_len hJ
  refine ⟨_, (pss_cons (ps_ret (pe_c c_encode_text hr (by decide) (by rfl) (pa_cons (pe_c c_write_json hr (by decide) (by rfl) (pa_cons (pe_c c_with_lists hr (by decide) (by rfl) (pa_cons (pv 0) pa_nil)) pa_nil)) pa_nil))) pss_nil), R.go ?_⟩
  have h1 : EvF K (tCall (spWL2 K 4) [] E0 (tCons (tVar 0) tNil)) [some v] H (wl d) := ef_pf (ea_cons (ev_var rfl) ea_nil) (fun H2 e2 => ⟨v, d, 3, rfl, dq_ex e2 _ _ hD, hJ, by decide, rfl⟩)
  have h2 : Ev (tCall (spWX K 4) [] E0 (tCons (tCall (spWL2 K 4) [] E0 (tCons (tVar 0) tNil)) tNil)) [some v] H (.str (SX.S (wX (wl d)))) := ev_pvA (eap_f h1 eap_nil) (fun vs H2 e2 ⟨u, r, hv, hu, hr⟩ => by
    subst hr
    subst hv
    exact ⟨u, wl d, 3, rfl, hu, jt_jw hJ, by decide, by omega, rfl⟩)
  exact r_retN (en_pn (ea_cons h2 ea_nil) (fun H2 e2 => ⟨wX (wl d), rfl, by omega, rfl⟩)) (fun p np H1 e1 => q p H1 np ((Ex.new np).trans e1) (e1 p _ upd_same))
theorem ef_parse {σ : L2.St} {B : Hp} {as : TA} {W : WX} {t : List Nat} {d : PyData} {a : Nat} (h : EvA as σ B [.str (SX.S t)]) (ht : okT t) (hr : rdW t = .ok d a) : EvF K (tCallS (spM mg (preParse (K := K))) (WE W) as) σ B d := fun H1 e Q q => h H1 e _ fun H2 e2 =>
  ⟨_, ⟨t, rfl, ht, rfl⟩, by
    rw [hr]
    exact fun v H3 ⟨e3, N, eN, fN, dN⟩ => q v H3 N (e2.trans e3) eN (fun p z => fresh_back e2 (fN p z)) dN⟩
theorem cd_lt {c : Nat} (h : cdB c = true) : c < 128 ∧ codeB (c : Int) = true := by
  unfold cdB at h
  simp at h
  rw [codeB_iff]
  omega
theorem cd_of {c : Nat} (h : codeB (c : Int) = true) : cdB c = true := by
  rw [codeB_iff] at h
  unfold cdB
  simp
  omega
theorem dec_cd {l : List Nat} (h : ∀ c ∈ l, cdB c = true) : decOut (l.map fun c : Nat => (c : Int)) = .val (.str (SX.S l)) := by
  unfold decOut
  rw [bad_none (fun n hn => by
    obtain ⟨c, hc, rfl⟩ := List.mem_map.mp hn
    exact (cd_lt (h c hc)).2)]
  unfold txtOf
  rw [List.map_map]
  have : (Int.toNat ∘ fun c : Nat => (c : Int)) = id := by funext c; simp
  rw [this, List.map_id]
theorem cd_okT {l : List Nat} (h : ∀ c ∈ l, cdB c = true) (hl : l.length ≤ 20000) : okT l := ⟨by omega, fun c hc => (cd_lt (h c hc)).1⟩
def preRB2 (K : PySem.W.Frag) (vs : List V) (H : Hp) (d : PyData) : Prop := ∃ (p : Addr), vs = [.ref p] ∧ SqL K H p (((wX (wl d)).map fun c : Nat => (c : Int)).map V.int) ∧ Jt 3 d
theorem ef_back {σ : L2.St} {B : Hp} {te : TE} {W W2 : WX} {d : PyData} {p : Addr} (h : Ev te σ B (.ref p)) (hS : SqL K B p (((wX (wl d)).map fun c : Nat => (c : Int)).map V.int)) (hJ : Jt 3 d) : EvF K (tCallS (spM mg (preParse (K := K))) (WE W) (tCons (tCallS (spDec K mg) (WE W2) (tCons te tNil)) tNil)) σ B (wl d) := by
  have hlen := jt3_len hJ
  obtain ⟨a, hw⟩ := jt_rd hJ (by decide)
  exact ef_parse (ea_cons (ev_cx (ea_cons h ea_nil) (fun H2 e2 => ⟨p, _, rfl, ex_l e2 hS, by rw [List.length_map]; omega, (dec_cd (jt_cd hJ)).symm⟩)) ea_nil) (cd_okT (jt_cd hJ) hlen) hw
theorem ok_rback2 (D : Def K mg "read_back" s_read_back ["octets"]) (T : Tx K w mg J) (c_with_tuples : Cal CX0 P w K mg base 5 "with_tuples" (spWT2 K 4)) (c_parse_json : CalX P w K mg base 73 "parse_json" (spM mg (preParse (K := K)))) (c_decode_text : CalX P w K mg base 3 "decode_text" (spDec K mg)) : CalX P w K mg base 74 "read_back" (PF K (preRB2 K)) := by
  refine calX D sc_read_back (fun vs H Q E h => ?_) (fun f cdv A outer s H vs Q E hr h => ?_)
  · obtain ⟨_, ⟨_, rfl, _⟩, _⟩ := h
    rfl
  obtain ⟨d, ⟨p, rfl, hS, hJ⟩, q⟩ := h
  refine ⟨_, (pss_cons (ps_ret (pe_c c_with_tuples hr (by decide) (by rfl) (pa_cons (pe_cX c_parse_json (takes_of rfl rfl rfl rfl) hr (by decide) (by rfl) (pa_cons (pe_cX c_decode_text (takes_of rfl rfl rfl rfl) hr (by decide) (by rfl) (pa_cons (pv 0) pa_nil)) pa_nil)) pa_nil))) pss_nil), R.go ?_⟩
  refine r_retF (d := d) (ef_pfA (eap_f (ef_back (ev_var rfl) hS hJ) eap_nil) (fun vs H2 e2 ⟨u, r, hv, hu, hr⟩ => ?_)) (fun v H2 N a b c d => q v H2 N a b c d)
  subst hr
  subst hv
  exact ⟨u, 3, rfl, hu, hJ, by decide⟩
/-! answers -/
def RSN : List (List Nat × Int) := [([111, 108, 100], 409), ([110, 111, 116, 32, 102, 105, 116, 116, 105, 110, 103], 409), ([105, 110, 32, 117, 115, 101], 409), ([115, 116, 97, 110, 100, 105, 110, 103], 409), ([110, 111, 32, 115, 117, 98, 106, 101, 99, 116], 404), ([110, 111, 32, 118, 101, 114, 115, 105, 111, 110], 404), ([110, 111, 32, 115, 99, 104, 101, 109, 97], 404), ([98, 97, 100, 32, 109, 111, 100, 101], 400), ([98, 97, 100, 32, 114, 101, 102, 101, 114, 101, 110, 99, 101], 400), ([98, 97, 100, 32, 115, 99, 104, 101, 109, 97], 400), ([98, 97, 100, 32, 116, 97, 114, 103, 101, 116], 400), ([98, 97, 100, 32, 99, 108, 105, 101, 110, 116], 400), ([98, 97, 100, 32, 98, 111, 100, 121], 400), ([98, 97, 100, 32, 104, 116, 116, 112], 400)]
def sttN (l : List Nat) : Int := match sttL.find? (fun p => decide (p.1 = l)) with
  | some p => p.2
  | none => 400
theorem rsn_ok : ∀ p ∈ RSN, sttN p.1 = p.2 ∧ p.1.all cdB = true ∧ p.1.length ≤ 13 := by decide +kernel
def DN : List Nat := [100, 111, 110, 101]
def RF : List Nat := [114, 101, 102, 117, 115, 101, 100]
/-- the status of an answer -/
inductive StA : PyData → Int → Prop where
  | done {ds : List PyData} : StA (.tuple (.str (SX.S DN) :: ds)) 200
  | ref {l : List Nat} {ds : List PyData} : StA (.tuple (.str (SX.S RF) :: .str (SX.S l) :: ds)) (sttN l)
theorem ok_status (D : Def K mg "status_of" s_status_of ["answer"]) (T : Tx K w mg J) : Cal CX0 P w K mg base 1 "status_of" (PV fun vs H z => ∃ (v : V) (d : PyData) (i : Int), vs = [v] ∧ Dq K H v d ∧ StA d i ∧ z = .int i) := by
  refine cal0 D sc_status_of (fun vs H Q E h => ?_) (fun f cdv A outer s H vs Q E hr h => ?_)
  · obtain ⟨_, ⟨_, _, _, rfl, _⟩, _⟩ := h
    rfl
  obtain ⟨_, ⟨v, d, i, rfl, hD, hA, rfl⟩, q⟩ := h
  refine ⟨_, (pss_cons (ps_ret (pe_ifExp (pt_cmpR op_eq (pe_ix ix_tup (pv 0) pe_int (fun _ _ => rfl)) pe_str (nomark _)) pe_int (pe_kget2 T.d_STATUSES (pe_gc (by rfl) T.g_STATUSES) (pe_ix ix_tup (pv 0) pe_int (fun _ _ => rfl)) pe_int ⟨rfl, rfl, rfl, rfl⟩))) pss_nil), R.go ?_⟩
  cases hA with
  | done =>
    cases hD with
    | tup h1 h2 =>
    cases h2 with
    | cons g1 _ =>
    cases g1
    exact r_ret (ev_if (b := true) (et_is (et_test (ev_eqS (y := DN) (ev_op (ev_var rfl) ev_c (rv_ixT (v := .str (SX.S DN)) (st_of h1) (atI_nat (j := 0) rfl))) (ev_lit _ rfl))) (by decide)) (fun _ => ev_c) (fun hb => by cases hb)) (fun H1 e1 => q H1 e1)
  | @ref l ds =>
    cases hD with
    | tup h1 h2 =>
    cases h2 with
    | cons g1 h2 =>
    cases h2 with
    | cons g2 _ =>
    cases g1
    cases g2
    obtain ⟨r, hr1, hr2⟩ := T.s_STATUSES l
    refine r_ret (ev_if (b := false) (et_is (et_test (ev_eqS (y := DN) (ev_op (ev_var rfl) ev_c (rv_ixT (v := .str (SX.S RF)) (st_of h1) (atI_nat (j := 0) rfl))) (ev_lit _ rfl))) (by decide)) (fun hb => by cases hb) (fun _ => ev_kget2 (v0 := .int (sttN l)) (z := .int 400) ev_c (ev_op (ev_var rfl) ev_c (rv_ixT (v := .str (SX.S l)) (st_of h1) (atI_nat (j := 1) rfl))) ev_c hr1 (fun u hu => ?_) (fun hn => ?_))) (fun H1 e1 => q H1 e1)
    · unfold sttN
      cases hf : sttL.find? (fun p => decide (p.1 = l)) with
      | some p =>
        rw [hf] at hr2
        obtain ⟨u2, e2, r2⟩ := hr2
        rw [e2] at hu
        cases hu
        exact r2
      | none =>
        rw [hf] at hr2
        rw [hr2] at hu
        cases hu
    · unfold sttN
      cases hf : sttL.find? (fun p => decide (p.1 = l)) with
      | some p =>
        rw [hf] at hr2
        obtain ⟨u2, e2, r2⟩ := hr2
        rw [e2] at hn
        cases hn
      | none => rfl
def anF (i : Int) (h b : Addr) : List (Str × V) := [("status", .int i), ("headers", .ref h), ("body", .ref b)]
structure AnC (K : PySem.W.Frag) (C : Addr) : Prop where
  c : Cls K C
  nS : NoAttr K C "status"
  nH : NoAttr K C "headers"
  nB : NoAttr K C "body"
theorem an_st {i : Int} {h b : Addr} : List.lookup ("status" : Str) (anF i h b) = some (V.int i) := lk_eq
theorem an_hd {i : Int} {h b : Addr} : List.lookup ("headers" : Str) (anF i h b) = some (V.ref h) := by
  unfold anF
  rw [lk_ne (by decide +kernel), lk_eq]
theorem an_bd {i : Int} {h b : Addr} : List.lookup ("body" : Str) (anF i h b) = some (V.ref b) := by
  unfold anF
  rw [lk_ne (by decide +kernel), lk_ne (by decide +kernel), lk_eq]
def preInitA (C : Addr) (vs : List V) (H : Hp) (r : OutM) : Prop := ∃ (x dx h b : Addr) (i : Int), vs = [.ref x, .int i, .ref h, .ref b] ∧ H x = some (.ins C dx []) ∧ r = .val fun v H' => v = .non ∧ Ex (upd H x (.ins C dx (anF i h b))) H'
theorem ok_ainit {C : Addr} (D : DefM K C "__init__" "Answer.__init__" s_Answer___init__ ["self", "status", "headers", "body"]) (hm : PySem.W.makesIn K C = true) (hk : PySem.W.keepIn K (.ref C) = true) (hx : mg "Answer" = some (.ref C)) (R0 : AnC K C) (T : Tx K w mg J) : MakX P w K mg base 1 C "Answer" (spM mg (preInitA C)) := by
  refine makX D hm hk hx sc_Answer___init__ (fun vs H Q E h => ?_) (fun f cdv A outer s H vs Q E hr h => ?_)
  · obtain ⟨_, ⟨_, _, _, _, _, rfl, _⟩, _⟩ := h
    rfl
  obtain ⟨_, ⟨x, dx, hh, b, i, rfl, hB, rfl⟩, q⟩ := h
  refine ⟨_, (pss_cons (ps_fld (pv 0) (pv 1) rfl)
    (pss_cons (ps_fld (pv 0) (pv 2) rfl)
    (pss_cons (ps_fld (pv 0) (pv 3) rfl) pss_nil))), R.go ?_⟩
  refine r_fld (ev_var rfl) (ev_var rfl) hB R0.c R0.nS (by show 0 < 1000; decide) ?_
  rw [put_nil]
  refine r_fld (ev_var rfl) (ev_var rfl) upd_same R0.c R0.nH (by show 1 < 1000; decide) ?_
  rw [put_ne (by decide +kernel), put_nil, updw]
  refine r_fld (ev_var rfl) (ev_var rfl) upd_same R0.c R0.nB (by show 2 < 1000; decide) ?_
  rw [put_ne (by decide +kernel), put_ne (by decide +kernel), put_nil, updw]
  exact r_next (fun H1 e1 => q _ H1 ⟨rfl, e1⟩)
def preAO (C h : Addr) (vs : List V) (H : Hp) (r : OutM) : Prop := ∃ (v : V) (d : PyData) (i : Int), vs = [v] ∧ Dq K H v d ∧ Jt 3 d ∧ StA d i ∧ r = .val fun u H' => Ex H H' ∧ ∃ (x dx b : Addr), u = .ref x ∧ H' x = some (.ins C dx (anF i h b)) ∧ H' b = some (codO (wX (wl d)))
theorem ok_aoct {C : Addr} (D : Def K mg "answer_octets" s_answer_octets ["answer"]) (T : Tx K w mg J) (k_Answer : MakX P w K mg base 1 C "Answer" (spM mg (preInitA C))) (c_status_of : Cal CX0 P w K mg base 1 "status_of" (PV fun vs H z => ∃ (v : V) (d : PyData) (i : Int), vs = [v] ∧ Dq K H v d ∧ StA d i ∧ z = .int i))
    (c_written : Cal CX0 P w K mg base 6 "written" (spWritten2 K)) : CalX P w K mg base 7 "answer_octets" (spM mg (preAO (K := K) C J.aH)) := by
  refine calX D sc_answer_octets (fun vs H Q E h => ?_) (fun f cdv A outer s H vs Q E hr h => ?_)
  · obtain ⟨_, ⟨_, _, _, rfl, _⟩, _⟩ := h
    rfl
  obtain ⟨_, ⟨v, d, i, rfl, hD, hJ, hA, rfl⟩, q⟩ := h
  refine ⟨_, (pss_cons (ps_ret (pe_mk k_Answer (takes_of rfl rfl rfl rfl) hr (by decide) (by rfl) (pa_cons (pe_c c_status_of hr (by decide) (by rfl) (pa_cons (pv 0) pa_nil)) (pa_cons (pe_gc (by rfl) T.g_HEADERS_OF_ANSWER) (pa_cons (pe_c c_written hr (by decide) (by rfl) (pa_cons (pv 0) pa_nil)) pa_nil))))) pss_nil), R.go ?_⟩
  refine r_retM (em_mkA (Φ := fun u H' => Ex H H' ∧ ∃ (x dx b : Addr), u = .ref x ∧ H' x = some (.ins C dx (anF i J.aH b)) ∧ H' b = some (codO (wX (wl d)))) (eap_v (ev_pv (ea_cons (ev_var rfl) ea_nil) (fun H2 e2 => ⟨v, d, i, rfl, dq_ex e2 _ _ hD, hA, rfl⟩)) (eap_v ev_c (eap_n (en_pn (ea_cons (ev_var rfl) ea_nil) (fun H2 e2 => ⟨v, d, rfl, dq_ex e2 _ _ hD, hJ, rfl⟩)) eap_nil)))
    (fun vs H2 x dx e2 ⟨r1, h1, r2, h2, b, r3, h3, hb, h4⟩ nx ndx hne => ?_)) (fun u B' h => q u B' h)
  subst h1 h2 h3 h4
  have n1 : b ≠ x := fun z => by rw [z, nx] at hb; cases hb
  have n2 : b ≠ dx := fun z => by rw [z, ndx] at hb; cases hb
  refine ⟨_, ⟨x, dx, J.aH, b, i, rfl, upd_same, rfl⟩, fun v' H' ⟨hv, h2⟩ => ⟨hv, fun p o ho => h2 p o ?_, x, dx, b, rfl, h2 x _ upd_same, h2 b _ (by rw [upd_ne n1, upd_ne n1, upd_ne n2]; exact hb)⟩⟩
  have h3 := e2 p o ho
  have m1 : p ≠ x := fun z => by subst z; rw [nx] at h3; cases h3
  have m2 : p ≠ dx := fun z => by subst z; rw [ndx] at h3; cases h3
  rw [upd_ne m1, upd_ne m1, upd_ne m2]
  exact h3
def preTA (C : Addr) (vs : List V) (H : Hp) (d : PyData) : Prop := ∃ (x dx h b : Addr) (i : Int), vs = [.ref x] ∧ H x = some (.ins C dx (anF i h b)) ∧ H b = some (codO (wX (wl d))) ∧ Jt 3 d
theorem ok_told {C : Addr} (D : Def K mg "told_answer" s_told_answer ["message"]) (R0 : AnC K C) (T : Tx K w mg J) (c_read_back : CalX P w K mg base 74 "read_back" (PF K (preRB2 K))) : CalX P w K mg base 75 "told_answer" (PF K (preTA C)) := by
  refine calX D sc_told_answer (fun vs H Q E h => ?_) (fun f cdv A outer s H vs Q E hr h => ?_)
  · obtain ⟨_, ⟨_, _, _, _, _, rfl, _⟩, _⟩ := h
    rfl
  obtain ⟨d, ⟨x, dx, hh, b, i, rfl, hx, hb, hJ⟩, q⟩ := h
  refine ⟨_, (pss_cons (ps_ret (pe_cX c_read_back (takes_of rfl rfl rfl rfl) hr (by decide) (by rfl) (pa_cons (pe_fld (pv 0) rfl) pa_nil))) pss_nil), R.go ?_⟩
  exact r_retF (d := d) (ef_pfX (ea_cons (ev_fld (ev_var rfl) hx R0.c R0.nB an_bd) ea_nil) (fun H2 e2 => ⟨b, rfl, sq_of (e2 _ _ hb), hJ⟩)) (fun v H2 N a b c d => q v H2 N a b c d)
/-! the law's own -/
theorem ok_listed (D : Def K mg "_law_listed" s__law_listed ["value"]) (T : Tx K w mg J) : ∀ n, Cal CX0 P w K mg base (1 + n) "_law_listed" (spWL2 K n)
  | 0 => cal0 D sc__law_listed (fun vs H Q E h => by
      obtain ⟨_, ⟨_, _, _, rfl, _⟩, _⟩ := h
      rfl) (fun f cdv A outer s H vs Q E hr h => by
      obtain ⟨_, ⟨_, _, _, _, _, _, hm, _⟩, _⟩ := h
      exact absurd hm (Nat.not_lt_zero _))
  | n + 1 => by
    have c__law_listed := ok_listed D T n
    have e : 1 + (n + 1) = (1 + n) + 1 := by omega
    rw [e]
    refine cal0 D sc__law_listed (fun vs H Q E h => ?_) (fun f cdv A outer s H vs Q E hr h => ?_)
    · obtain ⟨_, ⟨_, _, _, rfl, _⟩, _⟩ := h
      rfl
    obtain ⟨_, ⟨v, d, m, rfl, hD, hJ, hm, rfl⟩, q⟩ := h
    refine ⟨_, (pss_cons (ps_if (pt_val (pe_callB call_isi (by rfl) T.z_isinstance (by decide +kernel) (pa_cons (pv 0) (pa_cons (pe_bltn (v := .ty "tuple") (by rfl) T.z_tuple (by decide +kernel) rfl) pa_nil))))
        (pss_cons (ps_ret (pe_lc (own := [("one", 1)]) (g := gName 1) (tt := tYes) rfl sc__law_listed.nd (pi_seq (pv 0)) (blkOk_by (N := ["value", "one"]) (sc := defScope s__law_listed) (by decide +kernel)) (fun _ _ _ _ _ => (pg_name (i := 1) sc__law_listed.nd rfl (.inl rfl))) (fun _ _ _ _ _ => pts_nil) (fun _ _ _ _ _ => (pe_c c__law_listed hr (by omega) (by rfl) (pa_cons (pv 1) pa_nil))))) pss_nil)
        pss_nil)
      (pss_cons (ps_ret (pv 0)) pss_nil)), R.go ?_⟩
    refine r_when (et_B (ev_isT hD (ea_cons (ev_var rfl) (ea_cons ev_c ea_nil)) (.ty "tuple") (by decide))) (fun hb => ?_) (fun hb => ?_)
    · have ht : tyn d = "tuple" := by
        cases hJ with
        | tup _ _ => rfl
        | non => cases hb
        | bl b => cases hb
        | int _ => cases hb
        | str _ _ => cases hb
      obtain ⟨ds, m', rfl, rfl, hj, hlen⟩ := tup_of hJ ht
      rw [wl_tup] at q
      cases hD with
      | tup h1 h2 =>
      have hl := dqa_len h2
      refine r_retF (ef_lc (ds := ds.map wl) (ei_seqT (ev_var rfl) (st_of h1)) (by rw [List.length_map, hl]) (by omega) (fun _ => rfl) (fun i x d' hx hdi B' e' => ?_)) (fun v H2 N a b c d => q v H2 N a b c d)
      obtain ⟨d0, hd0, hxd⟩ := dqa_at h2 hx
      rw [List.getElem?_map, hd0] at hdi
      cases hdi
      exact ef_pf (ea_cons (ev_var rfl) ea_nil) (fun H2 e2 => ⟨x, d0, m', rfl, dq_ex (e'.trans e2) _ _ hxd, hj d0 (List.mem_of_getElem? hd0), by omega, rfl⟩)
    · obtain ⟨h0, hw⟩ := sca hJ hD (fun z => by
        obtain ⟨ds, m', rfl, rfl, hj, hlen⟩ := tup_of hJ z
        cases hb)
      rw [hw] at q
      exact r_retF (ef_ev (ev_var rfl) h0) (fun v H2 N a b c d => q v H2 N a b c d)
def spAl2 (K : PySem.W.Frag) (n : Nat) : Sp := PV fun vs H z => ∃ (va vb : V) (d : PyData) (m : Nat), vs = [va, vb] ∧ Dq K H va d ∧ Dq K H vb d ∧ Jt m d ∧ m < n ∧ z = .bl true
theorem ok_alike2 (D : Def K mg "_law_alike" s__law_alike ["first", "second"]) (T : Tx K w mg J) : ∀ n, Cal CX0 P w K mg base (1 + n) "_law_alike" (spAl2 K n)
  | 0 => cal0 D sc__law_alike (fun vs H Q E h => by
      obtain ⟨_, ⟨_, _, _, _, rfl, _⟩, _⟩ := h
      rfl) (fun f cdv A outer s H vs Q E hr h => by
      obtain ⟨_, ⟨_, _, _, _, _, _, _, _, hm, _⟩, _⟩ := h
      exact absurd hm (Nat.not_lt_zero _))
  | n + 1 => by
    have c__law_alike := ok_alike2 D T n
    have e : 1 + (n + 1) = (1 + n) + 1 := by omega
    rw [e]
    refine cal0 D sc__law_alike (fun vs H Q E h => ?_) (fun f cdv A outer s H vs Q E hr h => ?_)
    · obtain ⟨_, ⟨_, _, _, _, rfl, _⟩, _⟩ := h
      rfl
    obtain ⟨_, ⟨va, vb, d, m, rfl, hA, hB, hJ, hm, rfl⟩, q⟩ := h
    refine ⟨_, (pss_cons (ps_if (pt_val (pe_callB call_isi (by rfl) T.z_isinstance (by decide +kernel) (pa_cons (pv 0) (pa_cons (pe_bltn (v := .ty "tuple") (by rfl) T.z_tuple (by decide +kernel) rfl) pa_nil))))
        (pss_cons (ps_if (pw_or (pt_not (pt_val (pe_callB call_isi (by rfl) T.z_isinstance (by decide +kernel) (pa_cons (pv 1) (pa_cons (pe_bltn (v := .ty "tuple") (by rfl) T.z_tuple (by decide +kernel) rfl) pa_nil))))) (pw_or1 (pt_cmpR op_ne (pe_callB call_len_seq (by rfl) T.z_len PySem.boot_len (pa_cons (pv 0) pa_nil)) (pe_callB call_len_seq (by rfl) T.z_len PySem.boot_len (pa_cons (pv 1) pa_nil)) (nomark _)))).pt
          (pss_cons (ps_ret pe_bl) pss_nil)
          pss_nil)
        (pss_cons (ps_ret (pe_callB (cr_all rfl) (by rfl) T.z_all (by decide +kernel) (pa_cons (pe_lc (own := [("k", 2)]) (g := gName 2) (tt := tYes) rfl sc__law_alike.nd (pi_range1 rfl T.z_range (pa_cons (pe_callB call_len_seq (by rfl) T.z_len PySem.boot_len (pa_cons (pv 0) pa_nil)) pa_nil)) (blkOk_by (N := ["first", "second", "k"]) (sc := defScope s__law_alike) (by decide +kernel)) (fun _ _ _ _ _ => (pg_name (i := 2) sc__law_alike.nd rfl (.inl rfl))) (fun _ _ _ _ _ => pts_nil) (fun _ _ _ _ _ => (pe_c c__law_alike hr (by omega) (by rfl) (pa_cons (pe_ix (ix_tupK (K := K) (by rfl)) (pv 0) (pv 2) (fun _ _ => rfl)) (pa_cons (pe_ix (ix_tupK (K := K) (by rfl)) (pv 1) (pv 2) (fun _ _ => rfl)) pa_nil))))) pa_nil))) pss_nil))
        pss_nil)
      (pss_cons (ps_if (pw_or (pt_cmpR op_isN (pv 0) pe_non (nomark _)) (pw_or (pt_cmpR op_isN (pv 1) pe_non (nomark _)) (pw_or (pt_val (pe_callB call_isi (by rfl) T.z_isinstance (by decide +kernel) (pa_cons (pv 0) (pa_cons (pe_bltn (v := .ty "bool") (by rfl) T.z_bool (by decide +kernel) rfl) pa_nil)))) (pw_or1 (pt_val (pe_callB call_isi (by rfl) T.z_isinstance (by decide +kernel) (pa_cons (pv 1) (pa_cons (pe_bltn (v := .ty "bool") (by rfl) T.z_bool (by decide +kernel) rfl) pa_nil)))))))).pt
        (pss_cons (ps_ret (pe_and (pe_cmpR op_eq (pv 0) (pv 1) (nomark _)) (pe_one (pe_cmpR op_eq (pe_callB call_isi (by rfl) T.z_isinstance (by decide +kernel) (pa_cons (pv 0) (pa_cons (pe_bltn (v := .ty "bool") (by rfl) T.z_bool (by decide +kernel) rfl) pa_nil))) (pe_callB call_isi (by rfl) T.z_isinstance (by decide +kernel) (pa_cons (pv 1) (pa_cons (pe_bltn (v := .ty "bool") (by rfl) T.z_bool (by decide +kernel) rfl) pa_nil))) (nomark _))))) pss_nil)
        pss_nil)
      (pss_cons (ps_ret (pe_and (pe_cmpR op_eq (pe_callB call_isi (by rfl) T.z_isinstance (by decide +kernel) (pa_cons (pv 0) (pa_cons (pe_bltn (v := .ty "str") (by rfl) T.z_str (by decide +kernel) rfl) pa_nil))) (pe_callB call_isi (by rfl) T.z_isinstance (by decide +kernel) (pa_cons (pv 1) (pa_cons (pe_bltn (v := .ty "str") (by rfl) T.z_str (by decide +kernel) rfl) pa_nil))) (nomark _)) (pe_one (pe_cmpR op_eq (pv 0) (pv 1) (nomark _))))) pss_nil))), R.go ?_⟩
    refine r_when (et_B (ev_isT hA (ea_cons (ev_var rfl) (ea_cons ev_c ea_nil)) (.ty "tuple") (by decide))) (fun hb => ?_) (fun hb => ?_)
    · have ht : tyn d = "tuple" := by
        cases hJ with
        | tup _ _ => rfl
        | non => cases hb
        | bl b => cases hb
        | int _ => cases hb
        | str _ _ => cases hb
      obtain ⟨ds, m', rfl, rfl, hj, hlen⟩ := tup_of hJ ht
      have hB0 := hB
      cases hA with
      | @tup a xs _ a1 a2 =>
      cases hB with
      | @tup b ys _ b1 b2 =>
      have la := dqa_len a2
      have lb := dqa_len b2
      refine r_when (b := false) (et_is (et_or (et_not (et_B (ev_isT hB0 (ea_cons (ev_var rfl) (ea_cons ev_c ea_nil)) (.ty "tuple") (by decide)))) (fun hb => et_test (ev_op (ev_lenTp (ev_var rfl) (st_of a1)) (ev_lenTp (ev_var rfl) (st_of b1)) (rv_ne rfl)))) (by
        rw [la, lb]
        simp
        rfl)) (fun hb => by cases hb) (fun _ => ?_)
      refine r_ret (v := .bl true) (ev_is (ev_allN (bs := (List.range ds.length).map fun _ => true) ?_) (by simp)) (fun H1 e1 => q H1 e1)
      have hL := en_lcA (te := tCall (spAl2 K n) [] E0 (tCons (tOp (rIxT K) (tVar 0) (tVar 2)) (tCons (tOp (rIxT K) (tVar 1) (tVar 2)) tNil))) (σ := ([some (V.ref a), some (V.ref b), none] : L2.St)) (B := H) (j := 2) (vs := [2]) (fun _ => V.bl true) (ei_range1 (ea_cons (ev_lenTp (K := K) (ev_var (i := 0) rfl) (st_of a1)) ea_nil) ⟨by omega, by omega⟩) (by rw [List.length_map, List.length_range]; omega) (fun _ => rfl) (fun x hx B' e' => by
        obtain ⟨i, hi, rfl⟩ := List.mem_map.mp hx
        rw [List.mem_range] at hi
        have hil : i < ds.length := by omega
        have hds : ds[i]? = some ds[i] := List.getElem?_eq_getElem hil
        obtain ⟨v1, h1, w1⟩ := dqa_at' a2 hds
        obtain ⟨v2, h2, w2⟩ := dqa_at' b2 hds
        exact ev_pv (ea_cons (ev_op (ev_var rfl) (ev_var rfl) (rv_ixT (st_of (e' _ _ a1)) (atI_nat h1))) (ea_cons (ev_op (ev_var rfl) (ev_var rfl) (rv_ixT (st_of (e' _ _ b1)) (atI_nat h2))) ea_nil)) (fun H2 e2 => ⟨v1, v2, ds[i], m', rfl, dq_ex (e'.trans e2) _ _ w1, dq_ex (e'.trans e2) _ _ w2, hj _ (List.getElem_mem hil), by omega, rfl⟩))
      rw [show ((List.range ((xs.length : Int)).toNat).map fun i : Nat => V.int (i : Int)).map (fun _ => V.bl true) = ((List.range ds.length).map fun _ => true).map V.bl by
        rw [List.map_map, List.map_map, la]
        rfl] at hL
      exact hL
    cases hJ with
    | tup _ _ => cases hb
    | non =>
      have hB0 := hB
      have hA0 := hA
      cases hA
      cases hB
      refine r_when (b := true) (et_is (et_or (b := true) (et_test (ev_op (ev_var rfl) ev_c rv_isN)) (fun hb => (by simp at hb))) rfl) (fun _ => ?_) (fun hb => by cases hb)
      exact r_ret (v := .bl true) (ev_is (ev_andV (ev_op (ev_var rfl) (ev_var rfl) (rv_eq rfl)) (fun hb => ev_op (ev_isT hA0 (ea_cons (ev_var rfl) (ea_cons ev_c ea_nil)) (.ty "bool") (by decide)) (ev_isT hB0 (ea_cons (ev_var rfl) (ea_cons ev_c ea_nil)) (.ty "bool") (by decide)) (rv_eq rfl))) (by simp)) (fun H1 e1 => q H1 e1)
    | bl b =>
      have hB0 := hB
      have hA0 := hA
      cases hA
      cases hB
      refine r_when (b := true) (et_is (et_or (et_test (ev_op (ev_var rfl) ev_c rv_isN)) (fun hb => et_or (et_test (ev_op (ev_var rfl) ev_c rv_isN)) (fun hb => et_or (et_B (ev_isT hA0 (ea_cons (ev_var rfl) (ea_cons ev_c ea_nil)) (.ty "bool") (by decide))) (fun hb => et_B (ev_isT hB0 (ea_cons (ev_var rfl) (ea_cons ev_c ea_nil)) (.ty "bool") (by decide)))))) rfl) (fun _ => ?_) (fun hb => by cases hb)
      exact r_ret (v := .bl true) (ev_is (ev_andV (ev_op (ev_var rfl) (ev_var rfl) (rv_eq rfl)) (fun hb => ev_op (ev_isT hA0 (ea_cons (ev_var rfl) (ea_cons ev_c ea_nil)) (.ty "bool") (by decide)) (ev_isT hB0 (ea_cons (ev_var rfl) (ea_cons ev_c ea_nil)) (.ty "bool") (by decide)) (rv_eq rfl))) (by simp)) (fun H1 e1 => q H1 e1)
    | int _ =>
      have hB0 := hB
      have hA0 := hA
      cases hA
      cases hB
      refine r_when (b := false) (et_is (et_or (et_test (ev_op (ev_var rfl) ev_c rv_isN)) (fun hb => et_or (et_test (ev_op (ev_var rfl) ev_c rv_isN)) (fun hb => et_or (et_B (ev_isT hA0 (ea_cons (ev_var rfl) (ea_cons ev_c ea_nil)) (.ty "bool") (by decide))) (fun hb => et_B (ev_isT hB0 (ea_cons (ev_var rfl) (ea_cons ev_c ea_nil)) (.ty "bool") (by decide)))))) rfl) (fun hb => by cases hb) (fun _ => ?_)
      exact r_ret (v := .bl true) (ev_is (ev_andV (ev_op (ev_isT hA0 (ea_cons (ev_var rfl) (ea_cons ev_c ea_nil)) (.ty "str") (by decide)) (ev_isT hB0 (ea_cons (ev_var rfl) (ea_cons ev_c ea_nil)) (.ty "str") (by decide)) (rv_eq rfl)) (fun hb => ev_op (ev_var rfl) (ev_var rfl) (rv_eq rfl))) (by simp)) (fun H1 e1 => q H1 e1)
    | str _ _ =>
      have hB0 := hB
      have hA0 := hA
      cases hA
      cases hB
      refine r_when (b := false) (et_is (et_or (et_test (ev_op (ev_var rfl) ev_c rv_isN)) (fun hb => et_or (et_test (ev_op (ev_var rfl) ev_c rv_isN)) (fun hb => et_or (et_B (ev_isT hA0 (ea_cons (ev_var rfl) (ea_cons ev_c ea_nil)) (.ty "bool") (by decide))) (fun hb => et_B (ev_isT hB0 (ea_cons (ev_var rfl) (ea_cons ev_c ea_nil)) (.ty "bool") (by decide)))))) rfl) (fun hb => by cases hb) (fun _ => ?_)
      exact r_ret (v := .bl true) (ev_is (ev_andV (ev_op (ev_isT hA0 (ea_cons (ev_var rfl) (ea_cons ev_c ea_nil)) (.ty "str") (by decide)) (ev_isT hB0 (ea_cons (ev_var rfl) (ea_cons ev_c ea_nil)) (.ty "str") (by decide)) (rv_eq rfl)) (fun hb => ev_op (ev_var rfl) (ev_var rfl) (rv_eq rfl))) (by simp)) (fun H1 e1 => q H1 e1)

/-! drawn answers -/
theorem ev_intB {σ : L2.St} {B : Hp} {ta : TE} {b : Bool} (ha : Ev ta σ B (.bl b)) : Ev (tCB (fun xs H Q => (∃ i, xs = [V.int i] ∧ Q (.int i) H) ∨ ∃ k, xs = [.bl k] ∧ Q (.int (if k then 1 else 0)) H) (tCons ta tNil)) σ B (.int (if b then 1 else 0)) := fun H1 e Q q => ha H1 e _ fun H2 e2 => .inr ⟨b, rfl, q H2 e2⟩
theorem ev_isC {C a dx : Addr} {fs : List (Str × V)} {σ : L2.St} {B : Hp} {as : TA} (h : EvA as σ B [.ref a, .ref C]) (hx : B a = some (.ins C dx fs)) : Ev (tCB (fun xs H Q => ∃ a dx fs, xs = [.ref a, .ref C] ∧ H a = some (.ins C dx fs) ∧ Q (.bl true) H) as) σ B (.bl true) := fun H1 e Q q => h H1 e _ fun H2 e2 => ⟨a, dx, fs, rfl, (e.trans e2) _ _ hx, q H2 e2⟩
theorem ed_ef {σ : L2.St} {B : Hp} {te : TE} {d : PyData} (h : EvF K te σ B d) (hd : ∀ H v, Dq K H v d → Dp K H v d) : EvD K te σ B d := fun H1 e Q q => h H1 e _ fun v H2 N e2 eN _ hv => q v H2 e2 (hd _ _ (dq_ex eN _ _ hv))
theorem es_catT {Y : Ys} {σ : L2.St} {B : Hp} {ta tb : TE} {F Fa : V → Hp → Prop} (ha : ES Y ta σ B Fa) (hb : ∀ x N, Ex B N → Fa x N → ES Y tb σ N fun y N2 => ∃ a b xs ys, x = .ref a ∧ y = .ref b ∧ N2 a = some (.tup xs) ∧ N2 b = some (.tup ys) ∧ xs ≠ [] ∧ xs.length + ys.length ≤ 100000 ∧ ∀ p N3, Ex N2 N3 → N3 p = some (.tup (xs ++ ys)) → F (.ref p) N3) : ES Y (tOp (rCatA K) ta tb) σ B F := fun H1 e Q q =>
  ha H1 e _ fun x N H2 f1 a1 b1 c1 => hb x N f1.ex c1 H2 a1 _ fun y N2 H3 f2 a2 b2 ⟨a, b, xs, ys, hx, hy, h1, h2, n1, hz, hF⟩ => by
    subst hx hy
    refine ⟨a, b, xs, ys, rfl, rfl, st_of (a2.sub a _ h1), st_of (a2.sub b _ h2), sz_of hz, fun z => absurd z n1, fun _ z => ?_, fun _ _ => es_alloc e (f1.trans e.st b1 f2) a2 (HY.trans b1 b2) (fun p hp => hF p _ (Ex.new hp) upd_same) q⟩
    subst z
    exact q (.ref a) N2 H3 (f1.trans e.st b1 f2) a2 (HY.trans b1 b2) (hF a N2 (Ex.refl _) (by rw [List.append_nil]; exact h1))
def preFa (K : PySem.W.Frag) (n : Nat) (Y : Ys) (vs : List V) (B : Hp) (F : V → Hp → Prop) : Prop := ∃ (ps ss : Addr) (m : Nat), Stl K Y ps ss B ∧ vs = [.ref ps, .ref ss, .int (m : Int)] ∧ m < n ∧ F = Dt K (Jt m)
def spFa (K : PySem.W.Frag) (n : Nat) : Sp := PY (preFa K n)
/-- a tuple of things drawn -/
theorem es_tupJ {Y : Ys} {σ : L2.St} {B : Hp} {ps ss : Addr} {te : TE} {j k : Nat} {ws : List Nat} {m : Nat} {ta tb tc : TE} (hs : Stl K Y ps ss B) (h1 : Ev ta σ B (.ref ps)) (h2 : Ev tb σ B (.ref ss)) (h3 : Ev tc σ B (.int (k : Int))) (hk : 0 < k) (hk6 : k ≤ 6) (hw : ∀ x, wipe ((wipe σ ws).set j (some x)) ws = wipe σ ws)
    (he : ∀ x N, Ex B N → ES Y te ((wipe σ ws).set j (some x)) N (Dt K (Jt m))) : ES Y (tCB (fun xs H Q => ∃ p ys, xs = [.ref p] ∧ ((SqL K H p ys ∧ ∀ l, H l = none → Q (.ref l) (upd H l (.tup ys))) ∨ (SqT K H p ys ∧ Q (.ref p) H))) (tCons (tLc (iRng1 (tCons (tCall (spDrw K) [] E0 (tCons ta (tCons tb (tCons tc tNil)))) tNil)) (gName j) tYes te ws) tNil)) σ B
      fun v N => ∃ (b : Addr) (ys : List V) (es : List PyData), v = .ref b ∧ N b = some (.tup ys) ∧ DqA K N ys es ∧ (∀ d ∈ es, Jt m d) ∧ es.length < k :=
  es_tupleS (es_lc (fun xs i => Dt K (Jt m)) (eis_range1 (Fn := fun _ _ => True) (G := fun xs N => xs.length < k) (esa_cons (Fa := nextF (k : Int)) (es_drw hs h1 h2 h3 (by omega) (by omega)) (fun x N e ⟨r, hx, n0, n1⟩ => by
      subst hx
      exact esa_nil ⟨r, rfl, by omega, by omega, by rw [List.length_map, List.length_range]; omega⟩))) (fun xs N hG => by omega) hw
    (fun xs N e hG i x hx N2 e2 => he x N2 (e.trans e2)) (fun xs i v N N' e ⟨d, h1, h2⟩ => ⟨d, dq_ex e _ _ h1, h2⟩)
    (fun xs N0 ys N p e0 hG e1 hl hy np => by
      obtain ⟨ds, h1, h2, h3⟩ := dqa_of (K := K) (H := N) (ys := ys) (Pd := fun _ d => Jt m d) (k := 0) fun i y h => hy i y h
      exact ⟨p, ys, rfl, upd_same, fun q hq => ⟨q, ys, ds, rfl, upd_same, dqa_ex ((Ex.new np).trans (Ex.new hq)) _ _ h1, fun d hd => by
        obtain ⟨i, hi⟩ := List.mem_iff_getElem?.mp hd
        exact h3 i d hi, by omega⟩⟩))
theorem ok_fact (D : Def K mg "_law_fact" s__law_fact ["state", "script", "depth"]) (T : Tx K w mg J) (c__law_draw : Cal CX0 P w K mg base 2 "_law_draw" (spDrw K)) (c__law_text : Cal CX0 P w K mg base 4 "_law_text" (spTxt K)) : ∀ n, Cal CX0 P w K mg base (4 + n) "_law_fact" (spFa K n)
  | 0 => calY D sc__law_fact (fun Y vs B F h => by
      obtain ⟨_, _, _, _, rfl, _⟩ := h
      rfl) (fun f cdv A outer s H Y vs B F Q E hr h O hO g => by
      obtain ⟨_, _, _, _, _, hm, _⟩ := h
      exact absurd hm (Nat.not_lt_zero _))
  | n + 1 => by
    have c__law_fact := ok_fact D T c__law_draw c__law_text n
    have e : 4 + (n + 1) = (4 + n) + 1 := by omega
    rw [e]
    refine calY D sc__law_fact (fun Y vs B F h => ?_) (fun f cdv A outer s H Y vs B F Q E hr h O hO g => ?_)
    · obtain ⟨_, _, _, _, rfl, _⟩ := h
      rfl
    obtain ⟨ps, ss, m, hs, rfl, hm, rfl⟩ := h
    have hB0 : Ex O.B0 B := by rw [hO]; exact Ex.refl _
    refine ⟨_, (pss_cons (ps_set (i := 3) sc__law_fact.nd rfl (.inl rfl) (pe_c c__law_draw hr (by omega) (by rfl) (pa_cons (pv 0) (pa_cons (pv 1) (pa_cons (pe_op op_add pe_int (pe_op op_mul pe_int (pe_callTy call_int1 (by rfl) T.z_int (by decide +kernel) (pa_cons (pe_cmpR op_gt (pv 2) pe_int (nomark _)) pa_nil)))) pa_nil)))))
      (pss_cons (ps_if (pt_cmpR op_eq (pv 3) pe_int (nomark _))
        (pss_cons (ps_ret pe_non) pss_nil)
        pss_nil)
      (pss_cons (ps_if (pt_cmpR op_eq (pv 3) pe_int (nomark _))
        (pss_cons (ps_ret (pe_cmpR op_eq (pe_c c__law_draw hr (by omega) (by rfl) (pa_cons (pv 0) (pa_cons (pv 1) (pa_cons pe_int pa_nil)))) pe_int (nomark _))) pss_nil)
        pss_nil)
      (pss_cons (ps_if (pt_cmpR op_le (pv 3) pe_int (nomark _))
        (pss_cons (ps_ret (pe_ix ix_list (pe_lst (pa_cons pe_int (pa_cons pe_int (pa_cons pe_int (pa_cons (pe_un un_neg pe_int) (pa_cons pe_int pa_nil)))))) (pe_c c__law_draw hr (by omega) (by rfl) (pa_cons (pv 0) (pa_cons (pv 1) (pa_cons pe_int pa_nil)))) (fun _ _ => rfl))) pss_nil)
        pss_nil)
      (pss_cons (ps_if (pt_cmpR op_le (pv 3) pe_int (nomark _))
        (pss_cons (ps_ret (pe_c c__law_text hr (by omega) (by rfl) (pa_cons (pv 0) (pa_cons (pv 1) (pa_cons pe_int (pa_cons pe_int pa_nil)))))) pss_nil)
        pss_nil)
      (pss_cons (ps_ret (pe_callTy call_tuple_of (by rfl) T.z_tuple (by decide +kernel) (pa_cons (pe_lc (own := [("k", 4)]) (g := gName 4) (tt := tYes) rfl sc__law_fact.nd (pi_range1 rfl T.z_range (pa_cons (pe_c c__law_draw hr (by omega) (by rfl) (pa_cons (pv 0) (pa_cons (pv 1) (pa_cons pe_int pa_nil)))) pa_nil)) (blkOk_by (N := ["state", "script", "depth", "kind", "k"]) (sc := defScope s__law_fact) (by decide +kernel)) (fun _ _ _ _ _ => (pg_name (i := 4) sc__law_fact.nd rfl (.inl rfl))) (fun _ _ _ _ _ => pts_nil) (fun _ _ _ _ _ => (pe_c c__law_fact hr (by omega) (by rfl) (pa_cons (pv 0) (pa_cons (pv 1) (pa_cons (pe_op op_sub (pv 2) pe_int) pa_nil)))))) pa_nil))) pss_nil)))))), ?_⟩
    refine b_drw hB0 hs (ev_var rfl) (ev_var rfl) (ev_op ev_c (ev_op ev_c (ev_intB (ev_op (ev_var rfl) ev_c rv_cmp)) (rv_arC (.inl ⟨by decide, by decide⟩))) rv_ar) (by split <;> decide) (fun r r0 r1 => ?_) (by split <;> decide)
    refine s_whenP (et_test (ev_op (ev_var rfl) ev_c (rv_eq rfl))) (fun _ => ?_) (fun hb0 => ?_)
    · exact FK.s_ret (es_ev (F := Dt K (Jt m)) ev_c ⟨.none, .non, .non⟩) (fun v N e hv H2 A2 => g v N H2 A2 hv)
    refine s_whenP (et_test (ev_op (ev_var rfl) ev_c (rv_eq rfl))) (fun _ => ?_) (fun hb1 => ?_)
    · exact FK.s_ret (F := Dt K (Jt m)) (es_op (es_drw hs (ev_var rfl) (ev_var rfl) ev_c (by decide)) (fun x N e ⟨r, hx, _, _⟩ => by
        subst hx
        exact es_ev ev_c ⟨_, rv_eq rfl, .bool _, .bl _, .bl _⟩)) (fun v N e hv H2 A2 => g v N H2 A2 hv)
    refine s_whenP (et_test (ev_op (ev_var rfl) ev_c rv_cmp)) (fun _ => ?_) (fun hb3 => ?_)
    · refine FK.s_ret (F := Dt K (Jt m)) (es_op (es_new (F := fun v N => ∃ p, v = .ref p ∧ N p = some (.lst [.int 0, .int 1, .int 7, .int (-1), .int 999999999999999])) (en_lst (ea_cons ev_c (ea_cons ev_c (ea_cons ev_c (ea_cons (ev_un ev_c ru_neg) (ea_cons ev_c ea_nil))))) (show 5 ≤ 100000 by decide)) (fun p np => ⟨p, rfl, upd_same⟩)) (fun x N e ⟨p, hx, hp⟩ => by
        subst hx
        refine ES.imp (es_drw (hs.mono e) (ev_var rfl) (ev_var rfl) ev_c (by decide)) (fun y N2 e2 ⟨r, hy, r0, r1⟩ => ?_)
        subst hy
        have h4 : r = 0 ∨ r = 1 ∨ r = 2 ∨ r = 3 ∨ r = 4 := by omega
        have hL := sq_of (K := K) (e2 p _ hp)
        rcases h4 with rfl | rfl | rfl | rfl | rfl
        · exact ⟨_, rv_ixL hL rfl, _, .int _, .int (by decide)⟩
        · exact ⟨_, rv_ixL hL rfl, _, .int _, .int (by decide)⟩
        · exact ⟨_, rv_ixL hL rfl, _, .int _, .int (by decide)⟩
        · exact ⟨_, rv_ixL hL rfl, _, .int _, .int (by decide)⟩
        · exact ⟨_, rv_ixL hL rfl, _, .int _, .int (by decide)⟩)) (fun v N e hv H2 A2 => g v N H2 A2 hv)
    refine s_whenP (et_test (ev_op (ev_var rfl) ev_c rv_cmp)) (fun _ => ?_) (fun hb5 => ?_)
    · exact FK.s_ret (ES.imp (es_pyA (ea_cons (ev_var rfl) (ea_cons (ev_var rfl) (ea_cons ev_c (ea_cons ev_c ea_nil)))) ⟨ps, ss, 0, 6, hs, rfl, by decide, by decide, rfl⟩) (fun v N e ⟨t, hv, ht, _, hl⟩ => show Dt K (Jt m) v N from ⟨.str (SX.S t), by rw [hv]; exact .str _, .str (List.all_eq_true.mpr fun c hc => cd_of (ht c hc)) (by omega)⟩)) (fun v N e hv H2 A2 => g v N H2 A2 hv)
    have hm0 : m ≠ 0 := fun z => by
      subst z
      simp at hb5 r1
      omega
    obtain ⟨m, rfl⟩ : ∃ k, m = k + 1 := ⟨m - 1, by omega⟩
    refine FK.s_ret (F := Dt K (Jt (m + 1))) (ES.imp (es_tupJ (k := 4) hs (ev_var rfl) (ev_var rfl) ev_c (by decide) (by decide) (fun _ => rfl) (fun x N e => es_pyA (ea_cons (ev_var rfl) (ea_cons (ev_var rfl) (ea_cons (ev_op (ev_var rfl) ev_c rv_ar) ea_nil))) ⟨ps, ss, m, hs.mono e, by
        show [V.ref ps, V.ref ss, V.int (((m + 1 : Nat) : Int) - 1)] ++ [] = _
        rw [show ((m + 1 : Nat) : Int) - 1 = (m : Int) by omega]
        rfl, by omega, rfl⟩)) (fun v N e ⟨b, ys, es, hv, hb, hD, hJ, hl⟩ => ⟨.tuple es, by rw [hv]; exact .tup hb hD, .tup hJ (by omega)⟩)) (fun v N e hv H2 A2 => g v N H2 A2 hv)
def HD : PyData := .tuple [.tuple [.str "content-type", .str "application/json"]]
theorem hd_shaped : HD.canLay0 = true ∧ SeqAt.shaped HD = true := by decide +kernel
theorem jt_self {n : Nat} {d : PyData} (h : Jt n d) : PyData.eqv (wl d) (wl d) = true := SeqAt.eqv_refl _ (jt_lay h).2.1
def spLaw (K : PySem.W.Frag) : Sp := PV fun vs H z => ∃ (a : Addr) (ns : List Int), vs = [.ref a] ∧ SqL K H a (ns.map V.int) ∧ ns.length ≤ 63 ∧ z = .bl true
set_option maxHeartbeats 1000000 in
theorem ok_law {CA : Addr} {f : Addr} {fd : FuncData} (F : Fun K "law" "law" s_law f fd) (T : Tx K w mg J) (Z : C8.InsC K CA) (R0 : AnC K CA) (hgA : ∃ u, mg "Answer" = some u ∧ RelV (.ref CA) u) (c__law_draw : Cal CX0 P w K mg base 2 "_law_draw" (spDrw K)) (c__law_fact : Cal CX0 P w K mg base 7 "_law_fact" (spFa K 3)) (c_answer_octets : CalX P w K mg base 7 "answer_octets" (spM mg (preAO (K := K) CA J.aH)))
    (c_parse_json : CalX P w K mg base 73 "parse_json" (spM mg (preParse (K := K)))) (c_decode_text : CalX P w K mg base 3 "decode_text" (spDec K mg)) (c__law_listed : Cal CX0 P w K mg base 5 "_law_listed" (spWL2 K 4)) (c_told_answer : CalX P w K mg base 75 "told_answer" (PF K (preTA CA))) (c__law_alike : Cal CX0 P w K mg base 5 "_law_alike" (spAl2 K 4)) : FnOk P w K mg base CX0 76 f fd ["script"] (spLaw K) := by
  refine F.ok sc_law (fun vs H Q E h => ?_) (fun cdv A outer s H vs Q E hr h => ?_)
  · obtain ⟨_, ⟨a, ns, rfl, _⟩, _⟩ := h
    rfl
  obtain ⟨_, ⟨ss, ns, rfl, hS, hl, rfl⟩, q⟩ := h
  refine ⟨_, (pss_cons (ps_set (i := 1) sc_law.nd rfl (.inr rfl) (pe_lst (pa_cons pe_int (pa_cons pe_int pa_nil))))
    (pss_cons (ps_set (i := 2) sc_law.nd rfl (.inl rfl) (pe_lst (pa_cons pe_str (pa_cons pe_str (pa_cons pe_str (pa_cons pe_str (pa_cons pe_str (pa_cons pe_str (pa_cons pe_str (pa_cons pe_str (pa_cons pe_str (pa_cons pe_str (pa_cons pe_str (pa_cons pe_str (pa_cons pe_str (pa_cons pe_str pa_nil))))))))))))))))
    (pss_cons (ps_set (i := 3) sc_law.nd rfl (.inl rfl) pe_int)
    (pss_cons (ps_set (i := 4) sc_law.nd rfl (.inl rfl) (pe_tup (pa_cons pe_str pa_nil)))
    (pss_cons (ps_if (pt_cmpR op_ge (pe_c c__law_draw hr (by decide) (by rfl) (pa_cons (pv 1) (pa_cons (pv 0) (pa_cons pe_int pa_nil)))) pe_int (nomark _))
      (pss_cons (ps_set (i := 5) sc_law.nd rfl (.inl rfl) (pe_c c__law_draw hr (by decide) (by rfl) (pa_cons (pv 1) (pa_cons (pv 0) (pa_cons pe_int pa_nil)))))
      (pss_cons (ps_set (i := 4) sc_law.nd rfl (.inl rfl) (pe_tup (pa_cons pe_str (pa_cons (pe_ix ix_list (pv 2) (pv 5) (fun _ _ => rfl)) pa_nil))))
      (pss_cons (ps_set (i := 3) sc_law.nd rfl (.inl rfl) (pe_ix ix_list (pe_lst (pa_cons pe_int (pa_cons pe_int (pa_cons pe_int (pa_cons pe_int (pa_cons pe_int (pa_cons pe_int (pa_cons pe_int (pa_cons pe_int (pa_cons pe_int (pa_cons pe_int (pa_cons pe_int (pa_cons pe_int (pa_cons pe_int (pa_cons pe_int pa_nil))))))))))))))) (pv 5) (fun _ _ => rfl))) pss_nil)))
      pss_nil)
    (pss_cons (ps_set (i := 4) sc_law.nd rfl (.inl rfl) (pe_op op_catA (pv 4) (pe_callTy call_tuple_of (by rfl) T.z_tuple (by decide +kernel) (pa_cons (pe_lc (own := [("k", 5)]) (g := gName 5) (tt := tYes) rfl sc_law.nd (pi_range1 rfl T.z_range (pa_cons (pe_c c__law_draw hr (by decide) (by rfl) (pa_cons (pv 1) (pa_cons (pv 0) (pa_cons pe_int pa_nil)))) pa_nil)) (blkOk_by (N := ["script", "state", "reasons", "status", "answer", "k", "message"]) (sc := defScope s_law) (by decide +kernel)) (fun _ _ _ _ _ => (pg_name (i := 5) sc_law.nd rfl (.inl rfl))) (fun _ _ _ _ _ => pts_nil) (fun _ _ _ _ _ => (pe_c c__law_fact hr (by decide) (by rfl) (pa_cons (pv 1) (pa_cons (pv 0) (pa_cons pe_int pa_nil)))))) pa_nil))))
    (pss_cons (ps_set (i := 6) sc_law.nd rfl (.inl rfl) (pe_cX c_answer_octets takes0 hr (by decide) (by rfl) (pa_cons (pv 4) pa_nil)))
    (pss_cons (ps_if (pw_or (pt_not (pt_val (pe_callB (C8.call_isC Z) (by rfl) T.z_isinstance (by decide +kernel) (pa_cons (pv 6) (pa_cons (pe_gc (by rfl) hgA) pa_nil))))) (pw_or (pt_cmpR op_ne (pe_fld (pv 6) rfl) (pv 3) (nomark _)) (pw_or1 (pt_cmpR (op_neD (hu64 hr)) (pe_fld (pv 6) rfl) (pe_tup (pa_cons (pe_tup (pa_cons pe_str (pa_cons pe_str pa_nil))) pa_nil)) (nomark _))))).pt
      (pss_cons (ps_ret pe_bl) pss_nil)
      pss_nil)
    (pss_cons (ps_if (pt_cmpR (op_neD (hu64 hr)) (pe_cX c_parse_json takes0 hr (by decide) (by rfl) (pa_cons (pe_cX c_decode_text takes0 hr (by decide) (by rfl) (pa_cons (pe_fld (pv 6) rfl) pa_nil)) pa_nil)) (pe_c c__law_listed hr (by decide) (by rfl) (pa_cons (pv 4) pa_nil)) (nomark _))
      (pss_cons (ps_ret pe_bl) pss_nil)
      pss_nil)
    (pss_cons (ps_ret (pe_c c__law_alike hr (by decide) (by rfl) (pa_cons (pv 4) (pa_cons (pe_cX c_told_answer takes0 hr (by decide) (by rfl) (pa_cons (pv 6) pa_nil)) pa_nil)))) pss_nil)))))))))), R.go ?_⟩
  refine r_asgN (en_lst (ea_cons ev_c (ea_cons ev_c ea_nil)) (show 2 ≤ 100000 by decide)) (fun ps nps => ?_)
  refine r_enterL (ps := ps) (k := 0) (r := 0) upd_same (fun O hO => ?_)
  rw [del_upd nps] at hO ⊢
  have hs : Stl K { st := some ps, sh := shL } ps ss H := ⟨rfl, rfl, ns, hS, by omega⟩
  refine FK.s_new (en_lst (vs := RSN.map fun p => V.str (SX.S p.1)) (ea_cons (ev_lit _ rfl) (ea_cons (ev_lit _ rfl) (ea_cons (ev_lit _ rfl) (ea_cons (ev_lit _ rfl) (ea_cons (ev_lit _ rfl) (ea_cons (ev_lit _ rfl) (ea_cons (ev_lit _ rfl) (ea_cons (ev_lit _ rfl) (ea_cons (ev_lit _ rfl) (ea_cons (ev_lit _ rfl) (ea_cons (ev_lit _ rfl) (ea_cons (ev_lit _ rfl) (ea_cons (ev_lit _ rfl) (ea_cons (ev_lit _ rfl) ea_nil)))))))))))))) (show 14 ≤ 100000 by decide)) (fun pr npr => ?_)
  have e1 := Ex.new (o := .lst (RSN.map fun p => V.str (SX.S p.1))) npr
  have hpr : upd H pr (.lst (RSN.map fun p => V.str (SX.S p.1))) pr = some (.lst (RSN.map fun p => V.str (SX.S p.1))) := upd_same
  generalize upd H pr (.lst (RSN.map fun p => V.str (SX.S p.1))) = B1 at e1 hpr ⊢
  refine FK.s_set ev_c ?_
  refine FK.s_new (en_tup (ea_cons (ev_lit DN rfl) ea_nil) (show 1 ≤ 100000 by decide)) (fun pa npa => ?_)
  have e2 := Ex.new (o := .tup [V.str (SX.S DN)]) npa
  have hpa : upd B1 pa (.tup [V.str (SX.S DN)]) pa = some (.tup [V.str (SX.S DN)]) := upd_same
  have hpr := e2 _ _ hpr
  have e12 := e1.trans e2
  generalize upd B1 pa (.tup [V.str (SX.S DN)]) = B2 at e12 hpa hpr ⊢
  refine FK.s_whenK (Ft := fun _ _ => True) (fun σ' B' => ∃ (pa : Addr) (i : Int) (us : List V) (ds : List PyData) (y5 : Option V), σ' = [some (.ref ss), some (.ref ps), some (.ref pr), some (.int i), some (.ref pa), y5, none] ∧ Ex H B' ∧ B' pa = some (.tup us) ∧ us ≠ [] ∧ DqA K B' us ds ∧ (∀ d ∈ ds, Jt 2 d) ∧ ds.length ≤ 2 ∧ ∀ es, StA (.tuple (ds ++ es)) i)
    (est_test (es_op (es_drw (hs.mono e12) (ev_var rfl) (ev_var rfl) ev_c (by decide)) (fun x N e ⟨r, hx, _, _⟩ => by
      subst hx
      exact es_ev ev_c ⟨_, rv_cmp, _, rfl, trivial⟩))) (fun σ' B' hM => ?_) (fun kk N e _ => ?_) (fun N e _ => ⟨pa, 200, _, [.str (SX.S DN)], none, rfl, e12.trans e, e _ _ hpa, by simp, .cons (.str _) .nil, fun d hd => by
        rw [List.mem_singleton.mp hd]
        exact .str (by decide) (by decide), by decide, fun es => .done⟩)
  rotate_left
  · refine FK.s_asg (es_drw ((hs.mono e12).mono e) (ev_var rfl) (ev_var rfl) ev_c (by decide)) (fun v N2 eN ⟨k, hk, k0, k1⟩ => ?_)
    subst hk
    obtain ⟨a, rfl⟩ := Int.eq_ofNat_of_zero_le k0
    have ha : a < RSN.length := by show a < 14; omega
    have hpr2 := eN _ _ (e _ _ hpr)
    obtain ⟨g1, g2, g3⟩ := rsn_ok _ (List.getElem_mem ha)
    refine FK.s_new (en_tup (ea_cons (ev_lit RF rfl) (ea_cons (ev_op (ev_var rfl) (ev_var rfl) (rv_ixL (v := .str (SX.S RSN[a].1)) (sq_of hpr2) (atI_nat (j := a) (by
      rw [List.getElem?_map, List.getElem?_eq_getElem ha]
      rfl)))) ea_nil)) (show 2 ≤ 100000 by decide)) (fun pb npb => ?_)
    refine FK.s_set (v := .int RSN[a].2) (ev_ixN (en_lst (vs := RSN.map fun p => V.int p.2) (ea_cons ev_c (ea_cons ev_c (ea_cons ev_c (ea_cons ev_c (ea_cons ev_c (ea_cons ev_c (ea_cons ev_c (ea_cons ev_c (ea_cons ev_c (ea_cons ev_c (ea_cons ev_c (ea_cons ev_c (ea_cons ev_c (ea_cons ev_c ea_nil)))))))))))))) (show 14 ≤ 100000 by decide)) (fun _ _ => ev_var rfl) (atI_nat (j := a) (by
      rw [List.getElem?_map, List.getElem?_eq_getElem ha]
      rfl))) (FK.s_on (kk _ _ ⟨pb, RSN[a].2, _, [.str (SX.S RF), .str (SX.S RSN[a].1)], _, rfl, ((e12.trans e).trans eN).trans (Ex.new npb), upd_same, by simp, .cons (.str _) (.cons (.str _) .nil), fun d hd => ?_, Nat.le_refl 2, fun es => ?_⟩))
    · rcases List.mem_cons.mp hd with rfl | hd
      · exact .str (by decide) (by decide)
      · rw [List.mem_singleton.mp hd]
        exact .str g2 g3
    · rw [← g1]
      exact .ref
  obtain ⟨pa, i, us, ds, y5, rfl, eB, hpa, hne, hD, hJ, hdl, hst⟩ := hM
  have hul := dqa_len hD
  refine FK.s_asg (F := fun v N => ∃ d, Dq K N v d ∧ Jt 3 d ∧ StA d i) (es_catT (es_ev (F := fun v _ => v = .ref pa) (ev_var rfl) rfl) (fun x N e hx => by
    subst hx
    exact ES.imp (es_tupJ (k := 5) (m := 2) ((hs.mono eB).mono e) (ev_var rfl) (ev_var rfl) ev_c (by decide) (by decide) (fun _ => rfl) (fun x N2 e2 => es_pyA (ea_cons (ev_var rfl) (ea_cons (ev_var rfl) (ea_cons ev_c ea_nil))) ⟨ps, ss, 2, ((hs.mono eB).mono e).mono e2, rfl, by decide, rfl⟩)) (fun y N2 e2 ⟨b, ys, es, hy, hb, hDe, hJe, hle⟩ => by
      have hyl := dqa_len hDe
      exact ⟨pa, b, us, ys, rfl, hy, (e.trans e2) _ _ hpa, hb, hne, by omega, fun p N3 e3 hp => ⟨.tuple (ds ++ es), .tup hp (dqa_app (dqa_ex ((e.trans e2).trans e3) _ _ hD) (dqa_ex e3 _ _ hDe)), .tup (fun d hd => by
        rcases List.mem_append.mp hd with hd | hd
        · exact hJ d hd
        · exact hJe d hd) (by rw [List.length_append]; omega), hst es⟩⟩))) (fun v N e ⟨d, hd, hJd, hA⟩ => ?_)
  refine s_leave (fun H5 A5 => ?_)
  have eH5 : Ex H H5 := by
    have := A5.old
    rwa [hO] at this
  have hd5 := dq_ex A5.hy.sub _ _ hd
  refine r_asgM (em_c (Φ := fun u H' => Ex H5 H' ∧ ∃ (x dx b : Addr), u = .ref x ∧ H' x = some (.ins CA dx (anF i J.aH b)) ∧ H' b = some (codO (wX (wl d)))) (ea_cons (ev_var rfl) ea_nil) (fun H2 e2 => ⟨_, ⟨v, d, i, rfl, dq_ex e2 _ _ hd5, hJd, hA, rfl⟩, fun u H' h => ⟨e2.trans h.1, h.2⟩⟩)) (fun u B6 ⟨e6, x, dx, b, hu, hx, hb⟩ => ?_)
  subst hu
  have hd6 := dq_ex e6 _ _ hd5
  have hH : Dp K B6 (.ref J.aH) HD := .tup (T.t_HEADERS B6) (.cons (.tup (T.t_H0 B6) (.cons (.str _) (.cons (.str _) .nil))) .nil)
  refine r_when (b := false) (et_is (et_or (et_not (et_B (ev_isC (ea_cons (ev_var rfl) (ea_cons ev_c ea_nil)) hx))) (fun _ => et_or (et_test (ev_op (ev_fld (ev_var rfl) hx R0.c R0.nS an_st) (ev_var rfl) (rv_ne rfl))) (fun _ => et_test (ev_neD (d := HD) (e := HD) (ed_ev (ev_fld (ev_var rfl) hx R0.c R0.nH an_hd) hH) (ed_ef (ef_tup (efa_cons (ef_tup (efa_cons (ef_ev ev_c (.str _)) (efa_cons (ef_ev ev_c (.str _)) efa_nil)) (by decide)) efa_nil) (by decide)) (fun H v h => by
    cases h with
    | tup h1 h2 =>
    cases h2 with
    | cons h3 h4 =>
    cases h4
    cases h3 with
    | tup h5 h6 =>
    cases h6 with
    | cons h7 h8 =>
    cases h8 with
    | cons h9 h10 =>
    cases h10
    cases h7
    cases h9
    exact .tup (st_of h1) (.cons (.tup (st_of h5) (.cons (.str _) (.cons (.str _) .nil))) .nil))) hd_shaped.2 hd_shaped.2)))) (by
    rw [SeqAt.eqv_refl _ hd_shaped.1]
    simp)) (fun hb => by cases hb) (fun _ => ?_)
  have hsh := shaped_of (jt_lay hJd).2.1 (Nat.le_trans (jt_lay hJd).2.2 (by decide))
  refine r_when (b := false) (et_is (et_test (ev_neD (d := wl d) (e := wl d) (ed_ef (ef_back (ev_fld (ev_var rfl) hx R0.c R0.nB an_bd) (sq_of hb) hJd) (fun H v => (jt_dp hJd).2 v)) (ed_ef (ef_pf (ea_cons (ev_var rfl) ea_nil) (fun H2 e2 => ⟨v, d, 3, rfl, dq_ex e2 _ _ hd6, hJd, by decide, rfl⟩)) (fun H v => (jt_dp hJd).2 v)) hsh hsh)) (by
    rw [jt_self hJd]
    rfl)) (fun hb => by cases hb) (fun _ => ?_)
  exact r_ret (v := .bl true) (ev_pvA (eap_v (ev_var rfl) (eap_f (ef_pfX (ea_cons (ev_var rfl) ea_nil) (fun H2 e2 => ⟨x, dx, J.aH, b, i, rfl, e2 _ _ hx, e2 _ _ hb, hJd⟩)) eap_nil)) (fun vs H2 e2 ⟨r1, h1, u, r2, h2, hu, h3⟩ => by
    subst h1 h2 h3
    exact ⟨v, u, d, 3, rfl, dq_ex e2 _ _ hd6, hu, hJd, by decide, rfl⟩)) (fun H1 e1 => q H1 (eH5.trans (e6.trans e1)))

end
set_option maxHeartbeats 8000000 in
theorem all_mk {l : PySem.W.OpenLaw} {w : World} {K : PySem.W.Frag} {h : Heap} {mg : Str → Option Value} {fa : Addr} (X : K.In h) (G : h.Ns mainGlobals mg) (hfa : mg "law" = some (.ref fa))
    {w0 w1 w2 : Addr} {ow0 ow1 ow2 : Option Addr} {iw0 iw1 iw2 : Array Value} {nw0 nw1 nw2 : Nat} {lw0 lw1 lw2 : Array (Option Value)} {aE : Addr} {es : Array DictEntry} {nE : Nat} {aH0 : Addr} {oH0 : Option Addr} {iH0 : Array Value} {nH0 : Nat} {lH0 : Array (Option Value)} {aS : Addr} {sS : Array DictEntry} {nS : Nat}
    {f_is_code : Addr} {od_is_code an_is_code : Option Addr} {sl_is_code : Array (Option Value)} {oc_is_code kV_is_code dc_is_code pm_is_code cd_is_code ct_is_code : Value} (a_is_code : PySem.W.nsIn K mainGlobals "is_code" = some (some (.ref f_is_code))) (l_is_code : K.lookup f_is_code = some ⟨oc_is_code, od_is_code, .func (PySem.W.fnOf "is_code" "is_code" (defArgs s_is_code) (defBody s_is_code) (defScope s_is_code) .none kV_is_code dc_is_code pm_is_code an_is_code cd_is_code ct_is_code), sl_is_code⟩) (c_is_code : PySem.W.codeIn K cd_is_code "is_code" = true) (k_is_code : PySem.W.keepIn K (.ref f_is_code) = true)
    {f_character_of : Addr} {od_character_of an_character_of : Option Addr} {sl_character_of : Array (Option Value)} {oc_character_of kV_character_of dc_character_of pm_character_of cd_character_of ct_character_of : Value} (a_character_of : PySem.W.nsIn K mainGlobals "character_of" = some (some (.ref f_character_of))) (l_character_of : K.lookup f_character_of = some ⟨oc_character_of, od_character_of, .func (PySem.W.fnOf "character_of" "character_of" (defArgs s_character_of) (defBody s_character_of) (defScope s_character_of) .none kV_character_of dc_character_of pm_character_of an_character_of cd_character_of ct_character_of), sl_character_of⟩) (c_character_of : PySem.W.codeIn K cd_character_of "character_of" = true) (k_character_of : PySem.W.keepIn K (.ref f_character_of) = true)
    {f_is_text : Addr} {od_is_text an_is_text : Option Addr} {sl_is_text : Array (Option Value)} {oc_is_text kV_is_text dc_is_text pm_is_text cd_is_text ct_is_text : Value} (a_is_text : PySem.W.nsIn K mainGlobals "is_text" = some (some (.ref f_is_text))) (l_is_text : K.lookup f_is_text = some ⟨oc_is_text, od_is_text, .func (PySem.W.fnOf "is_text" "is_text" (defArgs s_is_text) (defBody s_is_text) (defScope s_is_text) .none kV_is_text dc_is_text pm_is_text an_is_text cd_is_text ct_is_text), sl_is_text⟩) (c_is_text : PySem.W.codeIn K cd_is_text "is_text" = true) (k_is_text : PySem.W.keepIn K (.ref f_is_text) = true)
    {f_encode_text : Addr} {od_encode_text an_encode_text : Option Addr} {sl_encode_text : Array (Option Value)} {oc_encode_text kV_encode_text dc_encode_text pm_encode_text cd_encode_text ct_encode_text : Value} (a_encode_text : PySem.W.nsIn K mainGlobals "encode_text" = some (some (.ref f_encode_text))) (l_encode_text : K.lookup f_encode_text = some ⟨oc_encode_text, od_encode_text, .func (PySem.W.fnOf "encode_text" "encode_text" (defArgs s_encode_text) (defBody s_encode_text) (defScope s_encode_text) .none kV_encode_text dc_encode_text pm_encode_text an_encode_text cd_encode_text ct_encode_text), sl_encode_text⟩) (c_encode_text : PySem.W.codeIn K cd_encode_text "encode_text" = true) (k_encode_text : PySem.W.keepIn K (.ref f_encode_text) = true)
    {f_decode_text : Addr} {od_decode_text an_decode_text : Option Addr} {sl_decode_text : Array (Option Value)} {oc_decode_text kV_decode_text dc_decode_text pm_decode_text cd_decode_text ct_decode_text : Value} (a_decode_text : PySem.W.nsIn K mainGlobals "decode_text" = some (some (.ref f_decode_text))) (l_decode_text : K.lookup f_decode_text = some ⟨oc_decode_text, od_decode_text, .func (PySem.W.fnOf "decode_text" "decode_text" (defArgs s_decode_text) (defBody s_decode_text) (defScope s_decode_text) .none kV_decode_text dc_decode_text pm_decode_text an_decode_text cd_decode_text ct_decode_text), sl_decode_text⟩) (c_decode_text : PySem.W.codeIn K cd_decode_text "decode_text" = true) (k_decode_text : PySem.W.keepIn K (.ref f_decode_text) = true)
    {f_digit_of : Addr} {od_digit_of an_digit_of : Option Addr} {sl_digit_of : Array (Option Value)} {oc_digit_of kV_digit_of dc_digit_of pm_digit_of cd_digit_of ct_digit_of : Value} (a_digit_of : PySem.W.nsIn K mainGlobals "digit_of" = some (some (.ref f_digit_of))) (l_digit_of : K.lookup f_digit_of = some ⟨oc_digit_of, od_digit_of, .func (PySem.W.fnOf "digit_of" "digit_of" (defArgs s_digit_of) (defBody s_digit_of) (defScope s_digit_of) .none kV_digit_of dc_digit_of pm_digit_of an_digit_of cd_digit_of ct_digit_of), sl_digit_of⟩) (c_digit_of : PySem.W.codeIn K cd_digit_of "digit_of" = true) (k_digit_of : PySem.W.keepIn K (.ref f_digit_of) = true)
    {f_parse_json : Addr} {od_parse_json an_parse_json : Option Addr} {sl_parse_json : Array (Option Value)} {oc_parse_json kV_parse_json dc_parse_json pm_parse_json cd_parse_json ct_parse_json : Value} (a_parse_json : PySem.W.nsIn K mainGlobals "parse_json" = some (some (.ref f_parse_json))) (l_parse_json : K.lookup f_parse_json = some ⟨oc_parse_json, od_parse_json, .func (PySem.W.fnOf "parse_json" "parse_json" (defArgs s_parse_json) (defBody s_parse_json) (defScope s_parse_json) .none kV_parse_json dc_parse_json pm_parse_json an_parse_json cd_parse_json ct_parse_json), sl_parse_json⟩) (c_parse_json : PySem.W.codeIn K cd_parse_json "parse_json" = true) (k_parse_json : PySem.W.keepIn K (.ref f_parse_json) = true)
    {f_write_string : Addr} {od_write_string an_write_string : Option Addr} {sl_write_string : Array (Option Value)} {oc_write_string kV_write_string dc_write_string pm_write_string cd_write_string ct_write_string : Value} (a_write_string : PySem.W.nsIn K mainGlobals "write_string" = some (some (.ref f_write_string))) (l_write_string : K.lookup f_write_string = some ⟨oc_write_string, od_write_string, .func (PySem.W.fnOf "write_string" "write_string" (defArgs s_write_string) (defBody s_write_string) (defScope s_write_string) .none kV_write_string dc_write_string pm_write_string an_write_string cd_write_string ct_write_string), sl_write_string⟩) (c_write_string : PySem.W.codeIn K cd_write_string "write_string" = true) (k_write_string : PySem.W.keepIn K (.ref f_write_string) = true)
    {f_write_json : Addr} {od_write_json an_write_json : Option Addr} {sl_write_json : Array (Option Value)} {oc_write_json kV_write_json dc_write_json pm_write_json cd_write_json ct_write_json : Value} (a_write_json : PySem.W.nsIn K mainGlobals "write_json" = some (some (.ref f_write_json))) (l_write_json : K.lookup f_write_json = some ⟨oc_write_json, od_write_json, .func (PySem.W.fnOf "write_json" "write_json" (defArgs s_write_json) (defBody s_write_json) (defScope s_write_json) .none kV_write_json dc_write_json pm_write_json an_write_json cd_write_json ct_write_json), sl_write_json⟩) (c_write_json : PySem.W.codeIn K cd_write_json "write_json" = true) (k_write_json : PySem.W.keepIn K (.ref f_write_json) = true)
    {f_with_lists : Addr} {od_with_lists an_with_lists : Option Addr} {sl_with_lists : Array (Option Value)} {oc_with_lists kV_with_lists dc_with_lists pm_with_lists cd_with_lists ct_with_lists : Value} (a_with_lists : PySem.W.nsIn K mainGlobals "with_lists" = some (some (.ref f_with_lists))) (l_with_lists : K.lookup f_with_lists = some ⟨oc_with_lists, od_with_lists, .func (PySem.W.fnOf "with_lists" "with_lists" (defArgs s_with_lists) (defBody s_with_lists) (defScope s_with_lists) .none kV_with_lists dc_with_lists pm_with_lists an_with_lists cd_with_lists ct_with_lists), sl_with_lists⟩) (c_with_lists : PySem.W.codeIn K cd_with_lists "with_lists" = true) (k_with_lists : PySem.W.keepIn K (.ref f_with_lists) = true)
    {f_with_tuples : Addr} {od_with_tuples an_with_tuples : Option Addr} {sl_with_tuples : Array (Option Value)} {oc_with_tuples kV_with_tuples dc_with_tuples pm_with_tuples cd_with_tuples ct_with_tuples : Value} (a_with_tuples : PySem.W.nsIn K mainGlobals "with_tuples" = some (some (.ref f_with_tuples))) (l_with_tuples : K.lookup f_with_tuples = some ⟨oc_with_tuples, od_with_tuples, .func (PySem.W.fnOf "with_tuples" "with_tuples" (defArgs s_with_tuples) (defBody s_with_tuples) (defScope s_with_tuples) .none kV_with_tuples dc_with_tuples pm_with_tuples an_with_tuples cd_with_tuples ct_with_tuples), sl_with_tuples⟩) (c_with_tuples : PySem.W.codeIn K cd_with_tuples "with_tuples" = true) (k_with_tuples : PySem.W.keepIn K (.ref f_with_tuples) = true)
    {f_written : Addr} {od_written an_written : Option Addr} {sl_written : Array (Option Value)} {oc_written kV_written dc_written pm_written cd_written ct_written : Value} (a_written : PySem.W.nsIn K mainGlobals "written" = some (some (.ref f_written))) (l_written : K.lookup f_written = some ⟨oc_written, od_written, .func (PySem.W.fnOf "written" "written" (defArgs s_written) (defBody s_written) (defScope s_written) .none kV_written dc_written pm_written an_written cd_written ct_written), sl_written⟩) (c_written : PySem.W.codeIn K cd_written "written" = true) (k_written : PySem.W.keepIn K (.ref f_written) = true)
    {f_read_back : Addr} {od_read_back an_read_back : Option Addr} {sl_read_back : Array (Option Value)} {oc_read_back kV_read_back dc_read_back pm_read_back cd_read_back ct_read_back : Value} (a_read_back : PySem.W.nsIn K mainGlobals "read_back" = some (some (.ref f_read_back))) (l_read_back : K.lookup f_read_back = some ⟨oc_read_back, od_read_back, .func (PySem.W.fnOf "read_back" "read_back" (defArgs s_read_back) (defBody s_read_back) (defScope s_read_back) .none kV_read_back dc_read_back pm_read_back an_read_back cd_read_back ct_read_back), sl_read_back⟩) (c_read_back : PySem.W.codeIn K cd_read_back "read_back" = true) (k_read_back : PySem.W.keepIn K (.ref f_read_back) = true)
    {f_status_of : Addr} {od_status_of an_status_of : Option Addr} {sl_status_of : Array (Option Value)} {oc_status_of kV_status_of dc_status_of pm_status_of cd_status_of ct_status_of : Value} (a_status_of : PySem.W.nsIn K mainGlobals "status_of" = some (some (.ref f_status_of))) (l_status_of : K.lookup f_status_of = some ⟨oc_status_of, od_status_of, .func (PySem.W.fnOf "status_of" "status_of" (defArgs s_status_of) (defBody s_status_of) (defScope s_status_of) .none kV_status_of dc_status_of pm_status_of an_status_of cd_status_of ct_status_of), sl_status_of⟩) (c_status_of : PySem.W.codeIn K cd_status_of "status_of" = true) (k_status_of : PySem.W.keepIn K (.ref f_status_of) = true)
    {f_answer_octets : Addr} {od_answer_octets an_answer_octets : Option Addr} {sl_answer_octets : Array (Option Value)} {oc_answer_octets kV_answer_octets dc_answer_octets pm_answer_octets cd_answer_octets ct_answer_octets : Value} (a_answer_octets : PySem.W.nsIn K mainGlobals "answer_octets" = some (some (.ref f_answer_octets))) (l_answer_octets : K.lookup f_answer_octets = some ⟨oc_answer_octets, od_answer_octets, .func (PySem.W.fnOf "answer_octets" "answer_octets" (defArgs s_answer_octets) (defBody s_answer_octets) (defScope s_answer_octets) .none kV_answer_octets dc_answer_octets pm_answer_octets an_answer_octets cd_answer_octets ct_answer_octets), sl_answer_octets⟩) (c_answer_octets : PySem.W.codeIn K cd_answer_octets "answer_octets" = true) (k_answer_octets : PySem.W.keepIn K (.ref f_answer_octets) = true)
    {f_told_answer : Addr} {od_told_answer an_told_answer : Option Addr} {sl_told_answer : Array (Option Value)} {oc_told_answer kV_told_answer dc_told_answer pm_told_answer cd_told_answer ct_told_answer : Value} (a_told_answer : PySem.W.nsIn K mainGlobals "told_answer" = some (some (.ref f_told_answer))) (l_told_answer : K.lookup f_told_answer = some ⟨oc_told_answer, od_told_answer, .func (PySem.W.fnOf "told_answer" "told_answer" (defArgs s_told_answer) (defBody s_told_answer) (defScope s_told_answer) .none kV_told_answer dc_told_answer pm_told_answer an_told_answer cd_told_answer ct_told_answer), sl_told_answer⟩) (c_told_answer : PySem.W.codeIn K cd_told_answer "told_answer" = true) (k_told_answer : PySem.W.keepIn K (.ref f_told_answer) = true)
    {f__law_refill : Addr} {od__law_refill an__law_refill : Option Addr} {sl__law_refill : Array (Option Value)} {oc__law_refill kV__law_refill dc__law_refill pm__law_refill cd__law_refill ct__law_refill : Value} (a__law_refill : PySem.W.nsIn K mainGlobals "_law_refill" = some (some (.ref f__law_refill))) (l__law_refill : K.lookup f__law_refill = some ⟨oc__law_refill, od__law_refill, .func (PySem.W.fnOf "_law_refill" "_law_refill" (defArgs s__law_refill) (defBody s__law_refill) (defScope s__law_refill) .none kV__law_refill dc__law_refill pm__law_refill an__law_refill cd__law_refill ct__law_refill), sl__law_refill⟩) (c__law_refill : PySem.W.codeIn K cd__law_refill "_law_refill" = true) (k__law_refill : PySem.W.keepIn K (.ref f__law_refill) = true)
    {f__law_draw : Addr} {od__law_draw an__law_draw : Option Addr} {sl__law_draw : Array (Option Value)} {oc__law_draw kV__law_draw dc__law_draw pm__law_draw cd__law_draw ct__law_draw : Value} (a__law_draw : PySem.W.nsIn K mainGlobals "_law_draw" = some (some (.ref f__law_draw))) (l__law_draw : K.lookup f__law_draw = some ⟨oc__law_draw, od__law_draw, .func (PySem.W.fnOf "_law_draw" "_law_draw" (defArgs s__law_draw) (defBody s__law_draw) (defScope s__law_draw) .none kV__law_draw dc__law_draw pm__law_draw an__law_draw cd__law_draw ct__law_draw), sl__law_draw⟩) (c__law_draw : PySem.W.codeIn K cd__law_draw "_law_draw" = true) (k__law_draw : PySem.W.keepIn K (.ref f__law_draw) = true)
    {f__law_pick : Addr} {od__law_pick an__law_pick : Option Addr} {sl__law_pick : Array (Option Value)} {oc__law_pick kV__law_pick dc__law_pick pm__law_pick cd__law_pick ct__law_pick : Value} (a__law_pick : PySem.W.nsIn K mainGlobals "_law_pick" = some (some (.ref f__law_pick))) (l__law_pick : K.lookup f__law_pick = some ⟨oc__law_pick, od__law_pick, .func (PySem.W.fnOf "_law_pick" "_law_pick" (defArgs s__law_pick) (defBody s__law_pick) (defScope s__law_pick) .none kV__law_pick dc__law_pick pm__law_pick an__law_pick cd__law_pick ct__law_pick), sl__law_pick⟩) (c__law_pick : PySem.W.codeIn K cd__law_pick "_law_pick" = true) (k__law_pick : PySem.W.keepIn K (.ref f__law_pick) = true)
    {f__law_signs : Addr} {od__law_signs an__law_signs : Option Addr} {sl__law_signs : Array (Option Value)} {oc__law_signs kV__law_signs dc__law_signs pm__law_signs cd__law_signs ct__law_signs : Value} (a__law_signs : PySem.W.nsIn K mainGlobals "_law_signs" = some (some (.ref f__law_signs))) (l__law_signs : K.lookup f__law_signs = some ⟨oc__law_signs, od__law_signs, .func (PySem.W.fnOf "_law_signs" "_law_signs" (defArgs s__law_signs) (defBody s__law_signs) (defScope s__law_signs) .none kV__law_signs dc__law_signs pm__law_signs an__law_signs cd__law_signs ct__law_signs), sl__law_signs⟩) (c__law_signs : PySem.W.codeIn K cd__law_signs "_law_signs" = true) (k__law_signs : PySem.W.keepIn K (.ref f__law_signs) = true)
    {f__law_text : Addr} {od__law_text an__law_text : Option Addr} {sl__law_text : Array (Option Value)} {oc__law_text kV__law_text dc__law_text pm__law_text cd__law_text ct__law_text : Value} (a__law_text : PySem.W.nsIn K mainGlobals "_law_text" = some (some (.ref f__law_text))) (l__law_text : K.lookup f__law_text = some ⟨oc__law_text, od__law_text, .func (PySem.W.fnOf "_law_text" "_law_text" (defArgs s__law_text) (defBody s__law_text) (defScope s__law_text) .none kV__law_text dc__law_text pm__law_text an__law_text cd__law_text ct__law_text), sl__law_text⟩) (c__law_text : PySem.W.codeIn K cd__law_text "_law_text" = true) (k__law_text : PySem.W.keepIn K (.ref f__law_text) = true)
    {f__law_fact : Addr} {od__law_fact an__law_fact : Option Addr} {sl__law_fact : Array (Option Value)} {oc__law_fact kV__law_fact dc__law_fact pm__law_fact cd__law_fact ct__law_fact : Value} (a__law_fact : PySem.W.nsIn K mainGlobals "_law_fact" = some (some (.ref f__law_fact))) (l__law_fact : K.lookup f__law_fact = some ⟨oc__law_fact, od__law_fact, .func (PySem.W.fnOf "_law_fact" "_law_fact" (defArgs s__law_fact) (defBody s__law_fact) (defScope s__law_fact) .none kV__law_fact dc__law_fact pm__law_fact an__law_fact cd__law_fact ct__law_fact), sl__law_fact⟩) (c__law_fact : PySem.W.codeIn K cd__law_fact "_law_fact" = true) (k__law_fact : PySem.W.keepIn K (.ref f__law_fact) = true)
    {f__law_listed : Addr} {od__law_listed an__law_listed : Option Addr} {sl__law_listed : Array (Option Value)} {oc__law_listed kV__law_listed dc__law_listed pm__law_listed cd__law_listed ct__law_listed : Value} (a__law_listed : PySem.W.nsIn K mainGlobals "_law_listed" = some (some (.ref f__law_listed))) (l__law_listed : K.lookup f__law_listed = some ⟨oc__law_listed, od__law_listed, .func (PySem.W.fnOf "_law_listed" "_law_listed" (defArgs s__law_listed) (defBody s__law_listed) (defScope s__law_listed) .none kV__law_listed dc__law_listed pm__law_listed an__law_listed cd__law_listed ct__law_listed), sl__law_listed⟩) (c__law_listed : PySem.W.codeIn K cd__law_listed "_law_listed" = true) (k__law_listed : PySem.W.keepIn K (.ref f__law_listed) = true)
    {f__law_alike : Addr} {od__law_alike an__law_alike : Option Addr} {sl__law_alike : Array (Option Value)} {oc__law_alike kV__law_alike dc__law_alike pm__law_alike cd__law_alike ct__law_alike : Value} (a__law_alike : PySem.W.nsIn K mainGlobals "_law_alike" = some (some (.ref f__law_alike))) (l__law_alike : K.lookup f__law_alike = some ⟨oc__law_alike, od__law_alike, .func (PySem.W.fnOf "_law_alike" "_law_alike" (defArgs s__law_alike) (defBody s__law_alike) (defScope s__law_alike) .none kV__law_alike dc__law_alike pm__law_alike an__law_alike cd__law_alike ct__law_alike), sl__law_alike⟩) (c__law_alike : PySem.W.codeIn K cd__law_alike "_law_alike" = true) (k__law_alike : PySem.W.keepIn K (.ref f__law_alike) = true)
    {f_law : Addr} {od_law an_law : Option Addr} {sl_law : Array (Option Value)} {oc_law kV_law dc_law pm_law cd_law ct_law : Value} (a_law : PySem.W.nsIn K mainGlobals "law" = some (some (.ref f_law))) (l_law : K.lookup f_law = some ⟨oc_law, od_law, .func (PySem.W.fnOf "law" "law" (defArgs s_law) (defBody s_law) (defScope s_law) .none kV_law dc_law pm_law an_law cd_law ct_law), sl_law⟩) (c_law : PySem.W.codeIn K cd_law "law" = true) (k_law : PySem.W.keepIn K (.ref f_law) = true)
    {t_BELOW_PERCENT : Tok} (g_BELOW_PERCENT : PySem.W.nsIn K mainGlobals "BELOW_PERCENT" = some (some (.str (Str.ofString " !\"#$") t_BELOW_PERCENT)))
    {t_ABOVE_PERCENT : Tok} (g_ABOVE_PERCENT : PySem.W.nsIn K mainGlobals "ABOVE_PERCENT" = some (some (.str (Str.ofString "&'()*+,-./0123456789:;<=>?@ABCDEFGHIJKLMNOPQRSTUVWXYZ[\\]^_`abcdefghijklmnopqrstuvwxyz{|}~") t_ABOVE_PERCENT)))
    {t_TAB : Tok} (g_TAB : PySem.W.nsIn K mainGlobals "TAB" = some (some (.int 9 t_TAB)))
    {t_LINE_FEED : Tok} (g_LINE_FEED : PySem.W.nsIn K mainGlobals "LINE_FEED" = some (some (.int 10 t_LINE_FEED)))
    {t_SPACE : Tok} (g_SPACE : PySem.W.nsIn K mainGlobals "SPACE" = some (some (.int 32 t_SPACE)))
    {t_PERCENT : Tok} (g_PERCENT : PySem.W.nsIn K mainGlobals "PERCENT" = some (some (.int 37 t_PERCENT)))
    {t_TILDE : Tok} (g_TILDE : PySem.W.nsIn K mainGlobals "TILDE" = some (some (.int 126 t_TILDE)))
    {t_DEEPEST : Tok} (g_DEEPEST : PySem.W.nsIn K mainGlobals "DEEPEST" = some (some (.int 32 t_DEEPEST)))
    {t_MOST_DIGITS : Tok} (g_MOST_DIGITS : PySem.W.nsIn K mainGlobals "MOST_DIGITS" = some (some (.int 15 t_MOST_DIGITS)))
    {t_DIGITS : Tok} (g_DIGITS : PySem.W.nsIn K mainGlobals "DIGITS" = some (some (.str (Str.ofString "0123456789abcdef") t_DIGITS)))
    {p_BLANKS : Addr} {od_BLANKS : Option Addr} {its_BLANKS : Array Value} {n_BLANKS : Nat} {sl_BLANKS : Array (Option Value)} (a_BLANKS : PySem.W.nsIn K mainGlobals "BLANKS" = some (some (.ref p_BLANKS))) (l_BLANKS : K.lookup p_BLANKS = some ⟨.type "tuple", od_BLANKS, .seq its_BLANKS n_BLANKS, sl_BLANKS⟩) (va_BLANKS : abL its_BLANKS.toList = some [.str (SX.S [32]), .str (SX.S [9]), .str (SX.S [10])])
    {p_WORDS : Addr} {od_WORDS : Option Addr} {its_WORDS : Array Value} {n_WORDS : Nat} {sl_WORDS : Array (Option Value)} (a_WORDS : PySem.W.nsIn K mainGlobals "WORDS" = some (some (.ref p_WORDS))) (l_WORDS : K.lookup p_WORDS = some ⟨.type "tuple", od_WORDS, .seq its_WORDS n_WORDS, sl_WORDS⟩) (va_WORDS : abL its_WORDS.toList = some [.ref w0, .ref w1, .ref w2])
    {p_HEADERS_OF_ANSWER : Addr} {od_HEADERS_OF_ANSWER : Option Addr} {its_HEADERS_OF_ANSWER : Array Value} {n_HEADERS_OF_ANSWER : Nat} {sl_HEADERS_OF_ANSWER : Array (Option Value)} (a_HEADERS_OF_ANSWER : PySem.W.nsIn K mainGlobals "HEADERS_OF_ANSWER" = some (some (.ref p_HEADERS_OF_ANSWER))) (l_HEADERS_OF_ANSWER : K.lookup p_HEADERS_OF_ANSWER = some ⟨.type "tuple", od_HEADERS_OF_ANSWER, .seq its_HEADERS_OF_ANSWER n_HEADERS_OF_ANSWER, sl_HEADERS_OF_ANSWER⟩) (va_HEADERS_OF_ANSWER : abL its_HEADERS_OF_ANSWER.toList = some [.ref aH0])
    (z_len : PySem.W.nsIn K mainGlobals "len" = some none)
    (z_int : PySem.W.nsIn K mainGlobals "int" = some none)
    (z_range : PySem.W.nsIn K mainGlobals "range" = some none)
    (z_isinstance : PySem.W.nsIn K mainGlobals "isinstance" = some none)
    (z_bool : PySem.W.nsIn K mainGlobals "bool" = some none)
    (z_list : PySem.W.nsIn K mainGlobals "list" = some none)
    (z_dict : PySem.W.nsIn K mainGlobals "dict" = some none)
    (z_ord : PySem.W.nsIn K mainGlobals "ord" = some none)
    (z_enumerate : PySem.W.nsIn K mainGlobals "enumerate" = some none)
    (z_str : PySem.W.nsIn K mainGlobals "str" = some none)
    (z_tuple : PySem.W.nsIn K mainGlobals "tuple" = some none)
    (z_all : PySem.W.nsIn K mainGlobals "all" = some none)
    (z_abs : PySem.W.nsIn K mainGlobals "abs" = some none)
    {C_FormkeeperError : Addr} (a_FormkeeperError : PySem.W.nsIn K mainGlobals "FormkeeperError" = some (some (.ref C_FormkeeperError)))
    (ex_FormkeeperError : PySem.W.subIn K (.ref C_FormkeeperError) (.type "BaseException") = some true)
    (ty_FormkeeperError : PySem.W.typeIn K (.ref C_FormkeeperError) = some (.type "type"))
    (ic_FormkeeperError : PySem.W.isClsIn K C_FormkeeperError = true)
    {C_InvalidText : Addr} {nm_InvalidText q_InvalidText : Str} {N_InvalidText : Addr} {bs_InvalidText bm_InvalidText : List Value} {sn_InvalidText : List Str} {su_InvalidText : List Value} {ab_InvalidText : Bool} {co_InvalidText : Option Bool} {dd_InvalidText : Option Addr} {k0_InvalidText k1_InvalidText k3_InvalidText k5_InvalidText : Option Value} {t_InvalidText : Tok}
    (a_InvalidText : PySem.W.nsIn K mainGlobals "InvalidText" = some (some (.ref C_InvalidText)))
    (x_InvalidText : K.lookup C_InvalidText = some (excClassObj nm_InvalidText q_InvalidText C_InvalidText N_InvalidText bs_InvalidText bm_InvalidText true sn_InvalidText su_InvalidText ab_InvalidText co_InvalidText dd_InvalidText k0_InvalidText k1_InvalidText (some (.str "InvalidText" t_InvalidText)) k3_InvalidText k5_InvalidText "ValueError.__new__"))
    (r_InvalidText : PySem.HandSPX.refsVE bm_InvalidText = true)
    (sa_InvalidText : PySem.W.findIn K (.ref C_InvalidText) "__setattr__" = some (some (.builtin "object.__setattr__")))
    (ex_InvalidText : PySem.W.subIn K (.ref C_InvalidText) (.type "BaseException") = some true)
    (ty_InvalidText : PySem.W.typeIn K (.ref C_InvalidText) = some (.type "type"))
    (kp_InvalidText : PySem.W.keepIn K (.ref C_InvalidText) = true)
    (ga_InvalidText : PySem.W.findIn K (.ref C_InvalidText) "__getattribute__" = some (some (.builtin "BaseException.__getattribute__")))
    (gg_InvalidText : PySem.W.findIn K (.ref C_InvalidText) "__getattr__" = some none)
    (hd_InvalidText : PySem.W.hasDictIn K C_InvalidText = true)
    (ha_InvalidText : PySem.W.findIn K (.ref C_InvalidText) "__class__" = some (some (.builtin "object.__class__")))
    (hm_InvalidText : PySem.W.mroIn K C_InvalidText (.type "object") = some true)
    (rd_InvalidText : PySem.W.readsIn K C_InvalidText (.type "type") = true)
    (fd_InvalidText : PySem.W.findCls K (.ref C_InvalidText) (.type "type") "__name__" = some (.get (.builtin "getset_descriptor.__get__") (.builtin "type.__name__") (.ref C_InvalidText) (.type "type")))
    (ic_InvalidText : PySem.W.isClsIn K C_InvalidText = true)
    (np_InvalidText : PySem.W.findIn K (.ref C_InvalidText) "place" = some none)
    (nn_InvalidText : PySem.W.findIn K (.ref C_InvalidText) "name" = some none)
    {C_InvalidJson : Addr} {nm_InvalidJson q_InvalidJson : Str} {N_InvalidJson : Addr} {bs_InvalidJson bm_InvalidJson : List Value} {sn_InvalidJson : List Str} {su_InvalidJson : List Value} {ab_InvalidJson : Bool} {co_InvalidJson : Option Bool} {dd_InvalidJson : Option Addr} {k0_InvalidJson k1_InvalidJson k3_InvalidJson k5_InvalidJson : Option Value} {t_InvalidJson : Tok}
    (a_InvalidJson : PySem.W.nsIn K mainGlobals "InvalidJson" = some (some (.ref C_InvalidJson)))
    (x_InvalidJson : K.lookup C_InvalidJson = some (excClassObj nm_InvalidJson q_InvalidJson C_InvalidJson N_InvalidJson bs_InvalidJson bm_InvalidJson true sn_InvalidJson su_InvalidJson ab_InvalidJson co_InvalidJson dd_InvalidJson k0_InvalidJson k1_InvalidJson (some (.str "InvalidJson" t_InvalidJson)) k3_InvalidJson k5_InvalidJson "ValueError.__new__"))
    (r_InvalidJson : PySem.HandSPX.refsVE bm_InvalidJson = true)
    (sa_InvalidJson : PySem.W.findIn K (.ref C_InvalidJson) "__setattr__" = some (some (.builtin "object.__setattr__")))
    (ex_InvalidJson : PySem.W.subIn K (.ref C_InvalidJson) (.type "BaseException") = some true)
    (ty_InvalidJson : PySem.W.typeIn K (.ref C_InvalidJson) = some (.type "type"))
    (kp_InvalidJson : PySem.W.keepIn K (.ref C_InvalidJson) = true)
    (ga_InvalidJson : PySem.W.findIn K (.ref C_InvalidJson) "__getattribute__" = some (some (.builtin "BaseException.__getattribute__")))
    (gg_InvalidJson : PySem.W.findIn K (.ref C_InvalidJson) "__getattr__" = some none)
    (hd_InvalidJson : PySem.W.hasDictIn K C_InvalidJson = true)
    (ha_InvalidJson : PySem.W.findIn K (.ref C_InvalidJson) "__class__" = some (some (.builtin "object.__class__")))
    (hm_InvalidJson : PySem.W.mroIn K C_InvalidJson (.type "object") = some true)
    (rd_InvalidJson : PySem.W.readsIn K C_InvalidJson (.type "type") = true)
    (fd_InvalidJson : PySem.W.findCls K (.ref C_InvalidJson) (.type "type") "__name__" = some (.get (.builtin "getset_descriptor.__get__") (.builtin "type.__name__") (.ref C_InvalidJson) (.type "type")))
    (ic_InvalidJson : PySem.W.isClsIn K C_InvalidJson = true)
    (np_InvalidJson : PySem.W.findIn K (.ref C_InvalidJson) "place" = some none)
    (nn_InvalidJson : PySem.W.findIn K (.ref C_InvalidJson) "name" = some none)
    {f_I : Addr} {od_I an_I : Option Addr} {sl_I : Array (Option Value)} {oc_I kV_I dc_I pm_I cd_I ct_I : Value}
    (iC_InvalidText : PySem.W.findIn K (.ref C_InvalidText) "__init__" = some (some (.ref f_I)))
    (iC_InvalidJson : PySem.W.findIn K (.ref C_InvalidJson) "__init__" = some (some (.ref f_I)))
    (hn_ : PySem.W.specialIn K (.builtin "object.__class__") "__get__" = some (some (.builtin "getset_descriptor.__get__")))
    (ht_ : PySem.W.takesIn K (.builtin "object.__class__") = some true)
    (tI_ : PySem.W.typeIn K (.ref f_I) = some (.type "function"))
    (l_I : K.lookup f_I = some ⟨oc_I, od_I, .func (PySem.W.fnOf "__init__" "FormkeeperError.__init__" (defArgs s_FormkeeperError___init__) (defBody s_FormkeeperError___init__) (defScope s_FormkeeperError___init__) .none kV_I dc_I pm_I an_I cd_I ct_I), sl_I⟩)
    (c_I : PySem.W.codeIn K cd_I "FormkeeperError.__init__" = true)
    (k_I : PySem.W.keepIn K (.ref f_I) = true)
    {O_JsonReader : Addr} (ao_JsonReader : PySem.W.nsIn K mainGlobals "JsonReader" = some (some (.ref O_JsonReader))) (pg_JsonReader : PySem.W.plainGet K O_JsonReader Str.empty = true) (hdo_JsonReader : PySem.W.hasDictIn K O_JsonReader = true) (po_JsonReader : PySem.W.plainOver K O_JsonReader = true) (sao_JsonReader : PySem.W.findIn K (.ref O_JsonReader) "__setattr__" = some (some (.builtin "object.__setattr__"))) (mko_JsonReader : PySem.W.makesIn K O_JsonReader = true) (kco_JsonReader : PySem.W.keepIn K (.ref O_JsonReader) = true)
    (nf_JsonReader_text : PySem.W.findIn K (.ref O_JsonReader) "text" = some none)
    (nf_JsonReader_at : PySem.W.findIn K (.ref O_JsonReader) "at" = some none)
    {f_JsonReader___init__ : Addr} {od_JsonReader___init__ an_JsonReader___init__ : Option Addr} {sl_JsonReader___init__ : Array (Option Value)} {oc_JsonReader___init__ kV_JsonReader___init__ dc_JsonReader___init__ pm_JsonReader___init__ cd_JsonReader___init__ ct_JsonReader___init__ : Value} (im_JsonReader___init__ : PySem.W.findIn K (.ref O_JsonReader) "__init__" = some (some (.ref f_JsonReader___init__))) (fm_JsonReader___init__ : PySem.W.isFn K (.ref f_JsonReader___init__) = true) (lm_JsonReader___init__ : K.lookup f_JsonReader___init__ = some ⟨oc_JsonReader___init__, od_JsonReader___init__, .func (PySem.W.fnOf "__init__" "JsonReader.__init__" (defArgs s_JsonReader___init__) (defBody s_JsonReader___init__) (defScope s_JsonReader___init__) .none kV_JsonReader___init__ dc_JsonReader___init__ pm_JsonReader___init__ an_JsonReader___init__ cd_JsonReader___init__ ct_JsonReader___init__), sl_JsonReader___init__⟩) (cm_JsonReader___init__ : PySem.W.codeIn K cd_JsonReader___init__ "JsonReader.__init__" = true) (km_JsonReader___init__ : PySem.W.keepIn K (.ref f_JsonReader___init__) = true)
    {f_JsonReader_peek : Addr} {od_JsonReader_peek an_JsonReader_peek : Option Addr} {sl_JsonReader_peek : Array (Option Value)} {oc_JsonReader_peek kV_JsonReader_peek dc_JsonReader_peek pm_JsonReader_peek cd_JsonReader_peek ct_JsonReader_peek : Value} (im_JsonReader_peek : PySem.W.findIn K (.ref O_JsonReader) "peek" = some (some (.ref f_JsonReader_peek))) (fm_JsonReader_peek : PySem.W.isFn K (.ref f_JsonReader_peek) = true) (lm_JsonReader_peek : K.lookup f_JsonReader_peek = some ⟨oc_JsonReader_peek, od_JsonReader_peek, .func (PySem.W.fnOf "peek" "JsonReader.peek" (defArgs s_JsonReader_peek) (defBody s_JsonReader_peek) (defScope s_JsonReader_peek) .none kV_JsonReader_peek dc_JsonReader_peek pm_JsonReader_peek an_JsonReader_peek cd_JsonReader_peek ct_JsonReader_peek), sl_JsonReader_peek⟩) (cm_JsonReader_peek : PySem.W.codeIn K cd_JsonReader_peek "JsonReader.peek" = true) (km_JsonReader_peek : PySem.W.keepIn K (.ref f_JsonReader_peek) = true)
    {f_JsonReader_peek_token : Addr} {od_JsonReader_peek_token an_JsonReader_peek_token : Option Addr} {sl_JsonReader_peek_token : Array (Option Value)} {oc_JsonReader_peek_token kV_JsonReader_peek_token dc_JsonReader_peek_token pm_JsonReader_peek_token cd_JsonReader_peek_token ct_JsonReader_peek_token : Value} (im_JsonReader_peek_token : PySem.W.findIn K (.ref O_JsonReader) "peek_token" = some (some (.ref f_JsonReader_peek_token))) (fm_JsonReader_peek_token : PySem.W.isFn K (.ref f_JsonReader_peek_token) = true) (lm_JsonReader_peek_token : K.lookup f_JsonReader_peek_token = some ⟨oc_JsonReader_peek_token, od_JsonReader_peek_token, .func (PySem.W.fnOf "peek_token" "JsonReader.peek_token" (defArgs s_JsonReader_peek_token) (defBody s_JsonReader_peek_token) (defScope s_JsonReader_peek_token) .none kV_JsonReader_peek_token dc_JsonReader_peek_token pm_JsonReader_peek_token an_JsonReader_peek_token cd_JsonReader_peek_token ct_JsonReader_peek_token), sl_JsonReader_peek_token⟩) (cm_JsonReader_peek_token : PySem.W.codeIn K cd_JsonReader_peek_token "JsonReader.peek_token" = true) (km_JsonReader_peek_token : PySem.W.keepIn K (.ref f_JsonReader_peek_token) = true)
    {f_JsonReader_read_whole : Addr} {od_JsonReader_read_whole an_JsonReader_read_whole : Option Addr} {sl_JsonReader_read_whole : Array (Option Value)} {oc_JsonReader_read_whole kV_JsonReader_read_whole dc_JsonReader_read_whole pm_JsonReader_read_whole cd_JsonReader_read_whole ct_JsonReader_read_whole : Value} (im_JsonReader_read_whole : PySem.W.findIn K (.ref O_JsonReader) "read_whole" = some (some (.ref f_JsonReader_read_whole))) (fm_JsonReader_read_whole : PySem.W.isFn K (.ref f_JsonReader_read_whole) = true) (lm_JsonReader_read_whole : K.lookup f_JsonReader_read_whole = some ⟨oc_JsonReader_read_whole, od_JsonReader_read_whole, .func (PySem.W.fnOf "read_whole" "JsonReader.read_whole" (defArgs s_JsonReader_read_whole) (defBody s_JsonReader_read_whole) (defScope s_JsonReader_read_whole) .none kV_JsonReader_read_whole dc_JsonReader_read_whole pm_JsonReader_read_whole an_JsonReader_read_whole cd_JsonReader_read_whole ct_JsonReader_read_whole), sl_JsonReader_read_whole⟩) (cm_JsonReader_read_whole : PySem.W.codeIn K cd_JsonReader_read_whole "JsonReader.read_whole" = true) (km_JsonReader_read_whole : PySem.W.keepIn K (.ref f_JsonReader_read_whole) = true)
    {f_JsonReader_read_value : Addr} {od_JsonReader_read_value an_JsonReader_read_value : Option Addr} {sl_JsonReader_read_value : Array (Option Value)} {oc_JsonReader_read_value kV_JsonReader_read_value dc_JsonReader_read_value pm_JsonReader_read_value cd_JsonReader_read_value ct_JsonReader_read_value : Value} (im_JsonReader_read_value : PySem.W.findIn K (.ref O_JsonReader) "read_value" = some (some (.ref f_JsonReader_read_value))) (fm_JsonReader_read_value : PySem.W.isFn K (.ref f_JsonReader_read_value) = true) (lm_JsonReader_read_value : K.lookup f_JsonReader_read_value = some ⟨oc_JsonReader_read_value, od_JsonReader_read_value, .func (PySem.W.fnOf "read_value" "JsonReader.read_value" (defArgs s_JsonReader_read_value) (defBody s_JsonReader_read_value) (defScope s_JsonReader_read_value) .none kV_JsonReader_read_value dc_JsonReader_read_value pm_JsonReader_read_value an_JsonReader_read_value cd_JsonReader_read_value ct_JsonReader_read_value), sl_JsonReader_read_value⟩) (cm_JsonReader_read_value : PySem.W.codeIn K cd_JsonReader_read_value "JsonReader.read_value" = true) (km_JsonReader_read_value : PySem.W.keepIn K (.ref f_JsonReader_read_value) = true)
    {f_JsonReader_skip_word : Addr} {od_JsonReader_skip_word an_JsonReader_skip_word : Option Addr} {sl_JsonReader_skip_word : Array (Option Value)} {oc_JsonReader_skip_word kV_JsonReader_skip_word dc_JsonReader_skip_word pm_JsonReader_skip_word cd_JsonReader_skip_word ct_JsonReader_skip_word : Value} (im_JsonReader_skip_word : PySem.W.findIn K (.ref O_JsonReader) "skip_word" = some (some (.ref f_JsonReader_skip_word))) (fm_JsonReader_skip_word : PySem.W.isFn K (.ref f_JsonReader_skip_word) = true) (lm_JsonReader_skip_word : K.lookup f_JsonReader_skip_word = some ⟨oc_JsonReader_skip_word, od_JsonReader_skip_word, .func (PySem.W.fnOf "skip_word" "JsonReader.skip_word" (defArgs s_JsonReader_skip_word) (defBody s_JsonReader_skip_word) (defScope s_JsonReader_skip_word) .none kV_JsonReader_skip_word dc_JsonReader_skip_word pm_JsonReader_skip_word an_JsonReader_skip_word cd_JsonReader_skip_word ct_JsonReader_skip_word), sl_JsonReader_skip_word⟩) (cm_JsonReader_skip_word : PySem.W.codeIn K cd_JsonReader_skip_word "JsonReader.skip_word" = true) (km_JsonReader_skip_word : PySem.W.keepIn K (.ref f_JsonReader_skip_word) = true)
    {f_JsonReader_read_number : Addr} {od_JsonReader_read_number an_JsonReader_read_number : Option Addr} {sl_JsonReader_read_number : Array (Option Value)} {oc_JsonReader_read_number kV_JsonReader_read_number dc_JsonReader_read_number pm_JsonReader_read_number cd_JsonReader_read_number ct_JsonReader_read_number : Value} (im_JsonReader_read_number : PySem.W.findIn K (.ref O_JsonReader) "read_number" = some (some (.ref f_JsonReader_read_number))) (fm_JsonReader_read_number : PySem.W.isFn K (.ref f_JsonReader_read_number) = true) (lm_JsonReader_read_number : K.lookup f_JsonReader_read_number = some ⟨oc_JsonReader_read_number, od_JsonReader_read_number, .func (PySem.W.fnOf "read_number" "JsonReader.read_number" (defArgs s_JsonReader_read_number) (defBody s_JsonReader_read_number) (defScope s_JsonReader_read_number) .none kV_JsonReader_read_number dc_JsonReader_read_number pm_JsonReader_read_number an_JsonReader_read_number cd_JsonReader_read_number ct_JsonReader_read_number), sl_JsonReader_read_number⟩) (cm_JsonReader_read_number : PySem.W.codeIn K cd_JsonReader_read_number "JsonReader.read_number" = true) (km_JsonReader_read_number : PySem.W.keepIn K (.ref f_JsonReader_read_number) = true)
    {f_JsonReader_read_string : Addr} {od_JsonReader_read_string an_JsonReader_read_string : Option Addr} {sl_JsonReader_read_string : Array (Option Value)} {oc_JsonReader_read_string kV_JsonReader_read_string dc_JsonReader_read_string pm_JsonReader_read_string cd_JsonReader_read_string ct_JsonReader_read_string : Value} (im_JsonReader_read_string : PySem.W.findIn K (.ref O_JsonReader) "read_string" = some (some (.ref f_JsonReader_read_string))) (fm_JsonReader_read_string : PySem.W.isFn K (.ref f_JsonReader_read_string) = true) (lm_JsonReader_read_string : K.lookup f_JsonReader_read_string = some ⟨oc_JsonReader_read_string, od_JsonReader_read_string, .func (PySem.W.fnOf "read_string" "JsonReader.read_string" (defArgs s_JsonReader_read_string) (defBody s_JsonReader_read_string) (defScope s_JsonReader_read_string) .none kV_JsonReader_read_string dc_JsonReader_read_string pm_JsonReader_read_string an_JsonReader_read_string cd_JsonReader_read_string ct_JsonReader_read_string), sl_JsonReader_read_string⟩) (cm_JsonReader_read_string : PySem.W.codeIn K cd_JsonReader_read_string "JsonReader.read_string" = true) (km_JsonReader_read_string : PySem.W.keepIn K (.ref f_JsonReader_read_string) = true)
    {f_JsonReader_read_character : Addr} {od_JsonReader_read_character an_JsonReader_read_character : Option Addr} {sl_JsonReader_read_character : Array (Option Value)} {oc_JsonReader_read_character kV_JsonReader_read_character dc_JsonReader_read_character pm_JsonReader_read_character cd_JsonReader_read_character ct_JsonReader_read_character : Value} (im_JsonReader_read_character : PySem.W.findIn K (.ref O_JsonReader) "read_character" = some (some (.ref f_JsonReader_read_character))) (fm_JsonReader_read_character : PySem.W.isFn K (.ref f_JsonReader_read_character) = true) (lm_JsonReader_read_character : K.lookup f_JsonReader_read_character = some ⟨oc_JsonReader_read_character, od_JsonReader_read_character, .func (PySem.W.fnOf "read_character" "JsonReader.read_character" (defArgs s_JsonReader_read_character) (defBody s_JsonReader_read_character) (defScope s_JsonReader_read_character) .none kV_JsonReader_read_character dc_JsonReader_read_character pm_JsonReader_read_character an_JsonReader_read_character cd_JsonReader_read_character ct_JsonReader_read_character), sl_JsonReader_read_character⟩) (cm_JsonReader_read_character : PySem.W.codeIn K cd_JsonReader_read_character "JsonReader.read_character" = true) (km_JsonReader_read_character : PySem.W.keepIn K (.ref f_JsonReader_read_character) = true)
    {f_JsonReader_read_escape : Addr} {od_JsonReader_read_escape an_JsonReader_read_escape : Option Addr} {sl_JsonReader_read_escape : Array (Option Value)} {oc_JsonReader_read_escape kV_JsonReader_read_escape dc_JsonReader_read_escape pm_JsonReader_read_escape cd_JsonReader_read_escape ct_JsonReader_read_escape : Value} (im_JsonReader_read_escape : PySem.W.findIn K (.ref O_JsonReader) "read_escape" = some (some (.ref f_JsonReader_read_escape))) (fm_JsonReader_read_escape : PySem.W.isFn K (.ref f_JsonReader_read_escape) = true) (lm_JsonReader_read_escape : K.lookup f_JsonReader_read_escape = some ⟨oc_JsonReader_read_escape, od_JsonReader_read_escape, .func (PySem.W.fnOf "read_escape" "JsonReader.read_escape" (defArgs s_JsonReader_read_escape) (defBody s_JsonReader_read_escape) (defScope s_JsonReader_read_escape) .none kV_JsonReader_read_escape dc_JsonReader_read_escape pm_JsonReader_read_escape an_JsonReader_read_escape cd_JsonReader_read_escape ct_JsonReader_read_escape), sl_JsonReader_read_escape⟩) (cm_JsonReader_read_escape : PySem.W.codeIn K cd_JsonReader_read_escape "JsonReader.read_escape" = true) (km_JsonReader_read_escape : PySem.W.keepIn K (.ref f_JsonReader_read_escape) = true)
    {f_JsonReader_read_code : Addr} {od_JsonReader_read_code an_JsonReader_read_code : Option Addr} {sl_JsonReader_read_code : Array (Option Value)} {oc_JsonReader_read_code kV_JsonReader_read_code dc_JsonReader_read_code pm_JsonReader_read_code cd_JsonReader_read_code ct_JsonReader_read_code : Value} (im_JsonReader_read_code : PySem.W.findIn K (.ref O_JsonReader) "read_code" = some (some (.ref f_JsonReader_read_code))) (fm_JsonReader_read_code : PySem.W.isFn K (.ref f_JsonReader_read_code) = true) (lm_JsonReader_read_code : K.lookup f_JsonReader_read_code = some ⟨oc_JsonReader_read_code, od_JsonReader_read_code, .func (PySem.W.fnOf "read_code" "JsonReader.read_code" (defArgs s_JsonReader_read_code) (defBody s_JsonReader_read_code) (defScope s_JsonReader_read_code) .none kV_JsonReader_read_code dc_JsonReader_read_code pm_JsonReader_read_code an_JsonReader_read_code cd_JsonReader_read_code ct_JsonReader_read_code), sl_JsonReader_read_code⟩) (cm_JsonReader_read_code : PySem.W.codeIn K cd_JsonReader_read_code "JsonReader.read_code" = true) (km_JsonReader_read_code : PySem.W.keepIn K (.ref f_JsonReader_read_code) = true)
    {f_JsonReader_read_list : Addr} {od_JsonReader_read_list an_JsonReader_read_list : Option Addr} {sl_JsonReader_read_list : Array (Option Value)} {oc_JsonReader_read_list kV_JsonReader_read_list dc_JsonReader_read_list pm_JsonReader_read_list cd_JsonReader_read_list ct_JsonReader_read_list : Value} (im_JsonReader_read_list : PySem.W.findIn K (.ref O_JsonReader) "read_list" = some (some (.ref f_JsonReader_read_list))) (fm_JsonReader_read_list : PySem.W.isFn K (.ref f_JsonReader_read_list) = true) (lm_JsonReader_read_list : K.lookup f_JsonReader_read_list = some ⟨oc_JsonReader_read_list, od_JsonReader_read_list, .func (PySem.W.fnOf "read_list" "JsonReader.read_list" (defArgs s_JsonReader_read_list) (defBody s_JsonReader_read_list) (defScope s_JsonReader_read_list) .none kV_JsonReader_read_list dc_JsonReader_read_list pm_JsonReader_read_list an_JsonReader_read_list cd_JsonReader_read_list ct_JsonReader_read_list), sl_JsonReader_read_list⟩) (cm_JsonReader_read_list : PySem.W.codeIn K cd_JsonReader_read_list "JsonReader.read_list" = true) (km_JsonReader_read_list : PySem.W.keepIn K (.ref f_JsonReader_read_list) = true)
    {f_JsonReader_read_dict : Addr} {od_JsonReader_read_dict an_JsonReader_read_dict : Option Addr} {sl_JsonReader_read_dict : Array (Option Value)} {oc_JsonReader_read_dict kV_JsonReader_read_dict dc_JsonReader_read_dict pm_JsonReader_read_dict cd_JsonReader_read_dict ct_JsonReader_read_dict : Value} (im_JsonReader_read_dict : PySem.W.findIn K (.ref O_JsonReader) "read_dict" = some (some (.ref f_JsonReader_read_dict))) (fm_JsonReader_read_dict : PySem.W.isFn K (.ref f_JsonReader_read_dict) = true) (lm_JsonReader_read_dict : K.lookup f_JsonReader_read_dict = some ⟨oc_JsonReader_read_dict, od_JsonReader_read_dict, .func (PySem.W.fnOf "read_dict" "JsonReader.read_dict" (defArgs s_JsonReader_read_dict) (defBody s_JsonReader_read_dict) (defScope s_JsonReader_read_dict) .none kV_JsonReader_read_dict dc_JsonReader_read_dict pm_JsonReader_read_dict an_JsonReader_read_dict cd_JsonReader_read_dict ct_JsonReader_read_dict), sl_JsonReader_read_dict⟩) (cm_JsonReader_read_dict : PySem.W.codeIn K cd_JsonReader_read_dict "JsonReader.read_dict" = true) (km_JsonReader_read_dict : PySem.W.keepIn K (.ref f_JsonReader_read_dict) = true)
    {f_JsonReader_read_key : Addr} {od_JsonReader_read_key an_JsonReader_read_key : Option Addr} {sl_JsonReader_read_key : Array (Option Value)} {oc_JsonReader_read_key kV_JsonReader_read_key dc_JsonReader_read_key pm_JsonReader_read_key cd_JsonReader_read_key ct_JsonReader_read_key : Value} (im_JsonReader_read_key : PySem.W.findIn K (.ref O_JsonReader) "read_key" = some (some (.ref f_JsonReader_read_key))) (fm_JsonReader_read_key : PySem.W.isFn K (.ref f_JsonReader_read_key) = true) (lm_JsonReader_read_key : K.lookup f_JsonReader_read_key = some ⟨oc_JsonReader_read_key, od_JsonReader_read_key, .func (PySem.W.fnOf "read_key" "JsonReader.read_key" (defArgs s_JsonReader_read_key) (defBody s_JsonReader_read_key) (defScope s_JsonReader_read_key) .none kV_JsonReader_read_key dc_JsonReader_read_key pm_JsonReader_read_key an_JsonReader_read_key cd_JsonReader_read_key ct_JsonReader_read_key), sl_JsonReader_read_key⟩) (cm_JsonReader_read_key : PySem.W.codeIn K cd_JsonReader_read_key "JsonReader.read_key" = true) (km_JsonReader_read_key : PySem.W.keepIn K (.ref f_JsonReader_read_key) = true)
    {f_JsonReader_read_end : Addr} {od_JsonReader_read_end an_JsonReader_read_end : Option Addr} {sl_JsonReader_read_end : Array (Option Value)} {oc_JsonReader_read_end kV_JsonReader_read_end dc_JsonReader_read_end pm_JsonReader_read_end cd_JsonReader_read_end ct_JsonReader_read_end : Value} (im_JsonReader_read_end : PySem.W.findIn K (.ref O_JsonReader) "read_end" = some (some (.ref f_JsonReader_read_end))) (fm_JsonReader_read_end : PySem.W.isFn K (.ref f_JsonReader_read_end) = true) (lm_JsonReader_read_end : K.lookup f_JsonReader_read_end = some ⟨oc_JsonReader_read_end, od_JsonReader_read_end, .func (PySem.W.fnOf "read_end" "JsonReader.read_end" (defArgs s_JsonReader_read_end) (defBody s_JsonReader_read_end) (defScope s_JsonReader_read_end) .none kV_JsonReader_read_end dc_JsonReader_read_end pm_JsonReader_read_end an_JsonReader_read_end cd_JsonReader_read_end ct_JsonReader_read_end), sl_JsonReader_read_end⟩) (cm_JsonReader_read_end : PySem.W.codeIn K cd_JsonReader_read_end "JsonReader.read_end" = true) (km_JsonReader_read_end : PySem.W.keepIn K (.ref f_JsonReader_read_end) = true)
    {O_Answer : Addr} (ao_Answer : PySem.W.nsIn K mainGlobals "Answer" = some (some (.ref O_Answer))) (pg_Answer : PySem.W.plainGet K O_Answer Str.empty = true) (hdo_Answer : PySem.W.hasDictIn K O_Answer = true) (po_Answer : PySem.W.plainOver K O_Answer = true) (sao_Answer : PySem.W.findIn K (.ref O_Answer) "__setattr__" = some (some (.builtin "object.__setattr__"))) (mko_Answer : PySem.W.makesIn K O_Answer = true) (kco_Answer : PySem.W.keepIn K (.ref O_Answer) = true)
    (nf_Answer_status : PySem.W.findIn K (.ref O_Answer) "status" = some none)
    (nf_Answer_headers : PySem.W.findIn K (.ref O_Answer) "headers" = some none)
    (nf_Answer_body : PySem.W.findIn K (.ref O_Answer) "body" = some none)
    {f_Answer___init__ : Addr} {od_Answer___init__ an_Answer___init__ : Option Addr} {sl_Answer___init__ : Array (Option Value)} {oc_Answer___init__ kV_Answer___init__ dc_Answer___init__ pm_Answer___init__ cd_Answer___init__ ct_Answer___init__ : Value} (im_Answer___init__ : PySem.W.findIn K (.ref O_Answer) "__init__" = some (some (.ref f_Answer___init__))) (fm_Answer___init__ : PySem.W.isFn K (.ref f_Answer___init__) = true) (lm_Answer___init__ : K.lookup f_Answer___init__ = some ⟨oc_Answer___init__, od_Answer___init__, .func (PySem.W.fnOf "__init__" "Answer.__init__" (defArgs s_Answer___init__) (defBody s_Answer___init__) (defScope s_Answer___init__) .none kV_Answer___init__ dc_Answer___init__ pm_Answer___init__ an_Answer___init__ cd_Answer___init__ ct_Answer___init__), sl_Answer___init__⟩) (cm_Answer___init__ : PySem.W.codeIn K cd_Answer___init__ "Answer.__init__" = true) (km_Answer___init__ : PySem.W.keepIn K (.ref f_Answer___init__) = true)
    (l_W0 : K.lookup w0 = some ⟨.type "tuple", ow0, .seq iw0 nw0, lw0⟩)
    (va_W0 : abL iw0.toList = some [.str (SX.S wNull), .non])
    (l_W1 : K.lookup w1 = some ⟨.type "tuple", ow1, .seq iw1 nw1, lw1⟩)
    (va_W1 : abL iw1.toList = some [.str (SX.S wTrue), .bl true])
    (l_W2 : K.lookup w2 = some ⟨.type "tuple", ow2, .seq iw2 nw2, lw2⟩)
    (va_W2 : abL iw2.toList = some [.str (SX.S wFalse), .bl false])
    (a_ESCAPES : PySem.W.nsIn K mainGlobals "ESCAPES" = some (some (.ref aE)))
    (l_ESCAPES : K.lookup aE = some ⟨.type "dict", none, .dict es nE, #[]⟩)
    (va_ESC : es.toList.map escOf = escL)
    (va_LIT : es.toList.map He.keyOf = He.keysIn w.params ["\"", "\\", "/", "n", "t"])
    (ne_ESC : (aE == sysModules) = false)
    (l_H0 : K.lookup aH0 = some ⟨.type "tuple", oH0, .seq iH0 nH0, lH0⟩)
    (va_H0 : abL iH0.toList = some [.str "content-type", .str "application/json"])
    (a_STATUSES : PySem.W.nsIn K mainGlobals "STATUSES" = some (some (.ref aS)))
    (l_STATUSES : K.lookup aS = some ⟨.type "dict", none, .dict sS nS, #[]⟩)
    (va_STT : sS.toList.map sttOf = sttL.map some)
    (va_STK : sS.toList.map He.keyOf = He.keysIn w.params ["no subject", "no version", "no schema", "old", "not fitting", "in use", "standing"])
    (ne_STT : (aS == sysModules) = false)
    (ci_A : PySem.W.findIn K (.ref O_Answer) "__class__" = some (some (.builtin "object.__class__")))
    (cm_A : PySem.W.mroIn K O_Answer (.type "object") = some true)
    (ne_AA : (Value.ref O_Answer == Value.ref O_Answer) = true) :
    ∃ fd : FuncData, (∀ (s : Shared) (v : Value), BindsTo s fd ⟨[v], []⟩ [("script", v)]) ∧ ∀ base : Heap, K.In base → base.Ns mainGlobals mg → FnOk l.prog w K mg base CX0 76 fa fd ["script"] (spLaw K) := by
  have e := hfa.symm.trans (PySem.W.mg_of X G a_law)
  cases e
  have T : Tx K w mg ⟨p_BLANKS, p_WORDS, w0, w1, w2, aE, es, nE, p_HEADERS_OF_ANSWER, aH0, aS, sS, nS⟩ := ⟨⟨_, PySem.W.mg_of X G g_BELOW_PERCENT, ⟨t_BELOW_PERCENT, rfl⟩⟩, ⟨_, PySem.W.mg_of X G g_ABOVE_PERCENT, ⟨t_ABOVE_PERCENT, rfl⟩⟩, ⟨_, PySem.W.mg_of X G g_TAB, ⟨t_TAB, rfl⟩⟩, ⟨_, PySem.W.mg_of X G g_LINE_FEED, ⟨t_LINE_FEED, rfl⟩⟩, ⟨_, PySem.W.mg_of X G g_SPACE, ⟨t_SPACE, rfl⟩⟩, ⟨_, PySem.W.mg_of X G g_PERCENT, ⟨t_PERCENT, rfl⟩⟩, ⟨_, PySem.W.mg_of X G g_TILDE, ⟨t_TILDE, rfl⟩⟩, ⟨_, PySem.W.mg_of X G g_DEEPEST, ⟨t_DEEPEST, rfl⟩⟩, ⟨_, PySem.W.mg_of X G g_MOST_DIGITS, ⟨t_MOST_DIGITS, rfl⟩⟩, ⟨_, PySem.W.mg_of X G g_DIGITS, ⟨t_DIGITS, rfl⟩⟩, PySem.W.mg_none_of X G z_len, PySem.W.mg_none_of X G z_int, PySem.W.mg_none_of X G z_range, PySem.W.mg_none_of X G z_isinstance, PySem.W.mg_none_of X G z_bool, PySem.W.mg_none_of X G z_list, PySem.W.mg_none_of X G z_dict, PySem.W.mg_none_of X G z_ord, PySem.W.mg_none_of X G z_enumerate, PySem.W.mg_none_of X G z_str, PySem.W.mg_none_of X G z_tuple, PySem.W.mg_none_of X G z_all, PySem.W.mg_none_of X G z_abs, ⟨_, PySem.W.mg_of X G a_BLANKS, rfl⟩, fun _ => tup_at l_BLANKS va_BLANKS (by first | decide | simp), ⟨_, PySem.W.mg_of X G a_WORDS, rfl⟩, fun _ => tup_at l_WORDS va_WORDS (by first | decide | simp), ⟨_, PySem.W.mg_of X G a_HEADERS_OF_ANSWER, rfl⟩, fun _ => tup_at l_HEADERS_OF_ANSWER va_HEADERS_OF_ANSWER (by first | decide | simp), fun _ => tup_at l_W0 va_W0 (by decide), fun _ => tup_at l_W1 va_W1 (by decide), fun _ => tup_at l_W2 va_W2 (by decide), ⟨_, PySem.W.mg_of X G a_ESCAPES, rfl⟩, ⟨l_ESCAPES, He.keysLit_of va_LIT, ne_ESC⟩, (esc_tab l_ESCAPES va_ESC).1, (esc_tab l_ESCAPES va_ESC).2, fun _ => tup_at l_H0 va_H0 (by decide), ⟨_, PySem.W.mg_of X G a_STATUSES, rfl⟩, ⟨l_STATUSES, He.keysLit_of va_STK, ne_STT⟩, stt_tab l_STATUSES va_STT⟩
  have D_is_code : Def K mg "is_code" s_is_code ["code"] := def_mk X G a_is_code l_is_code c_is_code k_is_code (fun _ _ _ _ _ _ us hl => match us, hl with | [_], _ => rfl)
  have D_character_of : Def K mg "character_of" s_character_of ["code"] := def_mk X G a_character_of l_character_of c_character_of k_character_of (fun _ _ _ _ _ _ us hl => match us, hl with | [_], _ => rfl)
  have D_is_text : Def K mg "is_text" s_is_text ["text"] := def_mk X G a_is_text l_is_text c_is_text k_is_text (fun _ _ _ _ _ _ us hl => match us, hl with | [_], _ => rfl)
  have D_encode_text : Def K mg "encode_text" s_encode_text ["text"] := def_mk X G a_encode_text l_encode_text c_encode_text k_encode_text (fun _ _ _ _ _ _ us hl => match us, hl with | [_], _ => rfl)
  have D_decode_text : Def K mg "decode_text" s_decode_text ["octets"] := def_mk X G a_decode_text l_decode_text c_decode_text k_decode_text (fun _ _ _ _ _ _ us hl => match us, hl with | [_], _ => rfl)
  have D_digit_of : Def K mg "digit_of" s_digit_of ["character", "base"] := def_mk X G a_digit_of l_digit_of c_digit_of k_digit_of (fun _ _ _ _ _ _ us hl => match us, hl with | [_, _], _ => rfl)
  have D_parse_json : Def K mg "parse_json" s_parse_json ["text"] := def_mk X G a_parse_json l_parse_json c_parse_json k_parse_json (fun _ _ _ _ _ _ us hl => match us, hl with | [_], _ => rfl)
  have D_write_string : Def K mg "write_string" s_write_string ["text"] := def_mk X G a_write_string l_write_string c_write_string k_write_string (fun _ _ _ _ _ _ us hl => match us, hl with | [_], _ => rfl)
  have D_write_json : Def K mg "write_json" s_write_json ["value"] := def_mk X G a_write_json l_write_json c_write_json k_write_json (fun _ _ _ _ _ _ us hl => match us, hl with | [_], _ => rfl)
  have D_with_lists : Def K mg "with_lists" s_with_lists ["value"] := def_mk X G a_with_lists l_with_lists c_with_lists k_with_lists (fun _ _ _ _ _ _ us hl => match us, hl with | [_], _ => rfl)
  have D_with_tuples : Def K mg "with_tuples" s_with_tuples ["value"] := def_mk X G a_with_tuples l_with_tuples c_with_tuples k_with_tuples (fun _ _ _ _ _ _ us hl => match us, hl with | [_], _ => rfl)
  have D_written : Def K mg "written" s_written ["value"] := def_mk X G a_written l_written c_written k_written (fun _ _ _ _ _ _ us hl => match us, hl with | [_], _ => rfl)
  have D_read_back : Def K mg "read_back" s_read_back ["octets"] := def_mk X G a_read_back l_read_back c_read_back k_read_back (fun _ _ _ _ _ _ us hl => match us, hl with | [_], _ => rfl)
  have D_status_of : Def K mg "status_of" s_status_of ["answer"] := def_mk X G a_status_of l_status_of c_status_of k_status_of (fun _ _ _ _ _ _ us hl => match us, hl with | [_], _ => rfl)
  have D_answer_octets : Def K mg "answer_octets" s_answer_octets ["answer"] := def_mk X G a_answer_octets l_answer_octets c_answer_octets k_answer_octets (fun _ _ _ _ _ _ us hl => match us, hl with | [_], _ => rfl)
  have D_told_answer : Def K mg "told_answer" s_told_answer ["message"] := def_mk X G a_told_answer l_told_answer c_told_answer k_told_answer (fun _ _ _ _ _ _ us hl => match us, hl with | [_], _ => rfl)
  have D__law_refill : Def K mg "_law_refill" s__law_refill ["script", "k"] := def_mk X G a__law_refill l__law_refill c__law_refill k__law_refill (fun _ _ _ _ _ _ us hl => match us, hl with | [_, _], _ => rfl)
  have D__law_draw : Def K mg "_law_draw" s__law_draw ["state", "script", "size"] := def_mk X G a__law_draw l__law_draw c__law_draw k__law_draw (fun _ _ _ _ _ _ us hl => match us, hl with | [_, _, _], _ => rfl)
  have D__law_pick : Def K mg "_law_pick" s__law_pick ["state", "script", "signs"] := def_mk X G a__law_pick l__law_pick c__law_pick k__law_pick (fun _ _ _ _ _ _ us hl => match us, hl with | [_, _, _], _ => rfl)
  have D__law_signs : Def K mg "_law_signs" s__law_signs [] := def_mk X G a__law_signs l__law_signs c__law_signs k__law_signs (fun _ _ _ _ _ _ us hl => match us, hl with | [], _ => rfl)
  have D__law_text : Def K mg "_law_text" s__law_text ["state", "script", "least", "most"] := def_mk X G a__law_text l__law_text c__law_text k__law_text (fun _ _ _ _ _ _ us hl => match us, hl with | [_, _, _, _], _ => rfl)
  have D__law_fact : Def K mg "_law_fact" s__law_fact ["state", "script", "depth"] := def_mk X G a__law_fact l__law_fact c__law_fact k__law_fact (fun _ _ _ _ _ _ us hl => match us, hl with | [_, _, _], _ => rfl)
  have D__law_listed : Def K mg "_law_listed" s__law_listed ["value"] := def_mk X G a__law_listed l__law_listed c__law_listed k__law_listed (fun _ _ _ _ _ _ us hl => match us, hl with | [_], _ => rfl)
  have D__law_alike : Def K mg "_law_alike" s__law_alike ["first", "second"] := def_mk X G a__law_alike l__law_alike c__law_alike k__law_alike (fun _ _ _ _ _ _ us hl => match us, hl with | [_, _], _ => rfl)
  refine ⟨PySem.W.fnOf "law" "law" (defArgs s_law) (defBody s_law) (defScope s_law) .none kV_law dc_law pm_law an_law cd_law ct_law, fun s v => .of_eq rfl, fun base _ _ => ?_⟩
  have FI := fun_mk l_I c_I k_I
  have OI := ok_init (P := l.prog) (w := w) (mg := mg) (base := base) FI
  have bI : Binds K _ ["self", "place"] [] := FI.binds (ps := ["self", "place"]) (fun _ _ _ _ _ _ us hl => match us, hl with | [_, _], _ => rfl)
  have Z_InvalidText : ErrC l.prog w K mg base "InvalidText" C_InvalidText := ⟨PySem.W.mg_of X G a_InvalidText, ⟨⟨⟨_, _, _, _, _, _, _, _, _, _, _, _, _, _, _, x_InvalidText, r_InvalidText⟩, sa_InvalidText, ex_InvalidText, ty_InvalidText, kp_InvalidText⟩, ⟨ga_InvalidText, gg_InvalidText, ex_InvalidText, hd_InvalidText, ha_InvalidText, hn_, ht_, hm_InvalidText⟩, ⟨rd_InvalidText, fd_InvalidText, ⟨_, t_InvalidText, x_InvalidText, rfl, rfl⟩⟩, np_InvalidText, nn_InvalidText⟩, ⟨f_I, _, iC_InvalidText, tI_, OI, bI⟩⟩
  have Z_InvalidJson : ErrC l.prog w K mg base "InvalidJson" C_InvalidJson := ⟨PySem.W.mg_of X G a_InvalidJson, ⟨⟨⟨_, _, _, _, _, _, _, _, _, _, _, _, _, _, _, x_InvalidJson, r_InvalidJson⟩, sa_InvalidJson, ex_InvalidJson, ty_InvalidJson, kp_InvalidJson⟩, ⟨ga_InvalidJson, gg_InvalidJson, ex_InvalidJson, hd_InvalidJson, ha_InvalidJson, hn_, ht_, hm_InvalidJson⟩, ⟨rd_InvalidJson, fd_InvalidJson, ⟨_, t_InvalidJson, x_InvalidJson, rfl, rfl⟩⟩, np_InvalidJson, nn_InvalidJson⟩, ⟨f_I, _, iC_InvalidJson, tI_, OI, bI⟩⟩
  have Z_JsonReader : Cls K O_JsonReader := ⟨pg_JsonReader, hdo_JsonReader, po_JsonReader, sao_JsonReader⟩
  have DM_JsonReader___init__ : DefM K O_JsonReader "__init__" "JsonReader.__init__" s_JsonReader___init__ ["self", "text"] := defM_mk im_JsonReader___init__ fm_JsonReader___init__ lm_JsonReader___init__ cm_JsonReader___init__ km_JsonReader___init__ (fun _ _ _ _ _ _ us hl => match us, hl with | [_, _], _ => rfl)
  have DM_JsonReader_peek : DefM K O_JsonReader "peek" "JsonReader.peek" s_JsonReader_peek ["self"] := defM_mk im_JsonReader_peek fm_JsonReader_peek lm_JsonReader_peek cm_JsonReader_peek km_JsonReader_peek (fun _ _ _ _ _ _ us hl => match us, hl with | [_], _ => rfl)
  have DM_JsonReader_peek_token : DefM K O_JsonReader "peek_token" "JsonReader.peek_token" s_JsonReader_peek_token ["self"] := defM_mk im_JsonReader_peek_token fm_JsonReader_peek_token lm_JsonReader_peek_token cm_JsonReader_peek_token km_JsonReader_peek_token (fun _ _ _ _ _ _ us hl => match us, hl with | [_], _ => rfl)
  have DM_JsonReader_read_whole : DefM K O_JsonReader "read_whole" "JsonReader.read_whole" s_JsonReader_read_whole ["self"] := defM_mk im_JsonReader_read_whole fm_JsonReader_read_whole lm_JsonReader_read_whole cm_JsonReader_read_whole km_JsonReader_read_whole (fun _ _ _ _ _ _ us hl => match us, hl with | [_], _ => rfl)
  have DM_JsonReader_read_value : DefM K O_JsonReader "read_value" "JsonReader.read_value" s_JsonReader_read_value ["self", "around"] := defM_mk im_JsonReader_read_value fm_JsonReader_read_value lm_JsonReader_read_value cm_JsonReader_read_value km_JsonReader_read_value (fun _ _ _ _ _ _ us hl => match us, hl with | [_, _], _ => rfl)
  have DM_JsonReader_skip_word : DefM K O_JsonReader "skip_word" "JsonReader.skip_word" s_JsonReader_skip_word ["self", "word"] := defM_mk im_JsonReader_skip_word fm_JsonReader_skip_word lm_JsonReader_skip_word cm_JsonReader_skip_word km_JsonReader_skip_word (fun _ _ _ _ _ _ us hl => match us, hl with | [_, _], _ => rfl)
  have DM_JsonReader_read_number : DefM K O_JsonReader "read_number" "JsonReader.read_number" s_JsonReader_read_number ["self"] := defM_mk im_JsonReader_read_number fm_JsonReader_read_number lm_JsonReader_read_number cm_JsonReader_read_number km_JsonReader_read_number (fun _ _ _ _ _ _ us hl => match us, hl with | [_], _ => rfl)
  have DM_JsonReader_read_string : DefM K O_JsonReader "read_string" "JsonReader.read_string" s_JsonReader_read_string ["self"] := defM_mk im_JsonReader_read_string fm_JsonReader_read_string lm_JsonReader_read_string cm_JsonReader_read_string km_JsonReader_read_string (fun _ _ _ _ _ _ us hl => match us, hl with | [_], _ => rfl)
  have DM_JsonReader_read_character : DefM K O_JsonReader "read_character" "JsonReader.read_character" s_JsonReader_read_character ["self"] := defM_mk im_JsonReader_read_character fm_JsonReader_read_character lm_JsonReader_read_character cm_JsonReader_read_character km_JsonReader_read_character (fun _ _ _ _ _ _ us hl => match us, hl with | [_], _ => rfl)
  have DM_JsonReader_read_escape : DefM K O_JsonReader "read_escape" "JsonReader.read_escape" s_JsonReader_read_escape ["self"] := defM_mk im_JsonReader_read_escape fm_JsonReader_read_escape lm_JsonReader_read_escape cm_JsonReader_read_escape km_JsonReader_read_escape (fun _ _ _ _ _ _ us hl => match us, hl with | [_], _ => rfl)
  have DM_JsonReader_read_code : DefM K O_JsonReader "read_code" "JsonReader.read_code" s_JsonReader_read_code ["self", "begin"] := defM_mk im_JsonReader_read_code fm_JsonReader_read_code lm_JsonReader_read_code cm_JsonReader_read_code km_JsonReader_read_code (fun _ _ _ _ _ _ us hl => match us, hl with | [_, _], _ => rfl)
  have DM_JsonReader_read_list : DefM K O_JsonReader "read_list" "JsonReader.read_list" s_JsonReader_read_list ["self", "depth"] := defM_mk im_JsonReader_read_list fm_JsonReader_read_list lm_JsonReader_read_list cm_JsonReader_read_list km_JsonReader_read_list (fun _ _ _ _ _ _ us hl => match us, hl with | [_, _], _ => rfl)
  have DM_JsonReader_read_dict : DefM K O_JsonReader "read_dict" "JsonReader.read_dict" s_JsonReader_read_dict ["self", "depth"] := defM_mk im_JsonReader_read_dict fm_JsonReader_read_dict lm_JsonReader_read_dict cm_JsonReader_read_dict km_JsonReader_read_dict (fun _ _ _ _ _ _ us hl => match us, hl with | [_, _], _ => rfl)
  have DM_JsonReader_read_key : DefM K O_JsonReader "read_key" "JsonReader.read_key" s_JsonReader_read_key ["self", "pairs"] := defM_mk im_JsonReader_read_key fm_JsonReader_read_key lm_JsonReader_read_key cm_JsonReader_read_key km_JsonReader_read_key (fun _ _ _ _ _ _ us hl => match us, hl with | [_, _], _ => rfl)
  have DM_JsonReader_read_end : DefM K O_JsonReader "read_end" "JsonReader.read_end" s_JsonReader_read_end ["self", "bracket"] := defM_mk im_JsonReader_read_end fm_JsonReader_read_end lm_JsonReader_read_end cm_JsonReader_read_end km_JsonReader_read_end (fun _ _ _ _ _ _ us hl => match us, hl with | [_, _], _ => rfl)
  have Z_Answer : Cls K O_Answer := ⟨pg_Answer, hdo_Answer, po_Answer, sao_Answer⟩
  have DM_Answer___init__ : DefM K O_Answer "__init__" "Answer.__init__" s_Answer___init__ ["self", "status", "headers", "body"] := defM_mk im_Answer___init__ fm_Answer___init__ lm_Answer___init__ cm_Answer___init__ km_Answer___init__ (fun _ _ _ _ _ _ us hl => match us, hl with | [_, _, _, _], _ => rfl)
  have R0 : RdC K O_JsonReader := ⟨Z_JsonReader, nf_JsonReader_text, nf_JsonReader_at⟩
  have c1 := ok_code (P := l.prog) (w := w) (base := base) D_is_code T
  have c2 := ok_char D_character_of T c1
  have c3 := ok_istext D_is_text T c1
  have c4 := ok_dec D_decode_text T Z_InvalidText c2
  have c5 := ok_enc (P := l.prog) (w := w) (base := base) D_encode_text T
  have d1 := ok_digit (P := l.prog) (w := w) (base := base) D_digit_of T
  have mp := ok_peek (P := l.prog) (w := w) (base := base) DM_JsonReader_peek R0 T
  have mt := ok_tok DM_JsonReader_peek_token R0 T Z_JsonReader mp
  have mc := ok_rcode DM_JsonReader_read_code R0 T Z_JsonReader Z_InvalidJson d1 c2 mp
  have me := ok_resc DM_JsonReader_read_escape R0 T Z_JsonReader Z_InvalidJson mp mc
  have mch := ok_rchar DM_JsonReader_read_character R0 T Z_JsonReader Z_InvalidJson c3 mp me
  have ms := ok_rstr DM_JsonReader_read_string R0 T Z_JsonReader mp mch
  have mw := ok_skip DM_JsonReader_skip_word R0 T Z_JsonReader Z_InvalidJson mp
  have mn := ok_numb DM_JsonReader_read_number R0 T Z_JsonReader Z_InvalidJson d1 mp
  have mE := ok_end DM_JsonReader_read_end R0 T Z_JsonReader Z_InvalidJson mt
  have mky := ok_key DM_JsonReader_read_key R0 T Z_JsonReader Z_InvalidJson mt ms
  have mv := ok_vals DM_JsonReader_read_value DM_JsonReader_read_list DM_JsonReader_read_dict R0 T Z_JsonReader Z_InvalidJson d1 mt ms mn mw mE mky 32 (by decide)
  have mwh := ok_rwhole DM_JsonReader_read_whole R0 T Z_JsonReader Z_InvalidJson mt mv
  have ki := ok_rinit (P := l.prog) (w := w) (base := base) DM_JsonReader___init__ mko_JsonReader kco_JsonReader (PySem.W.mg_of X G ao_JsonReader) R0 T
  have pj := ok_parse (C_J := C_InvalidJson) D_parse_json R0 T Z_JsonReader ki mwh
  have ws := ok_wstr (P := l.prog) (w := w) (base := base) D_write_string
  have wj := ok_wx D_write_json T ws 4
  have wls := ok_wl2 (P := l.prog) (w := w) (base := base) D_with_lists T 4
  have wts := ok_wt2 (P := l.prog) (w := w) (base := base) D_with_tuples T 4
  have wr := ok_written2 D_written T c5 wj wls
  have rb := ok_rback2 D_read_back T wts pj c4
  have RA : AnC K O_Answer := ⟨Z_Answer, nf_Answer_status, nf_Answer_headers, nf_Answer_body⟩
  have ka := ok_ainit (P := l.prog) (w := w) (base := base) DM_Answer___init__ mko_Answer kco_Answer (PySem.W.mg_of X G ao_Answer) RA T
  have so := ok_status (P := l.prog) (w := w) (base := base) D_status_of T
  have ao := ok_aoct D_answer_octets T ka so wr
  have ta := ok_told D_told_answer RA T rb
  have lrf := ok_refill (P := l.prog) (w := w) (base := base) D__law_refill T
  have ldw := ok_drw D__law_draw T lrf
  have lpk := ok_pick D__law_pick T ldw
  have lsg := ok_signs (P := l.prog) (w := w) (base := base) D__law_signs T
  have ltx := ok_txt D__law_text T ldw lpk lsg
  have lfa := ok_fact D__law_fact T ldw ltx 3
  have lli := ok_listed (P := l.prog) (w := w) (base := base) D__law_listed T 4
  have lal := ok_alike2 (P := l.prog) (w := w) (base := base) D__law_alike T 4
  have IA : C8.InsC K O_Answer := ⟨Z_Answer, ci_A, hn_, ht_, cm_A, by show (if (Value.ref O_Answer == Value.ref O_Answer) = true then some true else _) = some true; rw [ne_AA]; rfl⟩
  exact ok_law (fun_mk l_law c_law k_law) T IA RA ⟨_, PySem.W.mg_of X G ao_Answer, rfl⟩ ldw lfa ao pj c4 lli ta lal
end K65
open PySem PySem.W PyProof.Rows
set_option maxHeartbeats 0 in
theorem PySem.Challenge.cw_formkeeper_k65_answers_as_messages_holds : PySem.Challenge.rw_formkeeper_k65_answers_as_messages.Holds := by
  w_on; o_law; k_head; (case hw => w_witness2)
  k_fill
  refine L2.walk_of (l := PySem.Challenge.rw_formkeeper_k65_answers_as_messages) (n := 63) (k := 76) (x := "script") (CX := fun _ => L2.CX0) (sp := fun w => K65.spLaw _) rfl (by decide) rfl ⟨rfl, by decide, by decide⟩ (fun w h Y => PySem.W.kIn_of Y) ?F (fun _ _ a ns hl _ hS => ⟨_, ⟨a, ns, rfl, hS, hl, rfl⟩, fun _ _ => rfl⟩) (fun _ _ _ _ _ h => h)
  case F =>
    intro w mg fa h KX G hmg
    refine' K65.all_mk KX G hmg ?a_is_code ?l_is_code ?c_is_code ?k_is_code ?a_character_of ?l_character_of ?c_character_of ?k_character_of ?a_is_text ?l_is_text ?c_is_text ?k_is_text ?a_encode_text ?l_encode_text ?c_encode_text ?k_encode_text ?a_decode_text ?l_decode_text ?c_decode_text ?k_decode_text ?a_digit_of ?l_digit_of ?c_digit_of ?k_digit_of ?a_parse_json ?l_parse_json ?c_parse_json ?k_parse_json ?a_write_string ?l_write_string ?c_write_string ?k_write_string ?a_write_json ?l_write_json ?c_write_json ?k_write_json ?a_with_lists ?l_with_lists ?c_with_lists ?k_with_lists ?a_with_tuples ?l_with_tuples ?c_with_tuples ?k_with_tuples ?a_written ?l_written ?c_written ?k_written ?a_read_back ?l_read_back ?c_read_back ?k_read_back ?a_status_of ?l_status_of ?c_status_of ?k_status_of ?a_answer_octets ?l_answer_octets ?c_answer_octets ?k_answer_octets ?a_told_answer ?l_told_answer ?c_told_answer ?k_told_answer ?a__law_refill ?l__law_refill ?c__law_refill ?k__law_refill ?a__law_draw ?l__law_draw ?c__law_draw ?k__law_draw ?a__law_pick ?l__law_pick ?c__law_pick ?k__law_pick ?a__law_signs ?l__law_signs ?c__law_signs ?k__law_signs ?a__law_text ?l__law_text ?c__law_text ?k__law_text ?a__law_fact ?l__law_fact ?c__law_fact ?k__law_fact ?a__law_listed ?l__law_listed ?c__law_listed ?k__law_listed ?a__law_alike ?l__law_alike ?c__law_alike ?k__law_alike ?a_law ?l_law ?c_law ?k_law ?g_BELOW_PERCENT ?g_ABOVE_PERCENT ?g_TAB ?g_LINE_FEED ?g_SPACE ?g_PERCENT ?g_TILDE ?g_DEEPEST ?g_MOST_DIGITS ?g_DIGITS ?a_BLANKS ?l_BLANKS ?va_BLANKS ?a_WORDS ?l_WORDS ?va_WORDS ?a_HEADERS_OF_ANSWER ?l_HEADERS_OF_ANSWER ?va_HEADERS_OF_ANSWER ?z_len ?z_int ?z_range ?z_isinstance ?z_bool ?z_list ?z_dict ?z_ord ?z_enumerate ?z_str ?z_tuple ?z_all ?z_abs ?a_FormkeeperError ?ex_FormkeeperError ?ty_FormkeeperError ?ic_FormkeeperError ?a_InvalidText ?x_InvalidText ?r_InvalidText ?sa_InvalidText ?ex_InvalidText ?ty_InvalidText ?kp_InvalidText ?ga_InvalidText ?gg_InvalidText ?hd_InvalidText ?ha_InvalidText ?hm_InvalidText ?rd_InvalidText ?fd_InvalidText ?ic_InvalidText ?np_InvalidText ?nn_InvalidText ?a_InvalidJson ?x_InvalidJson ?r_InvalidJson ?sa_InvalidJson ?ex_InvalidJson ?ty_InvalidJson ?kp_InvalidJson ?ga_InvalidJson ?gg_InvalidJson ?hd_InvalidJson ?ha_InvalidJson ?hm_InvalidJson ?rd_InvalidJson ?fd_InvalidJson ?ic_InvalidJson ?np_InvalidJson ?nn_InvalidJson ?iC_InvalidText ?iC_InvalidJson ?hn_ ?ht_ ?tI_ ?l_I ?c_I ?k_I ?ao_JsonReader ?pg_JsonReader ?hdo_JsonReader ?po_JsonReader ?sao_JsonReader ?mko_JsonReader ?kco_JsonReader ?nf_JsonReader_text ?nf_JsonReader_at ?im_JsonReader___init__ ?fm_JsonReader___init__ ?lm_JsonReader___init__ ?cm_JsonReader___init__ ?km_JsonReader___init__ ?im_JsonReader_peek ?fm_JsonReader_peek ?lm_JsonReader_peek ?cm_JsonReader_peek ?km_JsonReader_peek ?im_JsonReader_peek_token ?fm_JsonReader_peek_token ?lm_JsonReader_peek_token ?cm_JsonReader_peek_token ?km_JsonReader_peek_token ?im_JsonReader_read_whole ?fm_JsonReader_read_whole ?lm_JsonReader_read_whole ?cm_JsonReader_read_whole ?km_JsonReader_read_whole ?im_JsonReader_read_value ?fm_JsonReader_read_value ?lm_JsonReader_read_value ?cm_JsonReader_read_value ?km_JsonReader_read_value ?im_JsonReader_skip_word ?fm_JsonReader_skip_word ?lm_JsonReader_skip_word ?cm_JsonReader_skip_word ?km_JsonReader_skip_word ?im_JsonReader_read_number ?fm_JsonReader_read_number ?lm_JsonReader_read_number ?cm_JsonReader_read_number ?km_JsonReader_read_number ?im_JsonReader_read_string ?fm_JsonReader_read_string ?lm_JsonReader_read_string ?cm_JsonReader_read_string ?km_JsonReader_read_string ?im_JsonReader_read_character ?fm_JsonReader_read_character ?lm_JsonReader_read_character ?cm_JsonReader_read_character ?km_JsonReader_read_character ?im_JsonReader_read_escape ?fm_JsonReader_read_escape ?lm_JsonReader_read_escape ?cm_JsonReader_read_escape ?km_JsonReader_read_escape ?im_JsonReader_read_code ?fm_JsonReader_read_code ?lm_JsonReader_read_code ?cm_JsonReader_read_code ?km_JsonReader_read_code ?im_JsonReader_read_list ?fm_JsonReader_read_list ?lm_JsonReader_read_list ?cm_JsonReader_read_list ?km_JsonReader_read_list ?im_JsonReader_read_dict ?fm_JsonReader_read_dict ?lm_JsonReader_read_dict ?cm_JsonReader_read_dict ?km_JsonReader_read_dict ?im_JsonReader_read_key ?fm_JsonReader_read_key ?lm_JsonReader_read_key ?cm_JsonReader_read_key ?km_JsonReader_read_key ?im_JsonReader_read_end ?fm_JsonReader_read_end ?lm_JsonReader_read_end ?cm_JsonReader_read_end ?km_JsonReader_read_end ?ao_Answer ?pg_Answer ?hdo_Answer ?po_Answer ?sao_Answer ?mko_Answer ?kco_Answer ?nf_Answer_status ?nf_Answer_headers ?nf_Answer_body ?im_Answer___init__ ?fm_Answer___init__ ?lm_Answer___init__ ?cm_Answer___init__ ?km_Answer___init__ ?l_W0 ?va_W0 ?l_W1 ?va_W1 ?l_W2 ?va_W2 ?a_ESCAPES ?l_ESCAPES ?va_ESC ?va_LIT ?ne_ESC ?l_H0 ?va_H0 ?a_STATUSES ?l_STATUSES ?va_STT ?va_STK ?ne_STT ?ci_A ?cm_A ?ne_AA
    (case a_is_code => k_is); (case l_is_code => k_is); (case c_is_code => k_is); (case k_is_code => k_is); (case a_character_of => k_is); (case l_character_of => k_is); (case c_character_of => k_is); (case k_character_of => k_is); (case a_is_text => k_is); (case l_is_text => k_is); (case c_is_text => k_is); (case k_is_text => k_is); (case a_encode_text => k_is); (case l_encode_text => k_is); (case c_encode_text => k_is); (case k_encode_text => k_is); (case a_decode_text => k_is); (case l_decode_text => k_is); (case c_decode_text => k_is); (case k_decode_text => k_is); (case a_digit_of => k_is); (case l_digit_of => k_is); (case c_digit_of => k_is); (case k_digit_of => k_is); (case a_parse_json => k_is); (case l_parse_json => k_is); (case c_parse_json => k_is); (case k_parse_json => k_is); (case a_write_string => k_is); (case l_write_string => k_is); (case c_write_string => k_is); (case k_write_string => k_is); (case a_write_json => k_is); (case l_write_json => k_is); (case c_write_json => k_is); (case k_write_json => k_is); (case a_with_lists => k_is); (case l_with_lists => k_is); (case c_with_lists => k_is); (case k_with_lists => k_is); (case a_with_tuples => k_is); (case l_with_tuples => k_is); (case c_with_tuples => k_is); (case k_with_tuples => k_is); (case a_written => k_is); (case l_written => k_is); (case c_written => k_is); (case k_written => k_is); (case a_read_back => k_is); (case l_read_back => k_is); (case c_read_back => k_is); (case k_read_back => k_is); (case a_status_of => k_is); (case l_status_of => k_is); (case c_status_of => k_is); (case k_status_of => k_is); (case a_answer_octets => k_is); (case l_answer_octets => k_is); (case c_answer_octets => k_is); (case k_answer_octets => k_is); (case a_told_answer => k_is); (case l_told_answer => k_is); (case c_told_answer => k_is); (case k_told_answer => k_is); (case a__law_refill => k_is); (case l__law_refill => k_is); (case c__law_refill => k_is); (case k__law_refill => k_is); (case a__law_draw => k_is); (case l__law_draw => k_is); (case c__law_draw => k_is); (case k__law_draw => k_is); (case a__law_pick => k_is); (case l__law_pick => k_is); (case c__law_pick => k_is); (case k__law_pick => k_is); (case a__law_signs => k_is); (case l__law_signs => k_is); (case c__law_signs => k_is); (case k__law_signs => k_is); (case a__law_text => k_is); (case l__law_text => k_is); (case c__law_text => k_is); (case k__law_text => k_is); (case a__law_fact => k_is); (case l__law_fact => k_is); (case c__law_fact => k_is); (case k__law_fact => k_is); (case a__law_listed => k_is); (case l__law_listed => k_is); (case c__law_listed => k_is); (case k__law_listed => k_is); (case a__law_alike => k_is); (case l__law_alike => k_is); (case c__law_alike => k_is); (case k__law_alike => k_is); (case a_law => k_is); (case l_law => k_is); (case c_law => k_is); (case k_law => k_is); (case g_BELOW_PERCENT => k_is); (case g_ABOVE_PERCENT => k_is); (case g_TAB => k_is); (case g_LINE_FEED => k_is); (case g_SPACE => k_is); (case g_PERCENT => k_is); (case g_TILDE => k_is); (case g_DEEPEST => k_is); (case g_MOST_DIGITS => k_is); (case g_DIGITS => k_is); (case a_BLANKS => k_is); (case l_BLANKS => k_is); (case va_BLANKS => first | k_is | rfl | decide +kernel); (case a_WORDS => k_is); (case l_WORDS => k_is); (case va_WORDS => first | k_is | rfl | decide +kernel); (case a_HEADERS_OF_ANSWER => k_is); (case l_HEADERS_OF_ANSWER => k_is); (case va_HEADERS_OF_ANSWER => first | k_is | rfl | decide +kernel); (case z_len => k_is); (case z_int => k_is); (case z_range => k_is); (case z_isinstance => k_is); (case z_bool => k_is); (case z_list => k_is); (case z_dict => k_is); (case z_ord => k_is); (case z_enumerate => k_is); (case z_str => k_is); (case z_tuple => k_is); (case z_all => k_is); (case z_abs => k_is); (case a_FormkeeperError => k_is); (case ex_FormkeeperError => k_is); (case ty_FormkeeperError => k_is); (case ic_FormkeeperError => k_is); (case a_InvalidText => k_is); (case x_InvalidText => k_is); (case r_InvalidText => first | k_is | rfl | decide +kernel); (case sa_InvalidText => k_is); (case ex_InvalidText => k_is); (case ty_InvalidText => k_is); (case kp_InvalidText => k_is); (case ga_InvalidText => k_is); (case gg_InvalidText => k_is); (case hd_InvalidText => k_is); (case ha_InvalidText => k_is); (case hm_InvalidText => k_is); (case rd_InvalidText => k_is); (case fd_InvalidText => k_is); (case ic_InvalidText => k_is); (case np_InvalidText => k_is); (case nn_InvalidText => k_is); (case a_InvalidJson => k_is); (case x_InvalidJson => k_is); (case r_InvalidJson => first | k_is | rfl | decide +kernel); (case sa_InvalidJson => k_is); (case ex_InvalidJson => k_is); (case ty_InvalidJson => k_is); (case kp_InvalidJson => k_is); (case ga_InvalidJson => k_is); (case gg_InvalidJson => k_is); (case hd_InvalidJson => k_is); (case ha_InvalidJson => k_is); (case hm_InvalidJson => k_is); (case rd_InvalidJson => k_is); (case fd_InvalidJson => k_is); (case ic_InvalidJson => k_is); (case np_InvalidJson => k_is); (case nn_InvalidJson => k_is); (case iC_InvalidText => k_is); (case iC_InvalidJson => k_is); (case hn_ => k_is); (case ht_ => k_is); (case tI_ => k_is); (case l_I => k_is); (case c_I => k_is); (case k_I => k_is); (case ao_JsonReader => k_is); (case pg_JsonReader => k_is); (case hdo_JsonReader => k_is); (case po_JsonReader => k_is); (case sao_JsonReader => k_is); (case mko_JsonReader => k_is); (case kco_JsonReader => k_is); (case nf_JsonReader_text => k_is); (case nf_JsonReader_at => k_is); (case im_JsonReader___init__ => k_is); (case fm_JsonReader___init__ => k_is); (case lm_JsonReader___init__ => k_is); (case cm_JsonReader___init__ => k_is); (case km_JsonReader___init__ => k_is); (case im_JsonReader_peek => k_is); (case fm_JsonReader_peek => k_is); (case lm_JsonReader_peek => k_is); (case cm_JsonReader_peek => k_is); (case km_JsonReader_peek => k_is); (case im_JsonReader_peek_token => k_is); (case fm_JsonReader_peek_token => k_is); (case lm_JsonReader_peek_token => k_is); (case cm_JsonReader_peek_token => k_is); (case km_JsonReader_peek_token => k_is); (case im_JsonReader_read_whole => k_is); (case fm_JsonReader_read_whole => k_is); (case lm_JsonReader_read_whole => k_is); (case cm_JsonReader_read_whole => k_is); (case km_JsonReader_read_whole => k_is); (case im_JsonReader_read_value => k_is); (case fm_JsonReader_read_value => k_is); (case lm_JsonReader_read_value => k_is); (case cm_JsonReader_read_value => k_is); (case km_JsonReader_read_value => k_is); (case im_JsonReader_skip_word => k_is); (case fm_JsonReader_skip_word => k_is); (case lm_JsonReader_skip_word => k_is); (case cm_JsonReader_skip_word => k_is); (case km_JsonReader_skip_word => k_is); (case im_JsonReader_read_number => k_is); (case fm_JsonReader_read_number => k_is); (case lm_JsonReader_read_number => k_is); (case cm_JsonReader_read_number => k_is); (case km_JsonReader_read_number => k_is); (case im_JsonReader_read_string => k_is); (case fm_JsonReader_read_string => k_is); (case lm_JsonReader_read_string => k_is); (case cm_JsonReader_read_string => k_is); (case km_JsonReader_read_string => k_is); (case im_JsonReader_read_character => k_is); (case fm_JsonReader_read_character => k_is); (case lm_JsonReader_read_character => k_is); (case cm_JsonReader_read_character => k_is); (case km_JsonReader_read_character => k_is); (case im_JsonReader_read_escape => k_is); (case fm_JsonReader_read_escape => k_is); (case lm_JsonReader_read_escape => k_is); (case cm_JsonReader_read_escape => k_is); (case km_JsonReader_read_escape => k_is); (case im_JsonReader_read_code => k_is); (case fm_JsonReader_read_code => k_is); (case lm_JsonReader_read_code => k_is); (case cm_JsonReader_read_code => k_is); (case km_JsonReader_read_code => k_is); (case im_JsonReader_read_list => k_is); (case fm_JsonReader_read_list => k_is); (case lm_JsonReader_read_list => k_is); (case cm_JsonReader_read_list => k_is); (case km_JsonReader_read_list => k_is); (case im_JsonReader_read_dict => k_is); (case fm_JsonReader_read_dict => k_is); (case lm_JsonReader_read_dict => k_is); (case cm_JsonReader_read_dict => k_is); (case km_JsonReader_read_dict => k_is); (case im_JsonReader_read_key => k_is); (case fm_JsonReader_read_key => k_is); (case lm_JsonReader_read_key => k_is); (case cm_JsonReader_read_key => k_is); (case km_JsonReader_read_key => k_is); (case im_JsonReader_read_end => k_is); (case fm_JsonReader_read_end => k_is); (case lm_JsonReader_read_end => k_is); (case cm_JsonReader_read_end => k_is); (case km_JsonReader_read_end => k_is); (case ao_Answer => k_is); (case pg_Answer => k_is); (case hdo_Answer => k_is); (case po_Answer => k_is); (case sao_Answer => k_is); (case mko_Answer => k_is); (case kco_Answer => k_is); (case nf_Answer_status => k_is); (case nf_Answer_headers => k_is); (case nf_Answer_body => k_is); (case im_Answer___init__ => k_is); (case fm_Answer___init__ => k_is); (case lm_Answer___init__ => k_is); (case cm_Answer___init__ => k_is); (case km_Answer___init__ => k_is); (case l_W0 => k_is); (case va_W0 => first | k_is | rfl | decide +kernel); (case l_W1 => k_is); (case va_W1 => first | k_is | rfl | decide +kernel); (case l_W2 => k_is); (case va_W2 => first | k_is | rfl | decide +kernel); (case a_ESCAPES => k_is); (case l_ESCAPES => k_is); (case va_ESC => first | k_is | rfl | decide +kernel); (case va_LIT => first | k_is | rfl | decide +kernel); (case ne_ESC => first | k_is | rfl | decide +kernel); (case l_H0 => k_is); (case va_H0 => first | k_is | rfl | decide +kernel); (case a_STATUSES => k_is); (case l_STATUSES => k_is); (case va_STT => first | k_is | rfl | decide +kernel); (case va_STK => first | k_is | rfl | decide +kernel); (case ne_STT => first | k_is | rfl | decide +kernel); (case ci_A => k_is); (case cm_A => k_is); (case ne_AA => first | k_is | rfl | decide +kernel)
