import PyProof.Rows.All
import Wide.All
import OpenK.AllK
import Wide.FinOn
import HandS.ForMost
import HandS.ForExc
import HandS.Codes
import HandS.IsInst
import HandS.ExcInit
import HandS.ExcValue
import KE.KExcIs
import HandS.ExcIs
import HandS.ExcField
import PySem.Challenge.RW_corestore_k31_errors_made_by_hand
set_option Elab.async false
set_option maxRecDepth 100000
/-! MyA: what every law needs: data in the abstract heap, repr of data, displays as data -/
namespace My
open PySem PySem.Spec PyProof.Rows L2

/-- the abstract heap without what stands at d -/
def off (d : Addr) (H : Hp) : Hp := fun b => if b = d then none else H b
/-- all but what stands at d is as it was -/
def Fr (d : Addr) (H H' : Hp) : Prop := ∀ b o, b ≠ d → H b = some o → H' b = some o
theorem Fr.refl (d : Addr) (H : Hp) : Fr d H H := fun _ _ _ h => h
theorem Fr.trans {d : Addr} {H H1 H2 : Hp} (a : Fr d H H1) (b : Fr d H1 H2) : Fr d H H2 := fun c o n h => b c o n (a c o n h)
theorem same_fr {d : Addr} {H H' : Hp} (a : Same H H') : Fr d H H' := fun c o _ h => a c o h
theorem Fr.off {d : Addr} {H H' : Hp} (a : Fr d H H') : Same (off d H) (off d H') := fun b o h => by
  unfold My.off at h ⊢
  by_cases e : b = d
  · rw [if_pos e] at h
    cases h
  · rw [if_neg e] at h ⊢
    exact a b o e h
theorem off_le {d : Addr} {H : Hp} : Same (off d H) H := fun b o h => by
  unfold off at h
  by_cases e : b = d
  · rw [if_pos e] at h
    cases h
  · rw [if_neg e] at h
    exact h
theorem off_at {d b : Addr} {H : Hp} {o : HO} (n : b ≠ d) (h : H b = some o) : off d H b = some o := by
  unfold off
  rw [if_neg n]
  exact h
theorem same_new {H : Hp} {p : Addr} {o : HO} (n : H p = none) : Same H (upd H p o) := fun b u h => by
  rw [upd_ne (ne_of_none h n)]
  exact h
theorem fr_upd {H : Hp} {d : Addr} {o : HO} : Fr d H (upd H d o) := fun b u n h => by
  rw [upd_ne n]
  exact h
theorem same_seqT {K : PySem.W.Frag} {H H' : Hp} {a : Addr} {xs : List V} (e : Same H H') (h : SqT K H a xs) : SqT K H' a xs := by
  rcases h with (h | ⟨o, h⟩) | h
  · exact .inl (.inl (e _ _ h))
  · exact .inl (.inr ⟨o, e _ _ h⟩)
  · exact .inr h

section
variable {K : PySem.W.Frag} {H H' : Hp}
mutual
theorem dp_same (e : Same H H') : ∀ (d : PyData) (v : V), Dp K H v d → Dp K H' v d
  | .none, _, h => by cases h; exact .non
  | .bool _, _, h => by cases h; exact .bl _
  | .int _, _, h => by cases h; exact .int _
  | .str _, _, h => by cases h; exact .str _
  | .list ds, _, h => by
    cases h with
    | lst hs ha => exact .lst (Same.seq e hs) (dps_same e ds _ ha)
  | .tuple ds, _, h => by
    cases h with
    | tup hs ha => exact .tup (same_seqT e hs) (dps_same e ds _ ha)
  | .dict _, _, h => by cases h
theorem dps_same (e : Same H H') : ∀ (ds : List PyData) (vs : List V), DpAll K H vs ds → DpAll K H' vs ds
  | [], _, h => by cases h; exact .nil
  | d :: ds, _, h => by
    cases h with
    | cons h1 h2 => exact .cons (dp_same e d _ h1) (dps_same e ds _ h2)
end
theorem dps_len : ∀ {ds : List PyData} {vs : List V}, DpAll K H vs ds → vs.length = ds.length
  | [], _, h => by cases h; rfl
  | d :: ds, _, h => by
    cases h with
    | cons h1 h2 => rw [List.length_cons, List.length_cons, dps_len h2]
theorem dps_get : ∀ {ds : List PyData} {vs : List V} {j : Nat} {v : V}, DpAll K H vs ds → vs[j]? = some v → ∃ d, ds[j]? = some d ∧ Dp K H v d
  | [], _, j, v, h, e => by cases h; simp at e
  | d :: ds, _, j, v, h, e => by
    cases h with
    | cons h1 h2 =>
      cases j with
      | zero =>
        simp at e
        subst e
        exact ⟨d, rfl, h1⟩
      | succ j =>
        obtain ⟨z, hz, hd⟩ := dps_get (j := j) (v := v) h2 (by simpa using e)
        exact ⟨z, by simpa using hz, hd⟩
theorem dps_app : ∀ {ds es : List PyData} {vs us : List V}, DpAll K H vs ds → DpAll K H us es → DpAll K H (vs ++ us) (ds ++ es)
  | [], _, _, _, h, g => by cases h; exact g
  | d :: ds, _, _, _, h, g => by
    cases h with
    | cons h1 h2 => exact .cons h1 (dps_app h2 g)
mutual
theorem dp_noDict : ∀ (d : PyData) (v : V), Dp K H v d → d.hasDict = false
  | .none, _, _ => by simp only [PyData.hasDict]
  | .bool _, _, _ => by simp only [PyData.hasDict]
  | .int _, _, _ => by simp only [PyData.hasDict]
  | .str _, _, _ => by simp only [PyData.hasDict]
  | .list ds, _, h => by
    cases h with
    | lst hs ha => simp only [PyData.hasDict]; exact dps_noDict ds _ ha
  | .tuple ds, _, h => by
    cases h with
    | tup hs ha => simp only [PyData.hasDict]; exact dps_noDict ds _ ha
  | .dict _, _, h => by cases h
theorem dps_noDict : ∀ (ds : List PyData) (vs : List V), DpAll K H vs ds → PyData.hasDictAll ds = false
  | [], _, _ => by simp only [PyData.hasDictAll]
  | d :: ds, _, h => by
    cases h with
    | cons h1 h2 => simp only [PyData.hasDictAll, dp_noDict d _ h1, dps_noDict ds _ h2, Bool.or_false]
end
end

/-! ### repr of data -/
def rRepr (K : PySem.W.Frag) : List V → Hp → VK → Prop := fun xs H Q => ∃ (x : V) (d : PyData), xs = [x] ∧ Dp K H x d ∧ d.showable = true ∧ d.depth ≤ 60 ∧ d.shown.length ≤ sizeLine ∧ Q (.str d.shown) H
theorem cr_repr {X : Cx} (hg : X.A.guards = some []) (hu : X.A.units + 64 < cLine) : CallR X (.builtin "repr") (rRepr X.K) := by
  intro pins s σ H xs us Q I r h
  obtain ⟨x, d, rfl, hd, hs, hz, hl, q⟩ := h
  obtain ⟨u, rfl, ru⟩ := vals1 r
  obtain ⟨as, rd⟩ := Dp.reads I d x u hd ru
  have nd := dp_noDict d x hd
  cases hd with
  | non =>
    cases (show u = Value.none from ru)
    have e : (PyData.none).shown = ("None" : Str) := by simp only [PyData.shown]
    rw [e] at q
    exact PySem.P.repr_of_none ⟨.str _, H, I.tok _, ⟨_, rfl⟩, q⟩
  | bl b =>
    cases (show u = Value.bool b from ru)
    have e : (PyData.bool b).shown = (if b then Str.ofString "True" else Str.ofString "False") := by simp only [PyData.shown]
    rw [e] at q
    exact PySem.P.repr_of_bool ⟨.str _, H, I.tok _, ⟨_, rfl⟩, q⟩
  | int i =>
    obtain ⟨t, rfl⟩ := (show ∃ t, u = Value.int i t from ru)
    have e : (PyData.int i).shown = (toString i : String) := by simp only [PyData.shown]
    rw [e] at q
    exact PySem.P.repr_of_int (by simpa [PyData.showable] using hs) ⟨.str _, H, I.tok _, ⟨_, rfl⟩, q⟩
  | str z =>
    obtain ⟨t, rfl⟩ := (show ∃ t, u = Value.str z t from ru)
    have e : (PyData.str z).shown = reprText z := by simp only [PyData.shown]
    rw [e] at q hl
    exact PySem.P.repr_of_str ⟨.str _, H, I.tok _, ⟨_, rfl⟩, q⟩ hl
  | @lst a xs ds h1 h2 =>
    cases (show u = Value.ref a from ru)
    exact repr_of_reads' (h₀ := s.heap) rd hs (PyData.noDict_hsm nd) hg (by omega) (fun _ _ e => e) (fun h' u tk hk => ⟨.str _, H, I.kept hk, ⟨u, rfl⟩, q⟩) hl
  | @tup a xs ds h1 h2 =>
    cases (show u = Value.ref a from ru)
    exact repr_of_reads' (h₀ := s.heap) rd hs (PyData.noDict_hsm nd) hg (by omega) (fun _ _ e => e) (fun h' u tk hk => ⟨.str _, H, I.kept hk, ⟨u, rfl⟩, q⟩) hl

/-! ### displays as data -/
/-- what of H' is new -/
def newp (H H' : Hp) : Hp := fun b => if H b = none then H' b else none
theorem newp_at {H H' : Hp} {b : Addr} {o : HO} (n : H b = none) (h : H' b = some o) : newp H H' b = some o := by
  unfold newp
  rw [if_pos n]
  exact h
theorem newp_of {H H' : Hp} {b : Addr} {o : HO} (h : newp H H' b = some o) : H b = none ∧ H' b = some o := by
  unfold newp at h
  by_cases e : H b = none
  · rw [if_pos e] at h
    exact ⟨e, h⟩
  · rw [if_neg e] at h
    cases h
theorem newp_le {H H' : Hp} : Same (newp H H') H' := fun _ _ h => (newp_of h).2
theorem newp_out {H H1 H2 : Hp} (e : Same H1 H2) : Same (newp H H1) (newp H H2) := fun b o h => newp_at (newp_of h).1 (e b o (newp_of h).2)
theorem newp_in {H H1 H2 : Hp} (e : Same H H1) : Same (newp H1 H2) (newp H H2) := fun _ _ h => newp_at (e.free (newp_of h).1) (newp_of h).2
theorem newp_off {H H' : Hp} {d : Addr} {o : HO} (h : H d = some o) : Same (newp H H') (off d H') := fun b u q => off_at (fun e => by
    subst e
    have z := (newp_of q).1
    rw [h] at z
    cases z) (newp_of q).2
def tD (K : PySem.W.Frag) (d : PyData) : TE := fun _ H Q => ∀ (v : V) (H' : Hp), Same H H' → Dp K (newp H H') v d → Q v H'
def tDs (K : PySem.W.Frag) (ds : List PyData) : TA := fun _ H Q => ∀ (vs : List V) (H' : Hp), Same H H' → DpAll K (newp H H') vs ds → Q vs H'
section
variable {X : Cx} {e : Expr} {es : List Expr} {d : PyData} {ds : List PyData} {pos : Pos}
theorem pe_of {t t' : TE} (h : PE X e t) (i : ∀ σ H Q, t' σ H Q → t σ H Q) : PE X e t' := ⟨fun pins s σ H Q I q => h.run pins s σ H Q I (i σ H Q q)⟩
theorem pa_of {t t' : TA} (h : PA X es t) (i : ∀ σ H Q, t' σ H Q → t σ H Q) : PA X es t' := ⟨fun p pins s σ H Q I q => h.run p pins s σ H Q I (i σ H Q q)⟩
theorem pd_non {j} : PE X (.Constant .none j pos) (tD X.K .none) := pe_of pe_non fun _ H _ q => q _ H (Same.refl H) .non
theorem pd_bl {b j} : PE X (.Constant (.bool b) j pos) (tD X.K (.bool b)) := pe_of pe_bl fun _ H _ q => q _ H (Same.refl H) (.bl b)
theorem pd_int {i j} : PE X (.Constant (.int i) j pos) (tD X.K (.int i)) := pe_of pe_int fun _ H _ q => q _ H (Same.refl H) (.int i)
theorem pd_str {x j} : PE X (.Constant (.str x) j pos) (tD X.K (.str x)) := pe_of pe_str fun _ H _ q => q _ H (Same.refl H) (.str x)
theorem pds_nil : PA X [] (tDs X.K []) := pa_of pa_nil fun _ H _ q => q _ H (Same.refl H) .nil
theorem pds_cons (he : PE X e (tD X.K d)) (hes : PA X es (tDs X.K ds)) (hs : starEach (e :: es) X.env = (false, eval e X.env) :: starEach es X.env := by rfl) : PA X (e :: es) (tDs X.K (d :: ds)) :=
  pa_of (pa_cons he hes hs) fun _ _ _ q v _ s1 h1 vs _ s2 h2 => q (v :: vs) _ (s1.trans s2) (.cons (dp_same (newp_out s2) d v h1) (dps_same (newp_in s1) ds vs h2))
theorem pd_tup {x1} (h : PA X es (tDs X.K ds)) (hz : ds.length ≤ sizeLine := by decide) : PE X (.Tuple es x1 pos) (tD X.K (.tuple ds)) :=
  pe_of (pe_tup h) fun _ _ _ q vs H1 s1 h1 => ⟨by rw [dps_len h1]; exact hz, fun p np => q (.ref p) _ (s1.trans (same_new np)) (.tup (.inl (.inl (newp_at (s1.free np) upd_same))) (dps_same (newp_out (same_new np)) ds vs h1))⟩
/-- a list display, its items told too: it is a new list -/
def tDL (K : PySem.W.Frag) (ds : List PyData) : TE := fun _ H Q => ∀ (p : Addr) (vs : List V) (H' : Hp), Same H H' → H p = none → H' p = some (.lst vs) → DpAll K (newp H H') vs ds → vs.length = ds.length → Q (.ref p) H'
theorem pdl (h : PA X es (tDs X.K ds)) (hz : ds.length ≤ sizeLine := by decide) : PE X (.List es pos) (tDL X.K ds) :=
  pe_of (pe_lst h) fun _ _ _ q vs H1 s1 h1 => ⟨by rw [dps_len h1]; exact hz, fun p np => q p vs _ (s1.trans (same_new np)) (s1.free np) upd_same (dps_same (newp_out (same_new np)) ds vs h1) (dps_len h1)⟩
theorem pd_lst (h : PA X es (tDs X.K ds)) (hz : ds.length ≤ sizeLine := by decide) : PE X (.List es pos) (tD X.K (.list ds)) :=
  pe_of (pdl h hz) fun _ _ _ q p _ H1 s1 np hp h1 _ => q (.ref p) H1 s1 (.lst (.inl (.inl (newp_at np hp))) h1)
end
end My

namespace My
open PySem PySem.Spec PyProof.Rows L2
def top (i : Nat) : Stmt := PySem.Challenge.pw_corestore_k31_errors_made_by_hand.main.body.getD i (.Pass ⟨0, 0, 0, 0⟩)
abbrev sDeck : Stmt := top 9
abbrev sDraw : Stmt := top 10
abbrev sOne : Stmt := top 11

/-- the built-in names that the helpers use are still the built-in ones -/
structure Blt (mg : Str → Option Value) : Prop where
  int : mg "int" = none
  len : mg "len" = none
  abs : mg "abs" = none
  list : mg "list" = none
  range : mg "range" = none
  repr : mg "repr" = none
/-- a deck at d: its cells ns at l, at most k draws so far -/
structure Deck (H : Hp) (d l : Addr) (ns : List Int) (k : Nat) : Prop where
  ex : ∃ i r n : Int, H d = some (.lst [.ref l, .int i, .int r, .int n]) ∧ 0 ≤ n ∧ n ≤ k
  cells : H l = some (.lst (ns.map V.int))
theorem Deck.ne {H : Hp} {d l : Addr} {ns : List Int} {k : Nat} (D : Deck H d l ns k) : l ≠ d := by
  intro e
  obtain ⟨⟨i, r, n, h, _⟩, c⟩ := D
  rw [e, h] at c
  have c' := HO.lst.inj (Option.some.inj c)
  cases ns with
  | nil => cases c'
  | cons z zs => cases (List.cons.inj c').1
theorem Deck.mono {H : Hp} {d l : Addr} {ns : List Int} {k j : Nat} (D : Deck H d l ns k) (h : k ≤ j) : Deck H d l ns j := by
  obtain ⟨⟨i, r, n, e, h0, h1⟩, c⟩ := D
  exact ⟨⟨i, r, n, e, h0, by omega⟩, c⟩
theorem Deck.same {H H' : Hp} {d l : Addr} {ns : List Int} {k : Nat} (D : Deck H d l ns k) (e : Same H H') : Deck H' d l ns k := by
  obtain ⟨⟨i, r, n, h, hn⟩, c⟩ := D
  exact ⟨⟨i, r, n, e _ _ h, hn⟩, e _ _ c⟩
/-- the deck is made of the script -/
def spDeck (K : PySem.W.Frag) : Sp := fun vs H Q _ => ∃ (a : Addr) (ns : List Int), vs = [.ref a] ∧ SqL K H a (ns.map V.int) ∧ ns.length ≤ 63 ∧ ∀ (d l : Addr) (ms : List Int) (H' : Hp), Deck H' d l ms 0 → H d = none → H l = none → ms.length ≤ 63 → Same H H' → Q (.ref d) H'
/-- a draw below m -/
def spDraw : Sp := fun vs H Q _ => ∃ (d l : Addr) (ns : List Int) (k : Nat) (m : Int), vs = [.ref d, .int m] ∧ 0 < m ∧ m < 1073741824 ∧ Deck H d l ns k ∧ ns.length ≤ 63 ∧ k < 1073741824 ∧
  ∀ (v : Int) (H' : Hp), 0 ≤ v → v < m → Deck H' d l ns (k + 1) → Fr d H H' → Q (.int v) H'
/-- an item of a list or tuple, or a sign of a text -/
def spOne (K : PySem.W.Frag) : Sp := fun vs H Q _ => ∃ (d l : Addr) (ns : List Int) (k : Nat) (x : V), vs = [.ref d, x] ∧ Deck H d l ns k ∧ ns.length ≤ 63 ∧ k < 1073741824 ∧
  ((∃ (p : Addr) (xs : List V), x = .ref p ∧ p ≠ d ∧ (SqL K (off d H) p xs ∨ SqT K (off d H) p xs) ∧ xs ≠ [] ∧ xs.length < 1000000 ∧
    ∀ (j : Nat) (v : V) (H' : Hp), xs[j]? = some v → Deck H' d l ns (k + 1) → Fr d H H' → Q v H') ∨
   (∃ z : Str, x = .str z ∧ 0 < z.length ∧ z.length < 1000000 ∧ ∀ (c : Nat) (H' : Hp), c ∈ z.cps.toList → Deck H' d l ns (k + 1) → Fr d H H' → Q (.str ⟨#[c]⟩) H'))

theorem dps_ints {K : PySem.W.Frag} {H : Hp} : ∀ ns : List Int, DpAll K H (ns.map V.int) (ns.map PyData.int)
  | [] => .nil
  | z :: zs => .cons (.int z) (dps_ints zs)
theorem ints_lay : ∀ ns : List Int, PyData.canLayAll0 (ns.map PyData.int) = true
  | [] => by simp [PyData.canLayAll0]
  | z :: zs => by
    have h := ints_lay zs
    simp [PyData.canLayAll0, PyData.canLay0, h]
theorem ints_depth : ∀ ns : List Int, PyData.depthAll (ns.map PyData.int) = 0
  | [] => by simp [PyData.depthAll]
  | z :: zs => by
    have h := ints_depth zs
    simp [PyData.depthAll, PyData.depth, h]
theorem ints_shaped (ns : List Int) : SeqAt.shaped (.list (ns.map PyData.int)) = true := by
  unfold SeqAt.shaped
  rw [Bool.and_eq_true]
  refine ⟨?_, decide_eq_true ?_⟩
  · simp only [PyData.canLay0]
    exact ints_lay ns
  · simp only [PyData.depth, ints_depth]
    omega
theorem place {i : Int} {n : Nat} (h : 0 < n) : ∃ j : Nat, i % (n : Int) = (j : Int) ∧ j < n := by
  have h1 : 0 ≤ i % (n : Int) := Int.emod_nonneg i (by omega)
  have h2 : i % (n : Int) < (n : Int) := Int.emod_lt_of_pos i (by omega)
  exact ⟨(i % (n : Int)).toNat, by omega, by omega⟩
theorem small_prod {a b : Int} {p q : Nat} (ha0 : 0 ≤ a) (ha : a < p) (hb0 : 0 ≤ b) (hb : b < q) : a * b ≤ (p : Int) * q :=
  Int.mul_le_mul (by omega) (by omega) hb0 (by omega)
theorem mix_ok {x1 n : Int} (m0 : 0 ≤ x1) (m1 : x1 < 2147483629) (h0 : 0 ≤ n) (h1 : n ≤ 1073741824) : (-(2 ^ 64) < x1 ∧ x1 < 2 ^ 64) ∧ (x1 * (2 * (n + 1) + 7) + 6151).natAbs < 2 ^ 64 := by
  have pr : x1 * (2 * (n + 1) + 7) ≤ (2147483629 : Int) * 4294967296 := Int.mul_le_mul (by omega) (by omega) (by omega) (by omega)
  have pr0 : 0 ≤ x1 * (2 * (n + 1) + 7) := Int.mul_nonneg m0 (by omega)
  refine ⟨by omega, ?_⟩
  generalize x1 * (2 * (n + 1) + 7) = z at pr pr0 ⊢
  omega
section
variable {P : Program} {w : World} {K : PySem.W.Frag} {mg : Str → Option Value} {base : Heap}
theorem scDeck : FnScope ["_law_script"] ["_law_script"] (defScope sDeck) := ⟨rfl, rfl, rfl, by decide +kernel, rfl, by decide +kernel, by decide +kernel⟩
theorem ok_deck {f : Addr} {fd : FuncData} (F : Fun K "_law_deck" "_law_deck" sDeck f fd) (B : Blt mg) : FnOk P w K mg base CX0 1 f fd ["_law_script"] (spDeck K) := by
  refine F.ok scDeck (fun vs H Q E h => ?_) (fun cdv A outer s H vs Q E hr h => ?_)
  · obtain ⟨a, ns, rfl, _⟩ := h
    rfl
  · obtain ⟨a, ns, rfl, hS, hn, q⟩ := h
    refine ⟨_, pss_one (ps_ret (pe_lst (pa_cons (pe_callTy call_list_of (by rfl) B.list boot_list (pa_cons (pe_slice sl_list (pv 0) po_none (po_some pe_int)) pa_nil)) (pa_cons pe_int (pa_cons pe_int (pa_cons pe_int pa_nil)))))), ?_⟩
    refine ⟨_, rfl, 63, rfl, a, _, rfl, hS, fun p np => ⟨p, _, rfl, .inl (.inl (.inl upd_same)), fun l nl => ⟨(by show 4 ≤ sizeLine; decide), fun d nd => ?_⟩⟩⟩
    have ec : cutV (ns.map V.int) none (some 63) = ((ns.drop (HT.sIx (ns.map V.int).length 0 none)).take (HT.sIx (ns.map V.int).length (ns.map V.int).length (some 63) - HT.sIx (ns.map V.int).length 0 none)).map V.int := by
      unfold cutV
      rw [List.map_take, List.map_drop]
    have sm := ((same_new np).trans (same_new nl)).trans (same_new (o := .lst [.ref l, .int 0, .int 0, .int 0]) nd)
    refine q d l ((ns.drop (HT.sIx (ns.map V.int).length 0 none)).take (HT.sIx (ns.map V.int).length (ns.map V.int).length (some 63) - HT.sIx (ns.map V.int).length 0 none)) _ ⟨⟨0, 0, 0, upd_same, by omega, by omega⟩, (same_new nd) l _ (by rw [← ec]; exact upd_same)⟩ (((same_new np).trans (same_new nl)).free nd) ((same_new np).free nl) (by rw [List.length_take, List.length_drop]; omega) sm
theorem scDraw : FnScope ["_law_deck_here", "_law_many", "_law_found", "_law_cell", "_law_mixed"] ["_law_deck_here", "_law_many"] (defScope sDraw) := ⟨rfl, rfl, rfl, by decide +kernel, rfl, by decide +kernel, by decide +kernel⟩
theorem ok_draw {f : Addr} {fd : FuncData} (F : Fun K "_law_draw" "_law_draw" sDraw f fd) (B : Blt mg) : FnOk P w K mg base CX0 1 f fd ["_law_deck_here", "_law_many"] spDraw := by
  refine F.ok scDraw (fun vs H Q E h => ?_) (fun cdv A outer s H vs Q E hr h => ?_)
  · obtain ⟨d, l, ns, k, m, rfl, _⟩ := h
    rfl
  · obtain ⟨d, l, ns, k, m, rfl, hm, hm2, D, hlen, hk, q⟩ := h
    have hu := hr.units
    refine ⟨_, pss_cons (ps_asg (pe_op op_add (pe_ix ix_list (pv 0) pe_int (fun _ _ => rfl)) pe_int) (pg_sub (pv 0) pe_int set_list))
      (pss_cons (ps_if (pt_cmpR op_gt (pe_ix ix_list (pv 0) pe_int (fun _ _ => rfl)) pe_int (nomark _))
        (pss_cons (ps_set (i := 2) scDraw.nd rfl (Or.inl rfl) (pe_op op_mod (pe_callTy call_int1 (by rfl) B.int boot_int (pa_cons (pe_ix ix_list (pv 0) pe_int (fun _ _ => rfl)) pa_nil)) (pv 1)))
          (pss_cons (ps_asg (pe_op op_fdiv (pe_ix ix_list (pv 0) pe_int (fun _ _ => rfl)) (pv 1)) (pg_sub (pv 0) pe_int set_list))
            (pss_one (ps_ret (pv 2)))))
        pss_nil)
      (pss_cons (ps_set (i := 3) scDraw.nd rfl (Or.inl rfl) pe_int)
      (C8.pss_cut (ps_if (pt_cmpR (op_neD hu) (pe_ix ix_list (pv 0) pe_int (fun _ _ => rfl)) (pe_lst pa_nil) (nomark _))
        (pss_one (ps_set (i := 3) scDraw.nd rfl (Or.inl rfl) (pe_ix ix_list (pe_ix ix_list (pv 0) pe_int (fun _ _ => rfl)) (pe_op op_mod (pe_callTy call_int1 (by rfl) B.int boot_int (pa_cons (pe_ix ix_list (pv 0) pe_int (fun _ _ => rfl)) pa_nil)) (pe_callB call_len_seq (by rfl) B.len PySem.boot_len (pa_cons (pe_ix ix_list (pv 0) pe_int (fun _ _ => rfl)) pa_nil))) (fun _ _ => rfl))))
        pss_nil)
      (pss_cons (ps_asg (pe_op op_add (pe_ix ix_list (pv 0) pe_int (fun _ _ => rfl)) pe_int) (pg_sub (pv 0) pe_int set_list))
      (C8.pss_cut (ps_if (PW.pt (pw_and (pt_cmpR op_ge (pe_callB call_abs (by rfl) B.abs (by decide +kernel) (pa_cons (pv 3) pa_nil)) (pe_op op_pow pe_int pe_int) (nomark _)) (pw_and1 (pt_cmpR op_le (pe_ix ix_list (pv 0) pe_int (fun _ _ => rfl)) (pe_callB call_len_seq (by rfl) B.len PySem.boot_len (pa_cons (pe_ix ix_list (pv 0) pe_int (fun _ _ => rfl)) pa_nil)) (nomark _)))))
        (pss_cons (ps_asg (pe_op op_fdiv (pe_callB call_abs (by rfl) B.abs (by decide +kernel) (pa_cons (pv 3) pa_nil)) (pv 1)) (pg_sub (pv 0) pe_int set_list))
          (pss_one (ps_ret (pe_op op_mod (pe_callTy call_int1 (by rfl) B.int boot_int (pa_cons (pe_callB call_abs (by rfl) B.abs (by decide +kernel) (pa_cons (pv 3) pa_nil)) pa_nil)) (pv 1)))))
        pss_nil)
      (pss_cons (ps_set (i := 4) scDraw.nd rfl (Or.inl rfl) (pe_op op_mod (pe_op op_pow (pe_callTy call_int1 (by rfl) B.int boot_int (pa_cons (pe_op op_add (pe_op op_mod (pe_callTy call_int1 (by rfl) B.int boot_int (pa_cons (pv 3) pa_nil)) pe_int) (pe_op op_mul pe_int (pe_ix ix_list (pv 0) pe_int (fun _ _ => rfl)))) pa_nil)) pe_int) pe_int))
      (pss_cons (ps_set (i := 4) scDraw.nd rfl (Or.inl rfl) (pe_op op_mod (pe_op op_pow (pe_callTy call_int1 (by rfl) B.int boot_int (pa_cons (pe_op op_add (pe_op op_mul (pv 4) (pe_op op_add (pe_op op_mul pe_int (pe_ix ix_list (pv 0) pe_int (fun _ _ => rfl))) pe_int)) pe_int) pa_nil)) pe_int) pe_int))
      (pss_one (ps_ret (pe_op op_mod (pe_op op_fdiv (pv 4) pe_int) (pv 1))))))))))), ?_⟩
    obtain ⟨i, r, n, hd, hn0, hnk⟩ := D.ex
    have hld : l ≠ d := D.ne
    have hl : H l = some (.lst (ns.map V.int)) := D.cells
    -- deck[3] = deck[3] + 1
    refine ⟨_, rfl, d, _, _, _, rfl, rfl, .inl (.inl hd), rfl, n, 1, rfl, rfl, _, rfl, d, _, _, 3, rfl, rfl, hd, rfl, ?_⟩
    -- if deck[2] > 0
    refine ⟨_, rfl, d, _, _, _, rfl, rfl, .inl (.inl upd_same), rfl, r, 0, rfl, rfl, _, rfl, ite2 (fun _ => ?_) fun _ => ?_⟩
    · refine ⟨_, rfl, d, _, _, _, rfl, rfl, .inl (.inl upd_same), rfl, .inl ⟨r, rfl, _, rfl, r, m, rfl, rfl, hm, ?_⟩⟩
      refine ⟨_, rfl, d, _, _, _, rfl, rfl, .inl (.inl upd_same), rfl, _, rfl, r, m, rfl, rfl, ⟨hm, hm2⟩, _, rfl, d, _, _, 2, rfl, rfl, upd_same, rfl, _, rfl, ?_⟩
      exact q _ _ (Int.emod_nonneg _ (by omega)) (Int.emod_lt_of_pos _ hm) ⟨⟨i, r / m, n + 1, upd_same, by omega, by omega⟩, by rw [upd_ne hld, upd_ne hld]; exact hl⟩ (fr_upd.trans fr_upd)
    -- cell = 73; if deck[0] != []
    refine ⟨fun σ' H' => ∃ (c : Int) (G : Hp), σ' = [some (.ref d), some (.int m), none, some (.int c), none] ∧ H' = G ∧ Fr d H G ∧ G d = some (.lst [.ref l, .int i, .int r, .int (n + 1)]), ?_, ?_⟩
    · refine ⟨_, rfl, d, _, _, _, rfl, rfl, .inl (.inl upd_same), rfl, (by show 0 ≤ sizeLine; omega), fun p np => ?_⟩
      have npd : d ≠ p := ne_of_none upd_same np
      have hl1 : (upd H d (.lst [.ref l, .int i, .int r, .int (n + 1)])) l = some (.lst (ns.map V.int)) := by rw [upd_ne hld]; exact hl
      have npl : l ≠ p := ne_of_none hl1 np
      have hl2 := (same_new (o := HO.lst []) np) _ _ hl1
      have hd2 := (same_new (o := HO.lst []) np) _ _ (upd_same (H := H) (a := d) (o := .lst [.ref l, .int i, .int r, .int (n + 1)]))
      refine ⟨.list (ns.map PyData.int), .list [], .lst (.inl (.inl hl2)) (dps_ints ns), .lst (.inl (.inl upd_same)) .nil, ints_shaped ns, (by decide +kernel), _, rfl, ?_⟩
      have frA : Fr d H (upd (upd H d (.lst [.ref l, .int i, .int r, .int (n + 1)])) p (.lst [])) := fr_upd.trans (same_fr (same_new np))
      refine ite2 (fun hc => ?_) fun _ => ?_
      · have hpos : 0 < ns.length := by
          cases ns with
          | nil => exact absurd hc (by decide +kernel)
          | cons z zs => exact Nat.succ_pos _
        obtain ⟨j, ej, hj⟩ := place (i := i) hpos
        have hj' : (ns.map V.int)[j]? = some (V.int ns[j]) := by
          rw [List.getElem?_map, List.getElem?_eq_getElem hj] <;> rfl
        refine ⟨_, rfl, d, _, _, _, rfl, rfl, .inl (.inl hd2), rfl, _, rfl, d, _, _, _, rfl, rfl, .inl (.inl hd2), rfl, .inl ⟨i, rfl, ?_⟩⟩
        refine ⟨_, rfl, d, _, _, _, rfl, rfl, .inl (.inl hd2), rfl, l, _, rfl, .inl (.inl (.inl hl2)), i, _, rfl, rfl, ?_, l, _, _, _, rfl, rfl, .inl (.inl hl2), at_of (j := j) (v := V.int ns[j]) ?_ hj', ?_⟩
        · show (0 : Int) < ((ns.map V.int).length : Int)
          rw [List.length_map]
          omega
        · show i % ((ns.map V.int).length : Int) = _
          rw [List.length_map]
          exact ej
        · exact ⟨_, _, rfl, rfl, frA, hd2⟩
      · exact ⟨73, _, rfl, rfl, frA, hd2⟩
    rintro σ' H' ⟨c, G, rfl, rfl, fG, hG⟩
    have hlG : H' l = some (.lst (ns.map V.int)) := fG _ _ hld hl
    -- deck[1] = deck[1] + 1
    refine ⟨_, rfl, d, _, _, _, rfl, rfl, .inl (.inl hG), rfl, i, 1, rfl, rfl, _, rfl, d, _, _, 1, rfl, rfl, hG, rfl, ?_⟩
    have hl3 : (upd H' d (.lst [.ref l, .int (i + 1), .int r, .int (n + 1)])) l = some (.lst (ns.map V.int)) := by rw [upd_ne hld]; exact hlG
    -- if abs(cell) >= 10 ** 18 and deck[1] <= len(deck[0])
    have c0 : 0 ≤ c % 2147483579 := Int.emod_nonneg _ (by decide)
    have c1 : c % 2147483579 < 2147483579 := Int.emod_lt_of_pos _ (by decide)
    refine ⟨fun σ' G => σ' = [some (.ref d), some (.int m), none, some (.int c), none] ∧ G = upd H' d (.lst [.ref l, .int (i + 1), .int r, .int (n + 1)]), ?_, ?_⟩
    · refine ⟨_, rfl, c, rfl, 10, 18, rfl, rfl, ⟨by decide, by decide, by decide⟩, _, _, rfl, rfl, _, rfl, ite2 (fun _ => ?_) fun _ => iteF ⟨rfl, rfl⟩⟩
      refine ⟨_, rfl, d, _, _, _, rfl, rfl, .inl (.inl upd_same), rfl, _, rfl, d, _, _, _, rfl, rfl, .inl (.inl upd_same), rfl, l, _, rfl, .inl (.inl (.inl hl3)), _, _, rfl, rfl, _, rfl, ite2 (fun _ => ?_) fun _ => ⟨rfl, rfl⟩⟩
      refine ⟨_, rfl, c, rfl, _, rfl, _, m, rfl, rfl, ⟨hm, hm2⟩, _, rfl, d, _, _, 2, rfl, rfl, upd_same, rfl, ?_⟩
      refine ⟨_, rfl, c, rfl, .inl ⟨_, rfl, _, rfl, _, m, rfl, rfl, hm, ?_⟩⟩
      exact q _ _ (Int.emod_nonneg _ (by omega)) (Int.emod_lt_of_pos _ hm) ⟨⟨i + 1, _, n + 1, upd_same, by omega, by omega⟩, by rw [upd_ne hld, upd_ne hld]; exact hlG⟩ (fG.trans (fr_upd.trans fr_upd))
    rintro σ' G ⟨rfl, rfl⟩
    refine ⟨_, rfl, .inl ⟨c, rfl, c, 2147483579, rfl, rfl, (by show (0 : Int) < 2147483579; decide), ?_⟩⟩
    refine ⟨_, rfl, d, _, _, _, rfl, rfl, .inl (.inl upd_same), rfl, 73856093, n + 1, rfl, rfl, .inl ⟨by decide, by decide⟩, _, _, rfl, rfl, .inl ⟨_, rfl, _, 5, rfl, rfl, ⟨by decide, by decide, by omega⟩, _, 2147483629, rfl, rfl, (by show (0 : Int) < 2147483629; decide), ?_⟩⟩
    have m0 : 0 ≤ (c % 2147483579 + 73856093 * (n + 1)) ^ (5 : Int).toNat % 2147483629 := Int.emod_nonneg _ (by decide)
    have m1 : (c % 2147483579 + 73856093 * (n + 1)) ^ (5 : Int).toNat % 2147483629 < 2147483629 := Int.emod_lt_of_pos _ (by decide)
    have mx := mix_ok m0 m1 hn0 (by omega)
    refine ⟨_, rfl, _, rfl, d, _, _, _, rfl, rfl, .inl (.inl upd_same), rfl, 2, n + 1, rfl, rfl, .inl ⟨by decide, by decide⟩, _, 7, rfl, rfl, _, _, rfl, rfl, .inl mx.1, _, 6151, rfl, rfl, .inl ⟨_, rfl, _, 3, rfl, rfl, ⟨by decide, by decide, mx.2⟩, _, 2147483647, rfl, rfl, (by show (0 : Int) < 2147483647; decide), ?_⟩⟩
    refine ⟨_, rfl, _, 32, rfl, rfl, ⟨by decide, by decide⟩, _, rfl, _, m, rfl, rfl, hm, ?_⟩
    exact q _ _ (Int.emod_nonneg _ (by omega)) (Int.emod_lt_of_pos _ hm) ⟨⟨i + 1, r, n + 1, upd_same, by omega, by omega⟩, hl3⟩ (fG.trans fr_upd)
theorem scOne : FnScope ["_law_deck_here", "_law_items"] ["_law_deck_here", "_law_items"] (defScope sOne) := ⟨rfl, rfl, rfl, by decide +kernel, rfl, by decide +kernel, by decide +kernel⟩
theorem ok_one {f fD : Addr} {fd fdD : FuncData} (F : Fun K "_law_one" "_law_one" sOne f fd) (B : Blt mg) (GD : FnOk P w K mg base CX0 1 fD fdD ["_law_deck_here", "_law_many"] spDraw) (mD : mg "_law_draw" = some (.ref fD))
    (kD : PySem.W.keepIn K (.ref fD) = true) (bD : Binds K fdD ["_law_deck_here", "_law_many"] []) : FnOk P w K mg base CX0 2 f fd ["_law_deck_here", "_law_items"] (spOne K) := by
  refine F.ok scOne (fun vs H Q E h => ?_) (fun cdv A outer s H vs Q E hr h => ?_)
  · obtain ⟨d, l, ns, k, x, rfl, _⟩ := h
    rfl
  · obtain ⟨d, l, ns, k, x, rfl, D, hn, hk, h⟩ := h
    refine ⟨_, pss_one (ps_ret (pe_ix ix_seq (pv 1) (pe_call GD hr rfl mD kD bD .nil pass0 (pa_cons (pv 0) (pa_cons (pe_callB (CallR.or call_len_seq call_len_str) (by rfl) B.len PySem.boot_len (pa_cons (pv 1) pa_nil)) pa_nil))) (fun _ _ => rfl))), ?_⟩
    rcases h with ⟨p, xs, rfl, npd, hS, hne, hlen, q⟩ | ⟨z, rfl, hz0, hz, q⟩
    · have hS' : SqL K H p xs ∨ SqT K H p xs := hS.imp (fun h => Same.seq off_le h) fun h => same_seqT off_le h
      have hpos : 0 < xs.length := List.length_pos_iff.mpr hne
      refine ⟨_, rfl, _, rfl, _, rfl, .inl ⟨p, xs, rfl, hS', d, l, ns, k, _, rfl, ?_, ?_, D, hn, hk, fun v H' h0 h1 D' fr => ?_⟩⟩
      · show (0 : Int) < (xs.length : Int)
        omega
      · show (xs.length : Int) < 1073741824
        omega
      · have hS2 : SqL K H' p xs ∨ SqT K H' p xs := hS.imp (fun h => Same.seq off_le (Same.seq (Fr.off fr) h)) fun h => same_seqT off_le (same_seqT (Fr.off fr) h)
        obtain ⟨j, rfl⟩ : ∃ j : Nat, v = (j : Int) := ⟨v.toNat, by omega⟩
        have hj : j < xs.length := by omega
        have hx : xs[j]? = some xs[j] := List.getElem?_eq_getElem hj
        rcases hS2 with hS2 | hS2
        · exact .inl ⟨p, xs, _, _, rfl, rfl, hS2, atI_nat hx, q j _ H' hx D' fr⟩
        · exact .inr (.inl ⟨p, xs, _, _, rfl, rfl, hS2, atI_nat hx, q j _ H' hx D' fr⟩)
    · have hs : z.length ≤ sizeLine := by rw [sizeLine_eq]; omega
      refine ⟨_, rfl, _, rfl, _, rfl, .inr ⟨z, rfl, hs, d, l, ns, k, _, rfl, ?_, ?_, D, hn, hk, fun v H' h0 h1 D' fr => ?_⟩⟩
      · show (0 : Int) < (z.length : Int)
        omega
      · show (z.length : Int) < 1073741824
        omega
      · obtain ⟨j, rfl⟩ : ∃ j : Nat, v = (j : Int) := ⟨v.toNat, by omega⟩
        have hj : j < z.cps.toList.length := by
          show j < z.cps.toList.length
          have : z.cps.toList.length = z.length := by simp [Str.length]
          omega
        have hx : z.cps.toList[j]? = some z.cps.toList[j] := List.getElem?_eq_getElem hj
        exact .inr (.inr ⟨z, _, _, rfl, rfl, hs, atI_nat hx, q _ H' (List.getElem_mem hj) D' fr⟩)
end
end My

namespace My
open PySem PySem.Spec PyProof.Rows L2
abbrev sOdd : Stmt := top 12
def odds1 : List PyData := [.none, .bool true, .bool false, .int 0, .int 1, .int 7, .str "", .str "a", .str "A", .str "?", .str "?0", .str "?1", .str "?01", .str "?123456", .str "a1", .str "aB", .str "abcdefghi", .str "a b"]
def odds2 : List PyData := [.tuple [], .list [], .tuple [.str "a"], .tuple [.str "a", .str "b"], .list [.str "a", .str "b"], .tuple [.str "a", .str "?1"], .tuple [.str "a", .str "A"], .tuple [.tuple [.str "a", .str "b"]], .tuple [.str "?1", .str "a"]]
def odds3 : List PyData := [.tuple [.str "a", .tuple [.str "b"]], .tuple [.str "a", .str "b", .str "c", .str "d", .str "e", .str "f"], .tuple [.str "a", .int 1], .str "zz", .str "?x", .tuple [.str "", .str "a"]]
/-- the menu of odd values -/
def odds : List PyData := (odds1 ++ odds2) ++ odds3
def oddOk (d : PyData) : Bool := d.showable && (decide (d.depth ≤ 5) && (decide (d.shown.length ≤ 60) && d.canLay0))
theorem odds_ok : odds.all oddOk = true := by decide +kernel
/-- one of the odd values -/
def spOdd (K : PySem.W.Frag) : Sp := fun vs H Q _ => ∃ (d l : Addr) (ns : List Int) (k : Nat), vs = [.ref d] ∧ Deck H d l ns k ∧ ns.length ≤ 63 ∧ k < 1073741824 ∧
  ∀ (v : V) (dd : PyData) (H' : Hp), dd ∈ odds → Dp K (off d H') v dd → Deck H' d l ns (k + 1) → Fr d H H' → Q v H'
section
variable {P : Program} {w : World} {K : PySem.W.Frag} {mg : Str → Option Value} {base : Heap}
theorem scOdd : FnScope ["_law_deck_here", "_law_some"] ["_law_deck_here"] (defScope sOdd) := ⟨rfl, rfl, rfl, by decide +kernel, rfl, by decide +kernel, by decide +kernel⟩
theorem ok_odd {f fO : Addr} {fd fdO : FuncData} (F : Fun K "_law_odd" "_law_odd" sOdd f fd) (GO : FnOk P w K mg base CX0 2 fO fdO ["_law_deck_here", "_law_items"] (spOne K)) (mO : mg "_law_one" = some (.ref fO))
    (kO : PySem.W.keepIn K (.ref fO) = true) (bO : Binds K fdO ["_law_deck_here", "_law_items"] []) : FnOk P w K mg base CX0 3 f fd ["_law_deck_here"] (spOdd K) := by
  refine F.ok scOdd (fun vs H Q E h => ?_) (fun cdv A outer s H vs Q E hr h => ?_)
  · obtain ⟨d, l, ns, k, rfl, _⟩ := h
    rfl
  · obtain ⟨d, l, ns, k, rfl, D, hn, hk, q⟩ := h
    refine ⟨_, pss_cons (ps_set (i := 1) scOdd.nd rfl (Or.inl rfl) (pdl (ds := odds1) (pds_cons pd_non (pds_cons pd_bl (pds_cons pd_bl (pds_cons pd_int (pds_cons pd_int (pds_cons pd_int (pds_cons pd_str (pds_cons pd_str (pds_cons pd_str (pds_cons pd_str (pds_cons pd_str (pds_cons pd_str (pds_cons pd_str (pds_cons pd_str (pds_cons pd_str (pds_cons pd_str (pds_cons pd_str (pds_cons pd_str pds_nil))))))))))))))))))))
      (pss_cons (ps_set (i := 1) scOdd.nd rfl (Or.inl rfl) (pe_op op_cat (pv 1) (pdl (ds := odds2) (pds_cons (pd_tup pds_nil) (pds_cons (pd_lst pds_nil) (pds_cons (pd_tup (pds_cons pd_str pds_nil)) (pds_cons (pd_tup (pds_cons pd_str (pds_cons pd_str pds_nil))) (pds_cons (pd_lst (pds_cons pd_str (pds_cons pd_str pds_nil))) (pds_cons (pd_tup (pds_cons pd_str (pds_cons pd_str pds_nil))) (pds_cons (pd_tup (pds_cons pd_str (pds_cons pd_str pds_nil))) (pds_cons (pd_tup (pds_cons (pd_tup (pds_cons pd_str (pds_cons pd_str pds_nil))) pds_nil)) (pds_cons (pd_tup (pds_cons pd_str (pds_cons pd_str pds_nil))) pds_nil))))))))))))
      (pss_one (ps_ret (pe_call GO hr rfl mO kO bO .nil pass0 (pa_cons (pv 0) (pa_cons (pe_op op_cat (pv 1) (pdl (ds := odds3) (pds_cons (pd_tup (pds_cons pd_str (pds_cons (pd_tup (pds_cons pd_str pds_nil)) pds_nil))) (pds_cons (pd_tup (pds_cons pd_str (pds_cons pd_str (pds_cons pd_str (pds_cons pd_str (pds_cons pd_str (pds_cons pd_str pds_nil))))))) (pds_cons (pd_tup (pds_cons pd_str (pds_cons pd_int pds_nil))) (pds_cons pd_str (pds_cons pd_str (pds_cons (pd_tup (pds_cons pd_str (pds_cons pd_str pds_nil))) pds_nil)))))))) pa_nil)))))), ?_⟩
    intro p1 vs1 H1 s1 n1 h1 d1 l1
    refine ⟨_, rfl, fun p2 vs2 H2 s2 n2 h2 d2 l2 => ⟨p1, p2, vs1, vs2, rfl, rfl, s2 _ _ h1, h2, ?_, fun p3 n3 => ?_⟩⟩
    · rw [l1, l2]
      decide
    refine ⟨_, rfl, _, rfl, fun p4 vs4 H4 s4 n4 h4 d4 l4 => ⟨p3, p4, vs1 ++ vs2, vs4, rfl, rfl, s4 _ _ upd_same, h4, ?_, fun p5 n5 => ?_⟩⟩
    · rw [List.length_append, l1, l2, l4]
      decide
    have s3 := same_new (o := HO.lst (vs1 ++ vs2)) n3
    have s5 := same_new (o := HO.lst (vs1 ++ vs2 ++ vs4)) n5
    have sA : Same H H4 := s1.trans (s2.trans (s3.trans s4))
    have dAll : DpAll K (newp H H4) (vs1 ++ vs2 ++ vs4) odds := dps_app (dps_app (dps_same (newp_out (s2.trans (s3.trans s4))) _ _ d1) (dps_same ((newp_out (s3.trans s4)).trans (newp_in s1)) _ _ d2))
      (dps_same (newp_in (s1.trans (s2.trans s3))) _ _ d4)
    obtain ⟨i, r, n, hd, _⟩ := D.ex
    have D5 : Deck (upd H4 p5 (HO.lst (vs1 ++ vs2 ++ vs4))) d l ns k := D.same (sA.trans s5)
    have n5d : p5 ≠ d := fun e => by
      rw [e] at n5
      have z := sA _ _ hd
      rw [n5] at z
      cases z
    refine ⟨d, l, ns, k, _, rfl, D5, hn, hk, .inl ⟨p5, vs1 ++ vs2 ++ vs4, rfl, n5d, .inl (.inl (.inl (off_at n5d upd_same))), ?_, ?_, fun j v H' hj D' fr => ?_⟩⟩
    · intro e
      have z := congrArg List.length e
      rw [dps_len dAll] at z
      exact absurd z (by decide +kernel)
    · rw [dps_len dAll]
      decide +kernel
    · obtain ⟨dd, hdd, hv⟩ := dps_get dAll hj
      refine q v dd H' (List.mem_of_getElem? hdd) ?_ D' ((same_fr (sA.trans s5)).trans fr)
      exact dp_same ((newp_off hd).trans (Fr.off ((same_fr s5).trans fr))) dd v hv
end
end My

namespace My
open PySem PySem.Spec PyProof.Rows L2

/-- an exception object of the class at C, not raised, stands at a -/
def ErrAt (H : Hp) (a C : Addr) : Prop := H a = some (ExO (.ref C) a) ∨ ∃ (dx : Addr) (fs : List (Str × V)), H a = some (exo a C (some dx)) ∧ H dx = some (exd dx fs)
theorem ErrAt.same {H H' : Hp} {a C : Addr} (h : ErrAt H a C) (e : Same H H') : ErrAt H' a C := by
  rcases h with h | ⟨dx, fs, h1, h2⟩
  · exact .inl (e _ _ h)
  · exact .inr ⟨dx, fs, e _ _ h1, e _ _ h2⟩
/-- isinstance(e, c), e such an object -/
def rIsErr (K : PySem.W.Frag) : List V → Hp → VK → Prop := fun xs H Q => ∃ (a C : Addr) (c : V) (u : Value) (b : Bool),
  xs = [.ref a, c] ∧ ClsV c u ∧ ErrAt H a C ∧ ExcC K C ∧ PySem.W.kitOne K (.ref C) u = some b ∧ Q (.bl b) H
section
variable {X : Cx}
theorem cr_isErr : CallR X (.builtin "isinstance") (rIsErr X.K) := by
  intro pins s σ H xs us Q I r h
  obtain ⟨a, C, c, u, b, rfl, k, ha, T, e, q⟩ := h
  obtain ⟨u1, u2, rfl, r1, r2⟩ := vals2 r
  cases (show u1 = Value.ref a from r1)
  have e2 := k.eq r2
  subst e2
  obtain ⟨cd, hcl, _⟩ := PySem.W.any_some T.hd
  have hcl' : (PySem.W.clsIn X.K C).isSome = true := by
    rw [hcl]
    rfl
  have go : ∀ (ox : Obj) (od : Option Obj), PySem.W.InstAt s.heap a ox C od → wpAny (model X.prog X.w) X.A (call (.builtin "isinstance") [Value.ref a, u2]) (EP X pins σ Q) X.xe s := fun ox od J =>
    PySem.W.kia_one (PySem.W.kitx_exc (ox := ox) (od := od) hcl' T.hg T.hk T.hs T.ha T.hn T.ht T.hm) I.kIn J e (fun z => nomatch z) fun tk => ⟨.bl b, H, I.tok tk, rfl, q⟩
  rcases ha with ha | ⟨dx, fs, ha, hd⟩
  · obtain ⟨⟨oe, vs, ho, hz, hf, _⟩, _, _⟩ := I.hok a _ ha
    exact go oe none ⟨ho, hz.1, by unfold PySem.W.notCls; rw [hf], by rw [hz.2]; trivial⟩
  · obtain ⟨t1, ho⟩ := exo_at I.hok ha
    obtain ⟨mA, ⟨od, es, ep, hod, _⟩, _⟩ := exd_at I.hok hd
    exact go _ (some od) ⟨ho, rfl, rfl, hod⟩
/-- X(), an own exception class without own __init__, as a value -/
theorem pe_exc0 {C : Addr} {bmB : List Value} {B newId initId : String} {x : Str} {p pos : Pos} (F : ExcBaseFacts B newId initId bmB) (q : PySem.W.excIn X.K C bmB newId = true) (gC : X.mg x = some (.ref C))
    (kC : PySem.W.keepIn X.K (.ref C) = true) (hg : Gl X x) (hdb : (x == ("__debug__" : Str)) = false := by decide) :
    PE X (.Call (.Name x p) [] [] pos) (fun _ H Q => ∀ a, H a = none → Q (.ref a) (upd H a (ExO (.ref C) a))) := by
  refine ⟨fun pins s σ H Q I h => ?_⟩
  refine wpAny_Call_Name_kw (ld_glob I hg gC ?_ hdb)
  refine PySem.W.callWith_K0 I.kIn kC ?_
  obtain ⟨bm, N, nm, qn, bs, hdct, sn, sub, ab, col, dd, k0, k1, k2, k3, k5, mN, hC, hN, hni, T⟩ := exc_obj I.kIn q
  refine wpAny_call_exc_subT F T hC hN hni (fun h' a hm => ?_) (Nat.zero_le _)
  have hn : H a = none := I.hok.gone hm.new
  obtain ⟨t, ht, _, _⟩ := hm.there
  exact ⟨.ref a, _, I.laidN hm.keeps hm.new hn (exO_ok ht ⟨rfl, rfl⟩ rfl rfl rfl (show 4 < 6 by decide)), rfl, h a hn⟩
/-- X(e, ..), an own exception class whose own __init__ keeps sp, as a value -/
def tErrI (C : Addr) (sp : Sp) (ta : TA) : TE := fun σ H Q => ta σ H fun vs H1 => vs.length ≤ 1000 ∧
  ∀ a, H1 a = none → sp (.ref a :: vs) (upd H1 a (exo a C none)) (fun v H2 => v = .non ∧ Q (.ref a) H2) fun _ _ _ => False
theorem pe_errI {CX : CXT} {x : Str} {C fI : Addr} {k : Nat} {fd : FuncData} {ps : List Str} {sp : Sp} {e : Expr} {es : List Expr} {ta : TA} {p pos : Pos} (T : OexC X.K C) (iC : PySem.W.findIn X.K (.ref C) "__init__" = some (some (.ref fI)))
    (tI : PySem.W.typeIn X.K (.ref fI) = some (.type "function")) (F1 : FnOk X.prog X.w X.K X.mg X.base CX k fI fd ps sp) (hr : Room (k + 1) X.A) (hb : Binds X.K fd ps []) (hx : Passes CX X (fun _ _ _ => False))
    (hg : Gl X x) (hm : X.mg x = some (.ref C)) (ha : PA X (e :: es) ta) (hdb : (x == ("__debug__" : Str)) = false := by decide)
    (he : starEach (e :: es) X.env = (false, eval e X.env) :: starEach es X.env := by rfl) (hpl : (backTo pos (starEach es X.env)).any (·.1) = false := by rfl) :
    PE X (.Call (.Name x p) (e :: es) [] pos) (tErrI C sp ta) := by
  refine ⟨fun pins s σ H Q I h => ?_⟩
  obtain ⟨nm, q, N, bs, bm, sn, sub, ab, col, dd, k0, k1, k2, k3, k5, hC, hbm⟩ := T.cls
  refine wpAny_Call_Name_kw (ld_glob I hg hm ?_ hdb)
  refine PySem.W.callWith_K (h₀ := X.base) I.ok.mod.kin T.kC (thn (ha.run pos pins s σ H _ I h) fun us s1 ⟨vs, H1, I1, r1, hz, q1⟩ => ⟨I1.kIn, ?_⟩) he hpl
  show wpAny _ _ (call (.ref C) us) _ _ _
  obtain ⟨hp, gn, dr, tk, os⟩ := s1
  have hn : H1 (hp.objs.size + 1) = none := I1.hok.fresh (Nat.le_succ _)
  have hq := q1 (hp.objs.size + 1) hn
  have hgt : ((hp.push (PySem.W.kdv_tup us)).push (PySem.HandSPX.excO C hp.objs.size)).get? (hp.objs.size + 1) = some (PySem.HandSPX.excO C hp.objs.size) := by heap_get
  have I2 : Inv X pins σ (upd H1 (hp.objs.size + 1) (exo (hp.objs.size + 1) C none)) ⟨(hp.push (PySem.W.kdv_tup us)).push (PySem.HandSPX.excO C hp.objs.size), gn, dr, tk, os⟩ :=
    I1.laid (t' := tk) (fun b o z => Heap.get?_push_of_some _ (Heap.get?_push_of_some _ z)) (Nat.le_succ _) (exo_ok hgt)
  have r2 : Vals (V.ref (hp.objs.size + 1) :: vs) (Value.ref (hp.objs.size + 1) :: us) := .cons rfl r1
  have hl : (Value.ref (hp.objs.size + 1) :: us ++ []).length = ps.length := by
    have z := r2.length
    rw [F1.len _ _ _ _ hq] at z
    rw [List.append_nil]
    exact z.symm
  have hus : us.length ≤ sizeLine := by
    rw [← Paired.length r1, sizeLine_eq]
    omega
  have bd := hb _ (Value.ref (hp.objs.size + 1) :: us) I2.kIn hl
  rw [List.append_nil] at bd
  refine wpAny_call (PySem.HandSPX.call_own F.excBase_ValueError (fun Y => PySem.HandSPX.refsVE_contains Y bm hbm) (I1.kIn _ _ hC) (PySem.W.looks_findIn I1.kIn iC) (fun self => PySem.W.bind_fn I1.kIn self tI) hus
    (codeAny_mono (F1.run _ X.stack _ _ ⟨_, []⟩ _ _ _ _ (hr.make C us []) (I2.env0.make C us []) bd r2 hq) fun r s' hq' => ?_))
  cases r with
  | error er => exact hx pins σ _ _ er s' I2 hq'
  | ok fl =>
    cases fl with
    | ret u =>
      obtain ⟨v, H2, os2, bare2, un2, hok2, rv, ev, q2⟩ := hq'
      subst ev
      exact ⟨rv, I2.after (Q := Q) (u := .ref (hp.objs.size + 1)) ⟨.ref (hp.objs.size + 1), H2, os2, bare2, un2, hok2, rfl, q2⟩⟩
    | next => exact False.elim hq'
    | brk => exact False.elim hq'
    | cont => exact False.elim hq'
/-- e.f, e such an object with fields -/
def tErF (K : PySem.W.Frag) (f : Str) (te : TE) : TE := fun σ H Q => te σ H fun x H1 => ∃ (a C dx : Addr) (fs : List (Str × V)) (v : V), x = .ref a ∧ XfC K C ∧ PySem.W.findIn K (.ref C) f = some none ∧
  H1 a = some (exo a C (some dx)) ∧ H1 dx = some (exd dx fs) ∧ fs.lookup f = some v ∧ Q v H1
theorem pe_erF {e : Expr} {te : TE} {f : Str} {pos : Pos} (he : PE X e te) (hb : attributeBase e f X.env (eval e X.env) = eval e X.env := by rfl) : PE X (.Attribute e f pos) (tErF X.K f te) := by
  refine ⟨fun pins s σ H Q I h => attr_of hb (thn (he.run pins s σ H _ I h) fun u s1 hh => ?_)⟩
  obtain ⟨x, H1, I1, rx, a, C, dx, fs, v, rfl, T, hno, ea, ed, l, q⟩ := hh
  cases (show u = Value.ref a from rx)
  obtain ⟨t1, ho⟩ := exo_at I1.hok ea
  obtain ⟨mA, hns, rel⟩ := exd_at I1.hok ed
  obtain ⟨od, hod, hl⟩ := lookIn_ns hns
  obtain ⟨u, hu, ru⟩ := RelO.some_of (v := v) (o := mA f) (by rw [← l]; exact rel f)
  exact HandSPX.exc_get I1.kIn (show PySem.W.InstAt s1.heap a _ C (some od) from ⟨ho, rfl, rfl, hod⟩) T.ga T.gg T.exC (PySem.W.findObj_own T.hdC hno rfl (by rw [hl, hu])) (handed_of ru) ⟨v, H1, I1.tok _, ru, q⟩
end
end My

/-! MyE: the law's own call, where no repr is under way around it -/
namespace My
open PySem PySem.Spec PyProof.Rows L2

/-- a def's promise, kept where nothing that guards stands around the call -/
structure RunG (P : Program) (w : World) (K : PySem.W.Frag) (mg : Str → Option Value) (base : Heap) (k : Nat) (f : Addr) (fd : FuncData) (ps : List Str) (sp : Sp) : Prop where
  len : ∀ vs H Q E, sp vs H Q E → vs.length = ps.length
  go : ∀ (A : Around) (outer : List Env) (s : Shared) (H : Hp) (args : Args) (us : List Value) (vs : List V) (Q : VK) (E : XK), A.guards = some [] → Room k A → Env0 P w K mg base A outer s H →
    BindsTo s fd args (ps.zip us) → Vals vs us → sp vs H Q E → codeAny (model P w) A (.call (.ref f) args) (CR CX0 outer P w H s Q E) s
section
variable {P : Program} {w : World} {K : PySem.W.Frag} {mg : Str → Option Value} {base : Heap}
theorem runG {x qual : Str} {st : Stmt} {f : Addr} {fd : FuncData} {N ps : List Str} {k : Nat} {sp : Sp} (F : Fun K x qual st f fd) (S : FnScope N ps (defScope st)) (len : ∀ vs H Q E, sp vs H Q E → vs.length = ps.length)
    (hbody : ∀ (cdv : Value) (A : Around) (outer : List Env) (s : Shared) (H : Hp) (vs : List V) (Q : VK) (E : XK), A.guards = some [] → Room k (A.deeper (envOfC qual (defScope st) s.heap.objs.size f cdv)) → sp vs H Q E →
      ∃ t, PSs (cxOf CX0 P w K mg base N qual (defScope st) f cdv A outer s H E).nox (defBody st) t ∧ t { nx := fun _ H' => Q .non H', rt := Q } (L2.start N vs) H) : RunG P w K mg base (k + 1) f fd ps sp := by
  refine ⟨len, fun A outer s H args us vs Q E hgu hr e0 hb r hsp => ?_⟩
  obtain ⟨oc, od, kV, doc, pm, an, cdv, ct, osl, rfl, lk, hcd⟩ := F.ex
  have up : ∀ b o, base.get? b = some o → s.heap.get? b = some o := fun b o e => (e0.bs b o e).1
  have KX : K.In s.heap := e0.mod.kin.keeps up
  have hkind : ∀ y ∈ ps.zip us, (defScope st).names.lookup y.1 = some .local ∨ ((defScope st).names.lookup y.1 = some .cell ∧ ((cellsFrom (s.heap.objs.size + 1) (defScope st).names []).lookup y.1).isSome = true) := by
    rintro ⟨n, v⟩ hy
    exact (S.par n (List.of_mem_zip hy).1).imp id fun q => ⟨q, PySem.W.cellsFrom_some _ _ _ (.inl q)⟩
  refine codeAny_call_function hr.depth (KX _ _ lk) rfl S.co S.gen rfl (PySem.W.codeRec_of KX hcd) (hb _ _ _ _ (wpAny_newFunctionEnv_cells S.kind hkind fun env he s1 x => ?_))
  subst he
  refine ⟨(e0.mod.nolimit.keeps up).keeps x.toInCall.keep, codeAny_func ?_⟩
  obtain ⟨t, ht, hq⟩ := hbody cdv A outer s H vs Q E hgu (hr.deeper _) hsp
  refine wpAny_mono (ht.nox.run [] s1 _ H _ (inv_start S hr.hd e0 (len _ _ _ _ hsp) r x) hq) (fun fl s' hs => ?_) fun _ _ hs => hs
  cases fl with
  | ret u => exact hs.elim fun v ⟨σ', H', J, rv, q⟩ => ⟨v, H', J.os, J.bare, J.base, J.hok, rv, q⟩
  | next => exact hs.elim fun σ' ⟨H', J, q⟩ => ⟨V.non, H', J.os, J.bare, J.base, J.hok, rfl, q⟩
  | brk => exact hs.elim fun _ ⟨_, _, q⟩ => q.elim
  | cont => exact hs.elim fun _ ⟨_, _, q⟩ => q.elim
/-- the abstract heap at the law's entry: the script, known to the object, or nothing where the script is one of the module's own -/
theorem entry_heap {s : Shared} {a : Addr} {vs : List Value} {ns : List Int} (KX : K.In s.heap) (ha : s.heap.get? a = some { cls := .type "list", data := .seq vs.toArray }) (hi : IntsAre vs ns) (hl : ns.length ≤ sizeLine) :
    ∃ H : Hp, Only H ∧ SqL K H a (ns.map V.int) ∧ HOk P w H s.heap ∧ ∀ b u, H b = some u → b = a ∧ K.lookup b = none := by
  cases hk : K.lookup a with
  | some o =>
    have e := KX a o hk
    rw [ha] at e
    cases e
    have none_ : ∀ (b : Addr) (u : HO), (fun _ : Addr => (Option.none : Option HO)) b = some u → False := fun b u z => nomatch z
    exact ⟨fun _ => none, fun _ => .inl rfl, .inr ⟨_, vs.toArray, _, hk, rfl, rfl, rfl, by rw [List.size_toArray, hi.length]; exact hl, by simpa using vals_ints hi⟩, fun b u z => (none_ b u z).elim, fun b u z => (none_ b u z).elim⟩
  | none =>
    have at_ : ∀ {b : Addr} {u : HO}, (if b = a then some (HO.frz { cls := .type "list", data := .seq vs.toArray } (.lst (ns.map V.int))) else none) = some u → b = a ∧ u = HO.frz { cls := .type "list", data := .seq vs.toArray } (.lst (ns.map V.int)) := by
      intro b u z
      by_cases hb : b = a
      · rw [if_pos hb] at z
        exact ⟨hb, (Option.some.inj z).symm⟩
      · rw [if_neg hb] at z
        cases z
    refine ⟨fun b => if b = a then some (.frz { cls := .type "list", data := .seq vs.toArray } (.lst (ns.map V.int))) else none, fun b => ?_, .inl (.inr ⟨_, if_pos rfl⟩), fun b u z => ?_, fun b u z => ⟨(at_ z).1, by rw [(at_ z).1]; exact hk⟩⟩
    · by_cases hb : b = a
      · exact .inr ⟨_, _, if_pos hb⟩
      · exact .inl (if_neg hb)
    · obtain ⟨rfl, rfl⟩ := at_ z
      exact ⟨ha, by rw [List.length_map]; exact hl, vs, _, vals_ints hi, ha⟩
/-- the law's call, from its promise -/
theorem law_at {mb : Str → Option Value} {k : Nat} {fa a : Addr} {fd : FuncData} {x : Str} {sp : Sp} {s : Shared} {vs : List Value} {ns : List Int} (KX : K.In s.heap) (hns : s.heap.Ns mainGlobals mg) (hb : s.heap.Ns builtinsNs mb)
    (hbb : ∀ x : Str, x ≠ "__name__" → mb x = bootBuiltins x) (hlim : s.heap.NoLimit) (hg : s.gens = #[]) (ha : s.heap.get? a = some { cls := .type "list", data := .seq vs.toArray }) (hi : IntsAre vs ns) (hl : ns.length ≤ sizeLine)
    (hr : Room k callerA) (F : ∀ base : Heap, K.In base → base.Ns mainGlobals mg → RunG P w K mg base k fa fd [x] sp) (hbind : ∀ (s : Shared) (u : Value), BindsTo s fd ⟨[u], []⟩ [(x, u)])
    (hsp : ∀ H : Hp, Only H → SqL K H a (ns.map V.int) → sp [.ref a] H (fun v _ => v = .bl true) fun _ _ _ => False) :
    codeAny (model P w) callerA (.call (.ref fa) ⟨[.ref a], []⟩) (fun r s' => r = .ok (.ret (.bool true)) ∧ OldK s.heap s'.heap ∧ s'.os = s.os ∧ AllBare s'.gens) s := by
  obtain ⟨H, hO, hS, hok, hA⟩ := entry_heap (P := P) (w := w) KX ha hi hl
  have clear : ∀ {b : Addr}, (∀ u, H b = some u → False) → H b = none := fun {b} z => by
    cases q : H b with
    | none => rfl
    | some u => exact (z u q).elim
  have nsK : ∀ {b : Addr} {m : Str → Option Value}, s.heap.Ns b m → (hidT s.heap H).Ns b m := fun {b m} ⟨o, es, ep, e, dt, r⟩ => ⟨o, es, ep, hidT_get e (clear fun u q => by
    obtain ⟨rfl, _⟩ := hA b u q
    rw [ha] at e
    cases e
    cases dt), dt, r⟩
  have hKb : K.In (hidT s.heap H) := fun b o e => hidT_get (KX b o e) (clear fun u q => by
    rw [(hA b u q).2] at e
    cases e)
  obtain ⟨mc, l1, l2⟩ := hlim
  have e0 : Env0 P w K mg (hidT s.heap H) callerA [] s H := ⟨rfl, ⟨hKb, nsK hns, ⟨mb, nsK hb, hbb⟩, ⟨mc, nsK l1, l2⟩⟩, fun b o e => of_hidT e, Nat.le_of_eq (hidT_size _ _), trivial, (fun b z => nomatch z), hok, .of_eq hg⟩
  refine codeAny_mono ((F _ hKb (nsK hns)).go callerA [] s H ⟨[.ref a], []⟩ [.ref a] [.ref a] _ _ rfl hr e0 (hbind s (.ref a)) (.cons rfl .nil) (hsp H hO hS)) fun r s' h => ?_
  cases r with
  | error e => exact h.elim
  | ok fl =>
    cases fl with
    | next => exact h.elim
    | brk => exact h.elim
    | cont => exact h.elim
    | ret u =>
      obtain ⟨v, H', os, bare, un, hok', rv, q⟩ := h
      cases (show v = .bl true from q)
      cases (show u = Value.bool true from rv)
      refine ⟨rfl, OldK.of_keep fun b o e => ?_, os, bare⟩
      cases q : H b with
      | none => exact un.keep b o e q (fun z => nomatch z) (fun z => nomatch z)
      | some u =>
        rcases hO b with z | ⟨ob, xs, z⟩
        · rw [q] at z
          cases z
        · have e1 := (hok b _ z).1
          rw [e] at e1
          cases e1
          exact (hok' b _ (un.frzs b o _ z)).1
end
theorem walk_g {l : PySem.W.OpenLaw} {k : Nat} {q : Program} {loose : List Str} {XP : (Str → Option Value) → Heap → Prop} {YP : World → Heap → Prop} {d : DefRec} {K : Params → PySem.W.Frag} {sp : PySem.W.Frag → Sp} {x : Str}
    (hn : l.most = some 63) (hdf : d.params.defaults = []) (hr : Room k callerA) (hY : ∀ (w : World) (h : Heap), YP w h → (K w.params).In h)
    (F : ∀ (w : World) (mg : Str → Option Value) (fa : Addr) (h : Heap), (K w.params).In h → h.Ns mainGlobals mg → mg d.name = some (.ref fa) →
      ∃ fd : FuncData, (∀ (s : Shared) (u : Value), BindsTo s fd ⟨[u], []⟩ [(x, u)]) ∧ ∀ base : Heap, (K w.params).In base → base.Ns mainGlobals mg → RunG l.prog w (K w.params) mg base k fa fd [x] (sp (K w.params)))
    (hsp : ∀ (K : PySem.W.Frag) (H : Hp) (a : Addr) (ns : List Int), ns.length ≤ 63 → SqL K H a (ns.map V.int) → sp K [.ref a] H (fun v _ => v = .bl true) fun _ _ _ => False) :
    PySem.W.WalkO q loose XP YP l.row.toRowW d [] (fun f vs => PySem.call f vs) := by
  refine Att.attach_call hn hdf fun w s₀ s₁ mg mb fa o pm cd doc a vs ns G Y ho hd hcd hmg hobj hints hlen hg => ?_
  obtain ⟨fd, hb, hF⟩ := F w mg fa _ (hY w _ Y) G.T.g hmg
  exact law_at (hY w _ Y) G.T.g G.T.b G.T.builtins G.T.nolimit hg hobj hints (by rw [sizeLine_eq]; omega) hr hF hb fun H hO hS => hsp _ H a ns hlen hS
end My

namespace My
open PySem PySem.Spec PyProof.Rows L2
abbrev sFactI : Stmt := inClass (top 4) 0
abbrev sNoI : Stmt := inClass (top 5) 0
abbrev sTextI : Stmt := inClass (top 7) 0
abbrev sClasses : Stmt := top 13
abbrev sLaw : Stmt := top 14
/-- an error's own __init__ with one field -/
def spI1 (C : Addr) (f : Str) : Sp := fun vs H Q _ => ∃ (a : Addr) (y : V), vs = [.ref a, y] ∧ H a = some (exo a C none) ∧ ∀ dx, H dx = none → dx ≠ a → Q .non (upd (upd H dx (exd dx [(f, y)])) a (exo a C (some dx)))
def spI2 (C : Addr) : Sp := fun vs H Q _ => ∃ (a : Addr) (y z : V), vs = [.ref a, y, z] ∧ H a = some (exo a C none) ∧
  ∀ (dx : Addr) (H' : Hp), H dx = none → dx ≠ a → H' a = some (exo a C (some dx)) → H' dx = some (exd dx [("word", z), ("line", y)]) → (∀ b o, b ≠ a → H b = some o → H' b = some o) → Q .non H'
/-- the six classes, and what isinstance says of an instance of C to each of them and to the two above -/
structure KRow (K : PySem.W.Frag) (C C0 C1 C2 C3 C4 C5 CB : Addr) (b0 b1 b2 b3 b4 b5 : Bool) : Prop where
  exc : ExcC K C
  k0 : PySem.W.kitOne K (.ref C) (.ref C0) = some b0
  k1 : PySem.W.kitOne K (.ref C) (.ref C1) = some b1
  k2 : PySem.W.kitOne K (.ref C) (.ref C2) = some b2
  k3 : PySem.W.kitOne K (.ref C) (.ref C3) = some b3
  k4 : PySem.W.kitOne K (.ref C) (.ref C4) = some b4
  k5 : PySem.W.kitOne K (.ref C) (.ref C5) = some b5
  kB : PySem.W.kitOne K (.ref C) (.ref CB) = some true
  kV : PySem.W.kitOne K (.ref C) (.type "ValueError") = some true
def spClasses (K : PySem.W.Frag) (C0 C1 C2 C3 C4 C5 CB : Addr) : Sp := fun vs H Q _ => ∃ (a C : Addr) (b0 b1 b2 b3 b4 b5 : Bool), vs = [.ref a] ∧ ErrAt H a C ∧ KRow K C C0 C1 C2 C3 C4 C5 CB b0 b1 b2 b3 b4 b5 ∧
  ∀ (p : Addr) (H' : Hp), Same H H' → H p = none → H' p = some (.lst [.bl b0, .bl b1, .bl b2, .bl b3, .bl b4, .bl b5, .bl true, .bl true]) → Q (.ref p) H'
/-- the names of the classes -/
structure Nms (mg : Str → Option Value) (C0 C1 C2 C3 C4 C5 CB : Addr) : Prop where
  n0 : mg "Clash" = some (.ref C0)
  n1 : mg "BadSource" = some (.ref C1)
  n2 : mg "BadFact" = some (.ref C2)
  n3 : mg "NoFact" = some (.ref C3)
  n4 : mg "NothingDone" = some (.ref C4)
  n5 : mg "BadText" = some (.ref C5)
  nB : mg "CoreError" = some (.ref CB)
  nV : mg "ValueError" = none
  nI : mg "isinstance" = none
section
variable {P : Program} {w : World} {K : PySem.W.Frag} {mg : Str → Option Value} {base : Heap}
theorem scFactI : FnScope ["self", "value"] ["self", "value"] (defScope sFactI) := ⟨rfl, rfl, rfl, by decide +kernel, rfl, by decide +kernel, by decide +kernel⟩
theorem ok_factI {f C : Addr} {fd : FuncData} (F : Fun K "__init__" "BadFact.__init__" sFactI f fd) (T : OexC K C) (hno : PySem.W.findIn K (.ref C) "value" = some none) : FnOk P w K mg base CX0 1 f fd ["self", "value"] (spI1 C "value") := by
  refine F.ok scFactI (fun vs H Q E h => ?_) (fun cdv A outer s H vs Q E hr h => ?_)
  · obtain ⟨a, y, rfl, _⟩ := h
    rfl
  · obtain ⟨a, y, rfl, ha, q⟩ := h
    exact ⟨_, pss_one (ps_ost (pv 0) (pv 1)), _, rfl, _, rfl, a, C, rfl, T, hno, .inl ⟨ha, q⟩⟩
theorem scNoI : FnScope ["self", "value"] ["self", "value"] (defScope sNoI) := ⟨rfl, rfl, rfl, by decide +kernel, rfl, by decide +kernel, by decide +kernel⟩
theorem ok_noI {f C : Addr} {fd : FuncData} (F : Fun K "__init__" "NoFact.__init__" sNoI f fd) (T : OexC K C) (hno : PySem.W.findIn K (.ref C) "value" = some none) : FnOk P w K mg base CX0 1 f fd ["self", "value"] (spI1 C "value") := by
  refine F.ok scNoI (fun vs H Q E h => ?_) (fun cdv A outer s H vs Q E hr h => ?_)
  · obtain ⟨a, y, rfl, _⟩ := h
    rfl
  · obtain ⟨a, y, rfl, ha, q⟩ := h
    exact ⟨_, pss_one (ps_ost (pv 0) (pv 1)), _, rfl, _, rfl, a, C, rfl, T, hno, .inl ⟨ha, q⟩⟩
theorem scTextI : FnScope ["self", "line", "word"] ["self", "line", "word"] (defScope sTextI) := ⟨rfl, rfl, rfl, by decide +kernel, rfl, by decide +kernel, by decide +kernel⟩
theorem ok_textI {f C : Addr} {fd : FuncData} (F : Fun K "__init__" "BadText.__init__" sTextI f fd) (T : OexC K C) (hl : PySem.W.findIn K (.ref C) "line" = some none) (hw : PySem.W.findIn K (.ref C) "word" = some none) :
    FnOk P w K mg base CX0 1 f fd ["self", "line", "word"] (spI2 C) := by
  refine F.ok scTextI (fun vs H Q E h => ?_) (fun cdv A outer s H vs Q E hr h => ?_)
  · obtain ⟨a, y, z, rfl, _⟩ := h
    rfl
  · obtain ⟨a, y, z, rfl, ha, q⟩ := h
    refine ⟨_, pss_cons (ps_ost (pv 0) (pv 1)) (pss_one (ps_ost (pv 0) (pv 2))), _, rfl, _, rfl, a, C, rfl, T, hl, .inl ⟨ha, fun dx nd ne => ?_⟩⟩
    have ed : (upd (upd H dx (exd dx [("line", y)])) a (exo a C (some dx))) dx = some (exd dx [("line", y)]) := by
      rw [upd_ne ne]
      exact upd_same
    refine ⟨_, rfl, _, rfl, a, C, rfl, T, hw, .inr ⟨dx, _, upd_same, ed, (by show 1 ≤ 900; decide), ?_⟩⟩
    refine q dx _ nd ne ?_ upd_same fun b o hb hh => ?_
    · rw [upd_ne (Ne.symm ne)]
      exact upd_same
    · have hbd : b ≠ dx := ne_of_none hh nd
      rw [upd_ne hbd, upd_ne hb, upd_ne hbd]
      exact hh
theorem scClasses : FnScope ["_law_e", "_law_some"] ["_law_e"] (defScope sClasses) := ⟨rfl, rfl, rfl, by decide +kernel, rfl, by decide +kernel, by decide +kernel⟩
theorem ok_classes {f C0 C1 C2 C3 C4 C5 CB : Addr} {fd : FuncData} (F : Fun K "_law_classes" "_law_classes" sClasses f fd) (M : Nms mg C0 C1 C2 C3 C4 C5 CB) : FnOk P w K mg base CX0 1 f fd ["_law_e"] (spClasses K C0 C1 C2 C3 C4 C5 CB) := by
  refine F.ok scClasses (fun vs H Q E h => ?_) (fun cdv A outer s H vs Q E hr h => ?_)
  · obtain ⟨a, C, b0, b1, b2, b3, b4, b5, rfl, _⟩ := h
    rfl
  · obtain ⟨a, C, b0, b1, b2, b3, b4, b5, rfl, ha, R, q⟩ := h
    have hi := PyProof.Rows.boot_isinstance
    refine ⟨_, pss_cons (ps_set (i := 1) scClasses.nd rfl (Or.inl rfl) (pe_lst (pa_cons (pe_callB cr_isErr (by rfl) M.nI hi (pa_cons (pv 0) (pa_cons (pe_glob rfl M.n0 (v := .ref C0) rfl) pa_nil)))
      (pa_cons (pe_callB cr_isErr (by rfl) M.nI hi (pa_cons (pv 0) (pa_cons (pe_glob rfl M.n1 (v := .ref C1) rfl) pa_nil)))
      (pa_cons (pe_callB cr_isErr (by rfl) M.nI hi (pa_cons (pv 0) (pa_cons (pe_glob rfl M.n2 (v := .ref C2) rfl) pa_nil)))
      (pa_cons (pe_callB cr_isErr (by rfl) M.nI hi (pa_cons (pv 0) (pa_cons (pe_glob rfl M.n3 (v := .ref C3) rfl) pa_nil))) pa_nil))))))
      (pss_cons (ps_set (i := 1) scClasses.nd rfl (Or.inl rfl) (pe_op op_cat (pv 1) (pe_lst (pa_cons (pe_callB cr_isErr (by rfl) M.nI hi (pa_cons (pv 0) (pa_cons (pe_glob rfl M.n4 (v := .ref C4) rfl) pa_nil)))
      (pa_cons (pe_callB cr_isErr (by rfl) M.nI hi (pa_cons (pv 0) (pa_cons (pe_glob rfl M.n5 (v := .ref C5) rfl) pa_nil))) pa_nil)))))
      (pss_one (ps_ret (pe_op op_cat (pv 1) (pe_lst (pa_cons (pe_callB cr_isErr (by rfl) M.nI hi (pa_cons (pv 0) (pa_cons (pe_glob rfl M.nB (v := .ref CB) rfl) pa_nil)))
      (pa_cons (pe_callB cr_isErr (by rfl) M.nI hi (pa_cons (pv 0) (pa_cons (pe_bltn rfl M.nV (by decide +kernel) (v := .ty "ValueError") rfl) pa_nil))) pa_nil))))))), ?_⟩
    refine ⟨_, rfl, a, C, _, _, _, rfl, .own _, ha, R.exc, R.k0, _, rfl, a, C, _, _, _, rfl, .own _, ha, R.exc, R.k1, _, rfl, a, C, _, _, _, rfl, .own _, ha, R.exc, R.k2, _, rfl, a, C, _, _, _, rfl, .own _, ha, R.exc, R.k3,
      (by show 4 ≤ sizeLine; decide), fun p np => ?_⟩
    have ha1 := ha.same (same_new (o := HO.lst [.bl b0, .bl b1, .bl b2, .bl b3]) np)
    refine ⟨_, rfl, _, rfl, a, C, _, _, _, rfl, .own _, ha1, R.exc, R.k4, _, rfl, a, C, _, _, _, rfl, .own _, ha1, R.exc, R.k5, (by show 2 ≤ sizeLine; decide), fun p2 np2 => ⟨p, p2, _, _, rfl, rfl, same_new np2 _ _ upd_same, upd_same, (by show 4 + 2 ≤ sizeLine; decide), fun p3 np3 => ?_⟩⟩
    have ha2 := (ha1.same (same_new (o := HO.lst [.bl b4, .bl b5]) np2)).same (same_new (o := HO.lst ([.bl b0, .bl b1, .bl b2, .bl b3] ++ [.bl b4, .bl b5])) np3)
    refine ⟨_, rfl, _, rfl, a, C, _, _, _, rfl, .own _, ha2, R.exc, R.kB, _, rfl, a, C, _, _, _, rfl, .ty _, ha2, R.exc, R.kV, (by show 2 ≤ sizeLine; decide), fun p4 np4 => ⟨p3, p4, _, _, rfl, rfl, same_new np4 _ _ upd_same, upd_same, (by show 6 + 2 ≤ sizeLine; decide), fun p5 np5 => ?_⟩⟩
    have sA := (((same_new (o := HO.lst [.bl b0, .bl b1, .bl b2, .bl b3]) np).trans (same_new np2)).trans (same_new np3)).trans (same_new (o := HO.lst [.bl true, .bl true]) np4)
    exact q p5 _ (sA.trans (same_new np5)) (sA.free np5) upd_same
end
end My

namespace My
open PySem PySem.Spec PyProof.Rows L2
def spLaw (K : PySem.W.Frag) : Sp := fun vs H Q _ => ∃ (a : Addr) (ns : List Int), vs = [.ref a] ∧ SqL K H a (ns.map V.int) ∧ ns.length ≤ 63 ∧ ∀ H', Q (.bl true) H'
theorem scLaw : FnScope ["_law_script", "_law_deck_here", "_law_turn", "_law_a", "_law_b", "_law_made", "_law_k", "_law_place"] ["_law_script"] (defScope sLaw) := ⟨rfl, rfl, rfl, by decide +kernel, rfl, by decide +kernel, by decide +kernel⟩
theorem same_err {H : Hp} {a dx : Addr} {o1 o2 o3 : HO} (na : H a = none) (nd : (upd H a o1) dx = none) (ne : dx ≠ a) : Same H (upd (upd (upd H a o1) dx o2) a o3) := fun b o h => by
  have h1 : b ≠ a := ne_of_none h na
  have h2 : b ≠ dx := fun e => by
    rw [← e, upd_ne h1, h] at nd
    cases nd
  rw [upd_ne h1, upd_ne h2, upd_ne h1]
  exact h
/-- the six errors of a turn, as they stand -/
structure Six (K : PySem.W.Frag) (H : Hp) (C0 C1 C2 C3 C4 C5 : Addr) (m : Addr) (va : V) (b : Int) : Prop where
  ex : ∃ e0 e1 e2 e3 e4 e5 d2 d3 d5 : Addr, H m = some (.lst [.ref e0, .ref e1, .ref e2, .ref e3, .ref e4, .ref e5]) ∧
    ErrAt H e0 C0 ∧ ErrAt H e1 C1 ∧ ErrAt H e4 C4 ∧
    (H e2 = some (exo e2 C2 (some d2)) ∧ H d2 = some (exd d2 [("value", va)])) ∧ (H e3 = some (exo e3 C3 (some d3)) ∧ H d3 = some (exd d3 [("value", va)])) ∧
    (H e5 = some (exo e5 C5 (some d5)) ∧ H d5 = some (exd d5 [("word", va), ("line", .int b)]))
theorem iteFof {c : Bool} {A B : Prop} (h : c = false) (b : B) : if c = true then A else B := by
  rw [h]
  exact iteF b
theorem text4 (t1 t2 t3 t4 : Str) : (listText [t1, t2, t3, t4]).length = t1.length + t2.length + t3.length + t4.length + 8 := by
  unfold listText
  simp only [textFrom, strLen_append]
  have h0 : (Str.ofString "[").length = 1 := by decide +kernel
  have h1 : (Str.ofString "]").length = 1 := by decide +kernel
  have h2 : (Str.ofString (if 0 > 0 then ", " else "")).length = 0 := by decide +kernel
  have h3 : ∀ k : Nat, (Str.ofString (if k + 1 > 0 then ", " else "")).length = 2 := fun k => by
    rw [if_pos (Nat.succ_pos k)]
    decide +kernel
  simp only [h0, h1, h2, h3]
  omega
theorem small_shown : (List.range 1000).all (fun n => decide ((PyData.shown (.int (n : Int))).length ≤ 20) && PyData.showable (.int (n : Int))) = true := by decide +kernel
theorem Six.same {K : PySem.W.Frag} {H H' : Hp} {C0 C1 C2 C3 C4 C5 m : Addr} {va : V} {b : Int} (S : Six K H C0 C1 C2 C3 C4 C5 m va b) (e : Same H H') : Six K H' C0 C1 C2 C3 C4 C5 m va b := by
  obtain ⟨e0, e1, e2, e3, e4, e5, d2, d3, d5, h, a0, a1, a4, ⟨x2, y2⟩, ⟨x3, y3⟩, x5, y5⟩ := S
  exact ⟨e0, e1, e2, e3, e4, e5, d2, d3, d5, e _ _ h, a0.same e, a1.same e, a4.same e, ⟨e _ _ x2, e _ _ y2⟩, ⟨e _ _ x3, e _ _ y3⟩, e _ _ x5, e _ _ y5⟩
section
variable {P : Program} {w : World} {K : PySem.W.Frag} {mg : Str → Option Value} {base : Heap}
structure Txt (K : PySem.W.Frag) (mg : Str → Option Value) (C0 C1 C2 C3 C4 C5 CB f2 f3 f5 : Addr) : Prop where
  N : Nms mg C0 C1 C2 C3 C4 C5 CB
  q0 : PySem.W.excIn K C0 [.type "ValueError", .type "Exception", .type "BaseException", .type "object"] "ValueError.__new__" = true
  q1 : PySem.W.excIn K C1 [.type "ValueError", .type "Exception", .type "BaseException", .type "object"] "ValueError.__new__" = true
  q4 : PySem.W.excIn K C4 [.type "ValueError", .type "Exception", .type "BaseException", .type "object"] "ValueError.__new__" = true
  kp0 : PySem.W.keepIn K (.ref C0) = true
  kp1 : PySem.W.keepIn K (.ref C1) = true
  kp4 : PySem.W.keepIn K (.ref C4) = true
  o2 : OexC K C2
  o3 : OexC K C3
  o5 : OexC K C5
  i2 : PySem.W.findIn K (.ref C2) "__init__" = some (some (.ref f2))
  i3 : PySem.W.findIn K (.ref C3) "__init__" = some (some (.ref f3))
  i5 : PySem.W.findIn K (.ref C5) "__init__" = some (some (.ref f5))
  t2 : PySem.W.typeIn K (.ref f2) = some (.type "function")
  t3 : PySem.W.typeIn K (.ref f3) = some (.type "function")
  t5 : PySem.W.typeIn K (.ref f5) = some (.type "function")
  v2 : PySem.W.findIn K (.ref C2) "value" = some none
  v3 : PySem.W.findIn K (.ref C3) "value" = some none
  l5 : PySem.W.findIn K (.ref C5) "line" = some none
  w5 : PySem.W.findIn K (.ref C5) "word" = some none
  r0 : KRow K C0 C0 C1 C2 C3 C4 C5 CB true false false false false false
  r1 : KRow K C1 C0 C1 C2 C3 C4 C5 CB false true false false false false
  r2 : KRow K C2 C0 C1 C2 C3 C4 C5 CB false false true false false false
  r3 : KRow K C3 C0 C1 C2 C3 C4 C5 CB false false false true false false
  r4 : KRow K C4 C0 C1 C2 C3 C4 C5 CB false false false false true false
  r5 : KRow K C5 C0 C1 C2 C3 C4 C5 CB false false false false false true
theorem xf_of {C : Addr} (h : ExcC K C) : XfC K C := ⟨h.hg, h.hk, h.hs, h.hd⟩
theorem Six.item {H : Hp} {C0 C1 C2 C3 C4 C5 CB f2 f3 f5 m : Addr} {va : V} {b : Int} (T : Txt K mg C0 C1 C2 C3 C4 C5 CB f2 f3 f5) (S : Six K H C0 C1 C2 C3 C4 C5 m va b) {j : Nat} (hj : j < 6) :
    ∃ (xs : List V) (e C : Addr), H m = some (.lst xs) ∧ xs[j]? = some (.ref e) ∧ ErrAt H e C ∧ KRow K C C0 C1 C2 C3 C4 C5 CB (decide (0 = j)) (decide (1 = j)) (decide (2 = j)) (decide (3 = j)) (decide (4 = j)) (decide (5 = j)) := by
  obtain ⟨e0, e1, e2, e3, e4, e5, d2, d3, d5, h, a0, a1, a4, x2, x3, x5⟩ := S
  match j, hj with
  | 0, _ => exact ⟨_, e0, C0, h, rfl, a0, T.r0⟩
  | 1, _ => exact ⟨_, e1, C1, h, rfl, a1, T.r1⟩
  | 2, _ => exact ⟨_, e2, C2, h, rfl, .inr ⟨_, _, x2⟩, T.r2⟩
  | 3, _ => exact ⟨_, e3, C3, h, rfl, .inr ⟨_, _, x3⟩, T.r3⟩
  | 4, _ => exact ⟨_, e4, C4, h, rfl, a4, T.r4⟩
  | 5, _ => exact ⟨_, e5, C5, h, rfl, .inr ⟨_, _, x5⟩, T.r5⟩
  | n + 6, h => exact absurd h (by omega)
theorem ok_law {f C0 C1 C2 C3 C4 C5 CB f2 f3 f5 fDk fDr fOd fCl : Addr} {fd fd2 fd3 fd5 fdDk fdDr fdOd fdCl : FuncData} (F : Fun K "law" "law" sLaw f fd) (B : Blt mg) (T : Txt K mg C0 C1 C2 C3 C4 C5 CB f2 f3 f5)
    (GDk : FnOk P w K mg base CX0 1 fDk fdDk ["_law_script"] (spDeck K)) (mDk : mg "_law_deck" = some (.ref fDk)) (kDk : PySem.W.keepIn K (.ref fDk) = true) (bDk : Binds K fdDk ["_law_script"] [])
    (GDr : FnOk P w K mg base CX0 1 fDr fdDr ["_law_deck_here", "_law_many"] spDraw) (mDr : mg "_law_draw" = some (.ref fDr)) (kDr : PySem.W.keepIn K (.ref fDr) = true) (bDr : Binds K fdDr ["_law_deck_here", "_law_many"] [])
    (GOd : FnOk P w K mg base CX0 3 fOd fdOd ["_law_deck_here"] (spOdd K)) (mOd : mg "_law_odd" = some (.ref fOd)) (kOd : PySem.W.keepIn K (.ref fOd) = true) (bOd : Binds K fdOd ["_law_deck_here"] [])
    (GCl : FnOk P w K mg base CX0 1 fCl fdCl ["_law_e"] (spClasses K C0 C1 C2 C3 C4 C5 CB)) (mCl : mg "_law_classes" = some (.ref fCl)) (kCl : PySem.W.keepIn K (.ref fCl) = true) (bCl : Binds K fdCl ["_law_e"] [])
    (G2 : FnOk P w K mg base CX0 1 f2 fd2 ["self", "value"] (spI1 C2 "value")) (b2 : Binds K fd2 ["self", "value"] [])
    (G3 : FnOk P w K mg base CX0 1 f3 fd3 ["self", "value"] (spI1 C3 "value")) (b3 : Binds K fd3 ["self", "value"] [])
    (G5 : FnOk P w K mg base CX0 1 f5 fd5 ["self", "line", "word"] (spI2 C5)) (b5 : Binds K fd5 ["self", "line", "word"] []) :
    RunG P w K mg base 4 f fd ["_law_script"] (spLaw K) := by
  refine runG F scLaw (fun vs H Q E h => ?_) (fun cdv A outer s H vs Q E hgu hr h => ?_)
  · obtain ⟨a, ns, rfl, _⟩ := h
    rfl
  · obtain ⟨a, ns, rfl, hS, hn, q⟩ := h
    have hu := hr.units
    have hr1 : Room 1 _ := hr.mono (by decide)
    have hr2 : Room 2 _ := hr.mono (by decide)
    have FV := PySem.F.excBase_ValueError
    refine ⟨_, pss_cons (ps_set (i := 1) scLaw.nd rfl (Or.inl rfl) (pe_call GDk hr1 rfl mDk kDk bDk .nil pass0 (pa_cons (pv 0) pa_nil)))
      (pss_cons (ps_for PassesOwn.never rfl (pi_range1 rfl B.range (pa_cons pe_int pa_nil)) (pg_name (i := 2) scLaw.nd rfl (Or.inl rfl))
        (pss_cons (ps_par (i := 3) (j := 4) rfl scLaw.nd rfl rfl (by decide) rfl rfl (pa_cons (pe_call GOd hr rfl mOd kOd bOd .nil pass0 (pa_cons (pv 1) pa_nil)) (pa_cons (pe_call GDr hr1 rfl mDr kDr bDr .nil pass0 (pa_cons (pv 1) (pa_cons pe_int pa_nil))) pa_nil)) (by rfl))
        (pss_cons (ps_set (i := 5) scLaw.nd rfl (Or.inl rfl) (pe_lst (pa_cons (pe_exc0 FV T.q0 T.N.n0 T.kp0 rfl) (pa_cons (pe_exc0 FV T.q1 T.N.n1 T.kp1 rfl)
          (pa_cons (pe_errI T.o2 T.i2 T.t2 G2 hr2 b2 pass0 rfl T.N.n2 (pa_cons (pv 3) pa_nil)) (pa_cons (pe_errI T.o3 T.i3 T.t3 G3 hr2 b3 pass0 rfl T.N.n3 (pa_cons (pv 3) pa_nil))
          (pa_cons (pe_exc0 FV T.q4 T.N.n4 T.kp4 rfl) (pa_cons (pe_errI T.o5 T.i5 T.t5 G5 hr2 b5 pass0 rfl T.N.n5 (pa_cons (pv 4) (pa_cons (pv 3) pa_nil))) pa_nil))))))))
        (pss_cons (ps_for PassesOwn.never rfl (pi_range1 rfl B.range (pa_cons pe_int pa_nil)) (pg_name (i := 6) scLaw.nd rfl (Or.inr rfl))
          (pss_one (ps_if (pt_cmpR (op_neD hu) (pe_call GCl hr1 rfl mCl kCl bCl .nil pass0 (pa_cons (pe_ix ix_list (pv 5) (pv 6) (fun _ _ => rfl)) pa_nil))
            (pe_op op_cat (pe_lc (own := [("_law_place", 7)]) (g := gName 7) (tt := tYes) rfl scLaw.nd (pi_range1 rfl B.range (pa_cons pe_int pa_nil)) (blkOk_by (own := [("_law_place", 7)]) (N := ["_law_script", "_law_deck_here", "_law_turn", "_law_a", "_law_b", "_law_made", "_law_k", "_law_place"]) (sc := defScope sLaw) (by decide +kernel))
              (fun _ _ _ _ _ => pg_name (i := 7) scLaw.nd rfl (Or.inl rfl)) (fun _ _ _ _ _ => pts_nil) (fun _ _ _ _ _ => pe_cmpR op_eq (pv 7) (pv 6) (nomark _))) (pe_lst (pa_cons pe_bl (pa_cons pe_bl pa_nil)))) (nomark _))
            (pss_one (ps_ret pe_bl)) pss_nil)))
        (pss_one (ps_if (pt_cmpR op_ne (pe_callB (cr_repr hgu hu) (by rfl) B.repr boot_repr (pa_cons (pe_lst (pa_cons (pe_erF (pe_ix ix_list (pv 5) pe_int (fun _ _ => rfl))) (pa_cons (pe_erF (pe_ix ix_list (pv 5) pe_int (fun _ _ => rfl)))
            (pa_cons (pe_erF (pe_ix ix_list (pv 5) pe_int (fun _ _ => rfl))) (pa_cons (pe_erF (pe_ix ix_list (pv 5) pe_int (fun _ _ => rfl))) pa_nil))))) pa_nil))
            (pe_callB (cr_repr hgu hu) (by rfl) B.repr boot_repr (pa_cons (pe_lst (pa_cons (pv 3) (pa_cons (pv 3) (pa_cons (pv 4) (pa_cons (pv 3) pa_nil))))) pa_nil)) (nomark _))
          (pss_one (ps_ret pe_bl)) pss_nil))))))
      (pss_one (ps_ret pe_bl))), ?_⟩
    -- the deck
    refine ⟨_, rfl, a, ns, rfl, hS, hn, fun d l ms H1 D1 nd nl hm s1 => ?_⟩
    -- for turn in range(4)
    refine ⟨4, rfl, by decide, by decide, for_range (n := 4) (fun i σ H2 => ∃ v2 v3 v4 v5 v6 : Option V, σ = [some (.ref a), some (.ref d), v2, v3, v4, v5, v6, none] ∧ Deck H2 d l ms (2 * i)) ⟨none, none, none, none, none, rfl, D1⟩ ?_ fun σ H2 _ => q H2⟩
    rintro i σ H2 hi ⟨v2, v3, v4, v5, v6, rfl, D2⟩
    refine ⟨_, rfl, d, l, ms, 2 * i, rfl, D2, hm, by omega, fun va dd H3 hdd dva D3 f3 => ⟨_, rfl, d, l, ms, 2 * i + 1, 1000, rfl, by decide, by decide, D3, hm, by omega, fun b H4 hb0 hb1 D4 f4 => ⟨va, .int b, rfl, ?_⟩⟩⟩
    -- the six errors
    intro e0 n0 e1 n1
    refine ⟨_, rfl, (by show 1 ≤ 1000; decide), fun e2 n2 => ⟨e2, va, rfl, upd_same, fun d2 nd2 ne2 => ⟨rfl, _, rfl, (by show 1 ≤ 1000; decide), fun e3 n3 => ⟨e3, va, rfl, upd_same, fun d3 nd3 ne3 => ⟨rfl, fun e4 n4 => ⟨_, rfl, _, rfl, (by show 2 ≤ 1000; decide),
      fun e5 n5 => ⟨e5, .int b, va, rfl, upd_same, fun d5 H5 nd5 ne5 h51 h52 k5 => ⟨rfl, (by show 6 ≤ sizeLine; decide), fun m nm => ?_⟩⟩⟩⟩⟩⟩⟩⟩
    have s01 := same_new (o := ExO (.ref C0) e0) n0
    have s12 := same_new (o := ExO (.ref C1) e1) n1
    have s23 := same_err (o2 := exd d2 [("value", va)]) (o3 := exo e2 C2 (some d2)) n2 nd2 ne2
    have s34 := same_err (o2 := exd d3 [("value", va)]) (o3 := exo e3 C3 (some d3)) n3 nd3 ne3
    have s45 := same_new (o := ExO (.ref C4) e4) n4
    have s56 : Same _ H5 := fun b o h => k5 b o (ne_of_none h n5) (by rw [upd_ne (ne_of_none h n5)]; exact h)
    have s67 := same_new (o := HO.lst [.ref e0, .ref e1, .ref e2, .ref e3, .ref e4, .ref e5]) nm
    have t5 := s56.trans s67
    have t4 := s45.trans t5
    have t3 := s34.trans t4
    have t2 := s23.trans t3
    have t1 := s12.trans t2
    have t0 := s01.trans t1
    have S : Six K (upd H5 m (.lst [.ref e0, .ref e1, .ref e2, .ref e3, .ref e4, .ref e5])) C0 C1 C2 C3 C4 C5 m va b := ⟨e0, e1, e2, e3, e4, e5, d2, d3, d5, upd_same, ErrAt.same (.inl upd_same) t1, ErrAt.same (.inl upd_same) t2, ErrAt.same (.inl upd_same) t5,
      ⟨t3 _ _ upd_same, t3 _ _ (by rw [upd_ne ne2]; exact upd_same)⟩, ⟨t4 _ _ upd_same, t4 _ _ (by rw [upd_ne ne3]; exact upd_same)⟩, s67 _ _ h51, s67 _ _ h52⟩
    have Dm := D4.same t0
    have dvm : Dp K (upd H5 m (.lst [.ref e0, .ref e1, .ref e2, .ref e3, .ref e4, .ref e5])) va dd := dp_same t0 _ _ (dp_same off_le _ _ (dp_same (Fr.off f4) _ _ dva))
    -- for k in range(6)
    refine ⟨6, rfl, by decide, by decide, for_range (n := 6) (fun _ σ H6 => ∃ v6 : Option V, σ = [some (.ref a), some (.ref d), some (.int (0 + (i : Nat))), some va, some (.int b), some (.ref m), v6, none] ∧
      Same (upd H5 m (.lst [.ref e0, .ref e1, .ref e2, .ref e3, .ref e4, .ref e5])) H6) ⟨v6, rfl, Same.refl _⟩ ?_ ?_⟩
    · rintro j σ H6 hj ⟨v6', rfl, s6⟩
      obtain ⟨xs, e, C, hxs, hit, hE, hR⟩ := (S.same s6).item T hj
      refine ⟨_, rfl, _, rfl, m, xs, _, .ref e, rfl, rfl, .inl (.inl hxs), at_of (j := j) (by omega) hit, e, C, _, _, _, _, _, _, rfl, hE, hR, fun p7 H7 s7 n7 h7 => ?_⟩
      refine ⟨6, rfl, by decide, by decide, fun Dn nD => lc_range (lo := 0) (n := 6) (fun t H8 => H8 Dn = some (.lst ((List.range t).map fun u => V.bl (decide (u = j)))) ∧ Same H7 H8) ⟨upd_same, same_new nD⟩ ?_ ?_⟩
      · rintro t H8 ht ⟨hD, s8⟩
        refine ⟨rfl, ?_⟩
        dsimp only [tYes]
        rw [if_pos rfl]
        refine ⟨_, rfl, _, rfl, rfl, _, hD, ?_, ?_, fun b o h => ?_⟩
        · rw [List.length_map, List.length_range, sizeLine_eq]
          omega
        · have eb : decide (V.int (0 + (t : Nat)) = V.int (0 + (j : Nat))) = decide (t = j) := decide_eq_decide.mpr ⟨fun z => by have := V.int.inj z; omega, fun z => by rw [z]⟩
          rw [upd_same, List.range_succ, List.map_append]
          show some (HO.lst (_ ++ [V.bl (decide (V.int (0 + (t : Nat)) = V.int (0 + (j : Nat))))])) = _
          rw [eb]
          rfl
        · rw [upd_ne (ne_of_none h nD)]
          exact s8 _ _ h
      · rintro H8 ⟨hD, s8⟩
        refine ⟨(by show 2 ≤ sizeLine; decide), fun p9 n9 => ⟨Dn, p9, _, _, rfl, rfl, same_new n9 _ _ hD, upd_same, (by show 6 + 2 ≤ sizeLine; decide), fun p10 n10 => ?_⟩⟩
        have sB := s8.trans ((same_new (o := HO.lst [.bl true, .bl true]) n9).trans (same_new (o := HO.lst (((List.range 6).map fun u => V.bl (decide (u = j))) ++ [.bl true, .bl true])) n10))
        refine ⟨.list [.bool (decide (0 = j)), .bool (decide (1 = j)), .bool (decide (2 = j)), .bool (decide (3 = j)), .bool (decide (4 = j)), .bool (decide (5 = j)), .bool true, .bool true],
          .list [.bool (decide (0 = j)), .bool (decide (1 = j)), .bool (decide (2 = j)), .bool (decide (3 = j)), .bool (decide (4 = j)), .bool (decide (5 = j)), .bool true, .bool true],
          .lst (.inl (.inl (sB _ _ h7))) (.cons (.bl _) (.cons (.bl _) (.cons (.bl _) (.cons (.bl _) (.cons (.bl _) (.cons (.bl _) (.cons (.bl _) (.cons (.bl _) .nil)))))))),
          .lst (.inl (.inl upd_same)) (.cons (.bl _) (.cons (.bl _) (.cons (.bl _) (.cons (.bl _) (.cons (.bl _) (.cons (.bl _) (.cons (.bl _) (.cons (.bl _) .nil)))))))), ?_, ?_, _, rfl, iteFof ?_ ⟨_, rfl, s6.trans (s7.trans sB)⟩⟩
        · simp [SeqAt.shaped, PyData.canLay0, PyData.canLayAll0, PyData.depth, PyData.depthAll]
        · simp [SeqAt.shaped, PyData.canLay0, PyData.canLayAll0, PyData.depth, PyData.depthAll]
        · simp [PyData.eqv, PyData.eqvAll]
    · rintro σ H6 ⟨v6', rfl, s6⟩
      obtain ⟨e0', e1', e2', e3', e4', e5', d2', d3', d5', h, _, _, _, ⟨x2, y2⟩, ⟨x3, y3⟩, x5, y5⟩ := S.same s6
      have dv6 := dp_same s6 _ _ dvm
      have ok := List.all_eq_true.mp odds_ok dd hdd
      obtain ⟨k1, ok⟩ := Bool.and_eq_true_iff.mp ok
      obtain ⟨k2, ok⟩ := Bool.and_eq_true_iff.mp ok
      obtain ⟨k3, _⟩ := Bool.and_eq_true_iff.mp ok
      have k2' := of_decide_eq_true k2
      have k3' := of_decide_eq_true k3
      obtain ⟨bn, rfl⟩ : ∃ bn : Nat, b = (bn : Int) := ⟨b.toNat, by omega⟩
      have okb := List.all_eq_true.mp small_shown bn (List.mem_range.mpr (by omega))
      obtain ⟨m1, m2⟩ := Bool.and_eq_true_iff.mp okb
      have m1' := of_decide_eq_true m1
      have kS : (PyData.list [dd, dd, .int (bn : Int), dd]).showable = true := by
        simp only [PyData.showable, PyData.showableAll, k1, Bool.and_true, Bool.true_and]
        simpa [PyData.showable] using m2
      have kD : (PyData.list [dd, dd, .int (bn : Int), dd]).depth ≤ 60 := by
        simp only [PyData.depth, PyData.depthAll]
        omega
      have kL : (PyData.list [dd, dd, .int (bn : Int), dd]).shown.length ≤ sizeLine := by
        simp only [PyData.shown, PyData.shownAll] at m1' ⊢
        rw [text4, sizeLine_eq]
        omega
      refine ⟨_, rfl, m, _, _, _, rfl, rfl, .inl (.inl h), rfl, e2', C2, d2', _, _, rfl, xf_of T.r2.exc, T.v2, x2, y2, rfl, ?_⟩
      refine ⟨_, rfl, m, _, _, _, rfl, rfl, .inl (.inl h), rfl, e3', C3, d3', _, _, rfl, xf_of T.r3.exc, T.v3, x3, y3, rfl, ?_⟩
      refine ⟨_, rfl, m, _, _, _, rfl, rfl, .inl (.inl h), rfl, e5', C5, d5', _, _, rfl, xf_of T.r5.exc, T.l5, x5, y5, rfl, ?_⟩
      refine ⟨_, rfl, m, _, _, _, rfl, rfl, .inl (.inl h), rfl, e5', C5, d5', _, _, rfl, xf_of T.r5.exc, T.w5, x5, y5, rfl, ?_⟩
      refine ⟨(by show 4 ≤ sizeLine; decide), fun p1 np1 => ⟨_, .list [dd, dd, .int (bn : Int), dd], rfl, .lst (.inl (.inl upd_same)) ?_, kS, kD, kL, ?_⟩⟩
      · have g := dp_same (same_new (o := HO.lst [va, va, .int (bn : Int), va]) np1) _ _ dv6
        exact .cons g (.cons g (.cons (.int _) (.cons g .nil)))
      refine ⟨_, rfl, _, rfl, _, rfl, _, rfl, (by show 4 ≤ sizeLine; decide), fun p2 np2 => ⟨_, .list [dd, dd, .int (bn : Int), dd], rfl, .lst (.inl (.inl upd_same)) ?_, kS, kD, kL, ?_⟩⟩
      · have g := dp_same ((same_new (o := HO.lst [va, va, .int (bn : Int), va]) np1).trans (same_new (o := HO.lst [va, va, .int (bn : Int), va]) np2)) _ _ dv6
        exact .cons g (.cons g (.cons (.int _) (.cons g .nil)))
      refine ⟨rfl, _, rfl, iteFof (by simp) ⟨_, _, _, _, _, rfl, (Dm.same (s6.trans ((same_new np1).trans (same_new np2)))).mono (by omega)⟩⟩
end
end My

namespace My
open PySem PySem.Spec PyProof.Rows L2
theorem all_mk {l : PySem.W.OpenLaw} {w : World} {K : PySem.W.Frag} {h : Heap} {mg : Str → Option Value} {fa fDk fDr fOn fOd fCl f2 f3 f5 fLw C0 C1 C2 C3 C4 C5 CB : Addr} (X : K.In h) (G : h.Ns mainGlobals mg) (hfa : mg "law" = some (.ref fa))
    {odDk anDk odDr anDr odOn anOn odOd anOd odCl anCl odI2 anI2 odI3 anI3 odI5 anI5 odLw anLw : Option Addr} {slDk slDr slOn slOd slCl slI2 slI3 slI5 slLw : Array (Option Value)} {ocDk kVDk dcDk pmDk cdDk ctDk ocDr kVDr dcDr pmDr cdDr ctDr ocOn kVOn dcOn pmOn cdOn ctOn ocOd kVOd dcOd pmOd cdOd ctOd ocCl kVCl dcCl pmCl cdCl ctCl ocI2 kVI2 dcI2 pmI2 cdI2 ctI2 ocI3 kVI3 dcI3 pmI3 cdI3 ctI3 ocI5 kVI5 dcI5 pmI5 cdI5 ctI5 ocLw kVLw dcLw pmLw cdLw ctLw : Value}
    {nmC2 qC2 : Str} {NC2 : Addr} {bsC2 : List Value} {snC2 : List Str} {subC2 : List Value} {abC2 : Bool} {colC2 : Option Bool} {ddC2 : Option Addr} {m0C2 m1C2 m2C2 m3C2 m5C2 : Option Value} {nmC3 qC3 : Str} {NC3 : Addr} {bsC3 : List Value} {snC3 : List Str} {subC3 : List Value} {abC3 : Bool} {colC3 : Option Bool} {ddC3 : Option Addr} {m0C3 m1C3 m2C3 m3C3 m5C3 : Option Value} {nmC5 qC5 : Str} {NC5 : Addr} {bsC5 : List Value} {snC5 : List Str} {subC5 : List Value} {abC5 : Bool} {colC5 : Option Bool} {ddC5 : Option Addr} {m0C5 m1C5 m2C5 m3C5 m5C5 : Option Value}
    (aDk : PySem.W.nsIn K mainGlobals "_law_deck" = some (some (.ref fDk)))
    (lDk : K.lookup fDk = some ⟨ocDk, odDk, .func (PySem.W.fnOf "_law_deck" "_law_deck" (defArgs sDeck) (defBody sDeck) (defScope sDeck) .none kVDk dcDk pmDk anDk cdDk ctDk), slDk⟩)
    (cDk : PySem.W.codeIn K cdDk "_law_deck" = true)
    (kDk : PySem.W.keepIn K (.ref fDk) = true)
    (aDr : PySem.W.nsIn K mainGlobals "_law_draw" = some (some (.ref fDr)))
    (lDr : K.lookup fDr = some ⟨ocDr, odDr, .func (PySem.W.fnOf "_law_draw" "_law_draw" (defArgs sDraw) (defBody sDraw) (defScope sDraw) .none kVDr dcDr pmDr anDr cdDr ctDr), slDr⟩)
    (cDr : PySem.W.codeIn K cdDr "_law_draw" = true)
    (kDr : PySem.W.keepIn K (.ref fDr) = true)
    (aOn : PySem.W.nsIn K mainGlobals "_law_one" = some (some (.ref fOn)))
    (lOn : K.lookup fOn = some ⟨ocOn, odOn, .func (PySem.W.fnOf "_law_one" "_law_one" (defArgs sOne) (defBody sOne) (defScope sOne) .none kVOn dcOn pmOn anOn cdOn ctOn), slOn⟩)
    (cOn : PySem.W.codeIn K cdOn "_law_one" = true)
    (kOn : PySem.W.keepIn K (.ref fOn) = true)
    (aOd : PySem.W.nsIn K mainGlobals "_law_odd" = some (some (.ref fOd)))
    (lOd : K.lookup fOd = some ⟨ocOd, odOd, .func (PySem.W.fnOf "_law_odd" "_law_odd" (defArgs sOdd) (defBody sOdd) (defScope sOdd) .none kVOd dcOd pmOd anOd cdOd ctOd), slOd⟩)
    (cOd : PySem.W.codeIn K cdOd "_law_odd" = true)
    (kOd : PySem.W.keepIn K (.ref fOd) = true)
    (aCl : PySem.W.nsIn K mainGlobals "_law_classes" = some (some (.ref fCl)))
    (lCl : K.lookup fCl = some ⟨ocCl, odCl, .func (PySem.W.fnOf "_law_classes" "_law_classes" (defArgs sClasses) (defBody sClasses) (defScope sClasses) .none kVCl dcCl pmCl anCl cdCl ctCl), slCl⟩)
    (cCl : PySem.W.codeIn K cdCl "_law_classes" = true)
    (kCl : PySem.W.keepIn K (.ref fCl) = true)
    (aI2 : PySem.W.findIn K (.ref C2) "__init__" = some (some (.ref f2)))
    (lI2 : K.lookup f2 = some ⟨ocI2, odI2, .func (PySem.W.fnOf "__init__" "BadFact.__init__" (defArgs sFactI) (defBody sFactI) (defScope sFactI) .none kVI2 dcI2 pmI2 anI2 cdI2 ctI2), slI2⟩)
    (cI2 : PySem.W.codeIn K cdI2 "BadFact.__init__" = true)
    (kI2 : PySem.W.keepIn K (.ref f2) = true)
    (aI3 : PySem.W.findIn K (.ref C3) "__init__" = some (some (.ref f3)))
    (lI3 : K.lookup f3 = some ⟨ocI3, odI3, .func (PySem.W.fnOf "__init__" "NoFact.__init__" (defArgs sNoI) (defBody sNoI) (defScope sNoI) .none kVI3 dcI3 pmI3 anI3 cdI3 ctI3), slI3⟩)
    (cI3 : PySem.W.codeIn K cdI3 "NoFact.__init__" = true)
    (kI3 : PySem.W.keepIn K (.ref f3) = true)
    (aI5 : PySem.W.findIn K (.ref C5) "__init__" = some (some (.ref f5)))
    (lI5 : K.lookup f5 = some ⟨ocI5, odI5, .func (PySem.W.fnOf "__init__" "BadText.__init__" (defArgs sTextI) (defBody sTextI) (defScope sTextI) .none kVI5 dcI5 pmI5 anI5 cdI5 ctI5), slI5⟩)
    (cI5 : PySem.W.codeIn K cdI5 "BadText.__init__" = true)
    (kI5 : PySem.W.keepIn K (.ref f5) = true)
    (aLw : PySem.W.nsIn K mainGlobals "law" = some (some (.ref fLw)))
    (lLw : K.lookup fLw = some ⟨ocLw, odLw, .func (PySem.W.fnOf "law" "law" (defArgs sLaw) (defBody sLaw) (defScope sLaw) .none kVLw dcLw pmLw anLw cdLw ctLw), slLw⟩)
    (cLw : PySem.W.codeIn K cdLw "law" = true)
    (kLw : PySem.W.keepIn K (.ref fLw) = true)
    (tI2 : PySem.W.typeIn K (.ref f2) = some (.type "function"))
    (tI3 : PySem.W.typeIn K (.ref f3) = some (.type "function"))
    (tI5 : PySem.W.typeIn K (.ref f5) = some (.type "function"))
    (z_int : PySem.W.nsIn K mainGlobals "int" = some none)
    (z_len : PySem.W.nsIn K mainGlobals "len" = some none)
    (z_abs : PySem.W.nsIn K mainGlobals "abs" = some none)
    (z_list : PySem.W.nsIn K mainGlobals "list" = some none)
    (z_range : PySem.W.nsIn K mainGlobals "range" = some none)
    (z_repr : PySem.W.nsIn K mainGlobals "repr" = some none)
    (z_ValueError : PySem.W.nsIn K mainGlobals "ValueError" = some none)
    (z_isinstance : PySem.W.nsIn K mainGlobals "isinstance" = some none)
    (gC0 : PySem.W.nsIn K mainGlobals "Clash" = some (some (.ref C0)))
    (gC1 : PySem.W.nsIn K mainGlobals "BadSource" = some (some (.ref C1)))
    (gC2 : PySem.W.nsIn K mainGlobals "BadFact" = some (some (.ref C2)))
    (gC3 : PySem.W.nsIn K mainGlobals "NoFact" = some (some (.ref C3)))
    (gC4 : PySem.W.nsIn K mainGlobals "NothingDone" = some (some (.ref C4)))
    (gC5 : PySem.W.nsIn K mainGlobals "BadText" = some (some (.ref C5)))
    (gCB : PySem.W.nsIn K mainGlobals "CoreError" = some (some (.ref CB)))
    (qC0 : PySem.W.excIn K C0 [.type "ValueError", .type "Exception", .type "BaseException", .type "object"] "ValueError.__new__" = true)
    (kpC0 : PySem.W.keepIn K (.ref C0) = true)
    (qC1 : PySem.W.excIn K C1 [.type "ValueError", .type "Exception", .type "BaseException", .type "object"] "ValueError.__new__" = true)
    (kpC1 : PySem.W.keepIn K (.ref C1) = true)
    (qC4 : PySem.W.excIn K C4 [.type "ValueError", .type "Exception", .type "BaseException", .type "object"] "ValueError.__new__" = true)
    (kpC4 : PySem.W.keepIn K (.ref C4) = true)
    (xC2 : K.lookup C2 = some (excClassObj nmC2 qC2 C2 NC2 bsC2 (.ref CB :: [.type "ValueError", .type "Exception", .type "BaseException", .type "object"]) true snC2 subC2 abC2 colC2 ddC2 m0C2 m1C2 m2C2 m3C2 m5C2 "ValueError.__new__"))
    (saC2 : PySem.W.findIn K (.ref C2) "__setattr__" = some (some (.builtin "object.__setattr__")))
    (tyC2 : PySem.W.typeIn K (.ref C2) = some (.type "type"))
    (kpC2 : PySem.W.keepIn K (.ref C2) = true)
    (xC3 : K.lookup C3 = some (excClassObj nmC3 qC3 C3 NC3 bsC3 (.ref CB :: [.type "ValueError", .type "Exception", .type "BaseException", .type "object"]) true snC3 subC3 abC3 colC3 ddC3 m0C3 m1C3 m2C3 m3C3 m5C3 "ValueError.__new__"))
    (saC3 : PySem.W.findIn K (.ref C3) "__setattr__" = some (some (.builtin "object.__setattr__")))
    (tyC3 : PySem.W.typeIn K (.ref C3) = some (.type "type"))
    (kpC3 : PySem.W.keepIn K (.ref C3) = true)
    (xC5 : K.lookup C5 = some (excClassObj nmC5 qC5 C5 NC5 bsC5 (.ref CB :: [.type "ValueError", .type "Exception", .type "BaseException", .type "object"]) true snC5 subC5 abC5 colC5 ddC5 m0C5 m1C5 m2C5 m3C5 m5C5 "ValueError.__new__"))
    (saC5 : PySem.W.findIn K (.ref C5) "__setattr__" = some (some (.builtin "object.__setattr__")))
    (tyC5 : PySem.W.typeIn K (.ref C5) = some (.type "type"))
    (kpC5 : PySem.W.keepIn K (.ref C5) = true)
    (v2 : PySem.W.findIn K (.ref C2) "value" = some none)
    (v3 : PySem.W.findIn K (.ref C3) "value" = some none)
    (l5 : PySem.W.findIn K (.ref C5) "line" = some none)
    (w5 : PySem.W.findIn K (.ref C5) "word" = some none)
    (oh : PySem.W.specialIn K (.builtin "object.__class__") "__get__" = some (some (.builtin "getset_descriptor.__get__")))
    (ot : PySem.W.takesIn K (.builtin "object.__class__") = some true)
    (egC0 : PySem.W.findIn K (.ref C0) "__getattribute__" = some (some (.builtin "BaseException.__getattribute__")))
    (ekC0 : PySem.W.findIn K (.ref C0) "__getattr__" = some none)
    (esC0 : PySem.W.subIn K (.ref C0) (.type "BaseException") = some true)
    (edC0 : PySem.W.hasDictIn K C0 = true)
    (eaC0 : PySem.W.findIn K (.ref C0) "__class__" = some (some (.builtin "object.__class__")))
    (emC0 : PySem.W.mroIn K C0 (.type "object") = some true)
    (egC1 : PySem.W.findIn K (.ref C1) "__getattribute__" = some (some (.builtin "BaseException.__getattribute__")))
    (ekC1 : PySem.W.findIn K (.ref C1) "__getattr__" = some none)
    (esC1 : PySem.W.subIn K (.ref C1) (.type "BaseException") = some true)
    (edC1 : PySem.W.hasDictIn K C1 = true)
    (eaC1 : PySem.W.findIn K (.ref C1) "__class__" = some (some (.builtin "object.__class__")))
    (emC1 : PySem.W.mroIn K C1 (.type "object") = some true)
    (egC2 : PySem.W.findIn K (.ref C2) "__getattribute__" = some (some (.builtin "BaseException.__getattribute__")))
    (ekC2 : PySem.W.findIn K (.ref C2) "__getattr__" = some none)
    (esC2 : PySem.W.subIn K (.ref C2) (.type "BaseException") = some true)
    (edC2 : PySem.W.hasDictIn K C2 = true)
    (eaC2 : PySem.W.findIn K (.ref C2) "__class__" = some (some (.builtin "object.__class__")))
    (emC2 : PySem.W.mroIn K C2 (.type "object") = some true)
    (egC3 : PySem.W.findIn K (.ref C3) "__getattribute__" = some (some (.builtin "BaseException.__getattribute__")))
    (ekC3 : PySem.W.findIn K (.ref C3) "__getattr__" = some none)
    (esC3 : PySem.W.subIn K (.ref C3) (.type "BaseException") = some true)
    (edC3 : PySem.W.hasDictIn K C3 = true)
    (eaC3 : PySem.W.findIn K (.ref C3) "__class__" = some (some (.builtin "object.__class__")))
    (emC3 : PySem.W.mroIn K C3 (.type "object") = some true)
    (egC4 : PySem.W.findIn K (.ref C4) "__getattribute__" = some (some (.builtin "BaseException.__getattribute__")))
    (ekC4 : PySem.W.findIn K (.ref C4) "__getattr__" = some none)
    (esC4 : PySem.W.subIn K (.ref C4) (.type "BaseException") = some true)
    (edC4 : PySem.W.hasDictIn K C4 = true)
    (eaC4 : PySem.W.findIn K (.ref C4) "__class__" = some (some (.builtin "object.__class__")))
    (emC4 : PySem.W.mroIn K C4 (.type "object") = some true)
    (egC5 : PySem.W.findIn K (.ref C5) "__getattribute__" = some (some (.builtin "BaseException.__getattribute__")))
    (ekC5 : PySem.W.findIn K (.ref C5) "__getattr__" = some none)
    (esC5 : PySem.W.subIn K (.ref C5) (.type "BaseException") = some true)
    (edC5 : PySem.W.hasDictIn K C5 = true)
    (eaC5 : PySem.W.findIn K (.ref C5) "__class__" = some (some (.builtin "object.__class__")))
    (emC5 : PySem.W.mroIn K C5 (.type "object") = some true)
    (y00 : PySem.W.kitOne K (.ref C0) (.ref C0) = some true)
    (y01 : PySem.W.kitOne K (.ref C0) (.ref C1) = some false)
    (y02 : PySem.W.kitOne K (.ref C0) (.ref C2) = some false)
    (y03 : PySem.W.kitOne K (.ref C0) (.ref C3) = some false)
    (y04 : PySem.W.kitOne K (.ref C0) (.ref C4) = some false)
    (y05 : PySem.W.kitOne K (.ref C0) (.ref C5) = some false)
    (y0B : PySem.W.kitOne K (.ref C0) (.ref CB) = some true)
    (y0V : PySem.W.kitOne K (.ref C0) (.type "ValueError") = some true)
    (y10 : PySem.W.kitOne K (.ref C1) (.ref C0) = some false)
    (y11 : PySem.W.kitOne K (.ref C1) (.ref C1) = some true)
    (y12 : PySem.W.kitOne K (.ref C1) (.ref C2) = some false)
    (y13 : PySem.W.kitOne K (.ref C1) (.ref C3) = some false)
    (y14 : PySem.W.kitOne K (.ref C1) (.ref C4) = some false)
    (y15 : PySem.W.kitOne K (.ref C1) (.ref C5) = some false)
    (y1B : PySem.W.kitOne K (.ref C1) (.ref CB) = some true)
    (y1V : PySem.W.kitOne K (.ref C1) (.type "ValueError") = some true)
    (y20 : PySem.W.kitOne K (.ref C2) (.ref C0) = some false)
    (y21 : PySem.W.kitOne K (.ref C2) (.ref C1) = some false)
    (y22 : PySem.W.kitOne K (.ref C2) (.ref C2) = some true)
    (y23 : PySem.W.kitOne K (.ref C2) (.ref C3) = some false)
    (y24 : PySem.W.kitOne K (.ref C2) (.ref C4) = some false)
    (y25 : PySem.W.kitOne K (.ref C2) (.ref C5) = some false)
    (y2B : PySem.W.kitOne K (.ref C2) (.ref CB) = some true)
    (y2V : PySem.W.kitOne K (.ref C2) (.type "ValueError") = some true)
    (y30 : PySem.W.kitOne K (.ref C3) (.ref C0) = some false)
    (y31 : PySem.W.kitOne K (.ref C3) (.ref C1) = some false)
    (y32 : PySem.W.kitOne K (.ref C3) (.ref C2) = some false)
    (y33 : PySem.W.kitOne K (.ref C3) (.ref C3) = some true)
    (y34 : PySem.W.kitOne K (.ref C3) (.ref C4) = some false)
    (y35 : PySem.W.kitOne K (.ref C3) (.ref C5) = some false)
    (y3B : PySem.W.kitOne K (.ref C3) (.ref CB) = some true)
    (y3V : PySem.W.kitOne K (.ref C3) (.type "ValueError") = some true)
    (y40 : PySem.W.kitOne K (.ref C4) (.ref C0) = some false)
    (y41 : PySem.W.kitOne K (.ref C4) (.ref C1) = some false)
    (y42 : PySem.W.kitOne K (.ref C4) (.ref C2) = some false)
    (y43 : PySem.W.kitOne K (.ref C4) (.ref C3) = some false)
    (y44 : PySem.W.kitOne K (.ref C4) (.ref C4) = some true)
    (y45 : PySem.W.kitOne K (.ref C4) (.ref C5) = some false)
    (y4B : PySem.W.kitOne K (.ref C4) (.ref CB) = some true)
    (y4V : PySem.W.kitOne K (.ref C4) (.type "ValueError") = some true)
    (y50 : PySem.W.kitOne K (.ref C5) (.ref C0) = some false)
    (y51 : PySem.W.kitOne K (.ref C5) (.ref C1) = some false)
    (y52 : PySem.W.kitOne K (.ref C5) (.ref C2) = some false)
    (y53 : PySem.W.kitOne K (.ref C5) (.ref C3) = some false)
    (y54 : PySem.W.kitOne K (.ref C5) (.ref C4) = some false)
    (y55 : PySem.W.kitOne K (.ref C5) (.ref C5) = some true)
    (y5B : PySem.W.kitOne K (.ref C5) (.ref CB) = some true)
    (y5V : PySem.W.kitOne K (.ref C5) (.type "ValueError") = some true) :
    ∃ fd : FuncData, (∀ (s : Shared) (v : Value), BindsTo s fd ⟨[v], []⟩ [("_law_script", v)]) ∧ ∀ base : Heap, K.In base → base.Ns mainGlobals mg → RunG l.prog w K mg base 4 fa fd ["_law_script"] (spLaw K) := by
  have e := hfa.symm.trans (PySem.W.mg_of X G aLw)
  cases e
  have m := fun {x : Str} {v : Value} (a : PySem.W.nsIn K mainGlobals x = some (some v)) => PySem.W.mg_of X G a
  have z := fun {x : Str} (a : PySem.W.nsIn K mainGlobals x = some none) => PySem.W.mg_none_of X G a
  have B : Blt mg := ⟨z z_int, z z_len, z z_abs, z z_list, z z_range, z z_repr⟩
  have N : Nms mg C0 C1 C2 C3 C4 C5 CB := ⟨m gC0, m gC1, m gC2, m gC3, m gC4, m gC5, m gCB, z z_ValueError, z z_isinstance⟩
  have R0 : KRow K C0 C0 C1 C2 C3 C4 C5 CB true false false false false false := ⟨⟨egC0, ekC0, esC0, edC0, eaC0, oh, ot, emC0⟩, y00, y01, y02, y03, y04, y05, y0B, y0V⟩
  have R1 : KRow K C1 C0 C1 C2 C3 C4 C5 CB false true false false false false := ⟨⟨egC1, ekC1, esC1, edC1, eaC1, oh, ot, emC1⟩, y10, y11, y12, y13, y14, y15, y1B, y1V⟩
  have R2 : KRow K C2 C0 C1 C2 C3 C4 C5 CB false false true false false false := ⟨⟨egC2, ekC2, esC2, edC2, eaC2, oh, ot, emC2⟩, y20, y21, y22, y23, y24, y25, y2B, y2V⟩
  have R3 : KRow K C3 C0 C1 C2 C3 C4 C5 CB false false false true false false := ⟨⟨egC3, ekC3, esC3, edC3, eaC3, oh, ot, emC3⟩, y30, y31, y32, y33, y34, y35, y3B, y3V⟩
  have R4 : KRow K C4 C0 C1 C2 C3 C4 C5 CB false false false false true false := ⟨⟨egC4, ekC4, esC4, edC4, eaC4, oh, ot, emC4⟩, y40, y41, y42, y43, y44, y45, y4B, y4V⟩
  have R5 : KRow K C5 C0 C1 C2 C3 C4 C5 CB false false false false false true := ⟨⟨egC5, ekC5, esC5, edC5, eaC5, oh, ot, emC5⟩, y50, y51, y52, y53, y54, y55, y5B, y5V⟩
  have rvC2 : PySem.HandSPX.refsVE (.ref CB :: [.type "ValueError", .type "Exception", .type "BaseException", .type "object"]) = true := rfl
  have rvC3 := rvC2
  have rvC5 := rvC2
  have O2 : OexC K C2 := ⟨⟨_, _, _, _, _, _, _, _, _, _, _, _, _, _, _, xC2, rvC2⟩, saC2, esC2, tyC2, kpC2⟩
  have O3 : OexC K C3 := ⟨⟨_, _, _, _, _, _, _, _, _, _, _, _, _, _, _, xC3, rvC3⟩, saC3, esC3, tyC3, kpC3⟩
  have O5 : OexC K C5 := ⟨⟨_, _, _, _, _, _, _, _, _, _, _, _, _, _, _, xC5, rvC5⟩, saC5, esC5, tyC5, kpC5⟩
  have FDk := fun_mk (st := sDeck) lDk cDk kDk
  have FDr := fun_mk (st := sDraw) lDr cDr kDr
  have FOn := fun_mk (st := sOne) lOn cOn kOn
  have FOd := fun_mk (st := sOdd) lOd cOd kOd
  have FCl := fun_mk (st := sClasses) lCl cCl kCl
  have FI2 := fun_mk (st := sFactI) lI2 cI2 kI2
  have FI3 := fun_mk (st := sNoI) lI3 cI3 kI3
  have FI5 := fun_mk (st := sTextI) lI5 cI5 kI5
  have FLw := fun_mk (st := sLaw) lLw cLw kLw
  have bDk := FDk.binds (ps := ["_law_script"]) fun _ _ _ _ _ _ us hl => match us, hl with | [_], _ => rfl
  have bDr := FDr.binds (ps := ["_law_deck_here", "_law_many"]) fun _ _ _ _ _ _ us hl => match us, hl with | [_, _], _ => rfl
  have bOn := FOn.binds (ps := ["_law_deck_here", "_law_items"]) fun _ _ _ _ _ _ us hl => match us, hl with | [_, _], _ => rfl
  have bOd := FOd.binds (ps := ["_law_deck_here"]) fun _ _ _ _ _ _ us hl => match us, hl with | [_], _ => rfl
  have bCl := FCl.binds (ps := ["_law_e"]) fun _ _ _ _ _ _ us hl => match us, hl with | [_], _ => rfl
  have bI2 := FI2.binds (ps := ["self", "value"]) fun _ _ _ _ _ _ us hl => match us, hl with | [_, _], _ => rfl
  have bI3 := FI3.binds (ps := ["self", "value"]) fun _ _ _ _ _ _ us hl => match us, hl with | [_, _], _ => rfl
  have bI5 := FI5.binds (ps := ["self", "line", "word"]) fun _ _ _ _ _ _ us hl => match us, hl with | [_, _, _], _ => rfl
  have T : Txt K mg C0 C1 C2 C3 C4 C5 CB f2 f3 f5 := ⟨N, qC0, qC1, qC4, kpC0, kpC1, kpC4, O2, O3, O5, aI2, aI3, aI5, tI2, tI3, tI5, v2, v3, l5, w5, R0, R1, R2, R3, R4, R5⟩
  refine ⟨_, fun s v => .of_eq rfl, fun base _ _ => ok_law FLw B T (ok_deck FDk B) (m aDk) kDk bDk (ok_draw FDr B) (m aDr) kDr bDr (ok_odd FOd (ok_one FOn B (ok_draw FDr B) (m aDr) kDr bDr) (m aOn) kOn bOn) (m aOd) kOd bOd
    (ok_classes FCl N) (m aCl) kCl bCl (ok_factI FI2 O2 v2) bI2 (ok_noI FI3 O3 v3) bI3 (ok_textI FI5 O5 l5 w5) bI5⟩
end My

open PySem PySem.W PyProof.Rows
set_option maxRecDepth 100000 in
set_option maxHeartbeats 0 in
theorem PySem.Challenge.cw_corestore_k31_errors_made_by_hand_holds : PySem.Challenge.rw_corestore_k31_errors_made_by_hand.Holds := by
  w_on; o_law; k_head; (case hw => w_witness2)
  k_fill
  refine My.walk_g (l := PySem.Challenge.rw_corestore_k31_errors_made_by_hand) (k := 4) (x := "_law_script") (sp := My.spLaw) rfl rfl ⟨rfl, by decide, by decide⟩ (fun w h Y => PySem.W.kIn_of Y) ?F (fun K H a ns hl hS => ⟨a, ns, rfl, hS, hl, fun _ => rfl⟩)
  case F =>
    intro w mg fa h KX G hmg
    refine' My.all_mk KX G hmg ?aDk ?lDk ?cDk ?kDk ?aDr ?lDr ?cDr ?kDr ?aOn ?lOn ?cOn ?kOn ?aOd ?lOd ?cOd ?kOd ?aCl ?lCl ?cCl ?kCl ?aI2 ?lI2 ?cI2 ?kI2 ?aI3 ?lI3 ?cI3 ?kI3 ?aI5 ?lI5 ?cI5 ?kI5 ?aLw ?lLw ?cLw ?kLw ?tI2 ?tI3 ?tI5 ?z_int ?z_len ?z_abs ?z_list ?z_range ?z_repr ?z_ValueError ?z_isinstance ?gC0 ?gC1 ?gC2 ?gC3 ?gC4 ?gC5 ?gCB ?qC0 ?kpC0 ?qC1 ?kpC1 ?qC4 ?kpC4 ?xC2 ?saC2 ?tyC2 ?kpC2 ?xC3 ?saC3 ?tyC3 ?kpC3 ?xC5 ?saC5 ?tyC5 ?kpC5 ?v2 ?v3 ?l5 ?w5 ?oh ?ot ?egC0 ?ekC0 ?esC0 ?edC0 ?eaC0 ?emC0 ?egC1 ?ekC1 ?esC1 ?edC1 ?eaC1 ?emC1 ?egC2 ?ekC2 ?esC2 ?edC2 ?eaC2 ?emC2 ?egC3 ?ekC3 ?esC3 ?edC3 ?eaC3 ?emC3 ?egC4 ?ekC4 ?esC4 ?edC4 ?eaC4 ?emC4 ?egC5 ?ekC5 ?esC5 ?edC5 ?eaC5 ?emC5 ?y00 ?y01 ?y02 ?y03 ?y04 ?y05 ?y0B ?y0V ?y10 ?y11 ?y12 ?y13 ?y14 ?y15 ?y1B ?y1V ?y20 ?y21 ?y22 ?y23 ?y24 ?y25 ?y2B ?y2V ?y30 ?y31 ?y32 ?y33 ?y34 ?y35 ?y3B ?y3V ?y40 ?y41 ?y42 ?y43 ?y44 ?y45 ?y4B ?y4V ?y50 ?y51 ?y52 ?y53 ?y54 ?y55 ?y5B ?y5V
    (case gC0 => k_is)
    (case gC1 => k_is)
    (case gC2 => k_is)
    (case gC3 => k_is)
    (case gC4 => k_is)
    (case gC5 => k_is)
    (case gCB => k_is)
    (case aDk => k_is)
    (case aDr => k_is)
    (case aOn => k_is)
    (case aOd => k_is)
    (case aCl => k_is)
    (case aI2 => k_is)
    (case aI3 => k_is)
    (case aI5 => k_is)
    (case aLw => k_is)
    (case lDk => k_is)
    (case lDr => k_is)
    (case lOn => k_is)
    (case lOd => k_is)
    (case lCl => k_is)
    (case lI2 => k_is)
    (case lI3 => k_is)
    (case lI5 => k_is)
    (case lLw => k_is)
    (case cDk => k_is)
    (case kDk => k_is)
    (case cDr => k_is)
    (case kDr => k_is)
    (case cOn => k_is)
    (case kOn => k_is)
    (case cOd => k_is)
    (case kOd => k_is)
    (case cCl => k_is)
    (case kCl => k_is)
    (case cI2 => k_is)
    (case kI2 => k_is)
    (case cI3 => k_is)
    (case kI3 => k_is)
    (case cI5 => k_is)
    (case kI5 => k_is)
    (case cLw => k_is)
    (case kLw => k_is)
    (case tI2 => k_is)
    (case tI3 => k_is)
    (case tI5 => k_is)
    (case z_int => k_is)
    (case z_len => k_is)
    (case z_abs => k_is)
    (case z_list => k_is)
    (case z_range => k_is)
    (case z_repr => k_is)
    (case z_ValueError => k_is)
    (case z_isinstance => k_is)
    (case qC0 => k_exc)
    (case kpC0 => k_is)
    (case qC1 => k_exc)
    (case kpC1 => k_is)
    (case qC4 => k_exc)
    (case kpC4 => k_is)
    (case xC2 => k_is)
    (case saC2 => k_is)
    (case tyC2 => k_is)
    (case kpC2 => k_is)
    (case xC3 => k_is)
    (case saC3 => k_is)
    (case tyC3 => k_is)
    (case kpC3 => k_is)
    (case xC5 => k_is)
    (case saC5 => k_is)
    (case tyC5 => k_is)
    (case kpC5 => k_is)
    (case v2 => k_is)
    (case v3 => k_is)
    (case l5 => k_is)
    (case w5 => k_is)
    (case oh => k_is)
    (case ot => k_is)
    (case egC0 => k_is)
    (case ekC0 => k_is)
    (case esC0 => k_is)
    (case edC0 => k_is)
    (case eaC0 => k_is)
    (case emC0 => k_is)
    (case egC1 => k_is)
    (case ekC1 => k_is)
    (case esC1 => k_is)
    (case edC1 => k_is)
    (case eaC1 => k_is)
    (case emC1 => k_is)
    (case egC2 => k_is)
    (case ekC2 => k_is)
    (case esC2 => k_is)
    (case edC2 => k_is)
    (case eaC2 => k_is)
    (case emC2 => k_is)
    (case egC3 => k_is)
    (case ekC3 => k_is)
    (case esC3 => k_is)
    (case edC3 => k_is)
    (case eaC3 => k_is)
    (case emC3 => k_is)
    (case egC4 => k_is)
    (case ekC4 => k_is)
    (case esC4 => k_is)
    (case edC4 => k_is)
    (case eaC4 => k_is)
    (case emC4 => k_is)
    (case egC5 => k_is)
    (case ekC5 => k_is)
    (case esC5 => k_is)
    (case edC5 => k_is)
    (case eaC5 => k_is)
    (case emC5 => k_is)
    (case y00 => kit_is)
    (case y01 => kit_is)
    (case y02 => kit_is)
    (case y03 => kit_is)
    (case y04 => kit_is)
    (case y05 => kit_is)
    (case y0B => kit_is)
    (case y0V => kit_is)
    (case y10 => kit_is)
    (case y11 => kit_is)
    (case y12 => kit_is)
    (case y13 => kit_is)
    (case y14 => kit_is)
    (case y15 => kit_is)
    (case y1B => kit_is)
    (case y1V => kit_is)
    (case y20 => kit_is)
    (case y21 => kit_is)
    (case y22 => kit_is)
    (case y23 => kit_is)
    (case y24 => kit_is)
    (case y25 => kit_is)
    (case y2B => kit_is)
    (case y2V => kit_is)
    (case y30 => kit_is)
    (case y31 => kit_is)
    (case y32 => kit_is)
    (case y33 => kit_is)
    (case y34 => kit_is)
    (case y35 => kit_is)
    (case y3B => kit_is)
    (case y3V => kit_is)
    (case y40 => kit_is)
    (case y41 => kit_is)
    (case y42 => kit_is)
    (case y43 => kit_is)
    (case y44 => kit_is)
    (case y45 => kit_is)
    (case y4B => kit_is)
    (case y4V => kit_is)
    (case y50 => kit_is)
    (case y51 => kit_is)
    (case y52 => kit_is)
    (case y53 => kit_is)
    (case y54 => kit_is)
    (case y55 => kit_is)
    (case y5B => kit_is)
    (case y5V => kit_is)
    all_goals exact Value.none
