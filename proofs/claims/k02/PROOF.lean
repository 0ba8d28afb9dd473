import PyProof.Rows.All
import Wide.All
import OpenK.AllK
import Wide.FinOn
import HandS.ForMost
import HandS.ForExc
import HandS.Codes
import HandS.IsInst
import HandS.ExcInit
import HandS.ExcValue
import KE.KExcIs
import HandS.TupSets
import HandS.SetBool
import HandS.SortOrd
import HandS.SortRule
import PyProof.Rows.SortKeyStr
import HandS.SetFor
import HandS.Strs
import KE.KDictPairs
import HandS.TupAny
import HandS.Text
import HandS.Zip
import PyProof.ReprLen
import PySem.Challenge.RW_corestore_k02_names_replaced
set_option Elab.async false
set_option maxRecDepth 100000
/-! MyA: what every law needs: data in the abstract heap, repr of data, displays as data -/
namespace My
open PySem PySem.Spec PyProof.Rows L2

/-- the abstract heap without what stands at d -/
def off (d : Addr) (H : Hp) : Hp := fun b => if b = d then none else H b
/-- all but what stands at d is as it was -/
def Fr (d : Addr) (H H' : Hp) : Prop := ∀ b o, b ≠ d → H b = some o → H' b = some o
theorem Fr.refl (d : Addr) (H : Hp) : Fr d H H := fun _ _ _ h => h
theorem Fr.trans {d : Addr} {H H1 H2 : Hp} (a : Fr d H H1) (b : Fr d H1 H2) : Fr d H H2 := fun c o n h => b c o n (a c o n h)
theorem same_fr {d : Addr} {H H' : Hp} (a : Same H H') : Fr d H H' := fun c o _ h => a c o h
theorem Fr.off {d : Addr} {H H' : Hp} (a : Fr d H H') : Same (off d H) (off d H') := fun b o h => by
  unfold My.off at h ⊢
  by_cases e : b = d
  · rw [if_pos e] at h
    cases h
  · rw [if_neg e] at h ⊢
    exact a b o e h
theorem off_le {d : Addr} {H : Hp} : Same (off d H) H := fun b o h => by
  unfold off at h
  by_cases e : b = d
  · rw [if_pos e] at h
    cases h
  · rw [if_neg e] at h
    exact h
theorem off_at {d b : Addr} {H : Hp} {o : HO} (n : b ≠ d) (h : H b = some o) : off d H b = some o := by
  unfold off
  rw [if_neg n]
  exact h
theorem same_new {H : Hp} {p : Addr} {o : HO} (n : H p = none) : Same H (upd H p o) := fun b u h => by
  rw [upd_ne (ne_of_none h n)]
  exact h
theorem fr_upd {H : Hp} {d : Addr} {o : HO} : Fr d H (upd H d o) := fun b u n h => by
  rw [upd_ne n]
  exact h
theorem same_seqT {K : PySem.W.Frag} {H H' : Hp} {a : Addr} {xs : List V} (e : Same H H') (h : SqT K H a xs) : SqT K H' a xs := by
  rcases h with (h | ⟨o, h⟩) | h
  · exact .inl (.inl (e _ _ h))
  · exact .inl (.inr ⟨o, e _ _ h⟩)
  · exact .inr h

section
variable {K : PySem.W.Frag} {H H' : Hp}
mutual
theorem dp_same (e : Same H H') : ∀ (d : PyData) (v : V), Dp K H v d → Dp K H' v d
  | .none, _, h => by cases h; exact .non
  | .bool _, _, h => by cases h; exact .bl _
  | .int _, _, h => by cases h; exact .int _
  | .str _, _, h => by cases h; exact .str _
  | .list ds, _, h => by
    cases h with
    | lst hs ha => exact .lst (Same.seq e hs) (dps_same e ds _ ha)
  | .tuple ds, _, h => by
    cases h with
    | tup hs ha => exact .tup (same_seqT e hs) (dps_same e ds _ ha)
  | .dict _, _, h => by cases h
theorem dps_same (e : Same H H') : ∀ (ds : List PyData) (vs : List V), DpAll K H vs ds → DpAll K H' vs ds
  | [], _, h => by cases h; exact .nil
  | d :: ds, _, h => by
    cases h with
    | cons h1 h2 => exact .cons (dp_same e d _ h1) (dps_same e ds _ h2)
end
theorem dps_len : ∀ {ds : List PyData} {vs : List V}, DpAll K H vs ds → vs.length = ds.length
  | [], _, h => by cases h; rfl
  | d :: ds, _, h => by
    cases h with
    | cons h1 h2 => rw [List.length_cons, List.length_cons, dps_len h2]
theorem dps_get : ∀ {ds : List PyData} {vs : List V} {j : Nat} {v : V}, DpAll K H vs ds → vs[j]? = some v → ∃ d, ds[j]? = some d ∧ Dp K H v d
  | [], _, j, v, h, e => by cases h; simp at e
  | d :: ds, _, j, v, h, e => by
    cases h with
    | cons h1 h2 =>
      cases j with
      | zero =>
        simp at e
        subst e
        exact ⟨d, rfl, h1⟩
      | succ j =>
        obtain ⟨z, hz, hd⟩ := dps_get (j := j) (v := v) h2 (by simpa using e)
        exact ⟨z, by simpa using hz, hd⟩
theorem dps_app : ∀ {ds es : List PyData} {vs us : List V}, DpAll K H vs ds → DpAll K H us es → DpAll K H (vs ++ us) (ds ++ es)
  | [], _, _, _, h, g => by cases h; exact g
  | d :: ds, _, _, _, h, g => by
    cases h with
    | cons h1 h2 => exact .cons h1 (dps_app h2 g)
mutual
theorem dp_noDict : ∀ (d : PyData) (v : V), Dp K H v d → d.hasDict = false
  | .none, _, _ => by simp only [PyData.hasDict]
  | .bool _, _, _ => by simp only [PyData.hasDict]
  | .int _, _, _ => by simp only [PyData.hasDict]
  | .str _, _, _ => by simp only [PyData.hasDict]
  | .list ds, _, h => by
    cases h with
    | lst hs ha => simp only [PyData.hasDict]; exact dps_noDict ds _ ha
  | .tuple ds, _, h => by
    cases h with
    | tup hs ha => simp only [PyData.hasDict]; exact dps_noDict ds _ ha
  | .dict _, _, h => by cases h
theorem dps_noDict : ∀ (ds : List PyData) (vs : List V), DpAll K H vs ds → PyData.hasDictAll ds = false
  | [], _, _ => by simp only [PyData.hasDictAll]
  | d :: ds, _, h => by
    cases h with
    | cons h1 h2 => simp only [PyData.hasDictAll, dp_noDict d _ h1, dps_noDict ds _ h2, Bool.or_false]
end
end

/-! ### repr of data -/
def rRepr (K : PySem.W.Frag) : List V → Hp → VK → Prop := fun xs H Q => ∃ (x : V) (d : PyData), xs = [x] ∧ Dp K H x d ∧ d.showable = true ∧ d.depth ≤ 60 ∧ d.shown.length ≤ sizeLine ∧ Q (.str d.shown) H
theorem cr_repr {X : Cx} (hg : X.A.guards = some []) (hu : X.A.units + 64 < cLine) : CallR X (.builtin "repr") (rRepr X.K) := by
  intro pins s σ H xs us Q I r h
  obtain ⟨x, d, rfl, hd, hs, hz, hl, q⟩ := h
  obtain ⟨u, rfl, ru⟩ := vals1 r
  obtain ⟨as, rd⟩ := Dp.reads I d x u hd ru
  have nd := dp_noDict d x hd
  cases hd with
  | non =>
    cases (show u = Value.none from ru)
    have e : (PyData.none).shown = ("None" : Str) := by simp only [PyData.shown]
    rw [e] at q
    exact PySem.P.repr_of_none ⟨.str _, H, I.tok _, ⟨_, rfl⟩, q⟩
  | bl b =>
    cases (show u = Value.bool b from ru)
    have e : (PyData.bool b).shown = (if b then Str.ofString "True" else Str.ofString "False") := by simp only [PyData.shown]
    rw [e] at q
    exact PySem.P.repr_of_bool ⟨.str _, H, I.tok _, ⟨_, rfl⟩, q⟩
  | int i =>
    obtain ⟨t, rfl⟩ := (show ∃ t, u = Value.int i t from ru)
    have e : (PyData.int i).shown = (toString i : String) := by simp only [PyData.shown]
    rw [e] at q
    exact PySem.P.repr_of_int (by simpa [PyData.showable] using hs) ⟨.str _, H, I.tok _, ⟨_, rfl⟩, q⟩
  | str z =>
    obtain ⟨t, rfl⟩ := (show ∃ t, u = Value.str z t from ru)
    have e : (PyData.str z).shown = reprText z := by simp only [PyData.shown]
    rw [e] at q hl
    exact PySem.P.repr_of_str ⟨.str _, H, I.tok _, ⟨_, rfl⟩, q⟩ hl
  | @lst a xs ds h1 h2 =>
    cases (show u = Value.ref a from ru)
    exact repr_of_reads' (h₀ := s.heap) rd hs (PyData.noDict_hsm nd) hg (by omega) (fun _ _ e => e) (fun h' u tk hk => ⟨.str _, H, I.kept hk, ⟨u, rfl⟩, q⟩) hl
  | @tup a xs ds h1 h2 =>
    cases (show u = Value.ref a from ru)
    exact repr_of_reads' (h₀ := s.heap) rd hs (PyData.noDict_hsm nd) hg (by omega) (fun _ _ e => e) (fun h' u tk hk => ⟨.str _, H, I.kept hk, ⟨u, rfl⟩, q⟩) hl

/-! ### displays as data -/
/-- what of H' is new -/
def newp (H H' : Hp) : Hp := fun b => if H b = none then H' b else none
theorem newp_at {H H' : Hp} {b : Addr} {o : HO} (n : H b = none) (h : H' b = some o) : newp H H' b = some o := by
  unfold newp
  rw [if_pos n]
  exact h
theorem newp_of {H H' : Hp} {b : Addr} {o : HO} (h : newp H H' b = some o) : H b = none ∧ H' b = some o := by
  unfold newp at h
  by_cases e : H b = none
  · rw [if_pos e] at h
    exact ⟨e, h⟩
  · rw [if_neg e] at h
    cases h
theorem newp_le {H H' : Hp} : Same (newp H H') H' := fun _ _ h => (newp_of h).2
theorem newp_out {H H1 H2 : Hp} (e : Same H1 H2) : Same (newp H H1) (newp H H2) := fun b o h => newp_at (newp_of h).1 (e b o (newp_of h).2)
theorem newp_in {H H1 H2 : Hp} (e : Same H H1) : Same (newp H1 H2) (newp H H2) := fun _ _ h => newp_at (e.free (newp_of h).1) (newp_of h).2
theorem newp_off {H H' : Hp} {d : Addr} {o : HO} (h : H d = some o) : Same (newp H H') (off d H') := fun b u q => off_at (fun e => by
    subst e
    have z := (newp_of q).1
    rw [h] at z
    cases z) (newp_of q).2
def tD (K : PySem.W.Frag) (d : PyData) : TE := fun _ H Q => ∀ (v : V) (H' : Hp), Same H H' → Dp K (newp H H') v d → Q v H'
def tDs (K : PySem.W.Frag) (ds : List PyData) : TA := fun _ H Q => ∀ (vs : List V) (H' : Hp), Same H H' → DpAll K (newp H H') vs ds → Q vs H'
section
variable {X : Cx} {e : Expr} {es : List Expr} {d : PyData} {ds : List PyData} {pos : Pos}
theorem pe_of {t t' : TE} (h : PE X e t) (i : ∀ σ H Q, t' σ H Q → t σ H Q) : PE X e t' := ⟨fun pins s σ H Q I q => h.run pins s σ H Q I (i σ H Q q)⟩
theorem pa_of {t t' : TA} (h : PA X es t) (i : ∀ σ H Q, t' σ H Q → t σ H Q) : PA X es t' := ⟨fun p pins s σ H Q I q => h.run p pins s σ H Q I (i σ H Q q)⟩
theorem pd_non {j} : PE X (.Constant .none j pos) (tD X.K .none) := pe_of pe_non fun _ H _ q => q _ H (Same.refl H) .non
theorem pd_bl {b j} : PE X (.Constant (.bool b) j pos) (tD X.K (.bool b)) := pe_of pe_bl fun _ H _ q => q _ H (Same.refl H) (.bl b)
theorem pd_int {i j} : PE X (.Constant (.int i) j pos) (tD X.K (.int i)) := pe_of pe_int fun _ H _ q => q _ H (Same.refl H) (.int i)
theorem pd_str {x j} : PE X (.Constant (.str x) j pos) (tD X.K (.str x)) := pe_of pe_str fun _ H _ q => q _ H (Same.refl H) (.str x)
theorem pds_nil : PA X [] (tDs X.K []) := pa_of pa_nil fun _ H _ q => q _ H (Same.refl H) .nil
theorem pds_cons (he : PE X e (tD X.K d)) (hes : PA X es (tDs X.K ds)) (hs : starEach (e :: es) X.env = (false, eval e X.env) :: starEach es X.env := by rfl) : PA X (e :: es) (tDs X.K (d :: ds)) :=
  pa_of (pa_cons he hes hs) fun _ _ _ q v _ s1 h1 vs _ s2 h2 => q (v :: vs) _ (s1.trans s2) (.cons (dp_same (newp_out s2) d v h1) (dps_same (newp_in s1) ds vs h2))
theorem pd_tup {x1} (h : PA X es (tDs X.K ds)) (hz : ds.length ≤ sizeLine := by decide) : PE X (.Tuple es x1 pos) (tD X.K (.tuple ds)) :=
  pe_of (pe_tup h) fun _ _ _ q vs H1 s1 h1 => ⟨by rw [dps_len h1]; exact hz, fun p np => q (.ref p) _ (s1.trans (same_new np)) (.tup (.inl (.inl (newp_at (s1.free np) upd_same))) (dps_same (newp_out (same_new np)) ds vs h1))⟩
/-- a list display, its items told too: it is a new list -/
def tDL (K : PySem.W.Frag) (ds : List PyData) : TE := fun _ H Q => ∀ (p : Addr) (vs : List V) (H' : Hp), Same H H' → H p = none → H' p = some (.lst vs) → DpAll K (newp H H') vs ds → vs.length = ds.length → Q (.ref p) H'
theorem pdl (h : PA X es (tDs X.K ds)) (hz : ds.length ≤ sizeLine := by decide) : PE X (.List es pos) (tDL X.K ds) :=
  pe_of (pe_lst h) fun _ _ _ q vs H1 s1 h1 => ⟨by rw [dps_len h1]; exact hz, fun p np => q p vs _ (s1.trans (same_new np)) (s1.free np) upd_same (dps_same (newp_out (same_new np)) ds vs h1) (dps_len h1)⟩
theorem pd_lst (h : PA X es (tDs X.K ds)) (hz : ds.length ≤ sizeLine := by decide) : PE X (.List es pos) (tD X.K (.list ds)) :=
  pe_of (pdl h hz) fun _ _ _ q p _ H1 s1 np hp h1 _ => q (.ref p) H1 s1 (.lst (.inl (.inl (newp_at np hp))) h1)
end
end My

namespace My
open PySem PySem.Spec PyProof.Rows L2
def top (i : Nat) : Stmt := PySem.Challenge.pw_corestore_k02_names_replaced.main.body.getD i (.Pass ⟨0, 0, 0, 0⟩)
abbrev sDeck : Stmt := top 9
abbrev sDraw : Stmt := top 10
abbrev sOne : Stmt := top 11

/-- the built-in names that the helpers use are still the built-in ones -/
structure Blt (mg : Str → Option Value) : Prop where
  int : mg "int" = none
  len : mg "len" = none
  abs : mg "abs" = none
  list : mg "list" = none
  range : mg "range" = none
  repr : mg "repr" = none
/-- a deck at d: its cells ns at l, at most k draws so far -/
structure Deck (H : Hp) (d l : Addr) (ns : List Int) (k : Nat) : Prop where
  ex : ∃ i r n : Int, H d = some (.lst [.ref l, .int i, .int r, .int n]) ∧ 0 ≤ n ∧ n ≤ k
  cells : H l = some (.lst (ns.map V.int))
theorem Deck.ne {H : Hp} {d l : Addr} {ns : List Int} {k : Nat} (D : Deck H d l ns k) : l ≠ d := by
  intro e
  obtain ⟨⟨i, r, n, h, _⟩, c⟩ := D
  rw [e, h] at c
  have c' := HO.lst.inj (Option.some.inj c)
  cases ns with
  | nil => cases c'
  | cons z zs => cases (List.cons.inj c').1
theorem Deck.mono {H : Hp} {d l : Addr} {ns : List Int} {k j : Nat} (D : Deck H d l ns k) (h : k ≤ j) : Deck H d l ns j := by
  obtain ⟨⟨i, r, n, e, h0, h1⟩, c⟩ := D
  exact ⟨⟨i, r, n, e, h0, by omega⟩, c⟩
theorem Deck.same {H H' : Hp} {d l : Addr} {ns : List Int} {k : Nat} (D : Deck H d l ns k) (e : Same H H') : Deck H' d l ns k := by
  obtain ⟨⟨i, r, n, h, hn⟩, c⟩ := D
  exact ⟨⟨i, r, n, e _ _ h, hn⟩, e _ _ c⟩
/-- the deck is made of the script -/
def spDeck (K : PySem.W.Frag) : Sp := fun vs H Q _ => ∃ (a : Addr) (ns : List Int), vs = [.ref a] ∧ SqL K H a (ns.map V.int) ∧ ns.length ≤ 63 ∧ ∀ (d l : Addr) (ms : List Int) (H' : Hp), Deck H' d l ms 0 → H d = none → H l = none → ms.length ≤ 63 → Same H H' → Q (.ref d) H'
/-- a draw below m -/
def spDraw : Sp := fun vs H Q _ => ∃ (d l : Addr) (ns : List Int) (k : Nat) (m : Int), vs = [.ref d, .int m] ∧ 0 < m ∧ m < 1073741824 ∧ Deck H d l ns k ∧ ns.length ≤ 63 ∧ k < 1073741824 ∧
  ∀ (v : Int) (H' : Hp), 0 ≤ v → v < m → Deck H' d l ns (k + 1) → Fr d H H' → Q (.int v) H'
/-- an item of a list or tuple, or a sign of a text -/
def spOne (K : PySem.W.Frag) : Sp := fun vs H Q _ => ∃ (d l : Addr) (ns : List Int) (k : Nat) (x : V), vs = [.ref d, x] ∧ Deck H d l ns k ∧ ns.length ≤ 63 ∧ k < 1073741824 ∧
  ((∃ (p : Addr) (xs : List V), x = .ref p ∧ p ≠ d ∧ (SqL K (off d H) p xs ∨ SqT K (off d H) p xs) ∧ xs ≠ [] ∧ xs.length < 1000000 ∧
    ∀ (j : Nat) (v : V) (H' : Hp), xs[j]? = some v → Deck H' d l ns (k + 1) → Fr d H H' → Q v H') ∨
   (∃ z : Str, x = .str z ∧ 0 < z.length ∧ z.length < 1000000 ∧ ∀ (c : Nat) (H' : Hp), c ∈ z.cps.toList → Deck H' d l ns (k + 1) → Fr d H H' → Q (.str ⟨#[c]⟩) H'))

theorem dps_ints {K : PySem.W.Frag} {H : Hp} : ∀ ns : List Int, DpAll K H (ns.map V.int) (ns.map PyData.int)
  | [] => .nil
  | z :: zs => .cons (.int z) (dps_ints zs)
theorem ints_lay : ∀ ns : List Int, PyData.canLayAll0 (ns.map PyData.int) = true
  | [] => by simp [PyData.canLayAll0]
  | z :: zs => by
    have h := ints_lay zs
    simp [PyData.canLayAll0, PyData.canLay0, h]
theorem ints_depth : ∀ ns : List Int, PyData.depthAll (ns.map PyData.int) = 0
  | [] => by simp [PyData.depthAll]
  | z :: zs => by
    have h := ints_depth zs
    simp [PyData.depthAll, PyData.depth, h]
theorem ints_shaped (ns : List Int) : SeqAt.shaped (.list (ns.map PyData.int)) = true := by
  unfold SeqAt.shaped
  rw [Bool.and_eq_true]
  refine ⟨?_, decide_eq_true ?_⟩
  · simp only [PyData.canLay0]
    exact ints_lay ns
  · simp only [PyData.depth, ints_depth]
    omega
theorem place {i : Int} {n : Nat} (h : 0 < n) : ∃ j : Nat, i % (n : Int) = (j : Int) ∧ j < n := by
  have h1 : 0 ≤ i % (n : Int) := Int.emod_nonneg i (by omega)
  have h2 : i % (n : Int) < (n : Int) := Int.emod_lt_of_pos i (by omega)
  exact ⟨(i % (n : Int)).toNat, by omega, by omega⟩
theorem small_prod {a b : Int} {p q : Nat} (ha0 : 0 ≤ a) (ha : a < p) (hb0 : 0 ≤ b) (hb : b < q) : a * b ≤ (p : Int) * q :=
  Int.mul_le_mul (by omega) (by omega) hb0 (by omega)
theorem mix_ok {x1 n : Int} (m0 : 0 ≤ x1) (m1 : x1 < 2147483629) (h0 : 0 ≤ n) (h1 : n ≤ 1073741824) : (-(2 ^ 64) < x1 ∧ x1 < 2 ^ 64) ∧ (x1 * (2 * (n + 1) + 7) + 6151).natAbs < 2 ^ 64 := by
  have pr : x1 * (2 * (n + 1) + 7) ≤ (2147483629 : Int) * 4294967296 := Int.mul_le_mul (by omega) (by omega) (by omega) (by omega)
  have pr0 : 0 ≤ x1 * (2 * (n + 1) + 7) := Int.mul_nonneg m0 (by omega)
  refine ⟨by omega, ?_⟩
  generalize x1 * (2 * (n + 1) + 7) = z at pr pr0 ⊢
  omega
section
variable {P : Program} {w : World} {K : PySem.W.Frag} {mg : Str → Option Value} {base : Heap}
theorem scDeck : FnScope ["_law_script"] ["_law_script"] (defScope sDeck) := ⟨rfl, rfl, rfl, by decide +kernel, rfl, by decide +kernel, by decide +kernel⟩
theorem ok_deck {f : Addr} {fd : FuncData} (F : Fun K "_law_deck" "_law_deck" sDeck f fd) (B : Blt mg) : FnOk P w K mg base CX0 1 f fd ["_law_script"] (spDeck K) := by
  refine F.ok scDeck (fun vs H Q E h => ?_) (fun cdv A outer s H vs Q E hr h => ?_)
  · obtain ⟨a, ns, rfl, _⟩ := h
    rfl
  · obtain ⟨a, ns, rfl, hS, hn, q⟩ := h
    refine ⟨_, pss_one (ps_ret (pe_lst (pa_cons (pe_callTy call_list_of (by rfl) B.list boot_list (pa_cons (pe_slice sl_list (pv 0) po_none (po_some pe_int)) pa_nil)) (pa_cons pe_int (pa_cons pe_int (pa_cons pe_int pa_nil)))))), ?_⟩
    refine ⟨_, rfl, 63, rfl, a, _, rfl, hS, fun p np => ⟨p, _, rfl, .inl (.inl (.inl upd_same)), fun l nl => ⟨(by show 4 ≤ sizeLine; decide), fun d nd => ?_⟩⟩⟩
    have ec : cutV (ns.map V.int) none (some 63) = ((ns.drop (HT.sIx (ns.map V.int).length 0 none)).take (HT.sIx (ns.map V.int).length (ns.map V.int).length (some 63) - HT.sIx (ns.map V.int).length 0 none)).map V.int := by
      unfold cutV
      rw [List.map_take, List.map_drop]
    have sm := ((same_new np).trans (same_new nl)).trans (same_new (o := .lst [.ref l, .int 0, .int 0, .int 0]) nd)
    refine q d l ((ns.drop (HT.sIx (ns.map V.int).length 0 none)).take (HT.sIx (ns.map V.int).length (ns.map V.int).length (some 63) - HT.sIx (ns.map V.int).length 0 none)) _ ⟨⟨0, 0, 0, upd_same, by omega, by omega⟩, (same_new nd) l _ (by rw [← ec]; exact upd_same)⟩ (((same_new np).trans (same_new nl)).free nd) ((same_new np).free nl) (by rw [List.length_take, List.length_drop]; omega) sm
theorem scDraw : FnScope ["_law_deck_here", "_law_many", "_law_found", "_law_cell", "_law_mixed"] ["_law_deck_here", "_law_many"] (defScope sDraw) := ⟨rfl, rfl, rfl, by decide +kernel, rfl, by decide +kernel, by decide +kernel⟩
theorem ok_draw {f : Addr} {fd : FuncData} (F : Fun K "_law_draw" "_law_draw" sDraw f fd) (B : Blt mg) : FnOk P w K mg base CX0 1 f fd ["_law_deck_here", "_law_many"] spDraw := by
  refine F.ok scDraw (fun vs H Q E h => ?_) (fun cdv A outer s H vs Q E hr h => ?_)
  · obtain ⟨d, l, ns, k, m, rfl, _⟩ := h
    rfl
  · obtain ⟨d, l, ns, k, m, rfl, hm, hm2, D, hlen, hk, q⟩ := h
    have hu := hr.units
    refine ⟨_, pss_cons (ps_asg (pe_op op_add (pe_ix ix_list (pv 0) pe_int (fun _ _ => rfl)) pe_int) (pg_sub (pv 0) pe_int set_list))
      (pss_cons (ps_if (pt_cmpR op_gt (pe_ix ix_list (pv 0) pe_int (fun _ _ => rfl)) pe_int (nomark _))
        (pss_cons (ps_set (i := 2) scDraw.nd rfl (Or.inl rfl) (pe_op op_mod (pe_callTy call_int1 (by rfl) B.int boot_int (pa_cons (pe_ix ix_list (pv 0) pe_int (fun _ _ => rfl)) pa_nil)) (pv 1)))
          (pss_cons (ps_asg (pe_op op_fdiv (pe_ix ix_list (pv 0) pe_int (fun _ _ => rfl)) (pv 1)) (pg_sub (pv 0) pe_int set_list))
            (pss_one (ps_ret (pv 2)))))
        pss_nil)
      (pss_cons (ps_set (i := 3) scDraw.nd rfl (Or.inl rfl) pe_int)
      (C8.pss_cut (ps_if (pt_cmpR (op_neD hu) (pe_ix ix_list (pv 0) pe_int (fun _ _ => rfl)) (pe_lst pa_nil) (nomark _))
        (pss_one (ps_set (i := 3) scDraw.nd rfl (Or.inl rfl) (pe_ix ix_list (pe_ix ix_list (pv 0) pe_int (fun _ _ => rfl)) (pe_op op_mod (pe_callTy call_int1 (by rfl) B.int boot_int (pa_cons (pe_ix ix_list (pv 0) pe_int (fun _ _ => rfl)) pa_nil)) (pe_callB call_len_seq (by rfl) B.len PySem.boot_len (pa_cons (pe_ix ix_list (pv 0) pe_int (fun _ _ => rfl)) pa_nil))) (fun _ _ => rfl))))
        pss_nil)
      (pss_cons (ps_asg (pe_op op_add (pe_ix ix_list (pv 0) pe_int (fun _ _ => rfl)) pe_int) (pg_sub (pv 0) pe_int set_list))
      (C8.pss_cut (ps_if (PW.pt (pw_and (pt_cmpR op_ge (pe_callB call_abs (by rfl) B.abs (by decide +kernel) (pa_cons (pv 3) pa_nil)) (pe_op op_pow pe_int pe_int) (nomark _)) (pw_and1 (pt_cmpR op_le (pe_ix ix_list (pv 0) pe_int (fun _ _ => rfl)) (pe_callB call_len_seq (by rfl) B.len PySem.boot_len (pa_cons (pe_ix ix_list (pv 0) pe_int (fun _ _ => rfl)) pa_nil)) (nomark _)))))
        (pss_cons (ps_asg (pe_op op_fdiv (pe_callB call_abs (by rfl) B.abs (by decide +kernel) (pa_cons (pv 3) pa_nil)) (pv 1)) (pg_sub (pv 0) pe_int set_list))
          (pss_one (ps_ret (pe_op op_mod (pe_callTy call_int1 (by rfl) B.int boot_int (pa_cons (pe_callB call_abs (by rfl) B.abs (by decide +kernel) (pa_cons (pv 3) pa_nil)) pa_nil)) (pv 1)))))
        pss_nil)
      (pss_cons (ps_set (i := 4) scDraw.nd rfl (Or.inl rfl) (pe_op op_mod (pe_op op_pow (pe_callTy call_int1 (by rfl) B.int boot_int (pa_cons (pe_op op_add (pe_op op_mod (pe_callTy call_int1 (by rfl) B.int boot_int (pa_cons (pv 3) pa_nil)) pe_int) (pe_op op_mul pe_int (pe_ix ix_list (pv 0) pe_int (fun _ _ => rfl)))) pa_nil)) pe_int) pe_int))
      (pss_cons (ps_set (i := 4) scDraw.nd rfl (Or.inl rfl) (pe_op op_mod (pe_op op_pow (pe_callTy call_int1 (by rfl) B.int boot_int (pa_cons (pe_op op_add (pe_op op_mul (pv 4) (pe_op op_add (pe_op op_mul pe_int (pe_ix ix_list (pv 0) pe_int (fun _ _ => rfl))) pe_int)) pe_int) pa_nil)) pe_int) pe_int))
      (pss_one (ps_ret (pe_op op_mod (pe_op op_fdiv (pv 4) pe_int) (pv 1))))))))))), ?_⟩
    obtain ⟨i, r, n, hd, hn0, hnk⟩ := D.ex
    have hld : l ≠ d := D.ne
    have hl : H l = some (.lst (ns.map V.int)) := D.cells
    -- deck[3] = deck[3] + 1
    refine ⟨_, rfl, d, _, _, _, rfl, rfl, .inl (.inl hd), rfl, n, 1, rfl, rfl, _, rfl, d, _, _, 3, rfl, rfl, hd, rfl, ?_⟩
    -- if deck[2] > 0
    refine ⟨_, rfl, d, _, _, _, rfl, rfl, .inl (.inl upd_same), rfl, r, 0, rfl, rfl, _, rfl, ite2 (fun _ => ?_) fun _ => ?_⟩
    · refine ⟨_, rfl, d, _, _, _, rfl, rfl, .inl (.inl upd_same), rfl, .inl ⟨r, rfl, _, rfl, r, m, rfl, rfl, hm, ?_⟩⟩
      refine ⟨_, rfl, d, _, _, _, rfl, rfl, .inl (.inl upd_same), rfl, _, rfl, r, m, rfl, rfl, ⟨hm, hm2⟩, _, rfl, d, _, _, 2, rfl, rfl, upd_same, rfl, _, rfl, ?_⟩
      exact q _ _ (Int.emod_nonneg _ (by omega)) (Int.emod_lt_of_pos _ hm) ⟨⟨i, r / m, n + 1, upd_same, by omega, by omega⟩, by rw [upd_ne hld, upd_ne hld]; exact hl⟩ (fr_upd.trans fr_upd)
    -- cell = 73; if deck[0] != []
    refine ⟨fun σ' H' => ∃ (c : Int) (G : Hp), σ' = [some (.ref d), some (.int m), none, some (.int c), none] ∧ H' = G ∧ Fr d H G ∧ G d = some (.lst [.ref l, .int i, .int r, .int (n + 1)]), ?_, ?_⟩
    · refine ⟨_, rfl, d, _, _, _, rfl, rfl, .inl (.inl upd_same), rfl, (by show 0 ≤ sizeLine; omega), fun p np => ?_⟩
      have npd : d ≠ p := ne_of_none upd_same np
      have hl1 : (upd H d (.lst [.ref l, .int i, .int r, .int (n + 1)])) l = some (.lst (ns.map V.int)) := by rw [upd_ne hld]; exact hl
      have npl : l ≠ p := ne_of_none hl1 np
      have hl2 := (same_new (o := HO.lst []) np) _ _ hl1
      have hd2 := (same_new (o := HO.lst []) np) _ _ (upd_same (H := H) (a := d) (o := .lst [.ref l, .int i, .int r, .int (n + 1)]))
      refine ⟨.list (ns.map PyData.int), .list [], .lst (.inl (.inl hl2)) (dps_ints ns), .lst (.inl (.inl upd_same)) .nil, ints_shaped ns, (by decide +kernel), _, rfl, ?_⟩
      have frA : Fr d H (upd (upd H d (.lst [.ref l, .int i, .int r, .int (n + 1)])) p (.lst [])) := fr_upd.trans (same_fr (same_new np))
      refine ite2 (fun hc => ?_) fun _ => ?_
      · have hpos : 0 < ns.length := by
          cases ns with
          | nil => exact absurd hc (by decide +kernel)
          | cons z zs => exact Nat.succ_pos _
        obtain ⟨j, ej, hj⟩ := place (i := i) hpos
        have hj' : (ns.map V.int)[j]? = some (V.int ns[j]) := by
          rw [List.getElem?_map, List.getElem?_eq_getElem hj] <;> rfl
        refine ⟨_, rfl, d, _, _, _, rfl, rfl, .inl (.inl hd2), rfl, _, rfl, d, _, _, _, rfl, rfl, .inl (.inl hd2), rfl, .inl ⟨i, rfl, ?_⟩⟩
        refine ⟨_, rfl, d, _, _, _, rfl, rfl, .inl (.inl hd2), rfl, l, _, rfl, .inl (.inl (.inl hl2)), i, _, rfl, rfl, ?_, l, _, _, _, rfl, rfl, .inl (.inl hl2), at_of (j := j) (v := V.int ns[j]) ?_ hj', ?_⟩
        · show (0 : Int) < ((ns.map V.int).length : Int)
          rw [List.length_map]
          omega
        · show i % ((ns.map V.int).length : Int) = _
          rw [List.length_map]
          exact ej
        · exact ⟨_, _, rfl, rfl, frA, hd2⟩
      · exact ⟨73, _, rfl, rfl, frA, hd2⟩
    rintro σ' H' ⟨c, G, rfl, rfl, fG, hG⟩
    have hlG : H' l = some (.lst (ns.map V.int)) := fG _ _ hld hl
    -- deck[1] = deck[1] + 1
    refine ⟨_, rfl, d, _, _, _, rfl, rfl, .inl (.inl hG), rfl, i, 1, rfl, rfl, _, rfl, d, _, _, 1, rfl, rfl, hG, rfl, ?_⟩
    have hl3 : (upd H' d (.lst [.ref l, .int (i + 1), .int r, .int (n + 1)])) l = some (.lst (ns.map V.int)) := by rw [upd_ne hld]; exact hlG
    -- if abs(cell) >= 10 ** 18 and deck[1] <= len(deck[0])
    have c0 : 0 ≤ c % 2147483579 := Int.emod_nonneg _ (by decide)
    have c1 : c % 2147483579 < 2147483579 := Int.emod_lt_of_pos _ (by decide)
    refine ⟨fun σ' G => σ' = [some (.ref d), some (.int m), none, some (.int c), none] ∧ G = upd H' d (.lst [.ref l, .int (i + 1), .int r, .int (n + 1)]), ?_, ?_⟩
    · refine ⟨_, rfl, c, rfl, 10, 18, rfl, rfl, ⟨by decide, by decide, by decide⟩, _, _, rfl, rfl, _, rfl, ite2 (fun _ => ?_) fun _ => iteF ⟨rfl, rfl⟩⟩
      refine ⟨_, rfl, d, _, _, _, rfl, rfl, .inl (.inl upd_same), rfl, _, rfl, d, _, _, _, rfl, rfl, .inl (.inl upd_same), rfl, l, _, rfl, .inl (.inl (.inl hl3)), _, _, rfl, rfl, _, rfl, ite2 (fun _ => ?_) fun _ => ⟨rfl, rfl⟩⟩
      refine ⟨_, rfl, c, rfl, _, rfl, _, m, rfl, rfl, ⟨hm, hm2⟩, _, rfl, d, _, _, 2, rfl, rfl, upd_same, rfl, ?_⟩
      refine ⟨_, rfl, c, rfl, .inl ⟨_, rfl, _, rfl, _, m, rfl, rfl, hm, ?_⟩⟩
      exact q _ _ (Int.emod_nonneg _ (by omega)) (Int.emod_lt_of_pos _ hm) ⟨⟨i + 1, _, n + 1, upd_same, by omega, by omega⟩, by rw [upd_ne hld, upd_ne hld]; exact hlG⟩ (fG.trans (fr_upd.trans fr_upd))
    rintro σ' G ⟨rfl, rfl⟩
    refine ⟨_, rfl, .inl ⟨c, rfl, c, 2147483579, rfl, rfl, (by show (0 : Int) < 2147483579; decide), ?_⟩⟩
    refine ⟨_, rfl, d, _, _, _, rfl, rfl, .inl (.inl upd_same), rfl, 73856093, n + 1, rfl, rfl, .inl ⟨by decide, by decide⟩, _, _, rfl, rfl, .inl ⟨_, rfl, _, 5, rfl, rfl, ⟨by decide, by decide, by omega⟩, _, 2147483629, rfl, rfl, (by show (0 : Int) < 2147483629; decide), ?_⟩⟩
    have m0 : 0 ≤ (c % 2147483579 + 73856093 * (n + 1)) ^ (5 : Int).toNat % 2147483629 := Int.emod_nonneg _ (by decide)
    have m1 : (c % 2147483579 + 73856093 * (n + 1)) ^ (5 : Int).toNat % 2147483629 < 2147483629 := Int.emod_lt_of_pos _ (by decide)
    have mx := mix_ok m0 m1 hn0 (by omega)
    refine ⟨_, rfl, _, rfl, d, _, _, _, rfl, rfl, .inl (.inl upd_same), rfl, 2, n + 1, rfl, rfl, .inl ⟨by decide, by decide⟩, _, 7, rfl, rfl, _, _, rfl, rfl, .inl mx.1, _, 6151, rfl, rfl, .inl ⟨_, rfl, _, 3, rfl, rfl, ⟨by decide, by decide, mx.2⟩, _, 2147483647, rfl, rfl, (by show (0 : Int) < 2147483647; decide), ?_⟩⟩
    refine ⟨_, rfl, _, 32, rfl, rfl, ⟨by decide, by decide⟩, _, rfl, _, m, rfl, rfl, hm, ?_⟩
    exact q _ _ (Int.emod_nonneg _ (by omega)) (Int.emod_lt_of_pos _ hm) ⟨⟨i + 1, r, n + 1, upd_same, by omega, by omega⟩, hl3⟩ (fG.trans fr_upd)
theorem scOne : FnScope ["_law_deck_here", "_law_items"] ["_law_deck_here", "_law_items"] (defScope sOne) := ⟨rfl, rfl, rfl, by decide +kernel, rfl, by decide +kernel, by decide +kernel⟩
theorem ok_one {f fD : Addr} {fd fdD : FuncData} (F : Fun K "_law_one" "_law_one" sOne f fd) (B : Blt mg) (GD : FnOk P w K mg base CX0 1 fD fdD ["_law_deck_here", "_law_many"] spDraw) (mD : mg "_law_draw" = some (.ref fD))
    (kD : PySem.W.keepIn K (.ref fD) = true) (bD : Binds K fdD ["_law_deck_here", "_law_many"] []) : FnOk P w K mg base CX0 2 f fd ["_law_deck_here", "_law_items"] (spOne K) := by
  refine F.ok scOne (fun vs H Q E h => ?_) (fun cdv A outer s H vs Q E hr h => ?_)
  · obtain ⟨d, l, ns, k, x, rfl, _⟩ := h
    rfl
  · obtain ⟨d, l, ns, k, x, rfl, D, hn, hk, h⟩ := h
    refine ⟨_, pss_one (ps_ret (pe_ix ix_seq (pv 1) (pe_call GD hr rfl mD kD bD .nil pass0 (pa_cons (pv 0) (pa_cons (pe_callB (CallR.or call_len_seq call_len_str) (by rfl) B.len PySem.boot_len (pa_cons (pv 1) pa_nil)) pa_nil))) (fun _ _ => rfl))), ?_⟩
    rcases h with ⟨p, xs, rfl, npd, hS, hne, hlen, q⟩ | ⟨z, rfl, hz0, hz, q⟩
    · have hS' : SqL K H p xs ∨ SqT K H p xs := hS.imp (fun h => Same.seq off_le h) fun h => same_seqT off_le h
      have hpos : 0 < xs.length := List.length_pos_iff.mpr hne
      refine ⟨_, rfl, _, rfl, _, rfl, .inl ⟨p, xs, rfl, hS', d, l, ns, k, _, rfl, ?_, ?_, D, hn, hk, fun v H' h0 h1 D' fr => ?_⟩⟩
      · show (0 : Int) < (xs.length : Int)
        omega
      · show (xs.length : Int) < 1073741824
        omega
      · have hS2 : SqL K H' p xs ∨ SqT K H' p xs := hS.imp (fun h => Same.seq off_le (Same.seq (Fr.off fr) h)) fun h => same_seqT off_le (same_seqT (Fr.off fr) h)
        obtain ⟨j, rfl⟩ : ∃ j : Nat, v = (j : Int) := ⟨v.toNat, by omega⟩
        have hj : j < xs.length := by omega
        have hx : xs[j]? = some xs[j] := List.getElem?_eq_getElem hj
        rcases hS2 with hS2 | hS2
        · exact .inl ⟨p, xs, _, _, rfl, rfl, hS2, atI_nat hx, q j _ H' hx D' fr⟩
        · exact .inr (.inl ⟨p, xs, _, _, rfl, rfl, hS2, atI_nat hx, q j _ H' hx D' fr⟩)
    · have hs : z.length ≤ sizeLine := by rw [sizeLine_eq]; omega
      refine ⟨_, rfl, _, rfl, _, rfl, .inr ⟨z, rfl, hs, d, l, ns, k, _, rfl, ?_, ?_, D, hn, hk, fun v H' h0 h1 D' fr => ?_⟩⟩
      · show (0 : Int) < (z.length : Int)
        omega
      · show (z.length : Int) < 1073741824
        omega
      · obtain ⟨j, rfl⟩ : ∃ j : Nat, v = (j : Int) := ⟨v.toNat, by omega⟩
        have hj : j < z.cps.toList.length := by
          show j < z.cps.toList.length
          have : z.cps.toList.length = z.length := by simp [Str.length]
          omega
        have hx : z.cps.toList[j]? = some z.cps.toList[j] := List.getElem?_eq_getElem hj
        exact .inr (.inr ⟨z, _, _, rfl, rfl, hs, atI_nat hx, q _ H' (List.getElem_mem hj) D' fr⟩)
end
end My

/-! MyS: sets of tuples whose items are keys of one kind (texts): what is in them, put in, walked -/
namespace My
open PySem PySem.Spec PyProof.Rows L2

/-! ### the items' small questions -/
theorem ofA_scan {v : Value} (h : v.scannable = true) (n : Nat) : ofAClassStatement n v = pure false := by
  cases v with
  | ref a => cases h
  | _ => cases n <;> rfl
theorem hbv_scan {v : Value} (h : v.scannable = true) (n : Nat) : ∃ b, hashByValue n v = pure b := by
  cases v with
  | ref a => cases h
  | none => exact ⟨_, by cases n <;> rfl⟩
  | bool b => exact ⟨_, by cases n <;> rfl⟩
  | int i t => exact ⟨_, by cases n <;> rfl⟩
  | str x t => exact ⟨_, by cases n <;> rfl⟩
  | bytes x t => exact ⟨_, by cases n <;> rfl⟩
  | _ => cases h
/-- the kind's values are plain ones -/
def Scan {P : Program} {w : World} {K : Type} [DecidableEq K] (knd : KeyKind P w K) : Prop := ∀ k v, knd.is k v = true → v.scannable = true
theorem scan_str (P : Program) (w : World) : Scan (strKind P w) := fun k v h => by
  obtain ⟨t, rfl⟩ := Value.isStrOf_shape (x := k) (v := v) h
  rfl

section
variable {P : Program} {w : World} {K : Type} [DecidableEq K] {knd : KeyKind P w K} {A : Around} {E : Value → Shared → Prop} {s : Shared}
theorem items_scan (S : Scan knd) : ∀ {k : List K} {vs : List Value}, ItemsAre knd k vs → ∀ v ∈ vs, v.scannable = true
  | _, _, .nil, _, hv => nomatch hv
  | _, _, .cons h1 t, v, hv => (List.mem_cons.mp hv).elim (fun e => e ▸ S _ _ h1) fun hv => items_scan S t v hv
theorem ofA_tup (S : Scan knd) {k : List K} {b : Addr} {Q : Bool → Shared → Prop} (hk : IsTupleKey knd s.heap k b) (h : Q false s) : wpAny (model P w) A (ofAClassStatement 8 (.ref b)) Q E s := by
  have ty := hk.typeIs
  obtain ⟨o, its, n, ho, _, hd, hi⟩ := hk
  unfold ofAClassStatement
  refine wpAny_bind (wpAny_typeOf ty ?_)
  dsimp only
  have e : (("tuple" : String) == "tuple") = true := by decide
  simp only [e, if_true, Bool.not_true, Bool.false_eq_true, if_false]
  try refine wpAny_bind (wpAny_pure ?_)
  try simp only [Bool.not_true, Bool.false_eq_true, if_false]
  refine wpAny_bind (m := seqItems? (.ref b)) (wpAny_seqItems ho hd ?_)
  dsimp only
  refine wpAny_bind ?_
  rw [← Array.forIn_toList]
  refine wpAny_forIn_list _ (fun left r z => z = s ∧ r.1 = none ∧ ∀ v ∈ left, v.scannable = true) _ ?_ ?_ _ _ ⟨rfl, rfl, items_scan S hi⟩
  · rintro v left r z ⟨rfl, hr, hall⟩
    rw [ofA_scan (hall v List.mem_cons_self)]
    refine wpAny_bind (wpAny_pure ?_)
    simp only [Bool.false_eq_true, if_false]
    exact wpAny_pure ⟨rfl, rfl, fun u hu => hall u (List.mem_cons_of_mem _ hu)⟩
  · rintro ⟨r, _⟩ z ⟨rfl, hr, _⟩
    obtain rfl : r = none := hr
    exact wpAny_pure h
theorem hbv_tup (S : Scan knd) {k : List K} {b : Addr} {Q : Bool → Shared → Prop} (hk : IsTupleKey knd s.heap k b) (h : ∀ c, Q c s) : wpAny (model P w) A (hashByValue 8 (.ref b)) Q E s := by
  have ty := hk.typeIs
  obtain ⟨o, its, n, ho, _, hd, hi⟩ := hk
  unfold hashByValue
  refine wpAny_bind (wpAny_specialOf ty F.slot_tuple_hash.lookup ?_)
  refine wpAny_bind (m := seqItems? (.ref b)) (wpAny_seqItems ho hd ?_)
  refine wpAny_bind ?_
  show wpAny _ _ (forIn its _ _) _ _ s
  rw [← Array.forIn_toList]
  refine wpAny_forIn_list _ (fun left r z => z = s ∧ (r.1 = none ∨ ∃ c, r.1 = some c) ∧ ∀ v ∈ left, v.scannable = true) _ ?_ ?_ _ _ ⟨rfl, .inl rfl, items_scan S hi⟩
  · rintro v left r z ⟨rfl, _, hall⟩
    obtain ⟨c, e⟩ := hbv_scan (hall v List.mem_cons_self) 7
    rw [e]
    refine wpAny_bind (wpAny_pure ?_)
    cases c with
    | true =>
      simp only [Bool.not_true, Bool.false_eq_true, if_false]
      exact wpAny_pure ⟨rfl, .inl rfl, fun u hu => hall u (List.mem_cons_of_mem _ hu)⟩
    | false =>
      simp only [Bool.not_false, if_true]
      exact wpAny_pure (wpAny_pure (h _))
  · rintro ⟨r, _⟩ z ⟨rfl, hr, _⟩
    rcases hr with hr | ⟨c, hr⟩
    · obtain rfl : r = none := hr
      exact wpAny_pure (h _)
    · obtain rfl : r = some c := hr
      exact wpAny_pure (h _)
/-- a search among such tuples shows nothing -/
theorem unseen (S : Scan knd) {k : List K} {b : Addr} {Q : Bool → Shared → Prop} (hk : IsTupleKey knd s.heap k b) {ys : List Value} (hy : ∀ y ∈ ys, ∃ k' c, y = Value.ref c ∧ IsTupleKey knd s.heap k' c) (h : Q false s) :
    wpAny (model P w) A (searchCouldBeSeen (.ref b) ys) Q E s := by
  unfold searchCouldBeSeen
  refine wpAny_bind (wpAny_forIn_list _ (fun left r z => z = s ∧ r.1 = none ∧ ∀ y ∈ left, ∃ k' c, y = Value.ref c ∧ IsTupleKey knd s.heap k' c) _ ?_ ?_ _ _ ⟨rfl, rfl, hy⟩)
  · rintro v left r z ⟨rfl, _, hall⟩
    obtain ⟨k', c, rfl, hc⟩ := hall v List.mem_cons_self
    have next : ∀ y ∈ left, ∃ k' c, y = Value.ref c ∧ IsTupleKey knd z.heap k' c := fun u hu => hall u (List.mem_cons_of_mem _ hu)
    dsimp only
    by_cases hv : (b == c || (carriedByValue (.ref b) && carriedByValue (.ref c))) = true
    · exact wp_if_pos hv (wpAny_pure ⟨rfl, rfl, next⟩)
    · refine wp_if_neg hv (wpAny_bind (wpAny_eqIsQuiet_tuple hk ?_))
      simp only [Bool.not_true, Bool.false_eq_true, if_false]
      refine wpAny_bind (wpAny_eqIsQuiet_tuple hc ?_)
      simp only [Bool.not_true, Bool.false_eq_true, if_false]
      refine wpAny_bind (ofA_tup S hk ?_)
      simp only [Bool.false_eq_true, if_false]
      refine wpAny_bind (ofA_tup S hc ?_)
      simp only [Bool.false_eq_true, if_false]
      exact wpAny_pure ⟨rfl, rfl, next⟩
  · rintro ⟨r, _⟩ z ⟨rfl, hr, _⟩
    obtain rfl : r = none := hr
    exact wpAny_pure h

/-! ### the table: where a search comes to -/
theorem step_dummy (m : Nat) : ∀ (n : Nat) (p : SetTable.Probe), (nth m p n).dummy = p.dummy
  | 0, _ => rfl
  | n + 1, p => (step_dummy m n (adv m p)).trans (by unfold adv; split <;> rfl)
abbrev stn (m : Nat) (h : Int) (n : Nat) : SetTable.Probe := nth m (runAt m (SetTable.bits h % (m + 1)) (SetTable.bits h)) n
/-- from the c-th step on: the first stored one of that hash, or the empty slot at K -/
theorem probe_says {t : SetTable} {hs : List Int} (T : TabOk t hs) {g : Nat → Int} {h : Int} {c K : Nat} (hc : c ≤ K) (hf : K < 10 * SetTable.turns t.mask) (hK : way t.mask h K ∉ t.place.toList)
    (hin : ∀ q, q < K → way t.mask h q ∈ t.place.toList) :
    (∃ q i, c ≤ q ∧ q < K ∧ t.place.toList[i]? = some (way t.mask h q) ∧ g i = h ∧ (∀ q' i', c ≤ q' → q' < q → t.place.toList[i']? = some (way t.mask h q') → g i' ≠ h) ∧
      t.probe g h (stn t.mask h c) = some (.candidate (way t.mask h q) i (stn t.mask h (q + 1)))) ∨
    ((∀ q' i', c ≤ q' → q' < K → t.place.toList[i']? = some (way t.mask h q') → g i' ≠ h) ∧ t.probe g h (stn t.mask h c) = some (.empty (way t.mask h K) none)) := by
  have sh : ∀ q, nth t.mask (stn t.mask h c) q = stn t.mask h (c + q) := fun q => (nth_add t.mask c _ q).symm
  have shj : ∀ q, (nth t.mask (stn t.mask h c) q).j = way t.mask h (c + q) := fun q => congrArg SetTable.Probe.j (sh q)
  have cK : c + (K - c) = K := by omega
  have fwd : ∀ {q' : Nat}, c ≤ q' → way t.mask h q' = (nth t.mask (stn t.mask h c) (q' - c)).j := fun {q'} l => by rw [shj, show c + (q' - c) = q' by omega]
  rcases go_spec t T.ris T.dm g h (10 * SetTable.turns t.mask) (K - c) (stn t.mask h c) (step_dummy _ _ _) (by omega) (fun q hq => by rw [shj]; exact hin _ (by omega)) (by rw [shj, cK]; exact hK) with ⟨q, i, hq, hi, hg, hno, e⟩ | ⟨hno, e⟩
  · refine .inl ⟨c + q, i, by omega, by omega, by rw [← shj]; exact hi, hg, fun q' i' l1 l2 hp => hno (q' - c) i' (by omega) (by rw [← fwd l1]; exact hp), ?_⟩
    rw [← shj, show c + q + 1 = c + (q + 1) by omega, ← sh]
    exact e
  · refine .inr ⟨fun q' i' l1 l2 hp => hno (q' - c) i' (by omega) (by rw [← fwd l1]; exact hp), ?_⟩
    have ek : way t.mask h K = (nth t.mask (stn t.mask h c) (K - c)).j := fwd hc
    rw [ek]
    exact e

/-! ### the set -/
/-- the stored rows of the tuples at some addresses, with their keys -/
def rows (knd : KeyKind P w K) (L : List (Addr × List K)) : List (Int × Value) := L.map fun p => (tupleKeyHash knd p.2, .ref p.1)
/-- the object at a is a set of the keys of L, in the table's order -/
structure Tab (knd : KeyKind P w K) (h : Heap) (a : Addr) (L : List (Addr × List K)) (es : Array (Int × Value)) (ep : Nat) (t : SetTable) : Prop where
  ob : ∃ o, h.get? a = some o ∧ o.ExactSet ∧ o.data = .set es ep t
  rw_ : es.toList = rows knd L
  tab : TabOk t (L.map fun p => tupleKeyHash knd p.2)
  nd : (L.map (·.2)).Nodup
  led : w.params.followText "set-order" = true ∨ t.led = true
  room : L.length * 5 < t.mask * 3
  few : L.length < 64
variable {a : Addr} {L : List (Addr × List K)} {es : Array (Int × Value)} {ep : Nat} {t : SetTable}
theorem Tab.count {h : Heap} (R : Tab knd h a L es ep t) : es.size = L.length := by
  rw [← Array.length_toList, R.rw_]
  exact List.length_map ..
theorem Tab.slots {h : Heap} (R : Tab knd h a L es ep t) : t.place.toList.length = L.length := by
  rw [Array.length_toList, R.tab.sz, List.length_map]
theorem Tab.fits {h : Heap} (R : Tab knd h a L es ep t) : t.fits es.size = true := by
  have h1 := R.slots
  rw [Array.length_toList] at h1
  have h2 := R.count
  have h3 := R.room
  unfold SetTable.fits SetTable.fill
  rw [R.tab.dm]
  simp
  omega
theorem Tab.odd {h : Heap} (R : Tab knd h a L es ep t) : ¬ t.gaveWay = true := by
  unfold SetTable.gaveWay
  rw [mask_odd R.tab.mok]
  decide
theorem Tab.at_ {h : Heap} (R : Tab knd h a L es ep t) {i : Nat} {p : Addr × List K} (e : L[i]? = some p) : es[i]? = some (tupleKeyHash knd p.2, .ref p.1) := by
  rw [← Array.getElem?_toList, R.rw_]
  show (L.map _)[i]? = _
  rw [List.getElem?_map, e]
  rfl
/-- what the search for adding answers -/
def Ans (knd : KeyKind P w K) (L : List (Addr × List K)) (t : SetTable) (k : List K) (Q : SetFound → Shared → Prop) (s : Shared) : Prop :=
  (k ∈ L.map (·.2) → Q (.there none) s) ∧
  (k ∉ L.map (·.2) → ∀ n, way t.mask (tupleKeyHash knd k) n ∉ t.place.toList → (∀ q, q < n → way t.mask (tupleKeyHash knd k) q ∈ t.place.toList) → Q (.free (way t.mask (tupleKeyHash knd k) n) false) s)
theorem search_go (S : Scan knd) (R : Tab knd s.heap a L es ep t) (tup : ∀ p ∈ L, IsTupleKey knd s.heap p.2 p.1) {x : Addr} {k : List K} (hx : IsTupleKey knd s.heap k x) (hu : A.units < cLine) {n : Nat} (hf : n < 10 * SetTable.turns t.mask)
    (hK : way t.mask (tupleKeyHash knd k) n ∉ t.place.toList) (hin : ∀ q, q < n → way t.mask (tupleKeyHash knd k) q ∈ t.place.toList) {Q : SetFound → Shared → Prop} (hQ : Ans knd L t k Q s) :
    ∀ (f c : Nat) (st : Option SetTable.Probe), st.getD (t.probeStart (tupleKeyHash knd k)) = stn t.mask (tupleKeyHash knd k) c → c ≤ n → n - c < f →
      (∀ (i : Nat) p, L[i]? = some p → p.2 = k → ∃ q, c ≤ q ∧ q < n ∧ t.place.toList[i]? = some (way t.mask (tupleKeyHash knd k) q)) →
      wpAny (model P w) A (setSearchFrom a (.ref x) (tupleKeyHash knd k) true f st) Q E s
  | 0, _, _, _, _, hlt, _ => absurd hlt (Nat.not_lt_zero _)
  | f + 1, c, st, hst, hc, hlt, hre => by
    obtain ⟨o, ho, hex, hd⟩ := R.ob
    have hash_at : ∀ (i : Nat) (p : Addr × List K), L[i]? = some p → (es[i]?.map fun e : Int × Value => e.1).getD 0 = tupleKeyHash knd p.2 := fun i p e => by
      rw [R.at_ e]
      rfl
    have same_hash : ∀ {i0 : Nat} {p0 : Addr × List K}, L[i0]? = some p0 → p0.2 = k → (es[i0]?.map fun e : Int × Value => e.1).getD 0 = tupleKeyHash knd k := fun h0 e0 => by rw [hash_at _ _ h0, e0]
    rw [setSearchFrom_succ]
    refine wpAny_bind (wpAny_setState_of ho hd R.fits ?_)
    dsimp only
    refine wp_if_neg R.odd ?_
    try refine wpAny_bind (wpAny_pure ?_)
    rw [hst]
    rcases probe_says (g := fun i => (es[i]?.map fun e : Int × Value => e.1).getD 0) R.tab hc hf hK hin with ⟨q, i, l1, l2, hi, hg, hno, e⟩ | ⟨hno, e⟩
    · rw [e]
      dsimp only
      have il : i < L.length := by
        rw [← R.slots]
        exact (List.getElem?_eq_some_iff.mp hi).1
      obtain ⟨p, hp⟩ : ∃ p, L[i]? = some p := ⟨L[i], List.getElem?_eq_getElem il⟩
      have pm : p ∈ L := List.mem_of_getElem? hp
      have live : t.slot (way t.mask (tupleKeyHash knd k) q) = .live i := slot_live R.tab.ris hi
      have on : wpAny (model P w) A (searchRest a (.ref x) (tupleKeyHash knd k) true f es t (way t.mask (tupleKeyHash knd k) q) i (stn t.mask (tupleKeyHash knd k) (q + 1))) Q E s := by
        unfold searchRest
        rw [R.at_ hp]
        dsimp only
        refine wpAny_bind (wpAny_holding (wpAny_eqBool_tuple hu (tup p pm) hx (wpAny_bind (wpAny_setState_of ho hd R.fits ?_))))
        dsimp only
        by_cases pk : p.2 = k
        · exact wp_if_pos (by rw [decide_eq_true pk]; rfl) (wpAny_pure (hQ.1 (List.mem_map.mpr ⟨p, pm, pk⟩)))
        · refine wp_if_neg (by rw [decide_eq_false pk]; decide) ?_
          try refine wpAny_bind (wpAny_pure ?_)
          rw [sameMem]
          dsimp only
          simp only [if_true, live, R.at_ hp]
          refine wpAny_bind (wpAny_isSame_ref_self (wpAny_bind (wpAny_pure ?_)))
          simp only [if_true]
          refine wp_if_neg (by rw [decide_eq_false pk]; decide) (search_go S R tup hx hu hf hK hin hQ f (q + 1) _ rfl (by omega) (by omega) fun i0 p0 h0 e0 => ?_)
          obtain ⟨q0, m1, m2, m3⟩ := hre i0 p0 h0 e0
          refine ⟨q0, Nat.lt_of_not_le fun le => ?_, m2, m3⟩
          rcases Nat.lt_or_eq_of_le le with lt | rfl
          · exact hno q0 i0 m1 lt m3 (same_hash h0 e0)
          · have two := (slot_live R.tab.ris m3).symm.trans live
            injection two with two
            rw [two, hp] at h0
            exact pk ((congrArg Prod.snd (Option.some.inj h0)).trans e0)
      by_cases ld : t.led = true
      · refine wp_if_neg (by rw [ld]; decide) ?_
        try refine wpAny_bind (wpAny_pure ?_)
        exact on
      · refine wp_if_pos (by simp [ld]) (wpAny_bind (unseen S hx (fun y hy => ?_) ?_))
        · obtain ⟨r, hr, rfl⟩ := List.mem_map.mp hy
          have hr2 : r ∈ es.toList := by
            have : r ∈ es ∧ r.1 = tupleKeyHash knd k := by simpa using hr
            simpa using this.1
          rw [R.rw_] at hr2
          obtain ⟨p2, m2, rfl⟩ := List.mem_map.mp hr2
          exact ⟨p2.2, p2.1, rfl, tup p2 m2⟩
        · refine wp_if_neg (by decide) ?_
          try refine wpAny_bind (wpAny_pure ?_)
          exact on
    · rw [e]
      dsimp only
      refine wpAny_pure (hQ.2 (fun hm => ?_) n hK hin)
      obtain ⟨p0, h0, e0⟩ := List.mem_map.mp hm
      obtain ⟨i0, hi0⟩ := List.getElem?_of_mem h0
      obtain ⟨q0, m1, m2, m3⟩ := hre i0 p0 hi0 e0
      exact hno q0 i0 m1 m2 m3 (same_hash hi0 e0)
theorem search_all (S : Scan knd) (R : Tab knd s.heap a L es ep t) (tup : ∀ p ∈ L, IsTupleKey knd s.heap p.2 p.1) {x : Addr} {k : List K} (hx : IsTupleKey knd s.heap k x) (hu : A.units < cLine) {Q : SetFound → Shared → Prop} (hQ : Ans knd L t k Q s) :
    wpAny (model P w) A (setSearch a (.ref x) (tupleKeyHash knd k) true) Q E s := by
  have rm := R.room
  obtain ⟨n, hf, hK, hin⟩ := R.tab.first (by rw [List.length_map]; omega) (tupleKeyHash knd k)
  have far : 10 * SetTable.turns t.mask ≤ 1420 := by
    unfold SetTable.turns
    rcases R.tab.mok with e | e | e <;> omega
  unfold setSearch
  refine search_go S R tup hx hu hf hK hin hQ 100000 0 none rfl (Nat.zero_le _) (by omega) fun i p hp e => ?_
  have hi : (L.map fun p => tupleKeyHash knd p.2)[i]? = some (tupleKeyHash knd k) := by
    rw [List.getElem?_map, hp, ← e]
    rfl
  have il : i < t.place.toList.length := by
    rw [R.slots]
    exact (List.getElem?_eq_some_iff.mp hp).1
  obtain ⟨q, hq, eq⟩ := R.tab.before hK hi (List.getElem?_eq_getElem il)
  exact ⟨q, Nat.zero_le _, hq, by rw [List.getElem?_eq_getElem il, eq]⟩

/-! ### laid anew, larger; put in -/
theorem rows_at {es : Array (Int × Value)} (hr : es.toList = rows knd L) (i : Nat) : es[i]? = (L[i]?).map fun p => (tupleKeyHash knd p.2, Value.ref p.1) := by
  rw [← Array.getElem?_toList, hr]
  exact List.getElem?_map ..
theorem range_back {α : Type} (l : List α) : ∀ n, n ≤ l.length → (List.range n).filterMap (fun i => l[i]?) = l.take n
  | 0, _ => by simp
  | n + 1, h => by
    have hn : n < l.length := h
    rw [List.range_succ, List.filterMap_append, range_back l n (Nat.le_of_lt hn), List.take_add_one, List.getElem?_eq_getElem hn]
    simp [List.getElem?_eq_getElem hn]
theorem by_order {es : Array (Int × Value)} (hr : es.toList = rows knd L) {order : Array Nat} (hp : order.toList.Perm (List.range L.length)) :
    ∃ L2 : List (Addr × List K), (order.filterMap (es[·]?)).toList = rows knd L2 ∧ L2.Perm L ∧ L2.map (fun p => tupleKeyHash knd p.2) = order.toList.map fun i => (es.map fun e : Int × Value => e.1).getD i 0 := by
  refine ⟨order.toList.filterMap (fun i => L[i]?), ?_, ?_, ?_⟩
  · have e : (fun i : Nat => es[i]?) = fun i : Nat => (L[i]?).map fun p : Addr × List K => (tupleKeyHash knd p.2, Value.ref p.1) := funext (rows_at hr)
    rw [Array.toList_filterMap, e]
    unfold rows
    rw [List.map_filterMap]
  · have h1 := hp.filterMap fun i => L[i]?
    rw [range_back L L.length (Nat.le_refl _), List.take_length] at h1
    exact h1
  · have each : ∀ l : List Nat, (∀ i ∈ l, i < L.length) → (l.filterMap fun i => L[i]?).map (fun p => tupleKeyHash knd p.2) = l.map fun i => (es.map fun e : Int × Value => e.1).getD i 0 := by
      intro l
      induction l with
      | nil => intro _; rfl
      | cons i l ih =>
        intro h
        have hi := h i List.mem_cons_self
        rw [List.filterMap_cons_some (List.getElem?_eq_getElem hi), List.map_cons, List.map_cons, ih fun j hj => h j (List.mem_cons_of_mem _ hj)]
        have q := rows_at hr i
        rw [List.getElem?_eq_getElem hi] at q
        congr 1
        simp [Array.getD_eq_getD_getElem?, q]
    exact each _ fun i hi => List.mem_range.mp (hp.mem_iff.mp hi)
theorem relay_tab {o : Obj} (ho : s.heap.get? a = some o) (hex : o.ExactSet) (hd : o.data = .set es ep t) (hr : es.toList = rows knd L) (hsz : t.place.size = es.size) (hdm : t.dummies = #[]) (hfl : es.size ≤ t.mask)
    (nd : (L.map (·.2)).Nodup) (led : w.params.followText "set-order" = true ∨ t.led = true) (few : L.length < 64) {wanted M : Nat} (hw : SetTable.sizeAbove wanted - 1 = M) (hM : MaskOk M) (hw2 : SetTable.sizeAbove wanted ≤ 128)
    (hn : L.length * 5 < M * 3) {Q : Unit → Shared → Prop} (hQ : ∀ h' L' es' ep' t', Heap.SameBut a s.heap h' → Tab knd h' a L' es' ep' t' → L'.Perm L → Q () { s with heap := h' }) : wpAny (model P w) A (setRelay a wanted) Q E s := by
  have cnt : es.size = L.length := by
    rw [← Array.length_toList, hr]
    exact List.length_map ..
  have fit : t.fits es.size = true := by
    unfold SetTable.fits SetTable.fill
    rw [hdm]
    simp
    omega
  obtain ⟨t', order, e, hp, T, em, el, _, _⟩ := relaid_ok t (hs := es.map fun e : Int × Value => e.1) (wanted := wanted) hw hM (by rw [Array.size_map]; omega)
  rw [Array.size_map, cnt] at hp
  obtain ⟨L2, r1, r2, r3⟩ := by_order hr hp
  rw [← r3] at T
  have cnt2 : (order.filterMap (es[·]?)).size = es.size := by
    rw [← Array.length_toList, r1, cnt, ← r2.length_eq]
    exact List.length_map ..
  rw [setRelay_eq]
  refine wpAny_bind (wpAny_setState_of ho hd fit ?_)
  dsimp only
  refine wp_if_neg (by rw [sizeLine_eq]; omega) ?_
  try refine wpAny_bind (wpAny_pure ?_)
  rw [e]
  dsimp only
  refine wpAny_bind (wp_if_neg (by rw [cnt2]; simp) ?_)
  try refine wpAny_bind (wpAny_pure ?_)
  refine wpAny_pure ?_
  dsimp only
  refine wpAny_storeSet_of ho hd ?_ (by rw [cnt2, cnt, sizeLine_eq]; omega)
  exact hQ _ L2 _ _ t' (Heap.SameBut.update ..) ⟨⟨_, store_at ho hd, ⟨hex.1, hex.2.1, hex.2.2⟩, rfl⟩, r1, T, (r2.map (·.2)).nodup_iff.mpr nd, by rw [el]; exact led, by rw [r2.length_eq, em]; exact hn, by rw [r2.length_eq]; exact few⟩ r2
theorem TabOk.off {t : SetTable} {hs : List Int} (T : TabOk t hs) : TabOk { t with plain := false } hs := ⟨T.ris, T.dm, T.sz, T.mok, T.bd, T.reach⟩
/-- what the set is behind a key was put in -/
def Put (knd : KeyKind P w K) (h h' : Heap) (a : Addr) (L : List (Addr × List K)) (x : Addr) (k : List K) (L' : List (Addr × List K)) : Prop :=
  Heap.SameBut a h h' ∧ (∃ es ep t, Tab knd h' a L' es ep t) ∧ (k ∈ L.map (·.2) → L' = L) ∧ (k ∉ L.map (·.2) → L'.Perm ((x, k) :: L))
theorem add_tab (S : Scan knd) (R : Tab knd s.heap a L es ep t) (tup : ∀ p ∈ L, IsTupleKey knd s.heap p.2 p.1) {x : Addr} {k : List K} (hx : IsTupleKey knd s.heap k x) (hu : A.units < cLine) (room : L.length + 1 < 64) {Q : Bool → Shared → Prop}
    (hQ : ∀ b h' L', Put knd s.heap h' a L x k L' → Q b { s with heap := h' }) : wpAny (model P w) A (setAddHashed a (.ref x) (tupleKeyHash knd k)) Q E s := by
  obtain ⟨o, ho, hex, hd⟩ := R.ob
  have cnt := R.count
  have rm := R.room
  unfold setAddHashed
  refine wpAny_holding ?_
  rw [show (100000 : Nat) = 99999 + 1 from rfl, setAddHashedIn_succ]
  refine wpAny_bind (wpAny_setState_of ho hd R.fits ?_)
  dsimp only
  refine wp_if_neg (by simp [byScan, Value.scannable]) ?_
  try refine wpAny_bind (wpAny_pure ?_)
  refine wpAny_bind (search_all S R tup hx hu ⟨fun hm => ?_, fun hm n hK hin => ?_⟩)
  · exact wpAny_pure (hQ false s.heap L ⟨Heap.SameBut.refl a s.heap, ⟨es, ep, t, R⟩, fun _ => rfl, fun z => absurd hm z⟩)
  · dsimp only
    refine wpAny_bind (wpAny_setState_of ho hd R.fits ?_)
    dsimp only
    obtain ⟨q1, q2, q3, q4, q5, q6, q7, q8, q9⟩ := R.tab.put hK hin
    obtain ⟨i, ei⟩ : ∃ i, i = SetTable.below t.place (way t.mask (tupleKeyHash knd k) n) := ⟨_, rfl⟩
    obtain ⟨L1, e1⟩ : ∃ L1, L1 = L.take i ++ (x, k) :: L.drop i := ⟨_, rfl⟩
    have pm : L1.Perm ((x, k) :: L) := by
      have z : (L.take i ++ (x, k) :: L.drop i).Perm ((x, k) :: (L.take i ++ L.drop i)) := List.perm_middle
      rw [List.take_append_drop] at z
      rw [e1]
      exact z
    have len1 : L1.length = L.length + 1 := pm.length_eq
    have hin1 : (SetTable.insertAt es (t.put (way t.mask (tupleKeyHash knd k) n)).snd (tupleKeyHash knd k, Value.ref x)).toList = rows knd L1 := by
      rw [q1, ← ei, SetTable.toList_insertAt, R.rw_, e1]
      unfold rows
      rw [List.map_append, List.map_cons, List.map_take, List.map_drop]
    have hs1 : L1.map (fun p => tupleKeyHash knd p.2) = (L.map fun p => tupleKeyHash knd p.2).take i ++ tupleKeyHash knd k :: (L.map fun p => tupleKeyHash knd p.2).drop i := by
      rw [e1, List.map_append, List.map_cons, List.map_take, List.map_drop]
    rw [← ei, ← hs1] at q3
    rw [List.length_map] at q9
    have nd1 : (L1.map (·.2)).Nodup := (pm.map (·.2)).nodup_iff.mpr (List.nodup_cons.mpr ⟨hm, R.nd⟩)
    generalize SetTable.insertAt es (t.put (way t.mask (tupleKeyHash knd k) n)).snd (tupleKeyHash knd k, Value.ref x) = es1 at hin1 ⊢
    have cnt1 : es1.size = L.length + 1 := by
      rw [← Array.length_toList, hin1, ← len1]
      exact List.length_map ..
    have tail : ∀ t1 : SetTable, TabOk t1 (L1.map fun p => tupleKeyHash knd p.2) → t1.mask = t.mask → t1.led = t.led → t1.fill = L.length + 1 →
        wpAny (model P w) A (do
          storeSet a es1 t1
          if (!false && t1.tooFull) = true then do
            setRelay a (SetTable.grown (es.size + 1))
            pure true
          else pure true) Q E s := by
      intro t1 T1 m1 l1 f1
      refine wpAny_bind (wpAny_storeSet_of ho hd ?_ (by rw [cnt1, sizeLine_eq]; omega))
      have ho1 := store_at (es' := es1) (t' := t1) ho hd
      have sb : Heap.SameBut a s.heap (s.heap.update a (Obj.putSet es1 t1)) := Heap.SameBut.update ..
      have led1 : w.params.followText "set-order" = true ∨ t1.led = true := by rw [l1]; exact R.led
      by_cases full : t1.tooFull = true
      · refine wp_if_pos (by rw [full]; rfl) ?_
        have big : (L.length + 1) * 5 ≥ t1.mask * 3 := by
          have z := full
          unfold SetTable.tooFull at z
          rw [decide_eq_true_eq, f1] at z
          exact z
        have two : (t.mask = 7 ∧ L.length = 4) ∨ (t.mask = 31 ∧ L.length = 18) := by
          rcases R.tab.mok with e | e | e
          · rw [m1, e] at big; rw [e] at rm; exact .inl ⟨e, by omega⟩
          · rw [m1, e] at big; rw [e] at rm; exact .inr ⟨e, by omega⟩
          · rw [m1, e] at big; omega
        have sz1 : t1.place.size = es1.size := by rw [T1.sz, List.length_map, len1, cnt1]
        have go : ∀ M, SetTable.sizeAbove (SetTable.grown (L.length + 1)) = M + 1 → MaskOk M → M ≤ 127 → (L.length + 1) * 5 < M * 3 → wpAny (model P w) A (setRelay a (SetTable.grown (es.size + 1)))
            (fun _ z => wpAny (model P w) A (pure true) Q E z) E { s with heap := s.heap.update a (Obj.putSet es1 t1) } := fun M g1 g2 g3 g4 => by
          rw [cnt]
          refine relay_tab (s := { s with heap := s.heap.update a (Obj.putSet es1 t1) }) ho1 ⟨hex.1, hex.2.1, hex.2.2⟩ rfl hin1 sz1 T1.dm (by rw [cnt1, m1]; omega) nd1 led1 (by rw [len1]; exact room) (M := M) (by omega) g2 (by omega) (by rw [len1]; exact g4) fun h2 L2 es2 ep2 t2 sb2 R2 pm2 => ?_
          exact wpAny_pure (hQ true h2 L2 ⟨sb.trans sb2, ⟨es2, ep2, t2, R2⟩, fun z => absurd z hm, fun _ => pm2.trans pm⟩)
        refine wpAny_bind ?_
        rcases two with ⟨_, e2⟩ | ⟨_, e2⟩
        · exact go 31 (by rw [e2]; exact size_20) (.inr (.inl rfl)) (by decide) (by omega)
        · exact go 127 (by rw [e2]; exact size_76) (.inr (.inr rfl)) (by decide) (by omega)
      · refine wp_if_neg (by simp [full]) (wpAny_pure (hQ true _ L1 ⟨sb, ⟨es1, _, t1, ⟨_, ho1, ⟨hex.1, hex.2.1, hex.2.2⟩, rfl⟩, hin1, T1, nd1, led1, ?_, by rw [len1]; exact room⟩, fun z => absurd z hm, fun _ => pm⟩))
        have z := full
        unfold SetTable.tooFull at z
        rw [decide_eq_true_eq, f1] at z
        rw [len1]
        omega
    generalize (t.put (way t.mask (tupleKeyHash knd k) n)).fst = t1 at q3 q4 q5 q6 q9 ⊢
    by_cases pl : t1.plain = true
    · refine wp_if_pos pl (wpAny_bind (hbv_tup S hx fun c => ?_))
      cases c with
      | true =>
        simp only [if_true]
        exact tail t1 q3 q4 q5 q9
      | false =>
        simp only [Bool.false_eq_true, if_false]
        exact tail _ (TabOk.off q3) q4 q5 q9
    · refine wp_if_neg pl (wpAny_bind (wpAny_pure ?_))
      simp only [if_true]
      exact tail t1 q3 q4 q5 q9
end
end My

/-! MyOrd: the order of texts, of tuples of texts; sorted lists without equal items are one -/
namespace My
open PySem PySem.Spec PyProof.Rows L2
/-- a strict order in which any two are the same or one is less -/
structure Tot {α : Type} (lt : α → α → Bool) : Prop where
  irr : ∀ x, lt x x = false
  tri : ∀ x y, lt x y = false → lt y x = false → x = y
  trans : ∀ x y z, lt x y = true → lt y z = true → lt x z = true
theorem Tot.asym {α : Type} {lt : α → α → Bool} (T : Tot lt) {x y : α} (h : lt x y = true) : lt y x = false := by
  cases q : lt y x with
  | false => rfl
  | true =>
    have z := T.trans x y x h q
    rw [T.irr] at z
    cases z
theorem Tot.swo {α : Type} {lt : α → α → Bool} (T : Tot lt) : SrtO.Swo lt := ⟨fun x y h => T.asym h, fun x y z h1 h2 => by
  cases q : lt z x with
  | false => rfl
  | true =>
    cases r : lt y z with
    | true =>
      have c := T.trans y z x r q
      rw [h1] at c
      cases c
    | false =>
      obtain rfl := T.tri y z r h2
      rw [q] at h1
      cases h1⟩
theorem Tot.of_inj {α β : Type} {lt : β → β → Bool} (T : Tot lt) (f : α → β) (inj : ∀ x y, f x = f y → x = y) : Tot fun x y => lt (f x) (f y) :=
  ⟨fun x => T.irr _, fun x y h1 h2 => inj _ _ (T.tri _ _ h1 h2), fun x y z => T.trans _ _ _⟩
/-- lists by their first unlike items -/
def lexL {α : Type} [DecidableEq α] (lt : α → α → Bool) : List α → List α → Bool
  | [], [] => false
  | [], _ :: _ => true
  | _ :: _, [] => false
  | x :: xs, y :: ys => if x = y then lexL lt xs ys else lt x y
theorem Tot.lex {α : Type} [DecidableEq α] {lt : α → α → Bool} (T : Tot lt) : Tot (lexL lt) := by
  refine ⟨fun x => ?_, fun x => ?_, fun x => ?_⟩
  · induction x with
    | nil => rfl
    | cons a x ih => unfold lexL; rw [if_pos rfl]; exact ih
  · induction x with
    | nil =>
      intro y h1 h2
      cases y with
      | nil => rfl
      | cons b y => cases h1
    | cons a x ih =>
      intro y h1 h2
      cases y with
      | nil => cases h2
      | cons b y =>
        unfold lexL at h1 h2
        by_cases e : a = b
        · subst e
          rw [if_pos rfl] at h1 h2
          rw [ih y h1 h2]
        · rw [if_neg e] at h1
          rw [if_neg (fun z => e z.symm)] at h2
          exact absurd (T.tri a b h1 h2) e
  · induction x with
    | nil =>
      intro y z h1 h2
      cases y with
      | nil => cases h1
      | cons b y =>
        cases z with
        | nil => cases h2
        | cons c z => rfl
    | cons a x ih =>
      intro y z h1 h2
      cases y with
      | nil => cases h1
      | cons b y =>
        cases z with
        | nil => cases h2
        | cons c z =>
          unfold lexL at h1 h2 ⊢
          by_cases e1 : a = b
          · subst e1
            rw [if_pos rfl] at h1
            by_cases e2 : a = c
            · subst e2
              rw [if_pos rfl] at h2 ⊢
              exact ih y z h1 h2
            · rw [if_neg e2] at h2 ⊢
              exact h2
          · rw [if_neg e1] at h1
            by_cases e2 : b = c
            · subst e2
              rw [if_neg e1]
              exact h1
            · rw [if_neg e2] at h2
              have h3 := T.trans a b c h1 h2
              have e3 : ¬ a = c := fun q => by
                subst q
                rw [T.irr] at h3
                cases h3
              rw [if_neg e3]
              exact h3
theorem tot_nat : Tot fun x y : Nat => decide (x < y) := ⟨fun x => by simp, fun x y h1 h2 => by simp at h1 h2; omega, fun x y z h1 h2 => by simp at h1 h2 ⊢; omega⟩
/-- the order of texts -/
def ltS (x y : Str) : Bool := lexL (fun a b : Nat => decide (a < b)) x.cps.toList y.cps.toList
theorem tot_str : Tot ltS := tot_nat.lex.of_inj (fun x : Str => x.cps.toList) fun x y h => by
  obtain ⟨⟨x⟩⟩ := x
  obtain ⟨⟨y⟩⟩ := y
  simp at h
  rw [h]
/-- the order of tuples of texts -/
def ltK (x y : List Str) : Bool := lexL ltS x y
theorem tot_key : Tot ltK := tot_str.lex
theorem lt_list : ∀ x y : List Nat, decide (x < y) = lexL (fun a b : Nat => decide (a < b)) x y
  | [], [] => by simp [lexL]
  | [], b :: y => by simp [lexL]
  | a :: x, [] => by simp [lexL]
  | a :: x, b :: y => by
    unfold lexL
    by_cases e : a = b
    · subst e
      rw [if_pos rfl, ← lt_list x y]
      simp [List.cons_lt_cons_iff]
    · rw [if_neg e]
      simp [List.cons_lt_cons_iff, e]
theorem ltS_eq (x y : Str) : decide (x.cps.toList < y.cps.toList) = ltS x y := lt_list _ _
/-- ascending without equal ones -/
def Asc {α : Type} (lt : α → α → Bool) (l : List α) : Prop := l.Pairwise fun x y => lt x y = true
theorem asc_nodup {α : Type} {lt : α → α → Bool} (T : Tot lt) {l : List α} (h : Asc lt l) : l.Nodup := List.Pairwise.imp (fun {x y} q e => by
  subst e
  rw [T.irr] at q
  cases q) h
/-- there is just one such list of some members -/
theorem asc_uniq {α : Type} {lt : α → α → Bool} (T : Tot lt) : ∀ {l m : List α}, Asc lt l → Asc lt m → (∀ x, x ∈ l ↔ x ∈ m) → l = m
  | [], [], _, _, _ => rfl
  | [], y :: m, _, _, h => absurd ((h y).mpr List.mem_cons_self) (by simp)
  | x :: l, [], _, _, h => absurd ((h x).mp List.mem_cons_self) (by simp)
  | x :: l, y :: m, hl, hm, h => by
    have hl' := List.pairwise_cons.mp hl
    have hm' := List.pairwise_cons.mp hm
    have e : x = y := by
      rcases List.mem_cons.mp ((h x).mp List.mem_cons_self) with e | hx
      · exact e
      · rcases List.mem_cons.mp ((h y).mpr List.mem_cons_self) with e | hy
        · exact e.symm
        · have a := T.asym (hl'.1 y hy)
          rw [hm'.1 x hx] at a
          cases a
    subst e
    rw [asc_uniq T hl'.2 hm'.2 fun z => ⟨fun hz => ?_, fun hz => ?_⟩]
    · rcases List.mem_cons.mp ((h z).mp (List.mem_cons_of_mem _ hz)) with q | q
      · subst q
        have a := hl'.1 z hz
        rw [T.irr] at a
        cases a
      · exact q
    · rcases List.mem_cons.mp ((h z).mpr (List.mem_cons_of_mem _ hz)) with q | q
      · subst q
        have a := hm'.1 z hz
        rw [T.irr] at a
        cases a
      · exact q
/-- sorted, all unlike: ascending -/
theorem asc_of {α : Type} {lt : α → α → Bool} (T : Tot lt) {l : List α} (hs : l.Pairwise fun x y => lt y x = false) (nd : l.Nodup) : Asc lt l := by
  have h := List.pairwise_and_iff.mpr ⟨hs, nd⟩
  refine List.Pairwise.imp (fun {x y} q => ?_) h
  cases z : lt x y with
  | true => rfl
  | false => exact absurd (T.tri x y z q.1) q.2
end My

/-! MySrt: how texts and tuples of texts compare in a sort -/
namespace My
open PySem PySem.Spec PyProof.Rows L2
def sOf : Value → Str
  | .str x _ => x
  | _ => Str.empty
section
variable {P : Program} {w : World} {A : Around} {E : Value → Shared → Prop} {s : Shared}
theorem one_str (c : Bool) {x y : Str} {t u : Tok} {Q : Bool → Shared → Prop} (h : Q (ltS x y) s) : wpAny (model P w) A (oneLt' c (.str x t) (.str y u)) Q E s := by
  rw [← ltS_eq] at h
  cases c with
  | true => exact oneLt_str h
  | false => exact PySem.W.kat_one _ _ (PySem.P.lt_str (Q := PySem.W.BoolBack Q) h)
/-- texts can be sorted -/
theorem sortable_strs {a : Addr} {vs : List Value} (h2 : 2 ≤ vs.length) (hv : ∀ v ∈ vs, ∃ x t, v = Value.str x t) : SrtO.SortableO P w A s a vs fun v u => ltS (sOf v) (sOf u) := by
  intro h' _
  refine ⟨oneType', fun Q E hq => PySem.W.kas_kind (T := .type "str") h2 (fun v hm => ?_) (by rfl) (by rfl) hq, fun p q hp hq => ?_⟩
  · obtain ⟨x, t, rfl⟩ := hv v hm
    exact PySem.W.Looks.now
  · obtain ⟨x, t, e1⟩ := hv _ hp
    obtain ⟨y, u, e2⟩ := hv _ hq
    rw [keyLt'_oneType, e1, e2]
    refine one_str true ⟨rfl, ?_⟩
    show _ = ltS (sOf p.1) (sOf q.1)
    rw [e1, e2]
    rfl
theorem lex_strs {b fin : Bool} {Q : Bool → Shared → Prop} : ∀ {xs ys : List Value} {ns ms : List Str} (i : Nat), StrsAre xs ns → StrsAre ys ms → fin = decide (xs.length < ys.length) → Q (ltK ns ms) s → PySem.W.KatLex P w A b fin Q (xs.zip ys) i s
  | [], [], _, _, _, .nil, .nil, hf, h => by
    rw [hf]
    exact h
  | [], _ :: _, _, _, _, .nil, .cons _ _ _, hf, h => by
    rw [hf]
    exact h
  | _ :: _, [], _, _, _, .cons _ _ _, .nil, hf, h => by
    rw [hf]
    exact h
  | _ :: xs, _ :: ys, _, _, i, .cons x t hx, .cons y u hy, hf, h => by
    refine PySem.W.kat_cons (wpAny_eqBool_str ?_)
    refine PySem.W.kat_go (fun e => ?_) (fun e => ?_)
    · have exy := of_decide_eq_true e
      subst exy
      refine PySem.W.kat_yes (lex_strs (i + 1) hx hy (by rw [hf]; simp) ?_)
      unfold ltK lexL at h
      rw [if_pos rfl] at h
      exact h
    · have exy := of_decide_eq_false e
      refine PySem.W.kat_no (one_str _ ?_)
      unfold ltK lexL at h
      rw [if_neg exy] at h
      exact h
/-- at v: a tuple of the texts k -/
def TupK (h : Heap) (v : Value) (k : List Str) : Prop := ∃ a o its n, v = Value.ref a ∧ h.get? a = some o ∧ o.cls = .type "tuple" ∧ o.data = .seq its n ∧ StrsAre its.toList k
theorem TupK.keeps {h h' : Heap} {v : Value} {k : List Str} (x : TupK h v k) (kp : ∀ b o, h.get? b = some o → o.cls = .type "tuple" → h'.get? b = some o) : TupK h' v k := by
  obtain ⟨a, o, its, n, e, ho, hc, r⟩ := x
  exact ⟨a, o, its, n, e, kp _ _ ho hc, hc, r⟩
theorem firsts_str {h : Heap} {k : Value → List Str} : ∀ {vs : List Value}, (∀ v ∈ vs, TupK h v (k v) ∧ k v ≠ []) → ∃ fs : List Value, PySem.W.KatTups h vs fs ∧ fs.length = vs.length ∧ ∀ f ∈ fs, ∃ x t, f = Value.str x t
  | [], _ => ⟨[], PySem.W.KatTups.nil, rfl, fun _ m => nomatch m⟩
  | v :: vs, hp => by
    obtain ⟨fs, h1, h2, h3⟩ := firsts_str fun u m => hp u (List.mem_cons_of_mem _ m)
    obtain ⟨⟨a, o, its, n, rfl, ho, hc, hd, hS⟩, ne⟩ := hp v List.mem_cons_self
    obtain ⟨l⟩ := its
    cases hk : k (.ref a) with
    | nil => exact absurd hk ne
    | cons x ks =>
      rw [hk] at hS
      cases hS with
      | cons y t r => exact ⟨.str x t :: fs, PySem.W.KatTups.cons ho hc hd rfl h1, by rw [List.length_cons, List.length_cons, h2], fun f m => (List.mem_cons.mp m).elim (fun e => ⟨_, _, e⟩) (h3 f)⟩
/-- tuples of texts can be sorted -/
theorem sortable_tups {a : Addr} {vs : List Value} {k : Value → List Str} (h0 : 0 < vs.length) (hp : ∀ v ∈ vs, TupK s.heap v (k v) ∧ k v ≠ []) (ha : ∀ o, s.heap.get? a = some o → o.cls ≠ .type "tuple") :
    SrtO.SortableO P w A s a vs fun v u => ltK (k v) (k u) := by
  intro h' keep
  have hp' : ∀ v ∈ vs, TupK h' v (k v) ∧ k v ≠ [] := fun v hm => ⟨(hp v hm).1.keeps fun b o e c => keep b o (fun z => ha o (by rw [← z]; exact e) c) e, (hp v hm).2⟩
  obtain ⟨fs, h1, h2, h3⟩ := firsts_str hp'
  refine ⟨tuples' true, fun Q E hq => ?_, fun p q hm hm' => ?_⟩
  · refine PySem.W.kat_kind (T := .type "str") h1 (by omega) (fun f hm => ?_) (by rfl) ?_
    · obtain ⟨x, t, rfl⟩ := h3 f hm
      exact PySem.W.Looks.now
    · have e : (Value.type "str" != Value.type "tuple") = true := by decide +kernel
      rw [e]
      exact hq
  · obtain ⟨a1, o1, i1, n1, e1, g1, c1, d1, S1⟩ := (hp' _ hm).1
    obtain ⟨a2, o2, i2, n2, e2, g2, c2, d2, S2⟩ := (hp' _ hm').1
    show wpAny (model P w) A (keyLt' (tuples' true) p.1 q.1) (fun r s' => s' = _ ∧ r = ltK (k p.1) (k q.1)) _ _
    generalize k p.1 = k1 at S1 ⊢
    generalize k q.1 = k2 at S2 ⊢
    rw [e1, e2]
    exact PySem.W.kat_lt g1 d1 g2 d2 (lex_strs 0 S1 S2 (by simp) ⟨rfl, rfl⟩)
end
end My

/-! MySS: sets of texts: what is in them, put in -/
namespace My
open PySem PySem.Spec PyProof.Rows L2
def eS (e : Int × Value) : Str := sOf e.2
def GoodS (w : World) (e : Int × Value) : Prop := ∃ x tk, e = (hashStr w x, Value.str x tk)
/-- the object at a is a set of the texts xs, in the rows' order -/
structure TabS (w : World) (h : Heap) (a : Addr) (xs : List Str) (es : Array (Int × Value)) (ep : Nat) (t : SetTable) : Prop where
  ob : ∃ o, h.get? a = some o ∧ o.ExactSet ∧ o.data = .set es ep t
  good : ∀ e ∈ es.toList, GoodS w e
  eq : es.toList.map eS = xs
  nd : xs.Nodup
  fit : t.fits es.size = true
  ris : Ris t.place.toList
  led : w.params.followText "set-order" = true ∨ t.led = true
  few : xs.length < 64
section
variable {P : Program} {w : World} {A : Around} {E : Value → Shared → Prop} {s : Shared} {a : Addr} {xs : List Str} {es : Array (Int × Value)} {ep : Nat} {t : SetTable}
theorem goodS_elems {l : List (Int × Value)} (g : ∀ e ∈ l, GoodS w e) : ElemsOf (PySem.strKind P w) l := fun e he => by
  obtain ⟨x, tk, rfl⟩ := g e he
  exact ⟨⟨x, strKind_is P w x tk, rfl⟩, rfl⟩
theorem goodS_is {e : Int × Value} (g : GoodS w e) (k : Str) : (PySem.strKind P w).is k e.2 = true ↔ eS e = k := by
  obtain ⟨x, tk, rfl⟩ := g
  show Value.isStrOf k (.str x tk) = true ↔ x = k
  simp [Value.isStrOf]
theorem TabS.count {h : Heap} (R : TabS w h a xs es ep t) : es.size = xs.length := by
  rw [← R.eq, List.length_map, Array.length_toList]
/-- what the set is behind a text was put in -/
def PutS (w : World) (h h' : Heap) (a : Addr) (xs : List Str) (k : Str) (xs' : List Str) : Prop :=
  Heap.SameBut a h h' ∧ (∃ es ep t, TabS w h' a xs' es ep t) ∧ (k ∈ xs → xs' = xs) ∧ (k ∉ xs → xs'.Perm (k :: xs))
/-- the rows stored, laid anew where they are many -/
theorem store_strs {g : Bool → Sem Unit} (hg : ∀ (b : Bool) (z : Shared) (Q' : Unit → Shared → Prop), Q' () z → wpAny (model P w) A (g b) Q' E z) {o : Obj} (ho : s.heap.get? a = some o) (hex : o.ExactSet) (hd : o.data = .set es ep t)
    {es1 : Array (Int × Value)} {t1 : SetTable} (good : ∀ e ∈ es1.toList, GoodS w e) (nd : (es1.toList.map eS).Nodup) (few : es1.size < 64) (fit : t1.fits es1.size = true) (ris : Ris t1.place.toList)
    (led : w.params.followText "set-order" = true ∨ t1.led = true) {dummy : Bool} {R : Option Bool → Shared → Prop}
    (hR : ∀ h' xs', Heap.SameBut a s.heap h' → (∃ es ep t, TabS w h' a xs' es ep t) → xs'.Perm (es1.toList.map eS) → R (some true) { s with heap := h' }) :
    wpAny (model P w) A (do
      storeSet a es1 t1
      if (!dummy && t1.tooFull) = true then do
        g (relayAll t1 es1 (SetTable.grown es1.size)).2.2
        storeSet a (relayAll t1 es1 (SetTable.grown es1.size)).1 (relayAll t1 es1 (SetTable.grown es1.size)).2.1
        pure (some true)
      else pure (some true)) R E s := by
  have few' : es1.size < scanBound := by unfold scanBound; omega
  refine wpAny_bind (wpAny_storeSet_of ho hd ?_ (fits_of_scanBound few'))
  have ho1 := store_at (es' := es1) (t' := t1) ho hd
  have sb := Heap.SameBut.update s.heap a (Obj.putSet es1 t1)
  split
  · have pm := relayAll_perm t1 es1 (SetTable.grown es1.size)
    have f2 := relayAll_fits t1 es1 (SetTable.grown es1.size)
    have r2 := relayAll_ris t1 es1 (SetTable.grown es1.size)
    have l2 := relayAll_led t1 es1 (SetTable.grown es1.size)
    generalize relayAll t1 es1 (SetTable.grown es1.size) = Z at pm f2 r2 l2 ⊢
    obtain ⟨es2, t2, gave⟩ := Z
    dsimp only at pm f2 r2 l2 ⊢
    have cnt : es2.size = es1.size := by rw [← Array.length_toList, pm.length_eq, Array.length_toList]
    refine wpAny_bind (hg _ _ _ (wpAny_bind (wpAny_storeSet_of ho1 rfl ?_ (fits_of_scanBound (by rw [cnt]; exact few')))))
    refine wpAny_pure (hR _ _ (sb.trans (Heap.SameBut.update _ a _)) ⟨es2, _, t2, ⟨_, store_at ho1 rfl, hex, rfl⟩, fun e he => good e (pm.mem_iff.mp he), rfl, (pm.map eS).nodup_iff.mpr nd, f2, r2, by rw [l2]; exact led, ?_⟩ (pm.map eS))
    rw [List.length_map, Array.length_toList, cnt]
    exact few
  · refine wpAny_pure (hR _ _ sb ⟨es1, _, t1, ⟨_, ho1, hex, rfl⟩, good, rfl, nd, fit, ris, led, ?_⟩ (List.Perm.refl _))
    rw [List.length_map, Array.length_toList]
    exact few
theorem add_str (R : TabS w s.heap a xs es ep t) (room : xs.length + 1 < 64) {k : Str} {tk : Tok} {Q : Bool → Shared → Prop} (hQ : ∀ b h' xs', PutS w s.heap h' a xs k xs' → Q b { s with heap := h' }) :
    wpAny (model P w) A (setAddHashed a (.str k tk) (hashStr w k)) Q E s := by
  obtain ⟨o, ho, hex, hd⟩ := R.ob
  have cnt := R.count
  have el : ElemsOf (PySem.strKind P w) es.toList := goodS_elems R.good
  have hkey : (PySem.strKind P w).is k (.str k tk) = true := strKind_is P w k tk
  have hsc : (Value.str k tk).scannable = true := rfl
  have small : es.size < scanBound := by unfold scanBound; omega
  have quiet : ∀ (b : Bool) (z : Shared) (Q' : Unit → Shared → Prop), Q' () z → wpAny (model P w) A (match b with | true => rule "set.scan.the-table-gave-way" | false => pure ()) Q' E z :=
    fun b z Q' q => by cases b <;> first | exact wpAny_pure q | exact wpAny_rule q
  unfold setAddHashed setAddHashedIn
  refine wpAny_holding (wpAny_bind (wpAny_setState_of ho hd R.fit ?_))
  dsimp only
  rw [byScan_of hsc small el]
  simp only [↓reduceIte]
  unfold setAddByScan
  refine wpAny_bind (wpAny_bind (wpAny_rule (wpAny_bind (wpAny_setScan_of hkey ho hd R.fit el ?_))))
  cases hfi : List.findIdx? (fun e => (PySem.strKind P w).is k e.2) es.toList with
  | some j =>
    dsimp only
    obtain ⟨hj, pj, _⟩ := List.findIdx?_eq_some_iff_getElem.mp hfi
    have mem : k ∈ xs := by
      rw [← R.eq]
      exact List.mem_map.mpr ⟨es.toList[j], List.getElem_mem hj, (goodS_is (P := P) (R.good _ (List.getElem_mem hj)) k).mp pj⟩
    exact wpAny_pure (wpAny_pure (hQ _ s.heap xs ⟨Heap.SameBut.refl a s.heap, ⟨es, ep, t, R⟩, fun _ => rfl, fun z => absurd mem z⟩))
  | none =>
    dsimp only
    have nm : k ∉ xs := fun z => by
      rw [← R.eq] at z
      obtain ⟨e, he, q⟩ := List.mem_map.mp z
      have c := List.findIdx?_eq_none_iff.mp hfi e he
      rw [(goodS_is (P := P) (R.good e he) k).mpr q] at c
      cases c
    have pm := layNew_perm t es (hashStr w k) (.str k tk)
    have f1 := layNew_fits t es (hashStr w k) (.str k tk)
    have r1 := layNew_ris t es (hashStr w k) (.str k tk) R.ris
    have l1 := layNew_led t es (hashStr w k) (.str k tk)
    generalize layNew t es (hashStr w k) (.str k tk) = Z at pm f1 r1 l1 ⊢
    obtain ⟨es1, t1, dummy, gave⟩ := Z
    dsimp only at pm f1 r1 l1 ⊢
    rw [Array.toList_push] at pm
    have pc : es1.toList.Perm ((hashStr w k, Value.str k tk) :: es.toList) := pm.trans (List.perm_append_singleton _ _)
    have pk : (es1.toList.map eS).Perm (k :: xs) := by
      have z := pc.map eS
      rw [List.map_cons, R.eq] at z
      exact z
    have good : ∀ e ∈ es1.toList, GoodS w e := fun e he => (List.mem_cons.mp (pc.mem_iff.mp he)).elim (fun z => ⟨k, tk, z⟩) (R.good e)
    have nd : (es1.toList.map eS).Nodup := pk.nodup_iff.mpr (List.nodup_cons.mpr ⟨nm, R.nd⟩)
    have few : es1.size < 64 := by
      have z := pc.length_eq
      rw [Array.length_toList, List.length_cons, Array.length_toList] at z
      omega
    have led : w.params.followText "set-order" = true ∨ t1.led = true := R.led.imp id fun z => by rw [l1]; exact z
    have fin : ∀ h' xs', Heap.SameBut a s.heap h' → (∃ es ep t, TabS w h' a xs' es ep t) → xs'.Perm (es1.toList.map eS) → Q true { s with heap := h' } := fun h' xs' sb r p => hQ true h' xs' ⟨sb, r, fun z => absurd z nm, fun _ => p.trans pk⟩
    refine wpAny_bind (quiet _ _ _ ?_)
    split
    · refine wpAny_bind ?_
      rw [hashByValue_scannable 8 hsc]
      refine wpAny_pure (store_strs quiet ho hex hd good nd few ?_ ?_ ?_ fun h' xs' sb r p => wpAny_pure (fin h' xs' sb r p))
      · first | (split <;> first | exact f1 | exact SetTable.fits_plain_off f1) | exact f1
      · first | (split <;> exact r1) | exact r1
      · first | (split <;> exact led) | exact led
    · refine wpAny_bind (wpAny_pure ?_)
      simp only [↓reduceIte]
      exact store_strs quiet ho hex hd good nd few f1 r1 led fun h' xs' sb r p => wpAny_pure (fin h' xs' sb r p)
end
end My

/-! MySet: sets of texts and of tuples of texts in the abstract heap; sorted(a set) -/
namespace My
open PySem PySem.Spec PyProof.Rows L2
/-- a set of the texts xs | of the tuples L (address, texts) stands at a -/
def SetS (w : World) (a : Addr) (xs : List Str) : HO := .ext fun h => ∃ es ep t, TabS w h a xs es ep t
def SetT (P : Program) (w : World) (a : Addr) (L : List (Addr × List Str)) : HO := .ext fun h => ∃ es ep t, Tab (PySem.strKind P w) h a L es ep t
section
variable {P : Program} {w : World} {A : Around} {E : Value → Shared → Prop} {s : Shared} {h h' : Heap} {H : Hp} {a : Addr} {xs : List Str} {L : List (Addr × List Str)} {es : Array (Int × Value)} {ep : Nat} {t : SetTable}
theorem TabS.at_ (R : TabS w h a xs es ep t) (k : ∀ o, h.get? a = some o → h'.get? a = some o) : TabS w h' a xs es ep t := by
  obtain ⟨o, ho, r⟩ := R.ob
  exact ⟨⟨o, k o ho, r⟩, R.good, R.eq, R.nd, R.fit, R.ris, R.led, R.few⟩
theorem Tab.to (R : Tab (PySem.strKind P w) h a L es ep t) (k : ∀ o, h.get? a = some o → h'.get? a = some o) : Tab (PySem.strKind P w) h' a L es ep t := by
  obtain ⟨o, ho, r⟩ := R.ob
  exact ⟨⟨o, k o ho, r⟩, R.rw_, R.tab, R.nd, R.led, R.room, R.few⟩
theorem setS_ok (R : ∃ es ep t, TabS w h a xs es ep t) : ObjOk P w H h a (SetS w a xs) := by
  refine ⟨R, ?_, fun h1 h2 ⟨es, ep, t, q⟩ k => ⟨es, ep, t, q.at_ k⟩⟩
  obtain ⟨_, _, _, q⟩ := R
  obtain ⟨o, ho, _⟩ := q.ob
  exact ⟨o, ho⟩
theorem setT_ok (R : ∃ es ep t, Tab (PySem.strKind P w) h a L es ep t) : ObjOk P w H h a (SetT P w a L) := by
  refine ⟨R, ?_, fun h1 h2 ⟨es, ep, t, q⟩ k => ⟨es, ep, t, q.to k⟩⟩
  obtain ⟨_, _, _, q⟩ := R
  obtain ⟨o, ho, _⟩ := q.ob
  exact ⟨o, ho⟩
theorem setS_at (ok : HOk P w H h) (e : H a = some (SetS w a xs)) : ∃ es ep t, TabS w h a xs es ep t := (ok a _ e).1
theorem setT_at (ok : HOk P w H h) (e : H a = some (SetT P w a L)) : ∃ es ep t, Tab (PySem.strKind P w) h a L es ep t := (ok a _ e).1
theorem tabS_new (ho : h.get? a = some { cls := .type "set", dict := none, data := .set #[] 0 (.fresh 0 0 (!w.params.followText "set-order")) }) : TabS w h a [] #[] 0 (.fresh 0 0 (!w.params.followText "set-order")) where
  ob := ⟨_, ho, ⟨rfl, rfl, rfl⟩, rfl⟩
  good := fun e z => by simp at z
  eq := rfl
  nd := List.nodup_nil
  fit := rfl
  ris := List.Pairwise.nil
  led := by
    show _ ∨ (!w.params.followText "set-order") = true
    cases w.params.followText "set-order" <;> simp
  few := by decide
theorem tabT_new (ho : h.get? a = some { cls := .type "set", dict := none, data := .set #[] 0 (.fresh 0 0 (!w.params.followText "set-order")) }) : Tab (PySem.strKind P w) h a [] #[] 0 (.fresh 0 0 (!w.params.followText "set-order")) where
  ob := ⟨_, ho, ⟨rfl, rfl, rfl⟩, rfl⟩
  rw_ := rfl
  tab := ⟨List.Pairwise.nil, rfl, rfl, .inl rfl, (fun x z => nomatch z), fun i h j z => nomatch z⟩
  nd := List.nodup_nil
  led := by
    show _ ∨ (!w.params.followText "set-order") = true
    cases w.params.followText "set-order" <;> simp
  room := by
    show 0 * 5 < 7 * 3
    decide
  few := by decide

/-! ### sorted(a set) -/
theorem sorted_set_by {ltv : Value → Value → Bool} (O : SrtO.Swo ltv) (hh : A.handled = none) (ha : SetAt s.heap a es ep t) (hf : t.fits es.size = true) (few : es.size < 64) (r : Ris t.place.toList) (hl : w.params.followText "set-order" = true ∨ t.led = true)
    (hS : ∀ (vs : List Value) (z : Shared) (l : Addr), vs.Perm (es.toList.map (·.2)) → (∀ b o, s.heap.get? b = some o → b ≠ l ∧ z.heap.get? b = some o) → z.heap.get? l = some (seqObj "list" vs.toArray 0) → 2 ≤ vs.length → SrtO.SortableO P w A.in1.in1 z l vs ltv) {Q : Value → Shared → Prop}
    (hQ : ∀ z p (out : List Value) (c : Nat), (∀ b o, s.heap.get? b = some o → z.heap.get? b = some o) → z.gens = s.gens → z.os = s.os → s.heap.objs.size ≤ p → z.heap.get? p = some (seqObj "list" out.toArray c) → SrtO.Srtd ltv out → out.Perm (es.toList.map (·.2)) → Q (.ref p) z) :
    wpAny (model P w) A (call (.builtin "sorted") [.ref a]) Q E s := by
  refine Calls.call_function_entry kind_sorted plain_sorted entry_sorted (args_sorted1 _) ?_
  unfold Builtin.«sorted»
  refine wpAny_bind (m := checkCount "sorted" 1 1 _) (wpAny_pure (wpAny_bind (collect_set (A := A.in1) hh ha hf (by unfold scanBound; omega) r hl fun z vs kp hz g1 o1 pm => ?_)))
  have cnt : vs.length = es.size := by rw [pm.length_eq, List.length_map, Array.length_toList]
  refine wpAny_bind (wpAny_newList ?_ (by rw [sizeLine_eq]; omega))
  have at_ : (z.heap.push (seqObj "list" vs.toArray 0)).get? z.heap.objs.size = some (seqObj "list" vs.toArray 0) := Heap.get?_push_size _ rfl
  have keep : ∀ b o, s.heap.get? b = some o → b ≠ z.heap.objs.size ∧ (z.heap.push (seqObj "list" vs.toArray 0)).get? b = some o := fun b o e => ⟨Nat.ne_of_lt (Heap.lt_size (kp b o e)), Heap.get?_push_of_some _ (kp b o e)⟩
  refine wpAny_bind (wpAny_holding (wpAny_call_entry slot_list_sort ⟨_, at_, rfl⟩ entry_list_sort
    (SrtO.list_sort_ord (s := { z with heap := z.heap.push (seqObj "list" vs.toArray 0) }) O at_ (by rw [sizeLine_eq]; omega) (fun h2 => hS vs { z with heap := z.heap.push (seqObj "list" vs.toArray 0) } z.heap.objs.size pm keep at_ h2) fun out hs hb => ⟨_, rfl, ?_⟩) (args_list_sort _)))
  obtain ⟨c, hc⟩ := sortedHeap_at (vs := vs) (out := out.toArray) at_
  refine wpAny_pure ⟨_, rfl, hQ _ z.heap.objs.size out c (fun b o e => ?_) g1 o1 hz hc hs (hb.perm.trans pm)⟩
  have lt := Heap.lt_size (kp b o e)
  show (sortedHeap (z.heap.push (seqObj "list" vs.toArray 0)) z.heap.objs.size vs out.toArray).get? b = some o
  rw [sortedHeap_old (Nat.ne_of_lt lt) (by rw [size_push']; exact Nat.lt_succ_of_lt lt)]
  exact (keep b o e).2
end
def rSortS (w : World) : List V → Hp → VK → Prop := fun vs H Q => ∃ (a : Addr) (ts : List Str), vs = [V.ref a] ∧ H a = some (SetS w a ts) ∧
  ∀ (ys : List Str) (p : Addr), Asc ltS ys → ys.Perm ts → H p = none → Q (.ref p) (upd H p (.lst (ys.map V.str)))
def rSortT (K : PySem.W.Frag) (P : Program) (w : World) : List V → Hp → VK → Prop := fun vs H Q => ∃ (a : Addr) (L : List (Addr × List Str)), vs = [V.ref a] ∧ H a = some (SetT P w a L) ∧ (∀ q ∈ L, SqT K H q.1 (q.2.map V.str) ∧ q.2 ≠ []) ∧
  ∀ (L' : List (Addr × List Str)) (p : Addr), L'.Perm L → Asc ltK (L'.map (·.2)) → H p = none → Q (.ref p) (upd H p (.lst (L'.map fun q => V.ref q.1)))
section
variable {X : Cx}
theorem vals_strs : ∀ {us : List Value}, (∀ u ∈ us, ∃ x t, u = Value.str x t) → Vals (us.map fun u => V.str (sOf u)) us
  | [], _ => .nil
  | u :: us, h => by
    obtain ⟨x, t, rfl⟩ := h u List.mem_cons_self
    exact .cons ⟨t, rfl⟩ (vals_strs fun v m => h v (List.mem_cons_of_mem _ m))
theorem cr_sortS (hc : X.calm = true) : CallR X (.builtin "sorted") (rSortS X.w) := by
  intro pins s σ H vs us Q I r h
  obtain ⟨a, ts, rfl, ha, q⟩ := h
  obtain ⟨u, rfl, ru⟩ := vals1 r
  cases (show u = Value.ref a from ru)
  obtain ⟨es, ep, t, R⟩ := setS_at I.hok ha
  obtain ⟨o, ho, hex, hd⟩ := R.ob
  have cnt := R.count
  have few := R.few
  have texts : ∀ vs : List Value, vs.Perm (es.toList.map (·.2)) → ∀ v ∈ vs, ∃ x t, v = Value.str x t := fun vs pm v hv => by
    obtain ⟨e, he, rfl⟩ := List.mem_map.mp (pm.mem_iff.mp hv)
    obtain ⟨x, tk, rfl⟩ := R.good e he
    exact ⟨x, tk, rfl⟩
  refine sorted_set_by (ltv := fun v u => ltS (sOf v) (sOf u)) ⟨fun x y => tot_str.swo.asym _ _, fun x y z => tot_str.swo.tr _ _ _⟩ (I.ok.hd hc) ⟨o, ho, hex.1, hd⟩ R.fit (by omega) R.ris R.led (fun vs z l pm kp hl h2 => sortable_strs h2 (texts vs pm)) fun z p out c kp hg hos hp hat hs pm => ?_
  have hn : H p = none := I.hok.fresh hp
  have pS : (out.map sOf).Perm ts := by
    have z := pm.map sOf
    rw [List.map_map] at z
    rw [← R.eq]
    exact z
  have len : out.length ≤ sizeLine := by
    have z := pS.length_eq
    rw [List.length_map] at z
    rw [sizeLine_eq]
    omega
  have hz : z.heap.get? p = some { cls := .type "list", data := .seq out.toArray c } := hat
  have str : ∀ v ∈ out, ∃ x t, v = Value.str x t := texts out pm
  have new : ObjOk X.prog X.w (upd H p (.lst ((out.map sOf).map V.str))) z.heap p (.lst ((out.map sOf).map V.str)) := ⟨by rw [List.length_map, List.length_map]; exact len, out, c, by rw [List.map_map]; exact vals_strs str, hz⟩
  have I3 : Inv X pins σ (upd H p (.lst ((out.map sOf).map V.str))) z := I.call' (ch := []) hos (Un.laid kp hp hn) (I.hok.laid kp hp new) (by rw [hg]; exact I.bare) fun _ m => nomatch m
  exact ⟨.ref p, _, I3, rfl, q (out.map sOf) p (asc_of tot_str (List.pairwise_map.mpr hs) (pS.nodup_iff.mpr R.nd)) pS hn⟩
/-- the tuple at b, as the heap has it -/
theorem tup_at {pins : List (Addr × Obj)} {σ : L2.St} {H : Hp} {s : Shared} (I : Inv X pins σ H s) {b : Addr} {k : List Str} (h : SqT X.K H b (k.map V.str)) : TupK s.heap (.ref b) k ∧ IsTupleKey (PySem.strKind X.prog X.w) s.heap k b := by
  obtain ⟨its, rv, ⟨o, ho, hc, n, hd⟩, _⟩ := I.tuple h
  have S := strsAre_of rv
  refine ⟨⟨b, o, _, n, rfl, ho, hc, hd, by simpa using S⟩, o, _, n, ho, hc, hd, ?_⟩
  have go : ∀ {vs : List Value} {ks : List Str}, StrsAre vs ks → PySem.ItemsAre (PySem.strKind X.prog X.w) ks vs := by
    intro vs ks q
    induction q with
    | nil => exact .nil
    | cons y t _ ih => exact .cons (strKind_is X.prog X.w y t) ih
  exact go (by simpa using S)
theorem map_str_inj : ∀ {k m : List Str}, k.map V.str = m.map V.str → k = m
  | [], [], _ => rfl
  | [], _ :: _, h => by simp at h
  | _ :: _, [], h => by simp at h
  | x :: k, y :: m, h => by
    rw [List.map_cons, List.map_cons] at h
    obtain ⟨h1, h2⟩ := List.cons.inj h
    rw [V.str.inj h1, map_str_inj h2]
/-- the texts of the tuple that a value is, by a list of such -/
def kOf (L : List (Addr × List Str)) (v : Value) : List Str := match v with
  | .ref b => ((L.find? fun q => q.1 == b).map (·.2)).getD []
  | _ => []
def pOf (L : List (Addr × List Str)) (v : Value) : Addr × List Str := (match v with | .ref b => b | _ => 0, kOf L v)
theorem kOf_at {L : List (Addr × List Str)} (one : ∀ p ∈ L, ∀ q ∈ L, p.1 = q.1 → p.2 = q.2) {q : Addr × List Str} (hq : q ∈ L) : kOf L (.ref q.1) = q.2 := by
  show ((L.find? fun p => p.1 == q.1).map (·.2)).getD [] = q.2
  cases e : L.find? fun p => p.1 == q.1 with
  | none => exact absurd (List.find?_eq_none.mp e q hq) (by simp)
  | some p =>
    have h1 : p.1 = q.1 := by simpa using List.find?_some e
    exact one p (List.mem_of_find?_eq_some e) q hq h1
theorem cr_sortT (hc : X.calm = true) : CallR X (.builtin "sorted") (rSortT X.K X.prog X.w) := by
  intro pins s σ H vs us Q I r h
  obtain ⟨a, L, rfl, ha, ht, q⟩ := h
  obtain ⟨u, rfl, ru⟩ := vals1 r
  cases (show u = Value.ref a from ru)
  obtain ⟨es, ep, t, R⟩ := setT_at I.hok ha
  obtain ⟨o, ho, hex, hd⟩ := R.ob
  have cnt := R.count
  have few := R.few
  have one : ∀ p ∈ L, ∀ q ∈ L, p.1 = q.1 → p.2 = q.2 := fun p hp q hq e => by
    have h1 := (ht p hp).1
    rw [e] at h1
    exact map_str_inj (I.tuple_inj h1 (ht q hq).1)
  have vals : es.toList.map (·.2) = L.map fun p => Value.ref p.1 := by
    rw [R.rw_]
    unfold rows
    rw [List.map_map]
    rfl
  have each : ∀ vs : List Value, vs.Perm (es.toList.map (·.2)) → ∀ v ∈ vs, ∃ p ∈ L, v = Value.ref p.1 ∧ kOf L v = p.2 := fun vs pm v hv => by
    rw [vals] at pm
    obtain ⟨p, hp, rfl⟩ := List.mem_map.mp (pm.mem_iff.mp hv)
    exact ⟨p, hp, rfl, kOf_at one hp⟩
  refine sorted_set_by (ltv := fun v u => ltK (kOf L v) (kOf L u)) ⟨fun x y => tot_key.swo.asym _ _, fun x y z => tot_key.swo.tr _ _ _⟩ (I.ok.hd hc) ⟨o, ho, hex.1, hd⟩ R.fits (by omega) R.tab.ris R.led (fun vs z l pm kp hl h2 => ?_) fun z p out c kp hg hos hp hat hs pm => ?_
  · refine sortable_tups (by omega) (fun v hv => ?_) fun o' e' c' => ?_
    · obtain ⟨p, hp, rfl, e⟩ := each vs pm v hv
      rw [e]
      exact ⟨(tup_at I (ht p hp).1).1.keeps fun b o e _ => (kp b o e).2, (ht p hp).2⟩
    · rw [hl] at e'
      cases e'
      exact absurd (Value.type.inj c') (by decide)
  · have hn : H p = none := I.hok.fresh hp
    have refs : ∀ v ∈ out, v = Value.ref (pOf L v).1 := fun v hv => by
      obtain ⟨p, _, rfl, _⟩ := each out pm v hv
      rfl
    have back : (es.toList.map (·.2)).map (pOf L) = L := by
      rw [vals, List.map_map]
      refine (List.map_congr_left fun p hp => ?_).trans (List.map_id L)
      exact Prod.ext rfl (kOf_at one hp)
    have pL : (out.map (pOf L)).Perm L := by
      have z := pm.map (pOf L)
      rw [back] at z
      exact z
    have len : out.length ≤ sizeLine := by
      have z := pL.length_eq
      rw [List.length_map] at z
      rw [sizeLine_eq]
      omega
    have asc : Asc ltK ((out.map (pOf L)).map (·.2)) := asc_of tot_key (by
      rw [List.map_map]
      exact List.pairwise_map.mpr hs) ((pL.map (·.2)).nodup_iff.mpr R.nd)
    have rel : ∀ l : List Value, (∀ v ∈ l, v = Value.ref (pOf L v).1) → Vals ((l.map (pOf L)).map fun q => V.ref q.1) l := by
      intro l
      induction l with
      | nil => intro _; exact .nil
      | cons v l ih => intro h; exact .cons (h v List.mem_cons_self) (ih fun u hu => h u (List.mem_cons_of_mem _ hu))
    have hz : z.heap.get? p = some { cls := .type "list", data := .seq out.toArray c } := hat
    have new : ObjOk X.prog X.w (upd H p (.lst ((out.map (pOf L)).map fun q => V.ref q.1))) z.heap p (.lst ((out.map (pOf L)).map fun q => V.ref q.1)) := ⟨by rw [List.length_map, List.length_map]; exact len, out, c, rel out refs, hz⟩
    exact ⟨.ref p, _, I.call' (ch := []) hos (Un.laid kp hp hn) (I.hok.laid kp hp new) (by rw [hg]; exact I.bare) (fun _ m => nomatch m), rfl, q _ p pL asc hn⟩
end
end My

/-! MyFill: set(xs) of a list or a tuple, whatever the items are, by a word of what is in the set -/
namespace My
open PySem PySem.Spec PyProof.Rows L2
abbrev set0 (w : World) : Obj := { cls := .type "set", dict := none, data := .set #[] 0 (.fresh 0 0 (!w.params.followText "set-order")) }
/-- F h c: at a stands a set of the content c; J i c: c is what the first i items give -/
structure Fill (P : Program) (w : World) (A : Around) (h0 : Heap) (a : Addr) (items : Array Value) (C : Type) (F : Heap → C → Prop) (J : Nat → C → Prop) : Prop where
  moves : ∀ h h' c, F h c → (∀ o, h.get? a = some o → h'.get? a = some o) → F h' c
  add : ∀ (A' : Around) (i : Nat) (v : Value) (c : C) (z : Shared) (Q : Bool → Shared → Prop) (E : Value → Shared → Prop), A'.units ≤ A.units + 8 → items[i]? = some v → F z.heap c → J i c → (∀ b o, h0.get? b = some o → z.heap.get? b = some o) →
    (∀ b h' tk c', Heap.SameBut a z.heap h' → z.toks ≤ tk → F h' c' → J (i + 1) c' → Q b { z with heap := h', toks := tk }) → wpAny (model P w) A' (setAdd a v) Q E z
section
variable {P : Program} {w : World} {A B : Around} {E : Value → Shared → Prop} {h0 : Heap} {a : Addr} {items : Array Value} {C : Type} {F : Heap → C → Prop} {J : Nat → C → Prop}
theorem fill_loop (K : Fill P w B h0 a items C F J) (hu : A.units + 1 ≤ B.units + 8) {I : Addr} {fp wr : List Addr} {G : Array GenState → Array GenState → Prop} {Pv : Nat → Value → Prop} {St : Nat → Shared → Prop} {R : Result → Shared → Prop}
    (W : WalksS P w A.in1 I fp wr G items.size Pv St) (hf : a ∉ fp) (hv : ∀ i v, Pv i v → items[i]? = some v) (ha : h0.get? a = none) (hw : ∀ b ∈ wr, h0.get? b = none) :
    ∀ (k i : Nat) (s : Shared) (c : C), items.size - i = k → i ≤ items.size → St i s → (∀ b o, h0.get? b = some o → s.heap.get? b = some o) → F s.heap c → J i c →
      (∀ s' c', Moved (a :: wr) G s s' → F s'.heap c' → J items.size c' → (∀ b o, h0.get? b = some o → s'.heap.get? b = some o) → R (.ok (.ret .none)) s') →
      codeAny (model P w) A (.builtin "set.update.loop" ⟨[.ref a, .ref I], []⟩) R s := by
  have aw : a ∉ wr := fun z => hf (W.sub _ z)
  have up : ∀ b ∈ wr, b ∈ a :: wr := fun b z => List.mem_cons_of_mem _ z
  have kept : ∀ {s s' : Shared}, Moved wr G s s' → (∀ b o, h0.get? b = some o → s.heap.get? b = some o) → ∀ b o, h0.get? b = some o → s'.heap.get? b = some o := fun m k b o e =>
    m.heap b o (fun z => by rw [hw b z] at e; cases e) (k b o e)
  intro k
  induction k with
  | zero =>
    intro i s c hk hi st kp hF hJ hR
    obtain rfl : i = items.size := by omega
    refine codeAny_builtin PyProof.Rows.F.entry_set_update_loop ?_
    rw [Around.under_plainId PyProof.Rows.F.plain_set_update_loop _]
    show wpAny _ A.in1 (pyNext (.ref I) >>= _) _ _ s
    refine wpAny_bind (W.done s _ _ st fun s' m => ?_)
    exact wpAny_pure (hR s' c (m.mono up) (K.moves _ _ _ hF fun o e => m.heap a o aw e) hJ (kept m kp))
  | succ k ih =>
    intro i s c hk hi st kp hF hJ hR
    have lt : i < items.size := by omega
    refine codeAny_builtin PyProof.Rows.F.entry_set_update_loop ?_
    rw [Around.under_plainId PyProof.Rows.F.plain_set_update_loop _]
    show wpAny _ A.in1 (pyNext (.ref I) >>= _) _ _ s
    refine wpAny_bind (W.item i s _ _ lt st fun v s1 pv st1 m => ?_)
    show wpAny _ A.in1 (holding [v] (setAdd a v) >>= _) _ _ s1
    refine wpAny_bind (wpAny_holding (K.add A.in1 i v c s1 _ _ hu (hv i v pv) (K.moves _ _ _ hF fun o e => m.heap a o aw e) hJ (kept m kp) fun b h2 tk c2 sb lk hF2 hJ2 => ?_))
    have kp2 : ∀ b o, h0.get? b = some o → h2.get? b = some o := fun b o e => (sb.2 b (fun z => by rw [z, ha] at e; cases e)).trans (kept m kp b o e)
    refine wpAny_pure ⟨plainId_quiet PyProof.Rows.F.plain_set_update_loop _, ih (i + 1) _ c2 (by omega) lt (W.frame _ s1 _ _ st1 lk fun b hb o e => ?_) kp2 hF2 hJ2 fun s3 c3 m3 hF3 hJ3 kp3 => ?_⟩
    · rw [sb.2 b (fun z => hf (by rw [← z]; exact hb))]
      exact e
    · refine hR s3 c3 (Moved.trans W.gtrans ((m.mono up).then_heap lk fun b o hb e => ?_) m3) hF3 hJ3 kp3
      rw [sb.2 b (fun z => hb (by rw [z]; exact List.mem_cons_self))]
      exact e
set_option maxHeartbeats 4000000 in
/-- set(xs) -/
theorem set_of {s : Shared} {l : Addr} {Q : Value → Shared → Prop} (hh : A.handled = none) (hl : s.heap.IsList l items ∨ s.heap.IsTuple l items) (K : Fill P w A s.heap s.heap.objs.size items C F J) {c0 : C}
    (hF : ∀ h, h.get? s.heap.objs.size = some (set0 w) → F h c0) (hJ : J 0 c0)
    (h : ∀ (h' : Heap) (tk : Nat) (c : C), F h' c → J items.size c → (∀ b o, s.heap.get? b = some o → h'.get? b = some o) → Q (.ref s.heap.objs.size) { s with heap := h', toks := tk }) :
    wpAny (model P w) A (call (.type "set") [.ref l]) Q E s := by
  obtain ⟨c1, tl, hmro⟩ := PySem.F.called_set.mro
  have hmade := PySem.F.called_set.made
  have hsub := PySem.F.called_set.sub
  refine wpAny_call (codeAny_of_tree ?_)
  show wpAny _ _ (callAny (.type "set") _) _ _ _
  refine wpAny_pure ⟨Code.quiet_builtin _ (by decide +kernel), codeAny_builtin PySem.F.entry_type_call ?_⟩
  rw [Around.under_plain (weight_type_call_type "set" [.ref l] []) rfl]
  have h1 := PySem.F.called_set.notType
  have h2 := PySem.F.called_set.canCreate
  have hct := PySem.F.typeCall_set_1 (.ref l)
  repeat (any_goals (first | assumption | wp_step))
  refine codeAny_mono (code_set_led1 (.ref l) (E := E) (Q₁ := fun v z => v = .ref s.heap.objs.size ∧ z = { s with heap := s.heap.push (set0 w) }) ⟨rfl, rfl⟩) fun r z hr => ?_
  cases r with
  | error e => exact hr
  | ok fl =>
    cases fl with
    | ret v =>
      obtain ⟨rfl, rfl⟩ := hr
      have hS : (s.heap.push (set0 w)).get? s.heap.objs.size = some (set0 w) := Heap.get?_push_size _ rfl
      have hT : Shared.TypeIs { s with heap := s.heap.push (set0 w) } (.ref s.heap.objs.size) "set" := ⟨_, hS, rfl⟩
      have hli := PySem.F.called_set.init.lookup
      have hbi := PySem.F.called_set.init.bind (.ref s.heap.objs.size)
      repeat (any_goals (first | assumption | wp_step))
      refine codeAny_mono (codeAny_call_builtin (R := wants (fun r z => r = .none ∧ ∃ h' tk c, z = { s with heap := h', toks := tk } ∧ F h' c ∧ J items.size c ∧ (∀ b o, s.heap.get? b = some o → h'.get? b = some o)) E)
        PySem.F.called_set.init.plain PySem.F.entry_set_init (check_set_init_1 hT ?_)) fun r z hr => ?_
      · have gone : ∀ b, s.heap.objs.size ≤ b → s.heap.get? b = none := fun b hb => by
          cases q : s.heap.get? b with
          | none => rfl
          | some o => exact absurd (Nat.lt_of_lt_of_le (Heap.lt_size q) hb) (Nat.lt_irrefl _)
        have h3 : A.in1.in1.in1.handled = none := by simp [hh]
        have z1 : (s.heap.push (set0 w)).objs.size = s.heap.objs.size + 1 := Heap.size_push ..
        -- behind the iterator was made: the loop, from any iterator that walks
        have run : ∀ (ob : Obj) (Pv : Nat → Value → Prop) (St : Nat → Shared → Prop), l < s.heap.objs.size →
            WalksS P w A.in1.in1.in1 (s.heap.push (set0 w)).objs.size [(s.heap.push (set0 w)).objs.size, l] [(s.heap.push (set0 w)).objs.size] (fun a b => b = a) items.size Pv St → (∀ i v, Pv i v → items[i]? = some v) →
            St 0 { s with heap := (s.heap.push (set0 w)).push ob } →
            ∀ (R : Result → Shared → Prop), (∀ h' tk c, F h' c → J items.size c → (∀ b o, s.heap.get? b = some o → h'.get? b = some o) → R (.ok (.ret .none)) { s with heap := h', toks := tk }) →
            codeAny (model P w) A.in1.in1 (.builtin "set.update.loop" ⟨[.ref s.heap.objs.size, .ref (s.heap.push (set0 w)).objs.size], []⟩) R { s with heap := (s.heap.push (set0 w)).push ob } := by
          intro ob Pv St ll W hv st R hR
          have hget : ((s.heap.push (set0 w)).push ob).get? s.heap.objs.size = some (set0 w) := Heap.get?_push_of_some _ hS
          refine fill_loop K (by show A.units + 1 + 1 + 1 ≤ _; omega) W ?_ hv (gone _ (Nat.le_refl _)) (fun b hb => gone b ?_) (items.size - 0) 0 _ c0 rfl (Nat.zero_le _) st (fun b o e => Heap.get?_push_of_some _ (Heap.get?_push_of_some _ e)) (hF _ hget) hJ fun s' c m hF' hJ' kp => ?_
          · rw [z1]
            simp only [List.mem_cons, List.not_mem_nil, or_false, not_or]
            exact ⟨Nat.ne_of_lt (Nat.lt_succ_self _), Nat.ne_of_gt ll⟩
          · rw [List.mem_singleton.mp hb, z1]
            exact Nat.le_succ _
          · obtain ⟨hp, gn, dr, tk, os⟩ := s'
            have eg := m.gens
            have ed := m.drawn
            have eo := m.os
            dsimp only at eg ed eo
            subst eg ed eo
            exact hR hp tk c hF' hJ' kp
        rcases hl with hl | hl
        · obtain ⟨ol, hol, hcl, nl, hdl⟩ := hl
          obtain ⟨oc, od, oda, osl⟩ := ol
          simp only at hcl hdl
          subst hcl hdl
          have ll := Heap.lt_size hol
          have hne2 : l ≠ (s.heap.push (set0 w)).objs.size := by
            rw [z1]
            exact Nat.ne_of_lt (Nat.lt_succ_of_lt ll)
          have hol' : (s.heap.push (set0 w)).get? l = some { cls := .type "list", dict := od, data := .seq items nl, slots := osl } := Heap.get?_push_of_some _ hol
          have hsls := PySem.F.sub_list_set
          have hslf := PySem.F.sub_list_frozenset
          have hne : (Value.type "list" == Value.type "dict") = false := by decide
          have hl1 : (s.heap.push (set0 w)).IsList l items := ⟨_, hol', rfl, nl, rfl⟩
          unfold Builtin.«set.__init__» noKeywords Builtin.Frozenset.updateFrom
          generalize hPI : pyIter = PI
          wp_walk
          subst hPI
          refine wpAny_pyIter_list hl1 (wpAny_bind (wpAny_runValue ?_))
          refine run _ _ _ ll ((Walks.list h3 _ l hne2 items).toS) (fun i v e => e) ⟨⟨_, Heap.get?_push_size _ rfl, rfl, rfl⟩, hl1.push _⟩ _ fun h' tk c hF' hJ' kp => ?_
          refine wpAny_pure ?_
          exact wpAny_pure ⟨rfl, h', tk, c, rfl, hF', hJ', kp⟩
        · obtain ⟨ol, hol, hcl, nl, hdl⟩ := hl
          obtain ⟨oc, od, oda, osl⟩ := ol
          simp only at hcl hdl
          subst hcl hdl
          have ll := Heap.lt_size hol
          have hne2 : l ≠ (s.heap.push (set0 w)).objs.size := by
            rw [z1]
            exact Nat.ne_of_lt (Nat.lt_succ_of_lt ll)
          have hol' : (s.heap.push (set0 w)).get? l = some { cls := .type "tuple", dict := od, data := .seq items nl, slots := osl } := Heap.get?_push_of_some _ hol
          have hsls := PySem.F.sub_tuple_set
          have hslf := PySem.F.sub_tuple_frozenset
          have hne : (Value.type "tuple" == Value.type "dict") = false := by decide
          have hl1 : (s.heap.push (set0 w)).IsTuple l items := ⟨_, hol', rfl, nl, rfl⟩
          unfold Builtin.«set.__init__» noKeywords Builtin.Frozenset.updateFrom
          generalize hPI : pyIter = PI
          wp_walk
          subst hPI
          refine wpAny_pyIter_tuple hl1 (wpAny_bind (wpAny_runValue ?_))
          refine run _ _ _ ll ((Walks.tuple h3 _ l hne2 items).toS) (fun i v e => e) ⟨⟨_, Heap.get?_push_size _ rfl, rfl, rfl⟩, hl1.push _⟩ _ fun h' tk c hF' hJ' kp => ?_
          refine wpAny_pure ?_
          exact wpAny_pure ⟨rfl, h', tk, c, rfl, hF', hJ', kp⟩
      · cases r with
        | error e => exact hr
        | ok fl2 =>
          cases fl2 with
          | ret r =>
            obtain ⟨rfl, h', tk, c, rfl, hF', hJ', kp⟩ := hr
            repeat (any_goals (first | assumption | wp_step))
            exact h _ _ _ hF' hJ' kp
          | _ => exact hr.elim
    | _ => exact hr.elim
end
end My

/-! MySetOf: set(xs), xs a list or tuple of texts or of tuples of texts; set.add -/
namespace My
open PySem PySem.Spec PyProof.Rows L2
def AddS (xs : List Str) (k : Str) (xs' : List Str) : Prop := (k ∈ xs → xs' = xs) ∧ (k ∉ xs → xs'.Perm (k :: xs))
def AddT (L : List (Addr × List Str)) (b : Addr) (k : List Str) (L' : List (Addr × List Str)) : Prop := (k ∈ L.map (·.2) → L' = L) ∧ (k ∉ L.map (·.2) → L'.Perm ((b, k) :: L))
theorem AddS.mem {xs xs' : List Str} {k : Str} (h : AddS xs k xs') (x : Str) : x ∈ xs' ↔ x = k ∨ x ∈ xs := by
  by_cases c : k ∈ xs
  · rw [h.1 c]
    exact ⟨.inr, fun z => z.elim (fun e => e ▸ c) id⟩
  · rw [(h.2 c).mem_iff]
    exact List.mem_cons
theorem AddS.len {xs xs' : List Str} {k : Str} (h : AddS xs k xs') : xs'.length ≤ xs.length + 1 := by
  by_cases c : k ∈ xs
  · rw [h.1 c]
    omega
  · rw [(h.2 c).length_eq]
    exact Nat.le_refl _
theorem AddT.keys {L L' : List (Addr × List Str)} {b : Addr} {k : List Str} (h : AddT L b k L') (x : List Str) : x ∈ L'.map (·.2) ↔ x = k ∨ x ∈ L.map (·.2) := by
  by_cases c : k ∈ L.map (·.2)
  · rw [h.1 c]
    exact ⟨.inr, fun z => z.elim (fun e => e ▸ c) id⟩
  · rw [((h.2 c).map (·.2)).mem_iff]
    exact List.mem_cons
theorem AddT.sub {L L' : List (Addr × List Str)} {b : Addr} {k : List Str} (h : AddT L b k L') {p : Addr × List Str} (hp : p ∈ L') : p = (b, k) ∨ p ∈ L := by
  by_cases c : k ∈ L.map (·.2)
  · rw [h.1 c] at hp
    exact .inr hp
  · exact List.mem_cons.mp ((h.2 c).mem_iff.mp hp)
theorem AddT.len {L L' : List (Addr × List Str)} {b : Addr} {k : List Str} (h : AddT L b k L') : L'.length ≤ L.length + 1 := by
  by_cases c : k ∈ L.map (·.2)
  · rw [h.1 c]
    omega
  · rw [(h.2 c).length_eq]
    exact Nat.le_refl _
section
variable {P : Program} {w : World} {A : Around} {E : Value → Shared → Prop} {s : Shared} {a : Addr}
theorem setAdd_str {xs : List Str} {es : Array (Int × Value)} {ep : Nat} {t : SetTable} (R : TabS w s.heap a xs es ep t) (room : xs.length + 1 < 64) {k : Str} {tk : Tok} {Q : Bool → Shared → Prop}
    (hQ : ∀ b h' tk xs', s.toks ≤ tk → PutS w s.heap h' a xs k xs' → Q b { s with heap := h', toks := tk }) : wpAny (model P w) A (setAdd a (.str k tk)) Q E s := by
  unfold setAdd
  refine wpAny_holding (wpAny_bind ((PySem.strKind P w).pyHash (strKind_is P w k tk) ?_))
  exact add_str (s := { s with toks := s.toks + 1 }) R room fun b h' xs' p => hQ b h' _ xs' (Nat.le_succ _) p
theorem setAdd_tup {L : List (Addr × List Str)} {es : Array (Int × Value)} {ep : Nat} {t : SetTable} (R : Tab (PySem.strKind P w) s.heap a L es ep t) (tup : ∀ p ∈ L, IsTupleKey (PySem.strKind P w) s.heap p.2 p.1) (room : L.length + 1 < 64) {b : Addr} {k : List Str}
    (hb : IsTupleKey (PySem.strKind P w) s.heap k b) (hu : A.units < cLine) {Q : Bool → Shared → Prop} (hQ : ∀ c h' tk L', s.toks ≤ tk → Put (PySem.strKind P w) s.heap h' a L b k L' → Q c { s with heap := h', toks := tk }) :
    wpAny (model P w) A (setAdd a (.ref b)) Q E s := by
  unfold setAdd
  refine wpAny_holding (wpAny_bind (wpAny_pyHash_tuple hu hb ?_))
  exact add_tab (s := { s with toks := s.toks + (k.length + 1) }) (scan_str P w) R tup hb hu room fun c h' L' p => hQ c h' _ L' (Nat.le_add_right _ _) p
end
/-- set(xs) of texts -/
def rSetOfS (K : PySem.W.Frag) (w : World) : List V → Hp → VK → Prop := fun vs H Q => ∃ (l : Addr) (zs : List Str), vs = [V.ref l] ∧ (SqL K H l (zs.map V.str) ∨ SqT K H l (zs.map V.str)) ∧ zs.length < 63 ∧
  ∀ (a : Addr) (xs : List Str), (∀ x, x ∈ xs ↔ x ∈ zs) → H a = none → Q (.ref a) (upd H a (SetS w a xs))
/-- set(xs) of tuples of texts: ks tells the tuples and their texts -/
def rSetOfT (K : PySem.W.Frag) (P : Program) (w : World) : List V → Hp → VK → Prop := fun vs H Q => ∃ (l : Addr) (ks : List (Addr × List Str)), vs = [V.ref l] ∧ (SqL K H l (ks.map fun p => V.ref p.1) ∨ SqT K H l (ks.map fun p => V.ref p.1)) ∧ ks.length < 63 ∧
  (∀ p ∈ ks, SqT K H p.1 (p.2.map V.str)) ∧
  ∀ (a : Addr) (L : List (Addr × List Str)), (∀ p ∈ L, p ∈ ks) → (∀ k, k ∈ L.map (·.2) ↔ k ∈ ks.map (·.2)) → H a = none → Q (.ref a) (upd H a (SetT P w a L))
section
variable {X : Cx}
theorem seq_at {pins : List (Addr × Obj)} {σ : L2.St} {H : Hp} {s : Shared} (I : Inv X pins σ H s) {l : Addr} {vs : List V} (h : SqL X.K H l vs ∨ SqT X.K H l vs) : ∃ its : List Value, Vals vs its ∧ (s.heap.IsList l its.toArray ∨ s.heap.IsTuple l its.toArray) := by
  rcases h with h | h
  · obtain ⟨its, rv, hl, _⟩ := I.list h
    exact ⟨its, rv, .inl hl.isList⟩
  · obtain ⟨its, rv, ⟨o, ho, hc, n, hd⟩, _⟩ := I.tuple h
    exact ⟨its, rv, .inr ⟨o, ho, hc, n, hd⟩⟩
theorem take_mem {α : Type} {l : List α} {i : Nat} {x : α} (h : l[i]? = some x) (y : α) : y ∈ l.take (i + 1) ↔ y = x ∨ y ∈ l.take i := by
  rw [List.take_add_one, h]
  simp [or_comm]
theorem cr_setS (hc : X.calm = true) : CallR X (.type "set") (rSetOfS X.K X.w) := by
  intro pins s σ H vs us Q I r h
  obtain ⟨l, zs, rfl, hl, few, q⟩ := h
  obtain ⟨u, rfl, ru⟩ := vals1 r
  cases (show u = Value.ref l from ru)
  obtain ⟨its, rv, hl⟩ := seq_at I hl
  have cnt : its.toArray.size = zs.length := by
    have z := rv.length
    rw [List.length_map] at z
    simp [← z]
  refine set_of (C := List Str) (F := fun h xs => ∃ es ep t, TabS X.w h s.heap.objs.size xs es ep t) (J := fun i xs => (∀ x, x ∈ xs ↔ x ∈ zs.take i) ∧ xs.length ≤ i) (I.ok.hd hc) hl ⟨fun h h' c ⟨es, ep, t, R⟩ k => ⟨es, ep, t, R.at_ k⟩, fun A' i v c z Q' E' hu hv ⟨es, ep, t, R⟩ hJ kp hQ => ?_⟩
    (c0 := []) (fun h e => ⟨_, _, _, tabS_new e⟩) ⟨fun x => by simp, Nat.le_refl _⟩ fun h' tk c hF hJ kp => ?_
  · have hv' : its[i]? = some v := by simpa using hv
    have hi : i < zs.length := by
      rw [← cnt]
      exact (Array.getElem?_eq_some_iff.mp hv).1
    obtain ⟨u, hu', ru⟩ := rv.get (i := i) (x := V.str zs[i]) (by rw [List.getElem?_map, List.getElem?_eq_getElem hi]; rfl)
    rw [hv'] at hu'
    cases hu'
    obtain ⟨tk, rfl⟩ := ru
    refine setAdd_str R (by omega) fun b h' tk xs' lk ⟨sb, R', p1, p2⟩ => hQ b h' tk xs' sb lk R' ⟨fun x => ?_, ?_⟩
    · rw [AddS.mem (xs := c) (k := zs[i]) ⟨p1, p2⟩ x, take_mem (List.getElem?_eq_getElem hi), hJ.1 x]
    · exact Nat.le_trans (AddS.len (xs := c) (k := zs[i]) ⟨p1, p2⟩) (Nat.succ_le_succ hJ.2)
  · have hn : H s.heap.objs.size = none := I.hok.fresh (Nat.le_refl _)
    rw [cnt] at hJ
    exact ⟨.ref _, _, I.laid (t' := tk) kp (Nat.le_refl _) (setS_ok hF), rfl, q _ c (fun x => by rw [hJ.1 x, List.take_length]) hn⟩
theorem cr_setT (hc : X.calm = true) (hu : X.A.units + 64 < cLine) : CallR X (.type "set") (rSetOfT X.K X.prog X.w) := by
  intro pins s σ H vs us Q I r h
  obtain ⟨l, ks, rfl, hl, few, hk, q⟩ := h
  obtain ⟨u, rfl, ru⟩ := vals1 r
  cases (show u = Value.ref l from ru)
  obtain ⟨its, rv, hl⟩ := seq_at I hl
  have cnt : its.toArray.size = ks.length := by
    have z := rv.length
    rw [List.length_map] at z
    simp [← z]
  have tup : ∀ p ∈ ks, IsTupleKey (PySem.strKind X.prog X.w) s.heap p.2 p.1 := fun p hp => (tup_at I (hk p hp)).2
  have carry : ∀ {z : Shared} {p : Addr × List Str}, (∀ b o, s.heap.get? b = some o → z.heap.get? b = some o) → IsTupleKey (PySem.strKind X.prog X.w) s.heap p.2 p.1 → IsTupleKey (PySem.strKind X.prog X.w) z.heap p.2 p.1 := fun kp ⟨o, its, n, ho, r⟩ => ⟨o, its, n, kp _ _ ho, r⟩
  refine set_of (C := List (Addr × List Str)) (F := fun h L => ∃ es ep t, Tab (PySem.strKind X.prog X.w) h s.heap.objs.size L es ep t) (J := fun i L => (∀ p ∈ L, p ∈ ks) ∧ (∀ k, k ∈ L.map (·.2) ↔ k ∈ (ks.take i).map (·.2)) ∧ L.length ≤ i) (I.ok.hd hc) hl
    ⟨fun h h' c ⟨es, ep, t, R⟩ k => ⟨es, ep, t, R.to k⟩, fun A' i v c z Q' E' hu' hv ⟨es, ep, t, R⟩ ⟨j1, j2, j3⟩ kp hQ => ?_⟩ (c0 := []) (fun h e => ⟨_, _, _, tabT_new e⟩) ⟨fun p z => (nomatch z), fun k => by simp, Nat.le_refl _⟩ fun h' tk c hF ⟨j1, j2, j3⟩ kp => ?_
  · have hv' : its[i]? = some v := by simpa using hv
    have hi : i < ks.length := by
      rw [← cnt]
      exact (Array.getElem?_eq_some_iff.mp hv).1
    obtain ⟨u, hu2, ru⟩ := rv.get (i := i) (x := V.ref ks[i].1) (by rw [List.getElem?_map, List.getElem?_eq_getElem hi]; rfl)
    rw [hv'] at hu2
    cases hu2
    cases (show v = Value.ref ks[i].1 from ru)
    have mk : ks[i] ∈ ks := List.getElem_mem hi
    refine setAdd_tup R (fun p hp => carry kp (tup p (j1 p hp))) (by omega) (k := ks[i].2) (carry kp (tup _ mk)) (by omega) fun b h' tk L' lk ⟨sb, R', p1, p2⟩ => hQ b h' tk L' sb lk R' ⟨fun p hp => ?_, fun k => ?_, ?_⟩
    · rcases AddT.sub (L := c) ⟨p1, p2⟩ hp with e | e
      · rw [e]
        exact mk
      · exact j1 p e
    · rw [AddT.keys (L := c) (b := ks[i].1) ⟨p1, p2⟩ k, j2 k, List.map_take, List.map_take, take_mem (l := ks.map (·.2)) (x := ks[i].2) (by rw [List.getElem?_map, List.getElem?_eq_getElem hi]; rfl)]
    · exact Nat.le_trans (AddT.len (L := c) (b := ks[i].1) ⟨p1, p2⟩) (Nat.succ_le_succ j3)
  · have hn : H s.heap.objs.size = none := I.hok.fresh (Nat.le_refl _)
    rw [cnt] at j2
    exact ⟨.ref _, _, I.laid (t' := tk) kp (Nat.le_refl _) (setT_ok hF), rfl, q _ c j1 (fun k => by rw [j2 k, List.take_length]) hn⟩
end
end My

/-! MyAdd: set.add of a text | of a tuple of texts, for the comprehensions -/
namespace My
open PySem PySem.Spec PyProof.Rows L2
/-- the empty set at D, of either kind -/
def New0 (P : Program) (w : World) (D : Addr) (o : HO) : Prop := o = SetS w D [] ∨ o = SetT P w D []
def AddO (K : PySem.W.Frag) (P : Program) (w : World) (D : Addr) (y : V) (H : Hp) (N : Hp → Prop) : Prop :=
  (∃ (k : Str) (xs : List Str), y = .str k ∧ H D = some (SetS w D xs) ∧ xs.length + 1 < 64 ∧ ∀ xs', AddS xs k xs' → N (upd H D (SetS w D xs'))) ∨
  (∃ (b : Addr) (k : List Str) (L : List (Addr × List Str)), y = .ref b ∧ SqT K H b (k.map V.str) ∧ H D = some (SetT P w D L) ∧ (∀ p ∈ L, SqT K H p.1 (p.2.map V.str)) ∧ L.length + 1 < 64 ∧ ∀ L', AddT L b k L' → N (upd H D (SetT P w D L')))
section
variable {X : Cx}
theorem set_add_by {P : Program} {w : World} {A : Around} {E : Value → Shared → Prop} {z : Shared} {D : Addr} {u : Value} {Q : Value → Shared → Prop} (hT : z.TypeIs (.ref D) "set") (h : wpAny (model P w) A.in1 (setAdd D u) (fun _ z' => Q .none z') E z) :
    wpAny (model P w) A (call (.builtin "set.add") [.ref D, u]) Q E z := by
  refine wpAny_call_entry F.slot_set_add hT F.entry_set_add ?_ (F.args_set_add_2 _ _)
  unfold Builtin.«set.add» Builtin.Frozenset.oneOther
  simp only [List.isEmpty_nil, bind_assoc]
  unfold Builtin.Frozenset.addrOf
  refine wpAny_bind (wpAny_pure ?_)
  try dsimp only
  refine wpAny_bind (wpAny_pure ?_)
  try dsimp only
  refine wpAny_bind ?_
  refine wpAny_mono h (fun b z' hz => ?_) fun _ _ e => e
  exact wpAny_pure ⟨_, rfl, hz⟩
theorem add_ok {pins : List (Addr × Obj)} {σ : L2.St} {H : Hp} {s : Shared} {E : Value → Shared → Prop} {D : Addr} {y : V} {u : Value} {N : Hp → Prop} {Q : Value → Shared → Prop} (I : Inv X pins σ H s) (hu : X.A.units + 64 < cLine)
    (h : AddO X.K X.prog X.w D y H N) (r : RelV y u) (hQ : ∀ s' H', Inv X pins σ H' s' → N H' → Q .none s') : wpAny (model X.prog X.w) X.A (call (.builtin "set.add") [.ref D, u]) Q E s := by
  rcases h with ⟨k, xs, rfl, hD, few, n⟩ | ⟨b, k, L, rfl, hb, hD, hk, few, n⟩
  · obtain ⟨tk, rfl⟩ := r
    obtain ⟨es, ep, t, R⟩ := setS_at I.hok hD
    obtain ⟨o, ho, hex, _⟩ := R.ob
    refine set_add_by ⟨o, ho, hex.1⟩ (setAdd_str R few fun c h' tk' xs' lk ⟨sb, R', p⟩ => ?_)
    have ex : ∃ u, h'.get? D = some u := by
      obtain ⟨_, _, _, q⟩ := R'
      obtain ⟨o', ho', _⟩ := q.ob
      exact ⟨o', ho'⟩
    exact hQ _ _ (I.write (x := D) (e := D) (t' := tk') (by rw [hD]; trivial) (.inl rfl) (fun c u hc hh => (sb.2 c hc).trans hh) ex (setS_ok R')) (n xs' p)
  · cases (show u = Value.ref b from r)
    obtain ⟨es, ep, t, R⟩ := setT_at I.hok hD
    obtain ⟨o, ho, hex, _⟩ := R.ob
    refine set_add_by ⟨o, ho, hex.1⟩ (setAdd_tup R (fun p hp => (tup_at I (hk p hp)).2) few (tup_at I hb).2 (by show X.A.units + 1 < cLine; omega) fun c h' tk' L' lk ⟨sb, R', p⟩ => ?_)
    have ex : ∃ u, h'.get? D = some u := by
      obtain ⟨_, _, _, q⟩ := R'
      obtain ⟨o', ho', _⟩ := q.ob
      exact ⟨o', ho'⟩
    exact hQ _ _ (I.write (x := D) (e := D) (t' := tk') (by rw [hD]; trivial) (.inl rfl) (fun c u hc hh => (sb.2 c hc).trans hh) ex (setT_ok R')) (n L' p)
end
end My

/-! MyTurns: the loop of a comprehension's block, whatever stands in its innermost place -/
namespace My
open PySem PySem.Spec PyProof.Rows L2
/-- a turn with `inner` in its innermost place -/
def turnOf (p : Pos) (tg : Expr) (ifs : List Expr) (inner : Sem Unit) (c : Code) (it : Value) (env : Env) : Sem Fin := do
  standAt p
  match ← pyNext it with
  | none => pure (.done .next)
  | some v =>
    letOwnedTupleGo tg it v
    assign tg env v
    let mut ok := true
    for c in ifs do
      if ok then ok ← isTrue c env (eval c env)
    if ok then inner
    again c
abbrev testsIn (ifs : List Expr) (env : Env) : Sem Bool := forIn ifs true fun c r => if r = true then do let ok ← isTrue c env (eval c env); pure (ForInStep.yield ok) else pure (ForInStep.yield r)
abbrev No : Value → Shared → Prop := fun _ _ => False
section
variable {P : Program} {w : World} {A : Around} {R : Result → Shared → Prop} {s : Shared}
theorem no_any {α : Type} {t : Sem α} {Q Q' : α → Shared → Prop} {E : Value → Shared → Prop} (h : wpAny (model P w) A t Q No s) (f : ∀ a z, Q a z → Q' a z) : wpAny (model P w) A t Q' E s := wpAny_mono h f fun _ _ z => z.elim
theorem loop_by {e tg : Expr} {k : Nat} {it acc : Value} {env : Env} {p : Pos} {ifs : List Expr} {inner : Sem Unit} (ht : compTurn e k it acc env = turnOf p tg ifs inner (.compLoop e k it acc env) it env)
    (hv : A.under (.compLoop e k it acc env) = A) (hd : (model P w).den (.compLoop e k it acc env) = (compTurn e k it acc env).onRaise fun x => do noteFrame x env; theTreesLotGoes x) (I : Nat → Shared → Prop)
    (turn : ∀ n z, I n z → wpAny (model P w) A (pyNext it) (fun r z1 => match r with
      | none => R (.ok .next) z1
      | some v => wpAny (model P w) A (letOwnedTupleGo tg it v) (fun _ z2 => wpAny (model P w) A (assign tg env v) (fun _ z3 => wpAny (model P w) A (testsIn ifs env) (fun ok z4 =>
          if ok = true then wpAny (model P w) A inner (fun _ z5 => ∃ m, m < n ∧ I m z5) No z4 else ∃ m, m < n ∧ I m z4) No z3) No z2) No z1) No z) (n : Nat) (h : I n s) :
    codeAny (model P w) A (.compLoop e k it acc env) R s := by
  refine codeAny_loop rfl I (fun n z hI => ?_) n h
  rw [hv, hd]
  refine wpAny_noted ?_
  rw [ht]
  unfold turnOf
  refine wpAny_bind (wpAny_standAt (wpAny_bind (no_any (turn n z hI) fun r z1 h1 => ?_)))
  cases r with
  | none => exact wpAny_pure h1
  | some v =>
    refine wpAny_bind (no_any h1 fun _ z2 h2 => wpAny_bind (no_any h2 fun _ z3 h3 => wpAny_bind (no_any h3 fun ok z4 h4 => ?_)))
    cases ok with
    | false => exact wpAny_pure ⟨rfl, h4⟩
    | true => exact wpAny_bind (no_any h4 fun _ z5 h5 => wpAny_pure ⟨rfl, h5⟩)
end
abbrev TIn := L2.St → Hp → (Hp → Prop) → Prop
/-- what stands in the innermost place keeps the slots but those of vs -/
def InnerOk (B : Cx) (vs : List Nat) (inner : Sem Unit) (ti : TIn) : Prop :=
  ∀ (pins : List (Addr × Obj)) (σ : L2.St) (H : Hp) (z : Shared) (N : Hp → Prop), Inv B pins σ H z → ti σ H N →
    wpAny (model B.prog B.w) B.A inner (fun _ z' => ∃ σ' H', Inv B pins σ' H' z' ∧ σ'.length = σ.length ∧ (∀ (j : Nat) (v : V), j ∉ vs → σ[j]? = some (some v) → σ'[j]? = some (some v)) ∧ N H') No z
/-- the turns of a walk, told by the abstract heap alone -/
def Turns (J : It) (g : TG) (tt : TT) (ti : TIn) (vs : List Nat) (σ : L2.St) (W : Nat → Nat → Hp → Prop) (Last : Hp → Prop) : Prop :=
  ∀ i m H, W i m H → (J.stop i H ∧ Last H) ∨ (J.go i H ∧ ∃ Nx : Hp → Prop, (∀ H', Nx H' → ∃ m', m' < m ∧ W (i + 1) m' H') ∧
    ∀ x H', J.yld i H x H' → g x (wipe σ vs) H' fun σ2 H2 => wipe σ2 vs = wipe σ vs ∧ tt σ2 H2 fun b H3 => if b = true then ti σ2 H3 Nx else Nx H3)
theorem block_walk {B : Cx} {tg e : Expr} {J : It} {fp : List Addr} {it : Addr} {tn : Nat → Heap → Prop} {g : TG} {tt : TT} {ti : TIn} {vs : List Nat} {ifs : List Expr} {inner : Sem Unit} {p : Pos} {k m0 : Nat} {acc : Value} {W : Nat → Nat → Hp → Prop} {Last : Hp → Prop}
    {pins : List (Addr × Obj)} {σ : L2.St} {H : Hp} {s : Shared} (hx : B.xe = No) (hc : B.calm = true) (T : Turn B.prog B.w B.K tg J fp it tn) (pg : PG B tg g) (pt : PTs B ifs tt) (pin : InnerOk B vs inner ti)
    (ht : compTurn e k (.ref it) acc B.env = turnOf p tg ifs inner (.compLoop e k (.ref it) acc B.env) (.ref it) B.env)
    (hv : B.A.under (.compLoop e k (.ref it) acc B.env) = B.A) (hd : (model B.prog B.w).den (.compLoop e k (.ref it) acc B.env) = (compTurn e k (.ref it) acc B.env).onRaise fun x => do noteFrame x B.env; theTreesLotGoes x)
    (stat : ∀ {σ' : L2.St} {H' : Hp} {z : Shared}, Inv B pins σ' H' z → (∀ b ∈ fp, H' b = none) → ∀ b ∈ fp, FpOk B pins H' b)
    (I0 : Inv B pins (wipe σ vs) H s) (st0 : tn 0 s.heap) (n0 : ∀ b ∈ fp, H b = none) (w0 : W 0 m0 H) (tu : Turns J g tt ti vs σ W Last) :
    codeAny (model B.prog B.w) B.A (.compLoop e k (.ref it) acc B.env) (fun r z => r = .ok .next ∧ ∃ H', Inv B pins (wipe σ vs) H' z ∧ Last H') s := by
  refine loop_by ht hv hd (fun n z => ∃ i G, Inv B pins (wipe σ vs) G z ∧ tn i z.heap ∧ (∀ b ∈ fp, G b = none) ∧ W i n G) ?_ m0 ⟨0, H, I0, st0, n0, w0⟩
  rintro n z ⟨i, G, IG, st, nf, hw⟩
  rcases tu i n G hw with ⟨stop, fin⟩ | ⟨go, Nx, hNx, step⟩
  · refine no_any (T.done B rfl rfl rfl hc i pins z _ G No IG (stat IG nf) st stop) fun r z1 ⟨hr, I1⟩ => ?_
    rw [hr]
    exact ⟨rfl, G, I1, fin⟩
  · refine no_any (T.item B rfl rfl rfl hc i pins z _ G No IG (stat IG nf) st go) fun r z1 ⟨u, hr, h1⟩ => ?_
    subst hr
    refine no_any h1 fun _ z2 ⟨x, G2, I2, r2, y2, st2, nf2⟩ => ?_
    have run1 := pg.run _ z2 _ G2 x u _ (I2.pinned (stat I2 nf2) (T.obj _ _ st2)) r2 (step x G2 y2)
    rw [hx] at run1
    refine no_any run1 fun _ z3 ⟨σ3, G3, I3, e3, q3⟩ => ?_
    have run2 := pt.run _ z3 σ3 G3 _ I3 q3
    rw [hx] at run2
    refine no_any run2 fun b z4 ⟨G4, I4, q4⟩ => ?_
    have back : ∀ {σ' : L2.St} {G' : Hp} {z' : Shared}, Inv B (pins ++ pinsAt fp z2.heap) σ' G' z' → σ'.length = σ3.length → (∀ (j : Nat) (v : V), j ∉ vs → σ3[j]? = some (some v) → σ'[j]? = some (some v)) → Nx G' →
        ∃ m, m < n ∧ ∃ i G, Inv B pins (wipe σ vs) G z' ∧ tn i z'.heap ∧ (∀ b ∈ fp, G b = none) ∧ W i m G := by
      intro σ' G' z' I' hl hk nx
      obtain ⟨m', hm, w'⟩ := hNx G' nx
      have held : ∀ b ∈ fp, ∀ o, z2.heap.get? b = some o → z'.heap.get? b = some o ∧ G' b = none := fun b hb o eo =>
        have q := I'.pin (b, o) (List.mem_append_right _ (List.mem_append_right _ (mem_pinsAt hb eo)))
        ⟨q.1, q.2.1⟩
      refine ⟨m', hm, i + 1, G', I'.unpinned.weak ?_ (fun j v ev => ?_), T.keep _ _ _ st2 fun b hb o eo => (held b hb o eo).1, fun b hb => ?_, w'⟩
      · rw [hl, ← e3, wipe_length]
      · rw [← e3] at ev
        obtain ⟨e1, e2⟩ := wipe_some ev
        exact hk j v e2 e1
      · obtain ⟨o, eo, _⟩ := T.obj _ _ st2 b hb
        exact (held b hb o eo).2
    cases b with
    | false =>
      rw [if_neg Bool.false_ne_true] at q4 ⊢
      exact back I4 rfl (fun j v _ e => e) q4
    | true =>
      rw [if_pos rfl] at q4 ⊢
      exact no_any (pin _ σ3 G4 z4 Nx I4 q4) fun _ z5 ⟨σ5, G5, I5, l5, k5, n5⟩ => back I5 l5 k5 n5
end My

/-! MyComp: set comprehensions of texts or of tuples of texts, one clause | two -/
namespace My
open PySem PySem.Spec PyProof.Rows L2
def tSet (P : Program) (w : World) (wi : TI) (g : TG) (tt : TT) (ti : Addr → TIn) (vs : List Nat) : TE := fun σ H Q =>
  wi σ H fun J H1 => ∀ D, H1 D = none → ∃ o0, New0 P w D o0 ∧ ∃ (W : Nat → Nat → Hp → Prop) (m0 : Nat), W 0 m0 (upd H1 D o0) ∧ Turns J g tt (ti D) vs σ W fun H' => Q (.ref D) H'
section
variable {X : Cx}
/-- what holds of a block, whatever its context is -/
abbrev InBlk (X : Cx) (scope : Scope) (F : Cx → Prop) : Prop := ∀ (s : Shared) (H : Hp) (C : Addr) (cl : List (Str × Addr)) (fp : List Addr), F (X.blk s H scope (compEnvC scope cl C X.env) fp)
theorem pe_set_of {elt tg iter : Expr} {ifs : List Expr} {rest : List Comprehension} {scope : Scope} {own : List (Str × Nat)} {pos : Pos} {wi : TI} {g : TG} {tt : TT} {ti : Addr → TIn} {inner : Value → Env → Sem Unit} (hc : X.calm = true) (hN : X.N.Nodup)
    (ht : ∀ it acc env, compTurn (.SetComp elt (⟨tg, iter, ifs, 0⟩ :: rest) scope pos) 0 it acc env = turnOf iter.pos tg ifs (inner acc env) (.compLoop (.SetComp elt (⟨tg, iter, ifs, 0⟩ :: rest) scope pos) 0 it acc env) it env)
    (hi : PI X tg iter wi) (ok : BlkOk X.N X.env.scope scope own) (hg : InBlk X scope fun B => PG B tg g) (htt : InBlk X scope fun B => PTs B ifs tt) (hin : InBlk X scope fun B => ∀ D : Addr, InnerOk B (own.map (·.2)) (inner (.ref D) B.env) (ti D))
    (hs : ∀ x, foldedSetIterable iter X.env x = pure x := by intro _; rfl) : PE X (.SetComp elt (⟨tg, iter, ifs, 0⟩ :: rest) scope pos) (tSet X.prog X.w wi g tt ti (own.map (·.2))) := by
  refine ⟨fun pins s σ H Q I h => ?_⟩
  rw [PpSet.eval_SetComp]
  have free : ∀ y ∈ scope.names, y.2 = .free → ∃ c, X.env.cells.lookup y.1 = some c := fun y hy e => I.ok.has _ (by
    rcases ok.free y hy e with k | k
    · exact .inl k
    · exact .inr k)
  refine wpAny_comprehension_free (use := none) rfl hs (closure_ok free) ok.kind (fun y hy e => by rw [ok.uniq y hy, e]) (thn (hi.run pins s σ H _ I h) fun xv z1 h1 => thn h1 fun itv z2 h2 => ?_)
  obtain ⟨it, fp, tn, J, H2, rfl, I2, T, st2, f2, q⟩ := h2
  refine PpSet.newSet_ok (newEnv_comp ?_)
  have hDn : H2 z2.heap.objs.size = none := I2.hok.fresh (Nat.le_refl _)
  obtain ⟨o0, hnew, W, m0, w0, tu⟩ := q _ hDn
  generalize hz3 : ({ z2 with heap := z2.heap.push { cls := .type "set", dict := none, data := .set #[] 0 (.fresh 0 0 (!X.w.params.followText "set-order")) } } : Shared) = z3
  have e3 : z3.heap = z2.heap.push (set0 X.w) := by rw [← hz3]
  have at3 : z3.heap.get? z2.heap.objs.size = some (set0 X.w) := by
    rw [e3]
    exact Heap.get?_push_size _ rfl
  have new : ObjOk X.prog X.w (upd H2 z2.heap.objs.size o0) z3.heap z2.heap.objs.size o0 := by
    rcases hnew with rfl | rfl
    · exact setS_ok ⟨_, _, _, tabS_new at3⟩
    · exact setT_ok ⟨_, _, _, tabT_new at3⟩
  have I3 : Inv X pins σ (upd H2 z2.heap.objs.size o0) z3 := by
    rw [← hz3] at new ⊢
    exact I2.laid (t' := z2.toks) (fun b o e => Heap.get?_push_of_some _ e) (Nat.le_refl _) new
  have f3 : ∀ b ∈ fp, FpOk X pins (upd H2 z2.heap.objs.size o0) b ∧ b < z3.heap.objs.size := fun b hb => by
    obtain ⟨o, eo, _⟩ := T.obj _ _ st2 b hb
    have lt := Heap.lt_size eo
    refine ⟨⟨?_, (f2 b hb).2⟩, ?_⟩
    · rw [upd_ne (Nat.ne_of_lt lt)]
      exact (f2 b hb).1
    · rw [e3, Heap.size_push]
      exact Nat.lt_succ_of_lt lt
  generalize z2.heap.objs.size = D at *
  have I4 := block_start I3 ok hN f3
  show codeAny _ _ (.compStart (.SetComp elt (⟨tg, iter, ifs, 0⟩ :: rest) scope pos) 0 (.ref it) (.ref D) (compEnvC scope (cellsFrom (z3.heap.objs.size + 1) scope.names (cloFrom X.env.cells scope.names [])) z3.heap.objs.size X.env)) (compPost (model X.prog X.w) X.A X.xe none (EP X pins σ Q) (.ref D) z3.heap.objs.size) { z3 with heap := pushCells (z3.heap.push { cls := .type "dict", data := .dict #[] }) scope.names }
  have qg := hg z3 (upd H2 D o0) z3.heap.objs.size (cellsFrom (z3.heap.objs.size + 1) scope.names (cloFrom X.env.cells scope.names [])) fp
  have qt := htt z3 (upd H2 D o0) z3.heap.objs.size (cellsFrom (z3.heap.objs.size + 1) scope.names (cloFrom X.env.cells scope.names [])) fp
  have qi := hin z3 (upd H2 D o0) z3.heap.objs.size (cellsFrom (z3.heap.objs.size + 1) scope.names (cloFrom X.env.cells scope.names [])) fp D
  dsimp only at qi
  generalize hce : compEnvC scope (cellsFrom (z3.heap.objs.size + 1) scope.names (cloFrom X.env.cells scope.names [])) z3.heap.objs.size X.env = ce at I4 qg qt qi ⊢
  have cL : ce.locals = z3.heap.objs.size := by
    rw [← hce]
    rfl
  generalize hz4 : ({ z3 with heap := pushCells (z3.heap.push { cls := .type "dict", data := .dict #[] }) scope.names } : Shared) = z4 at I4 ⊢
  have st4 : tn 0 z4.heap := T.keep _ _ _ st2 fun b _ o e => by
    rw [← hz4]
    refine pushCells_keeps _ _ _ _ (Heap.get?_push_of_some _ ?_)
    rw [e3]
    exact Heap.get?_push_of_some _ e
  have walk := block_walk (B := X.blk z3 (upd H2 D o0) scope ce fp) (k := 0) (acc := .ref D) rfl hc T qg qt qi (ht _ _ _) rfl rfl
    (fun {σ' H' z} I' hn b hb => ⟨hn b hb, (I'.ok.exf b hb).1, I'.ok.exfs b hb, .inl hb, fun x c e => (I'.ok.exf b hb).2 x c e, fun p hp => absurd (show p ∈ ([] : List (Addr × Obj)) ++ [] from hp) (by simp)⟩) I4 st4 (fun b hb => (f3 b hb).1.1) w0 tu
  have loop : codeAny (model X.prog X.w) X.A (.compLoop (.SetComp elt (⟨tg, iter, ifs, 0⟩ :: rest) scope pos) 0 (.ref it) (.ref D) ce) (compPost (model X.prog X.w) X.A X.xe none (EP X pins σ Q) (.ref D) z3.heap.objs.size) z4 := by
    refine codeAny_mono walk fun r z ⟨hr, G, IG, qG⟩ => ?_
    rw [hr]
    have IX : Inv X pins σ G z := I3.call' (ch := fp) IG.os IG.base IG.hok IG.bare fun b hb => ⟨(f3 b hb).1.2.2.2.1, (f3 b hb).1.2.1, (f3 b hb).1.2.2.2.2.1, (f3 b hb).1.2.2.2.2.2⟩
    have nC : G z3.heap.objs.size = none := by
      rw [← cL]
      exact IG.free
    obtain ⟨m, hn, _⟩ := IG.loc
    have hn : z.heap.Ns ce.locals m := hn
    rw [cL] at hn
    obtain ⟨k0, k1, k2, k3, k4, k5⟩ := I3.fpOk (Nat.le_refl _) nC
    exact ⟨m, hn, fun h' sb => ⟨.ref D, G, IX.turned (t' := z.toks) (fun b o hb e => (sb.2 b hb).trans e) k0 k1 k3 k4 k5, rfl, qG⟩⟩
  exact PpSet.codeAny_compStart_set loop (T.self X.A 0 _ _ _ st4 loop)
end
end My

/-! MyComp2: the innermost places -/
namespace My
open PySem PySem.Spec PyProof.Rows L2
section
variable {X : Cx}
def inAdd (elt : Expr) (acc : Value) (env : Env) : Sem Unit := do
  let v ← eval elt env
  standAt elt.pos
  let _ ← call (.builtin "set.add") [acc, v]
def tiAdd (K : PySem.W.Frag) (P : Program) (w : World) (te : TE) (D : Addr) : TIn := fun σ H N => te σ H fun y H4 => AddO K P w D y H4 N
theorem in_add {B : Cx} {elt : Expr} {te : TE} {D : Addr} {vs : List Nat} (hx : B.xe = No) (hu : B.A.units + 64 < cLine) (he : PE B elt te) : InnerOk B vs (inAdd elt (.ref D) B.env) (tiAdd B.K B.prog B.w te D) := by
  intro pins σ H z N I h
  unfold inAdd
  have run1 := he.run pins z σ H _ I h
  rw [hx] at run1
  refine wpAny_bind (no_any run1 fun u z1 ⟨y, H1, I1, r1, q1⟩ => wpAny_bind (wpAny_standAt ?_))
  exact wpAny_bind (add_ok I1 hu q1 r1 fun z2 H2 I2 n2 => wpAny_pure ⟨σ, H2, I2, rfl, fun _ _ _ e => e, n2⟩)
/-- {elt for tg in iter if ..} -/
theorem pe_sq {elt tg iter : Expr} {ifs : List Expr} {scope : Scope} {own : List (Str × Nat)} {pos : Pos} {wi : TI} {g : TG} {tt : TT} {te : TE} (hc : X.calm = true) (hN : X.N.Nodup) (hu : X.A.units + 64 < cLine)
    (hi : PI X tg iter wi) (ok : BlkOk X.N X.env.scope scope own) (hg : ∀ (s : Shared) (H : Hp) (C : Addr) (cl : List (Str × Addr)) (fp : List Addr), PG (X.blk s H scope (compEnvC scope cl C X.env) fp) tg g) (htt : ∀ (s : Shared) (H : Hp) (C : Addr) (cl : List (Str × Addr)) (fp : List Addr), PTs (X.blk s H scope (compEnvC scope cl C X.env) fp) ifs tt) (he : ∀ (s : Shared) (H : Hp) (C : Addr) (cl : List (Str × Addr)) (fp : List Addr), PE (X.blk s H scope (compEnvC scope cl C X.env) fp) elt te)
    (hs : ∀ x, foldedSetIterable iter X.env x = pure x := by intro _; rfl) : PE X (.SetComp elt [⟨tg, iter, ifs, 0⟩] scope pos) (tSet X.prog X.w wi g tt (tiAdd X.K X.prog X.w te) (own.map (·.2))) :=
  pe_set_of (inner := inAdd elt) hc hN (fun it acc env => rfl) hi ok hg htt (fun s H C cl fp D => in_add rfl hu (he s H C cl fp)) hs
def inTwo (elt t0 i0 t1 i1 : Expr) (ifs0 ifs1 : List Expr) (scope : Scope) (pos : Pos) (acc : Value) (env : Env) : Sem Unit := do
  let x ← eval i1 env
  standAt i1.pos
  let x ← foldedSetIterable i1 env x
  let _ ← runOwn (.compStart (.SetComp elt [⟨t0, i0, ifs0, 0⟩, ⟨t1, i1, ifs1, 0⟩] scope pos) 1 (← holding [x] (pyIter x)) acc env) env
def tiTwo (wi1 : TI) (g1 : TG) (tt1 : TT) (ti1 : Addr → TIn) (vs1 : List Nat) (D : Addr) : TIn := fun σ H N =>
  wi1 σ H fun J1 H4 => ∃ (W1 : Nat → Nat → Hp → Prop) (m1 : Nat), W1 0 m1 H4 ∧ Turns J1 g1 tt1 (ti1 D) vs1 σ W1 N
theorem turn_two (elt t0 i0 t1 i1 : Expr) (ifs0 ifs1 : List Expr) (scope : Scope) (pos : Pos) (it acc : Value) (env : Env) :
    compTurn (.SetComp elt [⟨t0, i0, ifs0, 0⟩, ⟨t1, i1, ifs1, 0⟩] scope pos) 0 it acc env = turnOf i0.pos t0 ifs0 (inTwo elt t0 i0 t1 i1 ifs0 ifs1 scope pos acc env) (.compLoop (.SetComp elt [⟨t0, i0, ifs0, 0⟩, ⟨t1, i1, ifs1, 0⟩] scope pos) 0 it acc env) it env := by
  unfold turnOf inTwo
  simp only [bind_assoc]
  rfl
theorem turn_two1 (elt t0 i0 t1 i1 : Expr) (ifs0 ifs1 : List Expr) (scope : Scope) (pos : Pos) (it acc : Value) (env : Env) :
    compTurn (.SetComp elt [⟨t0, i0, ifs0, 0⟩, ⟨t1, i1, ifs1, 0⟩] scope pos) 1 it acc env = turnOf i1.pos t1 ifs1 (inAdd elt acc env) (.compLoop (.SetComp elt [⟨t0, i0, ifs0, 0⟩, ⟨t1, i1, ifs1, 0⟩] scope pos) 1 it acc env) it env := rfl
theorem start_two {P : Program} {w : World} {A : Around} {R : Result → Shared → Prop} {s : Shared} {elt t0 i0 t1 i1 : Expr} {ifs0 ifs1 : List Expr} {scope : Scope} {pos : Pos} {it acc : Value} {env : Env}
    (h : codeAny (model P w) A (.compLoop (.SetComp elt [⟨t0, i0, ifs0, 0⟩, ⟨t1, i1, ifs1, 0⟩] scope pos) 1 it acc env) R s)
    (again : ∀ E, wpAny (model P w) A (pyIter it) (fun it' z => codeAny (model P w) A (.compLoop (.SetComp elt [⟨t0, i0, ifs0, 0⟩, ⟨t1, i1, ifs1, 0⟩] scope pos) 1 it' acc env) R z) E s) :
    codeAny (model P w) A (.compStart (.SetComp elt [⟨t0, i0, ifs0, 0⟩, ⟨t1, i1, ifs1, 0⟩] scope pos) 1 it acc env) R s := by
  refine codeAny_of_tree ?_
  show wpAny _ _ ((compStart (.SetComp elt [⟨t0, i0, ifs0, 0⟩, ⟨t1, i1, ifs1, 0⟩] scope pos) 1 it acc env).onRaise (fun x => do noteFrame x env; standAt theWindowsPlace)) _ _ s
  refine wpAny_notedAt ?_
  unfold compStart
  show wpAny _ _ (ask >>= _) _ _ s
  refine wpAny_bind (wpAny_askSetting (wpAny_ite ?_))
  split
  · first
      | exact wpAny_pure (And.intro rfl h)
      | exact wpAny_bind (wpAny_pure (wpAny_pure (And.intro rfl h)))
  · refine wpAny_bind (wpAny_rule ?_)
    first
      | exact wpAny_bind (wpAny_standAt (wpAny_bind (wpAny_mono (again _) (fun _ _ q => wpAny_pure (And.intro rfl q)) fun _ _ e => e)))
      | (show wpAny _ _ (standAt i1.pos >>= _) _ _ s
         exact wpAny_bind (wpAny_standAt (wpAny_bind (wpAny_mono (again _) (fun _ _ q => wpAny_pure (And.intro rfl q)) fun _ _ e => e))))
theorem in_two {B : Cx} {elt t0 i0 t1 i1 : Expr} {ifs0 ifs1 : List Expr} {scope : Scope} {pos : Pos} {te : TE} {D : Addr} {vs vs1 : List Nat} {wi1 : TI} {g1 : TG} {tt1 : TT} (hx : B.xe = No) (hc : B.calm = true) (hu : B.A.units + 64 < cLine) (hv : ∀ i ∈ vs1, i ∈ vs)
    (hi1 : PI B t1 i1 wi1) (hg1 : PG B t1 g1) (ht1 : PTs B ifs1 tt1) (he : PE B elt te) (hs1 : ∀ env x, foldedSetIterable i1 env x = pure x) :
    InnerOk B vs (inTwo elt t0 i0 t1 i1 ifs0 ifs1 scope pos (.ref D) B.env) (tiTwo wi1 g1 tt1 (tiAdd B.K B.prog B.w te) vs1 D) := by
  intro pins σ H z N I h
  unfold inTwo
  have run1 := hi1.run pins z σ H _ I h
  rw [hx] at run1
  refine wpAny_bind (no_any run1 fun u z1 h1 => wpAny_bind (wpAny_standAt (wpAny_bind (wpAny_of_eq (hs1 B.env u) (wpAny_bind (wpAny_holding (no_any h1 fun itv z2 h2 => ?_)))))))
  obtain ⟨it, fp, tn, J, H2, rfl, I2, T, st2, f2, W1, m1, w1, tu⟩ := h2
  refine wpAny_bind (wpAny_runOwn ?_ (by intro x; cases x))
  rw [Around.mark_none]
  have walk := block_walk (B := B) (k := 1) (acc := .ref D) (vs := vs1) (e := .SetComp elt [⟨t0, i0, ifs0, 0⟩, ⟨t1, i1, ifs1, 0⟩] scope pos) hx hc T hg1 ht1 (in_add hx hu he) (turn_two1 _ _ _ _ _ _ _ _ _ _ _ _) rfl rfl
    (fun {σ' H' z'} _ hn b hb => ⟨hn b hb, (f2 b hb).2⟩) (I2.weak (wipe_length σ vs1) fun j v e => (wipe_some e).1) st2 (fun b hb => (f2 b hb).1) w1 tu
  have walk' := codeAny_mono walk (R' := fun r z' => match r with
    | .ok f => wpAny (model B.prog B.w) B.A (pure () : Sem Unit) (fun _ z' => ∃ σ' H', Inv B pins σ' H' z' ∧ σ'.length = σ.length ∧ (∀ (j : Nat) (v : V), j ∉ vs → σ[j]? = some (some v) → σ'[j]? = some (some v)) ∧ N H') No z'
    | .error e => cameBackBy (model B.prog B.w) B.A B.env No e z') fun r z3 ⟨hr, G, IG, nG⟩ => by
      rw [hr]
      exact wpAny_pure ⟨_, G, IG, wipe_length σ vs1, fun j v hj e => by rw [wipe_out fun m => hj (hv j m)]; exact e, nG⟩
  exact start_two walk' fun E => T.self B.A 0 _ _ _ st2 walk'
/-- {elt for t0 in i0 if .. for t1 in i1 if ..} -/
theorem pe_sq2 {elt t0 i0 t1 i1 : Expr} {ifs0 ifs1 : List Expr} {scope : Scope} {own : List (Str × Nat)} {vs1 : List Nat} {pos : Pos} {wi wi1 : TI} {g g1 : TG} {tt tt1 : TT} {te : TE} (hc : X.calm = true) (hN : X.N.Nodup) (hu : X.A.units + 64 < cLine)
    (hi : PI X t0 i0 wi) (ok : BlkOk X.N X.env.scope scope own) (hv : ∀ i ∈ vs1, i ∈ own.map (·.2)) (hg : ∀ (s : Shared) (H : Hp) (C : Addr) (cl : List (Str × Addr)) (fp : List Addr), PG (X.blk s H scope (compEnvC scope cl C X.env) fp) t0 g) (ht : ∀ (s : Shared) (H : Hp) (C : Addr) (cl : List (Str × Addr)) (fp : List Addr), PTs (X.blk s H scope (compEnvC scope cl C X.env) fp) ifs0 tt)
    (hi1 : ∀ (s : Shared) (H : Hp) (C : Addr) (cl : List (Str × Addr)) (fp : List Addr), PI (X.blk s H scope (compEnvC scope cl C X.env) fp) t1 i1 wi1) (hg1 : ∀ (s : Shared) (H : Hp) (C : Addr) (cl : List (Str × Addr)) (fp : List Addr), PG (X.blk s H scope (compEnvC scope cl C X.env) fp) t1 g1) (ht1 : ∀ (s : Shared) (H : Hp) (C : Addr) (cl : List (Str × Addr)) (fp : List Addr), PTs (X.blk s H scope (compEnvC scope cl C X.env) fp) ifs1 tt1) (he : ∀ (s : Shared) (H : Hp) (C : Addr) (cl : List (Str × Addr)) (fp : List Addr), PE (X.blk s H scope (compEnvC scope cl C X.env) fp) elt te)
    (hs : ∀ x, foldedSetIterable i0 X.env x = pure x := by intro _; rfl) (hs1 : ∀ env x, foldedSetIterable i1 env x = pure x := by intro _ _; rfl) :
    PE X (.SetComp elt [⟨t0, i0, ifs0, 0⟩, ⟨t1, i1, ifs1, 0⟩] scope pos) (tSet X.prog X.w wi g tt (tiTwo wi1 g1 tt1 (tiAdd X.K X.prog X.w te) vs1) (own.map (·.2))) :=
  pe_set_of (inner := inTwo elt t0 i0 t1 i1 ifs0 ifs1 scope pos) hc hN (fun it acc env => turn_two _ _ _ _ _ _ _ _ _ _ _ _) hi ok hg ht
    (fun s H C cl fp D => in_two rfl hc hu hv (hi1 s H C cl fp) (hg1 s H C cl fp) (ht1 s H C cl fp) (he s H C cl fp) hs1) hs
end
end My

/-! MyPairs: dict(a tuple of pairs); tuples whose object is known -/
namespace My
open PySem PySem.Spec PyProof.Rows L2
/-- a tuple of ys at a, its own object known -/
def KTup (a : Addr) (ys : List V) (o : HO) : Prop := ∃ (its : List Value) (n : Nat), o = .frz { cls := .type "tuple", data := .seq its.toArray n } (.tup ys)
theorem KTup.rd {K : PySem.W.Frag} {H : Hp} {a : Addr} {ys : List V} {o : HO} (h : KTup a ys o) (e : H a = some o) : SqT K H a ys := by
  obtain ⟨its, n, rfl⟩ := h
  exact .inl (.inr ⟨_, e⟩)
section
variable {X : Cx}
theorem ktup_new {P : Program} {w : World} {H : Hp} {h : Heap} {ys : List V} {its : List Value} {a : Addr} {n : Nat} (hz : ys.length ≤ sizeLine) (r : Vals ys its) (e : h.get? a = some { cls := .type "tuple", data := .seq its.toArray n }) :
    ObjOk P w H h a (.frz { cls := .type "tuple", data := .seq its.toArray n } (.tup ys)) := ⟨e, hz, its, r, ⟨_, e, rfl, _, rfl⟩⟩
/-- tuple(xs) of a list: a new one, known -/
def rTupK (K : PySem.W.Frag) : List V → Hp → VK → Prop := fun xs H Q => ∃ p ys, xs = [.ref p] ∧ SqL K H p ys ∧ ∀ (l : Addr) (o : HO), H l = none → KTup l ys o → Q (.ref l) (upd H l o)
theorem call_tupK : CallR X (.type "tuple") (rTupK X.K) := by
  intro pins s σ H xs us Q I r h
  obtain ⟨p, ys, rfl, hq, q⟩ := h
  obtain ⟨u, rfl, rx⟩ := vals1 r
  cases (show u = Value.ref p from rx)
  obtain ⟨its, r', pl, hz⟩ := I.list hq
  have hl := r'.length
  refine call_tuple_list pl.isList (fun h' kp => ?_) (by simp only [List.size_toArray]; omega)
  have I1 : Inv X pins σ H { s with heap := h' } := I.kept (t' := s.toks) kp
  exact ⟨.ref h'.objs.size, _, I1.laid (t' := s.toks) (fun b o e => Heap.get?_push_of_some _ e) (Nat.le_refl _) (ktup_new hz r' (Heap.get?_push_size _ rfl)), rfl, q _ _ (I1.hok.fresh (Nat.le_refl _)) ⟨_, _, rfl⟩⟩
/-- (), known -/
def tTup0 : TE := fun _ H Q => ∀ (p : Addr) (o : HO), H p = none → KTup p [] o → Q (.ref p) (upd H p o)
theorem pe_tup0 {k : Nat} {pos : Pos} : PE X (.Tuple [] k pos) tTup0 := by
  refine ⟨fun pins s σ H Q I hq => ?_⟩
  refine wpAny_Tuple_spliced (thn (pa_nil.run pos pins s σ H (fun vs H' => vs = [] ∧ H' = H) I ⟨rfl, rfl⟩) fun us s1 ⟨xs, H1, I1, r, e1, e2⟩ => ?_)
  subst e1 e2
  cases r
  refine ⟨by show 0 ≤ sizeLine; decide, ?_⟩
  exact ⟨.ref s1.heap.objs.size, _, I1.laid (t' := s1.toks) (fun b u e => Heap.get?_push_of_some _ e) (Nat.le_refl _) (ktup_new (Nat.zero_le _) .nil (Heap.get?_push_size _ rfl)), rfl, hq _ _ (I1.hok.fresh (Nat.le_refl _)) ⟨_, _, rfl⟩⟩
theorem pairs_vals {pins : List (Addr × Obj)} {σ : L2.St} {H : Hp} {s : Shared} (I : Inv X pins σ H s) : ∀ {ps : List Addr} {kvs : List (Key × V)}, Paired (fun p kv => SqT X.K H p [kV kv.1, kv.2]) ps kvs →
    ∃ (prs : List (Key × Value)) (pv : List (Value × Value)), KV kvs prs ∧ pv.length = ps.length ∧ prs.length = ps.length ∧
      ∀ (j : Nat) (k v : Value), pv[j]? = some (k, v) → (∃ b, ps[j]? = some b ∧ IsTup s.heap b #[k, v]) ∧ ∃ q, prs[j]? = some (q, v) ∧ keyIs q k = true
  | _, _, .nil => ⟨[], [], .nil, rfl, rfl, fun j k v e => by simp at e⟩
  | _, _, .cons (a := p) (b := kv) h t => by
    obtain ⟨prs, pv, r, l1, l2, hp⟩ := pairs_vals I t
    obtain ⟨its, rv, ht, _⟩ := I.tuple h
    obtain ⟨u, y, rfl, ru, ry⟩ := vals2 rv
    refine ⟨(kv.1, y) :: prs, (u, y) :: pv, .cons ⟨rfl, ry⟩ r, congrArg Nat.succ l1, congrArg Nat.succ l2, fun j k v e => ?_⟩
    cases j with
    | zero =>
      obtain ⟨rfl, rfl⟩ := Prod.mk.inj (Option.some.inj e)
      exact ⟨⟨p, rfl, ht⟩, kv.1, rfl, kV_is (P := X.prog) (w := X.w) ru⟩
    | succ j =>
      obtain ⟨⟨b, e1, e2⟩, q, e3, e4⟩ := hp j k v e
      exact ⟨⟨b, e1, e2⟩, q, e3, e4⟩
/-- dict(xs) of a tuple of pairs -/
def rDictT (K : PySem.W.Frag) : List V → Hp → VK → Prop := fun xs H Q => ∃ (a : Addr) (ps : List Addr) (kvs : List (Key × V)) (o : HO), xs = [.ref a] ∧ H a = some o ∧ KTup a (ps.map V.ref) o ∧ Paired (fun p kv => SqT K H p [kV kv.1, kv.2]) ps kvs ∧
  ∀ p, H p = none → Q (.ref p) (upd H p (.dK (mergeK [] kvs)))
theorem call_dictT (hc : X.calm = true) : CallR X (.type "dict") (rDictT X.K) := by
  intro pins s σ H xs us Q I r h
  obtain ⟨a, ps, kvs, o, rfl, ha, hk, hp, q⟩ := h
  obtain ⟨u, rfl, rx⟩ := vals1 r
  cases (show u = Value.ref a from rx)
  obtain ⟨its, n, rfl⟩ := hk
  obtain ⟨hob, hz, its', r', it⟩ := I.hok a _ ha
  obtain ⟨o', ho', hc', n', hd'⟩ := it
  rw [hob] at ho'
  cases ho'
  have ei : its = its' := by
    have z := congrArg (fun d : Data => match d with | .seq xs _ => xs.toList | _ => []) hd'
    simpa using z
  subst ei
  have er := refs_at r'
  obtain ⟨prs, pv, rel, l1, l2, hpv⟩ := pairs_vals I hp
  have cnt : its.length = ps.length := by rw [er, List.length_map]
  have hz' : ps.length ≤ sizeLine := by rw [← List.length_map (f := V.ref)]; exact hz
  refine PySem.call_dict_pairs (knd := mixKind X.prog X.w) (kvs := prs) (PySem.PairArg.tuple a its.toArray (fun j => ps.getD j 0) pv) (I.ok.hd hc) ⟨⟨_, _, hob, rfl, rfl, rfl⟩, ⟨by rw [List.size_toArray, cnt, l1], fun j k v e => ?_⟩⟩ ⟨by rw [l1, l2], fun i k v e => ?_⟩ (by rw [l1]; exact hz') fun h' tk hd kp => ?_
  · obtain ⟨⟨b, e1, e2⟩, _⟩ := hpv j k v e
    have eb : ps.getD j 0 = b := by rw [List.getD_eq_getElem?_getD, e1]; rfl
    refine ⟨?_, .inl ?_⟩
    · show its.toArray[j]? = some (Value.ref (ps.getD j 0))
      rw [eb, er]
      simp [e1]
    · show s.heap.IsTuple (ps.getD j 0) #[k, v]
      rw [eb]
      exact e2
  · obtain ⟨_, qk, e3, e4⟩ := hpv i k v e
    exact ⟨qk, e3, e4⟩
  · have hm : (s.heap.objs.size == sysModules) = false := beq_eq_false_iff_ne.mpr (Nat.ne_of_gt I.big)
    have hlen : (mergeK [] kvs).length ≤ sizeLine := by
      refine Nat.le_trans (length_mergeK kvs []) ?_
      rw [List.length_nil, Nat.zero_add, rel.length, l2]
      exact hz'
    exact ⟨.ref s.heap.objs.size, _, I.laid (t' := tk) (fun b o e => kp b o (fun z => nomatch z) e) (Nat.le_refl _) (show ObjOk X.prog X.w _ _ _ (.dK (mergeK [] kvs)) from ⟨hlen, hm, merged [] prs, KV.merge rel .nil, hd⟩), rfl, q _ (I.hok.fresh (Nat.le_refl _))⟩
end
end My

/-! MyTxt: turns over a tuple or a list; small words -/
namespace My
open PySem PySem.Spec PyProof.Rows L2
theorem turns_tup {K : PySem.W.Frag} {a : Addr} {xs : List V} {g : TG} {tt : TT} {ti : TIn} {vs : List Nat} {σ : L2.St} {Last : Hp → Prop} (Pv : Nat → Hp → Prop) (hl : ∀ i H, i ≤ xs.length → Pv i H → SqT K H a xs)
    (hs : ∀ i x H, xs[i]? = some x → Pv i H → g x (wipe σ vs) H fun σ2 H2 => wipe σ2 vs = wipe σ vs ∧ tt σ2 H2 fun b H3 => if b = true then ti σ2 H3 (Pv (i + 1)) else Pv (i + 1) H3) (hd : ∀ H, Pv xs.length H → Last H) :
    Turns (Itt K a) g tt ti vs σ (fun i m H => m = xs.length - i ∧ i ≤ xs.length ∧ Pv i H) Last := by
  rintro i m H ⟨rfl, hi, p⟩
  have q := hl i H hi p
  rcases Nat.lt_or_eq_of_le hi with lt | rfl
  · refine .inr ⟨⟨xs, xs[i], q, List.getElem?_eq_getElem lt⟩, Pv (i + 1), fun H' p' => ⟨xs.length - (i + 1), by omega, rfl, lt, p'⟩, ?_⟩
    rintro x H' ⟨rfl, y⟩
    exact hs i x _ (y xs q) p
  · exact .inl ⟨⟨xs, q, Nat.le_refl _⟩, hd H p⟩
theorem turns_list {K : PySem.W.Frag} {a : Addr} {xs : List V} {g : TG} {tt : TT} {ti : TIn} {vs : List Nat} {σ : L2.St} {Last : Hp → Prop} (Pv : Nat → Hp → Prop) (hl : ∀ i H, i ≤ xs.length → Pv i H → SqL K H a xs)
    (hs : ∀ i x H, xs[i]? = some x → Pv i H → g x (wipe σ vs) H fun σ2 H2 => wipe σ2 vs = wipe σ vs ∧ tt σ2 H2 fun b H3 => if b = true then ti σ2 H3 (Pv (i + 1)) else Pv (i + 1) H3) (hd : ∀ H, Pv xs.length H → Last H) :
    Turns (Itl K a) g tt ti vs σ (fun i m H => m = xs.length - i ∧ i ≤ xs.length ∧ Pv i H) Last := by
  rintro i m H ⟨rfl, hi, p⟩
  have q := hl i H hi p
  rcases Nat.lt_or_eq_of_le hi with lt | rfl
  · refine .inr ⟨⟨xs, xs[i], q, List.getElem?_eq_getElem lt⟩, Pv (i + 1), fun H' p' => ⟨xs.length - (i + 1), by omega, rfl, lt, p'⟩, ?_⟩
    rintro x H' ⟨rfl, y⟩
    exact hs i x _ (y xs q) p
  · exact .inl ⟨⟨xs, q, Nat.le_refl _⟩, hd H p⟩

/-! ### words -/
open TL (tl joinL join_eq tl_join)
def six : List Nat := [97, 98, 99, 109, 121, 122]
/-- a drawn word | a word of a pool -/
structure Wd0 (x : Str) : Prop where
  pos : 0 < (tl x).length
  few : (tl x).length ≤ 8
  of : ∀ c ∈ tl x, c ∈ six
structure Wd (x : Str) : Prop where
  pos : 0 < (tl x).length
  few : (tl x).length ≤ 8
  of : ∀ c ∈ tl x, c ∈ 113 :: six
theorem Wd0.wd {x : Str} (h : Wd0 x) : Wd x := ⟨h.pos, h.few, fun c m => List.mem_cons_of_mem _ (h.of c m)⟩
theorem joinL_ones : ∀ ps : List Nat, joinL [] (ps.map fun c => [c]) = ps
  | [] => rfl
  | [c] => rfl
  | c :: d :: r => by
    show [c] ++ ([] ++ joinL [] ((d :: r).map fun c => [c])) = _
    rw [joinL_ones (d :: r)]
    rfl
theorem tl_joined (ps : List Nat) : tl (Txt.join "" (ps.map fun c => ⟨#[c]⟩)) = ps := by
  rw [join_eq, tl_join, List.map_map]
  exact joinL_ones ps
/-- how many q's stand at the end -/
def tq (x : Str) : Nat := ((tl x).reverse.takeWhile (· == 113)).length
theorem tq_zero {x : Str} (h : Wd0 x) : tq x = 0 := by
  unfold tq
  cases e : (tl x).reverse with
  | nil => rfl
  | cons c r =>
    have m : c ∈ tl x := List.mem_reverse.mp (by rw [e]; exact List.mem_cons_self)
    have n : (c == 113) = false := by
      have z := h.of c m
      cases q : c == 113 with
      | false => rfl
      | true =>
        rw [eq_of_beq q] at z
        exact absurd z (by decide)
    rw [List.takeWhile_cons, n]
    rfl
theorem tq_snoc {x y : Str} (h : tl y = tl x ++ [113]) : tq y = tq x + 1 := by
  unfold tq
  rw [h, List.reverse_append]
  rfl
theorem takeWhile_dropLast {p : Nat → Bool} : ∀ {l : List Nat}, (l.takeWhile p).length < l.length → (l.dropLast.takeWhile p) = l.takeWhile p
  | [], h => absurd h (by simp)
  | [c], h => by
    by_cases e : p c = true
    · simp [e] at h
    · simp [e]
  | c :: d :: r, h => by
    rw [List.dropLast_cons_of_ne_nil (List.cons_ne_nil _ _)]
    by_cases e : p c = true
    · rw [List.takeWhile_cons_of_pos e] at h
      rw [List.takeWhile_cons_of_pos e, List.takeWhile_cons_of_pos e, takeWhile_dropLast (by simpa using h)]
    · rw [List.takeWhile_cons_of_neg e, List.takeWhile_cons_of_neg e]
theorem tq_shift {x y : Str} (h : tl y = (tl x).drop 1 ++ [113]) (lt : tq x < (tl x).length) : tq y = tq x + 1 := by
  unfold tq at lt ⊢
  have e : (tl y).reverse = 113 :: (tl x).reverse.dropLast := by
    rw [h, List.reverse_append, List.dropLast_reverse, List.drop_one]
    rfl
  rw [e, List.takeWhile_cons_of_pos rfl, takeWhile_dropLast (by rw [List.length_reverse]; exact lt)]
  rfl
end My

/-! W02: drawn words, pools of unlike words -/
namespace My
open PySem PySem.Spec PyProof.Rows L2
open TL (tl)
abbrev sWord : Stmt := top 12
abbrev sPool : Stmt := top 13
def spWord : Sp := fun vs H Q _ => ∃ (d l : Addr) (ns : List Int) (k : Nat), vs = [.ref d] ∧ Deck H d l ns k ∧ ns.length ≤ 63 ∧ k + 10 < 1073741824 ∧ ∀ (x : Str) (H' : Hp), Wd0 x → Deck H' d l ns (k + 9) → Fr d H H' → Q (.str x) H'
theorem ones_sum : ∀ cs : List Nat, ((cs.map fun c => (⟨#[c]⟩ : Str)).map (·.length)).sum = cs.length
  | [] => rfl
  | c :: r => by
    rw [List.map_cons, List.map_cons, List.sum_cons, ones_sum r, List.length_cons]
    show 1 + _ = _
    omega
theorem Deck.upd {H : Hp} {d l b : Addr} {ns : List Int} {k : Nat} {o : HO} (D : Deck H d l ns k) (hd : b ≠ d) (hl : b ≠ l) : Deck (upd H b o) d l ns k := by
  obtain ⟨⟨i, r, n, e, z⟩, c⟩ := D
  exact ⟨⟨i, r, n, by rw [upd_ne (Ne.symm hd)]; exact e, z⟩, by rw [upd_ne (Ne.symm hl)]; exact c⟩
theorem Deck.nd {H : Hp} {d l b : Addr} {ns : List Int} {k : Nat} (D : Deck H d l ns k) (n : H b = none) : b ≠ d ∧ b ≠ l := by
  obtain ⟨⟨i, r, m, e, z⟩, c⟩ := D
  exact ⟨Ne.symm (ne_of_none e n), Ne.symm (ne_of_none c n)⟩
theorem Fr.upd_new {d b : Addr} {H H2 H4 : Hp} {o : HO} (f2 : Fr d H H2) (f4 : Fr d H H4) (n : H2 b = none) (hd : b ≠ d) : Fr d H (upd H4 b o) := fun c u hc h => by
  have cb : c ≠ b := fun e => by
    have z := f2 b u hd (by rw [← e]; exact h)
    rw [n] at z
    cases z
  rw [upd_ne cb]
  exact f4 c u hc h
section
variable {P : Program} {w : World} {K : PySem.W.Frag} {mg : Str → Option Value} {base : Heap}
theorem scWord : FnScope ["_law_deck_here", "_law_size", "_law_k"] ["_law_deck_here"] (defScope sWord) := ⟨rfl, rfl, rfl, by decide +kernel, rfl, by decide +kernel, by decide +kernel⟩
theorem ok_word {f fO : Addr} {fd fdO : FuncData} (F : Fun K "_law_word" "_law_word" sWord f fd) (B : Blt mg) (GO : FnOk P w K mg base CX0 2 fO fdO ["_law_deck_here", "_law_items"] (spOne K)) (mO : mg "_law_one" = some (.ref fO))
    (kO : PySem.W.keepIn K (.ref fO) = true) (bO : Binds K fdO ["_law_deck_here", "_law_items"] []) : FnOk P w K mg base CX0 3 f fd ["_law_deck_here"] spWord := by
  refine F.ok scWord (fun vs H Q E h => ?_) (fun cdv A outer s H vs Q E hr h => ?_)
  · obtain ⟨d, l, ns, k, rfl, _⟩ := h
    rfl
  · obtain ⟨d, l, ns, k, rfl, D, hn, hk, q⟩ := h
    refine ⟨_, pss_cons (ps_set (i := 1) scWord.nd rfl (Or.inl rfl) (pe_call GO hr rfl mO kO bO .nil pass0 (pa_cons (pv 0) (pa_cons (pe_lst (pa_cons pe_int (pa_cons pe_int (pa_cons pe_int (pa_cons pe_int (pa_cons pe_int pa_nil)))))) pa_nil))))
      (pss_one (ps_ret (pe_join pe_str (pe_lc (own := [("_law_k", 2)]) (g := gName 2) (tt := tYes) rfl scWord.nd (pi_range1 rfl B.range (pa_cons (pv 1) pa_nil)) (blkOk_by (own := [("_law_k", 2)]) (N := ["_law_deck_here", "_law_size", "_law_k"]) (sc := defScope sWord) (by decide +kernel))
        (fun _ _ _ _ _ => pg_name (i := 2) scWord.nd rfl (Or.inl rfl)) (fun _ _ _ _ _ => pts_nil) (fun _ _ _ _ _ => pe_call GO (hr.mono (by decide)) rfl mO kO bO .nil pass0 (pa_cons (pv 0) (pa_cons pe_str pa_nil))))))), ?_⟩
    refine ⟨_, rfl, (by show 5 ≤ sizeLine; decide), fun p np => ?_⟩
    have pd : p ≠ d := (D.nd np).1
    have D1 : Deck (upd H p (.lst [.int 1, .int 1, .int 2, .int 3, .int 8])) d l ns k := D.same (same_new np)
    refine ⟨d, l, ns, k, .ref p, rfl, D1, hn, by omega, .inl ⟨p, _, rfl, pd, .inl (.inl (.inl (off_at pd upd_same))), List.cons_ne_nil _ _, by decide, fun j v H2 hj D2 f2 => ?_⟩⟩
    obtain ⟨n, rfl, n1, n8⟩ : ∃ n : Nat, v = .int (n : Int) ∧ 0 < n ∧ n ≤ 8 := by
      match j, hj with
      | 0, hj => exact ⟨1, (Option.some.inj hj).symm, by decide, by decide⟩
      | 1, hj => exact ⟨1, (Option.some.inj hj).symm, by decide, by decide⟩
      | 2, hj => exact ⟨2, (Option.some.inj hj).symm, by decide, by decide⟩
      | 3, hj => exact ⟨3, (Option.some.inj hj).symm, by decide, by decide⟩
      | 4, hj => exact ⟨8, (Option.some.inj hj).symm, by decide, by decide⟩
      | n + 5, hj => simp at hj
    have fr2 : Fr d H H2 := (same_fr (same_new np)).trans f2
    refine ⟨⟨_, rfl⟩, _, rfl, (n : Int), rfl, by omega, by omega, fun Dn nD => ?_⟩
    obtain ⟨Dd, Dl⟩ := D2.nd nD
    refine lc_range (lo := 0) (n := (n : Int).toNat) (fun t H3 => ∃ cs : List Nat, H3 Dn = some (.lst (cs.map fun c => V.str ⟨#[c]⟩)) ∧ cs.length = t ∧ (∀ c ∈ cs, c ∈ six) ∧ Deck H3 d l ns (k + 1 + t) ∧ Fr d H H3) ⟨[], upd_same, rfl, (fun c m => nomatch m), D2.same (same_new nD), fr2.trans (same_fr (same_new nD))⟩ ?_ ?_
    · rintro t H3 ht ⟨cs, h1, h2, h3, h4, h5⟩
      refine ⟨rfl, ?_⟩
      dsimp only [tYes]
      rw [if_pos rfl]
      refine ⟨_, rfl, d, l, ns, k + 1 + t, _, rfl, h4, hn, by omega, .inr ⟨_, rfl, by decide, by decide, fun c H4 hc D4 f4 => ?_⟩⟩
      refine ⟨cs.map fun c => V.str ⟨#[c]⟩, f4 _ _ Dd h1, by rw [List.length_map, sizeLine_eq]; omega, cs ++ [c], ?_, by rw [List.length_append, h2]; rfl, fun c' m => ?_, D4.upd Dd Dl, Fr.upd_new fr2 (h5.trans f4) nD Dd⟩
      · rw [upd_same, List.map_append]
        rfl
      · rcases List.mem_append.mp m with m | m
        · exact h3 c' m
        · rw [List.mem_singleton.mp m]
          revert hc
          exact fun z => z
    · rintro H3 ⟨cs, h1, h2, h3, h4, h5⟩
      have hn' : cs.length = n := by rw [h2]; rfl
      refine ⟨_, Dn, cs.map fun c => ⟨#[c]⟩, rfl, rfl, .inl (.inl (.inl (by rw [List.map_map]; exact h1))), ?_, ?_⟩
      · rw [ones_sum, List.length_map]
        show cs.length + cs.length * 0 ≤ 16777216
        omega
      · refine q _ _ ⟨?_, ?_, ?_⟩ (h4.mono (by omega)) h5
        · rw [tl_joined]
          omega
        · rw [tl_joined]
          omega
        · rw [tl_joined]
          exact h3
end
end My

/-! P02: pools of unlike words -/
namespace My
open PySem PySem.Spec PyProof.Rows L2
open TL (tl len_tl tl_append)
theorem inV_strs (x : Str) : ∀ xs : List Str, inV (.str x) (xs.map V.str) = decide (x ∈ xs)
  | [] => rfl
  | y :: r => by
    have ih := inV_strs x r
    unfold inV at ih ⊢
    rw [List.map_cons, List.any_cons, ih]
    show ((y == x) || _) = _
    by_cases e : y = x
    · subst e
      simp
    · have n : (y == x) = false := beq_eq_false_iff_ne.mpr e
      have n2 : ¬ x = y := fun z => e z.symm
      simp [n, n2]
theorem flat_strs (xs : List Str) : (xs.map V.str).all flatV = true := by
  rw [List.all_eq_true]
  intro v hv
  obtain ⟨x, _, rfl⟩ := List.mem_map.mp hv
  rfl
theorem tl_cut1 {x : Str} (h : 0 < (tl x).length) : tl (cutS x (some 1) none) = (tl x).drop 1 := by
  have e : x.length = (tl x).length := len_tl x
  unfold cutS
  rw [HT.sIx_none, show HT.sIx x.length 0 (some 1) = min 1 x.length from HT.sIx_nat x.length 0 1, e, Nat.min_eq_left h]
  show ((tl x).drop 1).take _ = _
  exact List.take_of_length_le (by rw [List.length_drop]; exact Nat.le_refl _)
theorem wd_cut {x y : Str} (h : Wd x) (e : tl y = (tl x).drop 1 ++ [113]) : Wd y := by
  have z := h.few
  have z2 := h.pos
  refine ⟨by rw [e, List.length_append]; exact Nat.succ_pos _, ?_, fun c m => ?_⟩
  · rw [e, List.length_append, List.length_drop]
    show _ + 1 ≤ 8
    omega
  · rw [e] at m
    rcases List.mem_append.mp m with m | m
    · exact h.of c (List.mem_of_mem_drop m)
    · rw [List.mem_singleton.mp m]
      exact List.mem_cons_self
theorem wd_snoc {x y : Str} (h : Wd x) (l : (tl x).length < 8) (e : tl y = tl x ++ [113]) : Wd y := by
  refine ⟨by rw [e, List.length_append]; exact Nat.succ_pos _, ?_, fun c m => ?_⟩
  · rw [e, List.length_append]
    exact l
  · rw [e] at m
    rcases List.mem_append.mp m with m | m
    · exact h.of c m
    · rw [List.mem_singleton.mp m]
      exact List.mem_cons_self
/-- how many of the words have i or more q's at their ends -/
def over (i : Nat) (xs : List Str) : Nat := xs.countP fun x => decide (i ≤ tq x)
theorem over_lt {i : Nat} {x : Str} : ∀ {xs : List Str}, x ∈ xs → tq x = i → over (i + 1) xs + 1 ≤ over i xs
  | y :: r, m, e => by
    have le : over (i + 1) r ≤ over i r := List.countP_mono_left fun z _ h => by
      simp only [decide_eq_true_eq] at h ⊢
      omega
    unfold over at le ⊢
    rw [List.countP_cons, List.countP_cons]
    rcases List.mem_cons.mp m with rfl | m
    · have h1 : decide (i ≤ tq x) = true := decide_eq_true (by omega)
      have h2 : decide (i + 1 ≤ tq x) = false := decide_eq_false (by omega)
      rw [h1, h2]
      simp only [if_true, Bool.false_eq_true, if_false]
      omega
    · have ih := over_lt m e
      unfold over at ih
      by_cases h1 : i + 1 ≤ tq y
      · have h2 : i ≤ tq y := by omega
        simp only [h1, h2, decide_true, if_true]
        omega
      · simp only [h1, decide_false, Bool.false_eq_true, if_false]
        omega
def spPool : Sp := fun vs H Q _ => ∃ (d l : Addr) (ns : List Int) (k m : Nat), vs = [.ref d, .int (m : Int)] ∧ m < 8 ∧ Deck H d l ns k ∧ ns.length ≤ 63 ∧ k + 100 < 1073741824 ∧
  ∀ (p : Addr) (xs : List Str) (H' : Hp), xs.length = m → xs.Nodup → (∀ x ∈ xs, Wd x) → H p = none → H' p = some (.lst (xs.map V.str)) → Deck H' d l ns (k + 9 * m) → Fr d H H' → Q (.ref p) H'
section
variable {P : Program} {w : World} {K : PySem.W.Frag} {mg : Str → Option Value} {base : Heap}
theorem scPool : FnScope ["_law_deck_here", "_law_many", "_law_found", "_law_word_here"] ["_law_deck_here", "_law_many"] (defScope sPool) := ⟨rfl, rfl, rfl, by decide +kernel, rfl, by decide +kernel, by decide +kernel⟩
theorem ok_pool {f fW : Addr} {fd fdW : FuncData} (F : Fun K "_law_pool" "_law_pool" sPool f fd) (B : Blt mg) (GW : FnOk P w K mg base CX0 3 fW fdW ["_law_deck_here"] spWord) (mW : mg "_law_word" = some (.ref fW))
    (kW : PySem.W.keepIn K (.ref fW) = true) (bW : Binds K fdW ["_law_deck_here"] []) : FnOk P w K mg base CX0 4 f fd ["_law_deck_here", "_law_many"] spPool := by
  refine F.ok scPool (fun vs H Q E h => ?_) (fun cdv A outer s H vs Q E hr h => ?_)
  · obtain ⟨d, l, ns, k, m, rfl, _⟩ := h
    rfl
  · obtain ⟨d, l, ns, k, m, rfl, hm, D, hn, hk, q⟩ := h
    refine ⟨_, pss_cons (ps_set (i := 2) scPool.nd rfl (Or.inl rfl) (pe_lst pa_nil))
      (pss_cons (ps_while PassesOwn.never (pt_cmpR op_lt (pe_callB call_len_seq (by rfl) B.len PySem.boot_len (pa_cons (pv 2) pa_nil)) (pv 1) (nomark _))
        (pss_cons (ps_set (i := 3) scPool.nd rfl (Or.inl rfl) (pe_call GW hr rfl mW kW bW .nil pass0 (pa_cons (pv 0) pa_nil)))
        (pss_cons (ps_while PassesOwn.never (pt_cmpR op_in_seq (pv 3) (pv 2) (by rfl))
          (pss_one (ps_set (i := 3) scPool.nd rfl (Or.inl rfl) (pe_ifExp (pt_cmpR op_eq (pe_callB call_len_str (by rfl) B.len PySem.boot_len (pa_cons (pv 3) pa_nil)) pe_int (nomark _))
            (pe_op op_add_str (pe_slice sl_str (pv 3) (po_some pe_int) po_none) pe_str) (pe_op op_add_str (pv 3) pe_str)))))
        (pss_one (ps_expr (pe_bm PySem.F.plainAttrs_list PySem.F.slot_list_append PySem.F.type_list_append mt_append (pv 2) (pa_cons (pv 3) pa_nil)))))))
      (pss_one (ps_ret (pv 2)))), ?_⟩
    refine ⟨by decide, fun p np => ?_⟩
    obtain ⟨pd, pl⟩ := D.nd np
    refine ⟨fun n σ H1 => ∃ (xs : List Str) (v3 : Option V), n = m - xs.length ∧ σ = [some (.ref d), some (.int (m : Int)), some (.ref p), v3] ∧ xs.length ≤ m ∧ xs.Nodup ∧ (∀ x ∈ xs, Wd x) ∧ H1 p = some (.lst (xs.map V.str)) ∧ Deck H1 d l ns (k + 9 * xs.length) ∧ Fr d H H1,
      ⟨m, [], none, rfl, rfl, Nat.zero_le _, List.nodup_nil, (fun x z => nomatch z), upd_same, D.same (same_new np), same_fr (same_new np)⟩, ?_⟩
    rintro n σ H1 ⟨xs, v3, rfl, rfl, hx, nd, wd, hp, D1, f1⟩
    refine ⟨_, rfl, p, _, rfl, .inl (.inl (.inl hp)), _, rfl, _, _, rfl, rfl, _, rfl, ite2 (fun c => ?_) fun c => ?_⟩
    · have c' : xs.length < m := by
        have z := of_decide_eq_true c
        rw [List.length_map] at z
        omega
      refine ⟨fun σ' H' => ∃ (x : Str) (v3 : Option V), σ' = [some (.ref d), some (.int (m : Int)), some (.ref p), v3] ∧ x ∉ xs ∧ Wd x ∧ H' p = some (.lst ((xs ++ [x]).map V.str)) ∧ Deck H' d l ns (k + 9 * (xs.length + 1)) ∧ Fr d H H', ?_, ?_⟩
      · rintro σ' H' ⟨x, v3, rfl, nx, wx, hp', D', f'⟩
        refine ⟨m - (xs.length + 1), by omega, xs ++ [x], v3, by rw [List.length_append]; rfl, rfl, by rw [List.length_append]; exact c', ?_, ?_, hp', by rw [List.length_append]; exact D', f'⟩
        · exact List.nodup_append.mpr ⟨nd, by simp, fun a ha b hb e => nx (by rw [← List.mem_singleton.mp hb, ← e]; exact ha)⟩
        · intro y hy
          rcases List.mem_append.mp hy with z | z
          · exact wd y z
          · rw [List.mem_singleton.mp z]
            exact wx
      · refine ⟨_, rfl, d, l, ns, k + 9 * xs.length, rfl, D1, hn, by omega, fun x0 H2 w0 D2 f2 => ?_⟩
        have hp2 : H2 p = some (.lst (xs.map V.str)) := f2 _ _ pd hp
        have q0 : tq x0 = 0 := tq_zero w0
        have ov0 : over 0 xs = xs.length := by
          unfold over
          rw [List.countP_eq_length]
          intro y _
          simp
        refine ⟨fun n σ' H' => ∃ (x : Str) (i : Nat), σ' = [some (.ref d), some (.int (m : Int)), some (.ref p), some (.str x)] ∧ H' = H2 ∧ Wd x ∧ tq x = i ∧ i + over i xs ≤ xs.length ∧ n = over i xs, ⟨over 0 xs, x0, 0, rfl, rfl, w0.wd, q0, by omega, rfl⟩, ?_⟩
        rintro n σ' H' ⟨x, i, rfl, rfl, wx, qx, hi, rfl⟩
        refine ⟨_, rfl, _, rfl, p, _, rfl, .inl (.inl (.inl hp2)), rfl, flat_strs xs, _, rfl, ite2 (fun c2 => ?_) fun c2 => ?_⟩
        · have mx : x ∈ xs := of_decide_eq_true ((inV_strs x xs).symm.trans c2)
          have lt := over_lt mx qx
          have small : x.length ≤ sizeLine := by
            have z := wx.few
            rw [← len_tl] at z
            rw [sizeLine_eq]
            omega
          have gap : i < (tl x).length ∨ (tl x).length < 8 := by
            have z := wx.few
            omega
          refine ⟨fun σ' G => ∃ y : Str, σ' = [some (.ref d), some (.int (m : Int)), some (.ref p), some (.str y)] ∧ G = H' ∧ Wd y ∧ tq y = i + 1, ?_, ?_⟩
          · rintro σ' G ⟨y, rfl, rfl, wy, qy⟩
            exact ⟨over (i + 1) xs, by omega, y, i + 1, rfl, rfl, wy, qy, by omega, rfl⟩
          · refine ⟨_, rfl, _, rfl, small, rfl, _, rfl, ite2 (fun c3 => ?_) fun c3 => ?_⟩
            · have l8 : (tl x).length = 8 := by
                have z := of_decide_eq_true c3
                have z2 := V.int.inj z
                rw [len_tl] at z2
                omega
              have ey : tl (cutS x (some 1) none ++ "q") = (tl x).drop 1 ++ [113] := by
                rw [tl_append, tl_cut1 (by omega)]
                rfl
              refine ⟨_, rfl, 1, rfl, x, rfl, small, _, _, rfl, rfl, ?_, ?_⟩
              · show (cutS x (some 1) none).length + 1 ≤ sizeLine
                rw [len_tl, tl_cut1 (by omega), List.length_drop, sizeLine_eq]
                omega
              · exact ⟨_, rfl, rfl, wd_cut wx ey, (tq_shift (x := x) ey (by omega)).trans (by rw [qx])⟩
            · have l8 : (tl x).length < 8 := by
                have z : ¬ (V.int (x.length : Nat) = V.int 8) := fun e => c3 (decide_eq_true e)
                have z3 := wx.few
                rw [← len_tl] at z3 ⊢
                rcases Nat.lt_or_eq_of_le z3 with h | h
                · exact h
                · exact absurd (by rw [h]; rfl) z
              refine ⟨_, rfl, _, _, rfl, rfl, ?_, ?_⟩
              · show x.length + 1 ≤ sizeLine
                rw [len_tl, sizeLine_eq]
                omega
              · exact ⟨_, rfl, rfl, wd_snoc wx l8 (tl_append x "q"), (tq_snoc (tl_append x "q")).trans (by rw [qx])⟩
        · have nx : x ∉ xs := fun m => c2 ((inV_strs x xs).trans (decide_eq_true m))
          refine ⟨_, rfl, ?_, _, rfl, p, _, _, rfl, rfl, hp2, ?_, ?_⟩
          · exact .inl ⟨rfl, _, .inl (.inl hp2)⟩
          · rw [List.length_map, sizeLine_eq]
            omega
          · refine ⟨x, _, rfl, nx, wx, ?_, D2.upd pd pl, Fr.upd_new (Fr.refl d H) (f1.trans f2) np pd⟩
            · rw [upd_same, List.map_append]
              rfl
    · have c' : xs.length = m := by
        have z : ¬ ((((xs.map V.str).length : Nat) : Int) < (m : Int)) := fun h => c (decide_eq_true h)
        rw [List.length_map] at z
        omega
      exact ⟨_, rfl, q p xs H1 c' nd wd np hp (by rw [← c']; exact D1) f1⟩
end
end My

/-! U02: unknowns and relations drawn -/
namespace My
open PySem PySem.Spec PyProof.Rows L2
open TL (tl len_tl tl_append)
abbrev sUnks : Stmt := top 14
abbrev sKinds : Stmt := top 15
def eight : List Str := ["?1", "?2", "?3", "?9", "?10", "?21", "?500", "?99999"]
def spUnks : Sp := fun vs H Q _ => ∃ (d l : Addr) (ns : List Int) (k m : Nat), vs = [.ref d, .int (m : Int)] ∧ m ≤ 8 ∧ Deck H d l ns k ∧ ns.length ≤ 63 ∧ k + 100 < 1073741824 ∧
  ∀ (p : Addr) (xs : List Str) (H' : Hp), xs.length = m → xs.Nodup → (∀ x ∈ xs, x ∈ eight) → H p = none → H' p = some (.lst (xs.map V.str)) → Deck H' d l ns (k + m) → Fr d H H' → Q (.ref p) H'
/-- a relation with its width, as it stands -/
def KindAt (H : Hp) (t : Addr × Str × Nat) : Prop := H t.1 = some (.tup [.str t.2.1, .int (t.2.2 : Int)]) ∧ Wd t.2.1 ∧ 0 < t.2.2 ∧ t.2.2 ≤ 4
def spKinds : Sp := fun vs H Q _ => ∃ (d l : Addr) (ns : List Int) (k : Nat), vs = [.ref d] ∧ Deck H d l ns k ∧ ns.length ≤ 63 ∧ k + 200 < 1073741824 ∧
  ∀ (p : Addr) (ks : List (Addr × Str × Nat)) (H' : Hp), 2 ≤ ks.length → ks.length ≤ 3 → (ks.map (·.2.1)).Nodup → (∀ t ∈ ks, KindAt H' t) → H p = none → H' p = some (.lst (ks.map fun t => V.ref t.1)) → Deck H' d l ns (k + 40) → Fr d H H' → Q (.ref p) H'
theorem Fr.free {d b : Addr} {H H2 : Hp} (f : Fr d H H2) (n : H2 b = none) (hd : b ≠ d) : H b = none := by
  cases e : H b with
  | none => rfl
  | some o =>
    rw [f b o hd e] at n
    cases n
theorem KindAt.fr {d : Addr} {H H2 : Hp} {t : Addr × Str × Nat} (h : KindAt H t) (f : Fr d H H2) (hd : t.1 ≠ d) : KindAt H2 t := ⟨f _ _ hd h.1, h.2⟩
theorem erase_perm {α : Type} : ∀ {l : List α} {j : Nat} (h : j < l.length), (l[j] :: l.eraseIdx j).Perm l
  | x :: r, 0, _ => List.Perm.refl _
  | x :: r, j + 1, h => by
    have h' : j < r.length := Nat.lt_of_succ_lt_succ h
    show (r[j] :: x :: r.eraseIdx j).Perm (x :: r)
    exact (List.Perm.swap _ _ _).trans ((erase_perm h').cons x)
theorem map_erase {α β : Type} (f : α → β) : ∀ (l : List α) (j : Nat), (l.map f).eraseIdx j = (l.eraseIdx j).map f
  | [], _ => rfl
  | x :: r, 0 => rfl
  | x :: r, j + 1 => congrArg (f x :: ·) (map_erase f r j)
section
variable {P : Program} {w : World} {K : PySem.W.Frag} {mg : Str → Option Value} {base : Heap}
theorem scUnks : FnScope ["_law_deck_here", "_law_many", "_law_found", "_law_some", "_law_k"] ["_law_deck_here", "_law_many"] (defScope sUnks) := ⟨rfl, rfl, rfl, by decide +kernel, rfl, by decide +kernel, by decide +kernel⟩
theorem ok_unks {f fD : Addr} {fd fdD : FuncData} (F : Fun K "_law_unknowns" "_law_unknowns" sUnks f fd) (B : Blt mg) (GD : FnOk P w K mg base CX0 1 fD fdD ["_law_deck_here", "_law_many"] spDraw) (mD : mg "_law_draw" = some (.ref fD))
    (kD : PySem.W.keepIn K (.ref fD) = true) (bD : Binds K fdD ["_law_deck_here", "_law_many"] []) : FnOk P w K mg base CX0 2 f fd ["_law_deck_here", "_law_many"] spUnks := by
  refine F.ok scUnks (fun vs H Q E h => ?_) (fun cdv A outer s H vs Q E hr h => ?_)
  · obtain ⟨d, l, ns, k, m, rfl, _⟩ := h
    rfl
  · obtain ⟨d, l, ns, k, m, rfl, hm, D, hn, hk, q⟩ := h
    refine ⟨_, pss_cons (ps_par (i := 2) (j := 3) rfl scUnks.nd rfl rfl (by decide) rfl rfl (pa_cons (pe_lst pa_nil) (pa_cons (pe_lst (pa_cons pe_str (pa_cons pe_str (pa_cons pe_str (pa_cons pe_str (pa_cons pe_str (pa_cons pe_str (pa_cons pe_str (pa_cons pe_str pa_nil))))))))) pa_nil)) (by rfl))
      (pss_cons (ps_for PassesOwn.never rfl (pi_range1 rfl B.range (pa_cons (pv 1) pa_nil)) (pg_name (i := 4) scUnks.nd rfl (Or.inl rfl))
        (pss_one (ps_expr (pe_bm PySem.F.plainAttrs_list PySem.F.slot_list_append PySem.F.type_list_append mt_append (pv 2)
          (pa_cons (pe_bm PySem.F.plainAttrs_list PySem.F.slot_list_pop PySem.F.type_list_pop mt_popAt (pv 3)
            (pa_cons (pe_call GD hr rfl mD kD bD .nil pass0 (pa_cons (pv 0) (pa_cons (pe_callB call_len_seq (by rfl) B.len PySem.boot_len (pa_cons (pv 3) pa_nil)) pa_nil))) pa_nil)) pa_nil)))))
      (pss_one (ps_ret (pv 2)))), ?_⟩
    refine ⟨by decide, fun p np => ⟨by show 8 ≤ sizeLine; decide, fun p2 np2 => ⟨_, _, rfl, ?_⟩⟩⟩
    obtain ⟨pd, pl⟩ := D.nd np
    have np2' : H p2 = none := (same_new np).free np2
    obtain ⟨pd2, pl2⟩ := D.nd np2'
    have pp : p ≠ p2 := ne_of_none upd_same np2
    refine ⟨_, rfl, m, rfl, by omega, by omega, for_range (n := m) (fun i σ H1 => ∃ (xs rest : List Str) (v4 : Option V), σ = [some (.ref d), some (.int (m : Int)), some (.ref p), some (.ref p2), v4] ∧ xs.length = i ∧ (xs ++ rest).Perm eight ∧ H1 p = some (.lst (xs.map V.str)) ∧ H1 p2 = some (.lst (rest.map V.str)) ∧ Deck H1 d l ns (k + i) ∧ Fr d H H1)
      ⟨[], eight, none, rfl, rfl, List.Perm.refl _, by rw [upd_ne pp]; exact upd_same, upd_same, (D.same (same_new np)).same (same_new np2), same_fr ((same_new np).trans (same_new np2))⟩ ?_ ?_⟩
    · rintro i σ H1 hi ⟨xs, rest, v4, rfl, lx, pm, h1, h2, D1, f1⟩
      have tot := pm.length_eq
      rw [List.length_append, lx] at tot
      have t8 : eight.length = 8 := rfl
      refine ⟨_, rfl, .inl ⟨rfl, _, .inl (.inl h1)⟩, _, rfl, .inl ⟨rfl, _, .inl (.inl h2)⟩, _, rfl, _, rfl, p2, _, rfl, .inl (.inl (.inl h2)), d, l, ns, k + i, _, rfl, ?_, ?_, D1, hn, by omega, fun v H2 v0 v1 D2 f2 => ?_⟩
      · rw [List.length_map]
        omega
      · rw [List.length_map]
        omega
      · rw [List.length_map] at v1
        obtain ⟨j, rfl⟩ : ∃ j : Nat, v = (j : Int) := ⟨v.toNat, by omega⟩
        have hj : j < rest.length := by omega
        have g1 : H2 p = some (.lst (xs.map V.str)) := f2 _ _ pd h1
        have g2 : H2 p2 = some (.lst (rest.map V.str)) := f2 _ _ pd2 h2
        refine ⟨p2, _, (j : Int), j, .str rest[j], rfl, rfl, g2, by omega, by omega, ?_, ?_, ?_⟩
        · rw [seqIndex_of (by omega) (by rw [List.length_map]; omega), Int.toNat_natCast]
        · rw [List.getElem?_map, List.getElem?_eq_getElem hj]
          rfl
        · refine ⟨p, _, _, rfl, rfl, by rw [upd_ne pp]; exact g1, by rw [List.length_map, sizeLine_eq]; omega, xs ++ [rest[j]], rest.eraseIdx j, _, rfl, by rw [List.length_append, lx]; rfl, ?_, ?_, ?_, ?_, ?_⟩
          · refine List.Perm.trans ?_ pm
            rw [List.append_assoc]
            exact List.Perm.append_left xs (erase_perm hj)
          · rw [upd_same, List.map_append]
            rfl
          · rw [upd_ne (Ne.symm pp), upd_same, map_erase]
          · exact (D2.upd pd2 pl2).upd pd pl
          · refine Fr.upd_new (Fr.refl d H) (Fr.upd_new (Fr.refl d H) (f1.trans f2) np2' pd2) np pd
    · rintro σ H1 ⟨xs, rest, v4, rfl, lx, pm, h1, h2, D1, f1⟩
      have nd : (xs ++ rest).Nodup := pm.nodup_iff.mpr (by decide)
      exact ⟨_, rfl, q p xs H1 lx (List.nodup_append.mp nd).1 (fun x m => pm.mem_iff.mp (List.mem_append_left _ m)) np h1 D1 f1⟩
theorem scKinds : FnScope ["_law_deck_here", "_law_row", "_law_name"] ["_law_deck_here"] (defScope sKinds) := ⟨rfl, rfl, rfl, by decide +kernel, rfl, by decide +kernel, by decide +kernel⟩
theorem ok_kinds {f fD fO fP : Addr} {fd fdD fdO fdP : FuncData} (F : Fun K "_law_kinds" "_law_kinds" sKinds f fd) (B : Blt mg) (GD : FnOk P w K mg base CX0 1 fD fdD ["_law_deck_here", "_law_many"] spDraw) (mD : mg "_law_draw" = some (.ref fD))
    (kD : PySem.W.keepIn K (.ref fD) = true) (bD : Binds K fdD ["_law_deck_here", "_law_many"] []) (GO : FnOk P w K mg base CX0 2 fO fdO ["_law_deck_here", "_law_items"] (spOne K)) (mO : mg "_law_one" = some (.ref fO))
    (kO : PySem.W.keepIn K (.ref fO) = true) (bO : Binds K fdO ["_law_deck_here", "_law_items"] []) (GP : FnOk P w K mg base CX0 4 fP fdP ["_law_deck_here", "_law_many"] spPool) (mP : mg "_law_pool" = some (.ref fP))
    (kP : PySem.W.keepIn K (.ref fP) = true) (bP : Binds K fdP ["_law_deck_here", "_law_many"] []) : FnOk P w K mg base CX0 5 f fd ["_law_deck_here"] spKinds := by
  refine F.ok scKinds (fun vs H Q E h => ?_) (fun cdv A outer s H vs Q E hr h => ?_)
  · obtain ⟨d, l, ns, k, rfl, _⟩ := h
    rfl
  · obtain ⟨d, l, ns, k, rfl, D, hn, hk, q⟩ := h
    have hr1 : Room 1 _ := hr.mono (by decide)
    have hr2 : Room 2 _ := hr.mono (by decide)
    refine ⟨_, pss_cons (ps_set (i := 1) scKinds.nd rfl (Or.inl rfl) (pe_call GP hr rfl mP kP bP .nil pass0 (pa_cons (pv 0) (pa_cons (pe_op op_add pe_int (pe_call GD hr1 rfl mD kD bD .nil pass0 (pa_cons (pv 0) (pa_cons pe_int pa_nil)))) pa_nil))))
      (pss_one (ps_ret (pe_lc (own := [("_law_name", 2)]) (g := gName 2) (tt := tYes) rfl scKinds.nd (pi_list (pv 1)) (blkOk_by (own := [("_law_name", 2)]) (N := ["_law_deck_here", "_law_row", "_law_name"]) (sc := defScope sKinds) (by decide +kernel))
        (fun _ _ _ _ _ => pg_name (i := 2) scKinds.nd rfl (Or.inl rfl)) (fun _ _ _ _ _ => pts_nil)
        (fun _ _ _ _ _ => pe_tup (pa_cons (pv 2) (pa_cons (pe_call GO hr2 rfl mO kO bO .nil pass0 (pa_cons (pv 0) (pa_cons (pe_lst (pa_cons pe_int (pa_cons pe_int (pa_cons pe_int (pa_cons pe_int (pa_cons pe_int pa_nil)))))) pa_nil))) pa_nil)))))), ?_⟩
    refine ⟨_, rfl, _, rfl, d, l, ns, k, 2, rfl, by decide, by decide, D, hn, by omega, fun v H1 v0 v1 D1 f1 => ⟨2, v, rfl, rfl, ?_⟩⟩
    obtain ⟨m, hm, m2, m3⟩ : ∃ m : Nat, 2 + v = (m : Int) ∧ 2 ≤ m ∧ m ≤ 3 := ⟨(2 + v).toNat, by omega, by omega, by omega⟩
    refine ⟨d, l, ns, k + 1, m, (by show [V.ref d, V.int (2 + v)] = _; rw [hm]), by omega, D1, hn, by omega, fun p xs H2 lx nd wd np hp D2 f2 => ?_⟩
    have f02 := f1.trans f2
    have pd : p ≠ d := (D1.nd np).1
    have pl : p ≠ l := (D1.nd np).2
    refine ⟨_, rfl, p, rfl, ⟨_, .inl (.inl hp)⟩, fun Dn nD => ?_⟩
    obtain ⟨Dd, Dl⟩ := D2.nd nD
    have Dp' : Dn ≠ p := Ne.symm (ne_of_none hp nD)
    refine lc_list (xs := xs.map V.str) (fun t H3 => ∃ ks : List (Addr × Str × Nat), ks.map (·.2.1) = xs.take t ∧ H3 Dn = some (.lst (ks.map fun t => V.ref t.1)) ∧ (∀ t ∈ ks, KindAt H3 t ∧ H t.1 = none ∧ t.1 ≠ Dn) ∧ H3 p = some (.lst (xs.map V.str)) ∧ Deck H3 d l ns (k + 1 + 9 * m + t) ∧ Fr d H2 H3 ∧ Fr d H H3)
      ⟨[], rfl, upd_same, (fun t z => nomatch z), by rw [upd_ne (Ne.symm Dp')]; exact hp, D2.same (same_new nD), same_fr (same_new nD), f02.trans (same_fr (same_new nD))⟩ (fun t H3 _ ⟨ks, _, _, _, h4, _⟩ => .inl (.inl h4)) ?_ ?_
    · rintro t x H3 hx ⟨ks, h1, h2, h3, h4, h5, h6, h7⟩
      refine ⟨rfl, ?_⟩
      dsimp only [tYes]
      rw [if_pos rfl]
      obtain ⟨x, rfl⟩ : ∃ y : Str, x = .str y := by
        rw [List.getElem?_map] at hx
        obtain ⟨y, _, e⟩ := Option.map_eq_some_iff.mp hx
        exact ⟨y, e.symm⟩
      have hx' : xs[t]? = some x := by
        rw [List.getElem?_map] at hx
        obtain ⟨y, e1, e2⟩ := Option.map_eq_some_iff.mp hx
        rw [e1, V.str.inj e2]
      have ht : t < xs.length := (List.getElem?_eq_some_iff.mp hx').1
      have mx : x ∈ xs := List.mem_of_getElem? hx'
      have lk : ks.length = t := by
        have z := congrArg List.length h1
        rw [List.length_map, List.length_take] at z
        omega
      refine ⟨_, rfl, _, rfl, (by show 5 ≤ sizeLine; decide), fun a na => ?_⟩
      obtain ⟨ad, al⟩ := h5.nd na
      have D5 := h5.same (same_new (o := .lst [.int 1, .int 2, .int 2, .int 3, .int 4]) na)
      refine ⟨d, l, ns, k + 1 + 9 * m + t, .ref a, rfl, D5, hn, by omega, .inl ⟨a, _, rfl, ad, .inl (.inl (.inl (off_at ad upd_same))), List.cons_ne_nil _ _, by decide, fun j v H4 hj D4 f4 => ?_⟩⟩
      obtain ⟨n, rfl, n1, n4⟩ : ∃ n : Nat, v = .int (n : Int) ∧ 0 < n ∧ n ≤ 4 := by
        match j, hj with
        | 0, hj => exact ⟨1, (Option.some.inj hj).symm, by decide, by decide⟩
        | 1, hj => exact ⟨2, (Option.some.inj hj).symm, by decide, by decide⟩
        | 2, hj => exact ⟨2, (Option.some.inj hj).symm, by decide, by decide⟩
        | 3, hj => exact ⟨3, (Option.some.inj hj).symm, by decide, by decide⟩
        | 4, hj => exact ⟨4, (Option.some.inj hj).symm, by decide, by decide⟩
        | n + 5, hj => simp at hj
      have f34 : Fr d H3 H4 := (same_fr (same_new na)).trans f4
      refine ⟨(by show 2 ≤ sizeLine; decide), fun b nb => ?_⟩
      obtain ⟨bd, bl⟩ := D4.nd nb
      have g1 : H4 Dn = some (.lst (ks.map fun t => V.ref t.1)) := f34 _ _ Dd h2
      have bDn : b ≠ Dn := Ne.symm (ne_of_none g1 nb)
      have nbH : H b = none := (h7.trans f34).free nb bd
      have aDn : H Dn = none := f02.free nD Dd
      refine ⟨_, (by rw [upd_ne (Ne.symm bDn)]; exact g1), by rw [List.length_map, sizeLine_eq]; omega, ks ++ [(b, x, n)], ?_, ?_, fun t' z => ?_, ?_, ?_, ?_, ?_⟩
      · rw [List.map_append, h1, List.take_add_one, hx']
        rfl
      · rw [upd_same, List.map_append]
        rfl
      · rcases List.mem_append.mp z with z | z
        · obtain ⟨e1, e2, e3⟩ := h3 t' z
          have td : t'.1 ≠ d := by
            intro e
            have z1 := e1.1
            rw [e] at z1
            obtain ⟨⟨_, _, _, z2, _⟩, _⟩ := h5
            rw [z2] at z1
            cases z1
          have e5 : KindAt H4 t' := e1.fr f34 td
          have tb : t'.1 ≠ b := ne_of_none e5.1 nb
          exact ⟨⟨by rw [upd_ne e3, upd_ne tb]; exact e5.1, e5.2⟩, e2, e3⟩
        · rw [List.mem_singleton.mp z]
          exact ⟨⟨by rw [upd_ne bDn]; exact upd_same, wd x mx, n1, n4⟩, nbH, bDn⟩
      · rw [upd_ne (Ne.symm Dp'), upd_ne (ne_of_none (f34 _ _ pd h4) nb)]
        exact f34 _ _ pd h4
      · exact (D4.upd bd bl).upd Dd Dl
      · exact Fr.upd_new (Fr.refl d H2) (Fr.upd_new (Fr.refl d H2) (h6.trans f34) (h6.trans f34 |>.free nb bd) bd) nD Dd
      · exact Fr.upd_new (Fr.refl d H) (Fr.upd_new (Fr.refl d H) (h7.trans f34) nbH bd) aDn Dd
    · rintro H3 ⟨ks, h1, h2, h3, h4, h5, h6, h7⟩
      rw [List.length_map, List.take_length] at h1
      have lk : ks.length = xs.length := by rw [← h1, List.length_map]
      exact q Dn ks H3 (by omega) (by omega) (by rw [h1]; exact nd) (fun t z => (h3 t z).1) (f02.free nD Dd) h2 (h5.mono (by rw [List.length_map]; omega)) h7
end
end My

/-! S02: drawn stores -/
namespace My
open PySem PySem.Spec PyProof.Rows L2
open TL (tl len_tl tl_append)
abbrev sStore : Stmt := top 16
structure Blt2 (mg : Str → Option Value) : Prop where
  tuple : mg "tuple" = none
  sorted : mg "sorted" = none
  set : mg "set" = none
  dict : mg "dict" = none
  isi : mg "isinstance" = none
  str : mg "str" = none
  all : mg "all" = none
theorem len_sub {α : Type} [DecidableEq α] : ∀ {l m : List α}, l.Nodup → (∀ x ∈ l, x ∈ m) → l.length ≤ m.length
  | [], _, _, _ => Nat.zero_le _
  | x :: r, m, nd, h => by
    obtain ⟨nx, nr⟩ := List.nodup_cons.mp nd
    have mx := h x List.mem_cons_self
    have z := len_sub (m := m.erase x) nr fun y hy => (List.mem_erase_of_ne fun e => nx (by rw [← e]; exact hy)).mpr (h y (List.mem_cons_of_mem _ hy))
    rw [List.length_erase_of_mem mx] at z
    have p := List.length_pos_of_mem mx
    rw [List.length_cons]
    omega
/-- a fact of the relations ks with values of vals -/
def FactOk (ks : List (Addr × Str × Nat)) (vals : List Str) (k : List Str) : Prop := ∃ (x : Str) (ws : List Str), k = x :: ws ∧ (∃ t ∈ ks, x = t.2.1 ∧ ws.length = t.2.2) ∧ ∀ y ∈ ws, y ∈ vals
def spStore (K : PySem.W.Frag) : Sp := fun vs H Q _ => ∃ (d l : Addr) (ns : List Int) (k : Nat) (kp vp : Addr) (ks : List (Addr × Str × Nat)) (vals : List Str) (m : Nat), vs = [.ref d, .ref kp, .ref vp, .int (m : Int)] ∧ m ≤ 60 ∧ Deck H d l ns k ∧ ns.length ≤ 63 ∧ k + 1000 < 1073741824 ∧
  (H kp = some (.lst (ks.map fun t => V.ref t.1)) ∧ kp ≠ d ∧ ks ≠ [] ∧ ks.length ≤ 10 ∧ ∀ t ∈ ks, KindAt H t ∧ t.1 ≠ d) ∧ (H vp = some (.lst (vals.map V.str)) ∧ vp ≠ d ∧ vals ≠ [] ∧ vals.length ≤ 100) ∧
  ∀ (p : Addr) (L : List (Addr × List Str)) (H' : Hp), H p = none → H' p = some (.tup (L.map fun q => V.ref q.1)) → L.length ≤ m → (∀ q ∈ L, SqT K H' q.1 (q.2.map V.str) ∧ FactOk ks vals q.2) → Asc ltK (L.map (·.2)) → Deck H' d l ns (k + 1 + 10 * m) → Fr d H H' → Q (.ref p) H'
section
variable {P : Program} {w : World} {K : PySem.W.Frag} {mg : Str → Option Value} {base : Heap}
theorem scStore : FnScope ["_law_deck_here", "_law_kinds_here", "_law_values", "_law_many", "_law_row", "_law_k", "_law_name", "_law_width", "_law_at"] ["_law_deck_here", "_law_kinds_here", "_law_values", "_law_many"] (defScope sStore) := ⟨rfl, rfl, rfl, by decide +kernel, rfl, by decide +kernel, by decide +kernel⟩
theorem ok_store {f fD fO : Addr} {fd fdD fdO : FuncData} (F : Fun K "_law_store" "_law_store" sStore f fd) (B : Blt mg) (B2 : Blt2 mg) (GD : FnOk P w K mg base CX0 1 fD fdD ["_law_deck_here", "_law_many"] spDraw) (mD : mg "_law_draw" = some (.ref fD))
    (kD : PySem.W.keepIn K (.ref fD) = true) (bD : Binds K fdD ["_law_deck_here", "_law_many"] []) (GO : FnOk P w K mg base CX0 2 fO fdO ["_law_deck_here", "_law_items"] (spOne K)) (mO : mg "_law_one" = some (.ref fO))
    (kO : PySem.W.keepIn K (.ref fO) = true) (bO : Binds K fdO ["_law_deck_here", "_law_items"] []) : FnOk P w K mg base CX0 3 f fd ["_law_deck_here", "_law_kinds_here", "_law_values", "_law_many"] (spStore K) := by
  refine F.ok scStore (fun vs H Q E h => ?_) (fun cdv A outer s H vs Q E hr h => ?_)
  · obtain ⟨d, l, ns, k, kp, vp, ks, vals, m, rfl, _⟩ := h
    rfl
  · obtain ⟨d, l, ns, k, kp, vp, ks, vals, m, rfl, hm, D, hn, hk, ⟨hkp, nkp, nks, fks, hks⟩, ⟨hvp, nvp, nvals, fvals⟩, q⟩ := h
    have hu := hr.units
    have hr1 : Room 1 _ := hr.mono (by decide)
    refine ⟨_, pss_cons (ps_set (i := 4) scStore.nd rfl (Or.inl rfl) (pe_lst pa_nil))
      (pss_cons (ps_for PassesOwn.never rfl (pi_range1 rfl B.range (pa_cons (pe_call GD hr1 rfl mD kD bD .nil pass0 (pa_cons (pv 0) (pa_cons (pe_op op_add (pv 3) pe_int) pa_nil))) pa_nil)) (pg_name (i := 5) scStore.nd rfl (Or.inl rfl))
        (pss_cons (ps_asg (pe_call GO hr rfl mO kO bO .nil pass0 (pa_cons (pv 0) (pa_cons (pv 1) pa_nil))) (pg_tup rfl (pgs_cons (pg_name (i := 6) scStore.nd rfl (Or.inl rfl)) (pgs_cons (pg_name (i := 7) scStore.nd rfl (Or.inl rfl)) pgs_nil))))
        (pss_one (ps_expr (pe_bm PySem.F.plainAttrs_list PySem.F.slot_list_append PySem.F.type_list_append mt_append (pv 4)
          (pa_cons (pe_op op_catA (pe_tup (pa_cons (pv 6) pa_nil)) (pe_callTy call_tuple_of (by rfl) B2.tuple boot_tuple
            (pa_cons (pe_lc (own := [("_law_at", 8)]) (g := gName 8) (tt := tYes) rfl scStore.nd (pi_range1 rfl B.range (pa_cons (pv 7) pa_nil)) (blkOk_by (own := [("_law_at", 8)]) (N := ["_law_deck_here", "_law_kinds_here", "_law_values", "_law_many", "_law_row", "_law_k", "_law_name", "_law_width", "_law_at"]) (sc := defScope sStore) (by decide +kernel))
              (fun _ _ _ _ _ => pg_name (i := 8) scStore.nd rfl (Or.inl rfl)) (fun _ _ _ _ _ => pts_nil) (fun _ _ _ _ _ => pe_call GO hr rfl mO kO bO .nil pass0 (pa_cons (pv 0) (pa_cons (pv 2) pa_nil)))) pa_nil))) pa_nil))))))
      (pss_one (ps_ret (pe_callTy call_tuple_of (by rfl) B2.tuple boot_tuple (pa_cons (pe_callB (cr_sortT rfl) (by rfl) B2.sorted boot_sorted (pa_cons (pe_callTy (cr_setT rfl hu) (by rfl) B2.set boot_set (pa_cons (pv 4) pa_nil)) pa_nil)) pa_nil))))), ?_⟩
    refine ⟨by decide, fun p np => ?_⟩
    obtain ⟨pd, pl⟩ := D.nd np
    have D0 := D.same (same_new (o := .lst []) np)
    have f0 : Fr d H (upd H p (.lst [])) := same_fr (same_new np)
    refine ⟨_, rfl, _, rfl, m, 1, rfl, rfl, d, l, ns, k, (m : Int) + 1, rfl, by omega, by omega, D0, hn, by omega, fun v H1 v0 v1 D1 f1 => ?_⟩
    obtain ⟨c, rfl, hc⟩ : ∃ c : Nat, v = (c : Int) ∧ c ≤ m := ⟨v.toNat, by omega, by omega⟩
    have f01 := f0.trans f1
    refine ⟨c, rfl, by omega, by omega, for_range (n := c) (fun i σ G => ∃ (L : List (Addr × List Str)) (v5 v6 v7 : Option V), σ = [some (.ref d), some (.ref kp), some (.ref vp), some (.int (m : Int)), some (.ref p), v5, v6, v7, none] ∧
        L.length = i ∧ G p = some (.lst (L.map fun q => V.ref q.1)) ∧ (∀ q ∈ L, G q.1 = some (.tup (q.2.map V.str)) ∧ FactOk ks vals q.2) ∧ Deck G d l ns (k + 1 + 10 * i) ∧ Fr d H G)
      ⟨[], none, none, none, rfl, rfl, f1 _ _ pd upd_same, (fun q z => nomatch z), D1, f01⟩ ?_ ?_⟩
    · rintro i σ G hi ⟨L, v5, v6, v7, rfl, hL, gp, gL, DG, fG⟩
      have gk : G kp = some (.lst (ks.map fun t => V.ref t.1)) := fG _ _ nkp hkp
      have gv : G vp = some (.lst (vals.map V.str)) := fG _ _ nvp hvp
      refine ⟨_, rfl, _, rfl, d, l, ns, k + 1 + 10 * i, .ref kp, rfl, DG, hn, by omega, .inl ⟨kp, _, rfl, nkp, .inl (.inl (.inl (off_at nkp gk))), by simpa using nks, by rw [List.length_map]; omega, fun j v G2 hj D2 f2 => ?_⟩⟩
      obtain ⟨t, ht, rfl⟩ : ∃ t, ks[j]? = some t ∧ V.ref t.1 = v := by
        rw [List.getElem?_map] at hj
        exact Option.map_eq_some_iff.mp hj
      have mt : t ∈ ks := List.mem_of_getElem? ht
      obtain ⟨kt, td⟩ := hks t mt
      have fG2 := fG.trans f2
      have kt2 := kt.fr fG2 td
      refine ⟨t.1, _, rfl, .inl (.inl kt2.1), rfl, _, _, rfl, _, _, rfl, rfl, ?_⟩
      have pd2 : G2 p = some (.lst (L.map fun q => V.ref q.1)) := f2 _ _ pd gp
      refine ⟨_, rfl, .inl ⟨rfl, _, .inl (.inl pd2)⟩, _, rfl, (by show 1 ≤ sizeLine; decide), fun a na => ⟨_, rfl, (t.2.2 : Int), rfl, ?_, ?_, fun Dn nD => ?_⟩⟩
      · have z := kt.2.2.2
        omega
      · have z := kt.2.2.2
        omega
      obtain ⟨ad, al⟩ := D2.nd na
      have naH : H a = none := fG2.free na ad
      have D3 := D2.same (same_new (o := .tup [.str t.2.1]) na)
      obtain ⟨Dd, Dl⟩ := D3.nd nD
      have fG3 : Fr d H (upd G2 a (.tup [.str t.2.1])) := Fr.upd_new (Fr.refl d H) fG2 naH ad
      have nDH : H Dn = none := fG3.free nD Dd
      have aDn : a ≠ Dn := ne_of_none upd_same nD
      have w4 := kt.2.2.2
      have w0 := kt.2.2.1
      refine lc_range (lo := 0) (n := (t.2.2 : Int).toNat) (fun u H3 => ∃ ws : List Str, H3 Dn = some (.lst (ws.map V.str)) ∧ ws.length = u ∧ (∀ y ∈ ws, y ∈ vals) ∧ Deck H3 d l ns (k + 1 + 10 * i + 1 + u) ∧ Fr d H H3 ∧ (∀ b o, b ≠ d → b ≠ Dn → upd G2 a (.tup [.str t.2.1]) b = some o → H3 b = some o))
        ⟨[], upd_same, rfl, (fun y z => nomatch z), D3.same (same_new nD), Fr.upd_new (Fr.refl d H) fG3 nDH Dd, fun b o _ h2 e => by rw [upd_ne h2]; exact e⟩ ?_ ?_
      · rintro u H3 hu3 ⟨ws, g1, g2, g3, g4, g5, g6⟩
        refine ⟨rfl, ?_⟩
        dsimp only [tYes]
        rw [if_pos rfl]
        have gv3 : H3 vp = some (.lst (vals.map V.str)) := g5 _ _ nvp hvp
        have hu4 : u < t.2.2 := by omega
        refine ⟨_, rfl, _, rfl, d, l, ns, k + 1 + 10 * i + 1 + u, .ref vp, rfl, g4, hn, by omega, .inl ⟨vp, _, rfl, nvp, .inl (.inl (.inl (off_at nvp gv3))), by simpa using nvals, by rw [List.length_map]; omega, fun j v H4 hj D4 f4 => ?_⟩⟩
        obtain ⟨y, hy, rfl⟩ : ∃ y, vals[j]? = some y ∧ V.str y = v := by
          rw [List.getElem?_map] at hj
          exact Option.map_eq_some_iff.mp hj
        refine ⟨ws.map V.str, f4 _ _ Dd g1, by rw [List.length_map, sizeLine_eq]; omega, ws ++ [y], ?_, by rw [List.length_append, g2]; rfl, fun z hz => ?_, D4.upd Dd Dl, Fr.upd_new (Fr.refl d H) (g5.trans f4) nDH Dd, fun b o h1 h2 e => ?_⟩
        · rw [upd_same, List.map_append]
          rfl
        · rcases List.mem_append.mp hz with hz | hz
          · exact g3 z hz
          · rw [List.mem_singleton.mp hz]
            exact List.mem_of_getElem? hy
        · rw [upd_ne h2]
          exact f4 _ _ h1 (g6 b o h1 h2 e)
      · rintro H3 ⟨ws, g1, g2, g3, g4, g5, g6⟩
        have lw : ws.length = t.2.2 := by rw [g2, Int.toNat_natCast]
        refine ⟨Dn, _, rfl, .inl ⟨.inl (.inl g1), fun b nb => ?_⟩⟩
        obtain ⟨bd, bl⟩ := g4.nd nb
        have ga : H3 a = some (.tup [.str t.2.1]) := g6 a _ ad aDn upd_same
        have ab : a ≠ b := ne_of_none ga nb
        have nbH : H b = none := g5.free nb bd
        have g4b := g4.upd (o := .tup (ws.map V.str)) bd bl
        have g5b : Fr d H (upd H3 b (.tup (ws.map V.str))) := Fr.upd_new (Fr.refl d H) g5 nbH bd
        refine ⟨a, b, [.str t.2.1], ws.map V.str, rfl, rfl, .inl (.inl (by rw [upd_ne ab]; exact ga)), .inl (.inl upd_same), ?_, ?_, ?_, fun _ _ c nc => ?_⟩
        · rw [List.length_map, sizeLine_eq]
          show 1 + _ ≤ _
          omega
        · exact fun z => absurd z (List.cons_ne_nil _ _)
        · intro _ z
          have z2 := congrArg List.length z
          rw [List.length_map] at z2
          have z3 : ws.length = 0 := z2
          omega
        · obtain ⟨cd, cl⟩ := g4b.nd nc
          have ncH : H c = none := g5b.free nc cd
          have pD : p ≠ Dn := by
            have z : upd G2 a (.tup [.str t.2.1]) p = some (.lst (L.map fun q => V.ref q.1)) := (same_new na) _ _ pd2
            exact ne_of_none z nD
          have g3p : H3 p = some (.lst (L.map fun q => V.ref q.1)) := g6 p _ pd pD ((same_new na) _ _ pd2)
          have pb : p ≠ b := ne_of_none g3p nb
          have g3p' : upd H3 b (.tup (ws.map V.str)) p = some (.lst (L.map fun q => V.ref q.1)) := (same_new nb) _ _ g3p
          have pc : p ≠ c := ne_of_none g3p' nc
          refine ⟨p, _, _, rfl, rfl, by rw [upd_ne pc]; exact g3p', by rw [List.length_map, sizeLine_eq]; omega, L ++ [(c, t.2.1 :: ws)], _, _, _, rfl, by rw [List.length_append, hL]; rfl, ?_, fun z hz => ?_, ?_, ?_⟩
          · rw [upd_same, List.map_append]
            rfl
          · rcases List.mem_append.mp hz with hz | hz
            · obtain ⟨e1, e2⟩ := gL z hz
              have zd : z.1 ≠ d := by
                intro e
                rw [e] at e1
                obtain ⟨⟨_, _, _, z2, _⟩, _⟩ := DG
                rw [z2] at e1
                cases e1
              have e3 := (same_new na (o := .tup [.str t.2.1])) _ _ (f2 _ _ zd e1)
              have e4 := g6 z.1 _ zd (ne_of_none e3 nD) e3
              have e5 := (same_new nb (o := .tup (ws.map V.str))) _ _ e4
              refine ⟨?_, e2⟩
              rw [upd_ne (fun e => by rw [e, g3p'] at e5; cases e5), upd_ne (ne_of_none e5 nc)]
              exact e5
            · rw [List.mem_singleton.mp hz]
              refine ⟨?_, t.2.1, ws, rfl, ⟨t, mt, rfl, lw⟩, g3⟩
              rw [upd_ne (Ne.symm pc), upd_same]
              rfl
          · exact (((g4b.upd cd cl).upd pd pl).mono (by rw [g2] at lw; omega))
          · exact Fr.upd_new (Fr.refl d H) (Fr.upd_new (Fr.refl d H) g5b ncH cd) np pd
    · rintro σ G ⟨L, v5, v6, v7, rfl, hL, gp, gL, DG, fG⟩
      refine ⟨_, rfl, p, L, rfl, .inl (.inl (.inl gp)), by omega, fun z hz => .inl (.inl (gL z hz).1), fun a L' s1 s2 na => ?_⟩
      have gL' : ∀ z ∈ L', SqT K (upd G a (SetT P w a L')) z.1 (z.2.map V.str) ∧ FactOk ks vals z.2 := fun z hz => ⟨.inl (.inl ((same_new na) _ _ (gL z (s1 z hz)).1)), (gL z (s1 z hz)).2⟩
      refine ⟨a, L', rfl, upd_same, fun z hz => ⟨(gL' z hz).1, ?_⟩, fun L2 b pm asc nb => ?_⟩
      · obtain ⟨x, ws, e, _⟩ := (gL' z hz).2
        rw [e]
        exact List.cons_ne_nil _ _
      · have nb' : G b = none := (same_new na).free nb
        refine ⟨b, _, rfl, .inl ⟨.inl (.inl upd_same), fun c nc => ?_⟩⟩
        have nc1 : upd G a (SetT P w a L') c = none := (same_new nb).free nc
        have nc' : G c = none := (same_new na).free nc1
        obtain ⟨ad, al⟩ := DG.nd na
        have Da := DG.upd (o := SetT P w a L') ad al
        obtain ⟨bd, bl⟩ := Da.nd nb
        have Db := Da.upd (o := .lst (L2.map fun q => V.ref q.1)) bd bl
        obtain ⟨cd, cl⟩ := Db.nd nc
        have nc : upd (upd G a (SetT P w a L')) b (.lst (L2.map fun q => V.ref q.1)) c = none := nc
        have sm := ((same_new (o := SetT P w a L') na).trans (same_new (o := .lst (L2.map fun q => V.ref q.1)) nb)).trans (same_new (o := .tup (L2.map fun q => V.ref q.1)) nc)
        have lenL : L2.length ≤ L.length := by
          have n2 : (L2.map (·.2)).Nodup := asc_nodup tot_key asc
          have z := len_sub (l := L2.map (·.2)) (m := L.map (·.2)) n2 fun x hx => by
            obtain ⟨y, hy, rfl⟩ := List.mem_map.mp hx
            exact List.mem_map_of_mem (s1 y (pm.mem_iff.mp hy))
          rwa [List.length_map, List.length_map] at z
        refine q c L2 _ (fG.free nc' cd) upd_same (by omega) (fun z hz => ?_) asc ((Db.upd cd cl).mono (by omega)) (fG.trans (same_fr sm))
        have e1 := gL z (s1 z (pm.mem_iff.mp hz))
        exact ⟨.inl (.inl (sm _ _ e1.1)), e1.2⟩
end
end My

/-! N02: is_unknown -/
namespace My
open PySem PySem.Spec PyProof.Rows L2
open TL (tl len_tl tl_append)
abbrev sUnk : Stmt := top 2
/-- a list comprehension over the signs of a text -/
theorem lc_signs {x : Str} {g : TG} {tt : TT} {te : TE} {vs : List Nat} {σ : L2.St} {H1 : Hp} {D : Addr} {Last : Hp → Prop} (Pv : Nat → Hp → Prop) (h0 : Pv 0 (upd H1 D (.lst [])))
    (hs : ∀ i c H, (tl x)[i]? = some c → Pv i H → g (.str ⟨#[c]⟩) (wipe σ vs) H fun σ2 H2 => wipe σ2 vs = wipe σ vs ∧ tt σ2 H2 fun b H3 =>
      if b = true then te σ2 H3 fun y H4 => ∃ acc, H4 D = some (.lst acc) ∧ acc.length < sizeLine ∧ Pv (i + 1) (upd H4 D (.lst (acc ++ [y]))) else Pv (i + 1) H3) (hd : ∀ H, Pv (tl x).length H → Last H) :
    ∃ W : Nat → Nat → Hp → Prop, (∃ m, W 0 m (upd H1 D (.lst []))) ∧ ∀ i m H, W i m H → ((Its x).stop i H ∧ Last H) ∨ ((Its x).go i H ∧ ∃ Nx : Hp → Prop, (∀ H', Nx H' → ∃ m', m' < m ∧ W (i + 1) m' H') ∧
      ∀ v H', (Its x).yld i H v H' → g v (wipe σ vs) H' fun σ2 H2 => wipe σ2 vs = wipe σ vs ∧ tt σ2 H2 fun b H3 => if b = true then te σ2 H3 fun y H4 => ∃ acc, H4 D = some (.lst acc) ∧ acc.length < sizeLine ∧ Nx (upd H4 D (.lst (acc ++ [y]))) else Nx H3) := by
  have sz : x.cps.size = (tl x).length := by simp [tl]
  refine ⟨fun i m H => m = (tl x).length - i ∧ i ≤ (tl x).length ∧ Pv i H, ⟨_, rfl, Nat.zero_le _, h0⟩, ?_⟩
  rintro i m H ⟨rfl, hi, p⟩
  rcases Nat.lt_or_eq_of_le hi with lt | rfl
  · refine .inr ⟨(by show i < x.cps.size; omega), Pv (i + 1), fun H' p' => ⟨(tl x).length - (i + 1), by omega, rfl, lt, p'⟩, ?_⟩
    rintro v H' ⟨rfl, c, hc, rfl⟩
    exact hs i c _ (by simpa [tl] using hc) p
  · exact .inl ⟨(by show x.cps.size ≤ _; omega), hd H p⟩
def digs : List Nat := [48, 49, 50, 51, 52, 53, 54, 55, 56, 57]
def isUnk (x : Str) : Bool := decide ((tl x).head? = some 63) && (decide (1 ≤ ((tl x).drop 1).length) && decide (((tl x).drop 1).length ≤ 5)) && !decide (((tl x).drop 1).head? = some 48) && ((tl x).drop 1).all fun c => decide (c ∈ digs)
theorem starts_one (x : Str) (c : Nat) : Txt.startswith x ⟨#[c]⟩ = decide ((tl x).head? = some c) := by
  have h := StrLaws.subAt_one x c 0
  have e : (tl x).head? = x.cps.toList[0]? := List.head?_eq_getElem?
  unfold Txt.startswith
  rw [Bool.eq_iff_iff, Bool.and_eq_true, decide_eq_true_eq, decide_eq_true_eq, h, e]
def spUnk : Sp := fun vs H Q _ => ∃ x : Str, vs = [.str x] ∧ x.length ≤ 1000000 ∧ ∀ H', Same H H' → Q (.bl (isUnk x)) H'
theorem iteNo {c : Bool} {A B : Prop} (h : c = false) (b : B) : if c = true then A else B := by
  rw [h]
  exact iteF b
theorem iteYes {c : Bool} {A B : Prop} (h : c = true) (a : A) : if c = true then A else B := by
  rw [if_pos h]
  exact a
section
variable {P : Program} {w : World} {K : PySem.W.Frag} {mg : Str → Option Value} {base : Heap}
theorem scUnk : FnScope ["value", "digits", "sign"] ["value"] (defScope sUnk) := ⟨rfl, rfl, rfl, by decide +kernel, rfl, by decide +kernel, by decide +kernel⟩
theorem ok_unk {f : Addr} {fd : FuncData} (F : Fun K "is_unknown" "is_unknown" sUnk f fd) (B : Blt mg) (B2 : Blt2 mg) {td : Tok} (mD : mg "DIGITS" = some (.str "0123456789" td)) : FnOk P w K mg base CX0 1 f fd ["value"] spUnk := by
  refine F.ok scUnk (fun vs H Q E h => ?_) (fun cdv A outer s H vs Q E hr h => ?_)
  · obtain ⟨x, rfl, _⟩ := h
    rfl
  · obtain ⟨x, rfl, hx, q⟩ := h
    refine ⟨_, pss_cons (ps_if (PW.pt (pw_or (pt_not (pt_val (pe_callB RZ.call_isTy (by rfl) B2.isi boot_isinstance (pa_cons (pv 0) (pa_cons (pe_bltn rfl B2.str boot_str (v := .ty "str") rfl) pa_nil)))))
        (pw_or1 (pt_not (pt_val (pe_m1 PySem.F.slot_str_startswith PySem.F.type_str_startswith mt_startswith (pv 0) pe_str))))))
        (pss_one (ps_ret pe_bl)) pss_nil)
      (pss_cons (ps_set (i := 1) scUnk.nd rfl (Or.inl rfl) (pe_slice sl_str (pv 0) (po_some pe_int) po_none))
      (pss_one (ps_ret (pe_and (pe_chain op_le op_le pe_int (pe_callB call_len_str (by rfl) B.len PySem.boot_len (pa_cons (pv 1) pa_nil)) pe_int)
        (pe_and (pe_cmpR op_ne (pe_ix ix_str (pv 1) pe_int (fun _ _ => rfl)) pe_str (nomark _))
        (pe_one (pe_callB (cr_all rfl) (by rfl) B2.all boot_all (pa_cons (pe_lc (own := [("sign", 2)]) (g := gName 2) (tt := tYes) rfl scUnk.nd (pi_str (pv 1)) (blkOk_by (own := [("sign", 2)]) (N := ["value", "digits", "sign"]) (sc := defScope sUnk) (by decide +kernel))
          (fun _ _ _ _ _ => pg_name (i := 2) scUnk.nd rfl (Or.inl rfl)) (fun _ _ _ _ _ => pts_nil) (fun _ _ _ _ _ => pe_cmpR op_in_sign (pv 2) (pe_glob rfl mD (v := .str "0123456789") ⟨_, rfl⟩) (by rfl))) pa_nil)))))))), ?_⟩
    have hz : x.length ≤ sizeLine := by
      rw [sizeLine_eq]
      omega
    refine ⟨_, rfl, .str x, "str", rfl, .str x, true, rfl, iteNo rfl ⟨_, rfl, ⟨x, rfl⟩, x, "?", rfl, rfl, _, rfl, ite2 (fun c => ?_) fun c => ?_⟩⟩
    · have c1 : Txt.startswith x ⟨#[63]⟩ = false := by
        cases z : Txt.startswith x ⟨#[63]⟩ with
        | false => rfl
        | true =>
          have c' : (!Txt.startswith x ⟨#[63]⟩) = true := c
          rw [z] at c'
          cases c'
      rw [starts_one] at c1
      have e : isUnk x = false := by
        unfold isUnk
        rw [c1]
        rfl
      rw [← e]
      exact q H (Same.refl H)
    · have c1 : Txt.startswith x ⟨#[63]⟩ = true := by
        cases z : Txt.startswith x ⟨#[63]⟩ with
        | true => rfl
        | false => exact absurd (show (!Txt.startswith x ⟨#[63]⟩) = true by rw [z]; rfl) c
      rw [starts_one] at c1
      have ne : 0 < (tl x).length := by
        cases z : tl x with
        | nil =>
          rw [z] at c1
          cases c1
        | cons a r => exact Nat.succ_pos _
      have ey := tl_cut1 ne
      generalize hy : cutS x (some 1) none = y at ey
      have ly : y.length = (tl y).length := len_tl y
      refine ⟨_, rfl, 1, rfl, x, rfl, hz, ?_⟩
      rw [hy]
      have e0 : isUnk x = ((decide (1 ≤ (tl y).length) && decide ((tl y).length ≤ 5)) && !decide ((tl y).head? = some 48) && (tl y).all fun c => decide (c ∈ digs)) := by
        unfold isUnk
        rw [c1, ← ey]
        rfl
      have hzy : y.length ≤ sizeLine := by
        have z := congrArg List.length ey
        rw [List.length_drop] at z
        have z2 := len_tl x
        omega
      have fin : ∀ (v : Bool) (H' : Hp), Same H H' → isUnk x = v → Q (.bl v) H' := fun v H' sm e => by
        rw [← e]
        exact q H' sm
      have Hs := Same.refl H
      refine ⟨_, rfl, y, rfl, hzy, 1, _, rfl, rfl, _, rfl, ite2 (fun k1 => ⟨_, _, rfl, rfl, _, rfl, ite2 (fun k2 => ?_) fun k2 => ?_⟩) fun k1 => ⟨false, rfl, iteF (fin false H Hs ?_)⟩⟩
      · have k1' : 1 ≤ (tl y).length := by
          have z := of_decide_eq_true k1
          omega
        have k2' : (tl y).length ≤ 5 := by
          have z := of_decide_eq_true k2
          omega
        obtain ⟨c0, r0, ec⟩ : ∃ c r, tl y = c :: r := by
          cases z : tl y with
          | nil =>
            rw [z] at k1'
            exact absurd k1' (by simp)
          | cons c r => exact ⟨c, r, rfl⟩
        have at0 : atI y.cps.toList 0 = some c0 := atI_nat (j := 0) (by show (tl y)[0]? = some c0; rw [ec]; rfl)
        refine ⟨_, rfl, y, 0, c0, rfl, rfl, hzy, at0, rfl, _, rfl, ite2 (fun k3 => ?_) fun k3 => fin false H Hs ?_⟩
        · have c48 : c0 ≠ 48 := by
            rintro rfl
            cases k3
          refine ⟨_, rfl, y, rfl, fun Dn nD => ?_⟩
          refine lc_signs (x := y) (fun i G => G Dn = some (.lst (((tl y).take i).map fun c => V.bl (decide (c ∈ digs)))) ∧ Same H G) ⟨upd_same, same_new nD⟩ ?_ ?_
          · rintro i c G hc ⟨g1, g2⟩
            refine ⟨rfl, ?_⟩
            dsimp only [tYes]
            rw [if_pos rfl]
            refine ⟨_, rfl, c, "0123456789", rfl, rfl, _, g1, ?_, ?_, fun b o h => ?_⟩
            · rw [List.length_map, List.length_take, sizeLine_eq]
              omega
            · rw [upd_same, List.take_add_one, hc, List.map_append]
              rfl
            · rw [upd_ne (ne_of_none h nD)]
              exact g2 _ _ h
          · rintro G ⟨g1, g2⟩
            rw [List.take_length] at g1
            refine ⟨Dn, (tl y).map fun c => decide (c ∈ digs), rfl, .inl (.inl (by rw [List.map_map]; exact g1)), fin _ G g2 ?_⟩
            rw [e0, decide_eq_true k1', decide_eq_true k2', ec]
            have n48 : decide ((c0 :: r0).head? = some 48) = false := decide_eq_false fun z => c48 (Option.some.inj z)
            rw [n48, List.all_map]
            rfl
        · have c48 : c0 = 48 := by
            by_cases z : c0 = 48
            · exact z
            · refine absurd ?_ k3
              show (!decide (V.str ⟨#[c0]⟩ = V.str ⟨#[48]⟩)) = true
              have z2 : ¬ V.str ⟨#[c0]⟩ = V.str ⟨#[48]⟩ := fun e => z (by
                have e1 := congrArg Str.cps (V.str.inj e)
                have e2 := congrArg Array.toList e1
                exact (List.cons.inj e2).1)
              rw [decide_eq_false z2]
              rfl
          rw [e0, ec, c48, decide_eq_true (show (48 :: r0).head? = some 48 from rfl)]
          simp
      · refine fin false H Hs ?_
        have z : ¬ (tl y).length ≤ 5 := fun h => k2 (decide_eq_true (by omega))
        rw [e0, decide_eq_false z]
        simp
      · have z : ¬ 1 ≤ (tl y).length := fun h => k1 (decide_eq_true (by omega))
        rw [e0, decide_eq_false z]
        simp
end
end My

/-! R02: the unknowns of a store, by the program and by the law -/
namespace My
open PySem PySem.Spec PyProof.Rows L2
open TL (tl len_tl tl_append)
abbrev sUnkS : Stmt := top 3
abbrev sNames : Stmt := top 17
/-- a store as it stands: its facts' tuples and their texts -/
structure StoreAt (K : PySem.W.Frag) (H : Hp) (p : Addr) (L : List (Addr × List Str)) : Prop where
  tup : SqT K H p (L.map fun q => V.ref q.1)
  facts : ∀ q ∈ L, SqT K H q.1 (q.2.map V.str)
  few : L.length ≤ 15
  shape : ∀ q ∈ L, 1 ≤ q.2.length ∧ q.2.length ≤ 5 ∧ ∀ y ∈ q.2, 0 < (tl y).length ∧ (tl y).length ≤ 8
  two : ∀ q ∈ L, 2 ≤ q.2.length
theorem StoreAt.same {K : PySem.W.Frag} {H H' : Hp} {p : Addr} {L : List (Addr × List Str)} (S : StoreAt K H p L) (e : Same H H') : StoreAt K H' p L :=
  ⟨same_seqT e S.tup, fun q hq => same_seqT e (S.facts q hq), S.few, S.shape, S.two⟩
def spUnkS (K : PySem.W.Frag) (isU : Str → Bool) : Sp := fun vs H Q _ => ∃ (p : Addr) (L : List (Addr × List Str)), vs = [.ref p] ∧ StoreAt K H p L ∧
  ∀ (a : Addr) (ys : List Str) (H' : Hp), Asc ltS ys → (∀ y, y ∈ ys ↔ ∃ q ∈ L, y ∈ q.2.drop 1 ∧ isU y = true) → H' a = some (.tup (ys.map V.str)) → Same H H' → Q (.ref a) H'
theorem over_tup {K : PySem.W.Frag} {a : Addr} {xs : List V} {g : TG} {tt : TT} {ti : TIn} {vs : List Nat} {σ : L2.St} {H0 : Hp} {Last : Hp → Prop} (Pv : Nat → Hp → Prop) (h0 : Pv 0 H0) (hl : ∀ i H, i ≤ xs.length → Pv i H → SqT K H a xs)
    (hs : ∀ i x H, xs[i]? = some x → Pv i H → g x (wipe σ vs) H fun σ2 H2 => wipe σ2 vs = wipe σ vs ∧ tt σ2 H2 fun b H3 => if b = true then ti σ2 H3 (Pv (i + 1)) else Pv (i + 1) H3) (hd : ∀ H, Pv xs.length H → Last H) :
    ∃ (W : Nat → Nat → Hp → Prop) (m0 : Nat), W 0 m0 H0 ∧ Turns (Itt K a) g tt ti vs σ W Last := ⟨_, xs.length, ⟨rfl, Nat.zero_le _, h0⟩, turns_tup Pv hl hs hd⟩
theorem cut_drop1 (ws : List Str) (h : 1 ≤ ws.length) : cutV (ws.map V.str) (some 1) none = (ws.drop 1).map V.str := by
  unfold cutV
  rw [HT.sIx_none, List.length_map, show HT.sIx ws.length 0 (some 1) = min 1 ws.length from HT.sIx_nat ws.length 0 1, Nat.min_eq_left h, ← List.map_drop]
  exact List.take_of_length_le (by rw [List.length_map, List.length_drop]; exact Nat.le_refl _)
theorem not_whole (ws : List Str) (h : 1 ≤ ws.length) (b : Prop) : ¬ (HT.sIx (ws.map V.str).length 0 (some 1) = 0 ∧ b) := by
  rw [List.length_map, show HT.sIx ws.length 0 (some 1) = min 1 ws.length from HT.sIx_nat ws.length 0 1, Nat.min_eq_left h]
  exact fun z => absurd z.1 (by decide)
section
variable {P : Program} {w : World} {K : PySem.W.Frag} {mg : Str → Option Value} {base : Heap}
theorem scUnkS : FnScope ["store", "fact", "part"] ["store"] (defScope sUnkS) := ⟨rfl, rfl, rfl, by decide +kernel, rfl, by decide +kernel, by decide +kernel⟩
theorem ok_unkS {f fU : Addr} {fd fdU : FuncData} (F : Fun K "unknowns" "unknowns" sUnkS f fd) (B : Blt mg) (B2 : Blt2 mg) (GU : FnOk P w K mg base CX0 1 fU fdU ["value"] spUnk) (mU : mg "is_unknown" = some (.ref fU))
    (kU : PySem.W.keepIn K (.ref fU) = true) (bU : Binds K fdU ["value"] []) : FnOk P w K mg base CX0 2 f fd ["store"] (spUnkS K isUnk) := by
  refine F.ok scUnkS (fun vs H Q E h => ?_) (fun cdv A outer s H vs Q E hr h => ?_)
  · obtain ⟨p, L, rfl, _⟩ := h
    rfl
  · obtain ⟨p, L, rfl, S, q⟩ := h
    have hu := hr.units
    refine ⟨_, pss_one (ps_ret (pe_callTy call_tuple_of (by rfl) B2.tuple boot_tuple (pa_cons (pe_callB (cr_sortS rfl) (by rfl) B2.sorted boot_sorted
      (pa_cons (pe_sq2 (own := [("fact", 1), ("part", 2)]) (vs1 := [2]) (g := gName 1) (g1 := gName 2) (tt := tYes) (wi1 := iTup K (tSl (rSlA K) (tVar 1) (tPart (tC (.int 1))) tNoPart)) rfl scUnkS.nd hu (pi_tup (pv 0)) (blkOk_by (own := [("fact", 1), ("part", 2)]) (N := ["store", "fact", "part"]) (sc := defScope sUnkS) (by decide +kernel)) (by decide)
        (fun _ _ _ _ _ => pg_name (i := 1) scUnkS.nd rfl (Or.inl rfl)) (fun _ _ _ _ _ => pts_nil) (fun _ _ _ _ _ => pi_tup (pe_slice sl_tupA (pv 1) (po_some pe_int) po_none)) (fun _ _ _ _ _ => pg_name (i := 2) scUnkS.nd rfl (Or.inl rfl))
        (fun _ _ _ _ _ => pts_one (pt_val (pe_call GU hr rfl mU kU bU .nil pass0 (pa_cons (pv 2) pa_nil)))) (fun _ _ _ _ _ => pv 2)) pa_nil)) pa_nil))), ?_⟩
    refine ⟨_, rfl, p, rfl, ⟨_, S.tup⟩, fun D nD => ⟨SetS w D [], .inl rfl, over_tup (K := K) (xs := L.map fun (q : Addr × List Str) => V.ref q.1) (fun i G => ∃ xs : List Str, G D = some (SetS w D xs) ∧ (∀ y, y ∈ xs ↔ ∃ q ∈ L.take i, y ∈ q.2.drop 1 ∧ isUnk y = true) ∧ xs.length ≤ 4 * i ∧ Same H G)
      ⟨[], upd_same, fun y => by simp, Nat.zero_le _, same_new nD⟩ (fun i G _ ⟨xs, _, _, _, s4⟩ => same_seqT s4 S.tup) ?_ ?_⟩⟩
    · rintro i v G hv ⟨xs, g1, g2, g3, g4⟩
      obtain ⟨t, ht, rfl⟩ : ∃ t, L[i]? = some t ∧ V.ref t.1 = v := by
        rw [List.getElem?_map] at hv
        exact Option.map_eq_some_iff.mp hv
      have mt : t ∈ L := List.mem_of_getElem? ht
      have hi : i < L.length := (List.getElem?_eq_some_iff.mp ht).1
      obtain ⟨sh1, sh2, sh3⟩ := S.shape t mt
      have few := S.few
      refine ⟨rfl, ?_⟩
      dsimp only [tYes]
      rw [if_pos rfl]
      refine ⟨_, rfl, 1, rfl, t.1, _, rfl, same_seqT g4 (S.facts t mt), fun z => absurd z (not_whole t.2 sh1 _), fun _ c nc => ?_⟩
      rw [cut_drop1 t.2 sh1]
      have cD : D ≠ c := ne_of_none g1 nc
      refine ⟨c, rfl, ⟨_, .inl (.inl upd_same)⟩, over_tup (K := K) (xs := (t.2.drop 1).map V.str) (fun j G' => ∃ ys : List Str, G' D = some (SetS w D ys) ∧ (∀ y, y ∈ ys ↔ y ∈ xs ∨ (y ∈ (t.2.drop 1).take j ∧ isUnk y = true)) ∧ ys.length ≤ 4 * i + j ∧ Same H G' ∧ G' c = some (.tup ((t.2.drop 1).map V.str)))
        ⟨xs, by rw [upd_ne cD]; exact g1, fun y => by simp, g3, g4.trans (same_new nc), upd_same⟩ (fun j G' _ ⟨ys, _, _, _, _, h5⟩ => .inl (.inl h5)) ?_ ?_⟩
      · rintro j v G' hv ⟨ys, h1, h2, h3, h4, h5⟩
        obtain ⟨y, hy, rfl⟩ : ∃ y, (t.2.drop 1)[j]? = some y ∧ V.str y = v := by
          rw [List.getElem?_map] at hv
          exact Option.map_eq_some_iff.mp hv
        have my : y ∈ t.2.drop 1 := List.mem_of_getElem? hy
        have hj : j < (t.2.drop 1).length := (List.getElem?_eq_some_iff.mp hy).1
        rw [List.length_drop] at hj
        have ly := (sh3 y (List.mem_of_mem_drop my)).2
        refine ⟨rfl, _, rfl, y, rfl, by rw [len_tl]; omega, fun G2 sm => ⟨_, rfl, ite2 (fun c1 => ?_) fun c1 => ?_⟩⟩
        · refine ⟨_, rfl, .inl ⟨y, ys, rfl, sm _ _ h1, by omega, fun zs ad => ⟨zs, upd_same, fun x => ?_, ?_, ?_, ?_⟩⟩⟩
          · rw [AddS.mem ad, h2 x, List.take_add_one, hy]
            constructor
            · rintro (rfl | h | ⟨h, h'⟩)
              · exact .inr ⟨List.mem_append_right _ List.mem_cons_self, c1⟩
              · exact .inl h
              · exact .inr ⟨List.mem_append_left _ h, h'⟩
            · rintro (h | ⟨h, h'⟩)
              · exact .inr (.inl h)
              · rcases List.mem_append.mp h with h | h
                · exact .inr (.inr ⟨h, h'⟩)
                · exact .inl (List.mem_singleton.mp h)
          · have z := AddS.len ad
            omega
          · intro b o hb
            rw [upd_ne (ne_of_none hb nD)]
            exact sm _ _ (h4 _ _ hb)
          · rw [upd_ne (Ne.symm cD)]
            exact sm _ _ h5
        · refine ⟨ys, sm _ _ h1, fun x => ?_, by omega, h4.trans sm, sm _ _ h5⟩
          rw [h2 x, List.take_add_one, hy]
          constructor
          · rintro (h | ⟨h, h'⟩)
            · exact .inl h
            · exact .inr ⟨List.mem_append_left _ h, h'⟩
          · rintro (h | ⟨h, h'⟩)
            · exact .inl h
            · rcases List.mem_append.mp h with h | h
              · exact .inr ⟨h, h'⟩
              · rw [List.mem_singleton.mp h] at h'
                exact absurd h' c1
      · rintro G' ⟨ys, h1, h2, h3, h4, h5⟩
        rw [List.length_map] at h2 h3
        refine ⟨ys, h1, fun y => ?_, ?_, h4⟩
        · rw [h2 y, List.take_length, g2 y, List.take_add_one, ht]
          constructor
          · rintro (⟨q, m, h⟩ | h)
            · exact ⟨q, List.mem_append_left _ m, h⟩
            · exact ⟨t, List.mem_append_right _ List.mem_cons_self, h⟩
          · rintro ⟨q, m, h⟩
            rcases List.mem_append.mp m with m | m
            · exact .inl ⟨q, m, h⟩
            · rw [List.mem_singleton.mp m] at h
              exact .inr h
        · rw [List.length_drop] at h3
          omega
    · rintro G ⟨xs, g1, g2, g3, g4⟩
      rw [List.length_map, List.take_length] at g2
      refine ⟨D, xs, rfl, g1, fun ys b asc pm nb => ⟨b, _, rfl, .inl ⟨.inl (.inl upd_same), fun c nc => ?_⟩⟩⟩
      exact q c ys _ asc (fun y => pm.mem_iff.trans (g2 y)) upd_same ((g4.trans (same_new nb)).trans (same_new nc))
end
end My

/-! L02: the law's own unknowns of a store -/
namespace My
open PySem PySem.Spec PyProof.Rows L2
open TL (tl len_tl tl_append)
def isQ (x : Str) : Bool := decide ((tl x).head? = some 63)
theorem one_eq (a b : Nat) : decide (V.str ⟨#[a]⟩ = V.str ⟨#[b]⟩) = decide (a = b) := by
  refine decide_eq_decide.mpr ⟨fun e => ?_, fun e => by rw [e]⟩
  have e2 := congrArg Array.toList (congrArg Str.cps (V.str.inj e))
  exact (List.cons.inj e2).1
section
variable {P : Program} {w : World} {K : PySem.W.Frag} {mg : Str → Option Value} {base : Heap}
theorem scNames : FnScope ["_law_store_here", "_law_row", "_law_fact", "_law_value"] ["_law_store_here"] (defScope sNames) := ⟨rfl, rfl, rfl, by decide +kernel, rfl, by decide +kernel, by decide +kernel⟩
theorem ok_names {f : Addr} {fd : FuncData} (F : Fun K "_law_names" "_law_names" sNames f fd) (B : Blt mg) (B2 : Blt2 mg) : FnOk P w K mg base CX0 2 f fd ["_law_store_here"] (spUnkS K isQ) := by
  refine F.ok scNames (fun vs H Q E h => ?_) (fun cdv A outer s H vs Q E hr h => ?_)
  · obtain ⟨p, L, rfl, _⟩ := h
    rfl
  · obtain ⟨p, L, rfl, S, q⟩ := h
    have hu := hr.units
    refine ⟨_, pss_cons (ps_set (i := 1) scNames.nd rfl (Or.inl rfl) (pe_lst pa_nil))
      (pss_cons (ps_for PassesOwn.never rfl (pi_tup (pv 0)) (pg_name (i := 2) scNames.nd rfl (Or.inl rfl))
        (pss_one (ps_expr (pe_bm PySem.F.plainAttrs_list PySem.F.slot_list_extend PySem.F.type_list_extend mt_extend (pv 1)
          (pa_cons (pe_lc (own := [("_law_value", 3)]) (g := gName 3) rfl scNames.nd (pi_tup (pe_slice sl_tupA (pv 2) (po_some pe_int) po_none)) (blkOk_by (own := [("_law_value", 3)]) (N := ["_law_store_here", "_law_row", "_law_fact", "_law_value"]) (sc := defScope sNames) (by decide +kernel))
            (fun _ _ _ _ _ => pg_name (i := 3) scNames.nd rfl (Or.inl rfl)) (fun _ _ _ _ _ => pts_one (pt_cmpR op_eq (pe_ix ix_str (pv 3) pe_int (fun _ _ => rfl)) pe_str (nomark _))) (fun _ _ _ _ _ => pv 3)) pa_nil)))))
      (pss_one (ps_ret (pe_callTy call_tuple_of (by rfl) B2.tuple boot_tuple (pa_cons (pe_callB (cr_sortS rfl) (by rfl) B2.sorted boot_sorted (pa_cons (pe_callTy (cr_setS rfl) (by rfl) B2.set boot_set (pa_cons (pv 1) pa_nil)) pa_nil)) pa_nil))))), ?_⟩
    refine ⟨by decide, fun r nr => ⟨_, rfl, p, rfl, ⟨_, same_seqT (same_new nr) S.tup⟩, for_tup (K := K) (xs := L.map fun (q : Addr × List Str) => V.ref q.1) (fun i σ G => ∃ (zs : List Str) (v2 : Option V), σ = [some (.ref p), some (.ref r), v2, none] ∧ G r = some (.lst (zs.map V.str)) ∧ (∀ y, y ∈ zs ↔ ∃ q ∈ L.take i, y ∈ q.2.drop 1 ∧ isQ y = true) ∧ zs.length ≤ 4 * i ∧ Same H G)
      ⟨[], none, rfl, upd_same, fun y => by simp, Nat.zero_le _, same_new nr⟩ (fun i σ G _ ⟨zs, _, _, _, _, _, s4⟩ => same_seqT s4 S.tup) ?_ ?_⟩⟩
    · rintro i v σ G hv ⟨zs, v2, rfl, g1, g2, g3, g4⟩
      obtain ⟨t, ht, rfl⟩ : ∃ t, L[i]? = some t ∧ V.ref t.1 = v := by
        rw [List.getElem?_map] at hv
        exact Option.map_eq_some_iff.mp hv
      have mt : t ∈ L := List.mem_of_getElem? ht
      have hi : i < L.length := (List.getElem?_eq_some_iff.mp ht).1
      obtain ⟨sh1, sh2, sh3⟩ := S.shape t mt
      have few := S.few
      refine ⟨_, rfl, .inl ⟨rfl, _, .inl (.inl g1)⟩, _, rfl, 1, rfl, t.1, _, rfl, same_seqT g4 (S.facts t mt), fun z => absurd z (not_whole t.2 sh1 _), fun _ c nc => ?_⟩
      rw [cut_drop1 t.2 sh1]
      refine ⟨c, rfl, ⟨_, .inl (.inl upd_same)⟩, fun D nD => ?_⟩
      have cr : r ≠ c := ne_of_none g1 nc
      have rD : r ≠ D := ne_of_none ((same_new nc) _ _ g1) nD
      refine lc_tup (K := K) (xs := (t.2.drop 1).map V.str) (fun j G' => ∃ ys : List Str, G' D = some (.lst (ys.map V.str)) ∧ (∀ y, y ∈ ys ↔ (y ∈ (t.2.drop 1).take j ∧ isQ y = true)) ∧ ys.length ≤ j ∧ Same (upd G c (.tup ((t.2.drop 1).map V.str))) G')
        ⟨[], upd_same, fun y => by simp, Nat.zero_le _, same_new nD⟩ (fun j G' _ ⟨ys, _, _, _, h4⟩ => .inl (.inl (h4 _ _ upd_same))) ?_ ?_
      · rintro j v G' hv ⟨ys, h1, h2, h3, h4⟩
        obtain ⟨y, hy, rfl⟩ : ∃ y, (t.2.drop 1)[j]? = some y ∧ V.str y = v := by
          rw [List.getElem?_map] at hv
          exact Option.map_eq_some_iff.mp hv
        have my : y ∈ t.2.drop 1 := List.mem_of_getElem? hy
        have hj : j < (t.2.drop 1).length := (List.getElem?_eq_some_iff.mp hy).1
        rw [List.length_drop] at hj
        obtain ⟨ly0, ly⟩ := sh3 y (List.mem_of_mem_drop my)
        obtain ⟨c0, r0, ec⟩ : ∃ c r, tl y = c :: r := by
          cases z : tl y with
          | nil =>
            rw [z] at ly0
            exact absurd ly0 (by simp)
          | cons c r => exact ⟨c, r, rfl⟩
        have at0 : atI y.cps.toList 0 = some c0 := atI_nat (j := 0) (by show (tl y)[0]? = some c0; rw [ec]; rfl)
        have eQ : isQ y = decide (c0 = 63) := by
          unfold isQ
          rw [ec]
          exact decide_eq_decide.mpr ⟨fun z => Option.some.inj z, fun z => by rw [z]; rfl⟩
        refine ⟨rfl, _, rfl, y, 0, c0, rfl, rfl, by rw [len_tl, sizeLine_eq]; omega, at0, rfl, _, rfl, ite2 (fun c1 => ?_) fun c1 => ?_⟩
        · have c1 : isQ y = true := by
            rw [eQ, ← one_eq]
            exact c1
          refine ⟨_, rfl, _, h1, by rw [List.length_map, sizeLine_eq]; omega, ys ++ [y], by rw [upd_same, List.map_append]; rfl, fun x => ?_, by rw [List.length_append]; exact Nat.succ_le_succ h3, fun b o hb => ?_⟩
          · rw [List.mem_append, h2 x, List.take_add_one, hy]
            constructor
            · rintro (⟨h, h'⟩ | h)
              · exact ⟨List.mem_append_left _ h, h'⟩
              · rw [List.mem_singleton.mp h]
                exact ⟨List.mem_append_right _ List.mem_cons_self, c1⟩
            · rintro ⟨h, h'⟩
              rcases List.mem_append.mp h with h | h
              · exact .inl ⟨h, h'⟩
              · exact .inr h
          · rw [upd_ne (ne_of_none hb nD)]
            exact h4 _ _ hb
        · refine ⟨ys, h1, fun x => ?_, by omega, h4⟩
          rw [h2 x, List.take_add_one, hy]
          constructor
          · rintro ⟨h, h'⟩
            exact ⟨List.mem_append_left _ h, h'⟩
          · rintro ⟨h, h'⟩
            rcases List.mem_append.mp h with h | h
            · exact ⟨h, h'⟩
            · rw [List.mem_singleton.mp h, eQ, ← one_eq] at h'
              exact absurd h' c1
      · rintro G' ⟨ys, h1, h2, h3, h4⟩
        rw [List.length_map] at h2 h3
        rw [List.length_drop] at h3
        have gr : G' r = some (.lst (zs.map V.str)) := h4 _ _ ((same_new nc) _ _ g1)
        refine ⟨r, D, _, _, rfl, rfl, gr, h1, by rw [List.length_map, List.length_map, sizeLine_eq]; omega, zs ++ ys, _, rfl, by rw [upd_same, List.map_append], fun y => ?_, by rw [List.length_append]; omega, fun b o hb => ?_⟩
        · rw [List.mem_append, g2 y, h2 y, List.take_length, List.take_add_one, ht]
          constructor
          · rintro (⟨q, m, h⟩ | h)
            · exact ⟨q, List.mem_append_left _ m, h⟩
            · exact ⟨t, List.mem_append_right _ List.mem_cons_self, h⟩
          · rintro ⟨q, m, h⟩
            rcases List.mem_append.mp m with m | m
            · exact .inl ⟨q, m, h⟩
            · rw [List.mem_singleton.mp m] at h
              exact .inr h
        · rw [upd_ne (ne_of_none hb nr)]
          exact h4 _ _ ((same_new nc) _ _ (g4 _ _ hb))
    · rintro σ G ⟨zs, v2, rfl, g1, g2, g3, g4⟩
      rw [List.length_map] at g2 g3
      rw [List.take_length] at g2
      have few := S.few
      refine ⟨_, rfl, r, zs, rfl, .inl (.inl (.inl g1)), by omega, fun a xs hx na => ⟨a, xs, rfl, upd_same, fun ys b asc pm nb => ⟨b, _, rfl, .inl ⟨.inl (.inl upd_same), fun c nc => ?_⟩⟩⟩⟩
      exact q c ys _ asc (fun y => pm.mem_iff.trans ((hx y).trans (g2 y))) upd_same (((g4.trans (same_new na)).trans (same_new nb)).trans (same_new nc))
end
end My

/-! T02: facts and stores renamed by a table -/
namespace My
open PySem PySem.Spec PyProof.Rows L2
open TL (tl len_tl tl_append)
abbrev sRen : Stmt := top 4
abbrev sStoreBy : Stmt := top 6
abbrev sFactBy : Stmt := top 7
abbrev sStoreOf : Stmt := top 5
/-- what the table has for a text, or the text -/
def rn (T : List (Key × V)) (y : Str) : Str := match valV T (.inr y) with
  | some (.str z) => z
  | _ => y
/-- the table has texts alone -/
def TabV (T : List (Key × V)) : Prop := ∀ (y : Str) (v : V), valV T (.inr y) = some v → ∃ z : Str, v = .str z ∧ 0 < (tl z).length ∧ (tl z).length ≤ 8
theorem rn_get {T : List (Key × V)} (h : TabV T) (y : Str) : (valV T (.inr y)).getD (.str y) = .str (rn T y) := by
  unfold rn
  cases e : valV T (.inr y) with
  | none => rfl
  | some v =>
    obtain ⟨z, rfl, _⟩ := h y v e
    rfl
theorem rn_size {T : List (Key × V)} (h : TabV T) {y : Str} (hy : 0 < (tl y).length ∧ (tl y).length ≤ 8) : 0 < (tl (rn T y)).length ∧ (tl (rn T y)).length ≤ 8 := by
  unfold rn
  cases e : valV T (.inr y) with
  | none => exact hy
  | some v =>
    obtain ⟨z, rfl, hz⟩ := h y v e
    exact hz
def spFactBy (K : PySem.W.Frag) : Sp := fun vs H Q _ => ∃ (a tb : Addr) (ws : List Str) (T : List (Key × V)), vs = [.ref a, .ref tb] ∧ SqT K H a (ws.map V.str) ∧ ws.length ≤ 100 ∧ H tb = some (.dK T) ∧ TabV T ∧
  ∀ (c : Addr) (H' : Hp), H' c = some (.tup ((ws.map (rn T)).map V.str)) → Same H H' → Q (.ref c) H'
def spStoreBy (K : PySem.W.Frag) : Sp := fun vs H Q _ => ∃ (p tb : Addr) (L : List (Addr × List Str)) (T : List (Key × V)), vs = [.ref p, .ref tb] ∧ StoreAt K H p L ∧ H tb = some (.dK T) ∧ TabV T ∧
  ∀ (c : Addr) (M : List (Addr × List Str)) (H' : Hp), H' c = some (.tup (M.map fun q => V.ref q.1)) → (∀ q ∈ M, SqT K H' q.1 (q.2.map V.str)) → Asc ltK (M.map (·.2)) → (∀ k, k ∈ M.map (·.2) ↔ k ∈ L.map fun q => q.2.map (rn T)) → Same H H' → Q (.ref c) H'
theorem sqT_upd' {K : PySem.W.Frag} {G : Hp} {a D : Addr} {xs acc : List V} {o : HO} (h : SqT K G a xs) (e : G D = some (.lst acc)) : SqT K (upd G D o) a xs := by
  have ne : ∀ u : HO, G a = some u → (∀ zs, u ≠ .lst zs) → a ≠ D := fun u hu hz z => by
    rw [z, e] at hu
    exact hz _ (Option.some.inj hu).symm
  rcases h with (h | ⟨u, h⟩) | h
  · refine .inl (.inl ?_)
    rw [upd_ne (ne _ h fun zs z => by cases z)]
    exact h
  · refine .inl (.inr ⟨u, ?_⟩)
    rw [upd_ne (ne _ h fun zs z => by cases z)]
    exact h
  · exact .inr h
def spStoreOf (K : PySem.W.Frag) : Sp := fun vs H Q _ => ∃ (p : Addr) (M : List (Addr × List Str)), vs = [.ref p] ∧ SqL K H p (M.map fun q => V.ref q.1) ∧ M.length ≤ 50 ∧ (∀ q ∈ M, SqT K H q.1 (q.2.map V.str) ∧ q.2 ≠ []) ∧
  ∀ (c : Addr) (M2 : List (Addr × List Str)) (H' : Hp), H' c = some (.tup (M2.map fun q => V.ref q.1)) → (∀ q ∈ M2, SqT K H' q.1 (q.2.map V.str)) → Asc ltK (M2.map (·.2)) → (∀ k, k ∈ M2.map (·.2) ↔ k ∈ M.map (·.2)) → Same H H' → Q (.ref c) H'
section
variable {P : Program} {w : World} {K : PySem.W.Frag} {mg : Str → Option Value} {base : Heap}
theorem scFactBy : FnScope ["fact", "table", "part"] ["fact", "table"] (defScope sFactBy) := ⟨rfl, rfl, rfl, by decide +kernel, rfl, by decide +kernel, by decide +kernel⟩
theorem ok_factBy {f : Addr} {fd : FuncData} (F : Fun K "fact_by" "fact_by" sFactBy f fd) (B2 : Blt2 mg) : FnOk P w K mg base CX0 1 f fd ["fact", "table"] (spFactBy K) := by
  refine F.ok scFactBy (fun vs H Q E h => ?_) (fun cdv A outer s H vs Q E hr h => ?_)
  · obtain ⟨a, tb, ws, T, rfl, _⟩ := h
    rfl
  · obtain ⟨a, tb, ws, T, rfl, ha, few, hT, tv, q⟩ := h
    have hu := hr.units
    refine ⟨_, pss_one (ps_ret (pe_callTy call_tuple_of (by rfl) B2.tuple boot_tuple (pa_cons (pe_lc (own := [("part", 2)]) (g := gName 2) (tt := tYes) rfl scFactBy.nd (pi_tup (pv 0)) (blkOk_by (own := [("part", 2)]) (N := ["fact", "table", "part"]) (sc := defScope sFactBy) (by decide +kernel))
      (fun _ _ _ _ _ => pg_name (i := 2) scFactBy.nd rfl (Or.inl rfl)) (fun _ _ _ _ _ => pts_nil) (fun _ _ _ _ _ => pe_dget2 (by show A.units + 3 + 1 < cLine; have z : A.units + 3 + 64 < cLine := hu; omega) (pv 1) (pv 2) (pv 2) ⟨rfl, rfl, rfl, rfl⟩)) pa_nil))), ?_⟩
    refine ⟨_, rfl, a, rfl, ⟨_, ha⟩, fun D nD => ?_⟩
    refine lc_tup (K := K) (xs := ws.map V.str) (fun i G => G D = some (.lst (((ws.take i).map (rn T)).map V.str)) ∧ Same H G) ⟨upd_same, same_new nD⟩ (fun i G _ h => same_seqT h.2 ha) ?_ ?_
    · rintro i v G hv ⟨g1, g2⟩
      obtain ⟨y, hy, rfl⟩ : ∃ y, ws[i]? = some y ∧ V.str y = v := by
        rw [List.getElem?_map] at hv
        exact Option.map_eq_some_iff.mp hv
      refine ⟨rfl, ?_⟩
      dsimp only [tYes]
      rw [if_pos rfl]
      refine ⟨_, rfl, tb, rfl, .inl ⟨T, .inl (g2 _ _ hT)⟩, _, rfl, _, rfl, _, DGet.k (k := .inr y) (g2 _ _ hT), _, g1, ?_, ?_, fun b o hb => ?_⟩
      · rw [List.length_map, List.length_map, List.length_take, sizeLine_eq]
        omega
      · rw [upd_same, rn_get tv, List.take_add_one, hy, List.map_append, List.map_append]
        rfl
      · rw [upd_ne (ne_of_none hb nD)]
        exact g2 _ _ hb
    · rintro G ⟨g1, g2⟩
      rw [List.length_map, List.take_length] at g1
      exact ⟨D, _, rfl, .inl ⟨.inl (.inl g1), fun c nc => q c _ upd_same (g2.trans (same_new nc))⟩⟩
theorem scStoreOf : FnScope ["facts"] ["facts"] (defScope sStoreOf) := ⟨rfl, rfl, rfl, by decide +kernel, rfl, by decide +kernel, by decide +kernel⟩
theorem ok_storeOf {f : Addr} {fd : FuncData} (F : Fun K "store_of" "store_of" sStoreOf f fd) (B2 : Blt2 mg) : FnOk P w K mg base CX0 1 f fd ["facts"] (spStoreOf K) := by
  refine F.ok scStoreOf (fun vs H Q E h => ?_) (fun cdv A outer s H vs Q E hr h => ?_)
  · obtain ⟨p, M, rfl, _⟩ := h
    rfl
  · obtain ⟨p, M, rfl, hp, few, hM, q⟩ := h
    have hu := hr.units
    refine ⟨_, pss_one (ps_ret (pe_callTy call_tuple_of (by rfl) B2.tuple boot_tuple (pa_cons (pe_callB (cr_sortT rfl) (by rfl) B2.sorted boot_sorted (pa_cons (pe_callTy (cr_setT rfl hu) (by rfl) B2.set boot_set (pa_cons (pv 0) pa_nil)) pa_nil)) pa_nil))), ?_⟩
    refine ⟨_, rfl, p, M, rfl, .inl hp, by omega, fun z hz => (hM z hz).1, fun a L' h1 h2 na => ?_⟩
    refine ⟨a, L', rfl, upd_same, fun z hz => ⟨same_seqT (same_new na) (hM z (h1 z hz)).1, (hM z (h1 z hz)).2⟩, fun M2 b pm asc nb => ⟨b, _, rfl, .inl ⟨.inl (.inl upd_same), fun c nc => ?_⟩⟩⟩
    have nc : upd (upd H a (SetT P w a L')) b (.lst (M2.map fun q => V.ref q.1)) c = none := nc
    have sm := ((same_new (o := SetT P w a L') na).trans (same_new (o := .lst (M2.map fun q => V.ref q.1)) nb)).trans (same_new (o := .tup (M2.map fun q => V.ref q.1)) nc)
    exact q c M2 _ upd_same (fun z hz => same_seqT sm (hM z (h1 z (pm.mem_iff.mp hz))).1) asc (fun k => ((pm.map (·.2)).mem_iff).trans (h2 k)) sm
theorem scStoreBy : FnScope ["store", "table", "fact"] ["store", "table"] (defScope sStoreBy) := ⟨rfl, rfl, rfl, by decide +kernel, rfl, by decide +kernel, by decide +kernel⟩
theorem ok_storeBy {f fB fO : Addr} {fd fdB fdO : FuncData} (F : Fun K "store_by" "store_by" sStoreBy f fd) (GB : FnOk P w K mg base CX0 1 fB fdB ["fact", "table"] (spFactBy K)) (mB : mg "fact_by" = some (.ref fB))
    (kB : PySem.W.keepIn K (.ref fB) = true) (bB : Binds K fdB ["fact", "table"] []) (GO : FnOk P w K mg base CX0 1 fO fdO ["facts"] (spStoreOf K)) (mO : mg "store_of" = some (.ref fO))
    (kO : PySem.W.keepIn K (.ref fO) = true) (bO : Binds K fdO ["facts"] []) : FnOk P w K mg base CX0 2 f fd ["store", "table"] (spStoreBy K) := by
  refine F.ok scStoreBy (fun vs H Q E h => ?_) (fun cdv A outer s H vs Q E hr h => ?_)
  · obtain ⟨p, tb, L, T, rfl, _⟩ := h
    rfl
  · obtain ⟨p, tb, L, T, rfl, S, hT, tv, q⟩ := h
    refine ⟨_, pss_one (ps_ret (pe_call GO hr rfl mO kO bO .nil pass0 (pa_cons (pe_lc (own := [("fact", 2)]) (g := gName 2) (tt := tYes) rfl scStoreBy.nd (pi_tup (pv 0)) (blkOk_by (own := [("fact", 2)]) (N := ["store", "table", "fact"]) (sc := defScope sStoreBy) (by decide +kernel))
        (fun _ _ _ _ _ => pg_name (i := 2) scStoreBy.nd rfl (Or.inl rfl)) (fun _ _ _ _ _ => pts_nil) (fun _ _ _ _ _ => pe_call GB hr rfl mB kB bB .nil pass0 (pa_cons (pv 2) (pa_cons (pv 1) pa_nil)))) pa_nil))), ?_⟩
    refine ⟨_, rfl, p, rfl, ⟨_, S.tup⟩, fun D nD => ?_⟩
    refine lc_tup (K := K) (xs := L.map fun (q : Addr × List Str) => V.ref q.1) (fun i G => ∃ M : List (Addr × List Str), G D = some (.lst (M.map fun q => V.ref q.1)) ∧ M.map (·.2) = (L.take i).map (fun q => q.2.map (rn T)) ∧ (∀ q ∈ M, SqT K G q.1 (q.2.map V.str) ∧ q.2 ≠ []) ∧ Same H G)
      ⟨[], upd_same, rfl, (fun q z => nomatch z), same_new nD⟩ (fun i G _ ⟨M, _, _, _, s4⟩ => same_seqT s4 S.tup) ?_ ?_
    · rintro i v G hv ⟨M, g1, g2, g3, g4⟩
      obtain ⟨t, ht, rfl⟩ : ∃ t, L[i]? = some t ∧ V.ref t.1 = v := by
        rw [List.getElem?_map] at hv
        exact Option.map_eq_some_iff.mp hv
      have mt : t ∈ L := List.mem_of_getElem? ht
      have hi : i < L.length := (List.getElem?_eq_some_iff.mp ht).1
      obtain ⟨sh1, sh2, sh3⟩ := S.shape t mt
      have few := S.few
      have lM : M.length = i := by
        have z := congrArg List.length g2
        rw [List.length_map, List.length_map, List.length_take] at z
        omega
      refine ⟨rfl, ?_⟩
      dsimp only [tYes]
      rw [if_pos rfl]
      refine ⟨_, rfl, _, rfl, t.1, tb, t.2, T, rfl, same_seqT g4 (S.facts t mt), by omega, g4 _ _ hT, tv, fun c G2 hc sm => ?_⟩
      have gD := sm _ _ g1
      refine ⟨_, gD, by rw [List.length_map, sizeLine_eq]; omega, M ++ [(c, t.2.map (rn T))], by rw [upd_same, List.map_append]; rfl, ?_, fun z hz => ?_, fun b' o hb => ?_⟩
      · rw [List.map_append, g2, List.take_add_one (l := L) (i := i), ht, List.map_append]
        rfl
      · rcases List.mem_append.mp hz with hz | hz
        · exact ⟨sqT_upd' (same_seqT sm (g3 z hz).1) gD, (g3 z hz).2⟩
        · rw [List.mem_singleton.mp hz]
          refine ⟨sqT_upd' (.inl (.inl hc)) gD, fun e => ?_⟩
          have z3 := congrArg List.length e
          rw [List.length_map] at z3
          have z4 : t.2.length = 0 := z3
          omega
      · rw [upd_ne (ne_of_none hb nD)]
        exact sm _ _ (g4 _ _ hb)
    · rintro G ⟨M, g1, g2, g3, g4⟩
      rw [List.length_map, List.take_length] at g2
      have few := S.few
      have lM : M.length = L.length := by
        have z := congrArg List.length g2
        rwa [List.length_map, List.length_map] at z
      refine ⟨D, M, rfl, .inl (.inl g1), by omega, g3, fun c M2 H' h1 h2 h3 h4 h5 => q c M2 H' h1 h2 h3 (fun k => (h4 k).trans (by rw [g2])) (g4.trans h5)⟩
end
end My

/-! V02: renamed, and the law's own way -/
namespace My
open PySem PySem.Spec PyProof.Rows L2
open TL (tl len_tl tl_append)
abbrev sPut : Stmt := top 18
def compScope : List Stmt → Scope
  | .Assign _ (.ListComp _ _ sc _) _ :: _ => sc
  | _ => defScope sPut
def spRen (K : PySem.W.Frag) : Sp := fun vs H Q _ => ∃ (p pp : Addr) (L : List (Addr × List Str)) (ps : List Addr) (kvs : List (Key × V)) (o : HO), vs = [.ref p, .ref pp] ∧ StoreAt K H p L ∧ H pp = some o ∧ KTup pp (ps.map V.ref) o ∧ Paired (fun p kv => SqT K H p [kV kv.1, kv.2]) ps kvs ∧ TabV (mergeK [] kvs) ∧
  ∀ (c : Addr) (M : List (Addr × List Str)) (H' : Hp), H' c = some (.tup (M.map fun q => V.ref q.1)) → (∀ q ∈ M, SqT K H' q.1 (q.2.map V.str)) → Asc ltK (M.map (·.2)) → (∀ k, k ∈ M.map (·.2) ↔ k ∈ L.map fun q => q.2.map (rn (mergeK [] kvs))) → Same H H' → Q (.ref c) H'
def spPut (K : PySem.W.Frag) : Sp := fun vs H Q _ => ∃ (p tb : Addr) (L : List (Addr × List Str)) (T : List (Key × V)), vs = [.ref p, .ref tb] ∧ StoreAt K H p L ∧ H tb = some (.dK T) ∧ TabV T ∧
  ∀ (c : Addr) (M : List (Addr × List Str)) (H' : Hp), H' c = some (.tup (M.map fun q => V.ref q.1)) → (∀ q ∈ M, SqT K H' q.1 (q.2.map V.str)) → Asc ltK (M.map (·.2)) → (∀ k, k ∈ M.map (·.2) ↔ k ∈ L.map fun q => q.2.take 1 ++ (q.2.drop 1).map (rn T)) → Same H H' → Q (.ref c) H'
theorem sqT_upd {K : PySem.W.Frag} {G : Hp} {a D : Addr} {xs acc : List V} {o : HO} (h : SqT K G a xs) (e : G D = some (.lst acc)) : SqT K (upd G D o) a xs := by
  have ne : ∀ u : HO, G a = some u → (∀ zs, u ≠ .lst zs) → a ≠ D := fun u hu hz z => by
    rw [z, e] at hu
    exact hz _ (Option.some.inj hu).symm
  rcases h with (h | ⟨u, h⟩) | h
  · refine .inl (.inl ?_)
    rw [upd_ne (ne _ h fun zs z => by cases z)]
    exact h
  · refine .inl (.inr ⟨u, ?_⟩)
    rw [upd_ne (ne _ h fun zs z => by cases z)]
    exact h
  · exact .inr h
theorem cut_take1 (ws : List Str) (h : 1 ≤ ws.length) : cutV (ws.map V.str) none (some 1) = (ws.take 1).map V.str := by
  unfold cutV
  rw [HT.sIx_none, List.length_map, show HT.sIx ws.length ws.length (some 1) = min 1 ws.length from HT.sIx_nat ws.length ws.length 1, Nat.min_eq_left h, List.map_take]
  rfl
section
variable {P : Program} {w : World} {K : PySem.W.Frag} {mg : Str → Option Value} {base : Heap}
theorem scRen : FnScope ["store", "pairs"] ["store", "pairs"] (defScope sRen) := ⟨rfl, rfl, rfl, by decide +kernel, rfl, by decide +kernel, by decide +kernel⟩
theorem ok_ren {f fB : Addr} {fd fdB : FuncData} (F : Fun K "renamed" "renamed" sRen f fd) (B2 : Blt2 mg) (GB : FnOk P w K mg base CX0 2 fB fdB ["store", "table"] (spStoreBy K)) (mB : mg "store_by" = some (.ref fB))
    (kB : PySem.W.keepIn K (.ref fB) = true) (bB : Binds K fdB ["store", "table"] []) : FnOk P w K mg base CX0 3 f fd ["store", "pairs"] (spRen K) := by
  refine F.ok scRen (fun vs H Q E h => ?_) (fun cdv A outer s H vs Q E hr h => ?_)
  · obtain ⟨p, pp, L, ps, kvs, o, rfl, _⟩ := h
    rfl
  · obtain ⟨p, pp, L, ps, kvs, o, rfl, S, ho, hk, hp, tv, q⟩ := h
    refine ⟨_, pss_one (ps_ret (pe_call GB hr rfl mB kB bB .nil pass0 (pa_cons (pv 0) (pa_cons (pe_callTy (call_dictT rfl) (by rfl) B2.dict boot_dict (pa_cons (pv 1) pa_nil)) pa_nil)))), ?_⟩
    refine ⟨_, rfl, _, rfl, pp, ps, kvs, o, rfl, ho, hk, hp, fun d nd => ?_⟩
    exact ⟨p, d, L, mergeK [] kvs, rfl, S.same (same_new nd), upd_same, tv, fun c M H' h1 h2 h3 h4 h5 => q c M H' h1 h2 h3 h4 ((same_new nd).trans h5)⟩
theorem scPut : FnScope ["_law_store_here", "_law_names_here", "_law_row", "_law_fact", "_law_value"] ["_law_store_here", "_law_names_here"] (defScope sPut) := ⟨rfl, rfl, rfl, by decide +kernel, rfl, by decide +kernel, by decide +kernel⟩
theorem ok_put {f : Addr} {fd : FuncData} (F : Fun K "_law_put" "_law_put" sPut f fd) (B2 : Blt2 mg) : FnOk P w K mg base CX0 1 f fd ["_law_store_here", "_law_names_here"] (spPut K) := by
  refine F.ok scPut (fun vs H Q E h => ?_) (fun cdv A outer s H vs Q E hr h => ?_)
  · obtain ⟨p, tb, L, T, rfl, _⟩ := h
    rfl
  · obtain ⟨p, tb, L, T, rfl, S, hT, tv, q⟩ := h
    have hu := hr.units
    refine ⟨_, pss_cons (ps_setLc (i := 2) (own := [("_law_fact", 3)]) (g := gName 3) (tt := tYes) rfl scPut.nd rfl rfl (by rfl) (pi_tup (pv 0)) (blkOk_by (own := [("_law_fact", 3)]) (N := ["_law_store_here", "_law_names_here", "_law_row", "_law_fact", "_law_value"]) (sc := defScope sPut) (by decide +kernel))
        (fun _ _ _ _ _ => pg_name (i := 3) scPut.nd rfl (Or.inl rfl)) (fun _ _ _ _ _ => pts_nil)
        (te := tOp (rCatA K) (tSl (rSlA K) (tVar 3) tNoPart (tPart (tC (.int 1)))) (tCB (fun xs H Q => ∃ p ys, xs = [.ref p] ∧ ((SqL K H p ys ∧ ∀ l, H l = none → Q (.ref l) (upd H l (.tup ys))) ∨ (SqT K H p ys ∧ Q (.ref p) H))) (tCons (tLc (iTup K (tSl (rSlA K) (tVar 3) (tPart (tC (.int 1))) tNoPart)) (gName 4) tYes (tDGet2 (tVar 1) (tVar 4) (tVar 4)) [4]) tNil)))
        (fun _ _ _ _ _ => pe_op op_catA (pe_slice sl_tupA (pv 3) po_none (po_some pe_int)) (pe_callTy call_tuple_of (by rfl) B2.tuple boot_tuple
          (pa_cons (pe_lc (own := [("_law_value", 4)]) (g := gName 4) (tt := tYes) rfl scPut.nd (pi_tup (pe_slice sl_tupA (pv 3) (po_some pe_int) po_none)) (blkOk_by (own := [("_law_value", 4)]) (N := ["_law_store_here", "_law_names_here", "_law_row", "_law_fact", "_law_value"]) (sc := relS (compScope (defBody sPut)) (defScope sPut)) (by decide +kernel))
            (fun _ _ _ _ _ => pg_name (i := 4) scPut.nd rfl (Or.inl rfl)) (fun _ _ _ _ _ => pts_nil) (fun _ _ _ _ _ => pe_dget2 (by show A.units + 3 + 1 < cLine; have z : A.units + 3 + 64 < cLine := hu; omega) (pv 1) (pv 4) (pv 4) ⟨rfl, rfl, rfl, rfl⟩)) pa_nil))))
      (pss_one (ps_ret (pe_callTy call_tuple_of (by rfl) B2.tuple boot_tuple (pa_cons (pe_callB (cr_sortT rfl) (by rfl) B2.sorted boot_sorted (pa_cons (pe_callTy (cr_setT rfl hu) (by rfl) B2.set boot_set (pa_cons (pv 2) pa_nil)) pa_nil)) pa_nil)))), ?_⟩
    refine ⟨_, rfl, p, rfl, ⟨_, S.tup⟩, fun D nD => ?_⟩
    refine lc_tup (K := K) (xs := L.map fun (q : Addr × List Str) => V.ref q.1) (fun i G => ∃ M : List (Addr × List Str), G D = some (.lst (M.map fun q => V.ref q.1)) ∧ M.map (·.2) = (L.take i).map (fun q => q.2.take 1 ++ (q.2.drop 1).map (rn T)) ∧ (∀ q ∈ M, SqT K G q.1 (q.2.map V.str)) ∧ Same H G)
      ⟨[], upd_same, rfl, (fun q z => nomatch z), same_new nD⟩ (fun i G _ ⟨M, _, _, _, s4⟩ => same_seqT s4 S.tup) ?_ ?_
    · rintro i v G hv ⟨M, g1, g2, g3, g4⟩
      obtain ⟨t, ht, rfl⟩ : ∃ t, L[i]? = some t ∧ V.ref t.1 = v := by
        rw [List.getElem?_map] at hv
        exact Option.map_eq_some_iff.mp hv
      have mt : t ∈ L := List.mem_of_getElem? ht
      have hi : i < L.length := (List.getElem?_eq_some_iff.mp ht).1
      obtain ⟨sh1, sh2, sh3⟩ := S.shape t mt
      have two := S.two t mt
      have few := S.few
      have lM : M.length = i := by
        have z := congrArg List.length g2
        rw [List.length_map, List.length_map, List.length_take] at z
        omega
      refine ⟨rfl, ?_⟩
      dsimp only [tYes]
      rw [if_pos rfl]
      refine ⟨_, rfl, 1, rfl, t.1, _, rfl, same_seqT g4 (S.facts t mt), fun z => ?_, fun _ a na => ?_⟩
      · have z2 := z.2
        rw [List.length_map, show HT.sIx t.2.length t.2.length (some 1) = min 1 t.2.length from HT.sIx_nat t.2.length t.2.length 1] at z2
        omega
      rw [cut_take1 t.2 sh1]
      refine ⟨_, rfl, 1, rfl, t.1, _, rfl, same_seqT (same_new na) (same_seqT g4 (S.facts t mt)), fun z => absurd z (not_whole t.2 sh1 _), fun _ b nb => ?_⟩
      rw [cut_drop1 t.2 sh1]
      have s0 : Same G (upd (upd G a (.tup ((t.2.take 1).map V.str))) b (.tup ((t.2.drop 1).map V.str))) := (same_new na).trans (same_new nb)
      refine ⟨b, rfl, ⟨_, .inl (.inl upd_same)⟩, fun C nC => ?_⟩
      refine lc_tup (K := K) (xs := (t.2.drop 1).map V.str) (fun j G' => G' C = some (.lst ((((t.2.drop 1).take j).map (rn T)).map V.str)) ∧ Same (upd (upd G a (.tup ((t.2.take 1).map V.str))) b (.tup ((t.2.drop 1).map V.str))) G')
        ⟨upd_same, same_new nC⟩ (fun j G' _ h => .inl (.inl (h.2 _ _ upd_same))) ?_ ?_
      · rintro j v G' hv ⟨h1, h2⟩
        obtain ⟨y, hy, rfl⟩ : ∃ y, (t.2.drop 1)[j]? = some y ∧ V.str y = v := by
          rw [List.getElem?_map] at hv
          exact Option.map_eq_some_iff.mp hv
        have hj : j < (t.2.drop 1).length := (List.getElem?_eq_some_iff.mp hy).1
        rw [List.length_drop] at hj
        have gT : G' tb = some (.dK T) := h2 _ _ (s0 _ _ (g4 _ _ hT))
        refine ⟨rfl, ?_⟩
        dsimp only [tYes]
        rw [if_pos rfl]
        refine ⟨_, rfl, tb, rfl, .inl ⟨T, .inl gT⟩, _, rfl, _, rfl, _, DGet.k (k := .inr y) gT, _, h1, ?_, ?_, fun c o hb => ?_⟩
        · rw [List.length_map, List.length_map, List.length_take, List.length_drop, sizeLine_eq]
          omega
        · rw [upd_same, rn_get tv, List.take_add_one, hy, List.map_append, List.map_append]
          rfl
        · rw [upd_ne (ne_of_none hb nC)]
          exact h2 _ _ hb
      · rintro G' ⟨h1, h2⟩
        rw [List.length_map, List.take_length] at h1
        have s1 := s0.trans h2
        refine ⟨C, _, rfl, .inl ⟨.inl (.inl h1), fun c nc => ?_⟩⟩
        have ga : upd G' c (.tup (((t.2.drop 1).map (rn T)).map V.str)) a = some (.tup ((t.2.take 1).map V.str)) := (same_new nc) _ _ (h2 _ _ ((same_new nb) _ _ upd_same))
        have s2 := s1.trans (same_new (o := .tup (((t.2.drop 1).map (rn T)).map V.str)) nc)
        refine ⟨a, c, _, _, rfl, rfl, .inl (.inl ga), .inl (.inl upd_same), ?_, fun z => ?_, fun _ z => ?_, fun _ _ e ne => ?_⟩
        · rw [List.length_map, List.length_map, List.length_map, List.length_take, List.length_drop, sizeLine_eq]
          omega
        · have z2 := congrArg List.length z
          rw [List.length_map, List.length_take] at z2
          have z3 : min 1 t.2.length = 0 := z2
          omega
        · have z2 := congrArg List.length z
          rw [List.length_map, List.length_map, List.length_drop] at z2
          have z3 : t.2.length - 1 = 0 := z2
          omega
        · have s3 := s2.trans (same_new (o := .tup ((t.2.take 1).map V.str ++ ((t.2.drop 1).map (rn T)).map V.str)) ne)
          have gD := s3 _ _ g1
          refine ⟨_, gD, by rw [List.length_map, sizeLine_eq]; omega, M ++ [(e, t.2.take 1 ++ (t.2.drop 1).map (rn T))], by rw [upd_same, List.map_append]; rfl, ?_, fun z hz => ?_, fun b' o hb => ?_⟩
          · rw [List.map_append, g2, List.take_add_one (l := L) (i := i), ht, List.map_append]
            rfl
          · rcases List.mem_append.mp hz with hz | hz
            · exact sqT_upd (same_seqT s3 (g3 z hz)) gD
            · rw [List.mem_singleton.mp hz]
              refine sqT_upd (.inl (.inl ?_)) gD
              rw [List.map_append]
              exact upd_same
          · rw [upd_ne (ne_of_none hb nD)]
            exact s3 _ _ (g4 _ _ hb)
    · rintro G ⟨M, g1, g2, g3, g4⟩
      rw [List.length_map, List.take_length] at g2
      have few := S.few
      have lM : M.length = L.length := by
        have z := congrArg List.length g2
        rwa [List.length_map, List.length_map] at z
      refine ⟨_, rfl, D, M, rfl, .inl (.inl (.inl g1)), by omega, g3, fun a L' h1 h2 na => ?_⟩
      refine ⟨a, L', rfl, upd_same, fun z hz => ⟨same_seqT (same_new na) (g3 z (h1 z hz)), fun e => ?_⟩, fun M2 b pm asc nb => ⟨b, _, rfl, .inl ⟨.inl (.inl upd_same), fun c nc => ?_⟩⟩⟩
      · have m := (h2 z.2).mp (List.mem_map_of_mem hz)
        rw [g2] at m
        obtain ⟨x, hx, e2⟩ := List.mem_map.mp m
        have z2 := congrArg List.length (e2.trans e)
        rw [List.length_append, List.length_take, List.length_map, List.length_drop] at z2
        have z3 := S.two x hx
        have z4 : min 1 x.2.length + (x.2.length - 1) = 0 := z2
        omega
      · have nc : upd (upd G a (SetT P w a L')) b (.lst (M2.map fun q => V.ref q.1)) c = none := nc
        have sm := ((same_new (o := SetT P w a L') na).trans (same_new (o := .lst (M2.map fun q => V.ref q.1)) nb)).trans (same_new (o := .tup (M2.map fun q => V.ref q.1)) nc)
        exact q c M2 _ upd_same (fun z hz => same_seqT sm (g3 z (h1 z (pm.mem_iff.mp hz)))) asc (fun k => ((pm.map (·.2)).mem_iff).trans ((h2 k).trans (by rw [g2]))) (g4.trans sm)
end
end My

/-! MyShow: data that can be shown, and how long it is -/
namespace My
open PySem PySem.Spec PyProof.Rows L2
open TL (tl len_tl tl_append)
/-- showable, of that depth and weight at most -/
structure Sm (d : PyData) (dep wt : Nat) : Prop where
  sh : d.showable = true
  lf : d.leavesShort 8 = true
  dp : d.depth ≤ dep
  wt : d.weight ≤ wt
theorem Sm.mono {d : PyData} {a b c e : Nat} (h : Sm d a b) (h1 : a ≤ c) (h2 : b ≤ e) : Sm d c e := ⟨h.sh, h.lf, Nat.le_trans h.dp h1, Nat.le_trans h.wt h2⟩
theorem Sm.len {d : PyData} {dep wt : Nat} (h : Sm d dep wt) (hw : wt ≤ 100000) : d.shown.length ≤ sizeLine := by
  have z := PyData.shown_le 8 (Nat.le_refl _) d h.lf
  have z2 := h.wt
  rw [sizeLine_eq]
  omega
/-- a text that a drawn value is -/
structure Vl (x : Str) : Prop where
  pos : 0 < (tl x).length
  few : (tl x).length ≤ 8
  low : ∀ c ∈ tl x, c < 200
theorem Wd.vl {x : Str} (h : Wd x) : Vl x := ⟨h.pos, h.few, fun c m => by
  have z := h.of c m
  revert z
  exact fun z => (show ∀ c ∈ 113 :: six, c < 200 by decide) c z⟩
theorem sm_str {x : Str} (h : Vl x) : Sm (.str x) 0 8 where
  sh := by simp only [PyData.showable]
  lf := by
    simp only [PyData.leavesShort, List.all_eq_true, decide_eq_true_eq]
    exact fun c m => Nat.lt_of_lt_of_le (h.low c m) (by decide)
  dp := by simp only [PyData.depth]; exact Nat.le_refl _
  wt := by
    have z := h.few
    have e : x.cps.size = (tl x).length := by simp [tl]
    simp only [PyData.weight]
    omega
theorem sm_all {dep wt : Nat} : ∀ {ds : List PyData}, (∀ d ∈ ds, Sm d dep wt) → PyData.showableAll ds = true ∧ PyData.leavesShortAll 8 ds = true ∧ PyData.depthAll ds ≤ dep ∧ PyData.weightAll ds ≤ ds.length * (wt + 1)
  | [], _ => by simp only [PyData.showableAll, PyData.leavesShortAll, PyData.depthAll, PyData.weightAll]; exact ⟨trivial, trivial, Nat.zero_le _, Nat.zero_le _⟩
  | d :: ds, h => by
    obtain ⟨a1, a2, a3, a4⟩ := sm_all fun e m => h e (List.mem_cons_of_mem _ m)
    have g := h d List.mem_cons_self
    have g4 := g.wt
    have g3 := g.dp
    simp only [PyData.showableAll, PyData.leavesShortAll, PyData.depthAll, PyData.weightAll, g.sh, g.lf, a1, a2, Bool.and_self, List.length_cons, Nat.succ_mul]
    refine ⟨trivial, trivial, ?_, ?_⟩
    · omega
    · omega
theorem sm_tup {dep wt : Nat} {ds : List PyData} (h : ∀ d ∈ ds, Sm d dep wt) : Sm (.tuple ds) (dep + 1) (ds.length * (wt + 1)) := by
  obtain ⟨a1, a2, a3, a4⟩ := sm_all h
  refine ⟨?_, ?_, ?_, ?_⟩
  · simpa only [PyData.showable] using a1
  · simpa only [PyData.leavesShort] using a2
  · simp only [PyData.depth]
    omega
  · simpa only [PyData.weight] using a4
theorem sm_lst {dep wt : Nat} {ds : List PyData} (h : ∀ d ∈ ds, Sm d dep wt) : Sm (.list ds) (dep + 1) (ds.length * (wt + 1)) := by
  obtain ⟨a1, a2, a3, a4⟩ := sm_all h
  refine ⟨?_, ?_, ?_, ?_⟩
  · simpa only [PyData.showable] using a1
  · simpa only [PyData.leavesShort] using a2
  · simp only [PyData.depth]
    omega
  · simpa only [PyData.weight] using a4
/-- a tuple of texts | a store, as data -/
def fD (k : List Str) : PyData := .tuple (k.map PyData.str)
def sD (ks : List (List Str)) : PyData := .tuple (ks.map fD)
section
variable {K : PySem.W.Frag} {H : Hp}
theorem dps_strs : ∀ ws : List Str, DpAll K H (ws.map V.str) (ws.map PyData.str)
  | [] => .nil
  | x :: r => .cons (.str x) (dps_strs r)
theorem dp_fact {a : Addr} {k : List Str} (h : SqT K H a (k.map V.str)) : Dp K H (.ref a) (fD k) := .tup h (dps_strs k)
theorem dps_facts : ∀ {L : List (Addr × List Str)}, (∀ q ∈ L, SqT K H q.1 (q.2.map V.str)) → DpAll K H (L.map fun q => V.ref q.1) ((L.map (·.2)).map fD)
  | [], _ => .nil
  | q :: r, h => .cons (dp_fact (h q List.mem_cons_self)) (dps_facts fun z m => h z (List.mem_cons_of_mem _ m))
theorem dp_store {p : Addr} {L : List (Addr × List Str)} (ht : SqT K H p (L.map fun q => V.ref q.1)) (h : ∀ q ∈ L, SqT K H q.1 (q.2.map V.str)) : Dp K H (.ref p) (sD (L.map (·.2))) := .tup ht (dps_facts h)
end
theorem sm_fact {k : List Str} (h : ∀ x ∈ k, Vl x) (n : k.length ≤ 5) : Sm (fD k) 1 45 := by
  have z := sm_tup (dep := 0) (wt := 8) (ds := k.map PyData.str) fun d hd => by
    obtain ⟨x, hx, rfl⟩ := List.mem_map.mp hd
    exact sm_str (h x hx)
  refine z.mono (Nat.le_refl _) ?_
  rw [List.length_map]
  omega
theorem sm_store {ks : List (List Str)} (h : ∀ k ∈ ks, k.length ≤ 5 ∧ ∀ x ∈ k, Vl x) (n : ks.length ≤ 60) : Sm (sD ks) 2 2760 := by
  have z := sm_tup (dep := 1) (wt := 45) (ds := ks.map fD) fun d hd => by
    obtain ⟨k, hk, rfl⟩ := List.mem_map.mp hd
    exact sm_fact (h k hk).2 (h k hk).1
  refine z.mono (Nat.le_refl _) ?_
  rw [List.length_map]
  omega
end My

/-! Y02: tables of drawn pairs; what the two ways have in common -/
namespace My
open PySem PySem.Spec PyProof.Rows L2
open TL (tl len_tl tl_append)
theorem mem_putK {acc : List (Key × V)} {k : Key} {v : V} {p : Key × V} (h : p ∈ putK acc k v) : p ∈ acc ∨ p = (k, v) := by
  unfold putK at h
  split at h
  · obtain ⟨z, hz, e⟩ := List.mem_map.mp h
    split at e
    · rename_i c
      exact .inr (by rw [← e, c])
    · exact .inl (by rw [← e]; exact hz)
  · rcases List.mem_append.mp h with h | h
    · exact .inl h
    · exact .inr (List.mem_singleton.mp h)
theorem mem_mergeK : ∀ {more acc : List (Key × V)} {p : Key × V}, p ∈ mergeK acc more → p ∈ acc ∨ p ∈ more
  | [], _, _, h => .inl h
  | m :: r, acc, p, h => by
    have h' : p ∈ mergeK (putK acc m.1 m.2) r := h
    rcases mem_mergeK h' with z | z
    · rcases mem_putK z with z | z
      · exact .inl z
      · exact .inr (by rw [z]; exact List.mem_cons_self)
    · exact .inr (List.mem_cons_of_mem _ z)
theorem valV_mem {T : List (Key × V)} {k : Key} {v : V} (h : valV T k = some v) : (k, v) ∈ T := by
  unfold valV at h
  obtain ⟨p, hp, e⟩ := Option.map_eq_some_iff.mp h
  have h1 := List.mem_of_find?_eq_some hp
  have h2 : p.1 = k := by
    have z := List.find?_some hp
    simpa using z
  rw [← h2, ← e]
  exact h1
/-- the drawn pairs: their tuples, names and values -/
abbrev Pr := Addr × Str × Str
def kvOf (kv : List Pr) : List (Key × V) := kv.map fun t => (.inr t.2.1, .str t.2.2)
theorem val_of {kv : List Pr} {y : Str} {v : V} (h : valV (mergeK [] (kvOf kv)) (.inr y) = some v) : ∃ t ∈ kv, y = t.2.1 ∧ v = .str t.2.2 := by
  rcases mem_mergeK (valV_mem h) with z | z
  · cases z
  · obtain ⟨t, ht, e⟩ := List.mem_map.mp z
    have e1 := congrArg Prod.fst e
    have e2 := congrArg Prod.snd e
    exact ⟨t, ht, (Sum.inr.inj e1).symm, e2.symm⟩
theorem tabV_of {kv : List Pr} (h : ∀ t ∈ kv, Vl t.2.2) : TabV (mergeK [] (kvOf kv)) := fun y v e => by
  obtain ⟨t, ht, _, rfl⟩ := val_of e
  exact ⟨_, rfl, (h t ht).pos, (h t ht).few⟩
theorem rn_vl {kv : List Pr} (h : ∀ t ∈ kv, Vl t.2.2) {y : Str} (hy : Vl y) : Vl (rn (mergeK [] (kvOf kv)) y) := by
  unfold rn
  cases e : valV (mergeK [] (kvOf kv)) (.inr y) with
  | none => exact hy
  | some v =>
    obtain ⟨t, ht, _, rfl⟩ := val_of e
    exact h t ht
theorem eight_head : ∀ x ∈ eight, (tl x).head? = some 63 := by decide +kernel
theorem eight_vl {x : Str} (h : x ∈ eight) : Vl x := by
  have z : ∀ x ∈ eight, 0 < (tl x).length ∧ (tl x).length ≤ 8 ∧ ∀ c ∈ tl x, c < 200 := by decide +kernel
  obtain ⟨a, b, c⟩ := z x h
  exact ⟨a, b, c⟩
theorem wd_head {x : Str} (h : Wd x) : (tl x).head? ≠ some 63 := by
  cases e : tl x with
  | nil => simp
  | cons c r =>
    intro z
    have hc := h.of c (by rw [e]; exact List.mem_cons_self)
    have ec : c = 63 := Option.some.inj z
    rw [ec] at hc
    exact absurd hc (by decide)
theorem wd_not {x : Str} (h : Wd x) : x ∉ eight := fun m => wd_head h (eight_head x m)
theorem rn_word {kv : List Pr} (h : ∀ t ∈ kv, t.2.1 ∈ eight) {x : Str} (hx : Wd x) : rn (mergeK [] (kvOf kv)) x = x := by
  unfold rn
  cases e : valV (mergeK [] (kvOf kv)) (.inr x) with
  | none => rfl
  | some v =>
    obtain ⟨t, ht, e1, _⟩ := val_of e
    exact absurd (by rw [e1]; exact h t ht) (wd_not hx)
theorem eight_unk : ∀ x ∈ eight, isUnk x = true := by decide +kernel
/-- on drawn values both tests are one -/
theorem unk_isQ {x : Str} (h : Wd x ∨ x ∈ eight) : isUnk x = isQ x := by
  rcases h with h | h
  · have z : decide ((tl x).head? = some 63) = false := decide_eq_false (wd_head h)
    unfold isUnk isQ
    rw [z]
    rfl
  · rw [eight_unk x h]
    exact (decide_eq_true (eight_head x h)).symm
theorem vl_of {x : Str} (h : Wd x ∨ x ∈ eight) : Vl x := h.elim Wd.vl eight_vl
theorem paired_of {K : PySem.W.Frag} {H : Hp} : ∀ {kv : List Pr}, (∀ t ∈ kv, H t.1 = some (.tup [.str t.2.1, .str t.2.2])) → Paired (fun p (e : Key × V) => SqT K H p [kV e.1, e.2]) (kv.map (·.1)) (kvOf kv)
  | [], _ => .nil
  | t :: r, h => .cons (.inl (.inl (h t List.mem_cons_self))) (paired_of fun z m => h z (List.mem_cons_of_mem _ m))
theorem paired_same {K : PySem.W.Frag} {H H' : Hp} (e : Same H H') : ∀ {ps : List Addr} {es : List (Key × V)}, Paired (fun p (e : Key × V) => SqT K H p [kV e.1, e.2]) ps es → Paired (fun p (e : Key × V) => SqT K H' p [kV e.1, e.2]) ps es
  | _, _, .nil => .nil
  | _, _, .cons h t => .cons (same_seqT e h) (paired_same e t)
/-- the drawn pairs as data -/
def pD (kv : List Pr) : PyData := sD (kv.map fun t => [t.2.1, t.2.2])
theorem dps_pairs {K : PySem.W.Frag} {H : Hp} : ∀ {kv : List Pr}, (∀ t ∈ kv, SqT K H t.1 [.str t.2.1, .str t.2.2]) → DpAll K H ((kv.map (·.1)).map V.ref) ((kv.map fun t => [t.2.1, t.2.2]).map fD)
  | [], _ => .nil
  | t :: r, h => .cons (dp_fact (k := [t.2.1, t.2.2]) (h t List.mem_cons_self)) (dps_pairs fun z m => h z (List.mem_cons_of_mem _ m))
theorem sm_pairs {kv : List Pr} (h : ∀ t ∈ kv, Vl t.2.1 ∧ Vl t.2.2) (n : kv.length ≤ 60) : Sm (pD kv) 2 2760 := sm_store (fun k hk => by
  obtain ⟨t, ht, rfl⟩ := List.mem_map.mp hk
  refine ⟨by show 2 ≤ 5; decide, fun x hx => ?_⟩
  rcases List.mem_cons.mp hx with rfl | hx
  · exact (h t ht).1
  · rw [List.mem_singleton.mp hx]
    exact (h t ht).2) (by rw [List.length_map]; exact n)
theorem len_asc {M : List (Addr × List Str)} {ks : List (List Str)} (asc : Asc ltK (M.map (·.2))) (h : ∀ k, k ∈ M.map (·.2) → k ∈ ks) : M.length ≤ ks.length := by
  have z := len_sub (asc_nodup tot_key asc) h
  rwa [List.length_map] at z
end My

/-! MyE: the law's own call, where no repr is under way around it -/
namespace My
open PySem PySem.Spec PyProof.Rows L2

/-- a def's promise, kept where nothing that guards stands around the call -/
structure RunG (P : Program) (w : World) (K : PySem.W.Frag) (mg : Str → Option Value) (base : Heap) (k : Nat) (f : Addr) (fd : FuncData) (ps : List Str) (sp : Sp) : Prop where
  len : ∀ vs H Q E, sp vs H Q E → vs.length = ps.length
  go : ∀ (A : Around) (outer : List Env) (s : Shared) (H : Hp) (args : Args) (us : List Value) (vs : List V) (Q : VK) (E : XK), A.guards = some [] → Room k A → Env0 P w K mg base A outer s H →
    BindsTo s fd args (ps.zip us) → Vals vs us → sp vs H Q E → codeAny (model P w) A (.call (.ref f) args) (CR CX0 outer P w H s Q E) s
section
variable {P : Program} {w : World} {K : PySem.W.Frag} {mg : Str → Option Value} {base : Heap}
theorem runG {x qual : Str} {st : Stmt} {f : Addr} {fd : FuncData} {N ps : List Str} {k : Nat} {sp : Sp} (F : Fun K x qual st f fd) (S : FnScope N ps (defScope st)) (len : ∀ vs H Q E, sp vs H Q E → vs.length = ps.length)
    (hbody : ∀ (cdv : Value) (A : Around) (outer : List Env) (s : Shared) (H : Hp) (vs : List V) (Q : VK) (E : XK), A.guards = some [] → Room k (A.deeper (envOfC qual (defScope st) s.heap.objs.size f cdv)) → sp vs H Q E →
      ∃ t, PSs (cxOf CX0 P w K mg base N qual (defScope st) f cdv A outer s H E).nox (defBody st) t ∧ t { nx := fun _ H' => Q .non H', rt := Q } (L2.start N vs) H) : RunG P w K mg base (k + 1) f fd ps sp := by
  refine ⟨len, fun A outer s H args us vs Q E hgu hr e0 hb r hsp => ?_⟩
  obtain ⟨oc, od, kV, doc, pm, an, cdv, ct, osl, rfl, lk, hcd⟩ := F.ex
  have up : ∀ b o, base.get? b = some o → s.heap.get? b = some o := fun b o e => (e0.bs b o e).1
  have KX : K.In s.heap := e0.mod.kin.keeps up
  have hkind : ∀ y ∈ ps.zip us, (defScope st).names.lookup y.1 = some .local ∨ ((defScope st).names.lookup y.1 = some .cell ∧ ((cellsFrom (s.heap.objs.size + 1) (defScope st).names []).lookup y.1).isSome = true) := by
    rintro ⟨n, v⟩ hy
    exact (S.par n (List.of_mem_zip hy).1).imp id fun q => ⟨q, PySem.W.cellsFrom_some _ _ _ (.inl q)⟩
  refine codeAny_call_function hr.depth (KX _ _ lk) rfl S.co S.gen rfl (PySem.W.codeRec_of KX hcd) (hb _ _ _ _ (wpAny_newFunctionEnv_cells S.kind hkind fun env he s1 x => ?_))
  subst he
  refine ⟨(e0.mod.nolimit.keeps up).keeps x.toInCall.keep, codeAny_func ?_⟩
  obtain ⟨t, ht, hq⟩ := hbody cdv A outer s H vs Q E hgu (hr.deeper _) hsp
  refine wpAny_mono (ht.nox.run [] s1 _ H _ (inv_start S hr.hd e0 (len _ _ _ _ hsp) r x) hq) (fun fl s' hs => ?_) fun _ _ hs => hs
  cases fl with
  | ret u => exact hs.elim fun v ⟨σ', H', J, rv, q⟩ => ⟨v, H', J.os, J.bare, J.base, J.hok, rv, q⟩
  | next => exact hs.elim fun σ' ⟨H', J, q⟩ => ⟨V.non, H', J.os, J.bare, J.base, J.hok, rfl, q⟩
  | brk => exact hs.elim fun _ ⟨_, _, q⟩ => q.elim
  | cont => exact hs.elim fun _ ⟨_, _, q⟩ => q.elim
/-- the abstract heap at the law's entry: the script, known to the object, or nothing where the script is one of the module's own -/
theorem entry_heap {s : Shared} {a : Addr} {vs : List Value} {ns : List Int} (KX : K.In s.heap) (ha : s.heap.get? a = some { cls := .type "list", data := .seq vs.toArray }) (hi : IntsAre vs ns) (hl : ns.length ≤ sizeLine) :
    ∃ H : Hp, Only H ∧ SqL K H a (ns.map V.int) ∧ HOk P w H s.heap ∧ ∀ b u, H b = some u → b = a ∧ K.lookup b = none := by
  cases hk : K.lookup a with
  | some o =>
    have e := KX a o hk
    rw [ha] at e
    cases e
    have none_ : ∀ (b : Addr) (u : HO), (fun _ : Addr => (Option.none : Option HO)) b = some u → False := fun b u z => nomatch z
    exact ⟨fun _ => none, fun _ => .inl rfl, .inr ⟨_, vs.toArray, _, hk, rfl, rfl, rfl, by rw [List.size_toArray, hi.length]; exact hl, by simpa using vals_ints hi⟩, fun b u z => (none_ b u z).elim, fun b u z => (none_ b u z).elim⟩
  | none =>
    have at_ : ∀ {b : Addr} {u : HO}, (if b = a then some (HO.frz { cls := .type "list", data := .seq vs.toArray } (.lst (ns.map V.int))) else none) = some u → b = a ∧ u = HO.frz { cls := .type "list", data := .seq vs.toArray } (.lst (ns.map V.int)) := by
      intro b u z
      by_cases hb : b = a
      · rw [if_pos hb] at z
        exact ⟨hb, (Option.some.inj z).symm⟩
      · rw [if_neg hb] at z
        cases z
    refine ⟨fun b => if b = a then some (.frz { cls := .type "list", data := .seq vs.toArray } (.lst (ns.map V.int))) else none, fun b => ?_, .inl (.inr ⟨_, if_pos rfl⟩), fun b u z => ?_, fun b u z => ⟨(at_ z).1, by rw [(at_ z).1]; exact hk⟩⟩
    · by_cases hb : b = a
      · exact .inr ⟨_, _, if_pos hb⟩
      · exact .inl (if_neg hb)
    · obtain ⟨rfl, rfl⟩ := at_ z
      exact ⟨ha, by rw [List.length_map]; exact hl, vs, _, vals_ints hi, ha⟩
/-- the law's call, from its promise -/
theorem law_at {mb : Str → Option Value} {k : Nat} {fa a : Addr} {fd : FuncData} {x : Str} {sp : Sp} {s : Shared} {vs : List Value} {ns : List Int} (KX : K.In s.heap) (hns : s.heap.Ns mainGlobals mg) (hb : s.heap.Ns builtinsNs mb)
    (hbb : ∀ x : Str, x ≠ "__name__" → mb x = bootBuiltins x) (hlim : s.heap.NoLimit) (hg : s.gens = #[]) (ha : s.heap.get? a = some { cls := .type "list", data := .seq vs.toArray }) (hi : IntsAre vs ns) (hl : ns.length ≤ sizeLine)
    (hr : Room k callerA) (F : ∀ base : Heap, K.In base → base.Ns mainGlobals mg → RunG P w K mg base k fa fd [x] sp) (hbind : ∀ (s : Shared) (u : Value), BindsTo s fd ⟨[u], []⟩ [(x, u)])
    (hsp : ∀ H : Hp, Only H → SqL K H a (ns.map V.int) → sp [.ref a] H (fun v _ => v = .bl true) fun _ _ _ => False) :
    codeAny (model P w) callerA (.call (.ref fa) ⟨[.ref a], []⟩) (fun r s' => r = .ok (.ret (.bool true)) ∧ OldK s.heap s'.heap ∧ s'.os = s.os ∧ AllBare s'.gens) s := by
  obtain ⟨H, hO, hS, hok, hA⟩ := entry_heap (P := P) (w := w) KX ha hi hl
  have clear : ∀ {b : Addr}, (∀ u, H b = some u → False) → H b = none := fun {b} z => by
    cases q : H b with
    | none => rfl
    | some u => exact (z u q).elim
  have nsK : ∀ {b : Addr} {m : Str → Option Value}, s.heap.Ns b m → (hidT s.heap H).Ns b m := fun {b m} ⟨o, es, ep, e, dt, r⟩ => ⟨o, es, ep, hidT_get e (clear fun u q => by
    obtain ⟨rfl, _⟩ := hA b u q
    rw [ha] at e
    cases e
    cases dt), dt, r⟩
  have hKb : K.In (hidT s.heap H) := fun b o e => hidT_get (KX b o e) (clear fun u q => by
    rw [(hA b u q).2] at e
    cases e)
  obtain ⟨mc, l1, l2⟩ := hlim
  have e0 : Env0 P w K mg (hidT s.heap H) callerA [] s H := ⟨rfl, ⟨hKb, nsK hns, ⟨mb, nsK hb, hbb⟩, ⟨mc, nsK l1, l2⟩⟩, fun b o e => of_hidT e, Nat.le_of_eq (hidT_size _ _), trivial, (fun b z => nomatch z), hok, .of_eq hg⟩
  refine codeAny_mono ((F _ hKb (nsK hns)).go callerA [] s H ⟨[.ref a], []⟩ [.ref a] [.ref a] _ _ rfl hr e0 (hbind s (.ref a)) (.cons rfl .nil) (hsp H hO hS)) fun r s' h => ?_
  cases r with
  | error e => exact h.elim
  | ok fl =>
    cases fl with
    | next => exact h.elim
    | brk => exact h.elim
    | cont => exact h.elim
    | ret u =>
      obtain ⟨v, H', os, bare, un, hok', rv, q⟩ := h
      cases (show v = .bl true from q)
      cases (show u = Value.bool true from rv)
      refine ⟨rfl, OldK.of_keep fun b o e => ?_, os, bare⟩
      cases q : H b with
      | none => exact un.keep b o e q (fun z => nomatch z) (fun z => nomatch z)
      | some u =>
        rcases hO b with z | ⟨ob, xs, z⟩
        · rw [q] at z
          cases z
        · have e1 := (hok b _ z).1
          rw [e] at e1
          cases e1
          exact (hok' b _ (un.frzs b o _ z)).1
end
theorem walk_g {l : PySem.W.OpenLaw} {k : Nat} {q : Program} {loose : List Str} {XP : (Str → Option Value) → Heap → Prop} {YP : World → Heap → Prop} {d : DefRec} {K : Params → PySem.W.Frag} {sp : PySem.W.Frag → Sp} {x : Str}
    (hn : l.most = some 63) (hdf : d.params.defaults = []) (hr : Room k callerA) (hY : ∀ (w : World) (h : Heap), YP w h → (K w.params).In h)
    (F : ∀ (w : World) (mg : Str → Option Value) (fa : Addr) (h : Heap), (K w.params).In h → h.Ns mainGlobals mg → mg d.name = some (.ref fa) →
      ∃ fd : FuncData, (∀ (s : Shared) (u : Value), BindsTo s fd ⟨[u], []⟩ [(x, u)]) ∧ ∀ base : Heap, (K w.params).In base → base.Ns mainGlobals mg → RunG l.prog w (K w.params) mg base k fa fd [x] (sp (K w.params)))
    (hsp : ∀ (K : PySem.W.Frag) (H : Hp) (a : Addr) (ns : List Int), ns.length ≤ 63 → SqL K H a (ns.map V.int) → sp K [.ref a] H (fun v _ => v = .bl true) fun _ _ _ => False) :
    PySem.W.WalkO q loose XP YP l.row.toRowW d [] (fun f vs => PySem.call f vs) := by
  refine Att.attach_call hn hdf fun w s₀ s₁ mg mb fa o pm cd doc a vs ns G Y ho hd hcd hmg hobj hints hlen hg => ?_
  obtain ⟨fd, hb, hF⟩ := F w mg fa _ (hY w _ Y) G.T.g hmg
  exact law_at (hY w _ Y) G.T.g G.T.b G.T.builtins G.T.nolimit hg hobj hints (by rw [sizeLine_eq]; omega) hr hF hb fun H hO hS => hsp _ H a ns hlen hS
end My

/-! Z02: the law -/
namespace My
open PySem PySem.Spec PyProof.Rows L2
open TL (tl len_tl tl_append)
abbrev sLaw : Stmt := top 19
def spLaw (K : PySem.W.Frag) : Sp := fun vs H Q _ => ∃ (a : Addr) (ns : List Int), vs = [.ref a] ∧ SqL K H a (ns.map V.int) ∧ ns.length ≤ 63 ∧ ∀ H', Q (.bl true) H'
theorem scLaw : FnScope ["_law_script", "_law_deck_here", "_law_turn", "_law_values", "_law_store_here", "_law_row", "_law_name", "_law_pairs", "_law_held"] ["_law_script"] (defScope sLaw) := ⟨rfl, rfl, rfl, by decide +kernel, rfl, by decide +kernel, by decide +kernel⟩
theorem cut_dropN (ws : List Str) (j : Nat) (h : j ≤ ws.length) : cutV (ws.map V.str) (some (j : Int)) none = (ws.drop j).map V.str := by
  unfold cutV
  rw [HT.sIx_none, List.length_map, show HT.sIx ws.length 0 (some (j : Int)) = min j ws.length from HT.sIx_nat ws.length 0 j, Nat.min_eq_left h, ← List.map_drop]
  exact List.take_of_length_le (by rw [List.length_map, List.length_drop]; exact Nat.le_refl _)
theorem two_vl : ∀ x ∈ (["?7", "?8"] : List Str), Vl x := by
  have z : ∀ x ∈ (["?7", "?8"] : List Str), 0 < (tl x).length ∧ (tl x).length ≤ 8 ∧ ∀ c ∈ tl x, c < 200 := by decide +kernel
  exact fun x m => ⟨(z x m).1, (z x m).2.1, (z x m).2.2⟩
theorem sqT_but {K : PySem.W.Frag} {G9 G : Hp} {a d r : Addr} {xs us ws : List V} (f : ∀ b o, b ≠ d → b ≠ r → G9 b = some o → G b = some o) (hd : G9 d = some (.lst us)) (hr : G9 r = some (.lst ws)) (h : SqT K G9 a xs) : SqT K G a xs := by
  have ne : ∀ u : HO, G9 a = some u → (∀ zs, u ≠ .lst zs) → a ≠ d ∧ a ≠ r := fun u hu hz => ⟨fun z => by
    rw [z, hd] at hu
    exact hz _ (Option.some.inj hu).symm, fun z => by
    rw [z, hr] at hu
    exact hz _ (Option.some.inj hu).symm⟩
  rcases h with (h | ⟨u, h⟩) | h
  · obtain ⟨n1, n2⟩ := ne _ h fun zs z => by cases z
    exact .inl (.inl (f _ _ n1 n2 h))
  · obtain ⟨n1, n2⟩ := ne _ h fun zs z => by cases z
    exact .inl (.inr ⟨u, f _ _ n1 n2 h⟩)
  · exact .inr h
/-- what is held from the pairs on -/
structure Held (K : PySem.W.Frag) (H : Hp) (st pp r d l : Addr) (L : List (Addr × List Str)) (kv : List Pr) (o : HO) (ms : List Int) (k : Nat) : Prop where
  S : StoreAt K H st L
  hp : H pp = some o
  kt : KTup pp ((kv.map (·.1)).map V.ref) o
  kvs : ∀ t ∈ kv, H t.1 = some (.tup [.str t.2.1, .str t.2.2])
  row : H r = some (.lst ((kv.map (·.1)).map V.ref))
  D : Deck H d l ms k
theorem Held.same {K : PySem.W.Frag} {H H' : Hp} {st pp r d l : Addr} {L : List (Addr × List Str)} {kv : List Pr} {o : HO} {ms : List Int} {k : Nat} (h : Held K H st pp r d l L kv o ms k) (e : Same H H') : Held K H' st pp r d l L kv o ms k :=
  ⟨h.S.same e, e _ _ h.hp, h.kt, fun t m => e _ _ (h.kvs t m), e _ _ h.row, h.D.same e⟩
theorem Held.dp {K : PySem.W.Frag} {H : Hp} {st pp r d l e : Addr} {L : List (Addr × List Str)} {kv : List Pr} {o : HO} {ms : List Int} {k : Nat} (h : Held K H st pp r d l L kv o ms k) (he : H e = some (.lst [.ref st, .ref pp])) : Dp K H (.ref e) (.list [sD (L.map (·.2)), pD kv]) :=
  .lst (.inl (.inl he)) (.cons (dp_store h.S.tup h.S.facts) (.cons (.tup (h.kt.rd h.hp) (dps_pairs fun t m => .inl (.inl (h.kvs t m)))) .nil))
theorem sm_texts {k : List Str} (h : ∀ x ∈ k, Vl x) (n : k.length ≤ 8) : Sm (fD k) 1 72 := by
  have z := sm_tup (dep := 0) (wt := 8) (ds := k.map PyData.str) fun d hd => by
    obtain ⟨x, hx, rfl⟩ := List.mem_map.mp hd
    exact sm_str (h x hx)
  refine z.mono (Nat.le_refl _) ?_
  rw [List.length_map]
  omega
theorem sm_held {a b : PyData} (ha : Sm a 2 2760) (hb : Sm b 2 2760) : Sm (.list [a, b]) 3 5522 := by
  refine (sm_lst (dep := 2) (wt := 2760) (ds := [a, b]) fun d hd => ?_).mono (Nat.le_refl _) (by show 2 * 2761 ≤ 5522; decide)
  rcases List.mem_cons.mp hd with rfl | hd
  · exact ha
  · rw [List.mem_singleton.mp hd]
    exact hb
theorem ne_false {x y : Str} (h : x = y) : (!decide (V.str x = V.str y)) = false := by
  rw [h]
  simp
section
variable {P : Program} {w : World} {K : PySem.W.Frag} {mg : Str → Option Value} {base : Heap}
/-- a def that the law calls -/
structure Callee (P : Program) (w : World) (K : PySem.W.Frag) (mg : Str → Option Value) (base : Heap) (k : Nat) (x : Str) (ps : List Str) (sp : Sp) (f : Addr) (fd : FuncData) : Prop where
  G : FnOk P w K mg base CX0 k f fd ps sp
  m : mg x = some (.ref f)
  k : PySem.W.keepIn K (.ref f) = true
  b : Binds K fd ps []
theorem ok_law {f fDk fDr fOn fPl fUn fKi fSt fNa fPu fUS fRe : Addr} {fd fdDk fdDr fdOn fdPl fdUn fdKi fdSt fdNa fdPu fdUS fdRe : FuncData} (F : Fun K "law" "law" sLaw f fd) (B : Blt mg) (B2 : Blt2 mg)
    (Dk : Callee P w K mg base 1 "_law_deck" ["_law_script"] (spDeck K) fDk fdDk) (Dr : Callee P w K mg base 1 "_law_draw" ["_law_deck_here", "_law_many"] spDraw fDr fdDr)
    (On : Callee P w K mg base 2 "_law_one" ["_law_deck_here", "_law_items"] (spOne K) fOn fdOn) (Pl : Callee P w K mg base 4 "_law_pool" ["_law_deck_here", "_law_many"] spPool fPl fdPl)
    (Un : Callee P w K mg base 2 "_law_unknowns" ["_law_deck_here", "_law_many"] spUnks fUn fdUn) (Ki : Callee P w K mg base 5 "_law_kinds" ["_law_deck_here"] spKinds fKi fdKi)
    (St : Callee P w K mg base 3 "_law_store" ["_law_deck_here", "_law_kinds_here", "_law_values", "_law_many"] (spStore K) fSt fdSt) (Na : Callee P w K mg base 2 "_law_names" ["_law_store_here"] (spUnkS K isQ) fNa fdNa)
    (Pu : Callee P w K mg base 1 "_law_put" ["_law_store_here", "_law_names_here"] (spPut K) fPu fdPu) (US : Callee P w K mg base 2 "unknowns" ["store"] (spUnkS K isUnk) fUS fdUS) (Re : Callee P w K mg base 3 "renamed" ["store", "pairs"] (spRen K) fRe fdRe) :
    RunG P w K mg base 6 f fd ["_law_script"] (spLaw K) := by
  refine runG F scLaw (fun vs H Q E h => ?_) (fun cdv A outer s H vs Q E hgu hr h => ?_)
  · obtain ⟨a, ns, rfl, _⟩ := h
    rfl
  · obtain ⟨a, ns, rfl, hS, hn, q⟩ := h
    have hu := hr.units
    have hr1 : Room 1 _ := hr.mono (by decide)
    have hr2 : Room 2 _ := hr.mono (by decide)
    have hr3 : Room 3 _ := hr.mono (by decide)
    have hr4 : Room 4 _ := hr.mono (by decide)
    refine ⟨_, pss_cons (ps_set (i := 1) scLaw.nd rfl (Or.inl rfl) (pe_call Dk.G hr1 rfl Dk.m Dk.k Dk.b .nil pass0 (pa_cons (pv 0) pa_nil)))
      (pss_cons (ps_for PassesOwn.never rfl (pi_range1 rfl B.range (pa_cons pe_int pa_nil)) (pg_name (i := 2) scLaw.nd rfl (Or.inl rfl))
        (pss_cons (ps_set (i := 3) scLaw.nd rfl (Or.inl rfl) (pe_op op_cat (pe_call Pl.G hr4 rfl Pl.m Pl.k Pl.b .nil pass0 (pa_cons (pv 1) (pa_cons pe_int pa_nil))) (pe_call Un.G hr2 rfl Un.m Un.k Un.b .nil pass0 (pa_cons (pv 1) (pa_cons pe_int pa_nil)))))
        (pss_cons (ps_set (i := 4) scLaw.nd rfl (Or.inl rfl) (pe_call St.G hr3 rfl St.m St.k St.b .nil pass0 (pa_cons (pv 1) (pa_cons (pe_call Ki.G hr rfl Ki.m Ki.k Ki.b .nil pass0 (pa_cons (pv 1) pa_nil)) (pa_cons (pv 3) (pa_cons pe_int pa_nil))))))
        (pss_cons (ps_set (i := 5) scLaw.nd rfl (Or.inl rfl) (pe_lst pa_nil))
        (pss_cons (ps_for PassesOwn.never rfl (pi_list (pe_callB cr_sortedS (by rfl) B2.sorted boot_sorted (pa_cons (pe_slice sl_list (pv 3) (po_some pe_int) po_none) pa_nil))) (pg_name (i := 6) scLaw.nd rfl (Or.inl rfl))
          (pss_one (ps_if (pt_cmpR op_gt (pe_call Dr.G hr1 rfl Dr.m Dr.k Dr.b .nil pass0 (pa_cons (pv 1) (pa_cons pe_int pa_nil))) pe_int (nomark _))
            (pss_one (ps_expr (pe_bm PySem.F.plainAttrs_list PySem.F.slot_list_append PySem.F.type_list_append mt_append (pv 5)
              (pa_cons (pe_tup (pa_cons (pv 6) (pa_cons (pe_call On.G hr2 rfl On.m On.k On.b .nil pass0 (pa_cons (pv 1) (pa_cons (pe_op op_cat (pv 3) (pe_lst (pa_cons pe_str (pa_cons pe_str pa_nil)))) pa_nil))) pa_nil))) pa_nil)))) pss_nil)))
        (pss_cons (ps_set (i := 7) scLaw.nd rfl (Or.inl rfl) (pe_callTy call_tupK (by rfl) B2.tuple boot_tuple (pa_cons (pv 5) pa_nil)))
        (pss_cons (ps_set (i := 8) scLaw.nd rfl (Or.inl rfl) (pe_callB (cr_repr hgu hu) (by rfl) B.repr boot_repr (pa_cons (pe_lst (pa_cons (pv 4) (pa_cons (pv 7) pa_nil))) pa_nil)))
        (pss_cons (ps_if (pt_cmpR op_ne (pe_callB (cr_repr hgu hu) (by rfl) B.repr boot_repr (pa_cons (pe_call US.G hr2 rfl US.m US.k US.b .nil pass0 (pa_cons (pv 4) pa_nil)) pa_nil))
            (pe_callB (cr_repr hgu hu) (by rfl) B.repr boot_repr (pa_cons (pe_call Na.G hr2 rfl Na.m Na.k Na.b .nil pass0 (pa_cons (pv 4) pa_nil)) pa_nil)) (nomark _))
          (pss_one (ps_ret pe_bl)) pss_nil)
        (pss_cons (ps_if (PW.pt (pw_or (pt_cmpR op_ne (pe_callB (cr_repr hgu hu) (by rfl) B.repr boot_repr (pa_cons (pe_call Re.G hr3 rfl Re.m Re.k Re.b .nil pass0 (pa_cons (pv 4) (pa_cons (pv 7) pa_nil))) pa_nil))
            (pe_callB (cr_repr hgu hu) (by rfl) B.repr boot_repr (pa_cons (pe_call Pu.G hr1 rfl Pu.m Pu.k Pu.b .nil pass0 (pa_cons (pv 4) (pa_cons (pe_callTy (call_dictP rfl) (by rfl) B2.dict boot_dict (pa_cons (pv 5) pa_nil)) pa_nil))) pa_nil)) (nomark _))
            (pw_or1 (pt_cmpR op_ne (pe_callB (cr_repr hgu hu) (by rfl) B.repr boot_repr (pa_cons (pe_lst (pa_cons (pv 4) (pa_cons (pv 7) pa_nil))) pa_nil)) (pv 8) (nomark _)))))
          (pss_one (ps_ret pe_bl)) pss_nil)
        (pss_one (ps_if (pt_cmpR op_ne (pe_callB (cr_repr hgu hu) (by rfl) B.repr boot_repr (pa_cons (pe_call Re.G hr3 rfl Re.m Re.k Re.b .nil pass0 (pa_cons (pv 4) (pa_cons pe_tup0 pa_nil))) pa_nil))
            (pe_callB (cr_repr hgu hu) (by rfl) B.repr boot_repr (pa_cons (pv 4) pa_nil)) (nomark _))
          (pss_one (ps_ret pe_bl)) pss_nil)))))))))))
      (pss_one (ps_ret pe_bl))), ?_⟩
    -- the deck
    refine ⟨_, rfl, a, ns, rfl, hS, hn, fun d l ms H1 D1 nd nl hm s1 => ?_⟩
    refine ⟨24, rfl, by decide, by decide, for_range (n := 24) (fun i σ G => ∃ v2 v3 v4 v5 v6 v7 v8 : Option V, σ = [some (.ref a), some (.ref d), v2, v3, v4, v5, v6, v7, v8] ∧ Deck G d l ms (400 * i)) ⟨none, none, none, none, none, none, none, rfl, D1⟩ ?_ fun σ G _ => q G⟩
    rintro i σ G hi ⟨v2, v3, v4, v5, v6, v7, v8, rfl, D2⟩
    -- values
    refine ⟨_, rfl, d, l, ms, 400 * i, 3, rfl, by decide, D2, hm, by omega, fun p xs G3 lx ndx wdx np hp D3 f3 => ⟨_, rfl, d, l, ms, _, 4, rfl, by decide, D3, hm, by omega, fun u ys G4 ly ndy h8 nu hu4 D4 f4 => ?_⟩⟩
    obtain ⟨pd, pl⟩ := D2.nd np
    obtain ⟨ud, ul⟩ := D3.nd nu
    refine ⟨p, u, _, _, rfl, rfl, f4 _ _ pd hp, hu4, by rw [List.length_map, List.length_map, sizeLine_eq]; omega, fun vp nvp => ?_⟩
    obtain ⟨vd, vl⟩ := D4.nd nvp
    have D5 := D4.same (same_new (o := .lst (xs.map V.str ++ ys.map V.str)) nvp)
    generalize hG5 : upd G4 vp (.lst (xs.map V.str ++ ys.map V.str)) = G5 at D5 ⊢
    have hvp : G5 vp = some (.lst ((xs ++ ys).map V.str)) := by
      rw [← hG5, upd_same, List.map_append]
    have vok : ∀ y ∈ xs ++ ys, Wd y ∨ y ∈ eight := fun y hy => (List.mem_append.mp hy).imp (wdx y) (h8 y)
    have lv : (xs ++ ys).length = 7 := by rw [List.length_append, lx, ly]
    -- the store
    refine ⟨_, rfl, _, rfl, d, l, ms, _, rfl, D5, hm, by omega, fun kp ks G6 k2 k3 ndk hks nkp hkp D6 f6 => ⟨_, rfl, ?_⟩⟩
    obtain ⟨kd, kl⟩ := D5.nd nkp
    have hvp6 := f6 _ _ vd hvp
    refine ⟨d, l, ms, _, kp, vp, ks, xs ++ ys, 8, rfl, by decide, D6, hm, by omega, ⟨hkp, kd, (fun e => by rw [e] at k2; exact absurd k2 (by decide)), by omega, fun t ht => ⟨hks t ht, ?_⟩⟩, ⟨hvp6, vd, (fun e => by rw [e] at lv; exact absurd lv (by decide)), by omega⟩, fun st L G7 nst hst fL hL ascL D7 f7 => ?_⟩
    · intro e
      have z := (hks t ht).1
      obtain ⟨⟨_, _, _, z2, _⟩, _⟩ := D6
      rw [e, z2] at z
      cases z
    have hvp7 := f7 _ _ vd hvp6
    have shp : ∀ z ∈ L, (∃ (x : Str) (ws : List Str), z.2 = x :: ws ∧ Wd x ∧ 1 ≤ ws.length ∧ ws.length ≤ 4 ∧ ∀ y ∈ ws, Wd y ∨ y ∈ eight) := fun z hz => by
      obtain ⟨x, ws, e, ⟨t, ht, e2, e3⟩, e4⟩ := (hL z hz).2
      have kt := (hks t ht).2
      exact ⟨x, ws, e, by rw [e2]; exact kt.1, by rw [e3]; exact kt.2.1, by rw [e3]; exact kt.2.2, fun y hy => vok y (e4 y hy)⟩
    have lvl : ∀ z ∈ L, z.2.length ≤ 5 ∧ ∀ y ∈ z.2, Vl y := fun z hz => by
      obtain ⟨x, ws, e, wx, w1, w4, wy⟩ := shp z hz
      rw [e]
      refine ⟨by rw [List.length_cons]; omega, fun y hy => ?_⟩
      rcases List.mem_cons.mp hy with rfl | hy
      · exact wx.vl
      · exact vl_of (wy y hy)
    have S7 : StoreAt K G7 st L := ⟨.inl (.inl hst), fun z hz => (hL z hz).1, by omega, fun z hz => ?_, fun z hz => ?_⟩
    rotate_left
    · obtain ⟨x, ws, e, wx, w1, w4, wy⟩ := shp z hz
      refine ⟨?_, (lvl z hz).1, fun y hy => ⟨((lvl z hz).2 y hy).pos, ((lvl z hz).2 y hy).few⟩⟩
      rw [e, List.length_cons]
      omega
    · obtain ⟨x, ws, e, wx, w1, w4, wy⟩ := shp z hz
      rw [e, List.length_cons]
      omega
    -- the pairs
    refine ⟨by decide, fun r nr => ?_⟩
    obtain ⟨rd, rl⟩ := D7.nd nr
    have D8 := D7.same (same_new (o := .lst []) nr)
    have hvp8 : upd G7 r (.lst []) vp = some (.lst ((xs ++ ys).map V.str)) := (same_new nr) _ _ hvp7
    have S8 : StoreAt K (upd G7 r (.lst [])) st L := S7.same (same_new nr)
    have hr8 : upd G7 r (.lst []) r = some (.lst (([] : List Addr).map V.ref)) := upd_same
    generalize upd G7 r (.lst []) = G8 at D8 hvp8 S8 hr8 ⊢
    generalize hk8 : 400 * i + 9 * 3 + 4 + 40 + 1 + 10 * 8 = k8 at D8
    refine ⟨_, rfl, 3, rfl, vp, _, rfl, .inl (.inl hvp8), fun c nc => ?_⟩
    rw [show cutV ((xs ++ ys).map V.str) (some 3) none = ys.map V.str from (cut_dropN (xs ++ ys) 3 (by omega)).trans (by rw [List.drop_left' lx])]
    refine ⟨c, ys, rfl, .inl (.inl upd_same), by omega, fun zs q2 pm _ nq => ?_⟩
    obtain ⟨cd, cl⟩ := D8.nd nc
    have sm9 := (same_new (o := .lst (ys.map V.str)) nc).trans (same_new (o := .lst (zs.map V.str)) nq)
    have D9 := D8.same sm9
    have hvp9 := sm9 _ _ hvp8
    have S9 := S8.same sm9
    have hr9 := sm9 _ _ hr8
    have hq9 : upd (upd G8 c (.lst (ys.map V.str))) q2 (.lst (zs.map V.str)) q2 = some (.lst (zs.map V.str)) := upd_same
    obtain ⟨q2d, _⟩ := (D8.same (same_new (o := .lst (ys.map V.str)) nc)).nd nq
    have rq : r ≠ q2 := ne_of_none ((same_new (o := .lst (ys.map V.str)) nc) _ _ hr8) nq
    generalize upd (upd G8 c (.lst (ys.map V.str))) q2 (.lst (zs.map V.str)) = G9 at D9 hvp9 S9 hr9 hq9 ⊢
    refine ⟨q2, rfl, ⟨_, .inl (.inl hq9)⟩, for_list (K := K) (xs := zs.map V.str) (fun j σ G => ∃ (kv : List Pr) (v6 : Option V), σ = [some (.ref a), some (.ref d), some (.int (0 + (i : Nat))), some (.ref vp), some (.ref st), some (.ref r), v6, v7, v8] ∧ G r = some (.lst ((kv.map (·.1)).map V.ref)) ∧
        (∀ t ∈ kv, G t.1 = some (.tup [.str t.2.1, .str t.2.2]) ∧ t.2.1 ∈ eight ∧ Vl t.2.2) ∧ kv.length ≤ j ∧ Deck G d l ms (k8 + 2 * j) ∧ (∀ b o, b ≠ d → b ≠ r → G9 b = some o → G b = some o))
      ⟨[], v6, rfl, hr9, (fun t z => nomatch z), Nat.zero_le _, D9, fun b o _ _ h => h⟩ (fun j σ G _ ⟨kv, v6, _, _, _, _, _, h6⟩ => .inl (.inl (h6 _ _ q2d (Ne.symm rq) hq9))) ?_ ?_⟩
    · rintro j x σ G hx ⟨kv, v6', rfl, g1, g2, g3, g4, g5⟩
      obtain ⟨nm, hnm, rfl⟩ : ∃ y, zs[j]? = some y ∧ V.str y = x := by
        rw [List.getElem?_map] at hx
        exact Option.map_eq_some_iff.mp hx
      have mnm : nm ∈ eight := h8 nm (pm.mem_iff.mp (List.mem_of_getElem? hnm))
      have hj : j < zs.length := (List.getElem?_eq_some_iff.mp hnm).1
      have lz : zs.length = 4 := pm.length_eq.trans ly
      refine ⟨_, rfl, d, l, ms, k8 + 2 * j, 3, rfl, by decide, by decide, g4, hm, by omega, fun v G10 v0 v1 D10 f10 => ⟨v, 0, rfl, rfl, _, rfl, ite2 (fun _ => ?_) fun _ => ?_⟩⟩
      · have g1' := f10 _ _ rd g1
        have hvpr : vp ≠ r := by
          intro e
          rw [e, hr9] at hvp9
          have z := congrArg (fun o : Option HO => match o with | some (.lst w) => w.length | _ => 0) hvp9
          simp at z
          omega
        have hvp10 : G10 vp = some (.lst ((xs ++ ys).map V.str)) := f10 _ _ vd (g5 _ _ vd hvpr hvp9)
        refine ⟨_, rfl, .inl ⟨rfl, _, .inl (.inl g1')⟩, _, rfl, _, rfl, _, rfl, (by show 2 ≤ sizeLine; decide), fun e ne => ?_⟩
        have D11 := D10.same (same_new (o := .lst [.str "?7", .str "?8"]) ne)
        refine ⟨vp, e, _, _, rfl, rfl, (same_new ne) _ _ hvp10, upd_same, (by rw [List.length_map, sizeLine_eq]; show _ + 2 ≤ _; omega), fun g ng => ?_⟩
        obtain ⟨gd, gl⟩ := D11.nd ng
        have D12 := D11.same (same_new (o := .lst ((xs ++ ys).map V.str ++ [.str "?7", .str "?8"])) ng)
        refine ⟨d, l, ms, k8 + 2 * j + 1, .ref g, rfl, D12, hm, by omega, .inl ⟨g, _, rfl, gd, .inl (.inl (.inl (off_at gd upd_same))), by simp, by rw [List.length_append, List.length_map]; show _ + 2 < _; omega, fun jj v G13 hv D13 f13 => ?_⟩⟩
        obtain ⟨y, rfl, hy⟩ : ∃ y : Str, v = .str y ∧ Vl y := by
          have mv := List.mem_of_getElem? hv
          rcases List.mem_append.mp mv with mv | mv
          · obtain ⟨y, hy, rfl⟩ := List.mem_map.mp mv
            exact ⟨y, rfl, vl_of (vok y hy)⟩
          · rcases List.mem_cons.mp mv with rfl | mv
            · exact ⟨_, rfl, two_vl _ (by decide)⟩
            · rw [List.mem_singleton.mp mv]
              exact ⟨_, rfl, two_vl _ (by decide)⟩
        have sm11 := (same_new (o := .lst [.str "?7", .str "?8"]) ne).trans (same_new (o := .lst ((xs ++ ys).map V.str ++ [.str "?7", .str "?8"])) ng)
        have f1013 : Fr d G10 G13 := (same_fr sm11).trans f13
        refine ⟨(by show 2 ≤ sizeLine; decide), fun b nb => ?_⟩
        obtain ⟨bd, bl⟩ := D13.nd nb
        have hr13 := f1013 _ _ rd g1'
        have br : r ≠ b := ne_of_none hr13 nb
        refine ⟨r, _, _, rfl, rfl, (by rw [upd_ne br]; exact hr13), by rw [List.length_map, List.length_map, sizeLine_eq]; omega, kv ++ [(b, nm, y)], _, rfl, ?_, fun t ht => ?_, by rw [List.length_append]; exact Nat.succ_le_succ g3, ?_, fun b' o h1 h2 h3 => ?_⟩
        · rw [upd_same, List.map_append, List.map_append]
          rfl
        · rcases List.mem_append.mp ht with ht | ht
          · obtain ⟨e1, e2⟩ := g2 t ht
            have td : t.1 ≠ d := by
              intro e
              rw [e] at e1
              obtain ⟨⟨_, _, _, z2, _⟩, _⟩ := g4
              rw [z2] at e1
              cases e1
            have tr : t.1 ≠ r := by
              intro e
              rw [e, g1] at e1
              cases e1
            have e3 := f1013 _ _ td (f10 _ _ td e1)
            exact ⟨by rw [upd_ne tr, upd_ne (ne_of_none e3 nb)]; exact e3, e2⟩
          · rw [List.mem_singleton.mp ht]
            exact ⟨by rw [upd_ne (Ne.symm br), upd_same], mnm, hy⟩
        · exact ((D13.upd bd bl).upd rd rl).mono (by omega)
        · have e3 := f1013 _ _ h1 (f10 _ _ h1 (g5 _ _ h1 h2 h3))
          rw [upd_ne h2, upd_ne (ne_of_none e3 nb)]
          exact e3
      · refine ⟨kv, _, rfl, f10 _ _ rd g1, fun t ht => ?_, by omega, D10.mono (by omega), fun b o h1 h2 h3 => f10 _ _ h1 (g5 _ _ h1 h2 h3)⟩
        obtain ⟨e1, e2⟩ := g2 t ht
        refine ⟨f10 _ _ (fun e => ?_) e1, e2⟩
        rw [e] at e1
        obtain ⟨⟨_, _, _, z2, _⟩, _⟩ := g4
        rw [z2] at e1
        cases e1
    · rintro σ G ⟨kv, v6', rfl, g1, g2, g3, g4, g5⟩
      obtain ⟨u9, hd9⟩ : ∃ us, G9 d = some (.lst us) := by
        obtain ⟨⟨_, _, _, z2, _⟩, _⟩ := D9
        exact ⟨_, z2⟩
      have S : StoreAt K G st L := ⟨sqT_but g5 hd9 hr9 S9.tup, fun z hz => sqT_but g5 hd9 hr9 (S9.facts z hz), S9.few, S9.shape, S9.two⟩
      have lz : zs.length = 4 := pm.length_eq.trans ly
      rw [List.length_map] at g3 g4
      refine ⟨_, rfl, r, _, rfl, .inl (.inl g1), fun pp o npp hk => ?_⟩
      have smP := same_new (o := o) npp
      have HA : Held K (upd G pp o) st pp r d l L kv o ms (k8 + 2 * zs.length) := ⟨S.same smP, upd_same, hk, fun t m => smP _ _ (g2 t m).1, smP _ _ g1, g4.same smP⟩
      generalize upd G pp o = GA at HA ⊢
      -- what is known of the store and the pairs
      have kvl : ∀ t ∈ kv, Vl t.2.2 := fun t m => (g2 t m).2.2
      have kvn : ∀ t ∈ kv, t.2.1 ∈ eight := fun t m => (g2 t m).2.1
      have smL : Sm (sD (L.map (·.2))) 2 2760 := sm_store (fun k hk => by
        obtain ⟨z, hz, rfl⟩ := List.mem_map.mp hk
        exact lvl z hz) (by rw [List.length_map]; omega)
      have smH := sm_held smL (sm_pairs (kv := kv) (fun t m => ⟨eight_vl (kvn t m), kvl t m⟩) (by omega))
      refine ⟨_, rfl, _, rfl, (by show 2 ≤ sizeLine; decide), fun e ne => ⟨_, _, rfl, (HA.same (same_new ne)).dp upd_same, smH.sh, Nat.le_trans smH.dp (by decide), smH.len (by decide), ?_⟩⟩
      have HB := HA.same (same_new (o := .lst [.ref st, .ref pp]) ne)
      generalize upd GA e (.lst [.ref st, .ref pp]) = GB at HB ⊢
      -- unknowns
      refine ⟨_, rfl, st, L, rfl, HB.S, fun a1 y1 GC asc1 mem1 h1 s1 => ?_⟩
      have y8 : ∀ y ∈ y1, y ∈ eight := fun y hy => by
        obtain ⟨z, hz, hy2, hu2⟩ := (mem1 y).mp hy
        obtain ⟨x, ws, e, wx, w1, w4, wy⟩ := shp z hz
        rw [e] at hy2
        rcases wy y hy2 with c | c
        · rw [unk_isQ (.inl c)] at hu2
          exact absurd (of_decide_eq_true hu2) (wd_head c)
        · exact c
      have sm1 : Sm (fD y1) 1 72 := sm_texts (fun y hy => eight_vl (y8 y hy)) (len_sub (asc_nodup tot_str asc1) y8)
      refine ⟨_, _, rfl, dp_fact (.inl (.inl h1)), sm1.sh, Nat.le_trans sm1.dp (by decide), sm1.len (by decide), ?_⟩
      have HC := HB.same s1
      refine ⟨_, rfl, st, L, rfl, HC.S, fun a2 y2 GD asc2 mem2 h2 s2 => ?_⟩
      have uq : ∀ z ∈ L, ∀ y ∈ z.2.drop 1, isUnk y = isQ y := fun z hz y m => by
        obtain ⟨x, ws, e, wx, w1, w4, wy⟩ := shp z hz
        rw [e] at m
        exact unk_isQ (wy y m)
      have ey : y1 = y2 := asc_uniq tot_str asc1 asc2 fun y => (mem1 y).trans (Iff.trans ⟨fun ⟨z, hz, m, c⟩ => ⟨z, hz, m, (uq z hz y m).symm.trans c⟩, fun ⟨z, hz, m, c⟩ => ⟨z, hz, m, (uq z hz y m).trans c⟩⟩ (mem2 y).symm)
      subst ey
      refine ⟨_, _, rfl, dp_fact (.inl (.inl h2)), sm1.sh, Nat.le_trans sm1.dp (by decide), sm1.len (by decide), rfl, _, rfl, iteNo (ne_false rfl) ?_⟩
      have HD := HC.same s2
      -- renamed
      have tv := tabV_of kvl
      have pr : ∀ {H' : Hp}, Held K H' st pp r d l L kv o ms (k8 + 2 * zs.length) → Paired (fun p (e : Key × V) => SqT K H' p [kV e.1, e.2]) (kv.map (·.1)) (kvOf kv) := fun h => paired_of h.kvs
      have rfact : ∀ z ∈ L, z.2.map (rn (mergeK [] (kvOf kv))) = z.2.take 1 ++ (z.2.drop 1).map (rn (mergeK [] (kvOf kv))) := fun z hz => by
        obtain ⟨x, ws, e, wx, w1, w4, wy⟩ := shp z hz
        rw [e, List.map_cons, rn_word kvn wx]
        rfl
      have rsz : ∀ k, k ∈ L.map (fun z => z.2.map (rn (mergeK [] (kvOf kv)))) → k.length ≤ 5 ∧ ∀ x ∈ k, Vl x := fun k hk => by
        obtain ⟨z, hz, rfl⟩ := List.mem_map.mp hk
        refine ⟨by rw [List.length_map]; exact (lvl z hz).1, fun x hx => ?_⟩
        obtain ⟨y, hy, rfl⟩ := List.mem_map.mp hx
        exact rn_vl kvl ((lvl z hz).2 y hy)
      refine ⟨_, rfl, _, rfl, st, pp, L, kv.map (·.1), kvOf kv, o, rfl, HD.S, HD.hp, HD.kt, pr HD, tv, fun c1 M1 GE e1 e2 asc3 mem3 s3 => ?_⟩
      have HE := HD.same s3
      have lM1 : M1.length ≤ 8 := by
        have z := len_asc asc3 fun k => (mem3 k).mp
        rw [List.length_map] at z
        omega
      have smM : Sm (sD (M1.map (·.2))) 2 2760 := sm_store (fun k hk => rsz k ((mem3 k).mp hk)) (by rw [List.length_map]; omega)
      refine ⟨_, _, rfl, dp_store (.inl (.inl e1)) e2, smM.sh, Nat.le_trans smM.dp (by decide), smM.len (by decide), ?_⟩
      refine ⟨_, rfl, _, rfl, r, kv.map (fun (t : Pr) => t.1), kvOf kv, rfl, .inl (.inl HE.row), pr HE, fun dd ndd => ?_⟩
      have HE' := HE.same (same_new (o := .dK (mergeK [] (kvOf kv))) ndd)
      refine ⟨st, dd, L, mergeK [] (kvOf kv), rfl, HE'.S, upd_same, tv, fun c2 M2 GF e3 e4 asc4 mem4 s4 => ?_⟩
      have HF := HE'.same s4
      have eM : M1.map (·.2) = M2.map (·.2) := asc_uniq tot_key asc3 asc4 fun k => (mem3 k).trans (Iff.trans (by rw [List.map_congr_left rfact]) (mem4 k).symm)
      have smM2 : Sm (sD (M2.map (·.2))) 2 2760 := by
        rw [← eM]
        exact smM
      refine ⟨_, _, rfl, dp_store (.inl (.inl e3)) e4, smM2.sh, Nat.le_trans smM2.dp (by decide), smM2.len (by decide), rfl, _, rfl, iteNo (ne_false (by rw [eM])) ?_⟩
      refine ⟨_, rfl, _, rfl, (by show 2 ≤ sizeLine; decide), fun e5 ne5 => ⟨_, _, rfl, (HF.same (same_new ne5)).dp upd_same, smH.sh, Nat.le_trans smH.dp (by decide), smH.len (by decide), _, rfl, rfl, _, rfl, iteNo (ne_false rfl) ?_⟩⟩
      have HG := HF.same (same_new (o := .lst [.ref st, .ref pp]) ne5)
      generalize upd GF e5 (.lst [.ref st, .ref pp]) = GG at HG ⊢
      -- renamed by nothing
      refine ⟨_, rfl, fun p0 o0 np0 hk0 => ?_⟩
      have HG' := HG.same (same_new (o := o0) np0)
      refine ⟨st, p0, L, [], [], o0, rfl, HG'.S, upd_same, hk0, .nil, (fun y v e => by cases e), fun c3 M3 GH e6 e7 asc5 mem5 s5 => ?_⟩
      have HH := HG'.same s5
      have rid : ∀ z ∈ L, z.2.map (rn (mergeK [] [])) = z.2 := fun z _ => (List.map_congr_left fun y _ => rfl).trans (List.map_id z.2)
      have eL : M3.map (·.2) = L.map (·.2) := asc_uniq tot_key asc5 ascL fun k => (mem5 k).trans (by rw [List.map_congr_left rid])
      have smM3 : Sm (sD (M3.map (·.2))) 2 2760 := by
        rw [eL]
        exact smL
      refine ⟨_, _, rfl, dp_store (.inl (.inl e6)) e7, smM3.sh, Nat.le_trans smM3.dp (by decide), smM3.len (by decide), ?_⟩
      refine ⟨_, rfl, _, _, rfl, dp_store HH.S.tup HH.S.facts, smL.sh, Nat.le_trans smL.dp (by decide), smL.len (by decide), rfl, _, rfl, iteNo (ne_false (by rw [eL])) ?_⟩
      exact ⟨_, _, _, _, _, _, _, rfl, HH.D.mono (by omega)⟩
end
end My

namespace My
open PySem PySem.Spec PyProof.Rows L2
theorem all_mk {l : PySem.W.OpenLaw} {w : World} {K : PySem.W.Frag} {h : Heap} {mg : Str → Option Value} {fa fDk fDr fOn fWo fPl fUn fKi fSt fNa fPu fIu fUS fRe fSo fSb fFb fLw : Addr} {td : Tok} (X : K.In h) (G : h.Ns mainGlobals mg) (hfa : mg "law" = some (.ref fa))
    {odDk anDk odDr anDr odOn anOn odWo anWo odPl anPl odUn anUn odKi anKi odSt anSt odNa anNa odPu anPu odIu anIu odUS anUS odRe anRe odSo anSo odSb anSb odFb anFb odLw anLw : Option Addr} {slDk slDr slOn slWo slPl slUn slKi slSt slNa slPu slIu slUS slRe slSo slSb slFb slLw : Array (Option Value)} {ocDk kVDk dcDk pmDk cdDk ctDk ocDr kVDr dcDr pmDr cdDr ctDr ocOn kVOn dcOn pmOn cdOn ctOn ocWo kVWo dcWo pmWo cdWo ctWo ocPl kVPl dcPl pmPl cdPl ctPl ocUn kVUn dcUn pmUn cdUn ctUn ocKi kVKi dcKi pmKi cdKi ctKi ocSt kVSt dcSt pmSt cdSt ctSt ocNa kVNa dcNa pmNa cdNa ctNa ocPu kVPu dcPu pmPu cdPu ctPu ocIu kVIu dcIu pmIu cdIu ctIu ocUS kVUS dcUS pmUS cdUS ctUS ocRe kVRe dcRe pmRe cdRe ctRe ocSo kVSo dcSo pmSo cdSo ctSo ocSb kVSb dcSb pmSb cdSb ctSb ocFb kVFb dcFb pmFb cdFb ctFb ocLw kVLw dcLw pmLw cdLw ctLw : Value}
    (aDk : PySem.W.nsIn K mainGlobals "_law_deck" = some (some (.ref fDk)))
    (lDk : K.lookup fDk = some ⟨ocDk, odDk, .func (PySem.W.fnOf "_law_deck" "_law_deck" (defArgs sDeck) (defBody sDeck) (defScope sDeck) .none kVDk dcDk pmDk anDk cdDk ctDk), slDk⟩)
    (cDk : PySem.W.codeIn K cdDk "_law_deck" = true)
    (kDk : PySem.W.keepIn K (.ref fDk) = true)
    (aDr : PySem.W.nsIn K mainGlobals "_law_draw" = some (some (.ref fDr)))
    (lDr : K.lookup fDr = some ⟨ocDr, odDr, .func (PySem.W.fnOf "_law_draw" "_law_draw" (defArgs sDraw) (defBody sDraw) (defScope sDraw) .none kVDr dcDr pmDr anDr cdDr ctDr), slDr⟩)
    (cDr : PySem.W.codeIn K cdDr "_law_draw" = true)
    (kDr : PySem.W.keepIn K (.ref fDr) = true)
    (aOn : PySem.W.nsIn K mainGlobals "_law_one" = some (some (.ref fOn)))
    (lOn : K.lookup fOn = some ⟨ocOn, odOn, .func (PySem.W.fnOf "_law_one" "_law_one" (defArgs sOne) (defBody sOne) (defScope sOne) .none kVOn dcOn pmOn anOn cdOn ctOn), slOn⟩)
    (cOn : PySem.W.codeIn K cdOn "_law_one" = true)
    (kOn : PySem.W.keepIn K (.ref fOn) = true)
    (aWo : PySem.W.nsIn K mainGlobals "_law_word" = some (some (.ref fWo)))
    (lWo : K.lookup fWo = some ⟨ocWo, odWo, .func (PySem.W.fnOf "_law_word" "_law_word" (defArgs sWord) (defBody sWord) (defScope sWord) .none kVWo dcWo pmWo anWo cdWo ctWo), slWo⟩)
    (cWo : PySem.W.codeIn K cdWo "_law_word" = true)
    (kWo : PySem.W.keepIn K (.ref fWo) = true)
    (aPl : PySem.W.nsIn K mainGlobals "_law_pool" = some (some (.ref fPl)))
    (lPl : K.lookup fPl = some ⟨ocPl, odPl, .func (PySem.W.fnOf "_law_pool" "_law_pool" (defArgs sPool) (defBody sPool) (defScope sPool) .none kVPl dcPl pmPl anPl cdPl ctPl), slPl⟩)
    (cPl : PySem.W.codeIn K cdPl "_law_pool" = true)
    (kPl : PySem.W.keepIn K (.ref fPl) = true)
    (aUn : PySem.W.nsIn K mainGlobals "_law_unknowns" = some (some (.ref fUn)))
    (lUn : K.lookup fUn = some ⟨ocUn, odUn, .func (PySem.W.fnOf "_law_unknowns" "_law_unknowns" (defArgs sUnks) (defBody sUnks) (defScope sUnks) .none kVUn dcUn pmUn anUn cdUn ctUn), slUn⟩)
    (cUn : PySem.W.codeIn K cdUn "_law_unknowns" = true)
    (kUn : PySem.W.keepIn K (.ref fUn) = true)
    (aKi : PySem.W.nsIn K mainGlobals "_law_kinds" = some (some (.ref fKi)))
    (lKi : K.lookup fKi = some ⟨ocKi, odKi, .func (PySem.W.fnOf "_law_kinds" "_law_kinds" (defArgs sKinds) (defBody sKinds) (defScope sKinds) .none kVKi dcKi pmKi anKi cdKi ctKi), slKi⟩)
    (cKi : PySem.W.codeIn K cdKi "_law_kinds" = true)
    (kKi : PySem.W.keepIn K (.ref fKi) = true)
    (aSt : PySem.W.nsIn K mainGlobals "_law_store" = some (some (.ref fSt)))
    (lSt : K.lookup fSt = some ⟨ocSt, odSt, .func (PySem.W.fnOf "_law_store" "_law_store" (defArgs sStore) (defBody sStore) (defScope sStore) .none kVSt dcSt pmSt anSt cdSt ctSt), slSt⟩)
    (cSt : PySem.W.codeIn K cdSt "_law_store" = true)
    (kSt : PySem.W.keepIn K (.ref fSt) = true)
    (aNa : PySem.W.nsIn K mainGlobals "_law_names" = some (some (.ref fNa)))
    (lNa : K.lookup fNa = some ⟨ocNa, odNa, .func (PySem.W.fnOf "_law_names" "_law_names" (defArgs sNames) (defBody sNames) (defScope sNames) .none kVNa dcNa pmNa anNa cdNa ctNa), slNa⟩)
    (cNa : PySem.W.codeIn K cdNa "_law_names" = true)
    (kNa : PySem.W.keepIn K (.ref fNa) = true)
    (aPu : PySem.W.nsIn K mainGlobals "_law_put" = some (some (.ref fPu)))
    (lPu : K.lookup fPu = some ⟨ocPu, odPu, .func (PySem.W.fnOf "_law_put" "_law_put" (defArgs sPut) (defBody sPut) (defScope sPut) .none kVPu dcPu pmPu anPu cdPu ctPu), slPu⟩)
    (cPu : PySem.W.codeIn K cdPu "_law_put" = true)
    (kPu : PySem.W.keepIn K (.ref fPu) = true)
    (aIu : PySem.W.nsIn K mainGlobals "is_unknown" = some (some (.ref fIu)))
    (lIu : K.lookup fIu = some ⟨ocIu, odIu, .func (PySem.W.fnOf "is_unknown" "is_unknown" (defArgs sUnk) (defBody sUnk) (defScope sUnk) .none kVIu dcIu pmIu anIu cdIu ctIu), slIu⟩)
    (cIu : PySem.W.codeIn K cdIu "is_unknown" = true)
    (kIu : PySem.W.keepIn K (.ref fIu) = true)
    (aUS : PySem.W.nsIn K mainGlobals "unknowns" = some (some (.ref fUS)))
    (lUS : K.lookup fUS = some ⟨ocUS, odUS, .func (PySem.W.fnOf "unknowns" "unknowns" (defArgs sUnkS) (defBody sUnkS) (defScope sUnkS) .none kVUS dcUS pmUS anUS cdUS ctUS), slUS⟩)
    (cUS : PySem.W.codeIn K cdUS "unknowns" = true)
    (kUS : PySem.W.keepIn K (.ref fUS) = true)
    (aRe : PySem.W.nsIn K mainGlobals "renamed" = some (some (.ref fRe)))
    (lRe : K.lookup fRe = some ⟨ocRe, odRe, .func (PySem.W.fnOf "renamed" "renamed" (defArgs sRen) (defBody sRen) (defScope sRen) .none kVRe dcRe pmRe anRe cdRe ctRe), slRe⟩)
    (cRe : PySem.W.codeIn K cdRe "renamed" = true)
    (kRe : PySem.W.keepIn K (.ref fRe) = true)
    (aSo : PySem.W.nsIn K mainGlobals "store_of" = some (some (.ref fSo)))
    (lSo : K.lookup fSo = some ⟨ocSo, odSo, .func (PySem.W.fnOf "store_of" "store_of" (defArgs sStoreOf) (defBody sStoreOf) (defScope sStoreOf) .none kVSo dcSo pmSo anSo cdSo ctSo), slSo⟩)
    (cSo : PySem.W.codeIn K cdSo "store_of" = true)
    (kSo : PySem.W.keepIn K (.ref fSo) = true)
    (aSb : PySem.W.nsIn K mainGlobals "store_by" = some (some (.ref fSb)))
    (lSb : K.lookup fSb = some ⟨ocSb, odSb, .func (PySem.W.fnOf "store_by" "store_by" (defArgs sStoreBy) (defBody sStoreBy) (defScope sStoreBy) .none kVSb dcSb pmSb anSb cdSb ctSb), slSb⟩)
    (cSb : PySem.W.codeIn K cdSb "store_by" = true)
    (kSb : PySem.W.keepIn K (.ref fSb) = true)
    (aFb : PySem.W.nsIn K mainGlobals "fact_by" = some (some (.ref fFb)))
    (lFb : K.lookup fFb = some ⟨ocFb, odFb, .func (PySem.W.fnOf "fact_by" "fact_by" (defArgs sFactBy) (defBody sFactBy) (defScope sFactBy) .none kVFb dcFb pmFb anFb cdFb ctFb), slFb⟩)
    (cFb : PySem.W.codeIn K cdFb "fact_by" = true)
    (kFb : PySem.W.keepIn K (.ref fFb) = true)
    (aLw : PySem.W.nsIn K mainGlobals "law" = some (some (.ref fLw)))
    (lLw : K.lookup fLw = some ⟨ocLw, odLw, .func (PySem.W.fnOf "law" "law" (defArgs sLaw) (defBody sLaw) (defScope sLaw) .none kVLw dcLw pmLw anLw cdLw ctLw), slLw⟩)
    (cLw : PySem.W.codeIn K cdLw "law" = true)
    (kLw : PySem.W.keepIn K (.ref fLw) = true)
    (z_int : PySem.W.nsIn K mainGlobals "int" = some none)
    (z_len : PySem.W.nsIn K mainGlobals "len" = some none)
    (z_abs : PySem.W.nsIn K mainGlobals "abs" = some none)
    (z_list : PySem.W.nsIn K mainGlobals "list" = some none)
    (z_range : PySem.W.nsIn K mainGlobals "range" = some none)
    (z_repr : PySem.W.nsIn K mainGlobals "repr" = some none)
    (z_tuple : PySem.W.nsIn K mainGlobals "tuple" = some none)
    (z_sorted : PySem.W.nsIn K mainGlobals "sorted" = some none)
    (z_set : PySem.W.nsIn K mainGlobals "set" = some none)
    (z_dict : PySem.W.nsIn K mainGlobals "dict" = some none)
    (z_isinstance : PySem.W.nsIn K mainGlobals "isinstance" = some none)
    (z_str : PySem.W.nsIn K mainGlobals "str" = some none)
    (z_all : PySem.W.nsIn K mainGlobals "all" = some none)
    (gDig : PySem.W.nsIn K mainGlobals "DIGITS" = some (some (.str "0123456789" td))) :
    ∃ fd : FuncData, (∀ (s : Shared) (v : Value), BindsTo s fd ⟨[v], []⟩ [("_law_script", v)]) ∧ ∀ base : Heap, K.In base → base.Ns mainGlobals mg → RunG l.prog w K mg base 6 fa fd ["_law_script"] (spLaw K) := by
  have e := hfa.symm.trans (PySem.W.mg_of X G aLw)
  cases e
  have m := fun {x : Str} {v : Value} (a : PySem.W.nsIn K mainGlobals x = some (some v)) => PySem.W.mg_of X G a
  have z := fun {x : Str} (a : PySem.W.nsIn K mainGlobals x = some none) => PySem.W.mg_none_of X G a
  have B : Blt mg := ⟨z z_int, z z_len, z z_abs, z z_list, z z_range, z z_repr⟩
  have B2 : Blt2 mg := ⟨z z_tuple, z z_sorted, z z_set, z z_dict, z z_isinstance, z z_str, z z_all⟩
  have FDk := fun_mk (st := sDeck) lDk cDk kDk
  have FDr := fun_mk (st := sDraw) lDr cDr kDr
  have FOn := fun_mk (st := sOne) lOn cOn kOn
  have FWo := fun_mk (st := sWord) lWo cWo kWo
  have FPl := fun_mk (st := sPool) lPl cPl kPl
  have FUn := fun_mk (st := sUnks) lUn cUn kUn
  have FKi := fun_mk (st := sKinds) lKi cKi kKi
  have FSt := fun_mk (st := sStore) lSt cSt kSt
  have FNa := fun_mk (st := sNames) lNa cNa kNa
  have FPu := fun_mk (st := sPut) lPu cPu kPu
  have FIu := fun_mk (st := sUnk) lIu cIu kIu
  have FUS := fun_mk (st := sUnkS) lUS cUS kUS
  have FRe := fun_mk (st := sRen) lRe cRe kRe
  have FSo := fun_mk (st := sStoreOf) lSo cSo kSo
  have FSb := fun_mk (st := sStoreBy) lSb cSb kSb
  have FFb := fun_mk (st := sFactBy) lFb cFb kFb
  have FLw := fun_mk (st := sLaw) lLw cLw kLw
  have bDk := FDk.binds (ps := ["_law_script"]) fun _ _ _ _ _ _ us hl => match us, hl with | [_], _ => rfl
  have bDr := FDr.binds (ps := ["_law_deck_here", "_law_many"]) fun _ _ _ _ _ _ us hl => match us, hl with | [_, _], _ => rfl
  have bOn := FOn.binds (ps := ["_law_deck_here", "_law_items"]) fun _ _ _ _ _ _ us hl => match us, hl with | [_, _], _ => rfl
  have bWo := FWo.binds (ps := ["_law_deck_here"]) fun _ _ _ _ _ _ us hl => match us, hl with | [_], _ => rfl
  have bPl := FPl.binds (ps := ["_law_deck_here", "_law_many"]) fun _ _ _ _ _ _ us hl => match us, hl with | [_, _], _ => rfl
  have bUn := FUn.binds (ps := ["_law_deck_here", "_law_many"]) fun _ _ _ _ _ _ us hl => match us, hl with | [_, _], _ => rfl
  have bKi := FKi.binds (ps := ["_law_deck_here"]) fun _ _ _ _ _ _ us hl => match us, hl with | [_], _ => rfl
  have bSt := FSt.binds (ps := ["_law_deck_here", "_law_kinds_here", "_law_values", "_law_many"]) fun _ _ _ _ _ _ us hl => match us, hl with | [_, _, _, _], _ => rfl
  have bNa := FNa.binds (ps := ["_law_store_here"]) fun _ _ _ _ _ _ us hl => match us, hl with | [_], _ => rfl
  have bPu := FPu.binds (ps := ["_law_store_here", "_law_names_here"]) fun _ _ _ _ _ _ us hl => match us, hl with | [_, _], _ => rfl
  have bIu := FIu.binds (ps := ["value"]) fun _ _ _ _ _ _ us hl => match us, hl with | [_], _ => rfl
  have bUS := FUS.binds (ps := ["store"]) fun _ _ _ _ _ _ us hl => match us, hl with | [_], _ => rfl
  have bRe := FRe.binds (ps := ["store", "pairs"]) fun _ _ _ _ _ _ us hl => match us, hl with | [_, _], _ => rfl
  have bSo := FSo.binds (ps := ["facts"]) fun _ _ _ _ _ _ us hl => match us, hl with | [_], _ => rfl
  have bSb := FSb.binds (ps := ["store", "table"]) fun _ _ _ _ _ _ us hl => match us, hl with | [_, _], _ => rfl
  have bFb := FFb.binds (ps := ["fact", "table"]) fun _ _ _ _ _ _ us hl => match us, hl with | [_, _], _ => rfl
  refine ⟨PySem.W.fnOf "law" "law" (defArgs sLaw) (defBody sLaw) (defScope sLaw) .none kVLw dcLw pmLw anLw cdLw ctLw, fun s v => .of_eq rfl, fun base _ _ => ?mn⟩
  case mn =>
    have gDr := ok_draw (P := l.prog) (w := w) (base := base) FDr B
    have gOn := ok_one FOn B gDr (m aDr) kDr bDr
    have gWo := ok_word FWo B gOn (m aOn) kOn bOn
    have gPl := ok_pool FPl B gWo (m aWo) kWo bWo
    have gUn := ok_unks FUn B gDr (m aDr) kDr bDr
    have gKi := ok_kinds FKi B gDr (m aDr) kDr bDr gOn (m aOn) kOn bOn gPl (m aPl) kPl bPl
    have gSt := ok_store FSt B B2 gDr (m aDr) kDr bDr gOn (m aOn) kOn bOn
    have gNa := ok_names (P := l.prog) (w := w) (base := base) FNa B B2
    have gPu := ok_put (P := l.prog) (w := w) (mg := mg) (base := base) FPu B2
    have gIu := ok_unk (P := l.prog) (w := w) (base := base) FIu B B2 (m gDig)
    have gUS := ok_unkS FUS B B2 gIu (m aIu) kIu bIu
    have gFb := ok_factBy (P := l.prog) (w := w) (mg := mg) (base := base) FFb B2
    have gSo := ok_storeOf (P := l.prog) (w := w) (mg := mg) (base := base) FSo B2
    have gSb := ok_storeBy FSb gFb (m aFb) kFb bFb gSo (m aSo) kSo bSo
    have gRe := ok_ren FRe B2 gSb (m aSb) kSb bSb
    exact ok_law FLw B B2 ⟨ok_deck FDk B, m aDk, kDk, bDk⟩ ⟨gDr, m aDr, kDr, bDr⟩ ⟨gOn, m aOn, kOn, bOn⟩ ⟨gPl, m aPl, kPl, bPl⟩ ⟨gUn, m aUn, kUn, bUn⟩ ⟨gKi, m aKi, kKi, bKi⟩ ⟨gSt, m aSt, kSt, bSt⟩ ⟨gNa, m aNa, kNa, bNa⟩ ⟨gPu, m aPu, kPu, bPu⟩ ⟨gUS, m aUS, kUS, bUS⟩ ⟨gRe, m aRe, kRe, bRe⟩
end My

open PySem PySem.W PyProof.Rows
set_option maxRecDepth 100000 in
set_option maxHeartbeats 0 in
theorem PySem.Challenge.cw_corestore_k02_names_replaced_holds : PySem.Challenge.rw_corestore_k02_names_replaced.Holds := by
  w_on; o_law; k_head; (case hw => w_witness2)
  k_fill
  refine My.walk_g (l := PySem.Challenge.rw_corestore_k02_names_replaced) (k := 6) (x := "_law_script") (sp := My.spLaw) rfl rfl ⟨rfl, by decide, by decide⟩ (fun w h Y => PySem.W.kIn_of Y) ?F (fun K H a ns hl hS => ⟨a, ns, rfl, hS, hl, fun _ => rfl⟩)
  case F =>
    intro w mg fa h KX G hmg
    refine' My.all_mk KX G hmg ?aDk ?lDk ?cDk ?kDk ?aDr ?lDr ?cDr ?kDr ?aOn ?lOn ?cOn ?kOn ?aWo ?lWo ?cWo ?kWo ?aPl ?lPl ?cPl ?kPl ?aUn ?lUn ?cUn ?kUn ?aKi ?lKi ?cKi ?kKi ?aSt ?lSt ?cSt ?kSt ?aNa ?lNa ?cNa ?kNa ?aPu ?lPu ?cPu ?kPu ?aIu ?lIu ?cIu ?kIu ?aUS ?lUS ?cUS ?kUS ?aRe ?lRe ?cRe ?kRe ?aSo ?lSo ?cSo ?kSo ?aSb ?lSb ?cSb ?kSb ?aFb ?lFb ?cFb ?kFb ?aLw ?lLw ?cLw ?kLw ?z_int ?z_len ?z_abs ?z_list ?z_range ?z_repr ?z_tuple ?z_sorted ?z_set ?z_dict ?z_isinstance ?z_str ?z_all ?gDig
    (case gDig => k_is)
    (case aDk => k_is)
    (case aDr => k_is)
    (case aOn => k_is)
    (case aWo => k_is)
    (case aPl => k_is)
    (case aUn => k_is)
    (case aKi => k_is)
    (case aSt => k_is)
    (case aNa => k_is)
    (case aPu => k_is)
    (case aIu => k_is)
    (case aUS => k_is)
    (case aRe => k_is)
    (case aSo => k_is)
    (case aSb => k_is)
    (case aFb => k_is)
    (case aLw => k_is)
    (case lDk => k_is)
    (case lDr => k_is)
    (case lOn => k_is)
    (case lWo => k_is)
    (case lPl => k_is)
    (case lUn => k_is)
    (case lKi => k_is)
    (case lSt => k_is)
    (case lNa => k_is)
    (case lPu => k_is)
    (case lIu => k_is)
    (case lUS => k_is)
    (case lRe => k_is)
    (case lSo => k_is)
    (case lSb => k_is)
    (case lFb => k_is)
    (case lLw => k_is)
    (case cDk => k_is)
    (case kDk => k_is)
    (case cDr => k_is)
    (case kDr => k_is)
    (case cOn => k_is)
    (case kOn => k_is)
    (case cWo => k_is)
    (case kWo => k_is)
    (case cPl => k_is)
    (case kPl => k_is)
    (case cUn => k_is)
    (case kUn => k_is)
    (case cKi => k_is)
    (case kKi => k_is)
    (case cSt => k_is)
    (case kSt => k_is)
    (case cNa => k_is)
    (case kNa => k_is)
    (case cPu => k_is)
    (case kPu => k_is)
    (case cIu => k_is)
    (case kIu => k_is)
    (case cUS => k_is)
    (case kUS => k_is)
    (case cRe => k_is)
    (case kRe => k_is)
    (case cSo => k_is)
    (case kSo => k_is)
    (case cSb => k_is)
    (case kSb => k_is)
    (case cFb => k_is)
    (case kFb => k_is)
    (case cLw => k_is)
    (case kLw => k_is)
    (case z_int => k_is)
    (case z_len => k_is)
    (case z_abs => k_is)
    (case z_list => k_is)
    (case z_range => k_is)
    (case z_repr => k_is)
    (case z_tuple => k_is)
    (case z_sorted => k_is)
    (case z_set => k_is)
    (case z_dict => k_is)
    (case z_isinstance => k_is)
    (case z_str => k_is)
    (case z_all => k_is)
    all_goals exact Value.none
