import PyProof.Rows.All
import Wide.All
import OpenK.AllK
import Wide.FinOn
import HandS.ForMost
import HandS.ForExc
import HandS.Codes
import HandS.IsInst
import HandS.ExcInit
import HandS.ExcValue
import KE.KExcIs
import HandS.TupSets
import HandS.SetBool
import HandS.SortOrd
import HandS.SortRule
import PyProof.Rows.SortKeyStr
import HandS.SetFor
import HandS.Strs
import KE.KDictPairs
import HandS.TupAny
import HandS.Text
import PyProof.ReprLen
import HandS.DictComp
import PySem.Challenge.RW_corestore_k20_keys_that_follow
set_option Elab.async false
set_option maxRecDepth 100000
/-! MyA: what every law needs: data in the abstract heap, repr of data, displays as data -/
namespace My
open PySem PySem.Spec PyProof.Rows L2

/-- the abstract heap without what stands at d -/
def off (d : Addr) (H : Hp) : Hp := fun b => if b = d then none else H b
/-- all but what stands at d is as it was -/
def Fr (d : Addr) (H H' : Hp) : Prop := ∀ b o, b ≠ d → H b = some o → H' b = some o
theorem Fr.refl (d : Addr) (H : Hp) : Fr d H H := fun _ _ _ h => h
theorem Fr.trans {d : Addr} {H H1 H2 : Hp} (a : Fr d H H1) (b : Fr d H1 H2) : Fr d H H2 := fun c o n h => b c o n (a c o n h)
theorem same_fr {d : Addr} {H H' : Hp} (a : Same H H') : Fr d H H' := fun c o _ h => a c o h
theorem Fr.off {d : Addr} {H H' : Hp} (a : Fr d H H') : Same (off d H) (off d H') := fun b o h => by
  unfold My.off at h ⊢
  by_cases e : b = d
  · rw [if_pos e] at h
    cases h
  · rw [if_neg e] at h ⊢
    exact a b o e h
theorem off_le {d : Addr} {H : Hp} : Same (off d H) H := fun b o h => by
  unfold off at h
  by_cases e : b = d
  · rw [if_pos e] at h
    cases h
  · rw [if_neg e] at h
    exact h
theorem off_at {d b : Addr} {H : Hp} {o : HO} (n : b ≠ d) (h : H b = some o) : off d H b = some o := by
  unfold off
  rw [if_neg n]
  exact h
theorem same_new {H : Hp} {p : Addr} {o : HO} (n : H p = none) : Same H (upd H p o) := fun b u h => by
  rw [upd_ne (ne_of_none h n)]
  exact h
theorem fr_upd {H : Hp} {d : Addr} {o : HO} : Fr d H (upd H d o) := fun b u n h => by
  rw [upd_ne n]
  exact h
theorem same_seqT {K : PySem.W.Frag} {H H' : Hp} {a : Addr} {xs : List V} (e : Same H H') (h : SqT K H a xs) : SqT K H' a xs := by
  rcases h with (h | ⟨o, h⟩) | h
  · exact .inl (.inl (e _ _ h))
  · exact .inl (.inr ⟨o, e _ _ h⟩)
  · exact .inr h

section
variable {K : PySem.W.Frag} {H H' : Hp}
mutual
theorem dp_same (e : Same H H') : ∀ (d : PyData) (v : V), Dp K H v d → Dp K H' v d
  | .none, _, h => by cases h; exact .non
  | .bool _, _, h => by cases h; exact .bl _
  | .int _, _, h => by cases h; exact .int _
  | .str _, _, h => by cases h; exact .str _
  | .list ds, _, h => by
    cases h with
    | lst hs ha => exact .lst (Same.seq e hs) (dps_same e ds _ ha)
  | .tuple ds, _, h => by
    cases h with
    | tup hs ha => exact .tup (same_seqT e hs) (dps_same e ds _ ha)
  | .dict _, _, h => by cases h
theorem dps_same (e : Same H H') : ∀ (ds : List PyData) (vs : List V), DpAll K H vs ds → DpAll K H' vs ds
  | [], _, h => by cases h; exact .nil
  | d :: ds, _, h => by
    cases h with
    | cons h1 h2 => exact .cons (dp_same e d _ h1) (dps_same e ds _ h2)
end
theorem dps_len : ∀ {ds : List PyData} {vs : List V}, DpAll K H vs ds → vs.length = ds.length
  | [], _, h => by cases h; rfl
  | d :: ds, _, h => by
    cases h with
    | cons h1 h2 => rw [List.length_cons, List.length_cons, dps_len h2]
theorem dps_get : ∀ {ds : List PyData} {vs : List V} {j : Nat} {v : V}, DpAll K H vs ds → vs[j]? = some v → ∃ d, ds[j]? = some d ∧ Dp K H v d
  | [], _, j, v, h, e => by cases h; simp at e
  | d :: ds, _, j, v, h, e => by
    cases h with
    | cons h1 h2 =>
      cases j with
      | zero =>
        simp at e
        subst e
        exact ⟨d, rfl, h1⟩
      | succ j =>
        obtain ⟨z, hz, hd⟩ := dps_get (j := j) (v := v) h2 (by simpa using e)
        exact ⟨z, by simpa using hz, hd⟩
theorem dps_app : ∀ {ds es : List PyData} {vs us : List V}, DpAll K H vs ds → DpAll K H us es → DpAll K H (vs ++ us) (ds ++ es)
  | [], _, _, _, h, g => by cases h; exact g
  | d :: ds, _, _, _, h, g => by
    cases h with
    | cons h1 h2 => exact .cons h1 (dps_app h2 g)
mutual
theorem dp_noDict : ∀ (d : PyData) (v : V), Dp K H v d → d.hasDict = false
  | .none, _, _ => by simp only [PyData.hasDict]
  | .bool _, _, _ => by simp only [PyData.hasDict]
  | .int _, _, _ => by simp only [PyData.hasDict]
  | .str _, _, _ => by simp only [PyData.hasDict]
  | .list ds, _, h => by
    cases h with
    | lst hs ha => simp only [PyData.hasDict]; exact dps_noDict ds _ ha
  | .tuple ds, _, h => by
    cases h with
    | tup hs ha => simp only [PyData.hasDict]; exact dps_noDict ds _ ha
  | .dict _, _, h => by cases h
theorem dps_noDict : ∀ (ds : List PyData) (vs : List V), DpAll K H vs ds → PyData.hasDictAll ds = false
  | [], _, _ => by simp only [PyData.hasDictAll]
  | d :: ds, _, h => by
    cases h with
    | cons h1 h2 => simp only [PyData.hasDictAll, dp_noDict d _ h1, dps_noDict ds _ h2, Bool.or_false]
end
end

/-! ### repr of data -/
def rRepr (K : PySem.W.Frag) : List V → Hp → VK → Prop := fun xs H Q => ∃ (x : V) (d : PyData), xs = [x] ∧ Dp K H x d ∧ d.showable = true ∧ d.depth ≤ 60 ∧ d.shown.length ≤ sizeLine ∧ Q (.str d.shown) H
theorem cr_repr {X : Cx} (hg : X.A.guards = some []) (hu : X.A.units + 64 < cLine) : CallR X (.builtin "repr") (rRepr X.K) := by
  intro pins s σ H xs us Q I r h
  obtain ⟨x, d, rfl, hd, hs, hz, hl, q⟩ := h
  obtain ⟨u, rfl, ru⟩ := vals1 r
  obtain ⟨as, rd⟩ := Dp.reads I d x u hd ru
  have nd := dp_noDict d x hd
  cases hd with
  | non =>
    cases (show u = Value.none from ru)
    have e : (PyData.none).shown = ("None" : Str) := by simp only [PyData.shown]
    rw [e] at q
    exact PySem.P.repr_of_none ⟨.str _, H, I.tok _, ⟨_, rfl⟩, q⟩
  | bl b =>
    cases (show u = Value.bool b from ru)
    have e : (PyData.bool b).shown = (if b then Str.ofString "True" else Str.ofString "False") := by simp only [PyData.shown]
    rw [e] at q
    exact PySem.P.repr_of_bool ⟨.str _, H, I.tok _, ⟨_, rfl⟩, q⟩
  | int i =>
    obtain ⟨t, rfl⟩ := (show ∃ t, u = Value.int i t from ru)
    have e : (PyData.int i).shown = (toString i : String) := by simp only [PyData.shown]
    rw [e] at q
    exact PySem.P.repr_of_int (by simpa [PyData.showable] using hs) ⟨.str _, H, I.tok _, ⟨_, rfl⟩, q⟩
  | str z =>
    obtain ⟨t, rfl⟩ := (show ∃ t, u = Value.str z t from ru)
    have e : (PyData.str z).shown = reprText z := by simp only [PyData.shown]
    rw [e] at q hl
    exact PySem.P.repr_of_str ⟨.str _, H, I.tok _, ⟨_, rfl⟩, q⟩ hl
  | @lst a xs ds h1 h2 =>
    cases (show u = Value.ref a from ru)
    exact repr_of_reads' (h₀ := s.heap) rd hs (PyData.noDict_hsm nd) hg (by omega) (fun _ _ e => e) (fun h' u tk hk => ⟨.str _, H, I.kept hk, ⟨u, rfl⟩, q⟩) hl
  | @tup a xs ds h1 h2 =>
    cases (show u = Value.ref a from ru)
    exact repr_of_reads' (h₀ := s.heap) rd hs (PyData.noDict_hsm nd) hg (by omega) (fun _ _ e => e) (fun h' u tk hk => ⟨.str _, H, I.kept hk, ⟨u, rfl⟩, q⟩) hl

/-! ### displays as data -/
/-- what of H' is new -/
def newp (H H' : Hp) : Hp := fun b => if H b = none then H' b else none
theorem newp_at {H H' : Hp} {b : Addr} {o : HO} (n : H b = none) (h : H' b = some o) : newp H H' b = some o := by
  unfold newp
  rw [if_pos n]
  exact h
theorem newp_of {H H' : Hp} {b : Addr} {o : HO} (h : newp H H' b = some o) : H b = none ∧ H' b = some o := by
  unfold newp at h
  by_cases e : H b = none
  · rw [if_pos e] at h
    exact ⟨e, h⟩
  · rw [if_neg e] at h
    cases h
theorem newp_le {H H' : Hp} : Same (newp H H') H' := fun _ _ h => (newp_of h).2
theorem newp_out {H H1 H2 : Hp} (e : Same H1 H2) : Same (newp H H1) (newp H H2) := fun b o h => newp_at (newp_of h).1 (e b o (newp_of h).2)
theorem newp_in {H H1 H2 : Hp} (e : Same H H1) : Same (newp H1 H2) (newp H H2) := fun _ _ h => newp_at (e.free (newp_of h).1) (newp_of h).2
theorem newp_off {H H' : Hp} {d : Addr} {o : HO} (h : H d = some o) : Same (newp H H') (off d H') := fun b u q => off_at (fun e => by
    subst e
    have z := (newp_of q).1
    rw [h] at z
    cases z) (newp_of q).2
def tD (K : PySem.W.Frag) (d : PyData) : TE := fun _ H Q => ∀ (v : V) (H' : Hp), Same H H' → Dp K (newp H H') v d → Q v H'
def tDs (K : PySem.W.Frag) (ds : List PyData) : TA := fun _ H Q => ∀ (vs : List V) (H' : Hp), Same H H' → DpAll K (newp H H') vs ds → Q vs H'
section
variable {X : Cx} {e : Expr} {es : List Expr} {d : PyData} {ds : List PyData} {pos : Pos}
theorem pe_of {t t' : TE} (h : PE X e t) (i : ∀ σ H Q, t' σ H Q → t σ H Q) : PE X e t' := ⟨fun pins s σ H Q I q => h.run pins s σ H Q I (i σ H Q q)⟩
theorem pa_of {t t' : TA} (h : PA X es t) (i : ∀ σ H Q, t' σ H Q → t σ H Q) : PA X es t' := ⟨fun p pins s σ H Q I q => h.run p pins s σ H Q I (i σ H Q q)⟩
theorem pd_non {j} : PE X (.Constant .none j pos) (tD X.K .none) := pe_of pe_non fun _ H _ q => q _ H (Same.refl H) .non
theorem pd_bl {b j} : PE X (.Constant (.bool b) j pos) (tD X.K (.bool b)) := pe_of pe_bl fun _ H _ q => q _ H (Same.refl H) (.bl b)
theorem pd_int {i j} : PE X (.Constant (.int i) j pos) (tD X.K (.int i)) := pe_of pe_int fun _ H _ q => q _ H (Same.refl H) (.int i)
theorem pd_str {x j} : PE X (.Constant (.str x) j pos) (tD X.K (.str x)) := pe_of pe_str fun _ H _ q => q _ H (Same.refl H) (.str x)
theorem pds_nil : PA X [] (tDs X.K []) := pa_of pa_nil fun _ H _ q => q _ H (Same.refl H) .nil
theorem pds_cons (he : PE X e (tD X.K d)) (hes : PA X es (tDs X.K ds)) (hs : starEach (e :: es) X.env = (false, eval e X.env) :: starEach es X.env := by rfl) : PA X (e :: es) (tDs X.K (d :: ds)) :=
  pa_of (pa_cons he hes hs) fun _ _ _ q v _ s1 h1 vs _ s2 h2 => q (v :: vs) _ (s1.trans s2) (.cons (dp_same (newp_out s2) d v h1) (dps_same (newp_in s1) ds vs h2))
theorem pd_tup {x1} (h : PA X es (tDs X.K ds)) (hz : ds.length ≤ sizeLine := by decide) : PE X (.Tuple es x1 pos) (tD X.K (.tuple ds)) :=
  pe_of (pe_tup h) fun _ _ _ q vs H1 s1 h1 => ⟨by rw [dps_len h1]; exact hz, fun p np => q (.ref p) _ (s1.trans (same_new np)) (.tup (.inl (.inl (newp_at (s1.free np) upd_same))) (dps_same (newp_out (same_new np)) ds vs h1))⟩
/-- a list display, its items told too: it is a new list -/
def tDL (K : PySem.W.Frag) (ds : List PyData) : TE := fun _ H Q => ∀ (p : Addr) (vs : List V) (H' : Hp), Same H H' → H p = none → H' p = some (.lst vs) → DpAll K (newp H H') vs ds → vs.length = ds.length → Q (.ref p) H'
theorem pdl (h : PA X es (tDs X.K ds)) (hz : ds.length ≤ sizeLine := by decide) : PE X (.List es pos) (tDL X.K ds) :=
  pe_of (pe_lst h) fun _ _ _ q vs H1 s1 h1 => ⟨by rw [dps_len h1]; exact hz, fun p np => q p vs _ (s1.trans (same_new np)) (s1.free np) upd_same (dps_same (newp_out (same_new np)) ds vs h1) (dps_len h1)⟩
theorem pd_lst (h : PA X es (tDs X.K ds)) (hz : ds.length ≤ sizeLine := by decide) : PE X (.List es pos) (tD X.K (.list ds)) :=
  pe_of (pdl h hz) fun _ _ _ q p _ H1 s1 np hp h1 _ => q (.ref p) H1 s1 (.lst (.inl (.inl (newp_at np hp))) h1)
end
end My

namespace My
open PySem PySem.Spec PyProof.Rows L2
def top (i : Nat) : Stmt := PySem.Challenge.pw_corestore_k20_keys_that_follow.main.body.getD i (.Pass ⟨0, 0, 0, 0⟩)
abbrev sHeads : Stmt := top 1
abbrev sWidths : Stmt := top 2
abbrev sKeyF : Stmt := top 4
abbrev sKeyH : Stmt := top 5
abbrev sHasAll : Stmt := top 6
abbrev sDeck : Stmt := top 8
abbrev sDraw : Stmt := top 9
abbrev sOne : Stmt := top 10
abbrev sWord : Stmt := top 11
abbrev sPool : Stmt := top 12
abbrev sVars : Stmt := top 13
abbrev sAtoms : Stmt := top 14
abbrev sRule : Stmt := top 15
abbrev sBook : Stmt := top 16
abbrev sLaw : Stmt := top 17
end My

/-! DkDef: what a deck is -/
namespace My
open PySem PySem.Spec PyProof.Rows L2

/-- the built-in names that the helpers use are still the built-in ones -/
structure Blt (mg : Str → Option Value) : Prop where
  int : mg "int" = none
  len : mg "len" = none
  abs : mg "abs" = none
  list : mg "list" = none
  range : mg "range" = none
  repr : mg "repr" = none
/-- a deck at d: its cells ns at l, at most k draws so far -/
structure Deck (H : Hp) (d l : Addr) (ns : List Int) (k : Nat) : Prop where
  ex : ∃ i r n : Int, H d = some (.lst [.ref l, .int i, .int r, .int n]) ∧ 0 ≤ n ∧ n ≤ k
  cells : H l = some (.lst (ns.map V.int))
theorem Deck.ne {H : Hp} {d l : Addr} {ns : List Int} {k : Nat} (D : Deck H d l ns k) : l ≠ d := by
  intro e
  obtain ⟨⟨i, r, n, h, _⟩, c⟩ := D
  rw [e, h] at c
  have c' := HO.lst.inj (Option.some.inj c)
  cases ns with
  | nil => cases c'
  | cons z zs => cases (List.cons.inj c').1
theorem Deck.mono {H : Hp} {d l : Addr} {ns : List Int} {k j : Nat} (D : Deck H d l ns k) (h : k ≤ j) : Deck H d l ns j := by
  obtain ⟨⟨i, r, n, e, h0, h1⟩, c⟩ := D
  exact ⟨⟨i, r, n, e, h0, by omega⟩, c⟩
theorem Deck.same {H H' : Hp} {d l : Addr} {ns : List Int} {k : Nat} (D : Deck H d l ns k) (e : Same H H') : Deck H' d l ns k := by
  obtain ⟨⟨i, r, n, h, hn⟩, c⟩ := D
  exact ⟨⟨i, r, n, e _ _ h, hn⟩, e _ _ c⟩
theorem Deck.upd {H : Hp} {d l b : Addr} {ns : List Int} {k : Nat} {o : HO} (D : Deck H d l ns k) (hd : b ≠ d) (hl : b ≠ l) : Deck (upd H b o) d l ns k := by
  obtain ⟨⟨i, r, n, e, z⟩, c⟩ := D
  exact ⟨⟨i, r, n, by rw [upd_ne (Ne.symm hd)]; exact e, z⟩, by rw [upd_ne (Ne.symm hl)]; exact c⟩
theorem Deck.nd {H : Hp} {d l b : Addr} {ns : List Int} {k : Nat} (D : Deck H d l ns k) (n : H b = none) : b ≠ d ∧ b ≠ l := by
  obtain ⟨⟨i, r, m, e, z⟩, c⟩ := D
  exact ⟨Ne.symm (ne_of_none e n), Ne.symm (ne_of_none c n)⟩
end My

namespace My
open PySem PySem.Spec PyProof.Rows L2

/-- the deck is made of the script -/
def spDeck (K : PySem.W.Frag) : Sp := fun vs H Q _ => ∃ (a : Addr) (ns : List Int), vs = [.ref a] ∧ SqL K H a (ns.map V.int) ∧ ns.length ≤ 63 ∧ ∀ (d l : Addr) (ms : List Int) (H' : Hp), Deck H' d l ms 0 → H d = none → H l = none → ms.length ≤ 63 → Same H H' → Q (.ref d) H'
/-- a draw below m -/
def spDraw : Sp := fun vs H Q _ => ∃ (d l : Addr) (ns : List Int) (k : Nat) (m : Int), vs = [.ref d, .int m] ∧ 0 < m ∧ m < 1073741824 ∧ Deck H d l ns k ∧ ns.length ≤ 63 ∧ k < 1073741824 ∧
  ∀ (v : Int) (H' : Hp), 0 ≤ v → v < m → Deck H' d l ns (k + 1) → Fr d H H' → Q (.int v) H'
/-- an item of a list or tuple, or a sign of a text -/
def spOne (K : PySem.W.Frag) : Sp := fun vs H Q _ => ∃ (d l : Addr) (ns : List Int) (k : Nat) (x : V), vs = [.ref d, x] ∧ Deck H d l ns k ∧ ns.length ≤ 63 ∧ k < 1073741824 ∧
  ((∃ (p : Addr) (xs : List V), x = .ref p ∧ p ≠ d ∧ (SqL K (off d H) p xs ∨ SqT K (off d H) p xs) ∧ xs ≠ [] ∧ xs.length < 1000000 ∧
    ∀ (j : Nat) (v : V) (H' : Hp), xs[j]? = some v → Deck H' d l ns (k + 1) → Fr d H H' → Q v H') ∨
   (∃ z : Str, x = .str z ∧ 0 < z.length ∧ z.length < 1000000 ∧ ∀ (c : Nat) (H' : Hp), c ∈ z.cps.toList → Deck H' d l ns (k + 1) → Fr d H H' → Q (.str ⟨#[c]⟩) H'))

theorem dps_ints {K : PySem.W.Frag} {H : Hp} : ∀ ns : List Int, DpAll K H (ns.map V.int) (ns.map PyData.int)
  | [] => .nil
  | z :: zs => .cons (.int z) (dps_ints zs)
theorem ints_lay : ∀ ns : List Int, PyData.canLayAll0 (ns.map PyData.int) = true
  | [] => by simp [PyData.canLayAll0]
  | z :: zs => by
    have h := ints_lay zs
    simp [PyData.canLayAll0, PyData.canLay0, h]
theorem ints_depth : ∀ ns : List Int, PyData.depthAll (ns.map PyData.int) = 0
  | [] => by simp [PyData.depthAll]
  | z :: zs => by
    have h := ints_depth zs
    simp [PyData.depthAll, PyData.depth, h]
theorem ints_shaped (ns : List Int) : SeqAt.shaped (.list (ns.map PyData.int)) = true := by
  unfold SeqAt.shaped
  rw [Bool.and_eq_true]
  refine ⟨?_, decide_eq_true ?_⟩
  · simp only [PyData.canLay0]
    exact ints_lay ns
  · simp only [PyData.depth, ints_depth]
    omega
theorem place {i : Int} {n : Nat} (h : 0 < n) : ∃ j : Nat, i % (n : Int) = (j : Int) ∧ j < n := by
  have h1 : 0 ≤ i % (n : Int) := Int.emod_nonneg i (by omega)
  have h2 : i % (n : Int) < (n : Int) := Int.emod_lt_of_pos i (by omega)
  exact ⟨(i % (n : Int)).toNat, by omega, by omega⟩
theorem small_prod {a b : Int} {p q : Nat} (ha0 : 0 ≤ a) (ha : a < p) (hb0 : 0 ≤ b) (hb : b < q) : a * b ≤ (p : Int) * q :=
  Int.mul_le_mul (by omega) (by omega) hb0 (by omega)
theorem mix_ok {x1 n : Int} (m0 : 0 ≤ x1) (m1 : x1 < 2147483629) (h0 : 0 ≤ n) (h1 : n ≤ 1073741824) : (-(2 ^ 64) < x1 ∧ x1 < 2 ^ 64) ∧ (x1 * (2 * (n + 1) + 7) + 6151).natAbs < 2 ^ 64 := by
  have pr : x1 * (2 * (n + 1) + 7) ≤ (2147483629 : Int) * 4294967296 := Int.mul_le_mul (by omega) (by omega) (by omega) (by omega)
  have pr0 : 0 ≤ x1 * (2 * (n + 1) + 7) := Int.mul_nonneg m0 (by omega)
  refine ⟨by omega, ?_⟩
  generalize x1 * (2 * (n + 1) + 7) = z at pr pr0 ⊢
  omega
section
variable {P : Program} {w : World} {K : PySem.W.Frag} {mg : Str → Option Value} {base : Heap}
theorem scDeck : FnScope ["_law_script"] ["_law_script"] (defScope sDeck) := ⟨rfl, rfl, rfl, by decide +kernel, rfl, by decide +kernel, by decide +kernel⟩
theorem ok_deck {f : Addr} {fd : FuncData} (F : Fun K "_law_deck" "_law_deck" sDeck f fd) (B : Blt mg) : FnOk P w K mg base CX0 1 f fd ["_law_script"] (spDeck K) := by
  refine F.ok scDeck (fun vs H Q E h => ?_) (fun cdv A outer s H vs Q E hr h => ?_)
  · obtain ⟨a, ns, rfl, _⟩ := h
    rfl
  · obtain ⟨a, ns, rfl, hS, hn, q⟩ := h
    refine ⟨_, pss_one (ps_ret (pe_lst (pa_cons (pe_callTy call_list_of (by rfl) B.list boot_list (pa_cons (pe_slice sl_list (pv 0) po_none (po_some pe_int)) pa_nil)) (pa_cons pe_int (pa_cons pe_int (pa_cons pe_int pa_nil)))))), ?_⟩
    refine ⟨_, rfl, 63, rfl, a, _, rfl, hS, fun p np => ⟨p, _, rfl, .inl (.inl (.inl upd_same)), fun l nl => ⟨(by show 4 ≤ sizeLine; decide), fun d nd => ?_⟩⟩⟩
    have ec : cutV (ns.map V.int) none (some 63) = ((ns.drop (HT.sIx (ns.map V.int).length 0 none)).take (HT.sIx (ns.map V.int).length (ns.map V.int).length (some 63) - HT.sIx (ns.map V.int).length 0 none)).map V.int := by
      unfold cutV
      rw [List.map_take, List.map_drop]
    have sm := ((same_new np).trans (same_new nl)).trans (same_new (o := .lst [.ref l, .int 0, .int 0, .int 0]) nd)
    refine q d l ((ns.drop (HT.sIx (ns.map V.int).length 0 none)).take (HT.sIx (ns.map V.int).length (ns.map V.int).length (some 63) - HT.sIx (ns.map V.int).length 0 none)) _ ⟨⟨0, 0, 0, upd_same, by omega, by omega⟩, (same_new nd) l _ (by rw [← ec]; exact upd_same)⟩ (((same_new np).trans (same_new nl)).free nd) ((same_new np).free nl) (by rw [List.length_take, List.length_drop]; omega) sm
theorem scDraw : FnScope ["_law_deck_here", "_law_many", "_law_found", "_law_cell", "_law_mixed"] ["_law_deck_here", "_law_many"] (defScope sDraw) := ⟨rfl, rfl, rfl, by decide +kernel, rfl, by decide +kernel, by decide +kernel⟩
theorem ok_draw {f : Addr} {fd : FuncData} (F : Fun K "_law_draw" "_law_draw" sDraw f fd) (B : Blt mg) : FnOk P w K mg base CX0 1 f fd ["_law_deck_here", "_law_many"] spDraw := by
  refine F.ok scDraw (fun vs H Q E h => ?_) (fun cdv A outer s H vs Q E hr h => ?_)
  · obtain ⟨d, l, ns, k, m, rfl, _⟩ := h
    rfl
  · obtain ⟨d, l, ns, k, m, rfl, hm, hm2, D, hlen, hk, q⟩ := h
    have hu := hr.units
    refine ⟨_, pss_cons (ps_asg (pe_op op_add (pe_ix ix_list (pv 0) pe_int (fun _ _ => rfl)) pe_int) (pg_sub (pv 0) pe_int set_list))
      (pss_cons (ps_if (pt_cmpR op_gt (pe_ix ix_list (pv 0) pe_int (fun _ _ => rfl)) pe_int (nomark _))
        (pss_cons (ps_set (i := 2) scDraw.nd rfl (Or.inl rfl) (pe_op op_mod (pe_callTy call_int1 (by rfl) B.int boot_int (pa_cons (pe_ix ix_list (pv 0) pe_int (fun _ _ => rfl)) pa_nil)) (pv 1)))
          (pss_cons (ps_asg (pe_op op_fdiv (pe_ix ix_list (pv 0) pe_int (fun _ _ => rfl)) (pv 1)) (pg_sub (pv 0) pe_int set_list))
            (pss_one (ps_ret (pv 2)))))
        pss_nil)
      (pss_cons (ps_set (i := 3) scDraw.nd rfl (Or.inl rfl) pe_int)
      (C8.pss_cut (ps_if (pt_cmpR (op_neD hu) (pe_ix ix_list (pv 0) pe_int (fun _ _ => rfl)) (pe_lst pa_nil) (nomark _))
        (pss_one (ps_set (i := 3) scDraw.nd rfl (Or.inl rfl) (pe_ix ix_list (pe_ix ix_list (pv 0) pe_int (fun _ _ => rfl)) (pe_op op_mod (pe_callTy call_int1 (by rfl) B.int boot_int (pa_cons (pe_ix ix_list (pv 0) pe_int (fun _ _ => rfl)) pa_nil)) (pe_callB call_len_seq (by rfl) B.len PySem.boot_len (pa_cons (pe_ix ix_list (pv 0) pe_int (fun _ _ => rfl)) pa_nil))) (fun _ _ => rfl))))
        pss_nil)
      (pss_cons (ps_asg (pe_op op_add (pe_ix ix_list (pv 0) pe_int (fun _ _ => rfl)) pe_int) (pg_sub (pv 0) pe_int set_list))
      (C8.pss_cut (ps_if (PW.pt (pw_and (pt_cmpR op_ge (pe_callB call_abs (by rfl) B.abs (by decide +kernel) (pa_cons (pv 3) pa_nil)) (pe_op op_pow pe_int pe_int) (nomark _)) (pw_and1 (pt_cmpR op_le (pe_ix ix_list (pv 0) pe_int (fun _ _ => rfl)) (pe_callB call_len_seq (by rfl) B.len PySem.boot_len (pa_cons (pe_ix ix_list (pv 0) pe_int (fun _ _ => rfl)) pa_nil)) (nomark _)))))
        (pss_cons (ps_asg (pe_op op_fdiv (pe_callB call_abs (by rfl) B.abs (by decide +kernel) (pa_cons (pv 3) pa_nil)) (pv 1)) (pg_sub (pv 0) pe_int set_list))
          (pss_one (ps_ret (pe_op op_mod (pe_callTy call_int1 (by rfl) B.int boot_int (pa_cons (pe_callB call_abs (by rfl) B.abs (by decide +kernel) (pa_cons (pv 3) pa_nil)) pa_nil)) (pv 1)))))
        pss_nil)
      (pss_cons (ps_set (i := 4) scDraw.nd rfl (Or.inl rfl) (pe_op op_mod (pe_op op_pow (pe_callTy call_int1 (by rfl) B.int boot_int (pa_cons (pe_op op_add (pe_op op_mod (pe_callTy call_int1 (by rfl) B.int boot_int (pa_cons (pv 3) pa_nil)) pe_int) (pe_op op_mul pe_int (pe_ix ix_list (pv 0) pe_int (fun _ _ => rfl)))) pa_nil)) pe_int) pe_int))
      (pss_cons (ps_set (i := 4) scDraw.nd rfl (Or.inl rfl) (pe_op op_mod (pe_op op_pow (pe_callTy call_int1 (by rfl) B.int boot_int (pa_cons (pe_op op_add (pe_op op_mul (pv 4) (pe_op op_add (pe_op op_mul pe_int (pe_ix ix_list (pv 0) pe_int (fun _ _ => rfl))) pe_int)) pe_int) pa_nil)) pe_int) pe_int))
      (pss_one (ps_ret (pe_op op_mod (pe_op op_fdiv (pv 4) pe_int) (pv 1))))))))))), ?_⟩
    obtain ⟨i, r, n, hd, hn0, hnk⟩ := D.ex
    have hld : l ≠ d := D.ne
    have hl : H l = some (.lst (ns.map V.int)) := D.cells
    -- deck[3] = deck[3] + 1
    refine ⟨_, rfl, d, _, _, _, rfl, rfl, .inl (.inl hd), rfl, n, 1, rfl, rfl, _, rfl, d, _, _, 3, rfl, rfl, hd, rfl, ?_⟩
    -- if deck[2] > 0
    refine ⟨_, rfl, d, _, _, _, rfl, rfl, .inl (.inl upd_same), rfl, r, 0, rfl, rfl, _, rfl, ite2 (fun _ => ?_) fun _ => ?_⟩
    · refine ⟨_, rfl, d, _, _, _, rfl, rfl, .inl (.inl upd_same), rfl, .inl ⟨r, rfl, _, rfl, r, m, rfl, rfl, hm, ?_⟩⟩
      refine ⟨_, rfl, d, _, _, _, rfl, rfl, .inl (.inl upd_same), rfl, _, rfl, r, m, rfl, rfl, ⟨hm, hm2⟩, _, rfl, d, _, _, 2, rfl, rfl, upd_same, rfl, _, rfl, ?_⟩
      exact q _ _ (Int.emod_nonneg _ (by omega)) (Int.emod_lt_of_pos _ hm) ⟨⟨i, r / m, n + 1, upd_same, by omega, by omega⟩, by rw [upd_ne hld, upd_ne hld]; exact hl⟩ (fr_upd.trans fr_upd)
    -- cell = 73; if deck[0] != []
    refine ⟨fun σ' H' => ∃ (c : Int) (G : Hp), σ' = [some (.ref d), some (.int m), none, some (.int c), none] ∧ H' = G ∧ Fr d H G ∧ G d = some (.lst [.ref l, .int i, .int r, .int (n + 1)]), ?_, ?_⟩
    · refine ⟨_, rfl, d, _, _, _, rfl, rfl, .inl (.inl upd_same), rfl, (by show 0 ≤ sizeLine; omega), fun p np => ?_⟩
      have npd : d ≠ p := ne_of_none upd_same np
      have hl1 : (upd H d (.lst [.ref l, .int i, .int r, .int (n + 1)])) l = some (.lst (ns.map V.int)) := by rw [upd_ne hld]; exact hl
      have npl : l ≠ p := ne_of_none hl1 np
      have hl2 := (same_new (o := HO.lst []) np) _ _ hl1
      have hd2 := (same_new (o := HO.lst []) np) _ _ (upd_same (H := H) (a := d) (o := .lst [.ref l, .int i, .int r, .int (n + 1)]))
      refine ⟨.list (ns.map PyData.int), .list [], .lst (.inl (.inl hl2)) (dps_ints ns), .lst (.inl (.inl upd_same)) .nil, ints_shaped ns, (by decide +kernel), _, rfl, ?_⟩
      have frA : Fr d H (upd (upd H d (.lst [.ref l, .int i, .int r, .int (n + 1)])) p (.lst [])) := fr_upd.trans (same_fr (same_new np))
      refine ite2 (fun hc => ?_) fun _ => ?_
      · have hpos : 0 < ns.length := by
          cases ns with
          | nil => exact absurd hc (by decide +kernel)
          | cons z zs => exact Nat.succ_pos _
        obtain ⟨j, ej, hj⟩ := place (i := i) hpos
        have hj' : (ns.map V.int)[j]? = some (V.int ns[j]) := by
          rw [List.getElem?_map, List.getElem?_eq_getElem hj] <;> rfl
        refine ⟨_, rfl, d, _, _, _, rfl, rfl, .inl (.inl hd2), rfl, _, rfl, d, _, _, _, rfl, rfl, .inl (.inl hd2), rfl, .inl ⟨i, rfl, ?_⟩⟩
        refine ⟨_, rfl, d, _, _, _, rfl, rfl, .inl (.inl hd2), rfl, l, _, rfl, .inl (.inl (.inl hl2)), i, _, rfl, rfl, ?_, l, _, _, _, rfl, rfl, .inl (.inl hl2), at_of (j := j) (v := V.int ns[j]) ?_ hj', ?_⟩
        · show (0 : Int) < ((ns.map V.int).length : Int)
          rw [List.length_map]
          omega
        · show i % ((ns.map V.int).length : Int) = _
          rw [List.length_map]
          exact ej
        · exact ⟨_, _, rfl, rfl, frA, hd2⟩
      · exact ⟨73, _, rfl, rfl, frA, hd2⟩
    rintro σ' H' ⟨c, G, rfl, rfl, fG, hG⟩
    have hlG : H' l = some (.lst (ns.map V.int)) := fG _ _ hld hl
    -- deck[1] = deck[1] + 1
    refine ⟨_, rfl, d, _, _, _, rfl, rfl, .inl (.inl hG), rfl, i, 1, rfl, rfl, _, rfl, d, _, _, 1, rfl, rfl, hG, rfl, ?_⟩
    have hl3 : (upd H' d (.lst [.ref l, .int (i + 1), .int r, .int (n + 1)])) l = some (.lst (ns.map V.int)) := by rw [upd_ne hld]; exact hlG
    -- if abs(cell) >= 10 ** 18 and deck[1] <= len(deck[0])
    have c0 : 0 ≤ c % 2147483579 := Int.emod_nonneg _ (by decide)
    have c1 : c % 2147483579 < 2147483579 := Int.emod_lt_of_pos _ (by decide)
    refine ⟨fun σ' G => σ' = [some (.ref d), some (.int m), none, some (.int c), none] ∧ G = upd H' d (.lst [.ref l, .int (i + 1), .int r, .int (n + 1)]), ?_, ?_⟩
    · refine ⟨_, rfl, c, rfl, 10, 18, rfl, rfl, ⟨by decide, by decide, by decide⟩, _, _, rfl, rfl, _, rfl, ite2 (fun _ => ?_) fun _ => iteF ⟨rfl, rfl⟩⟩
      refine ⟨_, rfl, d, _, _, _, rfl, rfl, .inl (.inl upd_same), rfl, _, rfl, d, _, _, _, rfl, rfl, .inl (.inl upd_same), rfl, l, _, rfl, .inl (.inl (.inl hl3)), _, _, rfl, rfl, _, rfl, ite2 (fun _ => ?_) fun _ => ⟨rfl, rfl⟩⟩
      refine ⟨_, rfl, c, rfl, _, rfl, _, m, rfl, rfl, ⟨hm, hm2⟩, _, rfl, d, _, _, 2, rfl, rfl, upd_same, rfl, ?_⟩
      refine ⟨_, rfl, c, rfl, .inl ⟨_, rfl, _, rfl, _, m, rfl, rfl, hm, ?_⟩⟩
      exact q _ _ (Int.emod_nonneg _ (by omega)) (Int.emod_lt_of_pos _ hm) ⟨⟨i + 1, _, n + 1, upd_same, by omega, by omega⟩, by rw [upd_ne hld, upd_ne hld]; exact hlG⟩ (fG.trans (fr_upd.trans fr_upd))
    rintro σ' G ⟨rfl, rfl⟩
    refine ⟨_, rfl, .inl ⟨c, rfl, c, 2147483579, rfl, rfl, (by show (0 : Int) < 2147483579; decide), ?_⟩⟩
    refine ⟨_, rfl, d, _, _, _, rfl, rfl, .inl (.inl upd_same), rfl, 73856093, n + 1, rfl, rfl, .inl ⟨by decide, by decide⟩, _, _, rfl, rfl, .inl ⟨_, rfl, _, 5, rfl, rfl, ⟨by decide, by decide, by omega⟩, _, 2147483629, rfl, rfl, (by show (0 : Int) < 2147483629; decide), ?_⟩⟩
    have m0 : 0 ≤ (c % 2147483579 + 73856093 * (n + 1)) ^ (5 : Int).toNat % 2147483629 := Int.emod_nonneg _ (by decide)
    have m1 : (c % 2147483579 + 73856093 * (n + 1)) ^ (5 : Int).toNat % 2147483629 < 2147483629 := Int.emod_lt_of_pos _ (by decide)
    have mx := mix_ok m0 m1 hn0 (by omega)
    refine ⟨_, rfl, _, rfl, d, _, _, _, rfl, rfl, .inl (.inl upd_same), rfl, 2, n + 1, rfl, rfl, .inl ⟨by decide, by decide⟩, _, 7, rfl, rfl, _, _, rfl, rfl, .inl mx.1, _, 6151, rfl, rfl, .inl ⟨_, rfl, _, 3, rfl, rfl, ⟨by decide, by decide, mx.2⟩, _, 2147483647, rfl, rfl, (by show (0 : Int) < 2147483647; decide), ?_⟩⟩
    refine ⟨_, rfl, _, 32, rfl, rfl, ⟨by decide, by decide⟩, _, rfl, _, m, rfl, rfl, hm, ?_⟩
    exact q _ _ (Int.emod_nonneg _ (by omega)) (Int.emod_lt_of_pos _ hm) ⟨⟨i + 1, r, n + 1, upd_same, by omega, by omega⟩, hl3⟩ (fG.trans fr_upd)
theorem scOne : FnScope ["_law_deck_here", "_law_items"] ["_law_deck_here", "_law_items"] (defScope sOne) := ⟨rfl, rfl, rfl, by decide +kernel, rfl, by decide +kernel, by decide +kernel⟩
theorem ok_one {f fD : Addr} {fd fdD : FuncData} (F : Fun K "_law_one" "_law_one" sOne f fd) (B : Blt mg) (GD : FnOk P w K mg base CX0 1 fD fdD ["_law_deck_here", "_law_many"] spDraw) (mD : mg "_law_draw" = some (.ref fD))
    (kD : PySem.W.keepIn K (.ref fD) = true) (bD : Binds K fdD ["_law_deck_here", "_law_many"] []) : FnOk P w K mg base CX0 2 f fd ["_law_deck_here", "_law_items"] (spOne K) := by
  refine F.ok scOne (fun vs H Q E h => ?_) (fun cdv A outer s H vs Q E hr h => ?_)
  · obtain ⟨d, l, ns, k, x, rfl, _⟩ := h
    rfl
  · obtain ⟨d, l, ns, k, x, rfl, D, hn, hk, h⟩ := h
    refine ⟨_, pss_one (ps_ret (pe_ix ix_seq (pv 1) (pe_call GD hr rfl mD kD bD .nil pass0 (pa_cons (pv 0) (pa_cons (pe_callB (CallR.or call_len_seq call_len_str) (by rfl) B.len PySem.boot_len (pa_cons (pv 1) pa_nil)) pa_nil))) (fun _ _ => rfl))), ?_⟩
    rcases h with ⟨p, xs, rfl, npd, hS, hne, hlen, q⟩ | ⟨z, rfl, hz0, hz, q⟩
    · have hS' : SqL K H p xs ∨ SqT K H p xs := hS.imp (fun h => Same.seq off_le h) fun h => same_seqT off_le h
      have hpos : 0 < xs.length := List.length_pos_iff.mpr hne
      refine ⟨_, rfl, _, rfl, _, rfl, .inl ⟨p, xs, rfl, hS', d, l, ns, k, _, rfl, ?_, ?_, D, hn, hk, fun v H' h0 h1 D' fr => ?_⟩⟩
      · show (0 : Int) < (xs.length : Int)
        omega
      · show (xs.length : Int) < 1073741824
        omega
      · have hS2 : SqL K H' p xs ∨ SqT K H' p xs := hS.imp (fun h => Same.seq off_le (Same.seq (Fr.off fr) h)) fun h => same_seqT off_le (same_seqT (Fr.off fr) h)
        obtain ⟨j, rfl⟩ : ∃ j : Nat, v = (j : Int) := ⟨v.toNat, by omega⟩
        have hj : j < xs.length := by omega
        have hx : xs[j]? = some xs[j] := List.getElem?_eq_getElem hj
        rcases hS2 with hS2 | hS2
        · exact .inl ⟨p, xs, _, _, rfl, rfl, hS2, atI_nat hx, q j _ H' hx D' fr⟩
        · exact .inr (.inl ⟨p, xs, _, _, rfl, rfl, hS2, atI_nat hx, q j _ H' hx D' fr⟩)
    · have hs : z.length ≤ sizeLine := by rw [sizeLine_eq]; omega
      refine ⟨_, rfl, _, rfl, _, rfl, .inr ⟨z, rfl, hs, d, l, ns, k, _, rfl, ?_, ?_, D, hn, hk, fun v H' h0 h1 D' fr => ?_⟩⟩
      · show (0 : Int) < (z.length : Int)
        omega
      · show (z.length : Int) < 1073741824
        omega
      · obtain ⟨j, rfl⟩ : ∃ j : Nat, v = (j : Int) := ⟨v.toNat, by omega⟩
        have hj : j < z.cps.toList.length := by
          show j < z.cps.toList.length
          have : z.cps.toList.length = z.length := by simp [Str.length]
          omega
        have hx : z.cps.toList[j]? = some z.cps.toList[j] := List.getElem?_eq_getElem hj
        exact .inr (.inr ⟨z, _, _, rfl, rfl, hs, atI_nat hx, q _ H' (List.getElem_mem hj) D' fr⟩)
end
end My

/-! MyS: sets of tuples whose items are keys of one kind (texts): what is in them, put in, walked -/
namespace My
open PySem PySem.Spec PyProof.Rows L2

/-! ### the items' small questions -/
theorem ofA_scan {v : Value} (h : v.scannable = true) (n : Nat) : ofAClassStatement n v = pure false := by
  cases v with
  | ref a => cases h
  | _ => cases n <;> rfl
theorem hbv_scan {v : Value} (h : v.scannable = true) (n : Nat) : ∃ b, hashByValue n v = pure b := by
  cases v with
  | ref a => cases h
  | none => exact ⟨_, by cases n <;> rfl⟩
  | bool b => exact ⟨_, by cases n <;> rfl⟩
  | int i t => exact ⟨_, by cases n <;> rfl⟩
  | str x t => exact ⟨_, by cases n <;> rfl⟩
  | bytes x t => exact ⟨_, by cases n <;> rfl⟩
  | _ => cases h
/-- the kind's values are plain ones -/
def Scan {P : Program} {w : World} {K : Type} [DecidableEq K] (knd : KeyKind P w K) : Prop := ∀ k v, knd.is k v = true → v.scannable = true
theorem scan_str (P : Program) (w : World) : Scan (strKind P w) := fun k v h => by
  obtain ⟨t, rfl⟩ := Value.isStrOf_shape (x := k) (v := v) h
  rfl

section
variable {P : Program} {w : World} {K : Type} [DecidableEq K] {knd : KeyKind P w K} {A : Around} {E : Value → Shared → Prop} {s : Shared}
theorem items_scan (S : Scan knd) : ∀ {k : List K} {vs : List Value}, ItemsAre knd k vs → ∀ v ∈ vs, v.scannable = true
  | _, _, .nil, _, hv => nomatch hv
  | _, _, .cons h1 t, v, hv => (List.mem_cons.mp hv).elim (fun e => e ▸ S _ _ h1) fun hv => items_scan S t v hv
theorem ofA_tup (S : Scan knd) {k : List K} {b : Addr} {Q : Bool → Shared → Prop} (hk : IsTupleKey knd s.heap k b) (h : Q false s) : wpAny (model P w) A (ofAClassStatement 8 (.ref b)) Q E s := by
  have ty := hk.typeIs
  obtain ⟨o, its, n, ho, _, hd, hi⟩ := hk
  unfold ofAClassStatement
  refine wpAny_bind (wpAny_typeOf ty ?_)
  dsimp only
  have e : (("tuple" : String) == "tuple") = true := by decide
  simp only [e, if_true, Bool.not_true, Bool.false_eq_true, if_false]
  try refine wpAny_bind (wpAny_pure ?_)
  try simp only [Bool.not_true, Bool.false_eq_true, if_false]
  refine wpAny_bind (m := seqItems? (.ref b)) (wpAny_seqItems ho hd ?_)
  dsimp only
  refine wpAny_bind ?_
  rw [← Array.forIn_toList]
  refine wpAny_forIn_list _ (fun left r z => z = s ∧ r.1 = none ∧ ∀ v ∈ left, v.scannable = true) _ ?_ ?_ _ _ ⟨rfl, rfl, items_scan S hi⟩
  · rintro v left r z ⟨rfl, hr, hall⟩
    rw [ofA_scan (hall v List.mem_cons_self)]
    refine wpAny_bind (wpAny_pure ?_)
    simp only [Bool.false_eq_true, if_false]
    exact wpAny_pure ⟨rfl, rfl, fun u hu => hall u (List.mem_cons_of_mem _ hu)⟩
  · rintro ⟨r, _⟩ z ⟨rfl, hr, _⟩
    obtain rfl : r = none := hr
    exact wpAny_pure h
theorem hbv_tup (S : Scan knd) {k : List K} {b : Addr} {Q : Bool → Shared → Prop} (hk : IsTupleKey knd s.heap k b) (h : ∀ c, Q c s) : wpAny (model P w) A (hashByValue 8 (.ref b)) Q E s := by
  have ty := hk.typeIs
  obtain ⟨o, its, n, ho, _, hd, hi⟩ := hk
  unfold hashByValue
  refine wpAny_bind (wpAny_specialOf ty F.slot_tuple_hash.lookup ?_)
  refine wpAny_bind (m := seqItems? (.ref b)) (wpAny_seqItems ho hd ?_)
  refine wpAny_bind ?_
  show wpAny _ _ (forIn its _ _) _ _ s
  rw [← Array.forIn_toList]
  refine wpAny_forIn_list _ (fun left r z => z = s ∧ (r.1 = none ∨ ∃ c, r.1 = some c) ∧ ∀ v ∈ left, v.scannable = true) _ ?_ ?_ _ _ ⟨rfl, .inl rfl, items_scan S hi⟩
  · rintro v left r z ⟨rfl, _, hall⟩
    obtain ⟨c, e⟩ := hbv_scan (hall v List.mem_cons_self) 7
    rw [e]
    refine wpAny_bind (wpAny_pure ?_)
    cases c with
    | true =>
      simp only [Bool.not_true, Bool.false_eq_true, if_false]
      exact wpAny_pure ⟨rfl, .inl rfl, fun u hu => hall u (List.mem_cons_of_mem _ hu)⟩
    | false =>
      simp only [Bool.not_false, if_true]
      exact wpAny_pure (wpAny_pure (h _))
  · rintro ⟨r, _⟩ z ⟨rfl, hr, _⟩
    rcases hr with hr | ⟨c, hr⟩
    · obtain rfl : r = none := hr
      exact wpAny_pure (h _)
    · obtain rfl : r = some c := hr
      exact wpAny_pure (h _)
/-- a search among such tuples shows nothing -/
theorem unseen (S : Scan knd) {k : List K} {b : Addr} {Q : Bool → Shared → Prop} (hk : IsTupleKey knd s.heap k b) {ys : List Value} (hy : ∀ y ∈ ys, ∃ k' c, y = Value.ref c ∧ IsTupleKey knd s.heap k' c) (h : Q false s) :
    wpAny (model P w) A (searchCouldBeSeen (.ref b) ys) Q E s := by
  unfold searchCouldBeSeen
  refine wpAny_bind (wpAny_forIn_list _ (fun left r z => z = s ∧ r.1 = none ∧ ∀ y ∈ left, ∃ k' c, y = Value.ref c ∧ IsTupleKey knd s.heap k' c) _ ?_ ?_ _ _ ⟨rfl, rfl, hy⟩)
  · rintro v left r z ⟨rfl, _, hall⟩
    obtain ⟨k', c, rfl, hc⟩ := hall v List.mem_cons_self
    have next : ∀ y ∈ left, ∃ k' c, y = Value.ref c ∧ IsTupleKey knd z.heap k' c := fun u hu => hall u (List.mem_cons_of_mem _ hu)
    dsimp only
    by_cases hv : (b == c || (carriedByValue (.ref b) && carriedByValue (.ref c))) = true
    · exact wp_if_pos hv (wpAny_pure ⟨rfl, rfl, next⟩)
    · refine wp_if_neg hv (wpAny_bind (wpAny_eqIsQuiet_tuple hk ?_))
      simp only [Bool.not_true, Bool.false_eq_true, if_false]
      refine wpAny_bind (wpAny_eqIsQuiet_tuple hc ?_)
      simp only [Bool.not_true, Bool.false_eq_true, if_false]
      refine wpAny_bind (ofA_tup S hk ?_)
      simp only [Bool.false_eq_true, if_false]
      refine wpAny_bind (ofA_tup S hc ?_)
      simp only [Bool.false_eq_true, if_false]
      exact wpAny_pure ⟨rfl, rfl, next⟩
  · rintro ⟨r, _⟩ z ⟨rfl, hr, _⟩
    obtain rfl : r = none := hr
    exact wpAny_pure h

/-! ### the table: where a search comes to -/
theorem step_dummy (m : Nat) : ∀ (n : Nat) (p : SetTable.Probe), (nth m p n).dummy = p.dummy
  | 0, _ => rfl
  | n + 1, p => (step_dummy m n (adv m p)).trans (by unfold adv; split <;> rfl)
abbrev stn (m : Nat) (h : Int) (n : Nat) : SetTable.Probe := nth m (runAt m (SetTable.bits h % (m + 1)) (SetTable.bits h)) n
/-- from the c-th step on: the first stored one of that hash, or the empty slot at K -/
theorem probe_says {t : SetTable} {hs : List Int} (T : TabOk t hs) {g : Nat → Int} {h : Int} {c K : Nat} (hc : c ≤ K) (hf : K < 10 * SetTable.turns t.mask) (hK : way t.mask h K ∉ t.place.toList)
    (hin : ∀ q, q < K → way t.mask h q ∈ t.place.toList) :
    (∃ q i, c ≤ q ∧ q < K ∧ t.place.toList[i]? = some (way t.mask h q) ∧ g i = h ∧ (∀ q' i', c ≤ q' → q' < q → t.place.toList[i']? = some (way t.mask h q') → g i' ≠ h) ∧
      t.probe g h (stn t.mask h c) = some (.candidate (way t.mask h q) i (stn t.mask h (q + 1)))) ∨
    ((∀ q' i', c ≤ q' → q' < K → t.place.toList[i']? = some (way t.mask h q') → g i' ≠ h) ∧ t.probe g h (stn t.mask h c) = some (.empty (way t.mask h K) none)) := by
  have sh : ∀ q, nth t.mask (stn t.mask h c) q = stn t.mask h (c + q) := fun q => (nth_add t.mask c _ q).symm
  have shj : ∀ q, (nth t.mask (stn t.mask h c) q).j = way t.mask h (c + q) := fun q => congrArg SetTable.Probe.j (sh q)
  have cK : c + (K - c) = K := by omega
  have fwd : ∀ {q' : Nat}, c ≤ q' → way t.mask h q' = (nth t.mask (stn t.mask h c) (q' - c)).j := fun {q'} l => by rw [shj, show c + (q' - c) = q' by omega]
  rcases go_spec t T.ris T.dm g h (10 * SetTable.turns t.mask) (K - c) (stn t.mask h c) (step_dummy _ _ _) (by omega) (fun q hq => by rw [shj]; exact hin _ (by omega)) (by rw [shj, cK]; exact hK) with ⟨q, i, hq, hi, hg, hno, e⟩ | ⟨hno, e⟩
  · refine .inl ⟨c + q, i, by omega, by omega, by rw [← shj]; exact hi, hg, fun q' i' l1 l2 hp => hno (q' - c) i' (by omega) (by rw [← fwd l1]; exact hp), ?_⟩
    rw [← shj, show c + q + 1 = c + (q + 1) by omega, ← sh]
    exact e
  · refine .inr ⟨fun q' i' l1 l2 hp => hno (q' - c) i' (by omega) (by rw [← fwd l1]; exact hp), ?_⟩
    have ek : way t.mask h K = (nth t.mask (stn t.mask h c) (K - c)).j := fwd hc
    rw [ek]
    exact e

/-! ### the set -/
/-- the stored rows of the tuples at some addresses, with their keys -/
def rows (knd : KeyKind P w K) (L : List (Addr × List K)) : List (Int × Value) := L.map fun p => (tupleKeyHash knd p.2, .ref p.1)
/-- the object at a is a set of the keys of L, in the table's order -/
structure Tab (knd : KeyKind P w K) (h : Heap) (a : Addr) (L : List (Addr × List K)) (es : Array (Int × Value)) (ep : Nat) (t : SetTable) : Prop where
  ob : ∃ o, h.get? a = some o ∧ o.ExactSet ∧ o.data = .set es ep t
  rw_ : es.toList = rows knd L
  tab : TabOk t (L.map fun p => tupleKeyHash knd p.2)
  nd : (L.map (·.2)).Nodup
  led : w.params.followText "set-order" = true ∨ t.led = true
  room : L.length * 5 < t.mask * 3
  few : L.length < 64
variable {a : Addr} {L : List (Addr × List K)} {es : Array (Int × Value)} {ep : Nat} {t : SetTable}
theorem Tab.count {h : Heap} (R : Tab knd h a L es ep t) : es.size = L.length := by
  rw [← Array.length_toList, R.rw_]
  exact List.length_map ..
theorem Tab.slots {h : Heap} (R : Tab knd h a L es ep t) : t.place.toList.length = L.length := by
  rw [Array.length_toList, R.tab.sz, List.length_map]
theorem Tab.fits {h : Heap} (R : Tab knd h a L es ep t) : t.fits es.size = true := by
  have h1 := R.slots
  rw [Array.length_toList] at h1
  have h2 := R.count
  have h3 := R.room
  unfold SetTable.fits SetTable.fill
  rw [R.tab.dm]
  simp
  omega
theorem Tab.odd {h : Heap} (R : Tab knd h a L es ep t) : ¬ t.gaveWay = true := by
  unfold SetTable.gaveWay
  rw [mask_odd R.tab.mok]
  decide
theorem Tab.at_ {h : Heap} (R : Tab knd h a L es ep t) {i : Nat} {p : Addr × List K} (e : L[i]? = some p) : es[i]? = some (tupleKeyHash knd p.2, .ref p.1) := by
  rw [← Array.getElem?_toList, R.rw_]
  show (L.map _)[i]? = _
  rw [List.getElem?_map, e]
  rfl
/-- what the search for adding answers -/
def Ans (knd : KeyKind P w K) (L : List (Addr × List K)) (t : SetTable) (k : List K) (Q : SetFound → Shared → Prop) (s : Shared) : Prop :=
  (k ∈ L.map (·.2) → Q (.there none) s) ∧
  (k ∉ L.map (·.2) → ∀ n, way t.mask (tupleKeyHash knd k) n ∉ t.place.toList → (∀ q, q < n → way t.mask (tupleKeyHash knd k) q ∈ t.place.toList) → Q (.free (way t.mask (tupleKeyHash knd k) n) false) s)
theorem search_go (S : Scan knd) (R : Tab knd s.heap a L es ep t) (tup : ∀ p ∈ L, IsTupleKey knd s.heap p.2 p.1) {x : Addr} {k : List K} (hx : IsTupleKey knd s.heap k x) (hu : A.units < cLine) {n : Nat} (hf : n < 10 * SetTable.turns t.mask)
    (hK : way t.mask (tupleKeyHash knd k) n ∉ t.place.toList) (hin : ∀ q, q < n → way t.mask (tupleKeyHash knd k) q ∈ t.place.toList) {Q : SetFound → Shared → Prop} (hQ : Ans knd L t k Q s) :
    ∀ (f c : Nat) (st : Option SetTable.Probe), st.getD (t.probeStart (tupleKeyHash knd k)) = stn t.mask (tupleKeyHash knd k) c → c ≤ n → n - c < f →
      (∀ (i : Nat) p, L[i]? = some p → p.2 = k → ∃ q, c ≤ q ∧ q < n ∧ t.place.toList[i]? = some (way t.mask (tupleKeyHash knd k) q)) →
      wpAny (model P w) A (setSearchFrom a (.ref x) (tupleKeyHash knd k) true f st) Q E s
  | 0, _, _, _, _, hlt, _ => absurd hlt (Nat.not_lt_zero _)
  | f + 1, c, st, hst, hc, hlt, hre => by
    obtain ⟨o, ho, hex, hd⟩ := R.ob
    have hash_at : ∀ (i : Nat) (p : Addr × List K), L[i]? = some p → (es[i]?.map fun e : Int × Value => e.1).getD 0 = tupleKeyHash knd p.2 := fun i p e => by
      rw [R.at_ e]
      rfl
    have same_hash : ∀ {i0 : Nat} {p0 : Addr × List K}, L[i0]? = some p0 → p0.2 = k → (es[i0]?.map fun e : Int × Value => e.1).getD 0 = tupleKeyHash knd k := fun h0 e0 => by rw [hash_at _ _ h0, e0]
    rw [setSearchFrom_succ]
    refine wpAny_bind (wpAny_setState_of ho hd R.fits ?_)
    dsimp only
    refine wp_if_neg R.odd ?_
    try refine wpAny_bind (wpAny_pure ?_)
    rw [hst]
    rcases probe_says (g := fun i => (es[i]?.map fun e : Int × Value => e.1).getD 0) R.tab hc hf hK hin with ⟨q, i, l1, l2, hi, hg, hno, e⟩ | ⟨hno, e⟩
    · rw [e]
      dsimp only
      have il : i < L.length := by
        rw [← R.slots]
        exact (List.getElem?_eq_some_iff.mp hi).1
      obtain ⟨p, hp⟩ : ∃ p, L[i]? = some p := ⟨L[i], List.getElem?_eq_getElem il⟩
      have pm : p ∈ L := List.mem_of_getElem? hp
      have live : t.slot (way t.mask (tupleKeyHash knd k) q) = .live i := slot_live R.tab.ris hi
      have on : wpAny (model P w) A (searchRest a (.ref x) (tupleKeyHash knd k) true f es t (way t.mask (tupleKeyHash knd k) q) i (stn t.mask (tupleKeyHash knd k) (q + 1))) Q E s := by
        unfold searchRest
        rw [R.at_ hp]
        dsimp only
        refine wpAny_bind (wpAny_holding (wpAny_eqBool_tuple hu (tup p pm) hx (wpAny_bind (wpAny_setState_of ho hd R.fits ?_))))
        dsimp only
        by_cases pk : p.2 = k
        · exact wp_if_pos (by rw [decide_eq_true pk]; rfl) (wpAny_pure (hQ.1 (List.mem_map.mpr ⟨p, pm, pk⟩)))
        · refine wp_if_neg (by rw [decide_eq_false pk]; decide) ?_
          try refine wpAny_bind (wpAny_pure ?_)
          rw [sameMem]
          dsimp only
          simp only [if_true, live, R.at_ hp]
          refine wpAny_bind (wpAny_isSame_ref_self (wpAny_bind (wpAny_pure ?_)))
          simp only [if_true]
          refine wp_if_neg (by rw [decide_eq_false pk]; decide) (search_go S R tup hx hu hf hK hin hQ f (q + 1) _ rfl (by omega) (by omega) fun i0 p0 h0 e0 => ?_)
          obtain ⟨q0, m1, m2, m3⟩ := hre i0 p0 h0 e0
          refine ⟨q0, Nat.lt_of_not_le fun le => ?_, m2, m3⟩
          rcases Nat.lt_or_eq_of_le le with lt | rfl
          · exact hno q0 i0 m1 lt m3 (same_hash h0 e0)
          · have two := (slot_live R.tab.ris m3).symm.trans live
            injection two with two
            rw [two, hp] at h0
            exact pk ((congrArg Prod.snd (Option.some.inj h0)).trans e0)
      by_cases ld : t.led = true
      · refine wp_if_neg (by rw [ld]; decide) ?_
        try refine wpAny_bind (wpAny_pure ?_)
        exact on
      · refine wp_if_pos (by simp [ld]) (wpAny_bind (unseen S hx (fun y hy => ?_) ?_))
        · obtain ⟨r, hr, rfl⟩ := List.mem_map.mp hy
          have hr2 : r ∈ es.toList := by
            have : r ∈ es ∧ r.1 = tupleKeyHash knd k := by simpa using hr
            simpa using this.1
          rw [R.rw_] at hr2
          obtain ⟨p2, m2, rfl⟩ := List.mem_map.mp hr2
          exact ⟨p2.2, p2.1, rfl, tup p2 m2⟩
        · refine wp_if_neg (by decide) ?_
          try refine wpAny_bind (wpAny_pure ?_)
          exact on
    · rw [e]
      dsimp only
      refine wpAny_pure (hQ.2 (fun hm => ?_) n hK hin)
      obtain ⟨p0, h0, e0⟩ := List.mem_map.mp hm
      obtain ⟨i0, hi0⟩ := List.getElem?_of_mem h0
      obtain ⟨q0, m1, m2, m3⟩ := hre i0 p0 hi0 e0
      exact hno q0 i0 m1 m2 m3 (same_hash hi0 e0)
theorem search_all (S : Scan knd) (R : Tab knd s.heap a L es ep t) (tup : ∀ p ∈ L, IsTupleKey knd s.heap p.2 p.1) {x : Addr} {k : List K} (hx : IsTupleKey knd s.heap k x) (hu : A.units < cLine) {Q : SetFound → Shared → Prop} (hQ : Ans knd L t k Q s) :
    wpAny (model P w) A (setSearch a (.ref x) (tupleKeyHash knd k) true) Q E s := by
  have rm := R.room
  obtain ⟨n, hf, hK, hin⟩ := R.tab.first (by rw [List.length_map]; omega) (tupleKeyHash knd k)
  have far : 10 * SetTable.turns t.mask ≤ 1420 := by
    unfold SetTable.turns
    rcases R.tab.mok with e | e | e <;> omega
  unfold setSearch
  refine search_go S R tup hx hu hf hK hin hQ 100000 0 none rfl (Nat.zero_le _) (by omega) fun i p hp e => ?_
  have hi : (L.map fun p => tupleKeyHash knd p.2)[i]? = some (tupleKeyHash knd k) := by
    rw [List.getElem?_map, hp, ← e]
    rfl
  have il : i < t.place.toList.length := by
    rw [R.slots]
    exact (List.getElem?_eq_some_iff.mp hp).1
  obtain ⟨q, hq, eq⟩ := R.tab.before hK hi (List.getElem?_eq_getElem il)
  exact ⟨q, Nat.zero_le _, hq, by rw [List.getElem?_eq_getElem il, eq]⟩

/-! ### laid anew, larger; put in -/
theorem rows_at {es : Array (Int × Value)} (hr : es.toList = rows knd L) (i : Nat) : es[i]? = (L[i]?).map fun p => (tupleKeyHash knd p.2, Value.ref p.1) := by
  rw [← Array.getElem?_toList, hr]
  exact List.getElem?_map ..
theorem range_back {α : Type} (l : List α) : ∀ n, n ≤ l.length → (List.range n).filterMap (fun i => l[i]?) = l.take n
  | 0, _ => by simp
  | n + 1, h => by
    have hn : n < l.length := h
    rw [List.range_succ, List.filterMap_append, range_back l n (Nat.le_of_lt hn), List.take_add_one, List.getElem?_eq_getElem hn]
    simp [List.getElem?_eq_getElem hn]
theorem by_order {es : Array (Int × Value)} (hr : es.toList = rows knd L) {order : Array Nat} (hp : order.toList.Perm (List.range L.length)) :
    ∃ L2 : List (Addr × List K), (order.filterMap (es[·]?)).toList = rows knd L2 ∧ L2.Perm L ∧ L2.map (fun p => tupleKeyHash knd p.2) = order.toList.map fun i => (es.map fun e : Int × Value => e.1).getD i 0 := by
  refine ⟨order.toList.filterMap (fun i => L[i]?), ?_, ?_, ?_⟩
  · have e : (fun i : Nat => es[i]?) = fun i : Nat => (L[i]?).map fun p : Addr × List K => (tupleKeyHash knd p.2, Value.ref p.1) := funext (rows_at hr)
    rw [Array.toList_filterMap, e]
    unfold rows
    rw [List.map_filterMap]
  · have h1 := hp.filterMap fun i => L[i]?
    rw [range_back L L.length (Nat.le_refl _), List.take_length] at h1
    exact h1
  · have each : ∀ l : List Nat, (∀ i ∈ l, i < L.length) → (l.filterMap fun i => L[i]?).map (fun p => tupleKeyHash knd p.2) = l.map fun i => (es.map fun e : Int × Value => e.1).getD i 0 := by
      intro l
      induction l with
      | nil => intro _; rfl
      | cons i l ih =>
        intro h
        have hi := h i List.mem_cons_self
        rw [List.filterMap_cons_some (List.getElem?_eq_getElem hi), List.map_cons, List.map_cons, ih fun j hj => h j (List.mem_cons_of_mem _ hj)]
        have q := rows_at hr i
        rw [List.getElem?_eq_getElem hi] at q
        congr 1
        simp [Array.getD_eq_getD_getElem?, q]
    exact each _ fun i hi => List.mem_range.mp (hp.mem_iff.mp hi)
theorem relay_tab {o : Obj} (ho : s.heap.get? a = some o) (hex : o.ExactSet) (hd : o.data = .set es ep t) (hr : es.toList = rows knd L) (hsz : t.place.size = es.size) (hdm : t.dummies = #[]) (hfl : es.size ≤ t.mask)
    (nd : (L.map (·.2)).Nodup) (led : w.params.followText "set-order" = true ∨ t.led = true) (few : L.length < 64) {wanted M : Nat} (hw : SetTable.sizeAbove wanted - 1 = M) (hM : MaskOk M) (hw2 : SetTable.sizeAbove wanted ≤ 128)
    (hn : L.length * 5 < M * 3) {Q : Unit → Shared → Prop} (hQ : ∀ h' L' es' ep' t', Heap.SameBut a s.heap h' → Tab knd h' a L' es' ep' t' → L'.Perm L → Q () { s with heap := h' }) : wpAny (model P w) A (setRelay a wanted) Q E s := by
  have cnt : es.size = L.length := by
    rw [← Array.length_toList, hr]
    exact List.length_map ..
  have fit : t.fits es.size = true := by
    unfold SetTable.fits SetTable.fill
    rw [hdm]
    simp
    omega
  obtain ⟨t', order, e, hp, T, em, el, _, _⟩ := relaid_ok t (hs := es.map fun e : Int × Value => e.1) (wanted := wanted) hw hM (by rw [Array.size_map]; omega)
  rw [Array.size_map, cnt] at hp
  obtain ⟨L2, r1, r2, r3⟩ := by_order hr hp
  rw [← r3] at T
  have cnt2 : (order.filterMap (es[·]?)).size = es.size := by
    rw [← Array.length_toList, r1, cnt, ← r2.length_eq]
    exact List.length_map ..
  rw [setRelay_eq]
  refine wpAny_bind (wpAny_setState_of ho hd fit ?_)
  dsimp only
  refine wp_if_neg (by rw [sizeLine_eq]; omega) ?_
  try refine wpAny_bind (wpAny_pure ?_)
  rw [e]
  dsimp only
  refine wpAny_bind (wp_if_neg (by rw [cnt2]; simp) ?_)
  try refine wpAny_bind (wpAny_pure ?_)
  refine wpAny_pure ?_
  dsimp only
  refine wpAny_storeSet_of ho hd ?_ (by rw [cnt2, cnt, sizeLine_eq]; omega)
  exact hQ _ L2 _ _ t' (Heap.SameBut.update ..) ⟨⟨_, store_at ho hd, ⟨hex.1, hex.2.1, hex.2.2⟩, rfl⟩, r1, T, (r2.map (·.2)).nodup_iff.mpr nd, by rw [el]; exact led, by rw [r2.length_eq, em]; exact hn, by rw [r2.length_eq]; exact few⟩ r2
theorem TabOk.off {t : SetTable} {hs : List Int} (T : TabOk t hs) : TabOk { t with plain := false } hs := ⟨T.ris, T.dm, T.sz, T.mok, T.bd, T.reach⟩
/-- what the set is behind a key was put in -/
def Put (knd : KeyKind P w K) (h h' : Heap) (a : Addr) (L : List (Addr × List K)) (x : Addr) (k : List K) (L' : List (Addr × List K)) : Prop :=
  Heap.SameBut a h h' ∧ (∃ es ep t, Tab knd h' a L' es ep t) ∧ (k ∈ L.map (·.2) → L' = L) ∧ (k ∉ L.map (·.2) → L'.Perm ((x, k) :: L))
theorem add_tab (S : Scan knd) (R : Tab knd s.heap a L es ep t) (tup : ∀ p ∈ L, IsTupleKey knd s.heap p.2 p.1) {x : Addr} {k : List K} (hx : IsTupleKey knd s.heap k x) (hu : A.units < cLine) (room : L.length + 1 < 64) {Q : Bool → Shared → Prop}
    (hQ : ∀ b h' L', Put knd s.heap h' a L x k L' → Q b { s with heap := h' }) : wpAny (model P w) A (setAddHashed a (.ref x) (tupleKeyHash knd k)) Q E s := by
  obtain ⟨o, ho, hex, hd⟩ := R.ob
  have cnt := R.count
  have rm := R.room
  unfold setAddHashed
  refine wpAny_holding ?_
  rw [show (100000 : Nat) = 99999 + 1 from rfl, setAddHashedIn_succ]
  refine wpAny_bind (wpAny_setState_of ho hd R.fits ?_)
  dsimp only
  refine wp_if_neg (by simp [byScan, Value.scannable]) ?_
  try refine wpAny_bind (wpAny_pure ?_)
  refine wpAny_bind (search_all S R tup hx hu ⟨fun hm => ?_, fun hm n hK hin => ?_⟩)
  · exact wpAny_pure (hQ false s.heap L ⟨Heap.SameBut.refl a s.heap, ⟨es, ep, t, R⟩, fun _ => rfl, fun z => absurd hm z⟩)
  · dsimp only
    refine wpAny_bind (wpAny_setState_of ho hd R.fits ?_)
    dsimp only
    obtain ⟨q1, q2, q3, q4, q5, q6, q7, q8, q9⟩ := R.tab.put hK hin
    obtain ⟨i, ei⟩ : ∃ i, i = SetTable.below t.place (way t.mask (tupleKeyHash knd k) n) := ⟨_, rfl⟩
    obtain ⟨L1, e1⟩ : ∃ L1, L1 = L.take i ++ (x, k) :: L.drop i := ⟨_, rfl⟩
    have pm : L1.Perm ((x, k) :: L) := by
      have z : (L.take i ++ (x, k) :: L.drop i).Perm ((x, k) :: (L.take i ++ L.drop i)) := List.perm_middle
      rw [List.take_append_drop] at z
      rw [e1]
      exact z
    have len1 : L1.length = L.length + 1 := pm.length_eq
    have hin1 : (SetTable.insertAt es (t.put (way t.mask (tupleKeyHash knd k) n)).snd (tupleKeyHash knd k, Value.ref x)).toList = rows knd L1 := by
      rw [q1, ← ei, SetTable.toList_insertAt, R.rw_, e1]
      unfold rows
      rw [List.map_append, List.map_cons, List.map_take, List.map_drop]
    have hs1 : L1.map (fun p => tupleKeyHash knd p.2) = (L.map fun p => tupleKeyHash knd p.2).take i ++ tupleKeyHash knd k :: (L.map fun p => tupleKeyHash knd p.2).drop i := by
      rw [e1, List.map_append, List.map_cons, List.map_take, List.map_drop]
    rw [← ei, ← hs1] at q3
    rw [List.length_map] at q9
    have nd1 : (L1.map (·.2)).Nodup := (pm.map (·.2)).nodup_iff.mpr (List.nodup_cons.mpr ⟨hm, R.nd⟩)
    generalize SetTable.insertAt es (t.put (way t.mask (tupleKeyHash knd k) n)).snd (tupleKeyHash knd k, Value.ref x) = es1 at hin1 ⊢
    have cnt1 : es1.size = L.length + 1 := by
      rw [← Array.length_toList, hin1, ← len1]
      exact List.length_map ..
    have tail : ∀ t1 : SetTable, TabOk t1 (L1.map fun p => tupleKeyHash knd p.2) → t1.mask = t.mask → t1.led = t.led → t1.fill = L.length + 1 →
        wpAny (model P w) A (do
          storeSet a es1 t1
          if (!false && t1.tooFull) = true then do
            setRelay a (SetTable.grown (es.size + 1))
            pure true
          else pure true) Q E s := by
      intro t1 T1 m1 l1 f1
      refine wpAny_bind (wpAny_storeSet_of ho hd ?_ (by rw [cnt1, sizeLine_eq]; omega))
      have ho1 := store_at (es' := es1) (t' := t1) ho hd
      have sb : Heap.SameBut a s.heap (s.heap.update a (Obj.putSet es1 t1)) := Heap.SameBut.update ..
      have led1 : w.params.followText "set-order" = true ∨ t1.led = true := by rw [l1]; exact R.led
      by_cases full : t1.tooFull = true
      · refine wp_if_pos (by rw [full]; rfl) ?_
        have big : (L.length + 1) * 5 ≥ t1.mask * 3 := by
          have z := full
          unfold SetTable.tooFull at z
          rw [decide_eq_true_eq, f1] at z
          exact z
        have two : (t.mask = 7 ∧ L.length = 4) ∨ (t.mask = 31 ∧ L.length = 18) := by
          rcases R.tab.mok with e | e | e
          · rw [m1, e] at big; rw [e] at rm; exact .inl ⟨e, by omega⟩
          · rw [m1, e] at big; rw [e] at rm; exact .inr ⟨e, by omega⟩
          · rw [m1, e] at big; omega
        have sz1 : t1.place.size = es1.size := by rw [T1.sz, List.length_map, len1, cnt1]
        have go : ∀ M, SetTable.sizeAbove (SetTable.grown (L.length + 1)) = M + 1 → MaskOk M → M ≤ 127 → (L.length + 1) * 5 < M * 3 → wpAny (model P w) A (setRelay a (SetTable.grown (es.size + 1)))
            (fun _ z => wpAny (model P w) A (pure true) Q E z) E { s with heap := s.heap.update a (Obj.putSet es1 t1) } := fun M g1 g2 g3 g4 => by
          rw [cnt]
          refine relay_tab (s := { s with heap := s.heap.update a (Obj.putSet es1 t1) }) ho1 ⟨hex.1, hex.2.1, hex.2.2⟩ rfl hin1 sz1 T1.dm (by rw [cnt1, m1]; omega) nd1 led1 (by rw [len1]; exact room) (M := M) (by omega) g2 (by omega) (by rw [len1]; exact g4) fun h2 L2 es2 ep2 t2 sb2 R2 pm2 => ?_
          exact wpAny_pure (hQ true h2 L2 ⟨sb.trans sb2, ⟨es2, ep2, t2, R2⟩, fun z => absurd z hm, fun _ => pm2.trans pm⟩)
        refine wpAny_bind ?_
        rcases two with ⟨_, e2⟩ | ⟨_, e2⟩
        · exact go 31 (by rw [e2]; exact size_20) (.inr (.inl rfl)) (by decide) (by omega)
        · exact go 127 (by rw [e2]; exact size_76) (.inr (.inr rfl)) (by decide) (by omega)
      · refine wp_if_neg (by simp [full]) (wpAny_pure (hQ true _ L1 ⟨sb, ⟨es1, _, t1, ⟨_, ho1, ⟨hex.1, hex.2.1, hex.2.2⟩, rfl⟩, hin1, T1, nd1, led1, ?_, by rw [len1]; exact room⟩, fun z => absurd z hm, fun _ => pm⟩))
        have z := full
        unfold SetTable.tooFull at z
        rw [decide_eq_true_eq, f1] at z
        rw [len1]
        omega
    generalize (t.put (way t.mask (tupleKeyHash knd k) n)).fst = t1 at q3 q4 q5 q6 q9 ⊢
    by_cases pl : t1.plain = true
    · refine wp_if_pos pl (wpAny_bind (hbv_tup S hx fun c => ?_))
      cases c with
      | true =>
        simp only [if_true]
        exact tail t1 q3 q4 q5 q9
      | false =>
        simp only [Bool.false_eq_true, if_false]
        exact tail _ (TabOk.off q3) q4 q5 q9
    · refine wp_if_neg pl (wpAny_bind (wpAny_pure ?_))
      simp only [if_true]
      exact tail t1 q3 q4 q5 q9
end
end My

/-! MyOrd: the order of texts, of tuples of texts; sorted lists without equal items are one -/
namespace My
open PySem PySem.Spec PyProof.Rows L2
/-- a strict order in which any two are the same or one is less -/
structure Tot {α : Type} (lt : α → α → Bool) : Prop where
  irr : ∀ x, lt x x = false
  tri : ∀ x y, lt x y = false → lt y x = false → x = y
  trans : ∀ x y z, lt x y = true → lt y z = true → lt x z = true
theorem Tot.asym {α : Type} {lt : α → α → Bool} (T : Tot lt) {x y : α} (h : lt x y = true) : lt y x = false := by
  cases q : lt y x with
  | false => rfl
  | true =>
    have z := T.trans x y x h q
    rw [T.irr] at z
    cases z
theorem Tot.swo {α : Type} {lt : α → α → Bool} (T : Tot lt) : SrtO.Swo lt := ⟨fun x y h => T.asym h, fun x y z h1 h2 => by
  cases q : lt z x with
  | false => rfl
  | true =>
    cases r : lt y z with
    | true =>
      have c := T.trans y z x r q
      rw [h1] at c
      cases c
    | false =>
      obtain rfl := T.tri y z r h2
      rw [q] at h1
      cases h1⟩
theorem Tot.of_inj {α β : Type} {lt : β → β → Bool} (T : Tot lt) (f : α → β) (inj : ∀ x y, f x = f y → x = y) : Tot fun x y => lt (f x) (f y) :=
  ⟨fun x => T.irr _, fun x y h1 h2 => inj _ _ (T.tri _ _ h1 h2), fun x y z => T.trans _ _ _⟩
/-- lists by their first unlike items -/
def lexL {α : Type} [DecidableEq α] (lt : α → α → Bool) : List α → List α → Bool
  | [], [] => false
  | [], _ :: _ => true
  | _ :: _, [] => false
  | x :: xs, y :: ys => if x = y then lexL lt xs ys else lt x y
theorem Tot.lex {α : Type} [DecidableEq α] {lt : α → α → Bool} (T : Tot lt) : Tot (lexL lt) := by
  refine ⟨fun x => ?_, fun x => ?_, fun x => ?_⟩
  · induction x with
    | nil => rfl
    | cons a x ih => unfold lexL; rw [if_pos rfl]; exact ih
  · induction x with
    | nil =>
      intro y h1 h2
      cases y with
      | nil => rfl
      | cons b y => cases h1
    | cons a x ih =>
      intro y h1 h2
      cases y with
      | nil => cases h2
      | cons b y =>
        unfold lexL at h1 h2
        by_cases e : a = b
        · subst e
          rw [if_pos rfl] at h1 h2
          rw [ih y h1 h2]
        · rw [if_neg e] at h1
          rw [if_neg (fun z => e z.symm)] at h2
          exact absurd (T.tri a b h1 h2) e
  · induction x with
    | nil =>
      intro y z h1 h2
      cases y with
      | nil => cases h1
      | cons b y =>
        cases z with
        | nil => cases h2
        | cons c z => rfl
    | cons a x ih =>
      intro y z h1 h2
      cases y with
      | nil => cases h1
      | cons b y =>
        cases z with
        | nil => cases h2
        | cons c z =>
          unfold lexL at h1 h2 ⊢
          by_cases e1 : a = b
          · subst e1
            rw [if_pos rfl] at h1
            by_cases e2 : a = c
            · subst e2
              rw [if_pos rfl] at h2 ⊢
              exact ih y z h1 h2
            · rw [if_neg e2] at h2 ⊢
              exact h2
          · rw [if_neg e1] at h1
            by_cases e2 : b = c
            · subst e2
              rw [if_neg e1]
              exact h1
            · rw [if_neg e2] at h2
              have h3 := T.trans a b c h1 h2
              have e3 : ¬ a = c := fun q => by
                subst q
                rw [T.irr] at h3
                cases h3
              rw [if_neg e3]
              exact h3
theorem tot_nat : Tot fun x y : Nat => decide (x < y) := ⟨fun x => by simp, fun x y h1 h2 => by simp at h1 h2; omega, fun x y z h1 h2 => by simp at h1 h2 ⊢; omega⟩
/-- the order of texts -/
def ltS (x y : Str) : Bool := lexL (fun a b : Nat => decide (a < b)) x.cps.toList y.cps.toList
theorem tot_str : Tot ltS := tot_nat.lex.of_inj (fun x : Str => x.cps.toList) fun x y h => by
  obtain ⟨⟨x⟩⟩ := x
  obtain ⟨⟨y⟩⟩ := y
  simp at h
  rw [h]
/-- the order of tuples of texts -/
def ltK (x y : List Str) : Bool := lexL ltS x y
theorem tot_key : Tot ltK := tot_str.lex
theorem lt_list : ∀ x y : List Nat, decide (x < y) = lexL (fun a b : Nat => decide (a < b)) x y
  | [], [] => by simp [lexL]
  | [], b :: y => by simp [lexL]
  | a :: x, [] => by simp [lexL]
  | a :: x, b :: y => by
    unfold lexL
    by_cases e : a = b
    · subst e
      rw [if_pos rfl, ← lt_list x y]
      simp [List.cons_lt_cons_iff]
    · rw [if_neg e]
      simp [List.cons_lt_cons_iff, e]
theorem ltS_eq (x y : Str) : decide (x.cps.toList < y.cps.toList) = ltS x y := lt_list _ _
/-- ascending without equal ones -/
def Asc {α : Type} (lt : α → α → Bool) (l : List α) : Prop := l.Pairwise fun x y => lt x y = true
theorem asc_nodup {α : Type} {lt : α → α → Bool} (T : Tot lt) {l : List α} (h : Asc lt l) : l.Nodup := List.Pairwise.imp (fun {x y} q e => by
  subst e
  rw [T.irr] at q
  cases q) h
/-- there is just one such list of some members -/
theorem asc_uniq {α : Type} {lt : α → α → Bool} (T : Tot lt) : ∀ {l m : List α}, Asc lt l → Asc lt m → (∀ x, x ∈ l ↔ x ∈ m) → l = m
  | [], [], _, _, _ => rfl
  | [], y :: m, _, _, h => absurd ((h y).mpr List.mem_cons_self) (by simp)
  | x :: l, [], _, _, h => absurd ((h x).mp List.mem_cons_self) (by simp)
  | x :: l, y :: m, hl, hm, h => by
    have hl' := List.pairwise_cons.mp hl
    have hm' := List.pairwise_cons.mp hm
    have e : x = y := by
      rcases List.mem_cons.mp ((h x).mp List.mem_cons_self) with e | hx
      · exact e
      · rcases List.mem_cons.mp ((h y).mpr List.mem_cons_self) with e | hy
        · exact e.symm
        · have a := T.asym (hl'.1 y hy)
          rw [hm'.1 x hx] at a
          cases a
    subst e
    rw [asc_uniq T hl'.2 hm'.2 fun z => ⟨fun hz => ?_, fun hz => ?_⟩]
    · rcases List.mem_cons.mp ((h z).mp (List.mem_cons_of_mem _ hz)) with q | q
      · subst q
        have a := hl'.1 z hz
        rw [T.irr] at a
        cases a
      · exact q
    · rcases List.mem_cons.mp ((h z).mpr (List.mem_cons_of_mem _ hz)) with q | q
      · subst q
        have a := hm'.1 z hz
        rw [T.irr] at a
        cases a
      · exact q
/-- sorted, all unlike: ascending -/
theorem asc_of {α : Type} {lt : α → α → Bool} (T : Tot lt) {l : List α} (hs : l.Pairwise fun x y => lt y x = false) (nd : l.Nodup) : Asc lt l := by
  have h := List.pairwise_and_iff.mpr ⟨hs, nd⟩
  refine List.Pairwise.imp (fun {x y} q => ?_) h
  cases z : lt x y with
  | true => rfl
  | false => exact absurd (T.tri x y z q.1) q.2
end My

/-! MySrt: how texts and tuples of texts compare in a sort -/
namespace My
open PySem PySem.Spec PyProof.Rows L2
def sOf : Value → Str
  | .str x _ => x
  | _ => Str.empty
section
variable {P : Program} {w : World} {A : Around} {E : Value → Shared → Prop} {s : Shared}
theorem one_str (c : Bool) {x y : Str} {t u : Tok} {Q : Bool → Shared → Prop} (h : Q (ltS x y) s) : wpAny (model P w) A (oneLt' c (.str x t) (.str y u)) Q E s := by
  rw [← ltS_eq] at h
  cases c with
  | true => exact oneLt_str h
  | false => exact PySem.W.kat_one _ _ (PySem.P.lt_str (Q := PySem.W.BoolBack Q) h)
/-- texts can be sorted -/
theorem sortable_strs {a : Addr} {vs : List Value} (h2 : 2 ≤ vs.length) (hv : ∀ v ∈ vs, ∃ x t, v = Value.str x t) : SrtO.SortableO P w A s a vs fun v u => ltS (sOf v) (sOf u) := by
  intro h' _
  refine ⟨oneType', fun Q E hq => PySem.W.kas_kind (T := .type "str") h2 (fun v hm => ?_) (by rfl) (by rfl) hq, fun p q hp hq => ?_⟩
  · obtain ⟨x, t, rfl⟩ := hv v hm
    exact PySem.W.Looks.now
  · obtain ⟨x, t, e1⟩ := hv _ hp
    obtain ⟨y, u, e2⟩ := hv _ hq
    rw [keyLt'_oneType, e1, e2]
    refine one_str true ⟨rfl, ?_⟩
    show _ = ltS (sOf p.1) (sOf q.1)
    rw [e1, e2]
    rfl
theorem lex_strs {b fin : Bool} {Q : Bool → Shared → Prop} : ∀ {xs ys : List Value} {ns ms : List Str} (i : Nat), StrsAre xs ns → StrsAre ys ms → fin = decide (xs.length < ys.length) → Q (ltK ns ms) s → PySem.W.KatLex P w A b fin Q (xs.zip ys) i s
  | [], [], _, _, _, .nil, .nil, hf, h => by
    rw [hf]
    exact h
  | [], _ :: _, _, _, _, .nil, .cons _ _ _, hf, h => by
    rw [hf]
    exact h
  | _ :: _, [], _, _, _, .cons _ _ _, .nil, hf, h => by
    rw [hf]
    exact h
  | _ :: xs, _ :: ys, _, _, i, .cons x t hx, .cons y u hy, hf, h => by
    refine PySem.W.kat_cons (wpAny_eqBool_str ?_)
    refine PySem.W.kat_go (fun e => ?_) (fun e => ?_)
    · have exy := of_decide_eq_true e
      subst exy
      refine PySem.W.kat_yes (lex_strs (i + 1) hx hy (by rw [hf]; simp) ?_)
      unfold ltK lexL at h
      rw [if_pos rfl] at h
      exact h
    · have exy := of_decide_eq_false e
      refine PySem.W.kat_no (one_str _ ?_)
      unfold ltK lexL at h
      rw [if_neg exy] at h
      exact h
/-- at v: a tuple of the texts k -/
def TupK (h : Heap) (v : Value) (k : List Str) : Prop := ∃ a o its n, v = Value.ref a ∧ h.get? a = some o ∧ o.cls = .type "tuple" ∧ o.data = .seq its n ∧ StrsAre its.toList k
theorem TupK.keeps {h h' : Heap} {v : Value} {k : List Str} (x : TupK h v k) (kp : ∀ b o, h.get? b = some o → o.cls = .type "tuple" → h'.get? b = some o) : TupK h' v k := by
  obtain ⟨a, o, its, n, e, ho, hc, r⟩ := x
  exact ⟨a, o, its, n, e, kp _ _ ho hc, hc, r⟩
theorem firsts_str {h : Heap} {k : Value → List Str} : ∀ {vs : List Value}, (∀ v ∈ vs, TupK h v (k v) ∧ k v ≠ []) → ∃ fs : List Value, PySem.W.KatTups h vs fs ∧ fs.length = vs.length ∧ ∀ f ∈ fs, ∃ x t, f = Value.str x t
  | [], _ => ⟨[], PySem.W.KatTups.nil, rfl, fun _ m => nomatch m⟩
  | v :: vs, hp => by
    obtain ⟨fs, h1, h2, h3⟩ := firsts_str fun u m => hp u (List.mem_cons_of_mem _ m)
    obtain ⟨⟨a, o, its, n, rfl, ho, hc, hd, hS⟩, ne⟩ := hp v List.mem_cons_self
    obtain ⟨l⟩ := its
    cases hk : k (.ref a) with
    | nil => exact absurd hk ne
    | cons x ks =>
      rw [hk] at hS
      cases hS with
      | cons y t r => exact ⟨.str x t :: fs, PySem.W.KatTups.cons ho hc hd rfl h1, by rw [List.length_cons, List.length_cons, h2], fun f m => (List.mem_cons.mp m).elim (fun e => ⟨_, _, e⟩) (h3 f)⟩
/-- tuples of texts can be sorted -/
theorem sortable_tups {a : Addr} {vs : List Value} {k : Value → List Str} (h0 : 0 < vs.length) (hp : ∀ v ∈ vs, TupK s.heap v (k v) ∧ k v ≠ []) (ha : ∀ o, s.heap.get? a = some o → o.cls ≠ .type "tuple") :
    SrtO.SortableO P w A s a vs fun v u => ltK (k v) (k u) := by
  intro h' keep
  have hp' : ∀ v ∈ vs, TupK h' v (k v) ∧ k v ≠ [] := fun v hm => ⟨(hp v hm).1.keeps fun b o e c => keep b o (fun z => ha o (by rw [← z]; exact e) c) e, (hp v hm).2⟩
  obtain ⟨fs, h1, h2, h3⟩ := firsts_str hp'
  refine ⟨tuples' true, fun Q E hq => ?_, fun p q hm hm' => ?_⟩
  · refine PySem.W.kat_kind (T := .type "str") h1 (by omega) (fun f hm => ?_) (by rfl) ?_
    · obtain ⟨x, t, rfl⟩ := h3 f hm
      exact PySem.W.Looks.now
    · have e : (Value.type "str" != Value.type "tuple") = true := by decide +kernel
      rw [e]
      exact hq
  · obtain ⟨a1, o1, i1, n1, e1, g1, c1, d1, S1⟩ := (hp' _ hm).1
    obtain ⟨a2, o2, i2, n2, e2, g2, c2, d2, S2⟩ := (hp' _ hm').1
    show wpAny (model P w) A (keyLt' (tuples' true) p.1 q.1) (fun r s' => s' = _ ∧ r = ltK (k p.1) (k q.1)) _ _
    generalize k p.1 = k1 at S1 ⊢
    generalize k q.1 = k2 at S2 ⊢
    rw [e1, e2]
    exact PySem.W.kat_lt g1 d1 g2 d2 (lex_strs 0 S1 S2 (by simp) ⟨rfl, rfl⟩)
end
end My

/-! MySS: sets of texts: what is in them, put in -/
namespace My
open PySem PySem.Spec PyProof.Rows L2
def eS (e : Int × Value) : Str := sOf e.2
def GoodS (w : World) (e : Int × Value) : Prop := ∃ x tk, e = (hashStr w x, Value.str x tk)
/-- the object at a is a set of the texts xs, in the rows' order -/
structure TabS (w : World) (h : Heap) (a : Addr) (xs : List Str) (es : Array (Int × Value)) (ep : Nat) (t : SetTable) : Prop where
  ob : ∃ o, h.get? a = some o ∧ o.ExactSet ∧ o.data = .set es ep t
  good : ∀ e ∈ es.toList, GoodS w e
  eq : es.toList.map eS = xs
  nd : xs.Nodup
  fit : t.fits es.size = true
  ris : Ris t.place.toList
  led : w.params.followText "set-order" = true ∨ t.led = true
  few : xs.length < 64
section
variable {P : Program} {w : World} {A : Around} {E : Value → Shared → Prop} {s : Shared} {a : Addr} {xs : List Str} {es : Array (Int × Value)} {ep : Nat} {t : SetTable}
theorem goodS_elems {l : List (Int × Value)} (g : ∀ e ∈ l, GoodS w e) : ElemsOf (PySem.strKind P w) l := fun e he => by
  obtain ⟨x, tk, rfl⟩ := g e he
  exact ⟨⟨x, strKind_is P w x tk, rfl⟩, rfl⟩
theorem goodS_is {e : Int × Value} (g : GoodS w e) (k : Str) : (PySem.strKind P w).is k e.2 = true ↔ eS e = k := by
  obtain ⟨x, tk, rfl⟩ := g
  show Value.isStrOf k (.str x tk) = true ↔ x = k
  simp [Value.isStrOf]
theorem TabS.count {h : Heap} (R : TabS w h a xs es ep t) : es.size = xs.length := by
  rw [← R.eq, List.length_map, Array.length_toList]
/-- what the set is behind a text was put in -/
def PutS (w : World) (h h' : Heap) (a : Addr) (xs : List Str) (k : Str) (xs' : List Str) : Prop :=
  Heap.SameBut a h h' ∧ (∃ es ep t, TabS w h' a xs' es ep t) ∧ (k ∈ xs → xs' = xs) ∧ (k ∉ xs → xs'.Perm (k :: xs))
/-- the rows stored, laid anew where they are many -/
theorem store_strs {g : Bool → Sem Unit} (hg : ∀ (b : Bool) (z : Shared) (Q' : Unit → Shared → Prop), Q' () z → wpAny (model P w) A (g b) Q' E z) {o : Obj} (ho : s.heap.get? a = some o) (hex : o.ExactSet) (hd : o.data = .set es ep t)
    {es1 : Array (Int × Value)} {t1 : SetTable} (good : ∀ e ∈ es1.toList, GoodS w e) (nd : (es1.toList.map eS).Nodup) (few : es1.size < 64) (fit : t1.fits es1.size = true) (ris : Ris t1.place.toList)
    (led : w.params.followText "set-order" = true ∨ t1.led = true) {dummy : Bool} {R : Option Bool → Shared → Prop}
    (hR : ∀ h' xs', Heap.SameBut a s.heap h' → (∃ es ep t, TabS w h' a xs' es ep t) → xs'.Perm (es1.toList.map eS) → R (some true) { s with heap := h' }) :
    wpAny (model P w) A (do
      storeSet a es1 t1
      if (!dummy && t1.tooFull) = true then do
        g (relayAll t1 es1 (SetTable.grown es1.size)).2.2
        storeSet a (relayAll t1 es1 (SetTable.grown es1.size)).1 (relayAll t1 es1 (SetTable.grown es1.size)).2.1
        pure (some true)
      else pure (some true)) R E s := by
  have few' : es1.size < scanBound := by unfold scanBound; omega
  refine wpAny_bind (wpAny_storeSet_of ho hd ?_ (fits_of_scanBound few'))
  have ho1 := store_at (es' := es1) (t' := t1) ho hd
  have sb := Heap.SameBut.update s.heap a (Obj.putSet es1 t1)
  split
  · have pm := relayAll_perm t1 es1 (SetTable.grown es1.size)
    have f2 := relayAll_fits t1 es1 (SetTable.grown es1.size)
    have r2 := relayAll_ris t1 es1 (SetTable.grown es1.size)
    have l2 := relayAll_led t1 es1 (SetTable.grown es1.size)
    generalize relayAll t1 es1 (SetTable.grown es1.size) = Z at pm f2 r2 l2 ⊢
    obtain ⟨es2, t2, gave⟩ := Z
    dsimp only at pm f2 r2 l2 ⊢
    have cnt : es2.size = es1.size := by rw [← Array.length_toList, pm.length_eq, Array.length_toList]
    refine wpAny_bind (hg _ _ _ (wpAny_bind (wpAny_storeSet_of ho1 rfl ?_ (fits_of_scanBound (by rw [cnt]; exact few')))))
    refine wpAny_pure (hR _ _ (sb.trans (Heap.SameBut.update _ a _)) ⟨es2, _, t2, ⟨_, store_at ho1 rfl, hex, rfl⟩, fun e he => good e (pm.mem_iff.mp he), rfl, (pm.map eS).nodup_iff.mpr nd, f2, r2, by rw [l2]; exact led, ?_⟩ (pm.map eS))
    rw [List.length_map, Array.length_toList, cnt]
    exact few
  · refine wpAny_pure (hR _ _ sb ⟨es1, _, t1, ⟨_, ho1, hex, rfl⟩, good, rfl, nd, fit, ris, led, ?_⟩ (List.Perm.refl _))
    rw [List.length_map, Array.length_toList]
    exact few
theorem add_str (R : TabS w s.heap a xs es ep t) (room : xs.length + 1 < 64) {k : Str} {tk : Tok} {Q : Bool → Shared → Prop} (hQ : ∀ b h' xs', PutS w s.heap h' a xs k xs' → Q b { s with heap := h' }) :
    wpAny (model P w) A (setAddHashed a (.str k tk) (hashStr w k)) Q E s := by
  obtain ⟨o, ho, hex, hd⟩ := R.ob
  have cnt := R.count
  have el : ElemsOf (PySem.strKind P w) es.toList := goodS_elems R.good
  have hkey : (PySem.strKind P w).is k (.str k tk) = true := strKind_is P w k tk
  have hsc : (Value.str k tk).scannable = true := rfl
  have small : es.size < scanBound := by unfold scanBound; omega
  have quiet : ∀ (b : Bool) (z : Shared) (Q' : Unit → Shared → Prop), Q' () z → wpAny (model P w) A (match b with | true => rule "set.scan.the-table-gave-way" | false => pure ()) Q' E z :=
    fun b z Q' q => by cases b <;> first | exact wpAny_pure q | exact wpAny_rule q
  unfold setAddHashed setAddHashedIn
  refine wpAny_holding (wpAny_bind (wpAny_setState_of ho hd R.fit ?_))
  dsimp only
  rw [byScan_of hsc small el]
  simp only [↓reduceIte]
  unfold setAddByScan
  refine wpAny_bind (wpAny_bind (wpAny_rule (wpAny_bind (wpAny_setScan_of hkey ho hd R.fit el ?_))))
  cases hfi : List.findIdx? (fun e => (PySem.strKind P w).is k e.2) es.toList with
  | some j =>
    dsimp only
    obtain ⟨hj, pj, _⟩ := List.findIdx?_eq_some_iff_getElem.mp hfi
    have mem : k ∈ xs := by
      rw [← R.eq]
      exact List.mem_map.mpr ⟨es.toList[j], List.getElem_mem hj, (goodS_is (P := P) (R.good _ (List.getElem_mem hj)) k).mp pj⟩
    exact wpAny_pure (wpAny_pure (hQ _ s.heap xs ⟨Heap.SameBut.refl a s.heap, ⟨es, ep, t, R⟩, fun _ => rfl, fun z => absurd mem z⟩))
  | none =>
    dsimp only
    have nm : k ∉ xs := fun z => by
      rw [← R.eq] at z
      obtain ⟨e, he, q⟩ := List.mem_map.mp z
      have c := List.findIdx?_eq_none_iff.mp hfi e he
      rw [(goodS_is (P := P) (R.good e he) k).mpr q] at c
      cases c
    have pm := layNew_perm t es (hashStr w k) (.str k tk)
    have f1 := layNew_fits t es (hashStr w k) (.str k tk)
    have r1 := layNew_ris t es (hashStr w k) (.str k tk) R.ris
    have l1 := layNew_led t es (hashStr w k) (.str k tk)
    generalize layNew t es (hashStr w k) (.str k tk) = Z at pm f1 r1 l1 ⊢
    obtain ⟨es1, t1, dummy, gave⟩ := Z
    dsimp only at pm f1 r1 l1 ⊢
    rw [Array.toList_push] at pm
    have pc : es1.toList.Perm ((hashStr w k, Value.str k tk) :: es.toList) := pm.trans (List.perm_append_singleton _ _)
    have pk : (es1.toList.map eS).Perm (k :: xs) := by
      have z := pc.map eS
      rw [List.map_cons, R.eq] at z
      exact z
    have good : ∀ e ∈ es1.toList, GoodS w e := fun e he => (List.mem_cons.mp (pc.mem_iff.mp he)).elim (fun z => ⟨k, tk, z⟩) (R.good e)
    have nd : (es1.toList.map eS).Nodup := pk.nodup_iff.mpr (List.nodup_cons.mpr ⟨nm, R.nd⟩)
    have few : es1.size < 64 := by
      have z := pc.length_eq
      rw [Array.length_toList, List.length_cons, Array.length_toList] at z
      omega
    have led : w.params.followText "set-order" = true ∨ t1.led = true := R.led.imp id fun z => by rw [l1]; exact z
    have fin : ∀ h' xs', Heap.SameBut a s.heap h' → (∃ es ep t, TabS w h' a xs' es ep t) → xs'.Perm (es1.toList.map eS) → Q true { s with heap := h' } := fun h' xs' sb r p => hQ true h' xs' ⟨sb, r, fun z => absurd z nm, fun _ => p.trans pk⟩
    refine wpAny_bind (quiet _ _ _ ?_)
    split
    · refine wpAny_bind ?_
      rw [hashByValue_scannable 8 hsc]
      refine wpAny_pure (store_strs quiet ho hex hd good nd few ?_ ?_ ?_ fun h' xs' sb r p => wpAny_pure (fin h' xs' sb r p))
      · first | (split <;> first | exact f1 | exact SetTable.fits_plain_off f1) | exact f1
      · first | (split <;> exact r1) | exact r1
      · first | (split <;> exact led) | exact led
    · refine wpAny_bind (wpAny_pure ?_)
      simp only [↓reduceIte]
      exact store_strs quiet ho hex hd good nd few f1 r1 led fun h' xs' sb r p => wpAny_pure (fin h' xs' sb r p)
end
end My

/-! MySet: sets of texts and of tuples of texts in the abstract heap; sorted(a set) -/
namespace My
open PySem PySem.Spec PyProof.Rows L2
/-- a set of the texts xs | of the tuples L (address, texts) stands at a -/
def SetS (w : World) (a : Addr) (xs : List Str) : HO := .ext fun h => ∃ es ep t, TabS w h a xs es ep t
def SetT (P : Program) (w : World) (a : Addr) (L : List (Addr × List Str)) : HO := .ext fun h => ∃ es ep t, Tab (PySem.strKind P w) h a L es ep t
section
variable {P : Program} {w : World} {A : Around} {E : Value → Shared → Prop} {s : Shared} {h h' : Heap} {H : Hp} {a : Addr} {xs : List Str} {L : List (Addr × List Str)} {es : Array (Int × Value)} {ep : Nat} {t : SetTable}
theorem TabS.at_ (R : TabS w h a xs es ep t) (k : ∀ o, h.get? a = some o → h'.get? a = some o) : TabS w h' a xs es ep t := by
  obtain ⟨o, ho, r⟩ := R.ob
  exact ⟨⟨o, k o ho, r⟩, R.good, R.eq, R.nd, R.fit, R.ris, R.led, R.few⟩
theorem Tab.to (R : Tab (PySem.strKind P w) h a L es ep t) (k : ∀ o, h.get? a = some o → h'.get? a = some o) : Tab (PySem.strKind P w) h' a L es ep t := by
  obtain ⟨o, ho, r⟩ := R.ob
  exact ⟨⟨o, k o ho, r⟩, R.rw_, R.tab, R.nd, R.led, R.room, R.few⟩
theorem setS_ok (R : ∃ es ep t, TabS w h a xs es ep t) : ObjOk P w H h a (SetS w a xs) := by
  refine ⟨R, ?_, fun h1 h2 ⟨es, ep, t, q⟩ k => ⟨es, ep, t, q.at_ k⟩⟩
  obtain ⟨_, _, _, q⟩ := R
  obtain ⟨o, ho, _⟩ := q.ob
  exact ⟨o, ho⟩
theorem setT_ok (R : ∃ es ep t, Tab (PySem.strKind P w) h a L es ep t) : ObjOk P w H h a (SetT P w a L) := by
  refine ⟨R, ?_, fun h1 h2 ⟨es, ep, t, q⟩ k => ⟨es, ep, t, q.to k⟩⟩
  obtain ⟨_, _, _, q⟩ := R
  obtain ⟨o, ho, _⟩ := q.ob
  exact ⟨o, ho⟩
theorem setS_at (ok : HOk P w H h) (e : H a = some (SetS w a xs)) : ∃ es ep t, TabS w h a xs es ep t := (ok a _ e).1
theorem setT_at (ok : HOk P w H h) (e : H a = some (SetT P w a L)) : ∃ es ep t, Tab (PySem.strKind P w) h a L es ep t := (ok a _ e).1
theorem tabS_new (ho : h.get? a = some { cls := .type "set", dict := none, data := .set #[] 0 (.fresh 0 0 (!w.params.followText "set-order")) }) : TabS w h a [] #[] 0 (.fresh 0 0 (!w.params.followText "set-order")) where
  ob := ⟨_, ho, ⟨rfl, rfl, rfl⟩, rfl⟩
  good := fun e z => by simp at z
  eq := rfl
  nd := List.nodup_nil
  fit := rfl
  ris := List.Pairwise.nil
  led := by
    show _ ∨ (!w.params.followText "set-order") = true
    cases w.params.followText "set-order" <;> simp
  few := by decide
theorem tabT_new (ho : h.get? a = some { cls := .type "set", dict := none, data := .set #[] 0 (.fresh 0 0 (!w.params.followText "set-order")) }) : Tab (PySem.strKind P w) h a [] #[] 0 (.fresh 0 0 (!w.params.followText "set-order")) where
  ob := ⟨_, ho, ⟨rfl, rfl, rfl⟩, rfl⟩
  rw_ := rfl
  tab := ⟨List.Pairwise.nil, rfl, rfl, .inl rfl, (fun x z => nomatch z), fun i h j z => nomatch z⟩
  nd := List.nodup_nil
  led := by
    show _ ∨ (!w.params.followText "set-order") = true
    cases w.params.followText "set-order" <;> simp
  room := by
    show 0 * 5 < 7 * 3
    decide
  few := by decide

/-! ### sorted(a set) -/
theorem sorted_set_by {ltv : Value → Value → Bool} (O : SrtO.Swo ltv) (hh : A.handled = none) (ha : SetAt s.heap a es ep t) (hf : t.fits es.size = true) (few : es.size < 64) (r : Ris t.place.toList) (hl : w.params.followText "set-order" = true ∨ t.led = true)
    (hS : ∀ (vs : List Value) (z : Shared) (l : Addr), vs.Perm (es.toList.map (·.2)) → (∀ b o, s.heap.get? b = some o → b ≠ l ∧ z.heap.get? b = some o) → z.heap.get? l = some (seqObj "list" vs.toArray 0) → 2 ≤ vs.length → SrtO.SortableO P w A.in1.in1 z l vs ltv) {Q : Value → Shared → Prop}
    (hQ : ∀ z p (out : List Value) (c : Nat), (∀ b o, s.heap.get? b = some o → z.heap.get? b = some o) → z.gens = s.gens → z.os = s.os → s.heap.objs.size ≤ p → z.heap.get? p = some (seqObj "list" out.toArray c) → SrtO.Srtd ltv out → out.Perm (es.toList.map (·.2)) → Q (.ref p) z) :
    wpAny (model P w) A (call (.builtin "sorted") [.ref a]) Q E s := by
  refine Calls.call_function_entry kind_sorted plain_sorted entry_sorted (args_sorted1 _) ?_
  unfold Builtin.«sorted»
  refine wpAny_bind (m := checkCount "sorted" 1 1 _) (wpAny_pure (wpAny_bind (collect_set (A := A.in1) hh ha hf (by unfold scanBound; omega) r hl fun z vs kp hz g1 o1 pm => ?_)))
  have cnt : vs.length = es.size := by rw [pm.length_eq, List.length_map, Array.length_toList]
  refine wpAny_bind (wpAny_newList ?_ (by rw [sizeLine_eq]; omega))
  have at_ : (z.heap.push (seqObj "list" vs.toArray 0)).get? z.heap.objs.size = some (seqObj "list" vs.toArray 0) := Heap.get?_push_size _ rfl
  have keep : ∀ b o, s.heap.get? b = some o → b ≠ z.heap.objs.size ∧ (z.heap.push (seqObj "list" vs.toArray 0)).get? b = some o := fun b o e => ⟨Nat.ne_of_lt (Heap.lt_size (kp b o e)), Heap.get?_push_of_some _ (kp b o e)⟩
  refine wpAny_bind (wpAny_holding (wpAny_call_entry slot_list_sort ⟨_, at_, rfl⟩ entry_list_sort
    (SrtO.list_sort_ord (s := { z with heap := z.heap.push (seqObj "list" vs.toArray 0) }) O at_ (by rw [sizeLine_eq]; omega) (fun h2 => hS vs { z with heap := z.heap.push (seqObj "list" vs.toArray 0) } z.heap.objs.size pm keep at_ h2) fun out hs hb => ⟨_, rfl, ?_⟩) (args_list_sort _)))
  obtain ⟨c, hc⟩ := sortedHeap_at (vs := vs) (out := out.toArray) at_
  refine wpAny_pure ⟨_, rfl, hQ _ z.heap.objs.size out c (fun b o e => ?_) g1 o1 hz hc hs (hb.perm.trans pm)⟩
  have lt := Heap.lt_size (kp b o e)
  show (sortedHeap (z.heap.push (seqObj "list" vs.toArray 0)) z.heap.objs.size vs out.toArray).get? b = some o
  rw [sortedHeap_old (Nat.ne_of_lt lt) (by rw [size_push']; exact Nat.lt_succ_of_lt lt)]
  exact (keep b o e).2
end
def rSortS (w : World) : List V → Hp → VK → Prop := fun vs H Q => ∃ (a : Addr) (ts : List Str), vs = [V.ref a] ∧ H a = some (SetS w a ts) ∧
  ∀ (ys : List Str) (p : Addr), Asc ltS ys → ys.Perm ts → H p = none → Q (.ref p) (upd H p (.lst (ys.map V.str)))
def rSortT (K : PySem.W.Frag) (P : Program) (w : World) : List V → Hp → VK → Prop := fun vs H Q => ∃ (a : Addr) (L : List (Addr × List Str)), vs = [V.ref a] ∧ H a = some (SetT P w a L) ∧ (∀ q ∈ L, SqT K H q.1 (q.2.map V.str) ∧ q.2 ≠ []) ∧
  ∀ (L' : List (Addr × List Str)) (p : Addr), L'.Perm L → Asc ltK (L'.map (·.2)) → H p = none → Q (.ref p) (upd H p (.lst (L'.map fun q => V.ref q.1)))
section
variable {X : Cx}
theorem vals_strs : ∀ {us : List Value}, (∀ u ∈ us, ∃ x t, u = Value.str x t) → Vals (us.map fun u => V.str (sOf u)) us
  | [], _ => .nil
  | u :: us, h => by
    obtain ⟨x, t, rfl⟩ := h u List.mem_cons_self
    exact .cons ⟨t, rfl⟩ (vals_strs fun v m => h v (List.mem_cons_of_mem _ m))
theorem cr_sortS (hc : X.calm = true) : CallR X (.builtin "sorted") (rSortS X.w) := by
  intro pins s σ H vs us Q I r h
  obtain ⟨a, ts, rfl, ha, q⟩ := h
  obtain ⟨u, rfl, ru⟩ := vals1 r
  cases (show u = Value.ref a from ru)
  obtain ⟨es, ep, t, R⟩ := setS_at I.hok ha
  obtain ⟨o, ho, hex, hd⟩ := R.ob
  have cnt := R.count
  have few := R.few
  have texts : ∀ vs : List Value, vs.Perm (es.toList.map (·.2)) → ∀ v ∈ vs, ∃ x t, v = Value.str x t := fun vs pm v hv => by
    obtain ⟨e, he, rfl⟩ := List.mem_map.mp (pm.mem_iff.mp hv)
    obtain ⟨x, tk, rfl⟩ := R.good e he
    exact ⟨x, tk, rfl⟩
  refine sorted_set_by (ltv := fun v u => ltS (sOf v) (sOf u)) ⟨fun x y => tot_str.swo.asym _ _, fun x y z => tot_str.swo.tr _ _ _⟩ (I.ok.hd hc) ⟨o, ho, hex.1, hd⟩ R.fit (by omega) R.ris R.led (fun vs z l pm kp hl h2 => sortable_strs h2 (texts vs pm)) fun z p out c kp hg hos hp hat hs pm => ?_
  have hn : H p = none := I.hok.fresh hp
  have pS : (out.map sOf).Perm ts := by
    have z := pm.map sOf
    rw [List.map_map] at z
    rw [← R.eq]
    exact z
  have len : out.length ≤ sizeLine := by
    have z := pS.length_eq
    rw [List.length_map] at z
    rw [sizeLine_eq]
    omega
  have hz : z.heap.get? p = some { cls := .type "list", data := .seq out.toArray c } := hat
  have str : ∀ v ∈ out, ∃ x t, v = Value.str x t := texts out pm
  have new : ObjOk X.prog X.w (upd H p (.lst ((out.map sOf).map V.str))) z.heap p (.lst ((out.map sOf).map V.str)) := ⟨by rw [List.length_map, List.length_map]; exact len, out, c, by rw [List.map_map]; exact vals_strs str, hz⟩
  have I3 : Inv X pins σ (upd H p (.lst ((out.map sOf).map V.str))) z := I.call' (ch := []) hos (Un.laid kp hp hn) (I.hok.laid kp hp new) (by rw [hg]; exact I.bare) fun _ m => nomatch m
  exact ⟨.ref p, _, I3, rfl, q (out.map sOf) p (asc_of tot_str (List.pairwise_map.mpr hs) (pS.nodup_iff.mpr R.nd)) pS hn⟩
/-- the tuple at b, as the heap has it -/
theorem tup_at {pins : List (Addr × Obj)} {σ : L2.St} {H : Hp} {s : Shared} (I : Inv X pins σ H s) {b : Addr} {k : List Str} (h : SqT X.K H b (k.map V.str)) : TupK s.heap (.ref b) k ∧ IsTupleKey (PySem.strKind X.prog X.w) s.heap k b := by
  obtain ⟨its, rv, ⟨o, ho, hc, n, hd⟩, _⟩ := I.tuple h
  have S := strsAre_of rv
  refine ⟨⟨b, o, _, n, rfl, ho, hc, hd, by simpa using S⟩, o, _, n, ho, hc, hd, ?_⟩
  have go : ∀ {vs : List Value} {ks : List Str}, StrsAre vs ks → PySem.ItemsAre (PySem.strKind X.prog X.w) ks vs := by
    intro vs ks q
    induction q with
    | nil => exact .nil
    | cons y t _ ih => exact .cons (strKind_is X.prog X.w y t) ih
  exact go (by simpa using S)
theorem map_str_inj : ∀ {k m : List Str}, k.map V.str = m.map V.str → k = m
  | [], [], _ => rfl
  | [], _ :: _, h => by simp at h
  | _ :: _, [], h => by simp at h
  | x :: k, y :: m, h => by
    rw [List.map_cons, List.map_cons] at h
    obtain ⟨h1, h2⟩ := List.cons.inj h
    rw [V.str.inj h1, map_str_inj h2]
/-- the texts of the tuple that a value is, by a list of such -/
def kOf (L : List (Addr × List Str)) (v : Value) : List Str := match v with
  | .ref b => ((L.find? fun q => q.1 == b).map (·.2)).getD []
  | _ => []
def pOf (L : List (Addr × List Str)) (v : Value) : Addr × List Str := (match v with | .ref b => b | _ => 0, kOf L v)
theorem kOf_at {L : List (Addr × List Str)} (one : ∀ p ∈ L, ∀ q ∈ L, p.1 = q.1 → p.2 = q.2) {q : Addr × List Str} (hq : q ∈ L) : kOf L (.ref q.1) = q.2 := by
  show ((L.find? fun p => p.1 == q.1).map (·.2)).getD [] = q.2
  cases e : L.find? fun p => p.1 == q.1 with
  | none => exact absurd (List.find?_eq_none.mp e q hq) (by simp)
  | some p =>
    have h1 : p.1 = q.1 := by simpa using List.find?_some e
    exact one p (List.mem_of_find?_eq_some e) q hq h1
theorem cr_sortT (hc : X.calm = true) : CallR X (.builtin "sorted") (rSortT X.K X.prog X.w) := by
  intro pins s σ H vs us Q I r h
  obtain ⟨a, L, rfl, ha, ht, q⟩ := h
  obtain ⟨u, rfl, ru⟩ := vals1 r
  cases (show u = Value.ref a from ru)
  obtain ⟨es, ep, t, R⟩ := setT_at I.hok ha
  obtain ⟨o, ho, hex, hd⟩ := R.ob
  have cnt := R.count
  have few := R.few
  have one : ∀ p ∈ L, ∀ q ∈ L, p.1 = q.1 → p.2 = q.2 := fun p hp q hq e => by
    have h1 := (ht p hp).1
    rw [e] at h1
    exact map_str_inj (I.tuple_inj h1 (ht q hq).1)
  have vals : es.toList.map (·.2) = L.map fun p => Value.ref p.1 := by
    rw [R.rw_]
    unfold rows
    rw [List.map_map]
    rfl
  have each : ∀ vs : List Value, vs.Perm (es.toList.map (·.2)) → ∀ v ∈ vs, ∃ p ∈ L, v = Value.ref p.1 ∧ kOf L v = p.2 := fun vs pm v hv => by
    rw [vals] at pm
    obtain ⟨p, hp, rfl⟩ := List.mem_map.mp (pm.mem_iff.mp hv)
    exact ⟨p, hp, rfl, kOf_at one hp⟩
  refine sorted_set_by (ltv := fun v u => ltK (kOf L v) (kOf L u)) ⟨fun x y => tot_key.swo.asym _ _, fun x y z => tot_key.swo.tr _ _ _⟩ (I.ok.hd hc) ⟨o, ho, hex.1, hd⟩ R.fits (by omega) R.tab.ris R.led (fun vs z l pm kp hl h2 => ?_) fun z p out c kp hg hos hp hat hs pm => ?_
  · refine sortable_tups (by omega) (fun v hv => ?_) fun o' e' c' => ?_
    · obtain ⟨p, hp, rfl, e⟩ := each vs pm v hv
      rw [e]
      exact ⟨(tup_at I (ht p hp).1).1.keeps fun b o e _ => (kp b o e).2, (ht p hp).2⟩
    · rw [hl] at e'
      cases e'
      exact absurd (Value.type.inj c') (by decide)
  · have hn : H p = none := I.hok.fresh hp
    have refs : ∀ v ∈ out, v = Value.ref (pOf L v).1 := fun v hv => by
      obtain ⟨p, _, rfl, _⟩ := each out pm v hv
      rfl
    have back : (es.toList.map (·.2)).map (pOf L) = L := by
      rw [vals, List.map_map]
      refine (List.map_congr_left fun p hp => ?_).trans (List.map_id L)
      exact Prod.ext rfl (kOf_at one hp)
    have pL : (out.map (pOf L)).Perm L := by
      have z := pm.map (pOf L)
      rw [back] at z
      exact z
    have len : out.length ≤ sizeLine := by
      have z := pL.length_eq
      rw [List.length_map] at z
      rw [sizeLine_eq]
      omega
    have asc : Asc ltK ((out.map (pOf L)).map (·.2)) := asc_of tot_key (by
      rw [List.map_map]
      exact List.pairwise_map.mpr hs) ((pL.map (·.2)).nodup_iff.mpr R.nd)
    have rel : ∀ l : List Value, (∀ v ∈ l, v = Value.ref (pOf L v).1) → Vals ((l.map (pOf L)).map fun q => V.ref q.1) l := by
      intro l
      induction l with
      | nil => intro _; exact .nil
      | cons v l ih => intro h; exact .cons (h v List.mem_cons_self) (ih fun u hu => h u (List.mem_cons_of_mem _ hu))
    have hz : z.heap.get? p = some { cls := .type "list", data := .seq out.toArray c } := hat
    have new : ObjOk X.prog X.w (upd H p (.lst ((out.map (pOf L)).map fun q => V.ref q.1))) z.heap p (.lst ((out.map (pOf L)).map fun q => V.ref q.1)) := ⟨by rw [List.length_map, List.length_map]; exact len, out, c, rel out refs, hz⟩
    exact ⟨.ref p, _, I.call' (ch := []) hos (Un.laid kp hp hn) (I.hok.laid kp hp new) (by rw [hg]; exact I.bare) (fun _ m => nomatch m), rfl, q _ p pL asc hn⟩
end
end My

/-! MyFill: set(xs) of a list or a tuple, whatever the items are, by a word of what is in the set -/
namespace My
open PySem PySem.Spec PyProof.Rows L2
abbrev set0 (w : World) : Obj := { cls := .type "set", dict := none, data := .set #[] 0 (.fresh 0 0 (!w.params.followText "set-order")) }
/-- F h c: at a stands a set of the content c; J i c: c is what the first i items give -/
structure Fill (P : Program) (w : World) (A : Around) (h0 : Heap) (a : Addr) (items : Array Value) (C : Type) (F : Heap → C → Prop) (J : Nat → C → Prop) : Prop where
  moves : ∀ h h' c, F h c → (∀ o, h.get? a = some o → h'.get? a = some o) → F h' c
  add : ∀ (A' : Around) (i : Nat) (v : Value) (c : C) (z : Shared) (Q : Bool → Shared → Prop) (E : Value → Shared → Prop), A'.units ≤ A.units + 8 → items[i]? = some v → F z.heap c → J i c → (∀ b o, h0.get? b = some o → z.heap.get? b = some o) →
    (∀ b h' tk c', Heap.SameBut a z.heap h' → z.toks ≤ tk → F h' c' → J (i + 1) c' → Q b { z with heap := h', toks := tk }) → wpAny (model P w) A' (setAdd a v) Q E z
section
variable {P : Program} {w : World} {A B : Around} {E : Value → Shared → Prop} {h0 : Heap} {a : Addr} {items : Array Value} {C : Type} {F : Heap → C → Prop} {J : Nat → C → Prop}
theorem fill_loop (K : Fill P w B h0 a items C F J) (hu : A.units + 1 ≤ B.units + 8) {I : Addr} {fp wr : List Addr} {G : Array GenState → Array GenState → Prop} {Pv : Nat → Value → Prop} {St : Nat → Shared → Prop} {R : Result → Shared → Prop}
    (W : WalksS P w A.in1 I fp wr G items.size Pv St) (hf : a ∉ fp) (hv : ∀ i v, Pv i v → items[i]? = some v) (ha : h0.get? a = none) (hw : ∀ b ∈ wr, h0.get? b = none) :
    ∀ (k i : Nat) (s : Shared) (c : C), items.size - i = k → i ≤ items.size → St i s → (∀ b o, h0.get? b = some o → s.heap.get? b = some o) → F s.heap c → J i c →
      (∀ s' c', Moved (a :: wr) G s s' → F s'.heap c' → J items.size c' → (∀ b o, h0.get? b = some o → s'.heap.get? b = some o) → R (.ok (.ret .none)) s') →
      codeAny (model P w) A (.builtin "set.update.loop" ⟨[.ref a, .ref I], []⟩) R s := by
  have aw : a ∉ wr := fun z => hf (W.sub _ z)
  have up : ∀ b ∈ wr, b ∈ a :: wr := fun b z => List.mem_cons_of_mem _ z
  have kept : ∀ {s s' : Shared}, Moved wr G s s' → (∀ b o, h0.get? b = some o → s.heap.get? b = some o) → ∀ b o, h0.get? b = some o → s'.heap.get? b = some o := fun m k b o e =>
    m.heap b o (fun z => by rw [hw b z] at e; cases e) (k b o e)
  intro k
  induction k with
  | zero =>
    intro i s c hk hi st kp hF hJ hR
    obtain rfl : i = items.size := by omega
    refine codeAny_builtin PyProof.Rows.F.entry_set_update_loop ?_
    rw [Around.under_plainId PyProof.Rows.F.plain_set_update_loop _]
    show wpAny _ A.in1 (pyNext (.ref I) >>= _) _ _ s
    refine wpAny_bind (W.done s _ _ st fun s' m => ?_)
    exact wpAny_pure (hR s' c (m.mono up) (K.moves _ _ _ hF fun o e => m.heap a o aw e) hJ (kept m kp))
  | succ k ih =>
    intro i s c hk hi st kp hF hJ hR
    have lt : i < items.size := by omega
    refine codeAny_builtin PyProof.Rows.F.entry_set_update_loop ?_
    rw [Around.under_plainId PyProof.Rows.F.plain_set_update_loop _]
    show wpAny _ A.in1 (pyNext (.ref I) >>= _) _ _ s
    refine wpAny_bind (W.item i s _ _ lt st fun v s1 pv st1 m => ?_)
    show wpAny _ A.in1 (holding [v] (setAdd a v) >>= _) _ _ s1
    refine wpAny_bind (wpAny_holding (K.add A.in1 i v c s1 _ _ hu (hv i v pv) (K.moves _ _ _ hF fun o e => m.heap a o aw e) hJ (kept m kp) fun b h2 tk c2 sb lk hF2 hJ2 => ?_))
    have kp2 : ∀ b o, h0.get? b = some o → h2.get? b = some o := fun b o e => (sb.2 b (fun z => by rw [z, ha] at e; cases e)).trans (kept m kp b o e)
    refine wpAny_pure ⟨plainId_quiet PyProof.Rows.F.plain_set_update_loop _, ih (i + 1) _ c2 (by omega) lt (W.frame _ s1 _ _ st1 lk fun b hb o e => ?_) kp2 hF2 hJ2 fun s3 c3 m3 hF3 hJ3 kp3 => ?_⟩
    · rw [sb.2 b (fun z => hf (by rw [← z]; exact hb))]
      exact e
    · refine hR s3 c3 (Moved.trans W.gtrans ((m.mono up).then_heap lk fun b o hb e => ?_) m3) hF3 hJ3 kp3
      rw [sb.2 b (fun z => hb (by rw [z]; exact List.mem_cons_self))]
      exact e
set_option maxHeartbeats 4000000 in
/-- set(xs) -/
theorem set_of {s : Shared} {l : Addr} {Q : Value → Shared → Prop} (hh : A.handled = none) (hl : s.heap.IsList l items ∨ s.heap.IsTuple l items) (K : Fill P w A s.heap s.heap.objs.size items C F J) {c0 : C}
    (hF : ∀ h, h.get? s.heap.objs.size = some (set0 w) → F h c0) (hJ : J 0 c0)
    (h : ∀ (h' : Heap) (tk : Nat) (c : C), F h' c → J items.size c → (∀ b o, s.heap.get? b = some o → h'.get? b = some o) → Q (.ref s.heap.objs.size) { s with heap := h', toks := tk }) :
    wpAny (model P w) A (call (.type "set") [.ref l]) Q E s := by
  obtain ⟨c1, tl, hmro⟩ := PySem.F.called_set.mro
  have hmade := PySem.F.called_set.made
  have hsub := PySem.F.called_set.sub
  refine wpAny_call (codeAny_of_tree ?_)
  show wpAny _ _ (callAny (.type "set") _) _ _ _
  refine wpAny_pure ⟨Code.quiet_builtin _ (by decide +kernel), codeAny_builtin PySem.F.entry_type_call ?_⟩
  rw [Around.under_plain (weight_type_call_type "set" [.ref l] []) rfl]
  have h1 := PySem.F.called_set.notType
  have h2 := PySem.F.called_set.canCreate
  have hct := PySem.F.typeCall_set_1 (.ref l)
  repeat (any_goals (first | assumption | wp_step))
  refine codeAny_mono (code_set_led1 (.ref l) (E := E) (Q₁ := fun v z => v = .ref s.heap.objs.size ∧ z = { s with heap := s.heap.push (set0 w) }) ⟨rfl, rfl⟩) fun r z hr => ?_
  cases r with
  | error e => exact hr
  | ok fl =>
    cases fl with
    | ret v =>
      obtain ⟨rfl, rfl⟩ := hr
      have hS : (s.heap.push (set0 w)).get? s.heap.objs.size = some (set0 w) := Heap.get?_push_size _ rfl
      have hT : Shared.TypeIs { s with heap := s.heap.push (set0 w) } (.ref s.heap.objs.size) "set" := ⟨_, hS, rfl⟩
      have hli := PySem.F.called_set.init.lookup
      have hbi := PySem.F.called_set.init.bind (.ref s.heap.objs.size)
      repeat (any_goals (first | assumption | wp_step))
      refine codeAny_mono (codeAny_call_builtin (R := wants (fun r z => r = .none ∧ ∃ h' tk c, z = { s with heap := h', toks := tk } ∧ F h' c ∧ J items.size c ∧ (∀ b o, s.heap.get? b = some o → h'.get? b = some o)) E)
        PySem.F.called_set.init.plain PySem.F.entry_set_init (check_set_init_1 hT ?_)) fun r z hr => ?_
      · have gone : ∀ b, s.heap.objs.size ≤ b → s.heap.get? b = none := fun b hb => by
          cases q : s.heap.get? b with
          | none => rfl
          | some o => exact absurd (Nat.lt_of_lt_of_le (Heap.lt_size q) hb) (Nat.lt_irrefl _)
        have h3 : A.in1.in1.in1.handled = none := by simp [hh]
        have z1 : (s.heap.push (set0 w)).objs.size = s.heap.objs.size + 1 := Heap.size_push ..
        -- behind the iterator was made: the loop, from any iterator that walks
        have run : ∀ (ob : Obj) (Pv : Nat → Value → Prop) (St : Nat → Shared → Prop), l < s.heap.objs.size →
            WalksS P w A.in1.in1.in1 (s.heap.push (set0 w)).objs.size [(s.heap.push (set0 w)).objs.size, l] [(s.heap.push (set0 w)).objs.size] (fun a b => b = a) items.size Pv St → (∀ i v, Pv i v → items[i]? = some v) →
            St 0 { s with heap := (s.heap.push (set0 w)).push ob } →
            ∀ (R : Result → Shared → Prop), (∀ h' tk c, F h' c → J items.size c → (∀ b o, s.heap.get? b = some o → h'.get? b = some o) → R (.ok (.ret .none)) { s with heap := h', toks := tk }) →
            codeAny (model P w) A.in1.in1 (.builtin "set.update.loop" ⟨[.ref s.heap.objs.size, .ref (s.heap.push (set0 w)).objs.size], []⟩) R { s with heap := (s.heap.push (set0 w)).push ob } := by
          intro ob Pv St ll W hv st R hR
          have hget : ((s.heap.push (set0 w)).push ob).get? s.heap.objs.size = some (set0 w) := Heap.get?_push_of_some _ hS
          refine fill_loop K (by show A.units + 1 + 1 + 1 ≤ _; omega) W ?_ hv (gone _ (Nat.le_refl _)) (fun b hb => gone b ?_) (items.size - 0) 0 _ c0 rfl (Nat.zero_le _) st (fun b o e => Heap.get?_push_of_some _ (Heap.get?_push_of_some _ e)) (hF _ hget) hJ fun s' c m hF' hJ' kp => ?_
          · rw [z1]
            simp only [List.mem_cons, List.not_mem_nil, or_false, not_or]
            exact ⟨Nat.ne_of_lt (Nat.lt_succ_self _), Nat.ne_of_gt ll⟩
          · rw [List.mem_singleton.mp hb, z1]
            exact Nat.le_succ _
          · obtain ⟨hp, gn, dr, tk, os⟩ := s'
            have eg := m.gens
            have ed := m.drawn
            have eo := m.os
            dsimp only at eg ed eo
            subst eg ed eo
            exact hR hp tk c hF' hJ' kp
        rcases hl with hl | hl
        · obtain ⟨ol, hol, hcl, nl, hdl⟩ := hl
          obtain ⟨oc, od, oda, osl⟩ := ol
          simp only at hcl hdl
          subst hcl hdl
          have ll := Heap.lt_size hol
          have hne2 : l ≠ (s.heap.push (set0 w)).objs.size := by
            rw [z1]
            exact Nat.ne_of_lt (Nat.lt_succ_of_lt ll)
          have hol' : (s.heap.push (set0 w)).get? l = some { cls := .type "list", dict := od, data := .seq items nl, slots := osl } := Heap.get?_push_of_some _ hol
          have hsls := PySem.F.sub_list_set
          have hslf := PySem.F.sub_list_frozenset
          have hne : (Value.type "list" == Value.type "dict") = false := by decide
          have hl1 : (s.heap.push (set0 w)).IsList l items := ⟨_, hol', rfl, nl, rfl⟩
          unfold Builtin.«set.__init__» noKeywords Builtin.Frozenset.updateFrom
          generalize hPI : pyIter = PI
          wp_walk
          subst hPI
          refine wpAny_pyIter_list hl1 (wpAny_bind (wpAny_runValue ?_))
          refine run _ _ _ ll ((Walks.list h3 _ l hne2 items).toS) (fun i v e => e) ⟨⟨_, Heap.get?_push_size _ rfl, rfl, rfl⟩, hl1.push _⟩ _ fun h' tk c hF' hJ' kp => ?_
          refine wpAny_pure ?_
          exact wpAny_pure ⟨rfl, h', tk, c, rfl, hF', hJ', kp⟩
        · obtain ⟨ol, hol, hcl, nl, hdl⟩ := hl
          obtain ⟨oc, od, oda, osl⟩ := ol
          simp only at hcl hdl
          subst hcl hdl
          have ll := Heap.lt_size hol
          have hne2 : l ≠ (s.heap.push (set0 w)).objs.size := by
            rw [z1]
            exact Nat.ne_of_lt (Nat.lt_succ_of_lt ll)
          have hol' : (s.heap.push (set0 w)).get? l = some { cls := .type "tuple", dict := od, data := .seq items nl, slots := osl } := Heap.get?_push_of_some _ hol
          have hsls := PySem.F.sub_tuple_set
          have hslf := PySem.F.sub_tuple_frozenset
          have hne : (Value.type "tuple" == Value.type "dict") = false := by decide
          have hl1 : (s.heap.push (set0 w)).IsTuple l items := ⟨_, hol', rfl, nl, rfl⟩
          unfold Builtin.«set.__init__» noKeywords Builtin.Frozenset.updateFrom
          generalize hPI : pyIter = PI
          wp_walk
          subst hPI
          refine wpAny_pyIter_tuple hl1 (wpAny_bind (wpAny_runValue ?_))
          refine run _ _ _ ll ((Walks.tuple h3 _ l hne2 items).toS) (fun i v e => e) ⟨⟨_, Heap.get?_push_size _ rfl, rfl, rfl⟩, hl1.push _⟩ _ fun h' tk c hF' hJ' kp => ?_
          refine wpAny_pure ?_
          exact wpAny_pure ⟨rfl, h', tk, c, rfl, hF', hJ', kp⟩
      · cases r with
        | error e => exact hr
        | ok fl2 =>
          cases fl2 with
          | ret r =>
            obtain ⟨rfl, h', tk, c, rfl, hF', hJ', kp⟩ := hr
            repeat (any_goals (first | assumption | wp_step))
            exact h _ _ _ hF' hJ' kp
          | _ => exact hr.elim
    | _ => exact hr.elim
end
end My

/-! MySetOf: set(xs), xs a list or tuple of texts or of tuples of texts; set.add -/
namespace My
open PySem PySem.Spec PyProof.Rows L2
def AddS (xs : List Str) (k : Str) (xs' : List Str) : Prop := (k ∈ xs → xs' = xs) ∧ (k ∉ xs → xs'.Perm (k :: xs))
def AddT (L : List (Addr × List Str)) (b : Addr) (k : List Str) (L' : List (Addr × List Str)) : Prop := (k ∈ L.map (·.2) → L' = L) ∧ (k ∉ L.map (·.2) → L'.Perm ((b, k) :: L))
theorem AddS.mem {xs xs' : List Str} {k : Str} (h : AddS xs k xs') (x : Str) : x ∈ xs' ↔ x = k ∨ x ∈ xs := by
  by_cases c : k ∈ xs
  · rw [h.1 c]
    exact ⟨.inr, fun z => z.elim (fun e => e ▸ c) id⟩
  · rw [(h.2 c).mem_iff]
    exact List.mem_cons
theorem AddS.len {xs xs' : List Str} {k : Str} (h : AddS xs k xs') : xs'.length ≤ xs.length + 1 := by
  by_cases c : k ∈ xs
  · rw [h.1 c]
    omega
  · rw [(h.2 c).length_eq]
    exact Nat.le_refl _
theorem AddT.keys {L L' : List (Addr × List Str)} {b : Addr} {k : List Str} (h : AddT L b k L') (x : List Str) : x ∈ L'.map (·.2) ↔ x = k ∨ x ∈ L.map (·.2) := by
  by_cases c : k ∈ L.map (·.2)
  · rw [h.1 c]
    exact ⟨.inr, fun z => z.elim (fun e => e ▸ c) id⟩
  · rw [((h.2 c).map (·.2)).mem_iff]
    exact List.mem_cons
theorem AddT.sub {L L' : List (Addr × List Str)} {b : Addr} {k : List Str} (h : AddT L b k L') {p : Addr × List Str} (hp : p ∈ L') : p = (b, k) ∨ p ∈ L := by
  by_cases c : k ∈ L.map (·.2)
  · rw [h.1 c] at hp
    exact .inr hp
  · exact List.mem_cons.mp ((h.2 c).mem_iff.mp hp)
theorem AddT.len {L L' : List (Addr × List Str)} {b : Addr} {k : List Str} (h : AddT L b k L') : L'.length ≤ L.length + 1 := by
  by_cases c : k ∈ L.map (·.2)
  · rw [h.1 c]
    omega
  · rw [(h.2 c).length_eq]
    exact Nat.le_refl _
section
variable {P : Program} {w : World} {A : Around} {E : Value → Shared → Prop} {s : Shared} {a : Addr}
theorem setAdd_str {xs : List Str} {es : Array (Int × Value)} {ep : Nat} {t : SetTable} (R : TabS w s.heap a xs es ep t) (room : xs.length + 1 < 64) {k : Str} {tk : Tok} {Q : Bool → Shared → Prop}
    (hQ : ∀ b h' tk xs', s.toks ≤ tk → PutS w s.heap h' a xs k xs' → Q b { s with heap := h', toks := tk }) : wpAny (model P w) A (setAdd a (.str k tk)) Q E s := by
  unfold setAdd
  refine wpAny_holding (wpAny_bind ((PySem.strKind P w).pyHash (strKind_is P w k tk) ?_))
  exact add_str (s := { s with toks := s.toks + 1 }) R room fun b h' xs' p => hQ b h' _ xs' (Nat.le_succ _) p
theorem setAdd_tup {L : List (Addr × List Str)} {es : Array (Int × Value)} {ep : Nat} {t : SetTable} (R : Tab (PySem.strKind P w) s.heap a L es ep t) (tup : ∀ p ∈ L, IsTupleKey (PySem.strKind P w) s.heap p.2 p.1) (room : L.length + 1 < 64) {b : Addr} {k : List Str}
    (hb : IsTupleKey (PySem.strKind P w) s.heap k b) (hu : A.units < cLine) {Q : Bool → Shared → Prop} (hQ : ∀ c h' tk L', s.toks ≤ tk → Put (PySem.strKind P w) s.heap h' a L b k L' → Q c { s with heap := h', toks := tk }) :
    wpAny (model P w) A (setAdd a (.ref b)) Q E s := by
  unfold setAdd
  refine wpAny_holding (wpAny_bind (wpAny_pyHash_tuple hu hb ?_))
  exact add_tab (s := { s with toks := s.toks + (k.length + 1) }) (scan_str P w) R tup hb hu room fun c h' L' p => hQ c h' _ L' (Nat.le_add_right _ _) p
end
/-- set(xs) of texts -/
def rSetOfS (K : PySem.W.Frag) (w : World) : List V → Hp → VK → Prop := fun vs H Q => ∃ (l : Addr) (zs : List Str), vs = [V.ref l] ∧ (SqL K H l (zs.map V.str) ∨ SqT K H l (zs.map V.str)) ∧ zs.length < 63 ∧
  ∀ (a : Addr) (xs : List Str), (∀ x, x ∈ xs ↔ x ∈ zs) → H a = none → Q (.ref a) (upd H a (SetS w a xs))
/-- set(xs) of tuples of texts: ks tells the tuples and their texts -/
def rSetOfT (K : PySem.W.Frag) (P : Program) (w : World) : List V → Hp → VK → Prop := fun vs H Q => ∃ (l : Addr) (ks : List (Addr × List Str)), vs = [V.ref l] ∧ (SqL K H l (ks.map fun p => V.ref p.1) ∨ SqT K H l (ks.map fun p => V.ref p.1)) ∧ ks.length < 63 ∧
  (∀ p ∈ ks, SqT K H p.1 (p.2.map V.str)) ∧
  ∀ (a : Addr) (L : List (Addr × List Str)), (∀ p ∈ L, p ∈ ks) → (∀ k, k ∈ L.map (·.2) ↔ k ∈ ks.map (·.2)) → H a = none → Q (.ref a) (upd H a (SetT P w a L))
section
variable {X : Cx}
theorem seq_at {pins : List (Addr × Obj)} {σ : L2.St} {H : Hp} {s : Shared} (I : Inv X pins σ H s) {l : Addr} {vs : List V} (h : SqL X.K H l vs ∨ SqT X.K H l vs) : ∃ its : List Value, Vals vs its ∧ (s.heap.IsList l its.toArray ∨ s.heap.IsTuple l its.toArray) := by
  rcases h with h | h
  · obtain ⟨its, rv, hl, _⟩ := I.list h
    exact ⟨its, rv, .inl hl.isList⟩
  · obtain ⟨its, rv, ⟨o, ho, hc, n, hd⟩, _⟩ := I.tuple h
    exact ⟨its, rv, .inr ⟨o, ho, hc, n, hd⟩⟩
theorem take_mem {α : Type} {l : List α} {i : Nat} {x : α} (h : l[i]? = some x) (y : α) : y ∈ l.take (i + 1) ↔ y = x ∨ y ∈ l.take i := by
  rw [List.take_add_one, h]
  simp [or_comm]
theorem cr_setS (hc : X.calm = true) : CallR X (.type "set") (rSetOfS X.K X.w) := by
  intro pins s σ H vs us Q I r h
  obtain ⟨l, zs, rfl, hl, few, q⟩ := h
  obtain ⟨u, rfl, ru⟩ := vals1 r
  cases (show u = Value.ref l from ru)
  obtain ⟨its, rv, hl⟩ := seq_at I hl
  have cnt : its.toArray.size = zs.length := by
    have z := rv.length
    rw [List.length_map] at z
    simp [← z]
  refine set_of (C := List Str) (F := fun h xs => ∃ es ep t, TabS X.w h s.heap.objs.size xs es ep t) (J := fun i xs => (∀ x, x ∈ xs ↔ x ∈ zs.take i) ∧ xs.length ≤ i) (I.ok.hd hc) hl ⟨fun h h' c ⟨es, ep, t, R⟩ k => ⟨es, ep, t, R.at_ k⟩, fun A' i v c z Q' E' hu hv ⟨es, ep, t, R⟩ hJ kp hQ => ?_⟩
    (c0 := []) (fun h e => ⟨_, _, _, tabS_new e⟩) ⟨fun x => by simp, Nat.le_refl _⟩ fun h' tk c hF hJ kp => ?_
  · have hv' : its[i]? = some v := by simpa using hv
    have hi : i < zs.length := by
      rw [← cnt]
      exact (Array.getElem?_eq_some_iff.mp hv).1
    obtain ⟨u, hu', ru⟩ := rv.get (i := i) (x := V.str zs[i]) (by rw [List.getElem?_map, List.getElem?_eq_getElem hi]; rfl)
    rw [hv'] at hu'
    cases hu'
    obtain ⟨tk, rfl⟩ := ru
    refine setAdd_str R (by omega) fun b h' tk xs' lk ⟨sb, R', p1, p2⟩ => hQ b h' tk xs' sb lk R' ⟨fun x => ?_, ?_⟩
    · rw [AddS.mem (xs := c) (k := zs[i]) ⟨p1, p2⟩ x, take_mem (List.getElem?_eq_getElem hi), hJ.1 x]
    · exact Nat.le_trans (AddS.len (xs := c) (k := zs[i]) ⟨p1, p2⟩) (Nat.succ_le_succ hJ.2)
  · have hn : H s.heap.objs.size = none := I.hok.fresh (Nat.le_refl _)
    rw [cnt] at hJ
    exact ⟨.ref _, _, I.laid (t' := tk) kp (Nat.le_refl _) (setS_ok hF), rfl, q _ c (fun x => by rw [hJ.1 x, List.take_length]) hn⟩
theorem cr_setT (hc : X.calm = true) (hu : X.A.units + 64 < cLine) : CallR X (.type "set") (rSetOfT X.K X.prog X.w) := by
  intro pins s σ H vs us Q I r h
  obtain ⟨l, ks, rfl, hl, few, hk, q⟩ := h
  obtain ⟨u, rfl, ru⟩ := vals1 r
  cases (show u = Value.ref l from ru)
  obtain ⟨its, rv, hl⟩ := seq_at I hl
  have cnt : its.toArray.size = ks.length := by
    have z := rv.length
    rw [List.length_map] at z
    simp [← z]
  have tup : ∀ p ∈ ks, IsTupleKey (PySem.strKind X.prog X.w) s.heap p.2 p.1 := fun p hp => (tup_at I (hk p hp)).2
  have carry : ∀ {z : Shared} {p : Addr × List Str}, (∀ b o, s.heap.get? b = some o → z.heap.get? b = some o) → IsTupleKey (PySem.strKind X.prog X.w) s.heap p.2 p.1 → IsTupleKey (PySem.strKind X.prog X.w) z.heap p.2 p.1 := fun kp ⟨o, its, n, ho, r⟩ => ⟨o, its, n, kp _ _ ho, r⟩
  refine set_of (C := List (Addr × List Str)) (F := fun h L => ∃ es ep t, Tab (PySem.strKind X.prog X.w) h s.heap.objs.size L es ep t) (J := fun i L => (∀ p ∈ L, p ∈ ks) ∧ (∀ k, k ∈ L.map (·.2) ↔ k ∈ (ks.take i).map (·.2)) ∧ L.length ≤ i) (I.ok.hd hc) hl
    ⟨fun h h' c ⟨es, ep, t, R⟩ k => ⟨es, ep, t, R.to k⟩, fun A' i v c z Q' E' hu' hv ⟨es, ep, t, R⟩ ⟨j1, j2, j3⟩ kp hQ => ?_⟩ (c0 := []) (fun h e => ⟨_, _, _, tabT_new e⟩) ⟨fun p z => (nomatch z), fun k => by simp, Nat.le_refl _⟩ fun h' tk c hF ⟨j1, j2, j3⟩ kp => ?_
  · have hv' : its[i]? = some v := by simpa using hv
    have hi : i < ks.length := by
      rw [← cnt]
      exact (Array.getElem?_eq_some_iff.mp hv).1
    obtain ⟨u, hu2, ru⟩ := rv.get (i := i) (x := V.ref ks[i].1) (by rw [List.getElem?_map, List.getElem?_eq_getElem hi]; rfl)
    rw [hv'] at hu2
    cases hu2
    cases (show v = Value.ref ks[i].1 from ru)
    have mk : ks[i] ∈ ks := List.getElem_mem hi
    refine setAdd_tup R (fun p hp => carry kp (tup p (j1 p hp))) (by omega) (k := ks[i].2) (carry kp (tup _ mk)) (by omega) fun b h' tk L' lk ⟨sb, R', p1, p2⟩ => hQ b h' tk L' sb lk R' ⟨fun p hp => ?_, fun k => ?_, ?_⟩
    · rcases AddT.sub (L := c) ⟨p1, p2⟩ hp with e | e
      · rw [e]
        exact mk
      · exact j1 p e
    · rw [AddT.keys (L := c) (b := ks[i].1) ⟨p1, p2⟩ k, j2 k, List.map_take, List.map_take, take_mem (l := ks.map (·.2)) (x := ks[i].2) (by rw [List.getElem?_map, List.getElem?_eq_getElem hi]; rfl)]
    · exact Nat.le_trans (AddT.len (L := c) (b := ks[i].1) ⟨p1, p2⟩) (Nat.succ_le_succ j3)
  · have hn : H s.heap.objs.size = none := I.hok.fresh (Nat.le_refl _)
    rw [cnt] at j2
    exact ⟨.ref _, _, I.laid (t' := tk) kp (Nat.le_refl _) (setT_ok hF), rfl, q _ c j1 (fun k => by rw [j2 k, List.take_length]) hn⟩
end
end My

/-! MyAdd: set.add of a text | of a tuple of texts, for the comprehensions -/
namespace My
open PySem PySem.Spec PyProof.Rows L2
/-- the empty set at D, of either kind -/
def New0 (P : Program) (w : World) (D : Addr) (o : HO) : Prop := o = SetS w D [] ∨ o = SetT P w D []
def AddO (K : PySem.W.Frag) (P : Program) (w : World) (D : Addr) (y : V) (H : Hp) (N : Hp → Prop) : Prop :=
  (∃ (k : Str) (xs : List Str), y = .str k ∧ H D = some (SetS w D xs) ∧ xs.length + 1 < 64 ∧ ∀ xs', AddS xs k xs' → N (upd H D (SetS w D xs'))) ∨
  (∃ (b : Addr) (k : List Str) (L : List (Addr × List Str)), y = .ref b ∧ SqT K H b (k.map V.str) ∧ H D = some (SetT P w D L) ∧ (∀ p ∈ L, SqT K H p.1 (p.2.map V.str)) ∧ L.length + 1 < 64 ∧ ∀ L', AddT L b k L' → N (upd H D (SetT P w D L')))
section
variable {X : Cx}
theorem set_add_by {P : Program} {w : World} {A : Around} {E : Value → Shared → Prop} {z : Shared} {D : Addr} {u : Value} {Q : Value → Shared → Prop} (hT : z.TypeIs (.ref D) "set") (h : wpAny (model P w) A.in1 (setAdd D u) (fun _ z' => Q .none z') E z) :
    wpAny (model P w) A (call (.builtin "set.add") [.ref D, u]) Q E z := by
  refine wpAny_call_entry F.slot_set_add hT F.entry_set_add ?_ (F.args_set_add_2 _ _)
  unfold Builtin.«set.add» Builtin.Frozenset.oneOther
  simp only [List.isEmpty_nil, bind_assoc]
  unfold Builtin.Frozenset.addrOf
  refine wpAny_bind (wpAny_pure ?_)
  try dsimp only
  refine wpAny_bind (wpAny_pure ?_)
  try dsimp only
  refine wpAny_bind ?_
  refine wpAny_mono h (fun b z' hz => ?_) fun _ _ e => e
  exact wpAny_pure ⟨_, rfl, hz⟩
theorem add_ok {pins : List (Addr × Obj)} {σ : L2.St} {H : Hp} {s : Shared} {E : Value → Shared → Prop} {D : Addr} {y : V} {u : Value} {N : Hp → Prop} {Q : Value → Shared → Prop} (I : Inv X pins σ H s) (hu : X.A.units + 64 < cLine)
    (h : AddO X.K X.prog X.w D y H N) (r : RelV y u) (hQ : ∀ s' H', Inv X pins σ H' s' → N H' → Q .none s') : wpAny (model X.prog X.w) X.A (call (.builtin "set.add") [.ref D, u]) Q E s := by
  rcases h with ⟨k, xs, rfl, hD, few, n⟩ | ⟨b, k, L, rfl, hb, hD, hk, few, n⟩
  · obtain ⟨tk, rfl⟩ := r
    obtain ⟨es, ep, t, R⟩ := setS_at I.hok hD
    obtain ⟨o, ho, hex, _⟩ := R.ob
    refine set_add_by ⟨o, ho, hex.1⟩ (setAdd_str R few fun c h' tk' xs' lk ⟨sb, R', p⟩ => ?_)
    have ex : ∃ u, h'.get? D = some u := by
      obtain ⟨_, _, _, q⟩ := R'
      obtain ⟨o', ho', _⟩ := q.ob
      exact ⟨o', ho'⟩
    exact hQ _ _ (I.write (x := D) (e := D) (t' := tk') (by rw [hD]; trivial) (.inl rfl) (fun c u hc hh => (sb.2 c hc).trans hh) ex (setS_ok R')) (n xs' p)
  · cases (show u = Value.ref b from r)
    obtain ⟨es, ep, t, R⟩ := setT_at I.hok hD
    obtain ⟨o, ho, hex, _⟩ := R.ob
    refine set_add_by ⟨o, ho, hex.1⟩ (setAdd_tup R (fun p hp => (tup_at I (hk p hp)).2) few (tup_at I hb).2 (by show X.A.units + 1 < cLine; omega) fun c h' tk' L' lk ⟨sb, R', p⟩ => ?_)
    have ex : ∃ u, h'.get? D = some u := by
      obtain ⟨_, _, _, q⟩ := R'
      obtain ⟨o', ho', _⟩ := q.ob
      exact ⟨o', ho'⟩
    exact hQ _ _ (I.write (x := D) (e := D) (t' := tk') (by rw [hD]; trivial) (.inl rfl) (fun c u hc hh => (sb.2 c hc).trans hh) ex (setT_ok R')) (n L' p)
end
end My

/-! MyTurns: the loop of a comprehension's block, whatever stands in its innermost place -/
namespace My
open PySem PySem.Spec PyProof.Rows L2
/-- a turn with `inner` in its innermost place -/
def turnOf (p : Pos) (tg : Expr) (ifs : List Expr) (inner : Sem Unit) (c : Code) (it : Value) (env : Env) : Sem Fin := do
  standAt p
  match ← pyNext it with
  | none => pure (.done .next)
  | some v =>
    letOwnedTupleGo tg it v
    assign tg env v
    let mut ok := true
    for c in ifs do
      if ok then ok ← isTrue c env (eval c env)
    if ok then inner
    again c
abbrev testsIn (ifs : List Expr) (env : Env) : Sem Bool := forIn ifs true fun c r => if r = true then do let ok ← isTrue c env (eval c env); pure (ForInStep.yield ok) else pure (ForInStep.yield r)
abbrev No : Value → Shared → Prop := fun _ _ => False
section
variable {P : Program} {w : World} {A : Around} {R : Result → Shared → Prop} {s : Shared}
theorem no_any {α : Type} {t : Sem α} {Q Q' : α → Shared → Prop} {E : Value → Shared → Prop} (h : wpAny (model P w) A t Q No s) (f : ∀ a z, Q a z → Q' a z) : wpAny (model P w) A t Q' E s := wpAny_mono h f fun _ _ z => z.elim
theorem loop_by {e tg : Expr} {k : Nat} {it acc : Value} {env : Env} {p : Pos} {ifs : List Expr} {inner : Sem Unit} (ht : compTurn e k it acc env = turnOf p tg ifs inner (.compLoop e k it acc env) it env)
    (hv : A.under (.compLoop e k it acc env) = A) (hd : (model P w).den (.compLoop e k it acc env) = (compTurn e k it acc env).onRaise fun x => do noteFrame x env; theTreesLotGoes x) (I : Nat → Shared → Prop)
    (turn : ∀ n z, I n z → wpAny (model P w) A (pyNext it) (fun r z1 => match r with
      | none => R (.ok .next) z1
      | some v => wpAny (model P w) A (letOwnedTupleGo tg it v) (fun _ z2 => wpAny (model P w) A (assign tg env v) (fun _ z3 => wpAny (model P w) A (testsIn ifs env) (fun ok z4 =>
          if ok = true then wpAny (model P w) A inner (fun _ z5 => ∃ m, m < n ∧ I m z5) No z4 else ∃ m, m < n ∧ I m z4) No z3) No z2) No z1) No z) (n : Nat) (h : I n s) :
    codeAny (model P w) A (.compLoop e k it acc env) R s := by
  refine codeAny_loop rfl I (fun n z hI => ?_) n h
  rw [hv, hd]
  refine wpAny_noted ?_
  rw [ht]
  unfold turnOf
  refine wpAny_bind (wpAny_standAt (wpAny_bind (no_any (turn n z hI) fun r z1 h1 => ?_)))
  cases r with
  | none => exact wpAny_pure h1
  | some v =>
    refine wpAny_bind (no_any h1 fun _ z2 h2 => wpAny_bind (no_any h2 fun _ z3 h3 => wpAny_bind (no_any h3 fun ok z4 h4 => ?_)))
    cases ok with
    | false => exact wpAny_pure ⟨rfl, h4⟩
    | true => exact wpAny_bind (no_any h4 fun _ z5 h5 => wpAny_pure ⟨rfl, h5⟩)
end
abbrev TIn := L2.St → Hp → (Hp → Prop) → Prop
/-- what stands in the innermost place keeps the slots but those of vs -/
def InnerOk (B : Cx) (vs : List Nat) (inner : Sem Unit) (ti : TIn) : Prop :=
  ∀ (pins : List (Addr × Obj)) (σ : L2.St) (H : Hp) (z : Shared) (N : Hp → Prop), Inv B pins σ H z → ti σ H N →
    wpAny (model B.prog B.w) B.A inner (fun _ z' => ∃ σ' H', Inv B pins σ' H' z' ∧ σ'.length = σ.length ∧ (∀ (j : Nat) (v : V), j ∉ vs → σ[j]? = some (some v) → σ'[j]? = some (some v)) ∧ N H') No z
/-- the turns of a walk, told by the abstract heap alone -/
def Turns (J : It) (g : TG) (tt : TT) (ti : TIn) (vs : List Nat) (σ : L2.St) (W : Nat → Nat → Hp → Prop) (Last : Hp → Prop) : Prop :=
  ∀ i m H, W i m H → (J.stop i H ∧ Last H) ∨ (J.go i H ∧ ∃ Nx : Hp → Prop, (∀ H', Nx H' → ∃ m', m' < m ∧ W (i + 1) m' H') ∧
    ∀ x H', J.yld i H x H' → g x (wipe σ vs) H' fun σ2 H2 => wipe σ2 vs = wipe σ vs ∧ tt σ2 H2 fun b H3 => if b = true then ti σ2 H3 Nx else Nx H3)
theorem block_walk {B : Cx} {tg e : Expr} {J : It} {fp : List Addr} {it : Addr} {tn : Nat → Heap → Prop} {g : TG} {tt : TT} {ti : TIn} {vs : List Nat} {ifs : List Expr} {inner : Sem Unit} {p : Pos} {k m0 : Nat} {acc : Value} {W : Nat → Nat → Hp → Prop} {Last : Hp → Prop}
    {pins : List (Addr × Obj)} {σ : L2.St} {H : Hp} {s : Shared} (hx : B.xe = No) (hc : B.calm = true) (T : Turn B.prog B.w B.K tg J fp it tn) (pg : PG B tg g) (pt : PTs B ifs tt) (pin : InnerOk B vs inner ti)
    (ht : compTurn e k (.ref it) acc B.env = turnOf p tg ifs inner (.compLoop e k (.ref it) acc B.env) (.ref it) B.env)
    (hv : B.A.under (.compLoop e k (.ref it) acc B.env) = B.A) (hd : (model B.prog B.w).den (.compLoop e k (.ref it) acc B.env) = (compTurn e k (.ref it) acc B.env).onRaise fun x => do noteFrame x B.env; theTreesLotGoes x)
    (stat : ∀ {σ' : L2.St} {H' : Hp} {z : Shared}, Inv B pins σ' H' z → (∀ b ∈ fp, H' b = none) → ∀ b ∈ fp, FpOk B pins H' b)
    (I0 : Inv B pins (wipe σ vs) H s) (st0 : tn 0 s.heap) (n0 : ∀ b ∈ fp, H b = none) (w0 : W 0 m0 H) (tu : Turns J g tt ti vs σ W Last) :
    codeAny (model B.prog B.w) B.A (.compLoop e k (.ref it) acc B.env) (fun r z => r = .ok .next ∧ ∃ H', Inv B pins (wipe σ vs) H' z ∧ Last H') s := by
  refine loop_by ht hv hd (fun n z => ∃ i G, Inv B pins (wipe σ vs) G z ∧ tn i z.heap ∧ (∀ b ∈ fp, G b = none) ∧ W i n G) ?_ m0 ⟨0, H, I0, st0, n0, w0⟩
  rintro n z ⟨i, G, IG, st, nf, hw⟩
  rcases tu i n G hw with ⟨stop, fin⟩ | ⟨go, Nx, hNx, step⟩
  · refine no_any (T.done B rfl rfl rfl hc i pins z _ G No IG (stat IG nf) st stop) fun r z1 ⟨hr, I1⟩ => ?_
    rw [hr]
    exact ⟨rfl, G, I1, fin⟩
  · refine no_any (T.item B rfl rfl rfl hc i pins z _ G No IG (stat IG nf) st go) fun r z1 ⟨u, hr, h1⟩ => ?_
    subst hr
    refine no_any h1 fun _ z2 ⟨x, G2, I2, r2, y2, st2, nf2⟩ => ?_
    have run1 := pg.run _ z2 _ G2 x u _ (I2.pinned (stat I2 nf2) (T.obj _ _ st2)) r2 (step x G2 y2)
    rw [hx] at run1
    refine no_any run1 fun _ z3 ⟨σ3, G3, I3, e3, q3⟩ => ?_
    have run2 := pt.run _ z3 σ3 G3 _ I3 q3
    rw [hx] at run2
    refine no_any run2 fun b z4 ⟨G4, I4, q4⟩ => ?_
    have back : ∀ {σ' : L2.St} {G' : Hp} {z' : Shared}, Inv B (pins ++ pinsAt fp z2.heap) σ' G' z' → σ'.length = σ3.length → (∀ (j : Nat) (v : V), j ∉ vs → σ3[j]? = some (some v) → σ'[j]? = some (some v)) → Nx G' →
        ∃ m, m < n ∧ ∃ i G, Inv B pins (wipe σ vs) G z' ∧ tn i z'.heap ∧ (∀ b ∈ fp, G b = none) ∧ W i m G := by
      intro σ' G' z' I' hl hk nx
      obtain ⟨m', hm, w'⟩ := hNx G' nx
      have held : ∀ b ∈ fp, ∀ o, z2.heap.get? b = some o → z'.heap.get? b = some o ∧ G' b = none := fun b hb o eo =>
        have q := I'.pin (b, o) (List.mem_append_right _ (List.mem_append_right _ (mem_pinsAt hb eo)))
        ⟨q.1, q.2.1⟩
      refine ⟨m', hm, i + 1, G', I'.unpinned.weak ?_ (fun j v ev => ?_), T.keep _ _ _ st2 fun b hb o eo => (held b hb o eo).1, fun b hb => ?_, w'⟩
      · rw [hl, ← e3, wipe_length]
      · rw [← e3] at ev
        obtain ⟨e1, e2⟩ := wipe_some ev
        exact hk j v e2 e1
      · obtain ⟨o, eo, _⟩ := T.obj _ _ st2 b hb
        exact (held b hb o eo).2
    cases b with
    | false =>
      rw [if_neg Bool.false_ne_true] at q4 ⊢
      exact back I4 rfl (fun j v _ e => e) q4
    | true =>
      rw [if_pos rfl] at q4 ⊢
      exact no_any (pin _ σ3 G4 z4 Nx I4 q4) fun _ z5 ⟨σ5, G5, I5, l5, k5, n5⟩ => back I5 l5 k5 n5
end My

/-! MyComp: set comprehensions of texts or of tuples of texts, one clause | two -/
namespace My
open PySem PySem.Spec PyProof.Rows L2
def tSet (P : Program) (w : World) (wi : TI) (g : TG) (tt : TT) (ti : Addr → TIn) (vs : List Nat) : TE := fun σ H Q =>
  wi σ H fun J H1 => ∀ D, H1 D = none → ∃ o0, New0 P w D o0 ∧ ∃ (W : Nat → Nat → Hp → Prop) (m0 : Nat), W 0 m0 (upd H1 D o0) ∧ Turns J g tt (ti D) vs σ W fun H' => Q (.ref D) H'
section
variable {X : Cx}
/-- what holds of a block, whatever its context is -/
abbrev InBlk (X : Cx) (scope : Scope) (F : Cx → Prop) : Prop := ∀ (s : Shared) (H : Hp) (C : Addr) (cl : List (Str × Addr)) (fp : List Addr), F (X.blk s H scope (compEnvC scope cl C X.env) fp)
theorem pe_set_of {elt tg iter : Expr} {ifs : List Expr} {rest : List Comprehension} {scope : Scope} {own : List (Str × Nat)} {pos : Pos} {wi : TI} {g : TG} {tt : TT} {ti : Addr → TIn} {inner : Value → Env → Sem Unit} (hc : X.calm = true) (hN : X.N.Nodup)
    (ht : ∀ it acc env, compTurn (.SetComp elt (⟨tg, iter, ifs, 0⟩ :: rest) scope pos) 0 it acc env = turnOf iter.pos tg ifs (inner acc env) (.compLoop (.SetComp elt (⟨tg, iter, ifs, 0⟩ :: rest) scope pos) 0 it acc env) it env)
    (hi : PI X tg iter wi) (ok : BlkOk X.N X.env.scope scope own) (hg : InBlk X scope fun B => PG B tg g) (htt : InBlk X scope fun B => PTs B ifs tt) (hin : InBlk X scope fun B => ∀ D : Addr, InnerOk B (own.map (·.2)) (inner (.ref D) B.env) (ti D))
    (hs : ∀ x, foldedSetIterable iter X.env x = pure x := by intro _; rfl) : PE X (.SetComp elt (⟨tg, iter, ifs, 0⟩ :: rest) scope pos) (tSet X.prog X.w wi g tt ti (own.map (·.2))) := by
  refine ⟨fun pins s σ H Q I h => ?_⟩
  rw [PpSet.eval_SetComp]
  have free : ∀ y ∈ scope.names, y.2 = .free → ∃ c, X.env.cells.lookup y.1 = some c := fun y hy e => I.ok.has _ (by
    rcases ok.free y hy e with k | k
    · exact .inl k
    · exact .inr k)
  refine wpAny_comprehension_free (use := none) rfl hs (closure_ok free) ok.kind (fun y hy e => by rw [ok.uniq y hy, e]) (thn (hi.run pins s σ H _ I h) fun xv z1 h1 => thn h1 fun itv z2 h2 => ?_)
  obtain ⟨it, fp, tn, J, H2, rfl, I2, T, st2, f2, q⟩ := h2
  refine PpSet.newSet_ok (newEnv_comp ?_)
  have hDn : H2 z2.heap.objs.size = none := I2.hok.fresh (Nat.le_refl _)
  obtain ⟨o0, hnew, W, m0, w0, tu⟩ := q _ hDn
  generalize hz3 : ({ z2 with heap := z2.heap.push { cls := .type "set", dict := none, data := .set #[] 0 (.fresh 0 0 (!X.w.params.followText "set-order")) } } : Shared) = z3
  have e3 : z3.heap = z2.heap.push (set0 X.w) := by rw [← hz3]
  have at3 : z3.heap.get? z2.heap.objs.size = some (set0 X.w) := by
    rw [e3]
    exact Heap.get?_push_size _ rfl
  have new : ObjOk X.prog X.w (upd H2 z2.heap.objs.size o0) z3.heap z2.heap.objs.size o0 := by
    rcases hnew with rfl | rfl
    · exact setS_ok ⟨_, _, _, tabS_new at3⟩
    · exact setT_ok ⟨_, _, _, tabT_new at3⟩
  have I3 : Inv X pins σ (upd H2 z2.heap.objs.size o0) z3 := by
    rw [← hz3] at new ⊢
    exact I2.laid (t' := z2.toks) (fun b o e => Heap.get?_push_of_some _ e) (Nat.le_refl _) new
  have f3 : ∀ b ∈ fp, FpOk X pins (upd H2 z2.heap.objs.size o0) b ∧ b < z3.heap.objs.size := fun b hb => by
    obtain ⟨o, eo, _⟩ := T.obj _ _ st2 b hb
    have lt := Heap.lt_size eo
    refine ⟨⟨?_, (f2 b hb).2⟩, ?_⟩
    · rw [upd_ne (Nat.ne_of_lt lt)]
      exact (f2 b hb).1
    · rw [e3, Heap.size_push]
      exact Nat.lt_succ_of_lt lt
  generalize z2.heap.objs.size = D at *
  have I4 := block_start I3 ok hN f3
  show codeAny _ _ (.compStart (.SetComp elt (⟨tg, iter, ifs, 0⟩ :: rest) scope pos) 0 (.ref it) (.ref D) (compEnvC scope (cellsFrom (z3.heap.objs.size + 1) scope.names (cloFrom X.env.cells scope.names [])) z3.heap.objs.size X.env)) (compPost (model X.prog X.w) X.A X.xe none (EP X pins σ Q) (.ref D) z3.heap.objs.size) { z3 with heap := pushCells (z3.heap.push { cls := .type "dict", data := .dict #[] }) scope.names }
  have qg := hg z3 (upd H2 D o0) z3.heap.objs.size (cellsFrom (z3.heap.objs.size + 1) scope.names (cloFrom X.env.cells scope.names [])) fp
  have qt := htt z3 (upd H2 D o0) z3.heap.objs.size (cellsFrom (z3.heap.objs.size + 1) scope.names (cloFrom X.env.cells scope.names [])) fp
  have qi := hin z3 (upd H2 D o0) z3.heap.objs.size (cellsFrom (z3.heap.objs.size + 1) scope.names (cloFrom X.env.cells scope.names [])) fp D
  dsimp only at qi
  generalize hce : compEnvC scope (cellsFrom (z3.heap.objs.size + 1) scope.names (cloFrom X.env.cells scope.names [])) z3.heap.objs.size X.env = ce at I4 qg qt qi ⊢
  have cL : ce.locals = z3.heap.objs.size := by
    rw [← hce]
    rfl
  generalize hz4 : ({ z3 with heap := pushCells (z3.heap.push { cls := .type "dict", data := .dict #[] }) scope.names } : Shared) = z4 at I4 ⊢
  have st4 : tn 0 z4.heap := T.keep _ _ _ st2 fun b _ o e => by
    rw [← hz4]
    refine pushCells_keeps _ _ _ _ (Heap.get?_push_of_some _ ?_)
    rw [e3]
    exact Heap.get?_push_of_some _ e
  have walk := block_walk (B := X.blk z3 (upd H2 D o0) scope ce fp) (k := 0) (acc := .ref D) rfl hc T qg qt qi (ht _ _ _) rfl rfl
    (fun {σ' H' z} I' hn b hb => ⟨hn b hb, (I'.ok.exf b hb).1, I'.ok.exfs b hb, .inl hb, fun x c e => (I'.ok.exf b hb).2 x c e, fun p hp => absurd (show p ∈ ([] : List (Addr × Obj)) ++ [] from hp) (by simp)⟩) I4 st4 (fun b hb => (f3 b hb).1.1) w0 tu
  have loop : codeAny (model X.prog X.w) X.A (.compLoop (.SetComp elt (⟨tg, iter, ifs, 0⟩ :: rest) scope pos) 0 (.ref it) (.ref D) ce) (compPost (model X.prog X.w) X.A X.xe none (EP X pins σ Q) (.ref D) z3.heap.objs.size) z4 := by
    refine codeAny_mono walk fun r z ⟨hr, G, IG, qG⟩ => ?_
    rw [hr]
    have IX : Inv X pins σ G z := I3.call' (ch := fp) IG.os IG.base IG.hok IG.bare fun b hb => ⟨(f3 b hb).1.2.2.2.1, (f3 b hb).1.2.1, (f3 b hb).1.2.2.2.2.1, (f3 b hb).1.2.2.2.2.2⟩
    have nC : G z3.heap.objs.size = none := by
      rw [← cL]
      exact IG.free
    obtain ⟨m, hn, _⟩ := IG.loc
    have hn : z.heap.Ns ce.locals m := hn
    rw [cL] at hn
    obtain ⟨k0, k1, k2, k3, k4, k5⟩ := I3.fpOk (Nat.le_refl _) nC
    exact ⟨m, hn, fun h' sb => ⟨.ref D, G, IX.turned (t' := z.toks) (fun b o hb e => (sb.2 b hb).trans e) k0 k1 k3 k4 k5, rfl, qG⟩⟩
  exact PpSet.codeAny_compStart_set loop (T.self X.A 0 _ _ _ st4 loop)
end
end My

/-! MyComp2: the innermost places -/
namespace My
open PySem PySem.Spec PyProof.Rows L2
section
variable {X : Cx}
def inAdd (elt : Expr) (acc : Value) (env : Env) : Sem Unit := do
  let v ← eval elt env
  standAt elt.pos
  let _ ← call (.builtin "set.add") [acc, v]
def tiAdd (K : PySem.W.Frag) (P : Program) (w : World) (te : TE) (D : Addr) : TIn := fun σ H N => te σ H fun y H4 => AddO K P w D y H4 N
theorem in_add {B : Cx} {elt : Expr} {te : TE} {D : Addr} {vs : List Nat} (hx : B.xe = No) (hu : B.A.units + 64 < cLine) (he : PE B elt te) : InnerOk B vs (inAdd elt (.ref D) B.env) (tiAdd B.K B.prog B.w te D) := by
  intro pins σ H z N I h
  unfold inAdd
  have run1 := he.run pins z σ H _ I h
  rw [hx] at run1
  refine wpAny_bind (no_any run1 fun u z1 ⟨y, H1, I1, r1, q1⟩ => wpAny_bind (wpAny_standAt ?_))
  exact wpAny_bind (add_ok I1 hu q1 r1 fun z2 H2 I2 n2 => wpAny_pure ⟨σ, H2, I2, rfl, fun _ _ _ e => e, n2⟩)
/-- {elt for tg in iter if ..} -/
theorem pe_sq {elt tg iter : Expr} {ifs : List Expr} {scope : Scope} {own : List (Str × Nat)} {pos : Pos} {wi : TI} {g : TG} {tt : TT} {te : TE} (hc : X.calm = true) (hN : X.N.Nodup) (hu : X.A.units + 64 < cLine)
    (hi : PI X tg iter wi) (ok : BlkOk X.N X.env.scope scope own) (hg : ∀ (s : Shared) (H : Hp) (C : Addr) (cl : List (Str × Addr)) (fp : List Addr), PG (X.blk s H scope (compEnvC scope cl C X.env) fp) tg g) (htt : ∀ (s : Shared) (H : Hp) (C : Addr) (cl : List (Str × Addr)) (fp : List Addr), PTs (X.blk s H scope (compEnvC scope cl C X.env) fp) ifs tt) (he : ∀ (s : Shared) (H : Hp) (C : Addr) (cl : List (Str × Addr)) (fp : List Addr), PE (X.blk s H scope (compEnvC scope cl C X.env) fp) elt te)
    (hs : ∀ x, foldedSetIterable iter X.env x = pure x := by intro _; rfl) : PE X (.SetComp elt [⟨tg, iter, ifs, 0⟩] scope pos) (tSet X.prog X.w wi g tt (tiAdd X.K X.prog X.w te) (own.map (·.2))) :=
  pe_set_of (inner := inAdd elt) hc hN (fun it acc env => rfl) hi ok hg htt (fun s H C cl fp D => in_add rfl hu (he s H C cl fp)) hs
def inTwo (elt t0 i0 t1 i1 : Expr) (ifs0 ifs1 : List Expr) (scope : Scope) (pos : Pos) (acc : Value) (env : Env) : Sem Unit := do
  let x ← eval i1 env
  standAt i1.pos
  let x ← foldedSetIterable i1 env x
  let _ ← runOwn (.compStart (.SetComp elt [⟨t0, i0, ifs0, 0⟩, ⟨t1, i1, ifs1, 0⟩] scope pos) 1 (← holding [x] (pyIter x)) acc env) env
def tiTwo (wi1 : TI) (g1 : TG) (tt1 : TT) (ti1 : Addr → TIn) (vs1 : List Nat) (D : Addr) : TIn := fun σ H N =>
  wi1 σ H fun J1 H4 => ∃ (W1 : Nat → Nat → Hp → Prop) (m1 : Nat), W1 0 m1 H4 ∧ Turns J1 g1 tt1 (ti1 D) vs1 σ W1 N
theorem turn_two (elt t0 i0 t1 i1 : Expr) (ifs0 ifs1 : List Expr) (scope : Scope) (pos : Pos) (it acc : Value) (env : Env) :
    compTurn (.SetComp elt [⟨t0, i0, ifs0, 0⟩, ⟨t1, i1, ifs1, 0⟩] scope pos) 0 it acc env = turnOf i0.pos t0 ifs0 (inTwo elt t0 i0 t1 i1 ifs0 ifs1 scope pos acc env) (.compLoop (.SetComp elt [⟨t0, i0, ifs0, 0⟩, ⟨t1, i1, ifs1, 0⟩] scope pos) 0 it acc env) it env := by
  unfold turnOf inTwo
  simp only [bind_assoc]
  rfl
theorem turn_two1 (elt t0 i0 t1 i1 : Expr) (ifs0 ifs1 : List Expr) (scope : Scope) (pos : Pos) (it acc : Value) (env : Env) :
    compTurn (.SetComp elt [⟨t0, i0, ifs0, 0⟩, ⟨t1, i1, ifs1, 0⟩] scope pos) 1 it acc env = turnOf i1.pos t1 ifs1 (inAdd elt acc env) (.compLoop (.SetComp elt [⟨t0, i0, ifs0, 0⟩, ⟨t1, i1, ifs1, 0⟩] scope pos) 1 it acc env) it env := rfl
theorem start_two {P : Program} {w : World} {A : Around} {R : Result → Shared → Prop} {s : Shared} {elt t0 i0 t1 i1 : Expr} {ifs0 ifs1 : List Expr} {scope : Scope} {pos : Pos} {it acc : Value} {env : Env}
    (h : codeAny (model P w) A (.compLoop (.SetComp elt [⟨t0, i0, ifs0, 0⟩, ⟨t1, i1, ifs1, 0⟩] scope pos) 1 it acc env) R s)
    (again : ∀ E, wpAny (model P w) A (pyIter it) (fun it' z => codeAny (model P w) A (.compLoop (.SetComp elt [⟨t0, i0, ifs0, 0⟩, ⟨t1, i1, ifs1, 0⟩] scope pos) 1 it' acc env) R z) E s) :
    codeAny (model P w) A (.compStart (.SetComp elt [⟨t0, i0, ifs0, 0⟩, ⟨t1, i1, ifs1, 0⟩] scope pos) 1 it acc env) R s := by
  refine codeAny_of_tree ?_
  show wpAny _ _ ((compStart (.SetComp elt [⟨t0, i0, ifs0, 0⟩, ⟨t1, i1, ifs1, 0⟩] scope pos) 1 it acc env).onRaise (fun x => do noteFrame x env; standAt theWindowsPlace)) _ _ s
  refine wpAny_notedAt ?_
  unfold compStart
  show wpAny _ _ (ask >>= _) _ _ s
  refine wpAny_bind (wpAny_askSetting (wpAny_ite ?_))
  split
  · first
      | exact wpAny_pure (And.intro rfl h)
      | exact wpAny_bind (wpAny_pure (wpAny_pure (And.intro rfl h)))
  · refine wpAny_bind (wpAny_rule ?_)
    first
      | exact wpAny_bind (wpAny_standAt (wpAny_bind (wpAny_mono (again _) (fun _ _ q => wpAny_pure (And.intro rfl q)) fun _ _ e => e)))
      | (show wpAny _ _ (standAt i1.pos >>= _) _ _ s
         exact wpAny_bind (wpAny_standAt (wpAny_bind (wpAny_mono (again _) (fun _ _ q => wpAny_pure (And.intro rfl q)) fun _ _ e => e))))
theorem in_two {B : Cx} {elt t0 i0 t1 i1 : Expr} {ifs0 ifs1 : List Expr} {scope : Scope} {pos : Pos} {te : TE} {D : Addr} {vs vs1 : List Nat} {wi1 : TI} {g1 : TG} {tt1 : TT} (hx : B.xe = No) (hc : B.calm = true) (hu : B.A.units + 64 < cLine) (hv : ∀ i ∈ vs1, i ∈ vs)
    (hi1 : PI B t1 i1 wi1) (hg1 : PG B t1 g1) (ht1 : PTs B ifs1 tt1) (he : PE B elt te) (hs1 : ∀ env x, foldedSetIterable i1 env x = pure x) :
    InnerOk B vs (inTwo elt t0 i0 t1 i1 ifs0 ifs1 scope pos (.ref D) B.env) (tiTwo wi1 g1 tt1 (tiAdd B.K B.prog B.w te) vs1 D) := by
  intro pins σ H z N I h
  unfold inTwo
  have run1 := hi1.run pins z σ H _ I h
  rw [hx] at run1
  refine wpAny_bind (no_any run1 fun u z1 h1 => wpAny_bind (wpAny_standAt (wpAny_bind (wpAny_of_eq (hs1 B.env u) (wpAny_bind (wpAny_holding (no_any h1 fun itv z2 h2 => ?_)))))))
  obtain ⟨it, fp, tn, J, H2, rfl, I2, T, st2, f2, W1, m1, w1, tu⟩ := h2
  refine wpAny_bind (wpAny_runOwn ?_ (by intro x; cases x))
  rw [Around.mark_none]
  have walk := block_walk (B := B) (k := 1) (acc := .ref D) (vs := vs1) (e := .SetComp elt [⟨t0, i0, ifs0, 0⟩, ⟨t1, i1, ifs1, 0⟩] scope pos) hx hc T hg1 ht1 (in_add hx hu he) (turn_two1 _ _ _ _ _ _ _ _ _ _ _ _) rfl rfl
    (fun {σ' H' z'} _ hn b hb => ⟨hn b hb, (f2 b hb).2⟩) (I2.weak (wipe_length σ vs1) fun j v e => (wipe_some e).1) st2 (fun b hb => (f2 b hb).1) w1 tu
  have walk' := codeAny_mono walk (R' := fun r z' => match r with
    | .ok f => wpAny (model B.prog B.w) B.A (pure () : Sem Unit) (fun _ z' => ∃ σ' H', Inv B pins σ' H' z' ∧ σ'.length = σ.length ∧ (∀ (j : Nat) (v : V), j ∉ vs → σ[j]? = some (some v) → σ'[j]? = some (some v)) ∧ N H') No z'
    | .error e => cameBackBy (model B.prog B.w) B.A B.env No e z') fun r z3 ⟨hr, G, IG, nG⟩ => by
      rw [hr]
      exact wpAny_pure ⟨_, G, IG, wipe_length σ vs1, fun j v hj e => by rw [wipe_out fun m => hj (hv j m)]; exact e, nG⟩
  exact start_two walk' fun E => T.self B.A 0 _ _ _ st2 walk'
/-- {elt for t0 in i0 if .. for t1 in i1 if ..} -/
theorem pe_sq2 {elt t0 i0 t1 i1 : Expr} {ifs0 ifs1 : List Expr} {scope : Scope} {own : List (Str × Nat)} {vs1 : List Nat} {pos : Pos} {wi wi1 : TI} {g g1 : TG} {tt tt1 : TT} {te : TE} (hc : X.calm = true) (hN : X.N.Nodup) (hu : X.A.units + 64 < cLine)
    (hi : PI X t0 i0 wi) (ok : BlkOk X.N X.env.scope scope own) (hv : ∀ i ∈ vs1, i ∈ own.map (·.2)) (hg : ∀ (s : Shared) (H : Hp) (C : Addr) (cl : List (Str × Addr)) (fp : List Addr), PG (X.blk s H scope (compEnvC scope cl C X.env) fp) t0 g) (ht : ∀ (s : Shared) (H : Hp) (C : Addr) (cl : List (Str × Addr)) (fp : List Addr), PTs (X.blk s H scope (compEnvC scope cl C X.env) fp) ifs0 tt)
    (hi1 : ∀ (s : Shared) (H : Hp) (C : Addr) (cl : List (Str × Addr)) (fp : List Addr), PI (X.blk s H scope (compEnvC scope cl C X.env) fp) t1 i1 wi1) (hg1 : ∀ (s : Shared) (H : Hp) (C : Addr) (cl : List (Str × Addr)) (fp : List Addr), PG (X.blk s H scope (compEnvC scope cl C X.env) fp) t1 g1) (ht1 : ∀ (s : Shared) (H : Hp) (C : Addr) (cl : List (Str × Addr)) (fp : List Addr), PTs (X.blk s H scope (compEnvC scope cl C X.env) fp) ifs1 tt1) (he : ∀ (s : Shared) (H : Hp) (C : Addr) (cl : List (Str × Addr)) (fp : List Addr), PE (X.blk s H scope (compEnvC scope cl C X.env) fp) elt te)
    (hs : ∀ x, foldedSetIterable i0 X.env x = pure x := by intro _; rfl) (hs1 : ∀ env x, foldedSetIterable i1 env x = pure x := by intro _ _; rfl) :
    PE X (.SetComp elt [⟨t0, i0, ifs0, 0⟩, ⟨t1, i1, ifs1, 0⟩] scope pos) (tSet X.prog X.w wi g tt (tiTwo wi1 g1 tt1 (tiAdd X.K X.prog X.w te) vs1) (own.map (·.2))) :=
  pe_set_of (inner := inTwo elt t0 i0 t1 i1 ifs0 ifs1 scope pos) hc hN (fun it acc env => turn_two _ _ _ _ _ _ _ _ _ _ _ _) hi ok hg ht
    (fun s H C cl fp D => in_two rfl hc hu hv (hi1 s H C cl fp) (hg1 s H C cl fp) (ht1 s H C cl fp) (he s H C cl fp) hs1) hs
end
end My

/-! MyPairs: dict(a tuple of pairs); tuples whose object is known -/
namespace My
open PySem PySem.Spec PyProof.Rows L2
/-- a tuple of ys at a, its own object known -/
def KTup (a : Addr) (ys : List V) (o : HO) : Prop := ∃ (its : List Value) (n : Nat), o = .frz { cls := .type "tuple", data := .seq its.toArray n } (.tup ys)
theorem KTup.rd {K : PySem.W.Frag} {H : Hp} {a : Addr} {ys : List V} {o : HO} (h : KTup a ys o) (e : H a = some o) : SqT K H a ys := by
  obtain ⟨its, n, rfl⟩ := h
  exact .inl (.inr ⟨_, e⟩)
section
variable {X : Cx}
theorem ktup_new {P : Program} {w : World} {H : Hp} {h : Heap} {ys : List V} {its : List Value} {a : Addr} {n : Nat} (hz : ys.length ≤ sizeLine) (r : Vals ys its) (e : h.get? a = some { cls := .type "tuple", data := .seq its.toArray n }) :
    ObjOk P w H h a (.frz { cls := .type "tuple", data := .seq its.toArray n } (.tup ys)) := ⟨e, hz, its, r, ⟨_, e, rfl, _, rfl⟩⟩
/-- tuple(xs) of a list: a new one, known -/
def rTupK (K : PySem.W.Frag) : List V → Hp → VK → Prop := fun xs H Q => ∃ p ys, xs = [.ref p] ∧ SqL K H p ys ∧ ∀ (l : Addr) (o : HO), H l = none → KTup l ys o → Q (.ref l) (upd H l o)
theorem call_tupK : CallR X (.type "tuple") (rTupK X.K) := by
  intro pins s σ H xs us Q I r h
  obtain ⟨p, ys, rfl, hq, q⟩ := h
  obtain ⟨u, rfl, rx⟩ := vals1 r
  cases (show u = Value.ref p from rx)
  obtain ⟨its, r', pl, hz⟩ := I.list hq
  have hl := r'.length
  refine call_tuple_list pl.isList (fun h' kp => ?_) (by simp only [List.size_toArray]; omega)
  have I1 : Inv X pins σ H { s with heap := h' } := I.kept (t' := s.toks) kp
  exact ⟨.ref h'.objs.size, _, I1.laid (t' := s.toks) (fun b o e => Heap.get?_push_of_some _ e) (Nat.le_refl _) (ktup_new hz r' (Heap.get?_push_size _ rfl)), rfl, q _ _ (I1.hok.fresh (Nat.le_refl _)) ⟨_, _, rfl⟩⟩
/-- (), known -/
def tTup0 : TE := fun _ H Q => ∀ (p : Addr) (o : HO), H p = none → KTup p [] o → Q (.ref p) (upd H p o)
theorem pe_tup0 {k : Nat} {pos : Pos} : PE X (.Tuple [] k pos) tTup0 := by
  refine ⟨fun pins s σ H Q I hq => ?_⟩
  refine wpAny_Tuple_spliced (thn (pa_nil.run pos pins s σ H (fun vs H' => vs = [] ∧ H' = H) I ⟨rfl, rfl⟩) fun us s1 ⟨xs, H1, I1, r, e1, e2⟩ => ?_)
  subst e1 e2
  cases r
  refine ⟨by show 0 ≤ sizeLine; decide, ?_⟩
  exact ⟨.ref s1.heap.objs.size, _, I1.laid (t' := s1.toks) (fun b u e => Heap.get?_push_of_some _ e) (Nat.le_refl _) (ktup_new (Nat.zero_le _) .nil (Heap.get?_push_size _ rfl)), rfl, hq _ _ (I1.hok.fresh (Nat.le_refl _)) ⟨_, _, rfl⟩⟩
theorem pairs_vals {pins : List (Addr × Obj)} {σ : L2.St} {H : Hp} {s : Shared} (I : Inv X pins σ H s) : ∀ {ps : List Addr} {kvs : List (Key × V)}, Paired (fun p kv => SqT X.K H p [kV kv.1, kv.2]) ps kvs →
    ∃ (prs : List (Key × Value)) (pv : List (Value × Value)), KV kvs prs ∧ pv.length = ps.length ∧ prs.length = ps.length ∧
      ∀ (j : Nat) (k v : Value), pv[j]? = some (k, v) → (∃ b, ps[j]? = some b ∧ IsTup s.heap b #[k, v]) ∧ ∃ q, prs[j]? = some (q, v) ∧ keyIs q k = true
  | _, _, .nil => ⟨[], [], .nil, rfl, rfl, fun j k v e => by simp at e⟩
  | _, _, .cons (a := p) (b := kv) h t => by
    obtain ⟨prs, pv, r, l1, l2, hp⟩ := pairs_vals I t
    obtain ⟨its, rv, ht, _⟩ := I.tuple h
    obtain ⟨u, y, rfl, ru, ry⟩ := vals2 rv
    refine ⟨(kv.1, y) :: prs, (u, y) :: pv, .cons ⟨rfl, ry⟩ r, congrArg Nat.succ l1, congrArg Nat.succ l2, fun j k v e => ?_⟩
    cases j with
    | zero =>
      obtain ⟨rfl, rfl⟩ := Prod.mk.inj (Option.some.inj e)
      exact ⟨⟨p, rfl, ht⟩, kv.1, rfl, kV_is (P := X.prog) (w := X.w) ru⟩
    | succ j =>
      obtain ⟨⟨b, e1, e2⟩, q, e3, e4⟩ := hp j k v e
      exact ⟨⟨b, e1, e2⟩, q, e3, e4⟩
/-- dict(xs) of a tuple of pairs -/
def rDictT (K : PySem.W.Frag) : List V → Hp → VK → Prop := fun xs H Q => ∃ (a : Addr) (ps : List Addr) (kvs : List (Key × V)) (o : HO), xs = [.ref a] ∧ H a = some o ∧ KTup a (ps.map V.ref) o ∧ Paired (fun p kv => SqT K H p [kV kv.1, kv.2]) ps kvs ∧
  ∀ p, H p = none → Q (.ref p) (upd H p (.dK (mergeK [] kvs)))
theorem call_dictT (hc : X.calm = true) : CallR X (.type "dict") (rDictT X.K) := by
  intro pins s σ H xs us Q I r h
  obtain ⟨a, ps, kvs, o, rfl, ha, hk, hp, q⟩ := h
  obtain ⟨u, rfl, rx⟩ := vals1 r
  cases (show u = Value.ref a from rx)
  obtain ⟨its, n, rfl⟩ := hk
  obtain ⟨hob, hz, its', r', it⟩ := I.hok a _ ha
  obtain ⟨o', ho', hc', n', hd'⟩ := it
  rw [hob] at ho'
  cases ho'
  have ei : its = its' := by
    have z := congrArg (fun d : Data => match d with | .seq xs _ => xs.toList | _ => []) hd'
    simpa using z
  subst ei
  have er := refs_at r'
  obtain ⟨prs, pv, rel, l1, l2, hpv⟩ := pairs_vals I hp
  have cnt : its.length = ps.length := by rw [er, List.length_map]
  have hz' : ps.length ≤ sizeLine := by rw [← List.length_map (f := V.ref)]; exact hz
  refine PySem.call_dict_pairs (knd := mixKind X.prog X.w) (kvs := prs) (PySem.PairArg.tuple a its.toArray (fun j => ps.getD j 0) pv) (I.ok.hd hc) ⟨⟨_, _, hob, rfl, rfl, rfl⟩, ⟨by rw [List.size_toArray, cnt, l1], fun j k v e => ?_⟩⟩ ⟨by rw [l1, l2], fun i k v e => ?_⟩ (by rw [l1]; exact hz') fun h' tk hd kp => ?_
  · obtain ⟨⟨b, e1, e2⟩, _⟩ := hpv j k v e
    have eb : ps.getD j 0 = b := by rw [List.getD_eq_getElem?_getD, e1]; rfl
    refine ⟨?_, .inl ?_⟩
    · show its.toArray[j]? = some (Value.ref (ps.getD j 0))
      rw [eb, er]
      simp [e1]
    · show s.heap.IsTuple (ps.getD j 0) #[k, v]
      rw [eb]
      exact e2
  · obtain ⟨_, qk, e3, e4⟩ := hpv i k v e
    exact ⟨qk, e3, e4⟩
  · have hm : (s.heap.objs.size == sysModules) = false := beq_eq_false_iff_ne.mpr (Nat.ne_of_gt I.big)
    have hlen : (mergeK [] kvs).length ≤ sizeLine := by
      refine Nat.le_trans (length_mergeK kvs []) ?_
      rw [List.length_nil, Nat.zero_add, rel.length, l2]
      exact hz'
    exact ⟨.ref s.heap.objs.size, _, I.laid (t' := tk) (fun b o e => kp b o (fun z => nomatch z) e) (Nat.le_refl _) (show ObjOk X.prog X.w _ _ _ (.dK (mergeK [] kvs)) from ⟨hlen, hm, merged [] prs, KV.merge rel .nil, hd⟩), rfl, q _ (I.hok.fresh (Nat.le_refl _))⟩
end
end My

/-! MyTxt: turns over a tuple or a list; small words -/
namespace My
open PySem PySem.Spec PyProof.Rows L2
theorem turns_tup {K : PySem.W.Frag} {a : Addr} {xs : List V} {g : TG} {tt : TT} {ti : TIn} {vs : List Nat} {σ : L2.St} {Last : Hp → Prop} (Pv : Nat → Hp → Prop) (hl : ∀ i H, i ≤ xs.length → Pv i H → SqT K H a xs)
    (hs : ∀ i x H, xs[i]? = some x → Pv i H → g x (wipe σ vs) H fun σ2 H2 => wipe σ2 vs = wipe σ vs ∧ tt σ2 H2 fun b H3 => if b = true then ti σ2 H3 (Pv (i + 1)) else Pv (i + 1) H3) (hd : ∀ H, Pv xs.length H → Last H) :
    Turns (Itt K a) g tt ti vs σ (fun i m H => m = xs.length - i ∧ i ≤ xs.length ∧ Pv i H) Last := by
  rintro i m H ⟨rfl, hi, p⟩
  have q := hl i H hi p
  rcases Nat.lt_or_eq_of_le hi with lt | rfl
  · refine .inr ⟨⟨xs, xs[i], q, List.getElem?_eq_getElem lt⟩, Pv (i + 1), fun H' p' => ⟨xs.length - (i + 1), by omega, rfl, lt, p'⟩, ?_⟩
    rintro x H' ⟨rfl, y⟩
    exact hs i x _ (y xs q) p
  · exact .inl ⟨⟨xs, q, Nat.le_refl _⟩, hd H p⟩
theorem turns_list {K : PySem.W.Frag} {a : Addr} {xs : List V} {g : TG} {tt : TT} {ti : TIn} {vs : List Nat} {σ : L2.St} {Last : Hp → Prop} (Pv : Nat → Hp → Prop) (hl : ∀ i H, i ≤ xs.length → Pv i H → SqL K H a xs)
    (hs : ∀ i x H, xs[i]? = some x → Pv i H → g x (wipe σ vs) H fun σ2 H2 => wipe σ2 vs = wipe σ vs ∧ tt σ2 H2 fun b H3 => if b = true then ti σ2 H3 (Pv (i + 1)) else Pv (i + 1) H3) (hd : ∀ H, Pv xs.length H → Last H) :
    Turns (Itl K a) g tt ti vs σ (fun i m H => m = xs.length - i ∧ i ≤ xs.length ∧ Pv i H) Last := by
  rintro i m H ⟨rfl, hi, p⟩
  have q := hl i H hi p
  rcases Nat.lt_or_eq_of_le hi with lt | rfl
  · refine .inr ⟨⟨xs, xs[i], q, List.getElem?_eq_getElem lt⟩, Pv (i + 1), fun H' p' => ⟨xs.length - (i + 1), by omega, rfl, lt, p'⟩, ?_⟩
    rintro x H' ⟨rfl, y⟩
    exact hs i x _ (y xs q) p
  · exact .inl ⟨⟨xs, q, Nat.le_refl _⟩, hd H p⟩

/-! ### words -/
open TL (tl joinL join_eq tl_join)
def six : List Nat := [97, 98, 99, 109, 121, 122]
/-- a drawn word | a word of a pool -/
structure Wd0 (x : Str) : Prop where
  pos : 0 < (tl x).length
  few : (tl x).length ≤ 8
  of : ∀ c ∈ tl x, c ∈ six
structure Wd (x : Str) : Prop where
  pos : 0 < (tl x).length
  few : (tl x).length ≤ 8
  of : ∀ c ∈ tl x, c ∈ 113 :: six
theorem Wd0.wd {x : Str} (h : Wd0 x) : Wd x := ⟨h.pos, h.few, fun c m => List.mem_cons_of_mem _ (h.of c m)⟩
theorem joinL_ones : ∀ ps : List Nat, joinL [] (ps.map fun c => [c]) = ps
  | [] => rfl
  | [c] => rfl
  | c :: d :: r => by
    show [c] ++ ([] ++ joinL [] ((d :: r).map fun c => [c])) = _
    rw [joinL_ones (d :: r)]
    rfl
theorem tl_joined (ps : List Nat) : tl (Txt.join "" (ps.map fun c => ⟨#[c]⟩)) = ps := by
  rw [join_eq, tl_join, List.map_map]
  exact joinL_ones ps
/-- how many q's stand at the end -/
def tq (x : Str) : Nat := ((tl x).reverse.takeWhile (· == 113)).length
theorem tq_zero {x : Str} (h : Wd0 x) : tq x = 0 := by
  unfold tq
  cases e : (tl x).reverse with
  | nil => rfl
  | cons c r =>
    have m : c ∈ tl x := List.mem_reverse.mp (by rw [e]; exact List.mem_cons_self)
    have n : (c == 113) = false := by
      have z := h.of c m
      cases q : c == 113 with
      | false => rfl
      | true =>
        rw [eq_of_beq q] at z
        exact absurd z (by decide)
    rw [List.takeWhile_cons, n]
    rfl
theorem tq_snoc {x y : Str} (h : tl y = tl x ++ [113]) : tq y = tq x + 1 := by
  unfold tq
  rw [h, List.reverse_append]
  rfl
theorem takeWhile_dropLast {p : Nat → Bool} : ∀ {l : List Nat}, (l.takeWhile p).length < l.length → (l.dropLast.takeWhile p) = l.takeWhile p
  | [], h => absurd h (by simp)
  | [c], h => by
    by_cases e : p c = true
    · simp [e] at h
    · simp [e]
  | c :: d :: r, h => by
    rw [List.dropLast_cons_of_ne_nil (List.cons_ne_nil _ _)]
    by_cases e : p c = true
    · rw [List.takeWhile_cons_of_pos e] at h
      rw [List.takeWhile_cons_of_pos e, List.takeWhile_cons_of_pos e, takeWhile_dropLast (by simpa using h)]
    · rw [List.takeWhile_cons_of_neg e, List.takeWhile_cons_of_neg e]
theorem tq_shift {x y : Str} (h : tl y = (tl x).drop 1 ++ [113]) (lt : tq x < (tl x).length) : tq y = tq x + 1 := by
  unfold tq at lt ⊢
  have e : (tl y).reverse = 113 :: (tl x).reverse.dropLast := by
    rw [h, List.reverse_append, List.dropLast_reverse, List.drop_one]
    rfl
  rw [e, List.takeWhile_cons_of_pos rfl, takeWhile_dropLast (by rw [List.length_reverse]; exact lt)]
  rfl
end My

/-! GW: drawn words, pools of unlike words -/
namespace My
open PySem PySem.Spec PyProof.Rows L2
open TL (tl)
def spWord : Sp := fun vs H Q _ => ∃ (d l : Addr) (ns : List Int) (k : Nat), vs = [.ref d] ∧ Deck H d l ns k ∧ ns.length ≤ 63 ∧ k + 10 < 1073741824 ∧ ∀ (x : Str) (H' : Hp), Wd0 x → Deck H' d l ns (k + 9) → Fr d H H' → Q (.str x) H'
theorem ones_sum : ∀ cs : List Nat, ((cs.map fun c => (⟨#[c]⟩ : Str)).map (·.length)).sum = cs.length
  | [] => rfl
  | c :: r => by
    rw [List.map_cons, List.map_cons, List.sum_cons, ones_sum r, List.length_cons]
    show 1 + _ = _
    omega
theorem Fr.upd_new {d b : Addr} {H H2 H4 : Hp} {o : HO} (f2 : Fr d H H2) (f4 : Fr d H H4) (n : H2 b = none) (hd : b ≠ d) : Fr d H (upd H4 b o) := fun c u hc h => by
  have cb : c ≠ b := fun e => by
    have z := f2 b u hd (by rw [← e]; exact h)
    rw [n] at z
    cases z
  rw [upd_ne cb]
  exact f4 c u hc h
section
variable {P : Program} {w : World} {K : PySem.W.Frag} {mg : Str → Option Value} {base : Heap}
theorem scWord : FnScope ["_law_deck_here", "_law_size", "_law_k"] ["_law_deck_here"] (defScope sWord) := ⟨rfl, rfl, rfl, by decide +kernel, rfl, by decide +kernel, by decide +kernel⟩
theorem ok_word {f fO : Addr} {fd fdO : FuncData} (F : Fun K "_law_word" "_law_word" sWord f fd) (B : Blt mg) (GO : FnOk P w K mg base CX0 2 fO fdO ["_law_deck_here", "_law_items"] (spOne K)) (mO : mg "_law_one" = some (.ref fO))
    (kO : PySem.W.keepIn K (.ref fO) = true) (bO : Binds K fdO ["_law_deck_here", "_law_items"] []) : FnOk P w K mg base CX0 3 f fd ["_law_deck_here"] spWord := by
  refine F.ok scWord (fun vs H Q E h => ?_) (fun cdv A outer s H vs Q E hr h => ?_)
  · obtain ⟨d, l, ns, k, rfl, _⟩ := h
    rfl
  · obtain ⟨d, l, ns, k, rfl, D, hn, hk, q⟩ := h
    refine ⟨_, pss_cons (ps_set (i := 1) scWord.nd rfl (Or.inl rfl) (pe_call GO hr rfl mO kO bO .nil pass0 (pa_cons (pv 0) (pa_cons (pe_lst (pa_cons pe_int (pa_cons pe_int (pa_cons pe_int (pa_cons pe_int (pa_cons pe_int pa_nil)))))) pa_nil))))
      (pss_one (ps_ret (pe_join pe_str (pe_lc (own := [("_law_k", 2)]) (g := gName 2) (tt := tYes) rfl scWord.nd (pi_range1 rfl B.range (pa_cons (pv 1) pa_nil)) (blkOk_by (own := [("_law_k", 2)]) (N := ["_law_deck_here", "_law_size", "_law_k"]) (sc := defScope sWord) (by decide +kernel))
        (fun _ _ _ _ _ => pg_name (i := 2) scWord.nd rfl (Or.inl rfl)) (fun _ _ _ _ _ => pts_nil) (fun _ _ _ _ _ => pe_call GO (hr.mono (by decide)) rfl mO kO bO .nil pass0 (pa_cons (pv 0) (pa_cons pe_str pa_nil))))))), ?_⟩
    refine ⟨_, rfl, (by show 5 ≤ sizeLine; decide), fun p np => ?_⟩
    have pd : p ≠ d := (D.nd np).1
    have D1 : Deck (upd H p (.lst [.int 1, .int 1, .int 2, .int 3, .int 8])) d l ns k := D.same (same_new np)
    refine ⟨d, l, ns, k, .ref p, rfl, D1, hn, by omega, .inl ⟨p, _, rfl, pd, .inl (.inl (.inl (off_at pd upd_same))), List.cons_ne_nil _ _, by decide, fun j v H2 hj D2 f2 => ?_⟩⟩
    obtain ⟨n, rfl, n1, n8⟩ : ∃ n : Nat, v = .int (n : Int) ∧ 0 < n ∧ n ≤ 8 := by
      match j, hj with
      | 0, hj => exact ⟨1, (Option.some.inj hj).symm, by decide, by decide⟩
      | 1, hj => exact ⟨1, (Option.some.inj hj).symm, by decide, by decide⟩
      | 2, hj => exact ⟨2, (Option.some.inj hj).symm, by decide, by decide⟩
      | 3, hj => exact ⟨3, (Option.some.inj hj).symm, by decide, by decide⟩
      | 4, hj => exact ⟨8, (Option.some.inj hj).symm, by decide, by decide⟩
      | n + 5, hj => simp at hj
    have fr2 : Fr d H H2 := (same_fr (same_new np)).trans f2
    refine ⟨⟨_, rfl⟩, _, rfl, (n : Int), rfl, by omega, by omega, fun Dn nD => ?_⟩
    obtain ⟨Dd, Dl⟩ := D2.nd nD
    refine lc_range (lo := 0) (n := (n : Int).toNat) (fun t H3 => ∃ cs : List Nat, H3 Dn = some (.lst (cs.map fun c => V.str ⟨#[c]⟩)) ∧ cs.length = t ∧ (∀ c ∈ cs, c ∈ six) ∧ Deck H3 d l ns (k + 1 + t) ∧ Fr d H H3) ⟨[], upd_same, rfl, (fun c m => nomatch m), D2.same (same_new nD), fr2.trans (same_fr (same_new nD))⟩ ?_ ?_
    · rintro t H3 ht ⟨cs, h1, h2, h3, h4, h5⟩
      refine ⟨rfl, ?_⟩
      dsimp only [tYes]
      rw [if_pos rfl]
      refine ⟨_, rfl, d, l, ns, k + 1 + t, _, rfl, h4, hn, by omega, .inr ⟨_, rfl, by decide, by decide, fun c H4 hc D4 f4 => ?_⟩⟩
      refine ⟨cs.map fun c => V.str ⟨#[c]⟩, f4 _ _ Dd h1, by rw [List.length_map, sizeLine_eq]; omega, cs ++ [c], ?_, by rw [List.length_append, h2]; rfl, fun c' m => ?_, D4.upd Dd Dl, Fr.upd_new fr2 (h5.trans f4) nD Dd⟩
      · rw [upd_same, List.map_append]
        rfl
      · rcases List.mem_append.mp m with m | m
        · exact h3 c' m
        · rw [List.mem_singleton.mp m]
          revert hc
          exact fun z => z
    · rintro H3 ⟨cs, h1, h2, h3, h4, h5⟩
      have hn' : cs.length = n := by rw [h2]; rfl
      refine ⟨_, Dn, cs.map fun c => ⟨#[c]⟩, rfl, rfl, .inl (.inl (.inl (by rw [List.map_map]; exact h1))), ?_, ?_⟩
      · rw [ones_sum, List.length_map]
        show cs.length + cs.length * 0 ≤ 16777216
        omega
      · refine q _ _ ⟨?_, ?_, ?_⟩ (h4.mono (by omega)) h5
        · rw [tl_joined]
          omega
        · rw [tl_joined]
          omega
        · rw [tl_joined]
          exact h3
end
end My

/-! GP: pools of unlike words -/
namespace My
open PySem PySem.Spec PyProof.Rows L2
open TL (tl len_tl tl_append)
theorem inV_strs (x : Str) : ∀ xs : List Str, inV (.str x) (xs.map V.str) = decide (x ∈ xs)
  | [] => rfl
  | y :: r => by
    have ih := inV_strs x r
    unfold inV at ih ⊢
    rw [List.map_cons, List.any_cons, ih]
    show ((y == x) || _) = _
    by_cases e : y = x
    · subst e
      simp
    · have n : (y == x) = false := beq_eq_false_iff_ne.mpr e
      have n2 : ¬ x = y := fun z => e z.symm
      simp [n, n2]
theorem flat_strs (xs : List Str) : (xs.map V.str).all flatV = true := by
  rw [List.all_eq_true]
  intro v hv
  obtain ⟨x, _, rfl⟩ := List.mem_map.mp hv
  rfl
theorem tl_cut1 {x : Str} (h : 0 < (tl x).length) : tl (cutS x (some 1) none) = (tl x).drop 1 := by
  have e : x.length = (tl x).length := len_tl x
  unfold cutS
  rw [HT.sIx_none, show HT.sIx x.length 0 (some 1) = min 1 x.length from HT.sIx_nat x.length 0 1, e, Nat.min_eq_left h]
  show ((tl x).drop 1).take _ = _
  exact List.take_of_length_le (by rw [List.length_drop]; exact Nat.le_refl _)
theorem wd_cut {x y : Str} (h : Wd x) (e : tl y = (tl x).drop 1 ++ [113]) : Wd y := by
  have z := h.few
  have z2 := h.pos
  refine ⟨by rw [e, List.length_append]; exact Nat.succ_pos _, ?_, fun c m => ?_⟩
  · rw [e, List.length_append, List.length_drop]
    show _ + 1 ≤ 8
    omega
  · rw [e] at m
    rcases List.mem_append.mp m with m | m
    · exact h.of c (List.mem_of_mem_drop m)
    · rw [List.mem_singleton.mp m]
      exact List.mem_cons_self
theorem wd_snoc {x y : Str} (h : Wd x) (l : (tl x).length < 8) (e : tl y = tl x ++ [113]) : Wd y := by
  refine ⟨by rw [e, List.length_append]; exact Nat.succ_pos _, ?_, fun c m => ?_⟩
  · rw [e, List.length_append]
    exact l
  · rw [e] at m
    rcases List.mem_append.mp m with m | m
    · exact h.of c m
    · rw [List.mem_singleton.mp m]
      exact List.mem_cons_self
/-- how many of the words have i or more q's at their ends -/
def over (i : Nat) (xs : List Str) : Nat := xs.countP fun x => decide (i ≤ tq x)
theorem over_lt {i : Nat} {x : Str} : ∀ {xs : List Str}, x ∈ xs → tq x = i → over (i + 1) xs + 1 ≤ over i xs
  | y :: r, m, e => by
    have le : over (i + 1) r ≤ over i r := List.countP_mono_left fun z _ h => by
      simp only [decide_eq_true_eq] at h ⊢
      omega
    unfold over at le ⊢
    rw [List.countP_cons, List.countP_cons]
    rcases List.mem_cons.mp m with rfl | m
    · have h1 : decide (i ≤ tq x) = true := decide_eq_true (by omega)
      have h2 : decide (i + 1 ≤ tq x) = false := decide_eq_false (by omega)
      rw [h1, h2]
      simp only [if_true, Bool.false_eq_true, if_false]
      omega
    · have ih := over_lt m e
      unfold over at ih
      by_cases h1 : i + 1 ≤ tq y
      · have h2 : i ≤ tq y := by omega
        simp only [h1, h2, decide_true, if_true]
        omega
      · simp only [h1, decide_false, Bool.false_eq_true, if_false]
        omega
def spPool : Sp := fun vs H Q _ => ∃ (d l : Addr) (ns : List Int) (k m : Nat), vs = [.ref d, .int (m : Int)] ∧ m < 8 ∧ Deck H d l ns k ∧ ns.length ≤ 63 ∧ k + 100 < 1073741824 ∧
  ∀ (p : Addr) (xs : List Str) (H' : Hp), xs.length = m → xs.Nodup → (∀ x ∈ xs, Wd x) → H p = none → H' p = some (.lst (xs.map V.str)) → Deck H' d l ns (k + 9 * m) → Fr d H H' → Q (.ref p) H'
section
variable {P : Program} {w : World} {K : PySem.W.Frag} {mg : Str → Option Value} {base : Heap}
theorem scPool : FnScope ["_law_deck_here", "_law_many", "_law_found", "_law_word_here"] ["_law_deck_here", "_law_many"] (defScope sPool) := ⟨rfl, rfl, rfl, by decide +kernel, rfl, by decide +kernel, by decide +kernel⟩
theorem ok_pool {f fW : Addr} {fd fdW : FuncData} (F : Fun K "_law_pool" "_law_pool" sPool f fd) (B : Blt mg) (GW : FnOk P w K mg base CX0 3 fW fdW ["_law_deck_here"] spWord) (mW : mg "_law_word" = some (.ref fW))
    (kW : PySem.W.keepIn K (.ref fW) = true) (bW : Binds K fdW ["_law_deck_here"] []) : FnOk P w K mg base CX0 4 f fd ["_law_deck_here", "_law_many"] spPool := by
  refine F.ok scPool (fun vs H Q E h => ?_) (fun cdv A outer s H vs Q E hr h => ?_)
  · obtain ⟨d, l, ns, k, m, rfl, _⟩ := h
    rfl
  · obtain ⟨d, l, ns, k, m, rfl, hm, D, hn, hk, q⟩ := h
    refine ⟨_, pss_cons (ps_set (i := 2) scPool.nd rfl (Or.inl rfl) (pe_lst pa_nil))
      (pss_cons (ps_while PassesOwn.never (pt_cmpR op_lt (pe_callB call_len_seq (by rfl) B.len PySem.boot_len (pa_cons (pv 2) pa_nil)) (pv 1) (nomark _))
        (pss_cons (ps_set (i := 3) scPool.nd rfl (Or.inl rfl) (pe_call GW hr rfl mW kW bW .nil pass0 (pa_cons (pv 0) pa_nil)))
        (pss_cons (ps_while PassesOwn.never (pt_cmpR op_in_seq (pv 3) (pv 2) (by rfl))
          (pss_one (ps_set (i := 3) scPool.nd rfl (Or.inl rfl) (pe_ifExp (pt_cmpR op_eq (pe_callB call_len_str (by rfl) B.len PySem.boot_len (pa_cons (pv 3) pa_nil)) pe_int (nomark _))
            (pe_op op_add_str (pe_slice sl_str (pv 3) (po_some pe_int) po_none) pe_str) (pe_op op_add_str (pv 3) pe_str)))))
        (pss_one (ps_expr (pe_bm PySem.F.plainAttrs_list PySem.F.slot_list_append PySem.F.type_list_append mt_append (pv 2) (pa_cons (pv 3) pa_nil)))))))
      (pss_one (ps_ret (pv 2)))), ?_⟩
    refine ⟨by decide, fun p np => ?_⟩
    obtain ⟨pd, pl⟩ := D.nd np
    refine ⟨fun n σ H1 => ∃ (xs : List Str) (v3 : Option V), n = m - xs.length ∧ σ = [some (.ref d), some (.int (m : Int)), some (.ref p), v3] ∧ xs.length ≤ m ∧ xs.Nodup ∧ (∀ x ∈ xs, Wd x) ∧ H1 p = some (.lst (xs.map V.str)) ∧ Deck H1 d l ns (k + 9 * xs.length) ∧ Fr d H H1,
      ⟨m, [], none, rfl, rfl, Nat.zero_le _, List.nodup_nil, (fun x z => nomatch z), upd_same, D.same (same_new np), same_fr (same_new np)⟩, ?_⟩
    rintro n σ H1 ⟨xs, v3, rfl, rfl, hx, nd, wd, hp, D1, f1⟩
    refine ⟨_, rfl, p, _, rfl, .inl (.inl (.inl hp)), _, rfl, _, _, rfl, rfl, _, rfl, ite2 (fun c => ?_) fun c => ?_⟩
    · have c' : xs.length < m := by
        have z := of_decide_eq_true c
        rw [List.length_map] at z
        omega
      refine ⟨fun σ' H' => ∃ (x : Str) (v3 : Option V), σ' = [some (.ref d), some (.int (m : Int)), some (.ref p), v3] ∧ x ∉ xs ∧ Wd x ∧ H' p = some (.lst ((xs ++ [x]).map V.str)) ∧ Deck H' d l ns (k + 9 * (xs.length + 1)) ∧ Fr d H H', ?_, ?_⟩
      · rintro σ' H' ⟨x, v3, rfl, nx, wx, hp', D', f'⟩
        refine ⟨m - (xs.length + 1), by omega, xs ++ [x], v3, by rw [List.length_append]; rfl, rfl, by rw [List.length_append]; exact c', ?_, ?_, hp', by rw [List.length_append]; exact D', f'⟩
        · exact List.nodup_append.mpr ⟨nd, by simp, fun a ha b hb e => nx (by rw [← List.mem_singleton.mp hb, ← e]; exact ha)⟩
        · intro y hy
          rcases List.mem_append.mp hy with z | z
          · exact wd y z
          · rw [List.mem_singleton.mp z]
            exact wx
      · refine ⟨_, rfl, d, l, ns, k + 9 * xs.length, rfl, D1, hn, by omega, fun x0 H2 w0 D2 f2 => ?_⟩
        have hp2 : H2 p = some (.lst (xs.map V.str)) := f2 _ _ pd hp
        have q0 : tq x0 = 0 := tq_zero w0
        have ov0 : over 0 xs = xs.length := by
          unfold over
          rw [List.countP_eq_length]
          intro y _
          simp
        refine ⟨fun n σ' H' => ∃ (x : Str) (i : Nat), σ' = [some (.ref d), some (.int (m : Int)), some (.ref p), some (.str x)] ∧ H' = H2 ∧ Wd x ∧ tq x = i ∧ i + over i xs ≤ xs.length ∧ n = over i xs, ⟨over 0 xs, x0, 0, rfl, rfl, w0.wd, q0, by omega, rfl⟩, ?_⟩
        rintro n σ' H' ⟨x, i, rfl, rfl, wx, qx, hi, rfl⟩
        refine ⟨_, rfl, _, rfl, p, _, rfl, .inl (.inl (.inl hp2)), rfl, flat_strs xs, _, rfl, ite2 (fun c2 => ?_) fun c2 => ?_⟩
        · have mx : x ∈ xs := of_decide_eq_true ((inV_strs x xs).symm.trans c2)
          have lt := over_lt mx qx
          have small : x.length ≤ sizeLine := by
            have z := wx.few
            rw [← len_tl] at z
            rw [sizeLine_eq]
            omega
          have gap : i < (tl x).length ∨ (tl x).length < 8 := by
            have z := wx.few
            omega
          refine ⟨fun σ' G => ∃ y : Str, σ' = [some (.ref d), some (.int (m : Int)), some (.ref p), some (.str y)] ∧ G = H' ∧ Wd y ∧ tq y = i + 1, ?_, ?_⟩
          · rintro σ' G ⟨y, rfl, rfl, wy, qy⟩
            exact ⟨over (i + 1) xs, by omega, y, i + 1, rfl, rfl, wy, qy, by omega, rfl⟩
          · refine ⟨_, rfl, _, rfl, small, rfl, _, rfl, ite2 (fun c3 => ?_) fun c3 => ?_⟩
            · have l8 : (tl x).length = 8 := by
                have z := of_decide_eq_true c3
                have z2 := V.int.inj z
                rw [len_tl] at z2
                omega
              have ey : tl (cutS x (some 1) none ++ "q") = (tl x).drop 1 ++ [113] := by
                rw [tl_append, tl_cut1 (by omega)]
                rfl
              refine ⟨_, rfl, 1, rfl, x, rfl, small, _, _, rfl, rfl, ?_, ?_⟩
              · show (cutS x (some 1) none).length + 1 ≤ sizeLine
                rw [len_tl, tl_cut1 (by omega), List.length_drop, sizeLine_eq]
                omega
              · exact ⟨_, rfl, rfl, wd_cut wx ey, (tq_shift (x := x) ey (by omega)).trans (by rw [qx])⟩
            · have l8 : (tl x).length < 8 := by
                have z : ¬ (V.int (x.length : Nat) = V.int 8) := fun e => c3 (decide_eq_true e)
                have z3 := wx.few
                rw [← len_tl] at z3 ⊢
                rcases Nat.lt_or_eq_of_le z3 with h | h
                · exact h
                · exact absurd (by rw [h]; rfl) z
              refine ⟨_, rfl, _, _, rfl, rfl, ?_, ?_⟩
              · show x.length + 1 ≤ sizeLine
                rw [len_tl, sizeLine_eq]
                omega
              · exact ⟨_, rfl, rfl, wd_snoc wx l8 (tl_append x "q"), (tq_snoc (tl_append x "q")).trans (by rw [qx])⟩
        · have nx : x ∉ xs := fun m => c2 ((inV_strs x xs).trans (decide_eq_true m))
          refine ⟨_, rfl, ?_, _, rfl, p, _, _, rfl, rfl, hp2, ?_, ?_⟩
          · exact .inl ⟨rfl, _, .inl (.inl hp2)⟩
          · rw [List.length_map, sizeLine_eq]
            omega
          · refine ⟨x, _, rfl, nx, wx, ?_, D2.upd pd pl, Fr.upd_new (Fr.refl d H) (f1.trans f2) np pd⟩
            · rw [upd_same, List.map_append]
              rfl
    · have c' : xs.length = m := by
        have z : ¬ ((((xs.map V.str).length : Nat) : Int) < (m : Int)) := fun h => c (decide_eq_true h)
        rw [List.length_map] at z
        omega
      exact ⟨_, rfl, q p xs H1 c' nd wd np hp (by rw [← c']; exact D1) f1⟩
end
end My

/-! GX: built-in names, relations with their widths, facts of them -/
namespace My
open PySem PySem.Spec PyProof.Rows L2
open TL (tl len_tl tl_append)
/-- a relation with its width, as it stands -/
def KindAt (H : Hp) (t : Addr × Str × Nat) : Prop := H t.1 = some (.tup [.str t.2.1, .int (t.2.2 : Int)]) ∧ Wd t.2.1 ∧ 0 < t.2.2 ∧ t.2.2 ≤ 4
theorem Fr.free {d b : Addr} {H H2 : Hp} (f : Fr d H H2) (n : H2 b = none) (hd : b ≠ d) : H b = none := by
  cases e : H b with
  | none => rfl
  | some o =>
    rw [f b o hd e] at n
    cases n
theorem KindAt.fr {d : Addr} {H H2 : Hp} {t : Addr × Str × Nat} (h : KindAt H t) (f : Fr d H H2) (hd : t.1 ≠ d) : KindAt H2 t := ⟨f _ _ hd h.1, h.2⟩
structure Blt2 (mg : Str → Option Value) : Prop where
  tuple : mg "tuple" = none
  sorted : mg "sorted" = none
  set : mg "set" = none
  dict : mg "dict" = none
  isi : mg "isinstance" = none
  str : mg "str" = none
  all : mg "all" = none
theorem len_sub {α : Type} [DecidableEq α] : ∀ {l m : List α}, l.Nodup → (∀ x ∈ l, x ∈ m) → l.length ≤ m.length
  | [], _, _, _ => Nat.zero_le _
  | x :: r, m, nd, h => by
    obtain ⟨nx, nr⟩ := List.nodup_cons.mp nd
    have mx := h x List.mem_cons_self
    have z := len_sub (m := m.erase x) nr fun y hy => (List.mem_erase_of_ne fun e => nx (by rw [← e]; exact hy)).mpr (h y (List.mem_cons_of_mem _ hy))
    rw [List.length_erase_of_mem mx] at z
    have p := List.length_pos_of_mem mx
    rw [List.length_cons]
    omega
/-- a fact of the relations ks with values of vals -/
def FactOk (ks : List (Addr × Str × Nat)) (vals : List Str) (k : List Str) : Prop := ∃ (x : Str) (ws : List Str), k = x :: ws ∧ (∃ t ∈ ks, x = t.2.1 ∧ ws.length = t.2.2) ∧ ∀ y ∈ ws, y ∈ vals
theorem cutV_drop1 (xs : List V) (h : 1 ≤ xs.length) : cutV xs (some 1) none = xs.drop 1 := by
  unfold cutV
  rw [HT.sIx_none, show HT.sIx xs.length 0 (some 1) = min 1 xs.length from HT.sIx_nat xs.length 0 1, Nat.min_eq_left h]
  exact List.take_of_length_le (by rw [List.length_drop]; exact Nat.le_refl _)
theorem not_wholeV (xs : List V) (h : 1 ≤ xs.length) (b : Prop) : ¬ (HT.sIx xs.length 0 (some 1) = 0 ∧ b) := by
  rw [show HT.sIx xs.length 0 (some 1) = min 1 xs.length from HT.sIx_nat xs.length 0 1, Nat.min_eq_left h]
  exact fun z => absurd z.1 (by decide)
theorem iteNo {c : Bool} {A B : Prop} (h : c = false) (b : B) : if c = true then A else B := by
  rw [h]
  exact iteF b
theorem iteYes {c : Bool} {A B : Prop} (h : c = true) (a : A) : if c = true then A else B := by
  rw [if_pos h]
  exact a
end My

/-! MyShow: data that can be shown, and how long it is -/
namespace My
open PySem PySem.Spec PyProof.Rows L2
open TL (tl len_tl tl_append)
/-- showable, of that depth and weight at most -/
structure Sm (d : PyData) (dep wt : Nat) : Prop where
  sh : d.showable = true
  lf : d.leavesShort 8 = true
  dp : d.depth ≤ dep
  wt : d.weight ≤ wt
theorem Sm.mono {d : PyData} {a b c e : Nat} (h : Sm d a b) (h1 : a ≤ c) (h2 : b ≤ e) : Sm d c e := ⟨h.sh, h.lf, Nat.le_trans h.dp h1, Nat.le_trans h.wt h2⟩
theorem Sm.len {d : PyData} {dep wt : Nat} (h : Sm d dep wt) (hw : wt ≤ 100000) : d.shown.length ≤ sizeLine := by
  have z := PyData.shown_le 8 (Nat.le_refl _) d h.lf
  have z2 := h.wt
  rw [sizeLine_eq]
  omega
/-- a text that a drawn value is -/
structure Vl (x : Str) : Prop where
  pos : 0 < (tl x).length
  few : (tl x).length ≤ 8
  low : ∀ c ∈ tl x, c < 200
theorem Wd.vl {x : Str} (h : Wd x) : Vl x := ⟨h.pos, h.few, fun c m => by
  have z := h.of c m
  revert z
  exact fun z => (show ∀ c ∈ 113 :: six, c < 200 by decide) c z⟩
theorem sm_str {x : Str} (h : Vl x) : Sm (.str x) 0 8 where
  sh := by simp only [PyData.showable]
  lf := by
    simp only [PyData.leavesShort, List.all_eq_true, decide_eq_true_eq]
    exact fun c m => Nat.lt_of_lt_of_le (h.low c m) (by decide)
  dp := by simp only [PyData.depth]; exact Nat.le_refl _
  wt := by
    have z := h.few
    have e : x.cps.size = (tl x).length := by simp [tl]
    simp only [PyData.weight]
    omega
theorem sm_all {dep wt : Nat} : ∀ {ds : List PyData}, (∀ d ∈ ds, Sm d dep wt) → PyData.showableAll ds = true ∧ PyData.leavesShortAll 8 ds = true ∧ PyData.depthAll ds ≤ dep ∧ PyData.weightAll ds ≤ ds.length * (wt + 1)
  | [], _ => by simp only [PyData.showableAll, PyData.leavesShortAll, PyData.depthAll, PyData.weightAll]; exact ⟨trivial, trivial, Nat.zero_le _, Nat.zero_le _⟩
  | d :: ds, h => by
    obtain ⟨a1, a2, a3, a4⟩ := sm_all fun e m => h e (List.mem_cons_of_mem _ m)
    have g := h d List.mem_cons_self
    have g4 := g.wt
    have g3 := g.dp
    simp only [PyData.showableAll, PyData.leavesShortAll, PyData.depthAll, PyData.weightAll, g.sh, g.lf, a1, a2, Bool.and_self, List.length_cons, Nat.succ_mul]
    refine ⟨trivial, trivial, ?_, ?_⟩
    · omega
    · omega
theorem sm_tup {dep wt : Nat} {ds : List PyData} (h : ∀ d ∈ ds, Sm d dep wt) : Sm (.tuple ds) (dep + 1) (ds.length * (wt + 1)) := by
  obtain ⟨a1, a2, a3, a4⟩ := sm_all h
  refine ⟨?_, ?_, ?_, ?_⟩
  · simpa only [PyData.showable] using a1
  · simpa only [PyData.leavesShort] using a2
  · simp only [PyData.depth]
    omega
  · simpa only [PyData.weight] using a4
theorem sm_lst {dep wt : Nat} {ds : List PyData} (h : ∀ d ∈ ds, Sm d dep wt) : Sm (.list ds) (dep + 1) (ds.length * (wt + 1)) := by
  obtain ⟨a1, a2, a3, a4⟩ := sm_all h
  refine ⟨?_, ?_, ?_, ?_⟩
  · simpa only [PyData.showable] using a1
  · simpa only [PyData.leavesShort] using a2
  · simp only [PyData.depth]
    omega
  · simpa only [PyData.weight] using a4
/-- a tuple of texts | a store, as data -/
def fD (k : List Str) : PyData := .tuple (k.map PyData.str)
def sD (ks : List (List Str)) : PyData := .tuple (ks.map fD)
section
variable {K : PySem.W.Frag} {H : Hp}
theorem dps_strs : ∀ ws : List Str, DpAll K H (ws.map V.str) (ws.map PyData.str)
  | [] => .nil
  | x :: r => .cons (.str x) (dps_strs r)
theorem dp_fact {a : Addr} {k : List Str} (h : SqT K H a (k.map V.str)) : Dp K H (.ref a) (fD k) := .tup h (dps_strs k)
theorem dps_facts : ∀ {L : List (Addr × List Str)}, (∀ q ∈ L, SqT K H q.1 (q.2.map V.str)) → DpAll K H (L.map fun q => V.ref q.1) ((L.map (·.2)).map fD)
  | [], _ => .nil
  | q :: r, h => .cons (dp_fact (h q List.mem_cons_self)) (dps_facts fun z m => h z (List.mem_cons_of_mem _ m))
theorem dp_store {p : Addr} {L : List (Addr × List Str)} (ht : SqT K H p (L.map fun q => V.ref q.1)) (h : ∀ q ∈ L, SqT K H q.1 (q.2.map V.str)) : Dp K H (.ref p) (sD (L.map (·.2))) := .tup ht (dps_facts h)
end
theorem sm_fact {k : List Str} (h : ∀ x ∈ k, Vl x) (n : k.length ≤ 5) : Sm (fD k) 1 45 := by
  have z := sm_tup (dep := 0) (wt := 8) (ds := k.map PyData.str) fun d hd => by
    obtain ⟨x, hx, rfl⟩ := List.mem_map.mp hd
    exact sm_str (h x hx)
  refine z.mono (Nat.le_refl _) ?_
  rw [List.length_map]
  omega
theorem sm_store {ks : List (List Str)} (h : ∀ k ∈ ks, k.length ≤ 5 ∧ ∀ x ∈ k, Vl x) (n : ks.length ≤ 60) : Sm (sD ks) 2 2760 := by
  have z := sm_tup (dep := 1) (wt := 45) (ds := ks.map fD) fun d hd => by
    obtain ⟨k, hk, rfl⟩ := List.mem_map.mp hd
    exact sm_fact (h k hk).2 (h k hk).1
  refine z.mono (Nat.le_refl _) ?_
  rw [List.length_map]
  omega
end My

/-! HA: what stays where only lists change; books of rules as data -/
namespace My
open PySem PySem.Spec PyProof.Rows L2
open TL (tl len_tl tl_append)
/-- all but lists stay -/
def TS (H H' : Hp) : Prop := ∀ b o, (∀ us, o ≠ .lst us) → H b = some o → H' b = some o
theorem TS.refl (H : Hp) : TS H H := fun _ _ _ h => h
theorem TS.trans {H H1 H2 : Hp} (a : TS H H1) (b : TS H1 H2) : TS H H2 := fun c o n h => b c o n (a c o n h)
theorem same_ts {H H' : Hp} (s : Same H H') : TS H H' := fun b o _ h => s b o h
theorem fr_ts {H H' : Hp} {d : Addr} {us : List V} (hd : H d = some (.lst us)) (f : Fr d H H') : TS H H' := fun b o n h => f b o (fun e => by
  rw [e, hd] at h
  exact n us (Option.some.inj h).symm) h
theorem upd_ts {H : Hp} {p : Addr} {o : HO} {us : List V} (hp : H p = some (.lst us)) : TS H (upd H p o) := fun b u n h => by
  rw [upd_ne (fun e => by
    rw [e, hp] at h
    exact n us (Option.some.inj h).symm)]
  exact h
theorem off_ts {H : Hp} {d : Addr} {us : List V} (hd : H d = some (.lst us)) : TS H (off d H) := fun b o n h => off_at (fun e => by
  rw [e, hd] at h
  exact n us (Option.some.inj h).symm) h
theorem Deck.lst {H : Hp} {d l : Addr} {ns : List Int} {k : Nat} (D : Deck H d l ns k) : ∃ us, H d = some (.lst us) := by
  obtain ⟨⟨_, _, _, e, _⟩, _⟩ := D
  exact ⟨_, e⟩
theorem deck_ts {H H' : Hp} {d l : Addr} {ns : List Int} {k : Nat} (D : Deck H d l ns k) (f : Fr d H H') : TS H H' := by
  obtain ⟨us, e⟩ := D.lst
  exact fr_ts e f
theorem sqT_ts {K : PySem.W.Frag} {H H' : Hp} {a : Addr} {xs : List V} (t : TS H H') (h : SqT K H a xs) : SqT K H' a xs := by
  rcases h with (h | ⟨o, h⟩) | h
  · exact .inl (.inl (t _ _ (fun _ z => by cases z) h))
  · exact .inl (.inr ⟨o, t _ _ (fun _ z => by cases z) h⟩)
  · exact .inr h
mutual
def tupD : PyData → Bool
  | .list _ => false
  | .tuple ds => tupAll ds
  | .dict _ => false
  | _ => true
def tupAll : List PyData → Bool
  | [] => true
  | d :: ds => tupD d && tupAll ds
end
section
variable {K : PySem.W.Frag} {H H' : Hp}
mutual
theorem dp_ts (t : TS H H') : ∀ (d : PyData) (v : V), tupD d = true → Dp K H v d → Dp K H' v d
  | .none, _, _, h => by cases h; exact .non
  | .bool _, _, _, h => by cases h; exact .bl _
  | .int _, _, _, h => by cases h; exact .int _
  | .str _, _, _, h => by cases h; exact .str _
  | .list ds, _, c, h => by
    simp only [tupD] at c
    cases c
  | .tuple ds, _, c, h => by
    simp only [tupD] at c
    cases h with
    | tup hs ha => exact .tup (sqT_ts t hs) (dps_ts t ds _ c ha)
  | .dict _, _, _, h => by cases h
theorem dps_ts (t : TS H H') : ∀ (ds : List PyData) (vs : List V), tupAll ds = true → DpAll K H vs ds → DpAll K H' vs ds
  | [], _, _, h => by cases h; exact .nil
  | d :: ds, _, c, h => by
    simp only [tupAll, Bool.and_eq_true] at c
    cases h with
    | cons h1 h2 => exact .cons (dp_ts t d _ c.1 h1) (dps_ts t ds _ c.2 h2)
end
end
theorem tup_all {ds : List PyData} : (∀ d ∈ ds, tupD d = true) → tupAll ds = true := by
  induction ds with
  | nil => intro _; simp only [tupAll]
  | cons d r ih =>
    intro h
    simp only [tupAll, Bool.and_eq_true]
    exact ⟨h d List.mem_cons_self, ih fun e m => h e (List.mem_cons_of_mem _ m)⟩
abbrev Atm := List Str
abbrev Rl := List Atm × List Atm
abbrev Ky := Str × List Nat
def ruleD (r : Rl) : PyData := .tuple [sD r.1, sD r.2]
def colsD (c : List Nat) : PyData := .tuple (c.map fun (n : Nat) => PyData.int (n : Int))
def keyD (k : Ky) : PyData := .tuple [.str k.1, colsD k.2]
def bookD (rs : List Rl) (ks : List Ky) : PyData := .tuple [.tuple (rs.map ruleD), .tuple (ks.map keyD)]
theorem tup_f (k : Atm) : tupD (fD k) = true := by
  unfold fD
  simp only [tupD]
  exact tup_all fun d h => by
    obtain ⟨x, _, rfl⟩ := List.mem_map.mp h
    simp only [tupD]
theorem tup_s (L : List Atm) : tupD (sD L) = true := by
  unfold sD
  simp only [tupD]
  exact tup_all fun d h => by
    obtain ⟨x, _, rfl⟩ := List.mem_map.mp h
    exact tup_f x
theorem tup_r (r : Rl) : tupD (ruleD r) = true := by
  unfold ruleD
  simp only [tupD, tupAll, tup_s, Bool.and_self]
theorem tup_rs (rs : List Rl) : tupD (.tuple (rs.map ruleD)) = true := by
  simp only [tupD]
  exact tup_all fun d h => by
    obtain ⟨x, _, rfl⟩ := List.mem_map.mp h
    exact tup_r x
theorem tup_c (c : List Nat) : tupD (colsD c) = true := by
  unfold colsD
  simp only [tupD]
  exact tup_all fun d h => by
    obtain ⟨x, _, rfl⟩ := List.mem_map.mp h
    simp only [tupD]
theorem tup_k (k : Ky) : tupD (keyD k) = true := by
  unfold keyD
  simp only [tupD, tupAll, tup_c, Bool.and_self]
theorem tup_ks (ks : List Ky) : tupD (.tuple (ks.map keyD)) = true := by
  simp only [tupD]
  exact tup_all fun d h => by
    obtain ⟨x, _, rfl⟩ := List.mem_map.mp h
    exact tup_k x
theorem tup_b (rs : List Rl) (ks : List Ky) : tupD (bookD rs ks) = true := by
  unfold bookD
  have h1 := tup_rs rs
  have h2 := tup_ks ks
  simp only [tupD, tupAll, Bool.and_true, Bool.and_eq_true] at h1 h2 ⊢
  exact ⟨h1, h2⟩
section
variable {K : PySem.W.Frag} {H : Hp}
theorem dpT {v : V} {ds : List PyData} (h : Dp K H v (.tuple ds)) : ∃ (a : Addr) (xs : List V), v = .ref a ∧ SqT K H a xs ∧ DpAll K H xs ds := by
  cases h with
  | tup h1 h2 => exact ⟨_, _, rfl, h1, h2⟩
theorem dps_back2 : ∀ {k : List Str} {xs : List V}, DpAll K H xs (k.map PyData.str) → xs = k.map V.str
  | [], _, h => by cases h; rfl
  | x :: r, _, h => by
    cases h with
    | cons h1 h2 =>
      cases h1
      rw [List.map_cons, dps_back2 h2]
theorem dpFact {v : V} {k : Atm} (h : Dp K H v (fD k)) : ∃ a, v = .ref a ∧ SqT K H a (k.map V.str) := by
  obtain ⟨a, xs, rfl, h1, h2⟩ := dpT h
  exact ⟨a, rfl, by rw [← dps_back2 h2]; exact h1⟩
theorem dps_rows : ∀ {L : List Atm} {xs : List V}, DpAll K H xs (L.map fD) → ∃ L' : List (Addr × List Str), xs = L'.map (fun q => V.ref q.1) ∧ L'.map (·.2) = L ∧ ∀ q ∈ L', SqT K H q.1 (q.2.map V.str)
  | [], _, h => by
    cases h
    exact ⟨[], rfl, rfl, fun q hq => nomatch hq⟩
  | k :: r, _, h => by
    cases h with
    | cons h1 h2 =>
      obtain ⟨L', e1, e2, e3⟩ := dps_rows h2
      obtain ⟨b, rfl, hb⟩ := dpFact h1
      refine ⟨(b, k) :: L', by rw [List.map_cons, e1], by rw [List.map_cons, e2], fun q hq => ?_⟩
      rcases List.mem_cons.mp hq with rfl | hq
      · exact hb
      · exact e3 q hq
theorem dpRows {v : V} {L : List Atm} (h : Dp K H v (sD L)) : ∃ (p : Addr) (L' : List (Addr × List Str)), v = .ref p ∧ SqT K H p (L'.map fun q => V.ref q.1) ∧ L'.map (·.2) = L ∧ ∀ q ∈ L', SqT K H q.1 (q.2.map V.str) := by
  obtain ⟨a, xs, rfl, h1, h2⟩ := dpT h
  obtain ⟨L', rfl, e2, e3⟩ := dps_rows h2
  exact ⟨a, L', rfl, h1, e2, e3⟩
end
/-- the texts of a row are short, the row is narrow -/
def Nar (k : Atm) : Prop := 2 ≤ k.length ∧ k.length ≤ 5 ∧ ∀ x ∈ k, Vl x
def RlOk (r : Rl) : Prop := (1 ≤ r.1.length ∧ r.1.length ≤ 3 ∧ ∀ k ∈ r.1, Nar k) ∧ 1 ≤ r.2.length ∧ r.2.length ≤ 3 ∧ ∀ k ∈ r.2, Nar k
theorem sm_rows {L : List Atm} (h : ∀ k ∈ L, Nar k) (n : L.length ≤ 3) : Sm (sD L) 2 150 := by
  have z := sm_tup (dep := 1) (wt := 45) (ds := L.map fD) fun d hd => by
    obtain ⟨k, hk, rfl⟩ := List.mem_map.mp hd
    exact sm_fact (h k hk).2.2 (h k hk).2.1
  refine z.mono (Nat.le_refl _) ?_
  rw [List.length_map]
  omega
theorem sm_rule {r : Rl} (h : RlOk r) : Sm (ruleD r) 3 302 := by
  refine (sm_tup (dep := 2) (wt := 150) (ds := [sD r.1, sD r.2]) fun d hd => ?_).mono (Nat.le_refl _) (by show 2 * 151 ≤ 302; decide)
  rcases List.mem_cons.mp hd with rfl | hd
  · exact sm_rows h.1.2.2 h.1.2.1
  · rw [List.mem_singleton.mp hd]
    exact sm_rows h.2.2.2 h.2.2.1
end My

/-! HB: drawn rows of atoms -/
namespace My
open PySem PySem.Spec PyProof.Rows L2
open TL (tl len_tl tl_append)
def spAtoms (K : PySem.W.Frag) : Sp := fun vs H Q _ => ∃ (d l : Addr) (ns : List Int) (k : Nat) (kp vp : Addr) (ks : List (Addr × Str × Nat)) (vals : List Str) (m : Nat), vs = [.ref d, .ref kp, .ref vp, .int (m : Int)] ∧ 1 ≤ m ∧ m ≤ 10 ∧ Deck H d l ns k ∧ ns.length ≤ 63 ∧ k + 1000 < 1073741824 ∧
  (H kp = some (.lst (ks.map fun t => V.ref t.1)) ∧ kp ≠ d ∧ ks ≠ [] ∧ ks.length ≤ 10 ∧ ∀ t ∈ ks, KindAt H t ∧ t.1 ≠ d) ∧ (H vp = some (.lst (vals.map V.str)) ∧ vp ≠ d ∧ vals ≠ [] ∧ vals.length ≤ 100) ∧
  ∀ (v : V) (L : List Atm) (H' : Hp), Dp K H' v (sD L) → 1 ≤ L.length → L.length ≤ m → (∀ q ∈ L, FactOk ks vals q) → Deck H' d l ns (k + 1 + 10 * m) → Fr d H H' → Q v H'
section
variable {P : Program} {w : World} {K : PySem.W.Frag} {mg : Str → Option Value} {base : Heap}
theorem scAtoms : FnScope ["_law_deck_here", "_law_kinds", "_law_terms", "_law_many", "_law_row", "_law_k", "_law_name", "_law_width", "_law_at"] ["_law_deck_here", "_law_kinds", "_law_terms", "_law_many"] (defScope sAtoms) := ⟨rfl, rfl, rfl, by decide +kernel, rfl, by decide +kernel, by decide +kernel⟩
theorem ok_atoms {f fD fO : Addr} {fd fdD fdO : FuncData} (F : Fun K "_law_atoms" "_law_atoms" sAtoms f fd) (B : Blt mg) (B2 : Blt2 mg) (GD : FnOk P w K mg base CX0 1 fD fdD ["_law_deck_here", "_law_many"] spDraw) (mD : mg "_law_draw" = some (.ref fD))
    (kD : PySem.W.keepIn K (.ref fD) = true) (bD : Binds K fdD ["_law_deck_here", "_law_many"] []) (GO : FnOk P w K mg base CX0 2 fO fdO ["_law_deck_here", "_law_items"] (spOne K)) (mO : mg "_law_one" = some (.ref fO))
    (kO : PySem.W.keepIn K (.ref fO) = true) (bO : Binds K fdO ["_law_deck_here", "_law_items"] []) : FnOk P w K mg base CX0 3 f fd ["_law_deck_here", "_law_kinds", "_law_terms", "_law_many"] (spAtoms K) := by
  refine F.ok scAtoms (fun vs H Q E h => ?_) (fun cdv A outer s H vs Q E hr h => ?_)
  · obtain ⟨d, l, ns, k, kp, vp, ks, vals, m, rfl, _⟩ := h
    rfl
  · obtain ⟨d, l, ns, k, kp, vp, ks, vals, m, rfl, hm1, hm, D, hn, hk, ⟨hkp, nkp, nks, fks, hks⟩, ⟨hvp, nvp, nvals, fvals⟩, q⟩ := h
    have hu := hr.units
    have hr1 : Room 1 _ := hr.mono (by decide)
    refine ⟨_, pss_cons (ps_set (i := 4) scAtoms.nd rfl (Or.inl rfl) (pe_lst pa_nil))
      (pss_cons (ps_for PassesOwn.never rfl (pi_range1 rfl B.range (pa_cons (pe_op op_add pe_int (pe_call GD hr1 rfl mD kD bD .nil pass0 (pa_cons (pv 0) (pa_cons (pv 3) pa_nil)))) pa_nil)) (pg_name (i := 5) scAtoms.nd rfl (Or.inl rfl))
        (pss_cons (ps_asg (pe_call GO hr rfl mO kO bO .nil pass0 (pa_cons (pv 0) (pa_cons (pv 1) pa_nil))) (pg_tup rfl (pgs_cons (pg_name (i := 6) scAtoms.nd rfl (Or.inl rfl)) (pgs_cons (pg_name (i := 7) scAtoms.nd rfl (Or.inl rfl)) pgs_nil))))
        (pss_one (ps_expr (pe_bm PySem.F.plainAttrs_list PySem.F.slot_list_append PySem.F.type_list_append mt_append (pv 4)
          (pa_cons (pe_op op_catA (pe_tup (pa_cons (pv 6) pa_nil)) (pe_callTy call_tuple_of (by rfl) B2.tuple boot_tuple
            (pa_cons (pe_lc (own := [("_law_at", 8)]) (g := gName 8) (tt := tYes) rfl scAtoms.nd (pi_range1 rfl B.range (pa_cons (pv 7) pa_nil)) (blkOk_by (own := [("_law_at", 8)]) (N := ["_law_deck_here", "_law_kinds", "_law_terms", "_law_many", "_law_row", "_law_k", "_law_name", "_law_width", "_law_at"]) (sc := defScope sAtoms) (by decide +kernel))
              (fun _ _ _ _ _ => pg_name (i := 8) scAtoms.nd rfl (Or.inl rfl)) (fun _ _ _ _ _ => pts_nil) (fun _ _ _ _ _ => pe_call GO hr rfl mO kO bO .nil pass0 (pa_cons (pv 0) (pa_cons (pv 2) pa_nil)))) pa_nil))) pa_nil))))))
      (pss_one (ps_ret (pe_callTy call_tuple_of (by rfl) B2.tuple boot_tuple (pa_cons (pv 4) pa_nil))))), ?_⟩
    refine ⟨by decide, fun p np => ?_⟩
    obtain ⟨pd, pl⟩ := D.nd np
    have D0 := D.same (same_new (o := .lst []) np)
    have f0 : Fr d H (upd H p (.lst [])) := same_fr (same_new np)
    refine ⟨_, rfl, _, rfl, d, l, ns, k, (m : Int), rfl, by omega, by omega, D0, hn, by omega, fun v H1 v0 v1 D1 f1 => ?_⟩
    obtain ⟨c, rfl, hc⟩ : ∃ c : Nat, v = (c : Int) ∧ c < m := ⟨v.toNat, by omega, by omega⟩
    have f01 := f0.trans f1
    refine ⟨1, _, rfl, rfl, 1 + (c : Int), rfl, by omega, by omega, ?_⟩
    refine for_range (n := (1 + (c : Int)).toNat) (fun i σ G => ∃ (L : List (Addr × List Str)) (v5 v6 v7 : Option V), σ = [some (.ref d), some (.ref kp), some (.ref vp), some (.int (m : Int)), some (.ref p), v5, v6, v7, none] ∧
        L.length = i ∧ G p = some (.lst (L.map fun q => V.ref q.1)) ∧ (∀ q ∈ L, G q.1 = some (.tup (q.2.map V.str)) ∧ FactOk ks vals q.2) ∧ Deck G d l ns (k + 1 + 10 * i) ∧ Fr d H G)
      ⟨[], none, none, none, rfl, rfl, f1 _ _ pd upd_same, (fun q z => nomatch z), D1, f01⟩ ?_ ?_
    · rintro i σ G hi ⟨L, v5, v6, v7, rfl, hL, gp, gL, DG, fG⟩
      have gk : G kp = some (.lst (ks.map fun t => V.ref t.1)) := fG _ _ nkp hkp
      have gv : G vp = some (.lst (vals.map V.str)) := fG _ _ nvp hvp
      refine ⟨_, rfl, _, rfl, d, l, ns, k + 1 + 10 * i, .ref kp, rfl, DG, hn, by omega, .inl ⟨kp, _, rfl, nkp, .inl (.inl (.inl (off_at nkp gk))), by simpa using nks, by rw [List.length_map]; omega, fun j v G2 hj D2 f2 => ?_⟩⟩
      obtain ⟨t, ht, rfl⟩ : ∃ t, ks[j]? = some t ∧ V.ref t.1 = v := by
        rw [List.getElem?_map] at hj
        exact Option.map_eq_some_iff.mp hj
      have mt : t ∈ ks := List.mem_of_getElem? ht
      obtain ⟨kt, td⟩ := hks t mt
      have fG2 := fG.trans f2
      have kt2 := kt.fr fG2 td
      refine ⟨t.1, _, rfl, .inl (.inl kt2.1), rfl, _, _, rfl, _, _, rfl, rfl, ?_⟩
      have pd2 : G2 p = some (.lst (L.map fun q => V.ref q.1)) := f2 _ _ pd gp
      refine ⟨_, rfl, .inl ⟨rfl, _, .inl (.inl pd2)⟩, _, rfl, (by show 1 ≤ sizeLine; decide), fun a na => ⟨_, rfl, (t.2.2 : Int), rfl, ?_, ?_, fun Dn nD => ?_⟩⟩
      · have z := kt.2.2.2
        omega
      · have z := kt.2.2.2
        omega
      obtain ⟨ad, al⟩ := D2.nd na
      have naH : H a = none := fG2.free na ad
      have D3 := D2.same (same_new (o := .tup [.str t.2.1]) na)
      obtain ⟨Dd, Dl⟩ := D3.nd nD
      have fG3 : Fr d H (upd G2 a (.tup [.str t.2.1])) := Fr.upd_new (Fr.refl d H) fG2 naH ad
      have nDH : H Dn = none := fG3.free nD Dd
      have aDn : a ≠ Dn := ne_of_none upd_same nD
      have w4 := kt.2.2.2
      have w0 := kt.2.2.1
      refine lc_range (lo := 0) (n := (t.2.2 : Int).toNat) (fun u H3 => ∃ ws : List Str, H3 Dn = some (.lst (ws.map V.str)) ∧ ws.length = u ∧ (∀ y ∈ ws, y ∈ vals) ∧ Deck H3 d l ns (k + 1 + 10 * i + 1 + u) ∧ Fr d H H3 ∧ (∀ b o, b ≠ d → b ≠ Dn → upd G2 a (.tup [.str t.2.1]) b = some o → H3 b = some o))
        ⟨[], upd_same, rfl, (fun y z => nomatch z), D3.same (same_new nD), Fr.upd_new (Fr.refl d H) fG3 nDH Dd, fun b o _ h2 e => by rw [upd_ne h2]; exact e⟩ ?_ ?_
      · rintro u H3 hu3 ⟨ws, g1, g2, g3, g4, g5, g6⟩
        refine ⟨rfl, ?_⟩
        dsimp only [tYes]
        rw [if_pos rfl]
        have gv3 : H3 vp = some (.lst (vals.map V.str)) := g5 _ _ nvp hvp
        have hu4 : u < t.2.2 := by omega
        refine ⟨_, rfl, _, rfl, d, l, ns, k + 1 + 10 * i + 1 + u, .ref vp, rfl, g4, hn, by omega, .inl ⟨vp, _, rfl, nvp, .inl (.inl (.inl (off_at nvp gv3))), by simpa using nvals, by rw [List.length_map]; omega, fun j v H4 hj D4 f4 => ?_⟩⟩
        obtain ⟨y, hy, rfl⟩ : ∃ y, vals[j]? = some y ∧ V.str y = v := by
          rw [List.getElem?_map] at hj
          exact Option.map_eq_some_iff.mp hj
        refine ⟨ws.map V.str, f4 _ _ Dd g1, by rw [List.length_map, sizeLine_eq]; omega, ws ++ [y], ?_, by rw [List.length_append, g2]; rfl, fun z hz => ?_, D4.upd Dd Dl, Fr.upd_new (Fr.refl d H) (g5.trans f4) nDH Dd, fun b o h1 h2 e => ?_⟩
        · rw [upd_same, List.map_append]
          rfl
        · rcases List.mem_append.mp hz with hz | hz
          · exact g3 z hz
          · rw [List.mem_singleton.mp hz]
            exact List.mem_of_getElem? hy
        · rw [upd_ne h2]
          exact f4 _ _ h1 (g6 b o h1 h2 e)
      · rintro H3 ⟨ws, g1, g2, g3, g4, g5, g6⟩
        have lw : ws.length = t.2.2 := by rw [g2, Int.toNat_natCast]
        refine ⟨Dn, _, rfl, .inl ⟨.inl (.inl g1), fun b nb => ?_⟩⟩
        obtain ⟨bd, bl⟩ := g4.nd nb
        have ga : H3 a = some (.tup [.str t.2.1]) := g6 a _ ad aDn upd_same
        have ab : a ≠ b := ne_of_none ga nb
        have nbH : H b = none := g5.free nb bd
        have g4b := g4.upd (o := .tup (ws.map V.str)) bd bl
        have g5b : Fr d H (upd H3 b (.tup (ws.map V.str))) := Fr.upd_new (Fr.refl d H) g5 nbH bd
        refine ⟨a, b, [.str t.2.1], ws.map V.str, rfl, rfl, .inl (.inl (by rw [upd_ne ab]; exact ga)), .inl (.inl upd_same), ?_, ?_, ?_, fun _ _ c nc => ?_⟩
        · rw [List.length_map, sizeLine_eq]
          show 1 + _ ≤ _
          omega
        · exact fun z => absurd z (List.cons_ne_nil _ _)
        · intro _ z
          have z2 := congrArg List.length z
          rw [List.length_map] at z2
          have z3 : ws.length = 0 := z2
          omega
        · obtain ⟨cd, cl⟩ := g4b.nd nc
          have ncH : H c = none := g5b.free nc cd
          have pD : p ≠ Dn := by
            have z : upd G2 a (.tup [.str t.2.1]) p = some (.lst (L.map fun q => V.ref q.1)) := (same_new na) _ _ pd2
            exact ne_of_none z nD
          have g3p : H3 p = some (.lst (L.map fun q => V.ref q.1)) := g6 p _ pd pD ((same_new na) _ _ pd2)
          have pb : p ≠ b := ne_of_none g3p nb
          have g3p' : upd H3 b (.tup (ws.map V.str)) p = some (.lst (L.map fun q => V.ref q.1)) := (same_new nb) _ _ g3p
          have pc : p ≠ c := ne_of_none g3p' nc
          refine ⟨p, _, _, rfl, rfl, by rw [upd_ne pc]; exact g3p', by rw [List.length_map, sizeLine_eq]; omega, L ++ [(c, t.2.1 :: ws)], _, _, _, rfl, by rw [List.length_append, hL]; rfl, ?_, fun z hz => ?_, ?_, ?_⟩
          · rw [upd_same, List.map_append]
            rfl
          · rcases List.mem_append.mp hz with hz | hz
            · obtain ⟨e1, e2⟩ := gL z hz
              have zd : z.1 ≠ d := by
                intro e
                rw [e] at e1
                obtain ⟨⟨_, _, _, z2, _⟩, _⟩ := DG
                rw [z2] at e1
                cases e1
              have e3 := (same_new na (o := .tup [.str t.2.1])) _ _ (f2 _ _ zd e1)
              have e4 := g6 z.1 _ zd (ne_of_none e3 nD) e3
              have e5 := (same_new nb (o := .tup (ws.map V.str))) _ _ e4
              refine ⟨?_, e2⟩
              rw [upd_ne (fun e => by rw [e, g3p'] at e5; cases e5), upd_ne (ne_of_none e5 nc)]
              exact e5
            · rw [List.mem_singleton.mp hz]
              refine ⟨?_, t.2.1, ws, rfl, ⟨t, mt, rfl, lw⟩, g3⟩
              rw [upd_ne (Ne.symm pc), upd_same]
              rfl
          · exact (((g4b.upd cd cl).upd pd pl).mono (by rw [g2] at lw; omega))
          · exact Fr.upd_new (Fr.refl d H) (Fr.upd_new (Fr.refl d H) g5b ncH cd) np pd
    · rintro σ G ⟨L, v5, v6, v7, rfl, hL, gp, gL, DG, fG⟩
      refine ⟨_, rfl, p, _, rfl, .inl ⟨.inl (.inl gp), fun b nb => ?_⟩⟩
      have sb := same_new (o := .tup (L.map fun q => V.ref q.1)) nb
      refine q (.ref b) (L.map (·.2)) _ (dp_store (.inl (.inl upd_same)) fun z hz => .inl (.inl (sb _ _ (gL z hz).1))) (by rw [List.length_map]; omega) (by rw [List.length_map]; omega) (fun z hz => ?_) ((DG.same sb).mono (by omega)) (fG.trans (same_fr sb))
      obtain ⟨y, hy, rfl⟩ := List.mem_map.mp hz
      exact (gL y hy).2
end
end My

/-! HC: the variables of drawn atoms -/
namespace My
open PySem PySem.Spec PyProof.Rows L2
open TL (tl len_tl tl_append)
def spVars (K : PySem.W.Frag) : Sp := fun vs H Q _ => ∃ (v : V) (L : List Atm), vs = [v] ∧ Dp K H v (sD L) ∧ (∀ k ∈ L, Nar k) ∧ L.length ≤ 3 ∧
  ∀ (r : Addr) (ys : List Str) (H' : Hp), (∀ y ∈ ys, ∃ k ∈ L, y ∈ k) → ys.length ≤ 12 → H r = none → H' r = some (.lst (ys.map V.str)) → Same H H' → Q (.ref r) H'
theorem one_sign {y : Str} {c : Nat} (h : tl y = [c]) : y = ⟨#[c]⟩ := by
  obtain ⟨⟨l⟩⟩ := y
  have h : l = [c] := h
  rw [h]
section
variable {P : Program} {w : World} {K : PySem.W.Frag} {mg : Str → Option Value} {base : Heap}
theorem scVars : FnScope ["_law_atoms_here", "_law_row", "_law_atom", "_law_term"] ["_law_atoms_here"] (defScope sVars) := ⟨rfl, rfl, rfl, by decide +kernel, rfl, by decide +kernel, by decide +kernel⟩
theorem ok_vars {f : Addr} {fd : FuncData} (F : Fun K "_law_vars" "_law_vars" sVars f fd) (B : Blt mg) (B2 : Blt2 mg) : FnOk P w K mg base CX0 2 f fd ["_law_atoms_here"] (spVars K) := by
  refine F.ok scVars (fun vs H Q E h => ?_) (fun cdv A outer s H vs Q E hr h => ?_)
  · obtain ⟨v, L, rfl, _⟩ := h
    rfl
  · obtain ⟨v, L0, rfl, hd, nar, few, q⟩ := h
    have hu := hr.units
    refine ⟨_, pss_cons (ps_set (i := 1) scVars.nd rfl (Or.inl rfl) (pe_lst pa_nil))
      (pss_cons (ps_for PassesOwn.never rfl (pi_tup (pv 0)) (pg_name (i := 2) scVars.nd rfl (Or.inl rfl))
        (pss_one (ps_expr (pe_bm PySem.F.plainAttrs_list PySem.F.slot_list_extend PySem.F.type_list_extend mt_extend (pv 1)
          (pa_cons (pe_lc (own := [("_law_term", 3)]) (g := gName 3) rfl scVars.nd (pi_tup (pe_slice sl_tupA (pv 2) (po_some pe_int) po_none)) (blkOk_by (own := [("_law_term", 3)]) (N := ["_law_atoms_here", "_law_row", "_law_atom", "_law_term"]) (sc := defScope sVars) (by decide +kernel))
            (fun _ _ _ _ _ => pg_name (i := 3) scVars.nd rfl (Or.inl rfl)) (fun _ _ _ _ _ => pts_one (PW.pt (pw_and (pt_cmpR op_eq (pe_callB call_len_str (by rfl) B.len PySem.boot_len (pa_cons (pv 3) pa_nil)) pe_int (nomark _)) (pw_and1 (pt_cmpR op_in_sign (pv 3) pe_str (by rfl)))))) (fun _ _ _ _ _ => pv 3)) pa_nil)))))
      (pss_one (ps_ret (pe_callB (cr_sortS rfl) (by rfl) B2.sorted boot_sorted (pa_cons (pe_callTy (cr_setS rfl) (by rfl) B2.set boot_set (pa_cons (pv 1) pa_nil)) pa_nil))))), ?_⟩
    obtain ⟨p, L, rfl, hp, eL, hq⟩ := dpRows hd
    have lL : L.length ≤ 3 := by
      have z := congrArg List.length eL
      rw [List.length_map] at z
      omega
    have narL : ∀ t ∈ L, Nar t.2 := fun t ht => nar t.2 (by rw [← eL]; exact List.mem_map_of_mem ht)
    refine ⟨by decide, fun r nr => ⟨_, rfl, p, rfl, ⟨_, same_seqT (same_new nr) hp⟩, for_tup (K := K) (xs := L.map fun (q : Addr × List Str) => V.ref q.1) (fun i σ G => ∃ (zs : List Str) (v2 : Option V), σ = [some (.ref p), some (.ref r), v2, none] ∧ G r = some (.lst (zs.map V.str)) ∧ (∀ y ∈ zs, ∃ k ∈ L0, y ∈ k) ∧ zs.length ≤ 4 * i ∧ Same H G)
      ⟨[], none, rfl, upd_same, (fun y hy => nomatch hy), Nat.zero_le _, same_new nr⟩ (fun i σ G _ ⟨zs, _, _, _, _, _, s4⟩ => same_seqT s4 hp) ?_ ?_⟩⟩
    · rintro i v σ G hv ⟨zs, v2, rfl, g1, g2, g3, g4⟩
      obtain ⟨t, ht, rfl⟩ : ∃ t, L[i]? = some t ∧ V.ref t.1 = v := by
        rw [List.getElem?_map] at hv
        exact Option.map_eq_some_iff.mp hv
      have mt : t ∈ L := List.mem_of_getElem? ht
      have hi : i < L.length := (List.getElem?_eq_some_iff.mp ht).1
      obtain ⟨n2, n5, nv⟩ := narL t mt
      have sh1 : 1 ≤ t.2.length := by omega
      have m0 : t.2 ∈ L0 := by
        rw [← eL]
        exact List.mem_map_of_mem mt
      refine ⟨_, rfl, .inl ⟨rfl, _, .inl (.inl g1)⟩, _, rfl, 1, rfl, t.1, _, rfl, same_seqT g4 (hq t mt), fun z => absurd z (not_wholeV _ (by rw [List.length_map]; exact sh1) _), fun _ c nc => ?_⟩
      rw [cutV_drop1 _ (by rw [List.length_map]; exact sh1), ← List.map_drop]
      refine ⟨c, rfl, ⟨_, .inl (.inl upd_same)⟩, fun D nD => ?_⟩
      have cr : r ≠ c := ne_of_none g1 nc
      have rD : r ≠ D := ne_of_none ((same_new nc) _ _ g1) nD
      refine lc_tup (K := K) (xs := (t.2.drop 1).map V.str) (fun j G' => ∃ ys : List Str, G' D = some (.lst (ys.map V.str)) ∧ (∀ y ∈ ys, y ∈ t.2) ∧ ys.length ≤ j ∧ Same (upd G c (.tup ((t.2.drop 1).map V.str))) G')
        ⟨[], upd_same, (fun y hy => nomatch hy), Nat.zero_le _, same_new nD⟩ (fun j G' _ ⟨ys, _, _, _, h4⟩ => .inl (.inl (h4 _ _ upd_same))) ?_ ?_
      · rintro j v G' hv ⟨ys, h1, h2, h3, h4⟩
        obtain ⟨y, hy, rfl⟩ : ∃ y, (t.2.drop 1)[j]? = some y ∧ V.str y = v := by
          rw [List.getElem?_map] at hv
          exact Option.map_eq_some_iff.mp hv
        have my : y ∈ t.2 := List.mem_of_mem_drop (List.mem_of_getElem? hy)
        have hj : j < (t.2.drop 1).length := (List.getElem?_eq_some_iff.mp hy).1
        rw [List.length_drop] at hj
        have ly := (nv y my).few
        have ly2 : y.length = (tl y).length := len_tl y
        refine ⟨rfl, _, rfl, y, rfl, by rw [sizeLine_eq]; omega, rfl, _, rfl, ite2 (fun c1 => ?_) fun c1 => iteF ⟨ys, h1, h2, by omega, h4⟩⟩
        have c1' : decide (V.int (y.length : Nat) = V.int 1) = true := c1
        have e1 : (tl y).length = 1 := by
          have z := V.int.inj (of_decide_eq_true c1')
          omega
        obtain ⟨c0, ec⟩ : ∃ c0, tl y = [c0] := by
          cases z : tl y with
          | nil =>
            rw [z] at e1
            cases e1
          | cons a b =>
            rw [z] at e1
            cases b with
            | nil => exact ⟨a, rfl⟩
            | cons x r => exact absurd e1 (by simp)
        rw [one_sign ec] at my ⊢
        refine ⟨_, rfl, c0, "ABCDEFGHIJKLMNOPQRSTUVWXYZ", rfl, rfl, _, rfl, ite2 (fun c2 => ?_) fun c2 => ⟨ys, h1, h2, by omega, h4⟩⟩
        refine ⟨_, rfl, _, h1, by rw [List.length_map, sizeLine_eq]; omega, ys ++ [⟨#[c0]⟩], by rw [upd_same, List.map_append]; rfl, fun x hx => ?_, by rw [List.length_append]; exact Nat.succ_le_succ h3, fun b o hb => ?_⟩
        · rcases List.mem_append.mp hx with hx | hx
          · exact h2 x hx
          · rw [List.mem_singleton.mp hx]
            exact my
        · rw [upd_ne (ne_of_none hb nD)]
          exact h4 _ _ hb
      · rintro G' ⟨ys, h1, h2, h3, h4⟩
        rw [List.length_map, List.length_drop] at h3
        have gr : G' r = some (.lst (zs.map V.str)) := h4 _ _ ((same_new nc) _ _ g1)
        refine ⟨r, D, _, _, rfl, rfl, gr, h1, by rw [List.length_map, List.length_map, sizeLine_eq]; omega, zs ++ ys, _, rfl, by rw [upd_same, List.map_append], fun y hy => ?_, by rw [List.length_append]; omega, fun b o hb => ?_⟩
        · rcases List.mem_append.mp hy with hy | hy
          · exact g2 y hy
          · exact ⟨t.2, m0, h2 y hy⟩
        · rw [upd_ne (ne_of_none hb nr)]
          exact h4 _ _ ((same_new nc) _ _ (g4 _ _ hb))
    · rintro σ G ⟨zs, v2, rfl, g1, g2, g3, g4⟩
      rw [List.length_map] at g3
      refine ⟨_, rfl, r, zs, rfl, .inl (.inl (.inl g1)), by omega, fun a xs hx na => ⟨a, xs, rfl, upd_same, fun ys b asc pm nb => ?_⟩⟩
      have sub : ∀ y ∈ ys, y ∈ zs := fun y hy => (hx y).mp (pm.mem_iff.mp hy)
      have z := len_sub (asc_nodup tot_str asc) sub
      refine q b ys _ (fun y hy => g2 y (sub y hy)) (by omega) ?_ upd_same ((g4.trans (same_new na)).trans (same_new nb))
      exact (g4.trans (same_new na)).free nb
end
end My

/-! HD: drawn rules -/
namespace My
open PySem PySem.Spec PyProof.Rows L2
open TL (tl len_tl tl_append)
/-- relations with widths in a list -/
def KsAt (H : Hp) (d kp : Addr) (ks : List (Addr × Str × Nat)) : Prop := H kp = some (.lst (ks.map fun t => V.ref t.1)) ∧ kp ≠ d ∧ ks ≠ [] ∧ ks.length ≤ 10 ∧ ∀ t ∈ ks, KindAt H t ∧ t.1 ≠ d
theorem KsAt.fr {H H' : Hp} {d kp : Addr} {ks : List (Addr × Str × Nat)} (h : KsAt H d kp ks) (f : Fr d H H') : KsAt H' d kp ks :=
  ⟨f _ _ h.2.1 h.1, h.2.1, h.2.2.1, h.2.2.2.1, fun t ht => ⟨(h.2.2.2.2 t ht).1.fr f (h.2.2.2.2 t ht).2, (h.2.2.2.2 t ht).2⟩⟩
/-- of one of these relations, as wide as it -/
def Of (ks : List (Addr × Str × Nat)) (k : Atm) : Prop := ∃ t ∈ ks, k.head? = some t.2.1 ∧ k.length = t.2.2 + 1
theorem nar_of {H : Hp} {ks : List (Addr × Str × Nat)} {vals : List Str} {k : Atm} (hk : ∀ t ∈ ks, KindAt H t) (hv : ∀ y ∈ vals, Vl y) (h : FactOk ks vals k) : Nar k ∧ Of ks k := by
  obtain ⟨x, ws, rfl, ⟨t, ht, rfl, e3⟩, e4⟩ := h
  obtain ⟨_, wd, w0, w4⟩ := hk t ht
  refine ⟨⟨by rw [List.length_cons]; omega, by rw [List.length_cons]; omega, fun y hy => ?_⟩, t, ht, rfl, by rw [List.length_cons, e3]⟩
  rcases List.mem_cons.mp hy with rfl | hy
  · exact wd.vl
  · exact hv y (e4 y hy)
abbrev DE : List Str := ["D", "E"]
theorem vl_caps : ∀ x ∈ (["A", "B", "C", "D", "E"] : List Str), Vl x := by
  have z : ∀ x ∈ (["A", "B", "C", "D", "E"] : List Str), 0 < (tl x).length ∧ (tl x).length ≤ 8 ∧ ∀ c ∈ tl x, c < 200 := by decide +kernel
  exact fun x m => ⟨(z x m).1, (z x m).2.1, (z x m).2.2⟩
theorem rep2 (ys : List Str) : (List.replicate (2 : Int).toNat (ys.map V.str)).flatten = (ys ++ ys).map V.str := by
  show (List.replicate 2 (ys.map V.str)).flatten = _
  simp [List.replicate]
theorem cut_takeN (ws : List Str) (j : Nat) (h : j ≤ ws.length) : cutV (ws.map V.str) none (some (j : Int)) = (ws.take j).map V.str := by
  unfold cutV
  rw [HT.sIx_none, List.length_map, show HT.sIx ws.length ws.length (some (j : Int)) = min j ws.length from HT.sIx_nat ws.length ws.length j, Nat.min_eq_left h, List.drop_zero, Nat.sub_zero, List.map_take]
def spRule (K : PySem.W.Frag) : Sp := fun vs H Q _ => ∃ (d l : Addr) (ns : List Int) (k : Nat) (bp hp wp : Addr) (bks hks : List (Addr × Str × Nat)) (ws : List Str), vs = [.ref d, .ref bp, .ref hp, .ref wp, .int 2] ∧ Deck H d l ns k ∧ ns.length ≤ 63 ∧ k + 2000 < 1073741824 ∧
  KsAt H d bp bks ∧ KsAt H d hp hks ∧ H wp = some (.lst (ws.map V.str)) ∧ wp ≠ d ∧ 2 ≤ ws.length ∧ ws.length ≤ 10 ∧ (∀ x ∈ ws, Vl x) ∧
  ∀ (v : V) (r : Rl) (H' : Hp), Dp K H' v (ruleD r) → RlOk r → (∀ k ∈ r.1, Of bks k) → (∀ k ∈ r.2, Of hks k) → Deck H' d l ns (k + 100) → Fr d H H' → Q v H'
section
variable {P : Program} {w : World} {K : PySem.W.Frag} {mg : Str → Option Value} {base : Heap}
theorem scRule : FnScope ["_law_deck_here", "_law_body_kinds", "_law_head_kinds", "_law_words", "_law_new", "_law_body", "_law_terms"] ["_law_deck_here", "_law_body_kinds", "_law_head_kinds", "_law_words", "_law_new"] (defScope sRule) := ⟨rfl, rfl, rfl, by decide +kernel, rfl, by decide +kernel, by decide +kernel⟩
theorem ok_rule {f fA fV : Addr} {fd fdA fdV : FuncData} (F : Fun K "_law_rule" "_law_rule" sRule f fd) (GA : FnOk P w K mg base CX0 3 fA fdA ["_law_deck_here", "_law_kinds", "_law_terms", "_law_many"] (spAtoms K)) (mA : mg "_law_atoms" = some (.ref fA))
    (kA : PySem.W.keepIn K (.ref fA) = true) (bA : Binds K fdA ["_law_deck_here", "_law_kinds", "_law_terms", "_law_many"] []) (GV : FnOk P w K mg base CX0 2 fV fdV ["_law_atoms_here"] (spVars K)) (mV : mg "_law_vars" = some (.ref fV))
    (kV : PySem.W.keepIn K (.ref fV) = true) (bV : Binds K fdV ["_law_atoms_here"] []) : FnOk P w K mg base CX0 4 f fd ["_law_deck_here", "_law_body_kinds", "_law_head_kinds", "_law_words", "_law_new"] (spRule K) := by
  refine F.ok scRule (fun vs H Q E h => ?_) (fun cdv A outer s H vs Q E hr h => ?_)
  · obtain ⟨d, l, ns, k, bp, hp, wp, bks, hks, ws, rfl, _⟩ := h
    rfl
  · obtain ⟨d, l, ns, k, bp, hp, wp, bks, hks, ws, rfl, D, hn, hk, hB, hH, hw, wd, w2, w10, wv, q⟩ := h
    have hr2 : Room 2 _ := hr.mono (by decide)
    refine ⟨_, pss_cons (ps_set (i := 5) scRule.nd rfl (Or.inl rfl) (pe_call GA hr rfl mA kA bA .nil pass0 (pa_cons (pv 0) (pa_cons (pv 1) (pa_cons (pe_lst (pa_cons pe_str (pa_cons pe_str (pa_cons pe_str (pa_cons pe_str (pa_cons pe_str (pa_cons (pe_ix ix_seq (pv 3) pe_int (fun _ _ => rfl)) (pa_cons (pe_ix ix_seq (pv 3) pe_int (fun _ _ => rfl)) pa_nil)))))))) (pa_cons pe_int pa_nil))))))
      (pss_cons (ps_set (i := 6) scRule.nd rfl (Or.inl rfl) (pe_op op_cat (pe_op op_cat (pe_op op_rep (pe_call GV hr2 rfl mV kV bV .nil pass0 (pa_cons (pv 5) pa_nil)) pe_int) (pe_op op_rep (pe_slice sl_list (pe_lst (pa_cons pe_str (pa_cons pe_str pa_nil))) po_none (po_some (pv 4))) pe_int)) (pe_slice sl_list (pv 3) po_none (po_some pe_int))))
      (pss_one (ps_ret (pe_tup (pa_cons (pv 5) (pa_cons (pe_call GA hr rfl mA kA bA .nil pass0 (pa_cons (pv 0) (pa_cons (pv 2) (pa_cons (pv 6) (pa_cons pe_int pa_nil))))) pa_nil)))))), ?_⟩
    have szl : ∀ m : Nat, m ≤ 200 → m ≤ sizeLine := fun m h => by
      rw [sizeLine_eq]
      omega
    obtain ⟨wa, wb, wr, rfl⟩ : ∃ wa wb wr, ws = wa :: wb :: wr := by
      cases ws with
      | nil => exact absurd w2 (by decide)
      | cons a t =>
        cases t with
        | nil => exact absurd w2 (by simp)
        | cons b r => exact ⟨a, b, r, rfl⟩
    refine ⟨_, rfl, _, rfl, _, rfl, .inl ⟨wp, _, 0, _, rfl, rfl, .inl (.inl hw), atI_nat (j := 0) rfl, _, rfl, .inl ⟨wp, _, 1, _, rfl, rfl, .inl (.inl hw), atI_nat (j := 1) rfl, szl _ (by show 7 ≤ 200; omega), fun p np => ?_⟩⟩⟩
    have s1 := same_new (o := .lst [.str "A", .str "B", .str "C", .str "A", .str "B", .str wa, .str wb]) np
    obtain ⟨pd, _⟩ := D.nd np
    have v1 : ∀ y ∈ (["A", "B", "C", "A", "B", wa, wb] : List Str), Vl y := fun y hy => by
      simp only [List.mem_cons, List.not_mem_nil, or_false] at hy
      rcases hy with rfl | rfl | rfl | rfl | rfl | rfl | rfl
      · exact vl_caps _ (by simp)
      · exact vl_caps _ (by simp)
      · exact vl_caps _ (by simp)
      · exact vl_caps _ (by simp)
      · exact vl_caps _ (by simp)
      · exact wv _ (by simp)
      · exact wv _ (by simp)
    refine ⟨d, l, ns, k, bp, p, bks, ["A", "B", "C", "A", "B", wa, wb], 2, rfl, by decide, by decide, D.same s1, hn, by omega, hB.fr (same_fr s1), ⟨upd_same, pd, (fun z => nomatch z), (by show 7 ≤ 100; omega)⟩, fun vb b H1 db b1 b2 bo D1 f1 => ?_⟩
    have fH1 := (same_fr s1).trans f1
    have narb : ∀ k ∈ b, Nar k ∧ Of bks k := fun k hk => nar_of (fun t ht => (hB.2.2.2.2 t ht).1) v1 (bo k hk)
    -- the terms
    refine ⟨_, rfl, vb, b, rfl, db, (fun k hk => (narb k hk).1), by omega, fun r ys H2 ym yl nr hr2' s2 => ?_⟩
    refine ⟨r, 2, _, rfl, rfl, hr2', by decide, by decide, szl _ (by rw [List.length_map]; show ys.length * 2 ≤ 200; omega), fun p3 n3 => ?_⟩
    rw [rep2]
    have s3 := same_new (o := .lst ((ys ++ ys).map V.str)) n3
    refine ⟨szl _ (by show 2 ≤ 200; omega), fun p4 n4 => ?_⟩
    have s4 := same_new (o := .lst [.str "D", .str "E"]) n4
    refine ⟨_, rfl, 2, rfl, p4, _, rfl, .inl (.inl upd_same), fun p5 n5 => ?_⟩
    have ec : cutV [V.str "D", V.str "E"] none (some 2) = DE.map V.str := cut_takeN ["D", "E"] 2 (by decide)
    rw [ec]
    have s5 := same_new (o := .lst (DE.map V.str)) n5
    refine ⟨p5, 2, _, rfl, rfl, upd_same, by decide, by decide, szl _ (by decide), fun p6 n6 => ?_⟩
    rw [rep2]
    have s6 := same_new (o := .lst ((DE ++ DE).map V.str)) n6
    have s36 := s4.trans (s5.trans s6)
    refine ⟨p3, p6, _, _, rfl, rfl, s36 _ _ upd_same, upd_same, szl _ (by rw [List.length_map, List.length_append]; show _ + 4 ≤ 200; omega), fun p7 n7 => ?_⟩
    have s7 := same_new (o := .lst ((ys ++ ys).map V.str ++ (DE ++ DE).map V.str)) n7
    have s27 := s3.trans (s36.trans s7)
    have fH7 := fH1.trans (same_fr (s2.trans s27))
    refine ⟨_, rfl, 2, rfl, wp, _, rfl, .inl (.inl (fH7 _ _ wd hw)), fun p8 n8 => ?_⟩
    have ec2 : cutV ((wa :: wb :: wr).map V.str) none (some 2) = ((wa :: wb :: wr).take 2).map V.str := cut_takeN (wa :: wb :: wr) 2 w2
    rw [ec2]
    have s8 := same_new (o := .lst (((wa :: wb :: wr).take 2).map V.str)) n8
    refine ⟨p7, p8, _, _, rfl, rfl, s8 _ _ upd_same, upd_same, szl _ (by rw [List.length_append, List.length_map, List.length_append]; show _ + 4 + 2 ≤ 200; omega), fun p9 n9 => ?_⟩
    have em : (ys ++ ys).map V.str ++ (DE ++ DE).map V.str ++ ((wa :: wb :: wr).take 2).map V.str = ((ys ++ ys) ++ (DE ++ DE) ++ (wa :: wb :: wr).take 2).map V.str := by
      rw [← List.map_append, ← List.map_append]
    rw [em]
    have s9 := same_new (o := .lst (((ys ++ ys) ++ (DE ++ DE) ++ (wa :: wb :: wr).take 2).map V.str)) n9
    have s29 := s27.trans (s8.trans s9)
    have D9 := D1.same (s2.trans s29)
    have fH9 := fH1.trans (same_fr (s2.trans s29))
    obtain ⟨p9d, _⟩ := (D1.same (s2.trans (s27.trans s8))).nd n9
    have v9 : ∀ y ∈ (ys ++ ys) ++ (DE ++ DE) ++ (wa :: wb :: wr).take 2, Vl y := fun y hy => by
      rcases List.mem_append.mp hy with hy | hy
      · rcases List.mem_append.mp hy with hy | hy
        · have hy : y ∈ ys := (List.mem_append.mp hy).elim id id
          obtain ⟨k, hk, m⟩ := ym y hy
          exact (narb k hk).1.2.2 y m
        · refine vl_caps y ?_
          simp only [List.mem_append, List.mem_cons, List.not_mem_nil, or_false] at hy ⊢
          rcases hy with (h | h) | (h | h)
          · exact .inr (.inr (.inr (.inl h)))
          · exact .inr (.inr (.inr (.inr h)))
          · exact .inr (.inr (.inr (.inl h)))
          · exact .inr (.inr (.inr (.inr h)))
      · exact wv y (List.mem_of_mem_take hy)
    -- the head
    refine ⟨_, rfl, _, rfl, _, rfl, _, rfl, d, l, ns, k + 1 + 10 * 2, hp, p9, hks, _, 3, rfl, by decide, by decide, D9, hn, by omega, hH.fr fH9, ⟨upd_same, p9d, (fun z => ?_), ?_⟩, fun vh hd H10 dh h1 h2 ho D10 f10 => ⟨szl _ (by show 2 ≤ 200; omega), fun p11 n11 => ?_⟩⟩
    · have e := congrArg List.length z
      rw [List.length_append, List.length_append, List.length_append] at e
      simp at e
    · rw [List.length_append, List.length_append, List.length_append, List.length_append, List.length_take]
      show ys.length + ys.length + (2 + 2) + min 2 _ ≤ 100
      omega
    have s11 := same_new (o := .tup [vb, vh]) n11
    have ts : TS H1 (upd H10 p11 (.tup [vb, vh])) := (same_ts (s2.trans s29)).trans ((deck_ts D9 f10).trans (same_ts s11))
    have narh : ∀ k ∈ hd, Nar k ∧ Of hks k := fun k hk => nar_of (fun t ht => (hH.2.2.2.2 t ht).1) v9 (ho k hk)
    refine q (.ref p11) (b, hd) _ (.tup (.inl (.inl upd_same)) (.cons (dp_ts ts _ _ (tup_s b) db) (.cons (dp_same s11 _ _ dh) .nil))) ⟨⟨b1, by show b.length ≤ 3; omega, fun k hk => (narb k hk).1⟩, h1, h2, fun k hk => (narh k hk).1⟩ (fun k hk => (narb k hk).2) (fun k hk => (narh k hk).2) ((D10.same s11).mono (by omega)) (fH9.trans (f10.trans (same_fr s11)))
end
end My

/-! HE: drawn books -/
namespace My
open PySem PySem.Spec PyProof.Rows L2
open TL (tl len_tl tl_append)
def KyOk (k : Ky) : Prop := Vl k.1 ∧ 1 ≤ k.2.length ∧ k.2.length ≤ 4
structure BookOk (H : Hp) (d : Addr) (bp hp wp : Addr) (bks hks : List (Addr × Str × Nat)) (ws : List Str) (rs : List Rl) : Prop where
  bk : KsAt H d bp bks
  hk : KsAt H d hp hks
  wk : H wp = some (.lst (ws.map V.str)) ∧ wp ≠ d
  wv : ∀ x ∈ ws, Wd x
  nd : (bks.map (·.2.1) ++ hks.map (·.2.1) ++ ws).Nodup
  ok : ∀ r ∈ rs, RlOk r ∧ (∀ k ∈ r.1, Of bks k) ∧ ∀ k ∈ r.2, Of hks k
def spBook (K : PySem.W.Frag) : Sp := fun vs H Q _ => ∃ (d l : Addr) (ns : List Int) (k m : Nat), vs = [.ref d, .int (m : Int), .int 2] ∧ 1 ≤ m ∧ m ≤ 4 ∧ Deck H d l ns k ∧ ns.length ≤ 63 ∧ k + 4000 < 1073741824 ∧
  ∀ (p bp hp wp : Addr) (vb : V) (bks hks : List (Addr × Str × Nat)) (ws : List Str) (rs : List Rl) (ks : List Ky) (H' : Hp), SqT K H' p [vb, .ref bp, .ref hp, .ref wp] → Dp K H' vb (bookD rs ks) → 1 ≤ rs.length → rs.length ≤ m → ks.length ≤ 3 → (∀ y ∈ ks, KyOk y) →
    BookOk H' d bp hp wp bks hks ws rs → Deck H' d l ns (k + 1000) → Fr d H H' → Q (.ref p) H'
abbrev nBook : List Str := ["_law_deck_here", "_law_many", "_law_new", "_law_row", "_law_bodies", "_law_heads", "_law_rules", "_law_keys", "_law_k", "_law_name", "_law_width", "_law_columns", "_law_atom", "_law_at"]
theorem same_add {H G : Hp} {D p : Addr} {o : HO} {x : HO} (nD : H D = none) (s : Same H G) (np : G p = none) : Same H (upd (upd G p o) D x) := fun b u h => by
  have z := s _ _ h
  rw [upd_ne (ne_of_none h nD), upd_ne (ne_of_none z np)]
  exact z
theorem KsAt.but {H H' : Hp} {d kp D : Addr} {ks : List (Addr × Str × Nat)} (h : KsAt H d kp ks) (n : H D = none) (f : ∀ b o, b ≠ d → b ≠ D → H b = some o → H' b = some o) : KsAt H' d kp ks :=
  ⟨f _ _ h.2.1 (ne_of_none h.1 n) h.1, h.2.1, h.2.2.1, h.2.2.2.1, fun t ht => ⟨⟨f _ _ (h.2.2.2.2 t ht).2 (ne_of_none (h.2.2.2.2 t ht).1.1 n) (h.2.2.2.2 t ht).1.1, (h.2.2.2.2 t ht).1.2⟩, (h.2.2.2.2 t ht).2⟩⟩
theorem but_ts {H H' : Hp} {d D : Addr} {us : List V} (hd : H d = some (.lst us)) (n : H D = none) (f : ∀ b o, b ≠ d → b ≠ D → H b = some o → H' b = some o) : TS H H' := fun b o c h => f b o (fun e => by
  rw [e, hd] at h
  exact c us (Option.some.inj h).symm) (ne_of_none h n) h
theorem cut_dropN (ws : List Str) (j : Nat) (h : j ≤ ws.length) : cutV (ws.map V.str) (some (j : Int)) none = (ws.drop j).map V.str := by
  unfold cutV
  rw [HT.sIx_none, List.length_map, show HT.sIx ws.length 0 (some (j : Int)) = min j ws.length from HT.sIx_nat ws.length 0 j, Nat.min_eq_left h, ← List.map_drop]
  exact List.take_of_length_le (by rw [List.length_map, List.length_drop]; exact Nat.le_refl _)
abbrev colsV (cs : List Nat) : List V := cs.map fun (n : Nat) => V.int (n : Int)
theorem dps_cols {K : PySem.W.Frag} {H : Hp} : ∀ cs : List Nat, DpAll K H (colsV cs) (cs.map fun (n : Nat) => PyData.int (n : Int))
  | [] => .nil
  | c :: r => .cons (.int _) (dps_cols r)
theorem cols_lay : ∀ cs : List Nat, PyData.canLayAll0 (cs.map fun (n : Nat) => PyData.int (n : Int)) = true ∧ PyData.depthAll (cs.map fun (n : Nat) => PyData.int (n : Int)) = 0
  | [] => by simp [PyData.canLayAll0, PyData.depthAll]
  | x :: xs => by
    have ih := cols_lay xs
    simp [PyData.canLayAll0, PyData.canLay0, PyData.depthAll, PyData.depth, ih.1, ih.2]
theorem cols_shaped (cs : List Nat) : SeqAt.shaped (colsD cs) = true := by
  have h := cols_lay cs
  unfold SeqAt.shaped colsD
  rw [Bool.and_eq_true]
  refine ⟨by simpa only [PyData.canLay0] using h.1, decide_eq_true ?_⟩
  simp only [PyData.depth, h.2]
  omega
theorem cols_nil (cs : List Nat) : PyData.eqv (colsD cs) (.tuple []) = decide (cs = []) := by
  cases cs with
  | nil => simp [colsD, PyData.eqv, PyData.eqvAll]
  | cons c r => simp [colsD, PyData.eqv, PyData.eqvAll]
section
variable {P : Program} {w : World} {K : PySem.W.Frag} {mg : Str → Option Value} {base : Heap}
theorem scBook : FnScope ["_law_deck_here", "_law_many", "_law_new", "_law_row", "_law_bodies", "_law_heads", "_law_rules", "_law_keys", "_law_k", "_law_name", "_law_width", "_law_columns", "_law_atom", "_law_at"] ["_law_deck_here", "_law_many", "_law_new"] (defScope sBook) := ⟨rfl, rfl, rfl, by decide +kernel, rfl, by decide +kernel, by decide +kernel⟩
/-- the width pairs of atoms: what an item of the comprehension is -/
abbrev tPairW (K : PySem.W.Frag) (i : Nat) : TE := tTup (tCons (tOp (rIx K) (tVar i) (tC (.int 0))) (tCons (tOp (rI0 fun i j => .int (i - j)) (tCB (fun xs H Q => ∃ p ys, xs = [.ref p] ∧ (SqL K H p ys ∨ SqT K H p ys) ∧ Q (.int ys.length) H) (tCons (tVar i) tNil)) (tC (.int 1))) tNil))
theorem ok_book {f fD fO fP fR : Addr} {fd fdD fdO fdP fdR : FuncData} (F : Fun K "_law_book" "_law_book" sBook f fd) (B : Blt mg) (B2 : Blt2 mg)
    (GD : FnOk P w K mg base CX0 1 fD fdD ["_law_deck_here", "_law_many"] spDraw) (mD : mg "_law_draw" = some (.ref fD)) (kD : PySem.W.keepIn K (.ref fD) = true) (bD : Binds K fdD ["_law_deck_here", "_law_many"] [])
    (GO : FnOk P w K mg base CX0 2 fO fdO ["_law_deck_here", "_law_items"] (spOne K)) (mO : mg "_law_one" = some (.ref fO)) (kO : PySem.W.keepIn K (.ref fO) = true) (bO : Binds K fdO ["_law_deck_here", "_law_items"] [])
    (GP : FnOk P w K mg base CX0 4 fP fdP ["_law_deck_here", "_law_many"] spPool) (mP : mg "_law_pool" = some (.ref fP)) (kP : PySem.W.keepIn K (.ref fP) = true) (bP : Binds K fdP ["_law_deck_here", "_law_many"] [])
    (GR : FnOk P w K mg base CX0 4 fR fdR ["_law_deck_here", "_law_body_kinds", "_law_head_kinds", "_law_words", "_law_new"] (spRule K)) (mR : mg "_law_rule" = some (.ref fR)) (kR : PySem.W.keepIn K (.ref fR) = true) (bR : Binds K fdR ["_law_deck_here", "_law_body_kinds", "_law_head_kinds", "_law_words", "_law_new"] []) :
    FnOk P w K mg base CX0 5 f fd ["_law_deck_here", "_law_many", "_law_new"] (spBook K) := by
  refine F.ok scBook (fun vs H Q E h => ?_) (fun cdv A outer s H vs Q E hr h => ?_)
  · obtain ⟨d, l, ns, k, m, rfl, _⟩ := h
    rfl
  · obtain ⟨d, l, ns, k, m, rfl, m1, m4, D, hn, hk, q⟩ := h
    have hu := hr.units
    have hr1 : Room 1 _ := hr.mono (by decide)
    have hr2 : Room 2 _ := hr.mono (by decide)
    refine ⟨_, pss_cons (ps_set (i := 3) scBook.nd rfl (Or.inr rfl) (pe_call GP hr rfl mP kP bP .nil pass0 (pa_cons (pv 0) (pa_cons pe_int pa_nil))))
      (pss_cons (ps_set (i := 4) scBook.nd rfl (Or.inr rfl) (pe_lst (pa_cons (pe_tup (pa_cons (pe_ix ix_seq (pv 3) pe_int (fun _ _ => rfl)) (pa_cons (pe_op op_add pe_int (pe_call GD hr1 rfl mD kD bD .nil pass0 (pa_cons (pv 0) (pa_cons pe_int pa_nil)))) pa_nil)))
        (pa_cons (pe_tup (pa_cons (pe_ix ix_seq (pv 3) pe_int (fun _ _ => rfl)) (pa_cons (pe_op op_add pe_int (pe_call GD hr1 rfl mD kD bD .nil pass0 (pa_cons (pv 0) (pa_cons pe_int pa_nil)))) pa_nil))) pa_nil))))
      (pss_cons (ps_set (i := 5) scBook.nd rfl (Or.inr rfl) (pe_lst (pa_cons (pe_tup (pa_cons (pe_ix ix_seq (pv 3) pe_int (fun _ _ => rfl)) (pa_cons (pe_op op_add pe_int (pe_call GD hr1 rfl mD kD bD .nil pass0 (pa_cons (pv 0) (pa_cons pe_int pa_nil)))) pa_nil)))
        (pa_cons (pe_tup (pa_cons (pe_ix ix_seq (pv 3) pe_int (fun _ _ => rfl)) (pa_cons pe_int pa_nil))) pa_nil))))
      (pss_cons (ps_set (i := 6) scBook.nd rfl (Or.inl rfl) (pe_callTy call_tuple_of (by rfl) B2.tuple boot_tuple (pa_cons (pe_lc (own := [("_law_k", 8)]) (g := gName 8) (tt := tYes) (te := tCall (spRule K) [] _ (tCons (tVar 0) (tCons (tVar 4) (tCons (tVar 5) (tCons (tSl (rSlL K) (tVar 3) (tPart (tC (.int 4))) tNoPart) (tCons (tVar 2) tNil))))))
        rfl scBook.nd (pi_range1 rfl B.range (pa_cons (pe_op op_add pe_int (pe_call GD hr1 rfl mD kD bD .nil pass0 (pa_cons (pv 0) (pa_cons (pv 1) pa_nil)))) pa_nil)) (blkOk_by (own := [("_law_k", 8)]) (N := nBook) (sc := defScope sBook) (by decide +kernel))
        (fun _ _ _ _ _ => pg_name (i := 8) scBook.nd rfl (Or.inl rfl)) (fun _ _ _ _ _ => pts_nil)
        (fun _ _ _ _ _ => pe_call GR hr rfl mR kR bR .nil pass0 (pa_cons (pv 0) (pa_cons (pv 4) (pa_cons (pv 5) (pa_cons (pe_slice sl_list (pv 3) (po_some pe_int) po_none) (pa_cons (pv 2) pa_nil))))))) pa_nil)))
      (pss_cons (ps_set (i := 7) scBook.nd rfl (Or.inl rfl) (pe_lst pa_nil))
      (pss_cons (ps_for PassesOwn.never rfl (pi_range1 rfl B.range (pa_cons (pe_call GD hr1 rfl mD kD bD .nil pass0 (pa_cons (pv 0) (pa_cons pe_int pa_nil))) pa_nil)) (pg_name (i := 8) scBook.nd rfl (Or.inl rfl))
        (pss_cons (ps_asg (pe_call GO hr2 rfl mO kO bO .nil pass0 (pa_cons (pv 0) (pa_cons (pe_lc (own := [("_law_atom", 12)]) (g := gName 12) (tt := tYes) (te := tPairW K 12) rfl scBook.nd (pi_tup (pe_ix ix_seq (pe_ix ix_seq (pv 6) pe_int (fun _ _ => rfl)) pe_int (fun _ _ => rfl))) (blkOk_by (own := [("_law_atom", 12)]) (N := nBook) (sc := defScope sBook) (by decide +kernel))
            (fun _ _ _ _ _ => pg_name (i := 12) scBook.nd rfl (Or.inl rfl)) (fun _ _ _ _ _ => pts_nil)
            (fun _ _ _ _ _ => pe_tup (pa_cons (pe_ix ix_seq (pv 12) pe_int (fun _ _ => rfl)) (pa_cons (pe_op op_sub (pe_callB call_len_seq (by rfl) B.len PySem.boot_len (pa_cons (pv 12) pa_nil)) pe_int) pa_nil)))) pa_nil)))
            (pg_tup rfl (pgs_cons (pg_name (i := 9) scBook.nd rfl (Or.inl rfl)) (pgs_cons (pg_name (i := 10) scBook.nd rfl (Or.inl rfl)) pgs_nil))))
        (pss_cons (ps_set (i := 11) scBook.nd rfl (Or.inl rfl) (pe_callTy call_tuple_of (by rfl) B2.tuple boot_tuple (pa_cons (pe_lc (own := [("_law_at", 13)]) (g := gName 13) rfl scBook.nd (pi_range1 rfl B.range (pa_cons (pv 10) pa_nil)) (blkOk_by (own := [("_law_at", 13)]) (N := nBook) (sc := defScope sBook) (by decide +kernel))
            (fun _ _ _ _ _ => pg_name (i := 13) scBook.nd rfl (Or.inl rfl)) (fun _ _ _ _ _ => pts_one (pt_cmpR op_eq (pe_call GD hr1 rfl mD kD bD .nil pass0 (pa_cons (pv 0) (pa_cons pe_int pa_nil))) pe_int (nomark _))) (fun _ _ _ _ _ => pv 13)) pa_nil)))
        (pss_one (ps_if (pt_cmpR (op_neD hu) (pv 11) (pe_tup pa_nil) (nomark _))
          (pss_one (ps_expr (pe_bm PySem.F.plainAttrs_list PySem.F.slot_list_append PySem.F.type_list_append mt_append (pv 7) (pa_cons (pe_tup (pa_cons (pv 9) (pa_cons (pv 11) pa_nil))) pa_nil)))) pss_nil)))))
      (pss_one (ps_ret (pe_tup (pa_cons (pe_tup (pa_cons (pv 6) (pa_cons (pe_callTy call_tuple_of (by rfl) B2.tuple boot_tuple (pa_cons (pv 7) pa_nil)) pa_nil))) (pa_cons (pv 4) (pa_cons (pv 5) (pa_cons (pe_slice sl_list (pv 3) (po_some pe_int) po_none) pa_nil)))))))))))), ?_⟩
    have szl : ∀ m : Nat, m ≤ 200 → m ≤ sizeLine := fun m h => by
      rw [sizeLine_eq]
      omega
    refine ⟨_, rfl, d, l, ns, k, 7, rfl, by decide, D, hn, by omega, fun rp xs G1 lx ndx wdx nrp hrp D1 f1 => ?_⟩
    obtain ⟨x0, x1, x2, x3, x4, x5, x6, rfl⟩ : ∃ x0 x1 x2 x3 x4 x5 x6, xs = [x0, x1, x2, x3, x4, x5, x6] := by
      match xs, lx with
      | [a, b, c, e, g, h, i], _ => exact ⟨a, b, c, e, g, h, i, rfl⟩
    obtain ⟨rd, rl⟩ := D.nd nrp
    -- bodies
    refine ⟨_, rfl, .inl ⟨rp, _, 0, _, rfl, rfl, .inl (.inl hrp), atI_nat (j := 0) rfl, _, rfl, d, l, ns, _, 4, rfl, by decide, by decide, D1, hn, by omega, fun w0 G2 a0 b0 D2 f2 => ⟨1, w0, rfl, rfl, szl _ (by show 2 ≤ 200; omega), fun q1 n1 => ?_⟩⟩⟩
    obtain ⟨n0, rfl⟩ : ∃ n0 : Nat, w0 = (n0 : Int) := ⟨w0.toNat, by omega⟩
    have e_n0 : ((n0 + 1 : Nat) : Int) = 1 + (n0 : Int) := by omega
    have s1 := same_new (o := .tup [.str x0, .int (1 + (n0 : Int))]) n1
    have Da := D2.same s1
    have fa := f1.trans (f2.trans (same_fr s1))
    have hrp2 := (f2.trans (same_fr s1)) _ _ rd hrp
    obtain ⟨q1d, _⟩ := D2.nd n1
    refine ⟨_, rfl, .inl ⟨rp, _, 1, _, rfl, rfl, .inl (.inl hrp2), atI_nat (j := 1) rfl, _, rfl, d, l, ns, _, 2, rfl, by decide, by decide, Da, hn, by omega, fun w1 G3 a1 b1 D3 f3 => ⟨1, w1, rfl, rfl, szl _ (by show 2 ≤ 200; omega), fun q2 n2 => ⟨szl _ (by show 2 ≤ 200; omega), fun bp nbp => ?_⟩⟩⟩⟩
    obtain ⟨m1', rfl⟩ : ∃ m1' : Nat, w1 = (m1' : Int) := ⟨w1.toNat, by omega⟩
    have e_m1 : ((m1' + 1 : Nat) : Int) = 1 + (m1' : Int) := by omega
    have s2 := (same_new (o := .tup [.str x1, .int (1 + (m1' : Int))]) n2).trans (same_new (o := .lst [.ref q1, .ref q2]) nbp)
    have Db := D3.same s2
    have fb := fa.trans (f3.trans (same_fr s2))
    have hrp3 := (f3.trans (same_fr s2)) _ _ rd hrp2
    obtain ⟨q2d, _⟩ := D3.nd n2
    obtain ⟨bpd, bpl⟩ := (D3.same (same_new (o := .tup [.str x1, .int (1 + (m1' : Int))]) n2)).nd nbp
    have hb : KsAt (upd (upd G3 q2 (.tup [.str x1, .int (1 + (m1' : Int))])) bp (.lst [.ref q1, .ref q2])) d bp [(q1, x0, n0 + 1), (q2, x1, m1' + 1)] := by
      refine ⟨upd_same, bpd, List.cons_ne_nil _ _, (by show 2 ≤ 10; omega), fun t ht => ?_⟩
      simp only [List.mem_cons, List.not_mem_nil, or_false] at ht
      rcases ht with rfl | rfl
      · refine ⟨⟨?_, wdx x0 (by simp), Nat.succ_pos _, by show n0 + 1 ≤ 4; omega⟩, q1d⟩
        show _ = some (HO.tup [.str x0, .int ((n0 + 1 : Nat) : Int)])
        rw [e_n0]
        exact (f3.trans (same_fr s2)) _ _ q1d upd_same
      · refine ⟨⟨?_, wdx x1 (by simp), Nat.succ_pos _, by show m1' + 1 ≤ 4; omega⟩, q2d⟩
        show _ = some (HO.tup [.str x1, .int ((m1' + 1 : Nat) : Int)])
        rw [e_m1]
        exact (same_new nbp) _ _ upd_same
    generalize upd (upd G3 q2 (.tup [.str x1, .int (1 + (m1' : Int))])) bp (.lst [.ref q1, .ref q2]) = G4 at Db fb hrp3 hb ⊢
    -- heads
    refine ⟨_, rfl, .inl ⟨rp, _, 2, _, rfl, rfl, .inl (.inl hrp3), atI_nat (j := 2) rfl, _, rfl, d, l, ns, _, 4, rfl, by decide, by decide, Db, hn, by omega, fun w2 G5 a2 b2 D5 f5 => ⟨1, w2, rfl, rfl, szl _ (by show 2 ≤ 200; omega), fun q3 n3 => ?_⟩⟩⟩
    obtain ⟨n4, rfl⟩ : ∃ n4 : Nat, w2 = (n4 : Int) := ⟨w2.toNat, by omega⟩
    have e_n4 : ((n4 + 1 : Nat) : Int) = 1 + (n4 : Int) := by omega
    have s3 := same_new (o := .tup [.str x2, .int (1 + (n4 : Int))]) n3
    have hrp4 := (f5.trans (same_fr s3)) _ _ rd hrp3
    obtain ⟨q3d, _⟩ := D5.nd n3
    refine ⟨_, rfl, .inl ⟨rp, _, 3, _, rfl, rfl, .inl (.inl hrp4), atI_nat (j := 3) rfl, szl _ (by show 2 ≤ 200; omega), fun q4 n4' => ⟨szl _ (by show 2 ≤ 200; omega), fun hp nhp => ?_⟩⟩⟩
    have s4 := (same_new (o := .tup [.str x3, .int 2]) n4').trans (same_new (o := .lst [.ref q3, .ref q4]) nhp)
    have D6 := (D5.same s3).same s4
    have f46 := f5.trans (same_fr (s3.trans s4))
    have f6 := fb.trans f46
    obtain ⟨q4d, _⟩ := (D5.same s3).nd n4'
    obtain ⟨hpd, hpl⟩ := ((D5.same s3).same (same_new (o := .tup [.str x3, .int 2]) n4')).nd nhp
    have hh : KsAt (upd (upd (upd G5 q3 (.tup [.str x2, .int (1 + (n4 : Int))])) q4 (.tup [.str x3, .int 2])) hp (.lst [.ref q3, .ref q4])) d hp [(q3, x2, n4 + 1), (q4, x3, 2)] := by
      refine ⟨upd_same, hpd, List.cons_ne_nil _ _, (by show 2 ≤ 10; omega), fun t ht => ?_⟩
      simp only [List.mem_cons, List.not_mem_nil, or_false] at ht
      rcases ht with rfl | rfl
      · refine ⟨⟨?_, wdx x2 (by simp), Nat.succ_pos _, by show n4 + 1 ≤ 4; omega⟩, q3d⟩
        show _ = some (HO.tup [.str x2, .int ((n4 + 1 : Nat) : Int)])
        rw [e_n4]
        exact s4 _ _ upd_same
      · exact ⟨⟨(same_new nhp) _ _ upd_same, wdx x3 (by simp), (by show 0 < 2; omega), (by show 2 ≤ 4; omega)⟩, q4d⟩
    have hb6 := hb.fr f46
    have hrp6 := f46 _ _ rd hrp3
    generalize upd (upd (upd G5 q3 (.tup [.str x2, .int (1 + (n4 : Int))])) q4 (.tup [.str x3, .int 2])) hp (.lst [.ref q3, .ref q4]) = G6 at D6 f6 hb6 hh hrp6 ⊢
    generalize hbks : [(q1, x0, n0 + 1), (q2, x1, m1' + 1)] = bks at hb6
    generalize hhks : [(q3, x2, n4 + 1), (q4, x3, 2)] = hks at hh
    have nds : (bks.map (·.2.1) ++ hks.map (·.2.1) ++ [x4, x5, x6]).Nodup := by
      rw [← hbks, ← hhks]
      exact ndx
    clear hb hrp4 hrp3 hrp2 hrp fb fa
    -- rules
    refine ⟨_, rfl, _, rfl, d, l, ns, _, (m : Int), rfl, by omega, by omega, D6, hn, by omega, fun c0 G7 c1 c2 D7 f7 => ⟨1, c0, rfl, rfl, 1 + c0, rfl, by omega, by omega, fun Dn nD => ?_⟩⟩
    obtain ⟨c, rfl⟩ : ∃ c : Nat, c0 = (c : Int) := ⟨c0.toNat, by omega⟩
    have D7' : Deck G7 d l ns (k + 70) := D7.mono (by omega)
    obtain ⟨nDd, nDl⟩ := D7.nd nD
    obtain ⟨us7, hd7⟩ := D7.lst
    have hrp7 := f7 _ _ rd hrp6
    have hb7 := hb6.fr f7
    have hh7 := hh.fr f7
    have rpD : rp ≠ Dn := ne_of_none hrp7 nD
    refine lc_range (lo := 0) (n := (1 + (c : Int)).toNat) (fun u G => ∃ (vs : List V) (rs : List Rl), G Dn = some (.lst vs) ∧ DpAll K G vs (rs.map ruleD) ∧ rs.length = u ∧ (∀ r ∈ rs, RlOk r ∧ (∀ k ∈ r.1, Of bks k) ∧ ∀ k ∈ r.2, Of hks k) ∧ Deck G d l ns (k + 70 + 110 * u) ∧ (∀ b o, b ≠ d → b ≠ Dn → G7 b = some o → G b = some o))
      ⟨[], [], upd_same, .nil, rfl, (fun r h => nomatch h), D7'.same (same_new nD), fun b o _ h2 h => by rw [upd_ne h2]; exact h⟩ ?_ ?_
    · rintro u G hu2 ⟨vs, rs, g1, g2, g3, g4, g5, g6⟩
      have lvs : vs.length = u := by
        have z := dps_len g2
        rw [List.length_map] at z
        omega
      refine ⟨rfl, ?_⟩
      dsimp only [tYes]
      rw [if_pos rfl]
      refine ⟨_, rfl, _, rfl, _, rfl, _, rfl, 4, rfl, rp, _, rfl, .inl (.inl (g6 _ _ rd rpD hrp7)), fun qq nq => ?_⟩
      have ec : cutV (([x0, x1, x2, x3, x4, x5, x6] : List Str).map V.str) (some 4) none = ([x4, x5, x6] : List Str).map V.str := cut_dropN [x0, x1, x2, x3, x4, x5, x6] 4 (by show 4 ≤ 7; omega)
      rw [ec]
      have sq := same_new (o := .lst (([x4, x5, x6] : List Str).map V.str)) nq
      obtain ⟨qd, _⟩ := g5.nd nq
      refine ⟨_, rfl, d, l, ns, k + 70 + 110 * u, bp, hp, qq, bks, hks, [x4, x5, x6], rfl, g5.same sq, hn, by omega, (hb7.but nD g6).fr (same_fr sq), (hh7.but nD g6).fr (same_fr sq), upd_same, qd, (by show 2 ≤ 3; omega), (by show 3 ≤ 10; omega), fun x hx => (wdx x ?_).vl, fun v r H2 dv ok ob oh D2 f2 => ?_⟩
      · simp only [List.mem_cons, List.not_mem_nil, or_false] at hx ⊢
        rcases hx with h | h | h
        · exact .inr (.inr (.inr (.inr (.inl h))))
        · exact .inr (.inr (.inr (.inr (.inr (.inl h)))))
        · exact .inr (.inr (.inr (.inr (.inr (.inr h)))))
      · have g1' := f2 _ _ nDd (sq _ _ g1)
        have ts : TS G (upd H2 Dn (.lst (vs ++ [v]))) := (same_ts sq).trans ((deck_ts (g5.same sq) f2).trans (upd_ts g1'))
        refine ⟨vs, g1', szl _ (by omega), vs ++ [v], rs ++ [r], upd_same, ?_, by rw [List.length_append, g3]; rfl, fun r2 hr2' => ?_, (D2.upd nDd nDl).mono (by omega), fun b o h1 h2 h => ?_⟩
        · rw [List.map_append]
          exact dps_app (dps_ts ts _ _ (tup_all fun d2 h2 => by
            obtain ⟨r2, _, rfl⟩ := List.mem_map.mp h2
            exact tup_r r2) g2) (.cons (dp_ts (upd_ts g1') _ _ (tup_r r) dv) .nil)
        · rcases List.mem_append.mp hr2' with h | h
          · exact g4 r2 h
          · rw [List.mem_singleton.mp h]
            exact ⟨ok, ob, oh⟩
        · rw [upd_ne h2]
          exact f2 _ _ h1 (sq _ _ (g6 b o h1 h2 h))
    rintro G8 ⟨vs, rs, g1, g2, g3, g4, g5, g6⟩
    have g3' : 1 ≤ rs.length ∧ rs.length ≤ m := by omega
    refine ⟨Dn, vs, rfl, .inl ⟨.inl (.inl g1), fun rt nrt => ?_⟩⟩
    have s8 := same_new (o := .tup vs) nrt
    have dR : Dp K (upd G8 rt (.tup vs)) (.ref rt) (.tuple (rs.map ruleD)) := .tup (.inl (.inl upd_same)) (dps_same s8 _ _ g2)
    have D8 : Deck (upd G8 rt (.tup vs)) d l ns (k + 520) := (g5.same s8).mono (by omega)
    have b8 : KsAt (upd G8 rt (.tup vs)) d bp bks := (hb7.but nD g6).fr (same_fr s8)
    have h8 : KsAt (upd G8 rt (.tup vs)) d hp hks := (hh7.but nD g6).fr (same_fr s8)
    have hrp8 := s8 _ _ (g6 _ _ rd rpD hrp7)
    have f08 : Fr d H (upd G8 rt (.tup vs)) := fun b o h1 h => s8 _ _ (g6 b o h1 (ne_of_none ((f6.trans f7) _ _ h1 h) nD) ((f6.trans f7) _ _ h1 h))
    generalize upd G8 rt (.tup vs) = G9 at dR D8 b8 h8 hrp8 f08 ⊢
    clear g1 g2 g5 g6 hb7 hh7 hrp7 f7 D7 D7' hd7 hrp6 hb6 hh f6 D6
    -- keys
    refine ⟨szl _ (by show 0 ≤ 200; omega), fun kp nkp => ?_⟩
    obtain ⟨kd, kl⟩ := D8.nd nkp
    have s9 := same_new (o := .lst []) nkp
    refine ⟨_, rfl, d, l, ns, k + 520, 4, rfl, by decide, by decide, D8.same s9, hn, by omega, fun c3 G10 c4 c5 D10 f10 => ?_⟩
    obtain ⟨c3, rfl⟩ : ∃ c' : Nat, c3 = (c' : Int) := ⟨c3.toNat, by omega⟩
    have hk10 := f10 _ _ kd (upd_same (H := G9) (a := kp) (o := .lst []))
    have dR10 : Dp K G10 (.ref rt) (.tuple (rs.map ruleD)) := dp_ts ((same_ts s9).trans (deck_ts (D8.same s9) f10)) _ _ (tup_rs rs) dR
    have f9' := (same_fr (d := d) s9).trans f10
    obtain ⟨r0, rr, ers⟩ : ∃ r0 rr, rs = r0 :: rr := by
      cases rs with
      | nil => exact absurd g3'.1 (by decide)
      | cons a r => exact ⟨a, r, rfl⟩
    refine ⟨c3, rfl, by omega, by omega, for_range (n := c3) (fun i σ G => ∃ (kvs : List V) (ks : List Ky) (v8 v9 v10 v11 : Option V), σ = [some (.ref d), some (.int (m : Int)), some (.int 2), some (.ref rp), some (.ref bp), some (.ref hp), some (.ref rt), some (.ref kp), v8, v9, v10, v11, none, none] ∧
        G kp = some (.lst kvs) ∧ DpAll K G kvs (ks.map keyD) ∧ ks.length ≤ i ∧ (∀ y ∈ ks, KyOk y) ∧ Deck G d l ns (k + 521 + 10 * i) ∧ (∀ b o, b ≠ d → b ≠ kp → G10 b = some o → G b = some o))
      ⟨[], [], none, none, none, none, rfl, hk10, .nil, Nat.le_refl _, (fun y h => nomatch h), D10, fun b o _ _ h => h⟩ ?_ ?_⟩
    · rintro i σ G hi ⟨kvs, ks, v8, v9, v10, v11, rfl, gk, gd, gl, gy, DG, fG⟩
      have lkv : kvs.length = ks.length := by
        have z := dps_len gd
        rw [List.length_map] at z
        exact z
      obtain ⟨us, hdG⟩ := D10.lst
      have tsG : TS G10 G := fun b o c h => fG b o (fun e => by
        rw [e, hdG] at h
        exact c us (Option.some.inj h).symm) (fun e => by
        rw [e, hk10] at h
        exact c [] (Option.some.inj h).symm) h
      have dG := dp_ts tsG _ _ (tup_rs rs) dR10
      rw [ers, List.map_cons] at dG
      obtain ⟨rt', vs', e1, hsR, haR⟩ := dpT dG
      cases e1
      cases haR with
      | @cons v0 _ vr _ dr0 _ =>
      obtain ⟨ra, rvs, rfl, hsr, har⟩ := dpT dr0
      cases har with
      | @cons vb0 _ _ _ db0 har =>
      cases har with
      | @cons vh0 _ _ _ dh0 har =>
      cases har
      obtain ⟨ha, L, rfl, hsH, eL, hL⟩ := dpRows dh0
      have ok0 := (g4 r0 (by rw [ers]; exact List.mem_cons_self)).1
      have ok3 : r0.2.length ≤ 3 := ok0.2.2.1
      have ok1 : 1 ≤ r0.2.length := ok0.2.1
      have lL : L.length = r0.2.length := by
        have z := congrArg List.length eL
        rw [List.length_map] at z
        exact z
      have nar : ∀ t ∈ L, Nar t.2 := fun t ht => ok0.2.2.2 t.2 (by rw [← eL]; exact List.mem_map_of_mem ht)
      refine ⟨_, rfl, _, rfl, .inr (.inl ⟨rt, _, 0, _, rfl, rfl, hsR, atI_nat (j := 0) rfl, .inr (.inl ⟨ra, _, 1, _, rfl, rfl, hsr, atI_nat (j := 1) rfl, ha, rfl, ⟨_, hsH⟩, fun Dq nDq => ?_⟩)⟩)⟩
      refine lc_tup (K := K) (xs := L.map fun q => V.ref q.1) (fun j G' => ∃ M : List (Addr × Str × Int), G' Dq = some (.lst (M.map fun t => V.ref t.1)) ∧ M.length = j ∧ (∀ t ∈ M, G' t.1 = some (.tup [.str t.2.1, .int t.2.2]) ∧ Vl t.2.1 ∧ 1 ≤ t.2.2 ∧ t.2.2 ≤ 4) ∧ Same G G')
        ⟨[], upd_same, rfl, (fun t h => nomatch h), same_new nDq⟩ (fun j G' _ ⟨_, _, _, _, sm⟩ => same_seqT sm hsH) ?_ ?_
      · rintro j v G' hv ⟨M, m1', m2', m3', m4'⟩
        obtain ⟨t, ht, rfl⟩ : ∃ t, L[j]? = some t ∧ V.ref t.1 = v := by
          rw [List.getElem?_map] at hv
          exact Option.map_eq_some_iff.mp hv
        have mt : t ∈ L := List.mem_of_getElem? ht
        have hj : j < L.length := (List.getElem?_eq_some_iff.mp ht).1
        obtain ⟨n2, n5, nv⟩ := nar t mt
        obtain ⟨x, ws, ex⟩ : ∃ x ws, t.2 = x :: ws := by
          cases z : t.2 with
          | nil =>
            rw [z] at n2
            exact absurd n2 (by decide)
          | cons a b => exact ⟨a, b, rfl⟩
        have hq := same_seqT m4' (hL t mt)
        rw [ex] at hq n2 n5 nv
        refine ⟨rfl, ?_⟩
        dsimp only [tYes]
        rw [if_pos rfl]
        refine ⟨_, rfl, .inr (.inl ⟨t.1, _, 0, _, rfl, rfl, hq, atI_nat (j := 0) rfl, _, rfl, t.1, _, rfl, .inr hq, _, 1, rfl, rfl, szl _ (by show 2 ≤ 200; omega), fun pp npp => ?_⟩)⟩
        have Dqp : Dq ≠ pp := ne_of_none m1' npp
        refine ⟨_, by rw [upd_ne Dqp]; exact m1', by rw [List.length_map, sizeLine_eq]; omega, M ++ [(pp, x, (((x :: ws).map V.str).length : Int) - 1)], by rw [upd_same, List.map_append]; rfl, by rw [List.length_append, m2']; rfl, fun t2 ht2 => ?_, same_add nDq m4' npp⟩
        rcases List.mem_append.mp ht2 with ht2 | ht2
        · obtain ⟨z1, z2⟩ := m3' t2 ht2
          refine ⟨?_, z2⟩
          rw [upd_ne (fun e => by rw [e, m1'] at z1; cases z1), upd_ne (ne_of_none z1 npp)]
          exact z1
        · rw [List.mem_singleton.mp ht2]
          refine ⟨by rw [upd_ne (Ne.symm Dqp)]; exact upd_same, nv x List.mem_cons_self, ?_, ?_⟩
          · show (1 : Int) ≤ (((x :: ws).map V.str).length : Int) - 1
            rw [List.length_map]
            omega
          · show (((x :: ws).map V.str).length : Int) - 1 ≤ 4
            rw [List.length_map]
            omega
      rintro G' ⟨M, m1', m2', m3', m4'⟩
      rw [List.length_map] at m2'
      have DG' := DG.same m4'
      obtain ⟨Dqd, _⟩ := DG.nd nDq
      refine ⟨d, l, ns, _, _, rfl, DG', hn, by omega, .inl ⟨Dq, _, rfl, Dqd, .inl (.inl (.inl (off_at Dqd m1'))), (fun z => ?_), (by rw [List.length_map, m2', lL]; omega), fun j v G2 hv D2 f2 => ?_⟩⟩
      · have e := congrArg List.length z
        rw [List.length_map, m2', lL] at e
        rw [List.length_nil] at e
        omega
      obtain ⟨t, ht, rfl⟩ : ∃ t, M[j]? = some t ∧ V.ref t.1 = v := by
        rw [List.getElem?_map] at hv
        exact Option.map_eq_some_iff.mp hv
      obtain ⟨t1, t2, t3, t4⟩ := m3' t (List.mem_of_getElem? ht)
      have td : t.1 ≠ d := fun e => by
        obtain ⟨us, z⟩ := DG'.lst
        rw [e, z] at t1
        cases t1
      refine ⟨t.1, _, rfl, .inl (.inl (f2 _ _ td t1)), rfl, _, _, rfl, _, _, rfl, rfl, ?_⟩
      -- the columns
      refine ⟨_, rfl, t.2.2, rfl, by omega, by omega, fun Dc nDc => ?_⟩
      obtain ⟨cd, cl⟩ := D2.nd nDc
      refine lc_range (lo := 0) (n := t.2.2.toNat) (fun u G3 => ∃ cs : List Nat, G3 Dc = some (.lst (colsV cs)) ∧ cs.length ≤ u ∧ Deck G3 d l ns (k + 521 + 10 * i + 1 + u) ∧ (∀ b o, b ≠ d → b ≠ Dc → G2 b = some o → G3 b = some o))
        ⟨[], upd_same, Nat.le_refl _, D2.same (same_new nDc), fun b o _ h2 h => by rw [upd_ne h2]; exact h⟩ ?_ ?_
      · rintro u G3 hu3 ⟨cs, c1', c2', c3', c4'⟩
        refine ⟨rfl, ?_⟩
        refine ⟨_, rfl, d, l, ns, _, 2, rfl, by decide, by decide, c3', hn, by omega, fun v H2 hv0 hv1 D4 f4 => ⟨rfl, _, rfl, ite2 (fun _ => ?_) fun _ => ?_⟩⟩
        · refine ⟨_, rfl, _, f4 _ _ cd c1', by rw [List.length_map, sizeLine_eq]; omega, cs ++ [u], by rw [upd_same, Int.zero_add]; unfold colsV; rw [List.map_append]; rfl, by rw [List.length_append]; exact Nat.succ_le_succ c2', (D4.upd cd cl).mono (by omega), fun b o h1 h2 h => ?_⟩
          rw [upd_ne h2]
          exact f4 _ _ h1 (c4' b o h1 h2 h)
        · exact ⟨cs, f4 _ _ cd c1', by omega, D4.mono (by omega), fun b o h1 h2 h => f4 _ _ h1 (c4' b o h1 h2 h)⟩
      rintro G3 ⟨cs, c1', c2', c3', c4'⟩
      refine ⟨Dc, _, rfl, .inl ⟨.inl (.inl c1'), fun ct nct => ?_⟩⟩
      have sct := same_new (o := .tup (colsV cs)) nct
      have D4 := c3'.same sct
      -- what stays from G on
      have fA : ∀ b o, b ≠ d → G b = some o → upd G3 ct (.tup (colsV cs)) b = some o := fun b o h1 h => sct _ _ (c4' b o h1 (fun e => by
        have z := f2 _ _ h1 (m4' _ _ h)
        rw [e, nDc] at z
        cases z) (f2 _ _ h1 (m4' _ _ h)))
      have hct : upd G3 ct (.tup (colsV cs)) ct = some (.tup (colsV cs)) := upd_same
      generalize upd G3 ct (.tup (colsV cs)) = G4 at D4 fA hct ⊢
      refine ⟨_, rfl, szl _ (by show 0 ≤ 200; omega), fun pe npe => ?_⟩
      have se := same_new (o := .tup []) npe
      refine ⟨colsD cs, .tuple [], .tup (.inl (.inl (se _ _ hct))) (dps_cols cs), .tup (.inl (.inl upd_same)) .nil, cols_shaped cs, (by decide +kernel), _, rfl, ?_⟩
      rw [cols_nil]
      have D5 := D4.same se
      have fB : ∀ b o, b ≠ d → G b = some o → upd G4 pe (.tup []) b = some o := fun b o h1 h => se _ _ (fA b o h1 h)
      have hct5 := se _ _ hct
      generalize upd G4 pe (.tup []) = G5 at D5 fB hct5 ⊢
      have gk5 := fB _ _ kd gk
      have tsB : TS G G5 := fun b o c h => fB b o (fun e => by
        obtain ⟨us, z⟩ := DG.lst
        rw [e, z] at h
        exact c us (Option.some.inj h).symm) h
      have gd5 : DpAll K G5 kvs (ks.map keyD) := dps_ts tsB _ _ (tup_all fun d2 h2 => by
        obtain ⟨y, _, rfl⟩ := List.mem_map.mp h2
        exact tup_k y) gd
      refine ite2 (fun c => ?_) fun c => ?_
      · have hne : cs ≠ [] := fun e => by
          rw [e] at c
          cases c
        refine ⟨_, rfl, .inl ⟨rfl, _, .inl (.inl gk5)⟩, _, rfl, _, rfl, szl _ (by show 2 ≤ 200; omega), fun ky nky => ?_⟩
        have sk := same_new (o := .tup [.str t.2.1, .ref ct]) nky
        have gk6 := sk _ _ gk5
        refine ⟨kp, _, _, rfl, rfl, gk6, by rw [sizeLine_eq]; omega, kvs ++ [.ref ky], ks ++ [(t.2.1, cs)], _, _, _, _, rfl, upd_same, ?_, by rw [List.length_append]; exact Nat.succ_le_succ gl, fun y hy => ?_, ((D5.same sk).upd kd kl).mono (by omega), fun b o h1 h2 h => ?_⟩
        · rw [List.map_append]
          have tsk : TS G5 (upd (upd G5 ky (.tup [.str t.2.1, .ref ct])) kp (.lst (kvs ++ [.ref ky]))) := (same_ts sk).trans (upd_ts gk6)
          refine dps_app (dps_ts tsk _ _ (tup_all fun d2 h2 => by
            obtain ⟨y, _, rfl⟩ := List.mem_map.mp h2
            exact tup_k y) gd5) (.cons (.tup (.inl (.inl ?_)) (.cons (.str _) (.cons (dp_ts tsk _ _ (tup_c cs) (.tup (.inl (.inl hct5)) (dps_cols cs))) .nil))) .nil)
          rw [upd_ne (fun e => by rw [e] at nky; rw [nky] at gk5; cases gk5)]
          exact upd_same
        · rcases List.mem_append.mp hy with hy | hy
          · exact gy y hy
          · rw [List.mem_singleton.mp hy]
            refine ⟨t2, List.length_pos_iff.mpr hne, ?_⟩
            show cs.length ≤ 4
            omega
        · rw [upd_ne h2]
          exact sk _ _ (fB b o h1 (fG b o h1 h2 h))
      · exact ⟨kvs, ks, _, _, _, _, rfl, gk5, gd5, by omega, gy, D5.mono (by omega), fun b o h1 h2 h => fB b o h1 (fG b o h1 h2 h)⟩
    · rintro σ G ⟨kvs, ks, v8, v9, v10, v11, rfl, gk, gd, gl, gy, DG, fG⟩
      obtain ⟨us, hdG⟩ := D10.lst
      have tsG : TS G10 G := fun b o c h => fG b o (fun e => by
        rw [e, hdG] at h
        exact c us (Option.some.inj h).symm) (fun e => by
        rw [e, hk10] at h
        exact c [] (Option.some.inj h).symm) h
      have dG := dp_ts tsG _ _ (tup_rs rs) dR10
      have fGb : ∀ b o, b ≠ d → b ≠ kp → G9 b = some o → G b = some o := fun b o h1 h2 h => fG b o h1 h2 (f9' _ _ h1 h)
      have rpk : rp ≠ kp := ne_of_none hrp8 nkp
      have lkv : kvs.length = ks.length := by
        have z := dps_len gd
        rw [List.length_map] at z
        exact z
      refine ⟨_, rfl, _, rfl, kp, kvs, rfl, .inl ⟨.inl (.inl gk), fun kt nkt => ⟨szl _ (by show 2 ≤ 200; omega), fun bk nbk => ?_⟩⟩⟩
      have sA := (same_new (o := .tup kvs) nkt).trans (same_new (o := .tup [.ref rt, .ref kt]) nbk)
      refine ⟨_, rfl, _, rfl, _, rfl, 4, rfl, rp, _, rfl, .inl (.inl (sA _ _ (fGb _ _ rd rpk hrp8))), fun wp nwp => ⟨szl _ (by show 4 ≤ 200; omega), fun pp npp => ?_⟩⟩
      have ec : cutV (([x0, x1, x2, x3, x4, x5, x6] : List Str).map V.str) (some 4) none = ([x4, x5, x6] : List Str).map V.str := cut_dropN [x0, x1, x2, x3, x4, x5, x6] 4 (by show 4 ≤ 7; omega)
      rw [ec]
      have sW := same_new (o := .lst (([x4, x5, x6] : List Str).map V.str)) nwp
      have sP := same_new (o := .tup [.ref bk, .ref bp, .ref hp, .ref wp]) npp
      obtain ⟨wpd, _⟩ := (DG.same sA).nd nwp
      have hbk := sP _ _ (sW _ _ (upd_same (H := upd G kt (.tup kvs)) (a := bk) (o := .tup [.ref rt, .ref kt])))
      have hkt := sP _ _ (sW _ _ ((same_new (o := .tup [.ref rt, .ref kt]) nbk) _ _ (upd_same (H := G) (a := kt) (o := .tup kvs))))
      have hwp := sP _ _ (upd_same (H := upd (upd G kt (.tup kvs)) bk (.tup [.ref rt, .ref kt])) (a := wp) (o := .lst (([x4, x5, x6] : List Str).map V.str)))
      have sF := sA.trans (sW.trans sP)
      refine q pp bp hp wp (.ref bk) bks hks [x4, x5, x6] rs ks _ (.inl (.inl upd_same)) (.tup (.inl (.inl hbk)) (.cons (dp_same sF _ _ dG) (.cons (.tup (.inl (.inl hkt)) (dps_same sF _ _ gd)) .nil))) g3'.1 g3'.2 (by omega) gy ?_ ((DG.same sF).mono (by omega)) ?_
      · exact ⟨(b8.but nkp fGb).fr (same_fr sF), (h8.but nkp fGb).fr (same_fr sF), ⟨hwp, wpd⟩, fun x hx => wdx x (by
          simp only [List.mem_cons, List.not_mem_nil, or_false] at hx ⊢
          rcases hx with h | h | h
          · exact .inr (.inr (.inr (.inr (.inl h))))
          · exact .inr (.inr (.inr (.inr (.inr (.inl h)))))
          · exact .inr (.inr (.inr (.inr (.inr (.inr h)))))), nds, g4⟩
      · exact fun b o h1 h => sF _ _ (fGb b o h1 (ne_of_none (f08 _ _ h1 h) nkp) (f08 _ _ h1 h))
end
end My

/-! HF: heads, widths, keys that follow -/
namespace My
open PySem PySem.Spec PyProof.Rows L2
open TL (tl len_tl tl_append)
/-- the inner clause of a list comprehension, over a tuple -/
theorem in2_tup {K : PySem.W.Frag} {b : Addr} {ys : List V} {g1 : TG} {tt1 : TT} {te : TE} {vs1 : List Nat} {σ2 : L2.St} {H4 : Hp} {D : Addr} {Nx : Hp → Prop} (Pw : Nat → Hp → Prop) (h0 : Pw 0 H4) (hl : ∀ j H, Pw j H → SqT K H b ys)
    (hs : ∀ j y H, ys[j]? = some y → Pw j H → g1 y (wipe σ2 vs1) H fun σ3 H5 => wipe σ3 vs1 = wipe σ2 vs1 ∧ tt1 σ3 H5 fun b H6 =>
      if b = true then te σ3 H6 fun y H7 => ∃ acc, H7 D = some (.lst acc) ∧ acc.length < sizeLine ∧ Pw (j + 1) (upd H7 D (.lst (acc ++ [y]))) else Pw (j + 1) H6) (hd : ∀ H, Pw ys.length H → Nx H) :
    ∃ W1 : Nat → Nat → Hp → Prop, (∃ m, W1 0 m H4) ∧ ∀ j k H, W1 j k H →
      ((Itt K b).stop j H ∧ Nx H) ∨ ((Itt K b).go j H ∧ ∃ Nx1 : Hp → Prop, (∀ H', Nx1 H' → ∃ k', k' < k ∧ W1 (j + 1) k' H') ∧ ∀ x H', (Itt K b).yld j H x H' → g1 x (wipe σ2 vs1) H' fun σ3 H5 => wipe σ3 vs1 = wipe σ2 vs1 ∧ tt1 σ3 H5 fun b H6 =>
        if b = true then te σ3 H6 fun y H7 => ∃ acc, H7 D = some (.lst acc) ∧ acc.length < sizeLine ∧ Nx1 (upd H7 D (.lst (acc ++ [y]))) else Nx1 H6) := by
  refine ⟨fun i m H => m = ys.length - i ∧ i ≤ ys.length ∧ Pw i H, ⟨_, rfl, Nat.zero_le _, h0⟩, ?_⟩
  rintro i m H ⟨rfl, hi, p⟩
  have q := hl i H p
  by_cases hlt : i < ys.length
  · refine .inr ⟨⟨ys, ys[i], q, by simp [hlt]⟩, Pw (i + 1), fun H' p' => ⟨ys.length - (i + 1), by omega, rfl, hlt, p'⟩, fun x H' y => ?_⟩
    obtain ⟨e, y⟩ := y
    subst e
    exact hs i x _ (y ys q) p
  · have e : i = ys.length := by omega
    subst e
    exact .inl ⟨⟨ys, q, Nat.le_refl _⟩, hd H p⟩
/-- two clauses, both over tuples -/
theorem lc2_tup {K : PySem.W.Frag} {a : Addr} {xs : List V} {g g1 : TG} {tt tt1 : TT} {wi1 : TI} {te : TE} {vs vs1 : List Nat} {σ : L2.St} {H1 : Hp} {D : Addr} {Last : Hp → Prop} (Pv : Nat → Hp → Prop) (h0 : Pv 0 (upd H1 D (.lst []))) (hl : ∀ i H, Pv i H → SqT K H a xs)
    (hs : ∀ i x H, xs[i]? = some x → Pv i H → g x (wipe σ vs) H fun σ2 H2 => wipe σ2 vs = wipe σ vs ∧ tt σ2 H2 fun b H3 =>
      if b = true then wi1 σ2 H3 fun J1 H4 => ∃ W1 : Nat → Nat → Hp → Prop, (∃ m, W1 0 m H4) ∧ ∀ j k H, W1 j k H →
        (J1.stop j H ∧ Pv (i + 1) H) ∨ (J1.go j H ∧ ∃ Nx1 : Hp → Prop, (∀ H', Nx1 H' → ∃ k', k' < k ∧ W1 (j + 1) k' H') ∧ ∀ x H', J1.yld j H x H' → g1 x (wipe σ2 vs1) H' fun σ3 H5 => wipe σ3 vs1 = wipe σ2 vs1 ∧ tt1 σ3 H5 fun b H6 =>
          if b = true then te σ3 H6 fun y H7 => ∃ acc, H7 D = some (.lst acc) ∧ acc.length < sizeLine ∧ Nx1 (upd H7 D (.lst (acc ++ [y]))) else Nx1 H6)
      else Pv (i + 1) H3) (hd : ∀ H, Pv xs.length H → Last H) :
    ∃ W : Nat → Nat → Hp → Prop, (∃ m, W 0 m (upd H1 D (.lst []))) ∧ ∀ i m H, W i m H →
      ((Itt K a).stop i H ∧ Last H) ∨ ((Itt K a).go i H ∧ ∃ Nx : Hp → Prop, (∀ H', Nx H' → ∃ m', m' < m ∧ W (i + 1) m' H') ∧ ∀ x H', (Itt K a).yld i H x H' → g x (wipe σ vs) H' fun σ2 H2 => wipe σ2 vs = wipe σ vs ∧ tt σ2 H2 fun b H3 =>
        if b = true then wi1 σ2 H3 fun J1 H4 => ∃ W1 : Nat → Nat → Hp → Prop, (∃ m, W1 0 m H4) ∧ ∀ j k H, W1 j k H →
          (J1.stop j H ∧ Nx H) ∨ (J1.go j H ∧ ∃ Nx1 : Hp → Prop, (∀ H', Nx1 H' → ∃ k', k' < k ∧ W1 (j + 1) k' H') ∧ ∀ x H', J1.yld j H x H' → g1 x (wipe σ2 vs1) H' fun σ3 H5 => wipe σ3 vs1 = wipe σ2 vs1 ∧ tt1 σ3 H5 fun b H6 =>
            if b = true then te σ3 H6 fun y H7 => ∃ acc, H7 D = some (.lst acc) ∧ acc.length < sizeLine ∧ Nx1 (upd H7 D (.lst (acc ++ [y]))) else Nx1 H6)
        else Nx H3) := by
  refine ⟨fun i m H => m = xs.length - i ∧ i ≤ xs.length ∧ Pv i H, ⟨_, rfl, Nat.zero_le _, h0⟩, ?_⟩
  rintro i m H ⟨rfl, hi, p⟩
  have q := hl i H p
  by_cases hlt : i < xs.length
  · refine .inr ⟨⟨xs, xs[i], q, by simp [hlt]⟩, Pv (i + 1), fun H' p' => ⟨xs.length - (i + 1), by omega, rfl, hlt, p'⟩, fun x H' y => ?_⟩
    obtain ⟨e, y⟩ := y
    subst e
    exact hs i x _ (y xs q) p
  · have e : i = xs.length := by omega
    subst e
    exact .inl ⟨⟨xs, q, Nat.le_refl _⟩, hd H p⟩
def headsL (rs : List Rl) : List Atm := rs.flatMap (·.2)
def spHeads (K : PySem.W.Frag) : Sp := fun vs H Q _ => ∃ (v : V) (rs : List Rl), vs = [v] ∧ Dp K H v (.tuple (rs.map ruleD)) ∧ rs.length ≤ 20 ∧ (∀ r ∈ rs, RlOk r) ∧ ∀ (v' : V) (H' : Hp), Dp K H' v' (sD (headsL rs)) → Same H H' → Q v' H'
def spWidths (K : PySem.W.Frag) : Sp := fun vs H Q _ => ∃ (v : V) (L : List Atm), vs = [v] ∧ Dp K H v (sD L) ∧ L.length ≤ 100 ∧ (∀ k ∈ L, Nar k) ∧ (∀ k ∈ L, ∀ k' ∈ L, k.head? = k'.head? → k.length = k'.length) ∧
  ∀ (t : Addr) (kvs : List (Key × V)) (H' : Hp), H' t = some (.dK kvs) → (∀ k ∈ L, ∀ x, k.head? = some x → valV kvs (.inr x) = some (.int ((k.length : Int) - 1))) → Same H H' → Q (.ref t) H'
def hasAllB (cs rs : List Nat) : Bool := rs.all fun c => decide (c ∈ cs)
def spHasAll (K : PySem.W.Frag) : Sp := fun vs H Q _ => ∃ (v v' : V) (cs rs : List Nat), vs = [v, v'] ∧ Dp K H v (colsD cs) ∧ Dp K H v' (colsD rs) ∧ rs.length ≤ 100 ∧ ∀ H', Same H H' → Q (.bl (hasAllB cs rs)) H'
def keyHB (ks : List Ky) (nm : Str) (cs : List Nat) (w : Int) : Bool := decide ((cs.length : Int) = w) || ks.any fun y => decide (y.1 = nm) && hasAllB cs y.2
def spKeyH (K : PySem.W.Frag) : Sp := fun vs H Q _ => ∃ (v v' : V) (t : Addr) (ks : List Ky) (nm : Str) (cs : List Nat) (kvs : List (Key × V)) (wd : Int), vs = [v, v', .ref t] ∧ Dp K H v (.tuple (ks.map keyD)) ∧ Dp K H v' (keyD (nm, cs)) ∧ ks.length ≤ 20 ∧ (∀ y ∈ ks, y.2.length ≤ 100) ∧
  H t = some (.dK kvs) ∧ valV kvs (.inr nm) = some (.int wd) ∧ ∀ H', Same H H' → Q (.bl (keyHB ks nm cs wd)) H'
def spKeyF (K : PySem.W.Frag) : Sp := fun vs H Q _ => ∃ (v v' : V) (rs : List Rl) (ks : List Ky) (nm : Str) (cs : List Nat) (wd : Nat), vs = [v, v'] ∧ Dp K H v (bookD rs ks) ∧ Dp K H v' (keyD (nm, cs)) ∧ rs.length ≤ 20 ∧ ks.length ≤ 20 ∧ (∀ r ∈ rs, RlOk r) ∧ (∀ y ∈ ks, y.2.length ≤ 100) ∧
  (∀ k ∈ headsL rs, ∀ k' ∈ headsL rs, k.head? = k'.head? → k.length = k'.length) ∧ (∃ k ∈ headsL rs, k.head? = some nm ∧ k.length = wd + 1) ∧ ∀ H', Same H H' → Q (.bl (keyHB ks nm cs (wd : Int))) H'
section
variable {P : Program} {w : World} {K : PySem.W.Frag} {mg : Str → Option Value} {base : Heap}
theorem scHasAll : FnScope ["columns", "row", "column"] ["columns", "row"] (defScope sHasAll) := ⟨rfl, rfl, rfl, by decide +kernel, rfl, by decide +kernel, by decide +kernel⟩
theorem cols_in (cs : List Nat) (c : Nat) : inV (.int (c : Int)) (colsV cs) = decide (c ∈ cs) := by
  unfold inV colsV
  rw [List.any_map, Bool.eq_iff_iff, List.any_eq_true, decide_eq_true_eq]
  constructor
  · rintro ⟨x, hx, h⟩
    have e : (x : Int) = c := by simpa [eqV] using h
    have e2 : x = c := by omega
    rw [← e2]
    exact hx
  · intro h
    exact ⟨c, h, by simp [eqV]⟩
theorem cols_flat (cs : List Nat) : (colsV cs).all flatV = true := by
  unfold colsV
  rw [List.all_map, List.all_eq_true]
  intro c _
  rfl
theorem dpCols {H : Hp} {v : V} {cs : List Nat} (h : Dp K H v (colsD cs)) : ∃ a, v = .ref a ∧ SqT K H a (colsV cs) := by
  obtain ⟨a, xs, rfl, h1, h2⟩ := dpT h
  refine ⟨a, rfl, ?_⟩
  have : ∀ (l : List Nat) (ys : List V), DpAll K H ys (l.map fun (n : Nat) => PyData.int (n : Int)) → ys = colsV l := by
    intro l
    induction l with
    | nil =>
      intro ys h
      cases h
      rfl
    | cons c r ih =>
      intro ys h
      cases h with
      | cons z1 z2 =>
        cases z1
        rw [ih _ z2]
        rfl
  rw [← this _ _ h2]
  exact h1
theorem ok_hasAll {f : Addr} {fd : FuncData} (F : Fun K "has_all" "has_all" sHasAll f fd) (B2 : Blt2 mg) : FnOk P w K mg base CX0 1 f fd ["columns", "row"] (spHasAll K) := by
  refine F.ok scHasAll (fun vs H Q E h => ?_) (fun cdv A outer s H vs Q E hr h => ?_)
  · obtain ⟨v, v', cs, rs, rfl, _⟩ := h
    rfl
  · obtain ⟨v, v', cs, rs, rfl, h1, h2, few, q⟩ := h
    refine ⟨_, pss_one (ps_ret (pe_callB (cr_all rfl) (by rfl) B2.all boot_all (pa_cons (pe_lc (own := [("column", 2)]) (g := gName 2) (tt := tYes) (te := tOp (rIn K false) (tVar 2) (tVar 0)) rfl scHasAll.nd (pi_tup (pv 1)) (blkOk_by (own := [("column", 2)]) (N := ["columns", "row", "column"]) (sc := defScope sHasAll) (by decide +kernel))
      (fun _ _ _ _ _ => pg_name (i := 2) scHasAll.nd rfl (Or.inl rfl)) (fun _ _ _ _ _ => pts_nil) (fun _ _ _ _ _ => pe_cmpR op_in_seq (pv 2) (pv 0) (by rfl))) pa_nil))), ?_⟩
    obtain ⟨a, rfl, ha⟩ := dpCols h1
    obtain ⟨b, rfl, hb⟩ := dpCols h2
    refine ⟨_, rfl, b, rfl, ⟨_, hb⟩, fun D nD => lc_tup (K := K) (xs := colsV rs) (fun j G => G D = some (.lst (((rs.take j).map fun c => V.bl (decide (c ∈ cs))))) ∧ Same H G) ⟨upd_same, same_new nD⟩ (fun j G _ h => same_seqT h.2 hb) ?_ ?_⟩
    · rintro j v G hv ⟨g1, g2⟩
      obtain ⟨c, hc, rfl⟩ : ∃ c : Nat, rs[j]? = some c ∧ V.int (c : Int) = v := by
        unfold colsV at hv
        rw [List.getElem?_map] at hv
        exact Option.map_eq_some_iff.mp hv
      have hj : j < rs.length := (List.getElem?_eq_some_iff.mp hc).1
      refine ⟨rfl, ?_⟩
      dsimp only [tYes]
      rw [if_pos rfl]
      refine ⟨_, rfl, _, rfl, a, _, rfl, .inr (same_seqT g2 ha), rfl, cols_flat cs, _, g1, by rw [List.length_map, List.length_take, sizeLine_eq]; omega, ?_, fun b o h => ?_⟩
      · rw [upd_same, List.take_add_one, hc, List.map_append]
        show _ = some (HO.lst (_ ++ [V.bl (decide (c ∈ cs))]))
        rw [← cols_in]
        rfl
      · rw [upd_ne (ne_of_none h nD)]
        exact g2 _ _ h
    · rintro G ⟨g1, g2⟩
      have e : (colsV rs).length = rs.length := List.length_map _
      rw [e, List.take_length] at g1
      refine ⟨D, rs.map fun c => decide (c ∈ cs), rfl, .inl (.inl (by rw [List.map_map]; exact g1)), ?_⟩
      have e2 : ((rs.map fun c => decide (c ∈ cs)).all id) = hasAllB cs rs := by
        unfold hasAllB
        rw [List.all_map]
        rfl
      rw [e2]
      exact q _ g2
theorem heads_take (rs : List Rl) (i : Nat) (r : Rl) (h : rs[i]? = some r) : headsL (rs.take (i + 1)) = headsL (rs.take i) ++ r.2 := by
  unfold headsL
  rw [List.take_add_one, h, List.flatMap_append]
  simp
theorem tup_fs (L : List Atm) : tupAll (L.map fD) = true := tup_all fun d h => by
  obtain ⟨k, _, rfl⟩ := List.mem_map.mp h
  exact tup_f k
theorem scHeads : FnScope ["rules", "_", "head", "atom"] ["rules"] (defScope sHeads) := ⟨rfl, rfl, rfl, by decide +kernel, rfl, by decide +kernel, by decide +kernel⟩
theorem ok_heads {f : Addr} {fd : FuncData} (F : Fun K "heads" "heads" sHeads f fd) (B2 : Blt2 mg) : FnOk P w K mg base CX0 1 f fd ["rules"] (spHeads K) := by
  refine F.ok scHeads (fun vs H Q E h => ?_) (fun cdv A outer s H vs Q E hr h => ?_)
  · obtain ⟨v, rs, rfl, _⟩ := h
    rfl
  · obtain ⟨v, rs, rfl, hd, few, ok, q⟩ := h
    refine ⟨_, pss_one (ps_ret (pe_callTy call_tuple_of (by rfl) B2.tuple boot_tuple (pa_cons (pe_lc2 (own := [("_", 1), ("head", 2), ("atom", 3)]) (vs1 := [3]) (g := gTup K 2 (gCons (gName 1) (gCons (gName 2) gNil))) (tt := tYes) (wi1 := iTup K (tVar 2)) (g1 := gName 3) (tt1 := tYes) (te := tVar 3) rfl scHeads.nd (pi_tup (pv 0))
      (blkOk_by (own := [("_", 1), ("head", 2), ("atom", 3)]) (N := ["rules", "_", "head", "atom"]) (sc := defScope sHeads) (by decide +kernel)) (by decide)
      (fun _ _ _ _ _ => pg_tup rfl (pgs_cons (pg_name (i := 1) scHeads.nd rfl (Or.inl rfl)) (pgs_cons (pg_name (i := 2) scHeads.nd rfl (Or.inl rfl)) pgs_nil))) (fun _ _ _ _ _ => pts_nil)
      (fun _ _ _ _ _ => pi_tup (pv 2)) (fun _ _ _ _ _ => pg_name (i := 3) scHeads.nd rfl (Or.inl rfl)) (fun _ _ _ _ _ => pts_nil) (fun _ _ _ _ _ => pv 3)) pa_nil))), ?_⟩
    obtain ⟨a, xs, rfl, hs, ha⟩ := dpT hd
    have lx : xs.length = rs.length := by
      have z := dps_len ha
      rw [List.length_map] at z
      exact z
    refine ⟨_, rfl, a, rfl, ⟨_, hs⟩, fun D nD => ?_⟩
    refine lc2_tup (K := K) (xs := xs) (fun i G => ∃ vs, G D = some (.lst vs) ∧ DpAll K G vs ((headsL (rs.take i)).map fD) ∧ vs.length ≤ 3 * i ∧ Same H G) ⟨[], upd_same, .nil, Nat.le_refl _, same_new nD⟩ (fun i G ⟨_, _, _, _, sm⟩ => same_seqT sm hs) ?_ ?_
    · rintro i x G hx ⟨vs, g1, g2, g3, g4⟩
      obtain ⟨dr, hdr, hdp⟩ := dps_get ha hx
      obtain ⟨r, hr', rfl⟩ : ∃ r, rs[i]? = some r ∧ ruleD r = dr := by
        rw [List.getElem?_map] at hdr
        exact Option.map_eq_some_iff.mp hdr
      have mr : r ∈ rs := List.mem_of_getElem? hr'
      have hi : i < rs.length := (List.getElem?_eq_some_iff.mp hr').1
      have rok := (ok r mr).2.2.1
      obtain ⟨ra, rv, rfl, hra, har⟩ := dpT (dp_same g4 _ _ hdp)
      cases har with
      | @cons vb _ _ _ db har =>
      cases har with
      | @cons vh _ _ _ dh har =>
      cases har
      obtain ⟨hh, ys, rfl, hsh, hah⟩ := dpT dh
      have ly : ys.length = r.2.length := by
        have z := dps_len hah
        rw [List.length_map] at z
        exact z
      refine ⟨ra, _, rfl, hra, rfl, _, _, rfl, _, _, rfl, rfl, rfl, ?_⟩
      dsimp only [tYes]
      rw [if_pos rfl]
      refine ⟨_, rfl, hh, rfl, ⟨_, hsh⟩, ?_⟩
      refine in2_tup (K := K) (ys := ys) (g1 := gName 3) (tt1 := tYes) (te := tVar 3) (vs1 := [3]) (D := D) (fun j G' => ∃ vs, G' D = some (.lst vs) ∧ DpAll K G' vs ((headsL (rs.take i) ++ r.2.take j).map fD) ∧ vs.length ≤ 3 * i + j ∧ Same H G' ∧ TS G G')
        ⟨vs, g1, by rw [List.take_zero, List.append_nil]; exact g2, g3, g4, TS.refl G⟩ (fun j G' ⟨_, _, _, _, _, ts⟩ => sqT_ts ts hsh) ?_ ?_
      · rintro j y G' hy ⟨vs', p1, p2, p3, p4, p5⟩
        obtain ⟨dk, hdk, hdy⟩ := dps_get hah hy
        obtain ⟨k, hk', rfl⟩ : ∃ k, r.2[j]? = some k ∧ fD k = dk := by
          rw [List.getElem?_map] at hdk
          exact Option.map_eq_some_iff.mp hdk
        have hj : j < r.2.length := (List.getElem?_eq_some_iff.mp hk').1
        refine ⟨rfl, ?_⟩
        dsimp only [tYes]
        rw [if_pos rfl]
        refine ⟨_, rfl, vs', p1, by rw [sizeLine_eq]; omega, vs' ++ [y], upd_same, ?_, by rw [List.length_append]; exact Nat.succ_le_succ p3, fun b o h => ?_, p5.trans (upd_ts p1)⟩
        · rw [List.take_add_one, hk', ← List.append_assoc, List.map_append]
          exact dps_app (dps_ts (upd_ts p1) _ _ (tup_fs _) p2) (.cons (dp_ts (p5.trans (upd_ts p1)) _ _ (tup_f k) hdy) .nil)
        · rw [upd_ne (ne_of_none h nD)]
          exact p4 _ _ h
      · rintro G' ⟨vs', p1, p2, p3, p4, p5⟩
        rw [ly, List.take_length] at p2
        refine ⟨vs', p1, by rw [heads_take rs i r hr']; exact p2, by omega, p4⟩
    · rintro G ⟨vs, g1, g2, g3, g4⟩
      rw [lx, List.take_length] at g2
      refine ⟨D, vs, rfl, .inl ⟨.inl (.inl g1), fun t nt => ?_⟩⟩
      exact q (.ref t) _ (.tup (.inl (.inl upd_same)) (dps_same (same_new nt) _ _ g2)) (g4.trans (same_new nt))
theorem scWidths : FnScope ["atoms", "atom"] ["atoms"] (defScope sWidths) := ⟨rfl, rfl, rfl, by decide +kernel, rfl, by decide +kernel, by decide +kernel⟩
theorem ok_widths {f : Addr} {fd : FuncData} (F : Fun K "widths" "widths" sWidths f fd) (B : Blt mg) : FnOk P w K mg base CX0 1 f fd ["atoms"] (spWidths K) := by
  refine F.ok scWidths (fun vs H Q E h => ?_) (fun cdv A outer s H vs Q E hr h => ?_)
  · obtain ⟨v, L, rfl, _⟩ := h
    rfl
  · obtain ⟨v, L, rfl, hd, few, nar, one, q⟩ := h
    refine ⟨_, pss_one (ps_ret (pe_dc (own := [("atom", 1)]) (g := gName 1) (tt := tYes) (tk := tOp (rIx K) (tVar 1) (tC (.int 0))) (tv := tOp (rI0 fun i j => .int (i - j)) (tCB (fun xs H Q => ∃ p ys, xs = [.ref p] ∧ (SqL K H p ys ∨ SqT K H p ys) ∧ Q (.int ys.length) H) (tCons (tVar 1) tNil)) (tC (.int 1))) rfl scWidths.nd (pi_tup (pv 0))
      (blkOk_by (own := [("atom", 1)]) (N := ["atoms", "atom"]) (sc := defScope sWidths) (by decide +kernel)) (fun _ _ _ _ _ => pg_name (i := 1) scWidths.nd rfl (Or.inl rfl)) (fun _ _ _ _ _ => pts_nil)
      (fun _ _ _ _ _ => pe_ix ix_seq (pv 1) pe_int (fun _ _ => rfl)) (fun _ _ _ _ _ => pe_op op_sub (pe_callB call_len_seq (by rfl) B.len PySem.boot_len (pa_cons (pv 1) pa_nil)) pe_int))), ?_⟩
    obtain ⟨a, xs, rfl, hs, ha⟩ := dpT hd
    have lx : xs.length = L.length := by
      have z := dps_len ha
      rw [List.length_map] at z
      exact z
    refine ⟨_, rfl, a, rfl, ⟨_, hs⟩, fun D nD => ?_⟩
    refine dc_tup (K := K) (xs := xs) (fun i G => ∃ kvs, G D = some (.dK kvs) ∧ (∀ k ∈ L.take i, ∀ x, k.head? = some x → valV kvs (.inr x) = some (.int ((k.length : Int) - 1))) ∧ kvs.length ≤ i ∧ Same H G)
      ⟨[], upd_same, (fun k h => by simp at h), Nat.le_refl _, same_new nD⟩ (fun i G _ ⟨_, _, _, _, sm⟩ => same_seqT sm hs) ?_ ?_
    · rintro i x G hx ⟨kvs, g1, g2, g3, g4⟩
      obtain ⟨dk, hdk, hdp⟩ := dps_get ha hx
      obtain ⟨k, hk', rfl⟩ : ∃ k, L[i]? = some k ∧ fD k = dk := by
        rw [List.getElem?_map] at hdk
        exact Option.map_eq_some_iff.mp hdk
      have mk : k ∈ L := List.mem_of_getElem? hk'
      have hi : i < L.length := (List.getElem?_eq_some_iff.mp hk').1
      have n2 := (nar k mk).1
      obtain ⟨y, ws, rfl⟩ : ∃ y ws, k = y :: ws := by
        cases k with
        | nil => exact absurd n2 (by decide)
        | cons a b => exact ⟨a, b, rfl⟩
      obtain ⟨b, rfl, hb⟩ := dpFact (dp_same g4 _ _ hdp)
      refine ⟨rfl, ?_⟩
      dsimp only [tYes]
      rw [if_pos rfl]
      refine ⟨_, rfl, .inr (.inl ⟨b, _, 0, _, rfl, rfl, hb, atI_nat (j := 0) rfl, _, rfl, b, _, rfl, .inr hb, _, 1, rfl, rfl, kvs, .inr y, rfl, g1, by rw [sizeLine_eq]; omega, putK kvs (.inr y) _, upd_same, fun k2 hk2 x ex => ?_, Nat.le_trans (length_putK _ _ _) (Nat.succ_le_succ g3), fun b o h => ?_⟩)⟩
      · rw [valV_put]
        by_cases e : x = y
        · rw [if_pos (by rw [e])]
          have e2 : k2.length = (y :: ws).length := one k2 (List.mem_of_mem_take hk2) _ mk (by rw [ex, e]; rfl)
          rw [e2, List.length_map]
        · rw [if_neg (fun z => e (Sum.inr.inj z))]
          rw [List.take_add_one, hk'] at hk2
          rcases List.mem_append.mp hk2 with h | h
          · exact g2 k2 h x ex
          · rw [List.mem_singleton.mp h] at ex
            exact absurd (Option.some.inj ex).symm e
      · rw [upd_ne (ne_of_none h nD)]
        exact g4 _ _ h
    · rintro G ⟨kvs, g1, g2, g3, g4⟩
      rw [lx, List.take_length] at g2
      exact q D kvs G g1 g2 g4
end
end My

/-! HG: keys that follow from keys -/
namespace My
open PySem PySem.Spec PyProof.Rows L2
open TL (tl len_tl tl_append)
section
variable {P : Program} {w : World} {K : PySem.W.Frag} {mg : Str → Option Value} {base : Heap}
theorem dpKey {H : Hp} {v : V} {k : Ky} (h : Dp K H v (keyD k)) : ∃ (a b : Addr), v = .ref a ∧ SqT K H a [.str k.1, .ref b] ∧ Dp K H (.ref b) (colsD k.2) := by
  obtain ⟨a, xs, rfl, h1, h2⟩ := dpT h
  cases h2 with
  | cons z1 z2 =>
  cases z1
  cases z2 with
  | cons z3 z4 =>
  cases z4
  obtain ⟨b, e, _⟩ := dpCols z3
  cases e
  exact ⟨a, b, rfl, h1, z3⟩
theorem scKeyH : FnScope ["keys", "key", "table", "relation", "columns", "rows", "given", "name", "row"] ["keys", "key", "table"] (defScope sKeyH) := ⟨rfl, rfl, rfl, by decide +kernel, rfl, by decide +kernel, by decide +kernel⟩
abbrev nKeyH : List Str := ["keys", "key", "table", "relation", "columns", "rows", "given", "name", "row"]
theorem ok_keyH {f fH : Addr} {fd fdH : FuncData} (F : Fun K "key_holds" "key_holds" sKeyH f fd) (B : Blt mg) (B2 : Blt2 mg) (mAny : mg "any" = none) (GH : FnOk P w K mg base CX0 1 fH fdH ["columns", "row"] (spHasAll K)) (mH : mg "has_all" = some (.ref fH))
    (kH : PySem.W.keepIn K (.ref fH) = true) (bH : Binds K fdH ["columns", "row"] []) : FnOk P w K mg base CX0 2 f fd ["keys", "key", "table"] (spKeyH K) := by
  refine F.ok scKeyH (fun vs H Q E h => ?_) (fun cdv A outer s H vs Q E hr h => ?_)
  · obtain ⟨v, v', t, ks, nm, cs, kvs, wd, rfl, _⟩ := h
    rfl
  · obtain ⟨v, v', t, ks, nm, cs, kvs, wd, rfl, h1, h2, few, fews, ht, hv, q⟩ := h
    have hu := hr.units
    have hu1 : A.units + 3 + 1 < cLine := by
      have z : A.units + 3 + 64 < cLine := hu
      omega
    refine ⟨_, pss_cons (ps_asg (pv 1) (pg_tup rfl (pgs_cons (pg_name (i := 3) scKeyH.nd rfl (Or.inr rfl)) (pgs_cons (pg_name (i := 4) scKeyH.nd rfl (Or.inr rfl)) pgs_nil))))
      (pss_cons (ps_setLc (i := 5) (own := [("given", 6), ("name", 7)]) (g := gTup K 2 (gCons (gName 7) (gCons (gName 6) gNil))) (te := tVar 6) rfl scKeyH.nd rfl rfl (by rfl) (pi_tup (pv 0)) (blkOk_by (own := [("given", 6), ("name", 7)]) (N := nKeyH) (sc := defScope sKeyH) (by decide +kernel))
        (fun _ _ _ _ _ => pg_tup rfl (pgs_cons (pg_name (i := 7) scKeyH.nd rfl (Or.inl rfl)) (pgs_cons (pg_name (i := 6) scKeyH.nd rfl (Or.inl rfl)) pgs_nil))) (fun _ _ _ _ _ => pts_one (pt_cmpR op_eq (pv 7) (pv 3) (nomark _))) (fun _ _ _ _ _ => pv 6))
      (pss_one (ps_ret (pe_or (pe_cmpR op_eq (pe_callB call_len_seq (by rfl) B.len PySem.boot_len (pa_cons (pv 4) pa_nil)) (pe_dget hu1 (pv 2) (pv 3) (fun _ _ => rfl)) (nomark _))
        (pe_one (pe_callB (cr_any rfl) (by rfl) mAny boot_any (pa_cons (pe_lc (own := [("row", 8)]) (g := gName 8) (tt := tYes) rfl scKeyH.nd (pi_list (pv 5)) (blkOk_by (own := [("row", 8)]) (N := nKeyH) (sc := defScope sKeyH) (by decide +kernel))
          (fun _ _ _ _ _ => pg_name (i := 8) scKeyH.nd rfl (Or.inl rfl)) (fun _ _ _ _ _ => pts_nil) (fun _ _ _ _ _ => pe_call GH hr rfl mH kH bH .nil pass0 (pa_cons (pv 4) (pa_cons (pv 8) pa_nil)))) pa_nil))))))), ?_⟩
    obtain ⟨ka, ca, rfl, hka, hca⟩ := dpKey h2
    obtain ⟨pa, xs, rfl, hpa, hxs⟩ := dpT h1
    have lx : xs.length = ks.length := by
      have z := dps_len hxs
      rw [List.length_map] at z
      exact z
    obtain ⟨ca', e, hcq⟩ := dpCols hca
    cases e
    refine ⟨_, rfl, ka, _, rfl, hka, rfl, _, _, rfl, _, _, rfl, rfl, ?_⟩
    refine ⟨_, rfl, pa, rfl, ⟨_, hpa⟩, fun D nD => ?_⟩
    refine lc_tup (K := K) (xs := xs) (fun i G => ∃ vs, G D = some (.lst vs) ∧ DpAll K G vs ((((ks.take i).filter fun y => decide (y.1 = nm)).map (·.2)).map colsD) ∧ vs.length ≤ i ∧ Same H G)
      ⟨[], upd_same, .nil, Nat.le_refl _, same_new nD⟩ (fun i G _ ⟨_, _, _, _, sm⟩ => same_seqT sm hpa) ?_ ?_
    · rintro i x G hx ⟨vs, g1, g2, g3, g4⟩
      obtain ⟨dk, hdk, hdp⟩ := dps_get hxs hx
      obtain ⟨y, hy, rfl⟩ : ∃ y, ks[i]? = some y ∧ keyD y = dk := by
        rw [List.getElem?_map] at hdk
        exact Option.map_eq_some_iff.mp hdk
      have hi : i < ks.length := (List.getElem?_eq_some_iff.mp hy).1
      obtain ⟨ya, yc, rfl, hya, hyc⟩ := dpKey (dp_same g4 _ _ hdp)
      have tk : (ks.take (i + 1)).filter (fun y => decide (y.1 = nm)) = (ks.take i).filter (fun y => decide (y.1 = nm)) ++ if y.1 = nm then [y] else [] := by
        rw [List.take_add_one, hy, List.filter_append]
        congr 1
        show List.filter _ [y] = _
        by_cases e : y.1 = nm
        · rw [if_pos e, List.filter_cons_of_pos (by simpa using e)]
          rfl
        · rw [if_neg e, List.filter_cons_of_neg (by simpa using e)]
          rfl
      refine ⟨ya, _, rfl, hya, rfl, _, _, rfl, _, _, rfl, rfl, rfl, ?_⟩
      refine ⟨_, rfl, _, rfl, rfl, _, rfl, ite2 (fun c => ?_) fun c => ?_⟩
      · have c' : decide (V.str y.1 = V.str nm) = true := c
        have e : y.1 = nm := V.str.inj (of_decide_eq_true c')
        refine ⟨_, rfl, vs, g1, by rw [sizeLine_eq]; omega, vs ++ [.ref yc], upd_same, ?_, by rw [List.length_append]; exact Nat.succ_le_succ g3, fun b o h => ?_⟩
        · rw [tk, if_pos e, List.map_append, List.map_append]
          refine dps_app (dps_ts (upd_ts g1) _ _ (tup_all fun d hd => ?_) g2) (.cons (dp_ts (upd_ts g1) _ _ (tup_c _) hyc) .nil)
          obtain ⟨z, _, rfl⟩ := List.mem_map.mp hd
          exact tup_c z
        · rw [upd_ne (ne_of_none h nD)]
          exact g4 _ _ h
      · have e : ¬ y.1 = nm := fun e => c (decide_eq_true (by rw [e]))
        refine ⟨vs, g1, ?_, by omega, g4⟩
        rw [tk, if_neg e, List.append_nil]
        exact g2
    rintro G ⟨vs, g1, g2, g3, g4⟩
    rw [lx, List.take_length] at g2
    have gt := g4 _ _ ht
    have hcG := same_seqT g4 hcq
    have dcG := dp_same g4 _ _ hca
    generalize ezs : ((ks.filter fun y => decide (y.1 = nm)).map (·.2)) = zs at g2
    have lz : vs.length = zs.length := by
      have z := dps_len g2
      rw [List.length_map] at z
      exact z
    have kb : keyHB ks nm cs wd = (decide ((cs.length : Int) = wd) || zs.any (hasAllB cs)) := by
      unfold keyHB
      rw [← ezs, List.any_map, List.any_filter]
      rfl
    refine ⟨_, rfl, ca, _, rfl, .inr hcG, _, rfl, _, rfl, t, .int wd, rfl, (by rw [← hv]; exact DGet.k (k := .inr nm) gt), rfl, _, rfl, ite2 (fun c => ?_) fun c => ?_⟩
    · have c' : decide (V.int ((colsV cs).length : Nat) = V.int wd) = true := c
      have e : decide ((cs.length : Int) = wd) = true := by
        refine decide_eq_true ?_
        have z := V.int.inj (of_decide_eq_true c')
        rwa [List.length_map] at z
      have e2 : keyHB ks nm cs wd = true := by rw [kb, e]; rfl
      have q2 := q G g4
      rw [e2] at q2
      exact q2
    · have e : decide ((cs.length : Int) = wd) = false := by
        refine decide_eq_false fun z => c ?_
        show decide (V.int ((colsV cs).length : Nat) = V.int wd) = true
        rw [List.length_map, z]
        exact decide_eq_true rfl
      rw [e, Bool.false_or] at kb
      refine ⟨_, rfl, D, rfl, ⟨_, .inl (.inl g1)⟩, fun D2 nD2 => ?_⟩
      have s2 := same_new (o := .lst []) nD2
      refine lc_list (K := K) (xs := vs) (fun j G' => G' D2 = some (.lst ((zs.take j).map fun z => V.bl (hasAllB cs z))) ∧ Same G G') ⟨upd_same, s2⟩ (fun j G' _ h => .inl (.inl (h.2 _ _ g1))) ?_ ?_
      · rintro j x G' hx ⟨p1, p2⟩
        obtain ⟨dz, hdz, hdp⟩ := dps_get g2 hx
        obtain ⟨z, hz, rfl⟩ : ∃ z, zs[j]? = some z ∧ colsD z = dz := by
          rw [List.getElem?_map] at hdz
          exact Option.map_eq_some_iff.mp hdz
        have hj : j < zs.length := (List.getElem?_eq_some_iff.mp hz).1
        have mz : z ∈ zs := List.mem_of_getElem? hz
        refine ⟨rfl, ?_⟩
        dsimp only [tYes]
        rw [if_pos rfl]
        refine ⟨_, rfl, _, rfl, _, _, cs, z, rfl, dp_same p2 _ _ dcG, dp_same p2 _ _ hdp, ?_, fun G2 sm => ⟨_, sm _ _ p1, by rw [List.length_map, List.length_take, sizeLine_eq]; omega, ?_, fun b o h => ?_⟩⟩
        · rw [← ezs] at mz
          obtain ⟨y, hy, rfl⟩ := List.mem_map.mp mz
          exact fews y (List.mem_filter.mp hy).1
        · rw [upd_same, List.take_add_one, hz, List.map_append]
          rfl
        · rw [upd_ne (ne_of_none h nD2)]
          exact sm _ _ (p2 _ _ h)
      · rintro G' ⟨p1, p2⟩
        rw [lz, List.take_length] at p1
        refine ⟨D2, zs.map (hasAllB cs), rfl, .inl (.inl (by rw [List.map_map]; exact p1)), ?_⟩
        have e2 : (zs.map (hasAllB cs)).any id = keyHB ks nm cs wd := by
          rw [kb, List.any_map]
          rfl
        rw [e2]
        exact q _ (g4.trans p2)
theorem scKeyF : FnScope ["book", "key"] ["book", "key"] (defScope sKeyF) := ⟨rfl, rfl, rfl, by decide +kernel, rfl, by decide +kernel, by decide +kernel⟩
theorem ok_keyF {f fH fW fK : Addr} {fd fdH fdW fdK : FuncData} (F : Fun K "key_follows" "key_follows" sKeyF f fd) (GH : FnOk P w K mg base CX0 1 fH fdH ["rules"] (spHeads K)) (mH : mg "heads" = some (.ref fH)) (kH : PySem.W.keepIn K (.ref fH) = true) (bH : Binds K fdH ["rules"] [])
    (GW : FnOk P w K mg base CX0 1 fW fdW ["atoms"] (spWidths K)) (mW : mg "widths" = some (.ref fW)) (kW : PySem.W.keepIn K (.ref fW) = true) (bW : Binds K fdW ["atoms"] [])
    (GK : FnOk P w K mg base CX0 2 fK fdK ["keys", "key", "table"] (spKeyH K)) (mK : mg "key_holds" = some (.ref fK)) (kK : PySem.W.keepIn K (.ref fK) = true) (bK : Binds K fdK ["keys", "key", "table"] []) : FnOk P w K mg base CX0 3 f fd ["book", "key"] (spKeyF K) := by
  refine F.ok scKeyF (fun vs H Q E h => ?_) (fun cdv A outer s H vs Q E hr h => ?_)
  · obtain ⟨v, v', rs, ks, nm, cs, wd, rfl, _⟩ := h
    rfl
  · obtain ⟨v, v', rs, ks, nm, cs, wd, rfl, h1, h2, fr, fk, ok, fc, one, ⟨k0, mk0, hk0, lk0⟩, q⟩ := h
    have hr1 : Room 1 _ := hr.mono (by decide)
    refine ⟨_, pss_one (ps_ret (pe_call GK hr rfl mK kK bK .nil pass0 (pa_cons (pe_ix ix_seq (pv 0) pe_int (fun _ _ => rfl)) (pa_cons (pv 1) (pa_cons (pe_call GW hr1 rfl mW kW bW .nil pass0 (pa_cons (pe_call GH hr1 rfl mH kH bH .nil pass0 (pa_cons (pe_ix ix_seq (pv 0) pe_int (fun _ _ => rfl)) pa_nil)) pa_nil)) pa_nil))))), ?_⟩
    obtain ⟨ba, xs, rfl, hba, hxs⟩ := dpT h1
    cases hxs with
    | @cons vr _ _ _ dr hxs =>
    cases hxs with
    | @cons vk _ _ _ dk hxs =>
    cases hxs
    have lhs : (headsL rs).length ≤ 60 := by
      have : ∀ l : List Rl, (∀ r ∈ l, RlOk r) → (headsL l).length ≤ 3 * l.length := by
        intro l
        induction l with
        | nil => intro _; exact Nat.le_refl _
        | cons a r ih =>
          intro h
          have z := ih fun x m => h x (List.mem_cons_of_mem _ m)
          have z2 := (h a List.mem_cons_self).2.2.1
          show (a.2 ++ headsL r).length ≤ _
          rw [List.length_append, List.length_cons]
          omega
      have z := this rs ok
      omega
    have narH : ∀ k ∈ headsL rs, Nar k := fun k hk => by
      obtain ⟨r, hr', hk2⟩ := List.mem_flatMap.mp hk
      exact (ok r hr').2.2.2 k hk2
    refine ⟨_, rfl, .inr (.inl ⟨ba, _, 1, _, rfl, rfl, hba, atI_nat (j := 1) rfl, _, rfl, _, rfl, .inr (.inl ⟨ba, _, 0, _, rfl, rfl, hba, atI_nat (j := 0) rfl, _, rs, rfl, dr, fr, ok, fun vh H1 dh s1 => ?_⟩)⟩)⟩
    refine ⟨vh, headsL rs, rfl, dh, by omega, narH, one, fun t kvs H2 ht hk s2 => ?_⟩
    have s12 := s1.trans s2
    refine ⟨_, _, t, ks, nm, cs, kvs, (wd : Int), rfl, dp_same s12 _ _ dk, dp_same s12 _ _ h2, fk, fc, ht, ?_, fun H3 s3 => q H3 (s12.trans s3)⟩
    rw [hk k0 mk0 nm hk0, lk0]
    congr 2
    omega
end
end My

/-! MyE: the law's own call, where no repr is under way around it -/
namespace My
open PySem PySem.Spec PyProof.Rows L2

/-- a def's promise, kept where nothing that guards stands around the call -/
structure RunG (P : Program) (w : World) (K : PySem.W.Frag) (mg : Str → Option Value) (base : Heap) (k : Nat) (f : Addr) (fd : FuncData) (ps : List Str) (sp : Sp) : Prop where
  len : ∀ vs H Q E, sp vs H Q E → vs.length = ps.length
  go : ∀ (A : Around) (outer : List Env) (s : Shared) (H : Hp) (args : Args) (us : List Value) (vs : List V) (Q : VK) (E : XK), A.guards = some [] → Room k A → Env0 P w K mg base A outer s H →
    BindsTo s fd args (ps.zip us) → Vals vs us → sp vs H Q E → codeAny (model P w) A (.call (.ref f) args) (CR CX0 outer P w H s Q E) s
section
variable {P : Program} {w : World} {K : PySem.W.Frag} {mg : Str → Option Value} {base : Heap}
theorem runG {x qual : Str} {st : Stmt} {f : Addr} {fd : FuncData} {N ps : List Str} {k : Nat} {sp : Sp} (F : Fun K x qual st f fd) (S : FnScope N ps (defScope st)) (len : ∀ vs H Q E, sp vs H Q E → vs.length = ps.length)
    (hbody : ∀ (cdv : Value) (A : Around) (outer : List Env) (s : Shared) (H : Hp) (vs : List V) (Q : VK) (E : XK), A.guards = some [] → Room k (A.deeper (envOfC qual (defScope st) s.heap.objs.size f cdv)) → sp vs H Q E →
      ∃ t, PSs (cxOf CX0 P w K mg base N qual (defScope st) f cdv A outer s H E).nox (defBody st) t ∧ t { nx := fun _ H' => Q .non H', rt := Q } (L2.start N vs) H) : RunG P w K mg base (k + 1) f fd ps sp := by
  refine ⟨len, fun A outer s H args us vs Q E hgu hr e0 hb r hsp => ?_⟩
  obtain ⟨oc, od, kV, doc, pm, an, cdv, ct, osl, rfl, lk, hcd⟩ := F.ex
  have up : ∀ b o, base.get? b = some o → s.heap.get? b = some o := fun b o e => (e0.bs b o e).1
  have KX : K.In s.heap := e0.mod.kin.keeps up
  have hkind : ∀ y ∈ ps.zip us, (defScope st).names.lookup y.1 = some .local ∨ ((defScope st).names.lookup y.1 = some .cell ∧ ((cellsFrom (s.heap.objs.size + 1) (defScope st).names []).lookup y.1).isSome = true) := by
    rintro ⟨n, v⟩ hy
    exact (S.par n (List.of_mem_zip hy).1).imp id fun q => ⟨q, PySem.W.cellsFrom_some _ _ _ (.inl q)⟩
  refine codeAny_call_function hr.depth (KX _ _ lk) rfl S.co S.gen rfl (PySem.W.codeRec_of KX hcd) (hb _ _ _ _ (wpAny_newFunctionEnv_cells S.kind hkind fun env he s1 x => ?_))
  subst he
  refine ⟨(e0.mod.nolimit.keeps up).keeps x.toInCall.keep, codeAny_func ?_⟩
  obtain ⟨t, ht, hq⟩ := hbody cdv A outer s H vs Q E hgu (hr.deeper _) hsp
  refine wpAny_mono (ht.nox.run [] s1 _ H _ (inv_start S hr.hd e0 (len _ _ _ _ hsp) r x) hq) (fun fl s' hs => ?_) fun _ _ hs => hs
  cases fl with
  | ret u => exact hs.elim fun v ⟨σ', H', J, rv, q⟩ => ⟨v, H', J.os, J.bare, J.base, J.hok, rv, q⟩
  | next => exact hs.elim fun σ' ⟨H', J, q⟩ => ⟨V.non, H', J.os, J.bare, J.base, J.hok, rfl, q⟩
  | brk => exact hs.elim fun _ ⟨_, _, q⟩ => q.elim
  | cont => exact hs.elim fun _ ⟨_, _, q⟩ => q.elim
/-- the abstract heap at the law's entry: the script, known to the object, or nothing where the script is one of the module's own -/
theorem entry_heap {s : Shared} {a : Addr} {vs : List Value} {ns : List Int} (KX : K.In s.heap) (ha : s.heap.get? a = some { cls := .type "list", data := .seq vs.toArray }) (hi : IntsAre vs ns) (hl : ns.length ≤ sizeLine) :
    ∃ H : Hp, Only H ∧ SqL K H a (ns.map V.int) ∧ HOk P w H s.heap ∧ ∀ b u, H b = some u → b = a ∧ K.lookup b = none := by
  cases hk : K.lookup a with
  | some o =>
    have e := KX a o hk
    rw [ha] at e
    cases e
    have none_ : ∀ (b : Addr) (u : HO), (fun _ : Addr => (Option.none : Option HO)) b = some u → False := fun b u z => nomatch z
    exact ⟨fun _ => none, fun _ => .inl rfl, .inr ⟨_, vs.toArray, _, hk, rfl, rfl, rfl, by rw [List.size_toArray, hi.length]; exact hl, by simpa using vals_ints hi⟩, fun b u z => (none_ b u z).elim, fun b u z => (none_ b u z).elim⟩
  | none =>
    have at_ : ∀ {b : Addr} {u : HO}, (if b = a then some (HO.frz { cls := .type "list", data := .seq vs.toArray } (.lst (ns.map V.int))) else none) = some u → b = a ∧ u = HO.frz { cls := .type "list", data := .seq vs.toArray } (.lst (ns.map V.int)) := by
      intro b u z
      by_cases hb : b = a
      · rw [if_pos hb] at z
        exact ⟨hb, (Option.some.inj z).symm⟩
      · rw [if_neg hb] at z
        cases z
    refine ⟨fun b => if b = a then some (.frz { cls := .type "list", data := .seq vs.toArray } (.lst (ns.map V.int))) else none, fun b => ?_, .inl (.inr ⟨_, if_pos rfl⟩), fun b u z => ?_, fun b u z => ⟨(at_ z).1, by rw [(at_ z).1]; exact hk⟩⟩
    · by_cases hb : b = a
      · exact .inr ⟨_, _, if_pos hb⟩
      · exact .inl (if_neg hb)
    · obtain ⟨rfl, rfl⟩ := at_ z
      exact ⟨ha, by rw [List.length_map]; exact hl, vs, _, vals_ints hi, ha⟩
/-- the law's call, from its promise -/
theorem law_at {mb : Str → Option Value} {k : Nat} {fa a : Addr} {fd : FuncData} {x : Str} {sp : Sp} {s : Shared} {vs : List Value} {ns : List Int} (KX : K.In s.heap) (hns : s.heap.Ns mainGlobals mg) (hb : s.heap.Ns builtinsNs mb)
    (hbb : ∀ x : Str, x ≠ "__name__" → mb x = bootBuiltins x) (hlim : s.heap.NoLimit) (hg : s.gens = #[]) (ha : s.heap.get? a = some { cls := .type "list", data := .seq vs.toArray }) (hi : IntsAre vs ns) (hl : ns.length ≤ sizeLine)
    (hr : Room k callerA) (F : ∀ base : Heap, K.In base → base.Ns mainGlobals mg → RunG P w K mg base k fa fd [x] sp) (hbind : ∀ (s : Shared) (u : Value), BindsTo s fd ⟨[u], []⟩ [(x, u)])
    (hsp : ∀ H : Hp, Only H → SqL K H a (ns.map V.int) → sp [.ref a] H (fun v _ => v = .bl true) fun _ _ _ => False) :
    codeAny (model P w) callerA (.call (.ref fa) ⟨[.ref a], []⟩) (fun r s' => r = .ok (.ret (.bool true)) ∧ OldK s.heap s'.heap ∧ s'.os = s.os ∧ AllBare s'.gens) s := by
  obtain ⟨H, hO, hS, hok, hA⟩ := entry_heap (P := P) (w := w) KX ha hi hl
  have clear : ∀ {b : Addr}, (∀ u, H b = some u → False) → H b = none := fun {b} z => by
    cases q : H b with
    | none => rfl
    | some u => exact (z u q).elim
  have nsK : ∀ {b : Addr} {m : Str → Option Value}, s.heap.Ns b m → (hidT s.heap H).Ns b m := fun {b m} ⟨o, es, ep, e, dt, r⟩ => ⟨o, es, ep, hidT_get e (clear fun u q => by
    obtain ⟨rfl, _⟩ := hA b u q
    rw [ha] at e
    cases e
    cases dt), dt, r⟩
  have hKb : K.In (hidT s.heap H) := fun b o e => hidT_get (KX b o e) (clear fun u q => by
    rw [(hA b u q).2] at e
    cases e)
  obtain ⟨mc, l1, l2⟩ := hlim
  have e0 : Env0 P w K mg (hidT s.heap H) callerA [] s H := ⟨rfl, ⟨hKb, nsK hns, ⟨mb, nsK hb, hbb⟩, ⟨mc, nsK l1, l2⟩⟩, fun b o e => of_hidT e, Nat.le_of_eq (hidT_size _ _), trivial, (fun b z => nomatch z), hok, .of_eq hg⟩
  refine codeAny_mono ((F _ hKb (nsK hns)).go callerA [] s H ⟨[.ref a], []⟩ [.ref a] [.ref a] _ _ rfl hr e0 (hbind s (.ref a)) (.cons rfl .nil) (hsp H hO hS)) fun r s' h => ?_
  cases r with
  | error e => exact h.elim
  | ok fl =>
    cases fl with
    | next => exact h.elim
    | brk => exact h.elim
    | cont => exact h.elim
    | ret u =>
      obtain ⟨v, H', os, bare, un, hok', rv, q⟩ := h
      cases (show v = .bl true from q)
      cases (show u = Value.bool true from rv)
      refine ⟨rfl, OldK.of_keep fun b o e => ?_, os, bare⟩
      cases q : H b with
      | none => exact un.keep b o e q (fun z => nomatch z) (fun z => nomatch z)
      | some u =>
        rcases hO b with z | ⟨ob, xs, z⟩
        · rw [q] at z
          cases z
        · have e1 := (hok b _ z).1
          rw [e] at e1
          cases e1
          exact (hok' b _ (un.frzs b o _ z)).1
end
theorem walk_g {l : PySem.W.OpenLaw} {k : Nat} {q : Program} {loose : List Str} {XP : (Str → Option Value) → Heap → Prop} {YP : World → Heap → Prop} {d : DefRec} {K : Params → PySem.W.Frag} {sp : PySem.W.Frag → Sp} {x : Str}
    (hn : l.most = some 63) (hdf : d.params.defaults = []) (hr : Room k callerA) (hY : ∀ (w : World) (h : Heap), YP w h → (K w.params).In h)
    (F : ∀ (w : World) (mg : Str → Option Value) (fa : Addr) (h : Heap), (K w.params).In h → h.Ns mainGlobals mg → mg d.name = some (.ref fa) →
      ∃ fd : FuncData, (∀ (s : Shared) (u : Value), BindsTo s fd ⟨[u], []⟩ [(x, u)]) ∧ ∀ base : Heap, (K w.params).In base → base.Ns mainGlobals mg → RunG l.prog w (K w.params) mg base k fa fd [x] (sp (K w.params)))
    (hsp : ∀ (K : PySem.W.Frag) (H : Hp) (a : Addr) (ns : List Int), ns.length ≤ 63 → SqL K H a (ns.map V.int) → sp K [.ref a] H (fun v _ => v = .bl true) fun _ _ _ => False) :
    PySem.W.WalkO q loose XP YP l.row.toRowW d [] (fun f vs => PySem.call f vs) := by
  refine Att.attach_call hn hdf fun w s₀ s₁ mg mb fa o pm cd doc a vs ns G Y ho hd hcd hmg hobj hints hlen hg => ?_
  obtain ⟨fd, hb, hF⟩ := F w mg fa _ (hY w _ Y) G.T.g hmg
  exact law_at (hY w _ Y) G.T.g G.T.b G.T.builtins G.T.nolimit hg hobj hints (by rw [sizeLine_eq]; omega) hr hF hb fun H hO hS => hsp _ H a ns hlen hS
end My

/-! HH: the law of keys that follow -/
namespace My
open PySem PySem.Spec PyProof.Rows L2
open TL (tl len_tl tl_append)
def spLaw (K : PySem.W.Frag) : Sp := fun vs H Q _ => ∃ (a : Addr) (ns : List Int), vs = [.ref a] ∧ SqL K H a (ns.map V.int) ∧ ns.length ≤ 63 ∧ ∀ H', Q (.bl true) H'
abbrev nLaw : List Str := ["_law_script", "_law_deck_here", "_law_turn", "_law_book_here", "_law_bodies", "_law_heads", "_law_words", "_law_widths", "_law_body", "_law_head", "_law_some", "_law_k", "_law_name", "_law_width", "_law_columns", "_law_again", "_law_due", "_law_other", "_law_row", "_law_held", "_law_atom", "_law_at"]
theorem scLaw : FnScope ["_law_script", "_law_deck_here", "_law_turn", "_law_book_here", "_law_bodies", "_law_heads", "_law_words", "_law_widths", "_law_body", "_law_head", "_law_some", "_law_k", "_law_name", "_law_width", "_law_columns", "_law_again", "_law_due", "_law_other", "_law_row", "_law_held", "_law_atom", "_law_at"] ["_law_script"] (defScope sLaw) := ⟨rfl, rfl, rfl, by decide +kernel, rfl, by decide +kernel, by decide +kernel⟩
theorem eqv_nil (n : Nat) : PyData.eqv (.list ((List.replicate n (1 : Int)).map PyData.int)) (.list []) = decide (n = 0) := by
  cases n with
  | zero => simp [PyData.eqv, PyData.eqvAll]
  | succ n => simp [List.replicate_succ, PyData.eqv, PyData.eqvAll]
theorem ones_app (n : Nat) : (List.replicate n (1 : Int)).map V.int ++ [V.int 1] = (List.replicate (n + 1) (1 : Int)).map V.int := by
  rw [List.replicate_succ', List.map_append]
  rfl
theorem count_zero {l : List Nat} {p : Nat → Bool} : decide (l.countP (fun c => !p c) = 0) = l.all p := by
  cases h : l.all p with
  | true =>
    refine decide_eq_true (List.countP_eq_zero.mpr fun c m => ?_)
    rw [List.all_eq_true.mp h c m]
    decide
  | false =>
    refine decide_eq_false fun z => ?_
    have z2 : l.all p = true := List.all_eq_true.mpr fun c m => by
      have z3 := List.countP_eq_zero.mp z c m
      simpa using z3
    rw [h] at z2
    cases z2
theorem ifQ {c : Bool} {ta tb : TE} {σ : L2.St} {H : Hp} {Q : V → Hp → Prop} (R : V → Hp → Prop) (key : ∀ v H', R v H' → Q v H') (ma : ∀ Q1 Q2 : V → Hp → Prop, (∀ v H', Q1 v H' → Q2 v H') → ta σ H Q1 → ta σ H Q2)
    (mb : ∀ Q1 Q2 : V → Hp → Prop, (∀ v H', Q1 v H' → Q2 v H') → tb σ H Q1 → tb σ H Q2) (l : c = true → ta σ H R) (r : c = false → tb σ H R) : if c = true then ta σ H Q else tb σ H Q := by
  cases c with
  | true => exact (if_pos rfl).mpr (ma _ _ key (l rfl))
  | false => exact (if_neg Bool.false_ne_true).mpr (mb _ _ key (r rfl))
def smC (d : PyData) (D W : Nat) : Bool := d.showable && (d.leavesShort 8 && (decide (d.depth ≤ D) && decide (d.weight ≤ W)))
theorem smC_sm {d : PyData} {D W : Nat} (z : smC d D W = true) : Sm d D W := by
  unfold smC at z
  rw [Bool.and_eq_true, Bool.and_eq_true, Bool.and_eq_true] at z
  exact ⟨z.1, z.2.1, of_decide_eq_true z.2.2.1, of_decide_eq_true z.2.2.2⟩
theorem sm_small : ∀ c : Nat, c < 4 → Sm (.int (c : Int)) 0 8 := by
  have z : ∀ c : Nat, c < 4 → smC (.int (c : Int)) 0 8 = true := by decide +kernel
  exact fun c h => smC_sm (z c h)
def KySm (k : Ky) : Prop := Vl k.1 ∧ k.2.length ≤ 4 ∧ ∀ c ∈ k.2, c < 4
theorem cols_sm {cs : List Nat} (h : cs.length ≤ 4) (h2 : ∀ c ∈ cs, c < 4) : Sm (colsD cs) 1 40 := by
  refine (sm_tup (dep := 0) (wt := 8) (ds := cs.map fun (n : Nat) => PyData.int (n : Int)) fun d hd => ?_).mono (Nat.le_refl _) (by rw [List.length_map]; omega)
  obtain ⟨c, hc, rfl⟩ := List.mem_map.mp hd
  exact sm_small c (h2 c hc)
theorem key_sm {k : Ky} (h : KySm k) : Sm (keyD k) 2 100 := by
  refine (sm_tup (dep := 1) (wt := 45) (ds := [.str k.1, colsD k.2]) fun d hd => ?_).mono (Nat.le_refl _) (by show 2 * 46 ≤ 100; decide)
  rcases List.mem_cons.mp hd with rfl | hd
  · exact (sm_str h.1).mono (by decide) (by decide)
  · rw [List.mem_singleton.mp hd]
    exact (cols_sm h.2.1 h.2.2).mono (Nat.le_refl _) (by decide)
theorem book_sm {rs : List Rl} {ks : List Ky} (hr : ∀ r ∈ rs, RlOk r) (lr : rs.length ≤ 4) (hk : ∀ k ∈ ks, KySm k) (lk : ks.length ≤ 4) : Sm (bookD rs ks) 5 3000 := by
  refine (sm_tup (dep := 4) (wt := 1300) (ds := [.tuple (rs.map ruleD), .tuple (ks.map keyD)]) fun d hd => ?_).mono (Nat.le_refl _) (by show 2 * 1301 ≤ 3000; decide)
  rcases List.mem_cons.mp hd with rfl | hd
  · refine (sm_tup (dep := 3) (wt := 302) (ds := rs.map ruleD) fun d hd => ?_).mono (Nat.le_refl _) (by rw [List.length_map]; omega)
    obtain ⟨r, h, rfl⟩ := List.mem_map.mp hd
    exact sm_rule (hr r h)
  · rw [List.mem_singleton.mp hd]
    refine (sm_tup (dep := 3) (wt := 302) (ds := ks.map keyD) fun d hd => ?_).mono (Nat.le_refl _) (by rw [List.length_map]; omega)
    obtain ⟨k, h, rfl⟩ := List.mem_map.mp hd
    exact (key_sm (hk k h)).mono (by decide) (by decide)
theorem sm_bool (b : Bool) : Sm (.bool b) 0 8 := ⟨by simp only [PyData.showable], by simp only [PyData.leavesShort], by simp [PyData.depth], by simp [PyData.weight]⟩
theorem ne_false {x y : Str} (h : x = y) : (!decide (V.str x = V.str y)) = false := by
  rw [h]
  simp
theorem tup_keys (ks : List Ky) : tupAll (ks.map keyD) = true := tup_all fun d h => by
  obtain ⟨y, _, rfl⟩ := List.mem_map.mp h
  exact tup_k y
/-- atoms of one head have one width -/
theorem one_of {bks hks : List (Addr × Str × Nat)} {ws : List Str} {rs : List Rl} (nd : (bks.map (·.2.1) ++ hks.map (·.2.1) ++ ws).Nodup) (ok : ∀ r ∈ rs, RlOk r ∧ (∀ k ∈ r.1, Of bks k) ∧ ∀ k ∈ r.2, Of hks k) :
    ∀ k ∈ headsL rs, ∀ k' ∈ headsL rs, k.head? = k'.head? → k.length = k'.length := by
  have nh : (hks.map (·.2.1)).Nodup := (List.nodup_append.mp (List.nodup_append.mp nd).1).2.1
  have inj : ∀ l : List (Addr × Str × Nat), (l.map (·.2.1)).Nodup → ∀ t ∈ l, ∀ u ∈ l, t.2.1 = u.2.1 → t = u := by
    intro l
    induction l with
    | nil => intro _ t h; cases h
    | cons a r ih =>
      intro h t ht u hu e
      rw [List.map_cons, List.nodup_cons] at h
      rcases List.mem_cons.mp ht with ht1 | ht1 <;> rcases List.mem_cons.mp hu with hu1 | hu1
      · rw [ht1, hu1]
      · exact absurd (List.mem_map.mpr ⟨u, hu1, by rw [← e, ht1]⟩) h.1
      · exact absurd (List.mem_map.mpr ⟨t, ht1, by rw [e, hu1]⟩) h.1
      · exact ih h.2 t ht1 u hu1 e
  intro k hk k' hk' e
  obtain ⟨r, hr, h1⟩ := List.mem_flatMap.mp hk
  obtain ⟨r', hr', h2⟩ := List.mem_flatMap.mp hk'
  obtain ⟨t, ht, e1, e2⟩ := (ok r hr).2.2 k h1
  obtain ⟨u, hu, e3, e4⟩ := (ok r' hr').2.2 k' h2
  have : t = u := inj hks nh t ht u hu (by rw [e1, e3] at e; exact Option.some.inj e)
  rw [e2, e4, this]
/-- a row of widths -/
def WdAt (G : Hp) (rs : List Rl) (t : Addr × Str × Nat) : Prop := G t.1 = some (.tup [.str t.2.1, .int (t.2.2 : Int)]) ∧ Vl t.2.1 ∧ t.2.2 ≤ 4 ∧ ∃ k ∈ headsL rs, k.head? = some t.2.1 ∧ k.length = t.2.2 + 1
/-- a def that the law calls -/
structure Callee (P : Program) (w : World) (K : PySem.W.Frag) (mg : Str → Option Value) (base : Heap) (k : Nat) (x : Str) (ps : List Str) (sp : Sp) (f : Addr) (fd : FuncData) : Prop where
  G : FnOk P w K mg base CX0 k f fd ps sp
  m : mg x = some (.ref f)
  k : PySem.W.keepIn K (.ref f) = true
  b : Binds K fd ps []
section
variable {P : Program} {w : World} {K : PySem.W.Frag} {mg : Str → Option Value} {base : Heap}
set_option linter.unusedVariables false
theorem ok_law {f fDk fDr fOn fBk fKf : Addr} {fd fdDk fdDr fdOn fdBk fdKf : FuncData} (F : Fun K "law" "law" sLaw f fd) (B : Blt mg) (B2 : Blt2 mg)
    (Dk : Callee P w K mg base 1 "_law_deck" ["_law_script"] (spDeck K) fDk fdDk) (Dr : Callee P w K mg base 1 "_law_draw" ["_law_deck_here", "_law_many"] spDraw fDr fdDr)
    (On : Callee P w K mg base 2 "_law_one" ["_law_deck_here", "_law_items"] (spOne K) fOn fdOn) (Bk : Callee P w K mg base 5 "_law_book" ["_law_deck_here", "_law_many", "_law_new"] (spBook K) fBk fdBk)
    (Kf : Callee P w K mg base 3 "key_follows" ["book", "key"] (spKeyF K) fKf fdKf) :
    RunG P w K mg base 6 f fd ["_law_script"] (spLaw K) := by
  refine runG F scLaw (fun vs H Q E h => ?_) (fun cdv A outer s H vs Q E hgu hr h => ?_)
  · obtain ⟨a, ns, rfl, _⟩ := h
    rfl
  · obtain ⟨a, ns, rfl, hS, hn, q⟩ := h
    have hu := hr.units
    have hr1 : Room 1 _ := hr.mono (by decide)
    have hr2 : Room 2 _ := hr.mono (by decide)
    have hr3 : Room 3 _ := hr.mono (by decide)
    refine ⟨_, pss_cons (ps_set (i := 1) scLaw.nd rfl (Or.inr rfl) (pe_call Dk.G hr1 rfl Dk.m Dk.k Dk.b .nil pass0 (pa_cons (pv 0) pa_nil)))
      (pss_cons (ps_for PassesOwn.never rfl (pi_range1 rfl B.range (pa_cons pe_int pa_nil)) (pg_name (i := 2) scLaw.nd rfl (Or.inl rfl))
        (pss_cons (ps_asg (pe_call Bk.G hr rfl Bk.m Bk.k Bk.b .nil pass0 (pa_cons (pv 1) (pa_cons pe_int (pa_cons pe_int pa_nil))))
          (pg_tup rfl (pgs_cons (pg_name (i := 3) scLaw.nd rfl (Or.inl rfl)) (pgs_cons (pg_name (i := 4) scLaw.nd rfl (Or.inl rfl)) (pgs_cons (pg_name (i := 5) scLaw.nd rfl (Or.inl rfl)) (pgs_cons (pg_name (i := 6) scLaw.nd rfl (Or.inl rfl)) pgs_nil))))))
        (pss_cons (ps_set (i := 7) scLaw.nd rfl (Or.inl rfl) (pe_lst pa_nil))
        (pss_cons (ps_for PassesOwn.never rfl (pi_tup (pe_ix ix_seq (pv 3) pe_int (fun _ _ => rfl))) (pg_tup rfl (pgs_cons (pg_name (i := 8) scLaw.nd rfl (Or.inl rfl)) (pgs_cons (pg_name (i := 9) scLaw.nd rfl (Or.inl rfl)) pgs_nil)))
          (pss_one (ps_expr (pe_bm PySem.F.plainAttrs_list PySem.F.slot_list_extend PySem.F.type_list_extend mt_extend (pv 7)
            (pa_cons (pe_lc (own := [("_law_atom", 20)]) (g := gName 20) (tt := tYes) (te := tPairW K 20) rfl scLaw.nd (pi_tup (pv 9)) (blkOk_by (own := [("_law_atom", 20)]) (N := nLaw) (sc := defScope sLaw) (by decide +kernel))
              (fun _ _ _ _ _ => pg_name (i := 20) scLaw.nd rfl (Or.inl rfl)) (fun _ _ _ _ _ => pts_nil)
              (fun _ _ _ _ _ => pe_tup (pa_cons (pe_ix ix_seq (pv 20) pe_int (fun _ _ => rfl)) (pa_cons (pe_op op_sub (pe_callB call_len_seq (by rfl) B.len PySem.boot_len (pa_cons (pv 20) pa_nil)) pe_int) pa_nil)))) pa_nil)))))
        (pss_cons (ps_set (i := 10) scLaw.nd rfl (Or.inl rfl) (pe_lst pa_nil))
        (pss_cons (ps_for PassesOwn.never rfl (pi_range1 rfl B.range (pa_cons (pe_call Dr.G hr1 rfl Dr.m Dr.k Dr.b .nil pass0 (pa_cons (pv 1) (pa_cons pe_int pa_nil))) pa_nil)) (pg_name (i := 11) scLaw.nd rfl (Or.inl rfl))
          (pss_cons (ps_asg (pe_call On.G hr2 rfl On.m On.k On.b .nil pass0 (pa_cons (pv 1) (pa_cons (pv 7) pa_nil))) (pg_tup rfl (pgs_cons (pg_name (i := 12) scLaw.nd rfl (Or.inl rfl)) (pgs_cons (pg_name (i := 13) scLaw.nd rfl (Or.inl rfl)) pgs_nil))))
          (pss_cons (ps_set (i := 14) scLaw.nd rfl (Or.inr rfl) (pe_callTy call_tuple_of (by rfl) B2.tuple boot_tuple (pa_cons (pe_lc (own := [("_law_at", 21)]) (g := gName 21) rfl scLaw.nd (pi_range1 rfl B.range (pa_cons (pv 13) pa_nil)) (blkOk_by (own := [("_law_at", 21)]) (N := nLaw) (sc := defScope sLaw) (by decide +kernel))
            (fun _ _ _ _ _ => pg_name (i := 21) scLaw.nd rfl (Or.inl rfl)) (fun _ _ _ _ _ => pts_one (pt_cmpR op_eq (pe_call Dr.G hr1 rfl Dr.m Dr.k Dr.b .nil pass0 (pa_cons (pv 1) (pa_cons pe_int pa_nil))) pe_int (nomark _))) (fun _ _ _ _ _ => pv 21)) pa_nil)))
          (pss_one (ps_expr (pe_bm PySem.F.plainAttrs_list PySem.F.slot_list_append PySem.F.type_list_append mt_append (pv 10)
            (pa_cons (pe_tup (pa_cons (pv 12) (pa_cons (pe_ifExp (pt_cmpR (op_neD hu) (pv 14) (pe_tup pa_nil) (nomark _)) (pv 14) (pe_tup (pa_cons (pe_op op_sub (pv 13) pe_int) pa_nil))) pa_nil))) pa_nil)))))))
        (pss_cons (ps_set (i := 3) scLaw.nd rfl (Or.inl rfl) (pe_tup (pa_cons (pe_ix ix_seq (pv 3) pe_int (fun _ _ => rfl)) (pa_cons (pe_callTy call_tuple_of (by rfl) B2.tuple boot_tuple (pa_cons (pv 10) pa_nil)) pa_nil))))
        (pss_one (ps_for PassesOwn.never rfl (pi_range1 rfl B.range (pa_cons pe_int pa_nil)) (pg_name (i := 15) scLaw.nd rfl (Or.inl rfl))
          (pss_cons (ps_asg (pe_call On.G hr2 rfl On.m On.k On.b .nil pass0 (pa_cons (pv 1) (pa_cons (pv 7) pa_nil))) (pg_tup rfl (pgs_cons (pg_name (i := 12) scLaw.nd rfl (Or.inl rfl)) (pgs_cons (pg_name (i := 13) scLaw.nd rfl (Or.inl rfl)) pgs_nil))))
          (pss_cons (ps_set (i := 14) scLaw.nd rfl (Or.inr rfl) (pe_callTy call_tuple_of (by rfl) B2.tuple boot_tuple (pa_cons (pe_lc (own := [("_law_at", 21)]) (g := gName 21) rfl scLaw.nd (pi_range1 rfl B.range (pa_cons (pv 13) pa_nil)) (blkOk_by (own := [("_law_at", 21)]) (N := nLaw) (sc := defScope sLaw) (by decide +kernel))
            (fun _ _ _ _ _ => pg_name (i := 21) scLaw.nd rfl (Or.inl rfl)) (fun _ _ _ _ _ => pts_one (pt_cmpR op_gt (pe_call Dr.G hr1 rfl Dr.m Dr.k Dr.b .nil pass0 (pa_cons (pv 1) (pa_cons pe_int pa_nil))) pe_int (nomark _))) (fun _ _ _ _ _ => pv 21)) pa_nil)))
          (pss_cons (ps_set (i := 14) scLaw.nd rfl (Or.inr rfl) (pe_ifExp (pt_cmpR (op_neD hu) (pv 14) (pe_tup pa_nil) (nomark _)) (pv 14) (pe_tup (pa_cons pe_int pa_nil))))
          (pss_cons (ps_set (i := 16) scLaw.nd rfl (Or.inl rfl) (pe_cmpR op_eq (pe_callB call_len_seq (by rfl) B.len PySem.boot_len (pa_cons (pv 14) pa_nil)) (pv 13) (nomark _)))
          (pss_cons (ps_for PassesOwn.never rfl (pi_list (pv 10)) (pg_tup rfl (pgs_cons (pg_name (i := 17) scLaw.nd rfl (Or.inl rfl)) (pgs_cons (pg_name (i := 18) scLaw.nd rfl (Or.inl rfl)) pgs_nil)))
            (pss_one (ps_if (PW.pt (pw_and (pt_cmpR op_eq (pv 17) (pv 12) (nomark _)) (pw_and1 (pt_cmpR (op_eqD hu) (pe_lc (own := [("_law_at", 21)]) (g := gName 21) rfl scLaw.nd (pi_tup (pv 18)) (blkOk_by (own := [("_law_at", 21)]) (N := nLaw) (sc := defScope sLaw) (by decide +kernel))
                (fun _ _ _ _ _ => pg_name (i := 21) scLaw.nd rfl (Or.inl rfl)) (fun _ _ _ _ _ => pts_one (pt_cmpR (r := rIn K true) op_notIn_seq (pv 21) (pv 14) (by rfl))) (fun _ _ _ _ _ => pe_int)) (pe_lst pa_nil) (nomark _)))))
              (pss_one (ps_set (i := 16) scLaw.nd rfl (Or.inl rfl) pe_bl)) pss_nil)))
          (pss_cons (ps_set (i := 19) scLaw.nd rfl (Or.inl rfl) (pe_callB (cr_repr hgu hu) (by rfl) B.repr boot_repr (pa_cons (pv 3) pa_nil)))
          (pss_one (ps_if (PW.pt (pw_or (pt_cmpR op_ne (pe_callB (cr_repr hgu hu) (by rfl) B.repr boot_repr (pa_cons (pe_call Kf.G hr3 rfl Kf.m Kf.k Kf.b .nil pass0 (pa_cons (pv 3) (pa_cons (pe_tup (pa_cons (pv 12) (pa_cons (pv 14) pa_nil))) pa_nil))) pa_nil))
              (pe_callB (cr_repr hgu hu) (by rfl) B.repr boot_repr (pa_cons (pv 16) pa_nil)) (nomark _))
            (pw_or1 (pt_cmpR op_ne (pe_callB (cr_repr hgu hu) (by rfl) B.repr boot_repr (pa_cons (pv 3) pa_nil)) (pv 19) (nomark _)))))
            (pss_one (ps_ret pe_bl)) pss_nil)))))))))))))))))
      (pss_one (ps_ret pe_bl))), ?_⟩
    have szl : ∀ m : Nat, m ≤ 200 → m ≤ sizeLine := fun m h => by
      rw [sizeLine_eq]
      omega
    refine ⟨_, rfl, a, ns, rfl, hS, hn, fun d l ms H1 D1 nd nl hm s1 => ?_⟩
    refine ⟨16, rfl, by decide, by decide, for_range (n := 16) (fun i σ G => ∃ v2 v3 v4 v5 v6 v7 v8 v9 v10 v11 v12 v13 v14 v15 v16 v17 v18 v19 : Option V, σ = [some (.ref a), some (.ref d), v2, v3, v4, v5, v6, v7, v8, v9, v10, v11, v12, v13, v14, v15, v16, v17, v18, v19, none, none] ∧ Deck G d l ms (1200 * i))
      ⟨none, none, none, none, none, none, none, none, none, none, none, none, none, none, none, none, none, none, rfl, D1⟩ ?_ fun σ G _ => q G⟩
    rintro i σ G hi ⟨v2, v3, v4, v5, v6, v7, v8, v9, v10, v11, v12, v13, v14, v15, v16, v17, v18, v19, rfl, D2⟩
    -- the book
    refine ⟨_, rfl, d, l, ms, 1200 * i, 3, rfl, by decide, by decide, D2, hm, by omega, fun p bp hp wp vb bks hks ws rs ks0 G2 hp4 db r1 r3 k3 ky0 ok D3 f2 => ?_⟩
    refine ⟨p, _, rfl, hp4, rfl, _, _, rfl, _, _, rfl, _, _, rfl, _, _, rfl, rfl, ?_⟩
    refine ⟨szl _ (by show 0 ≤ 200; omega), fun wd nwd => ?_⟩
    obtain ⟨ba, bxs, rfl, hba, hbx⟩ := dpT db
    cases hbx with
    | @cons vr _ _ _ dr hbx =>
    cases hbx with
    | @cons vk _ _ _ dk hbx =>
    cases hbx
    obtain ⟨ra, rxs, rfl, hra, hrx⟩ := dpT dr
    have lrx : rxs.length = rs.length := by
      have z := dps_len hrx
      rw [List.length_map] at z
      exact z
    obtain ⟨wdd, wdl⟩ := D3.nd nwd
    have sw := same_new (o := .lst []) nwd
    have rok : ∀ r ∈ rs, RlOk r := fun r h => (ok.ok r h).1
    refine ⟨_, rfl, .inr (.inl ⟨ba, _, 0, _, rfl, rfl, same_seqT sw hba, atI_nat (j := 0) rfl, ra, rfl, ⟨_, same_seqT sw hra⟩, for_tup (K := K) (xs := rxs) (fun j σ G => ∃ (M : List (Addr × Str × Nat)) (v8 v9 : Option V), σ = [some (.ref a), some (.ref d), some (.int (0 + (i : Nat))), some (.ref ba), some (.ref bp), some (.ref hp), some (.ref wp), some (.ref wd), v8, v9, v10, v11, v12, v13, v14, v15, v16, v17, v18, v19, none, none] ∧
        G wd = some (.lst (M.map fun t => V.ref t.1)) ∧ M.length ≤ 3 * j ∧ (1 ≤ j → M ≠ []) ∧ (∀ t ∈ M, WdAt G rs t) ∧ Same G2 G) ⟨[], v8, v9, rfl, upd_same, Nat.zero_le _, (fun h => absurd h (by decide)), (fun t h => nomatch h), sw⟩ (fun j σ G _ ⟨_, _, _, _, _, _, _, _, s⟩ => same_seqT s hra) ?_ ?_⟩)⟩
    · rintro j v σ G hv ⟨M, v8, v9, rfl, g1, g2, g3, g4, g5⟩
      obtain ⟨dr0, hdr, hdp⟩ := dps_get hrx hv
      obtain ⟨r, hr', rfl⟩ : ∃ r, rs[j]? = some r ∧ ruleD r = dr0 := by
        rw [List.getElem?_map] at hdr
        exact Option.map_eq_some_iff.mp hdr
      have mr : r ∈ rs := List.mem_of_getElem? hr'
      have hj : j < rs.length := (List.getElem?_eq_some_iff.mp hr').1
      obtain ⟨rra, rv, rfl, hrra, har⟩ := dpT (dp_same g5 _ _ hdp)
      cases har with
      | @cons vb _ _ _ db0 har =>
      cases har with
      | @cons vh _ _ _ dh har =>
      cases har
      obtain ⟨hh, L, rfl, hsH, eL, hL⟩ := dpRows dh
      have ok0 := rok r mr
      have lL : L.length = r.2.length := by
        have z := congrArg List.length eL
        rw [List.length_map] at z
        exact z
      have nar : ∀ t ∈ L, Nar t.2 := fun t ht => ok0.2.2.2 t.2 (by rw [← eL]; exact List.mem_map_of_mem ht)
      refine ⟨rra, _, rfl, hrra, rfl, _, _, rfl, _, _, rfl, rfl, ?_⟩
      refine ⟨_, rfl, .inl ⟨rfl, _, .inl (.inl g1)⟩, _, rfl, hh, rfl, ⟨_, hsH⟩, fun Dq nDq => ?_⟩
      have wDq : wd ≠ Dq := ne_of_none g1 nDq
      refine lc_tup (K := K) (xs := L.map fun q => V.ref q.1) (fun u G' => ∃ N : List (Addr × Str × Nat), G' Dq = some (.lst (N.map fun t => V.ref t.1)) ∧ N.length = u ∧ (∀ t ∈ N, WdAt G' rs t) ∧ Same G G')
        ⟨[], upd_same, rfl, (fun t h => nomatch h), same_new nDq⟩ (fun u G' _ ⟨_, _, _, _, sm⟩ => same_seqT sm hsH) ?_ ?_
      · rintro u v G' hv ⟨N, n1, n2, n3, n4⟩
        obtain ⟨t, ht, rfl⟩ : ∃ t, L[u]? = some t ∧ V.ref t.1 = v := by
          rw [List.getElem?_map] at hv
          exact Option.map_eq_some_iff.mp hv
        have mt : t ∈ L := List.mem_of_getElem? ht
        have hu' : u < L.length := (List.getElem?_eq_some_iff.mp ht).1
        obtain ⟨nn2, nn5, nv⟩ := nar t mt
        obtain ⟨x, ws', ex⟩ : ∃ x ws, t.2 = x :: ws := by
          cases z : t.2 with
          | nil =>
            rw [z] at nn2
            exact absurd nn2 (by decide)
          | cons a b => exact ⟨a, b, rfl⟩
        have hq := same_seqT n4 (hL t mt)
        have mh : t.2 ∈ headsL rs := List.mem_flatMap.mpr ⟨r, mr, by rw [← eL]; exact List.mem_map_of_mem mt⟩
        rw [ex] at hq nn2 nn5 nv mh
        refine ⟨rfl, ?_⟩
        dsimp only [tYes]
        rw [if_pos rfl]
        have h3 := ok0.2.2.1
        refine ⟨_, rfl, .inr (.inl ⟨t.1, _, 0, _, rfl, rfl, hq, atI_nat (j := 0) rfl, _, rfl, t.1, _, rfl, .inr hq, _, 1, rfl, rfl, szl _ (by show 2 ≤ 200; omega), fun pp npp => ?_⟩)⟩
        have Dqp : Dq ≠ pp := ne_of_none n1 npp
        have ew : (((x :: ws').map V.str).length : Int) - 1 = ((ws'.length : Nat) : Int) := by
          rw [List.length_map, List.length_cons]
          omega
        refine ⟨_, by rw [upd_ne Dqp]; exact n1, by rw [List.length_map, sizeLine_eq]; omega, N ++ [(pp, x, ws'.length)], by rw [upd_same, List.map_append]; rfl, by rw [List.length_append, n2]; rfl, fun t2 ht2 => ?_, same_add nDq n4 npp⟩
        rcases List.mem_append.mp ht2 with ht2 | ht2
        · obtain ⟨z1, z2⟩ := n3 t2 ht2
          refine ⟨?_, z2⟩
          rw [upd_ne (fun e => by rw [e, n1] at z1; cases z1), upd_ne (ne_of_none z1 npp)]
          exact z1
        · rw [List.mem_singleton.mp ht2]
          rw [List.length_cons] at nn5
          refine ⟨?_, nv x List.mem_cons_self, by show ws'.length ≤ 4; omega, x :: ws', mh, rfl, rfl⟩
          rw [upd_ne (Ne.symm Dqp)]
          show upd G' pp (.tup [.str x, .int ((((x :: ws').map V.str).length : Int) - 1)]) pp = _
          rw [ew]
          exact upd_same
      · rintro G' ⟨N, n1, n2, n3, n4⟩
        rw [List.length_map] at n2
        have g1' := n4 _ _ g1
        have h3 := ok0.2.2.1
        have h1 := ok0.2.1
        refine ⟨wd, Dq, _, _, rfl, rfl, g1', n1, by rw [List.length_map, List.length_map, sizeLine_eq]; omega, M ++ N, _, _, rfl, by rw [upd_same, List.map_append], by rw [List.length_append]; omega, fun _ z => ?_, fun t ht => ?_, fun b o hb => ?_⟩
        · have z2 := congrArg List.length z
          rw [List.length_append, List.length_nil] at z2
          omega
        · have z : WdAt G' rs t := by
            rcases List.mem_append.mp ht with ht | ht
            · obtain ⟨z1, z2⟩ := g4 t ht
              exact ⟨n4 _ _ z1, z2⟩
            · exact n3 t ht
          obtain ⟨z1, z2⟩ := z
          refine ⟨?_, z2⟩
          rw [upd_ne (fun e => by rw [e, g1'] at z1; cases z1)]
          exact z1
        · rw [upd_ne (fun e => by rw [e, nwd] at hb; cases hb)]
          exact n4 _ _ (g5 _ _ hb)
    rintro σ G3 ⟨M, v8', v9', rfl, g1, g2, g3, g4, g5⟩
    rw [lrx] at g2 g3
    have Mne := g3 r1
    have D4 := D3.same g5
    have hba3 := same_seqT g5 hba
    have dr3 := dp_same g5 _ _ dr
    -- the keys
    refine ⟨szl _ (by show 0 ≤ 200; omega), fun sp nsp => ?_⟩
    obtain ⟨spd, spl⟩ := D4.nd nsp
    have ss := same_new (o := .lst []) nsp
    have wsp : wd ≠ sp := ne_of_none g1 nsp
    refine ⟨_, rfl, d, l, ms, _, 4, rfl, by decide, by decide, D4.same ss, hm, by omega, fun c3 G5 c4 c5 D5 f5 => ?_⟩
    obtain ⟨c3, rfl⟩ : ∃ c' : Nat, c3 = (c' : Int) := ⟨c3.toNat, by omega⟩
    have f35 : Fr d G3 G5 := (same_fr ss).trans f5
    have gsp5 := f5 _ _ spd (upd_same (H := G3) (a := sp) (o := .lst []))
    generalize hkk : 1200 * i + 1000 + 1 = kk at D5
    refine ⟨c3, rfl, by omega, by omega, for_range (n := c3) (fun j σ G => ∃ (kvs : List V) (ks : List Ky) (v11 v12 v13 v14 : Option V), σ = [some (.ref a), some (.ref d), some (.int (0 + (i : Nat))), some (.ref ba), some (.ref bp), some (.ref hp), some (.ref wp), some (.ref wd), v8', v9', some (.ref sp), v11, v12, v13, v14, v15, v16, v17, v18, v19, none, none] ∧
        G sp = some (.lst kvs) ∧ DpAll K G kvs (ks.map keyD) ∧ ks.length ≤ j ∧ (∀ y ∈ ks, KySm y) ∧ Deck G d l ms (kk + 10 * j) ∧ (∀ b o, b ≠ d → b ≠ sp → G5 b = some o → G b = some o))
      ⟨[], [], v11, v12, v13, v14, rfl, gsp5, .nil, Nat.le_refl _, (fun y h => nomatch h), D5, fun b o _ _ h => h⟩ ?_ ?_⟩
    · rintro j σ G hj ⟨kvs, ks, v11, v12, v13, v14, rfl, gk, gd, gl, gy, DG, fG⟩
      have lkv : kvs.length = ks.length := by
        have z := dps_len gd
        rw [List.length_map] at z
        exact z
      have gw : G wd = some (.lst (M.map fun t => V.ref t.1)) := fG _ _ wdd wsp (f35 _ _ wdd g1)
      refine ⟨_, rfl, _, rfl, d, l, ms, _, .ref wd, rfl, DG, hm, by omega, .inl ⟨wd, _, rfl, wdd, .inl (.inl (.inl (off_at wdd gw))), (fun z => Mne (List.map_eq_nil_iff.mp z)), (by rw [List.length_map]; omega), fun u v G6 hv D6 f6 => ?_⟩⟩
      obtain ⟨t, ht, rfl⟩ : ∃ t, M[u]? = some t ∧ V.ref t.1 = v := by
        rw [List.getElem?_map] at hv
        exact Option.map_eq_some_iff.mp hv
      obtain ⟨t1, t2, t3, k0, mk0, hk0, lk0⟩ := g4 t (List.mem_of_getElem? ht)
      have td : t.1 ≠ d := fun e => by
        obtain ⟨us, z⟩ := D4.lst
        rw [e, z] at t1
        cases t1
      have tsp : t.1 ≠ sp := ne_of_none t1 nsp
      have t1G := fG _ _ td tsp (f35 _ _ td t1)
      have lk1 : 1 ≤ t.2.2 := by
        obtain ⟨r, hr', hk2⟩ := List.mem_flatMap.mp mk0
        have z := ((rok r hr').2.2.2 k0 hk2).1
        omega
      refine ⟨t.1, _, rfl, .inl (.inl (f6 _ _ td t1G)), rfl, _, _, rfl, _, _, rfl, rfl, ?_⟩
      -- the columns
      refine ⟨_, rfl, (t.2.2 : Int), rfl, by omega, by omega, fun Dc nDc => ?_⟩
      obtain ⟨cd, cl⟩ := D6.nd nDc
      refine lc_range (lo := 0) (n := (t.2.2 : Int).toNat) (fun u G3 => ∃ cs : List Nat, G3 Dc = some (.lst (colsV cs)) ∧ cs.length ≤ u ∧ (∀ c ∈ cs, c < u) ∧ Deck G3 d l ms (kk + 10 * j + 1 + u) ∧ (∀ b o, b ≠ d → b ≠ Dc → G6 b = some o → G3 b = some o))
        ⟨[], upd_same, Nat.le_refl _, (fun c h => nomatch h), D6.same (same_new nDc), fun b o _ h2 h => by rw [upd_ne h2]; exact h⟩ ?_ ?_
      · rintro u G3 hu3 ⟨cs, c1', c2', c0', c3', c4'⟩
        refine ⟨rfl, ?_⟩
        refine ⟨_, rfl, d, l, ms, _, 2, rfl, by decide, by decide, c3', hm, by omega, fun v H2 hv0 hv1 D4 f4 => ⟨rfl, _, rfl, ite2 (fun _ => ?_) fun _ => ?_⟩⟩
        · refine ⟨_, rfl, _, f4 _ _ cd c1', by rw [List.length_map, sizeLine_eq]; omega, cs ++ [u], by rw [upd_same, Int.zero_add]; unfold colsV; rw [List.map_append]; rfl, by rw [List.length_append]; exact Nat.succ_le_succ c2', fun c hc => ?_, (D4.upd cd cl).mono (by omega), fun b o h1 h2 h => ?_⟩
          · rcases List.mem_append.mp hc with hc | hc
            · exact Nat.lt_succ_of_lt (c0' c hc)
            · rw [List.mem_singleton.mp hc]
              exact Nat.lt_succ_self _
          · rw [upd_ne h2]
            exact f4 _ _ h1 (c4' b o h1 h2 h)
        · exact ⟨cs, f4 _ _ cd c1', by omega, fun c hc => Nat.lt_succ_of_lt (c0' c hc), D4.mono (by omega), fun b o h1 h2 h => f4 _ _ h1 (c4' b o h1 h2 h)⟩
      rintro G7 ⟨cs, c1', c2', c0', c3', c4'⟩
      refine ⟨Dc, _, rfl, .inl ⟨.inl (.inl c1'), fun ct nct => ?_⟩⟩
      have sct := same_new (o := .tup (colsV cs)) nct
      have D8 := c3'.same sct
      have fA : ∀ b o, b ≠ d → G b = some o → upd G7 ct (.tup (colsV cs)) b = some o := fun b o h1 h => sct _ _ (c4' b o h1 (fun e => by
        have z := f6 _ _ h1 h
        rw [e, nDc] at z
        cases z) (f6 _ _ h1 h))
      have hct : upd G7 ct (.tup (colsV cs)) ct = some (.tup (colsV cs)) := upd_same
      generalize upd G7 ct (.tup (colsV cs)) = G8 at D8 fA hct ⊢
      have gk8 := fA _ _ spd gk
      -- the key
      refine ⟨_, rfl, .inl ⟨rfl, _, .inl (.inl gk8)⟩, ?_⟩
      refine ⟨_, rfl, _, rfl, szl _ (by show 0 ≤ 200; omega), fun pe npe => ?_⟩
      have se := same_new (o := .tup []) npe
      refine ⟨colsD cs, .tuple [], .tup (.inl (.inl (se _ _ hct))) (dps_cols cs), .tup (.inl (.inl upd_same)) .nil, cols_shaped cs, (by decide +kernel), _, rfl, ?_⟩
      rw [cols_nil]
      have fin : ∀ (G9 : Hp) (ca : Addr) (cs' : List Nat), (∀ b o, b ≠ d → G b = some o → G9 b = some o) → Deck G9 d l ms (kk + 10 * j + 1 + 4) → G9 ca = some (.tup (colsV cs')) → cs'.length ≤ 4 → (∀ c ∈ cs', c < 4) →
          ∀ ky, G9 ky = none → ∃ (kvs' : List V) (ks' : List Ky), G9 sp = some (.lst kvs) ∧ upd (upd G9 ky (.tup [.str t.2.1, .ref ca])) sp (.lst (kvs ++ [.ref ky])) sp = some (.lst kvs') ∧ DpAll K (upd (upd G9 ky (.tup [.str t.2.1, .ref ca])) sp (.lst (kvs ++ [.ref ky]))) kvs' (ks'.map keyD) ∧ ks'.length ≤ j + 1 ∧ (∀ y ∈ ks', KySm y) ∧
            Deck (upd (upd G9 ky (.tup [.str t.2.1, .ref ca])) sp (.lst (kvs ++ [.ref ky]))) d l ms (kk + 10 * (j + 1)) ∧ (∀ b o, b ≠ d → b ≠ sp → G5 b = some o → upd (upd G9 ky (.tup [.str t.2.1, .ref ca])) sp (.lst (kvs ++ [.ref ky])) b = some o) := by
        intro G9 ca cs' f9 D9 hca l4 lt4 ky nky
        have gk9 := f9 _ _ spd gk
        have ts9 : TS G G9 := fun b o c h => f9 b o (fun e => by
          obtain ⟨us, z⟩ := DG.lst
          rw [e, z] at h
          exact c us (Option.some.inj h).symm) h
        have sk := same_new (o := .tup [.str t.2.1, .ref ca]) nky
        have gk10 := sk _ _ gk9
        have tsk : TS G9 (upd (upd G9 ky (.tup [.str t.2.1, .ref ca])) sp (.lst (kvs ++ [.ref ky]))) := (same_ts sk).trans (upd_ts gk10)
        refine ⟨kvs ++ [.ref ky], ks ++ [(t.2.1, cs')], gk9, upd_same, ?_, by rw [List.length_append]; exact Nat.succ_le_succ gl, fun y hy => ?_, ((D9.same sk).upd spd spl).mono (by omega), fun b o h1 h2 h => ?_⟩
        · rw [List.map_append]
          refine dps_app (dps_ts (ts9.trans tsk) _ _ (tup_keys ks) gd) (.cons (.tup (.inl (.inl ?_)) (.cons (.str _) (.cons (dp_ts tsk _ _ (tup_c cs') (.tup (.inl (.inl hca)) (dps_cols cs'))) .nil))) .nil)
          rw [upd_ne (fun e => by rw [e] at nky; rw [nky] at gk9; cases gk9)]
          exact upd_same
        · rcases List.mem_append.mp hy with hy | hy
          · exact gy y hy
          · rw [List.mem_singleton.mp hy]
            exact ⟨t2, l4, lt4⟩
        · rw [upd_ne h2]
          exact sk _ _ (f9 b o h1 (fG b o h1 h2 h))
      have f9 : ∀ b o, b ≠ d → G b = some o → upd G8 pe (.tup []) b = some o := fun b o h1 h => se _ _ (fA b o h1 h)
      refine ite2 (fun c => ?_) fun c => ?_
      · refine ⟨_, rfl, szl _ (by show 2 ≤ 200; omega), fun ky nky => ?_⟩
        obtain ⟨kvs', ks', e1, e2, e3, e4, e5, e6, e7⟩ := fin _ ct cs f9 ((D8.same se).mono (by omega)) (se _ _ hct) (by omega) (fun c hc => by have z := c0' c hc; omega) ky nky
        have gsp' := (same_new (o := .tup [.str t.2.1, .ref ct]) nky) _ _ e1
        exact ⟨sp, _, _, rfl, rfl, gsp', by rw [sizeLine_eq]; omega, kvs', ks', _, _, _, _, rfl, e2, e3, e4, e5, e6, e7⟩
      · refine ⟨_, rfl, (t.2.2 : Int), 1, rfl, rfl, szl _ (by show 1 ≤ 200; omega), fun ca nca => ⟨szl _ (by show 2 ≤ 200; omega), fun ky nky => ?_⟩⟩
        have sc := same_new (o := .tup [.int ((t.2.2 : Int) - 1)]) nca
        have ew : (t.2.2 : Int) - 1 = ((t.2.2 - 1 : Nat) : Int) := by omega
        obtain ⟨kvs', ks', e1, e2, e3, e4, e5, e6, e7⟩ := fin _ ca [t.2.2 - 1] (fun b o h1 h => sc _ _ (f9 b o h1 h)) (((D8.same se).same sc).mono (by omega)) (by
          show upd _ ca _ ca = some (.tup [.int ((t.2.2 - 1 : Nat) : Int)])
          rw [upd_same, ew]) (by show 1 ≤ 4; decide) (fun c hc => by rw [List.mem_singleton.mp hc]; omega) ky nky
        have gsp' := (same_new (o := .tup [.str t.2.1, .ref ca]) nky) _ _ e1
        exact ⟨sp, _, _, rfl, rfl, gsp', by rw [sizeLine_eq]; omega, kvs', ks', _, _, _, _, rfl, e2, e3, e4, e5, e6, e7⟩
    rintro σ G6 ⟨kvs, ks, v11', v12', v13', v14', rfl, gk, gd, gl, gy, D6, fG⟩
    have lkv : kvs.length = ks.length := by
      have z := dps_len gd
      rw [List.length_map] at z
      exact z
    have ts36 : TS G3 G6 := fun b o c h => fG b o (fun e => by
      obtain ⟨us, z⟩ := D4.lst
      rw [e, z] at h
      exact c us (Option.some.inj h).symm) (ne_of_none h nsp) (f35 b o (fun e => by
      obtain ⟨us, z⟩ := D4.lst
      rw [e, z] at h
      exact c us (Option.some.inj h).symm) h)
    have hba6 := sqT_ts ts36 hba3
    have dr6 := dp_ts ts36 _ _ (tup_rs rs) dr3
    have gw6 : G6 wd = some (.lst (M.map fun t => V.ref t.1)) := fG _ _ wdd wsp (f35 _ _ wdd g1)
    have g46 : ∀ t ∈ M, WdAt G6 rs t := fun t ht => by
      obtain ⟨z1, z2⟩ := g4 t ht
      exact ⟨ts36 _ _ (fun us e => by cases e) z1, z2⟩
    -- the book with these keys
    refine ⟨_, rfl, .inr (.inl ⟨ba, _, 0, _, rfl, rfl, hba6, atI_nat (j := 0) rfl, _, rfl, sp, kvs, rfl, .inl ⟨.inl (.inl gk), fun kt nkt => ⟨szl _ (by show 2 ≤ 200; omega), fun bk nbk => ?_⟩⟩⟩)⟩
    have sA := (same_new (o := .tup kvs) nkt).trans (same_new (o := .tup [.ref ra, .ref kt]) nbk)
    have db7 : Dp K (upd (upd G6 kt (.tup kvs)) bk (.tup [.ref ra, .ref kt])) (.ref bk) (bookD rs ks) := .tup (.inl (.inl upd_same)) (.cons (dp_same sA _ _ dr6) (.cons (.tup (.inl (.inl ((same_new nbk) _ _ upd_same))) (dps_same sA _ _ gd)) .nil))
    have D7 := D6.same sA
    have gw7 := sA _ _ gw6
    have gk7 := sA _ _ gk
    have gd7 := dps_same sA _ _ gd
    have g47 : ∀ t ∈ M, WdAt (upd (upd G6 kt (.tup kvs)) bk (.tup [.ref ra, .ref kt])) rs t := fun t ht => ⟨sA _ _ (g46 t ht).1, (g46 t ht).2⟩
    have sm7 := book_sm rok (by omega) gy (by omega)
    generalize upd (upd G6 kt (.tup kvs)) bk (.tup [.ref ra, .ref kt]) = G7 at db7 D7 gw7 gk7 gd7 g47 ⊢
    clear gd gk gw6 g46 hba6 dr6 ts36 fG hba3 dr3 g4 g5 hba hra db dr dk
    refine ⟨5, rfl, by decide, by decide, for_range (n := 5) (fun j σ G => ∃ v12 v13 v14 v15 v16 v17 v18 v19 : Option V, σ = [some (.ref a), some (.ref d), some (.int (0 + (i : Nat))), some (.ref bk), some (.ref bp), some (.ref hp), some (.ref wp), some (.ref wd), v8', v9', some (.ref sp), v11', v12, v13, v14, v15, v16, v17, v18, v19, none, none] ∧
        Deck G d l ms (kk + 30 + 10 * j) ∧ Fr d G7 G) ⟨v12', v13', v14', v15, v16, v17, v18, v19, rfl, D7.mono (by omega), Fr.refl d G7⟩ ?_ ?_⟩
    · rintro j σ G hj ⟨v12, v13, v14, v15, v16, v17, v18, v19, rfl, DG, fG⟩
      have gw : G wd = some (.lst (M.map fun t => V.ref t.1)) := fG _ _ wdd gw7
      refine ⟨_, rfl, _, rfl, d, l, ms, _, .ref wd, rfl, DG, hm, by omega, .inl ⟨wd, _, rfl, wdd, .inl (.inl (.inl (off_at wdd gw))), (fun z => Mne (List.map_eq_nil_iff.mp z)), (by rw [List.length_map]; omega), fun u v G8 hv D8 f8 => ?_⟩⟩
      obtain ⟨t, ht, rfl⟩ : ∃ t, M[u]? = some t ∧ V.ref t.1 = v := by
        rw [List.getElem?_map] at hv
        exact Option.map_eq_some_iff.mp hv
      obtain ⟨t1, t2, t3, k0, mk0, hk0, lk0⟩ := g47 t (List.mem_of_getElem? ht)
      have td : t.1 ≠ d := fun e => by
        obtain ⟨us, z⟩ := D7.lst
        rw [e, z] at t1
        cases t1
      have lk1 : 1 ≤ t.2.2 := by
        obtain ⟨r, hr', hk2⟩ := List.mem_flatMap.mp mk0
        have z := ((rok r hr').2.2.2 k0 hk2).1
        omega
      have f78 := fG.trans f8
      refine ⟨t.1, _, rfl, .inl (.inl (f78 _ _ td t1)), rfl, _, _, rfl, _, _, rfl, rfl, ?_⟩
      -- the columns
      refine ⟨_, rfl, (t.2.2 : Int), rfl, by omega, by omega, fun Dc nDc => ?_⟩
      obtain ⟨cd, cl⟩ := D8.nd nDc
      refine lc_range (lo := 0) (n := (t.2.2 : Int).toNat) (fun u G3 => ∃ cs : List Nat, G3 Dc = some (.lst (colsV cs)) ∧ cs.length ≤ u ∧ (∀ c ∈ cs, c < u) ∧ Deck G3 d l ms (kk + 30 + 10 * j + 1 + u) ∧ (∀ b o, b ≠ d → b ≠ Dc → G8 b = some o → G3 b = some o))
        ⟨[], upd_same, Nat.le_refl _, (fun c h => nomatch h), D8.same (same_new nDc), fun b o _ h2 h => by rw [upd_ne h2]; exact h⟩ ?_ ?_
      · rintro u G3 hu3 ⟨cs, c1', c2', c0', c3', c4'⟩
        refine ⟨rfl, ?_⟩
        refine ⟨_, rfl, d, l, ms, _, 3, rfl, by decide, by decide, c3', hm, by omega, fun v H2 hv0 hv1 D4 f4 => ⟨v, 0, rfl, rfl, _, rfl, ite2 (fun _ => ?_) fun _ => ?_⟩⟩
        · refine ⟨_, rfl, _, f4 _ _ cd c1', by rw [List.length_map, sizeLine_eq]; omega, cs ++ [u], by rw [upd_same, Int.zero_add]; unfold colsV; rw [List.map_append]; rfl, by rw [List.length_append]; exact Nat.succ_le_succ c2', fun c hc => ?_, (D4.upd cd cl).mono (by omega), fun b o h1 h2 h => ?_⟩
          · rcases List.mem_append.mp hc with hc | hc
            · exact Nat.lt_succ_of_lt (c0' c hc)
            · rw [List.mem_singleton.mp hc]
              exact Nat.lt_succ_self _
          · rw [upd_ne h2]
            exact f4 _ _ h1 (c4' b o h1 h2 h)
        · exact ⟨cs, f4 _ _ cd c1', by omega, fun c hc => Nat.lt_succ_of_lt (c0' c hc), D4.mono (by omega), fun b o h1 h2 h => f4 _ _ h1 (c4' b o h1 h2 h)⟩
      rintro G9 ⟨cs, c1', c2', c0', c3', c4'⟩
      refine ⟨Dc, _, rfl, .inl ⟨.inl (.inl c1'), fun ct nct => ?_⟩⟩
      have sct := same_new (o := .tup (colsV cs)) nct
      have D9 := c3'.same sct
      have fA : Fr d G7 (upd G9 ct (.tup (colsV cs))) := fun b o h1 h => sct _ _ (c4' b o h1 (fun e => by
        have z := f78 _ _ h1 h
        rw [e, nDc] at z
        cases z) (f78 _ _ h1 h))
      have hct : upd G9 ct (.tup (colsV cs)) ct = some (.tup (colsV cs)) := upd_same
      generalize upd G9 ct (.tup (colsV cs)) = G10 at D9 fA hct ⊢
      refine ⟨_, rfl, szl _ (by show 0 ≤ 200; omega), fun pe npe => ?_⟩
      have se := same_new (o := .tup []) npe
      refine ⟨colsD cs, .tuple [], .tup (.inl (.inl (se _ _ hct))) (dps_cols cs), .tup (.inl (.inl upd_same)) .nil, cols_shaped cs, (by decide +kernel), _, rfl, ?_⟩
      rw [cols_nil]
      refine ifQ (fun v H' => ∃ (ca : Addr) (cs' : List Nat), v = .ref ca ∧ H' ca = some (.tup (colsV cs')) ∧ cs'.length ≤ 4 ∧ (∀ c ∈ cs', c < 4) ∧ Deck H' d l ms (kk + 30 + 10 * j + 6) ∧ Fr d G7 H') ?key (fun Q1 Q2 h z => ?ma) (fun Q1 Q2 h z => ?mb) (fun c => ?l) fun c => ?r
      case ma =>
        obtain ⟨v, e, z⟩ := z
        exact ⟨v, e, h _ _ z⟩
      case mb => exact ⟨z.1, fun p np => h _ _ (z.2 p np)⟩
      case l => exact ⟨_, rfl, ct, cs, rfl, se _ _ hct, by omega, fun c hc => by have z := c0' c hc; omega, (D9.same se).mono (by omega), fA.trans (same_fr se)⟩
      case r =>
        refine ⟨szl _ (by show 1 ≤ 200; omega), fun ca nca => ?_⟩
        have sc := same_new (o := .tup [.int 0]) nca
        exact ⟨ca, [0], rfl, upd_same, by decide, fun c hc => by rw [List.mem_singleton.mp hc]; decide, ((D9.same se).same sc).mono (by omega), fA.trans (same_fr (se.trans sc))⟩
      rintro v H' ⟨ca, cs', rfl, hca, l4, lt4, DH, fH⟩
      have gk := fH _ _ spd gk7
      have ts7 : TS G7 H' := fun b o c h => fH b o (fun e => by
        obtain ⟨us, z⟩ := D7.lst
        rw [e, z] at h
        exact c us (Option.some.inj h).symm) h
      have gd := dps_ts ts7 _ _ (tup_keys ks) gd7
      have dbH := dp_ts ts7 _ _ (tup_b rs ks) db7
      clear c1' c4' c3' c0' c2' nDc nct sct D9 fA hct se npe cd cl D8 f8 f78
      -- what is due
      refine ⟨_, rfl, ca, _, rfl, .inr (.inl (.inl hca)), _, rfl, rfl, ?_⟩
      rw [List.length_map]
      refine ⟨_, rfl, sp, rfl, ⟨_, .inl (.inl gk)⟩, for_list (K := K) (xs := kvs) (fun u σ G' => ∃ v17 v18 : Option V, σ = [some (.ref a), some (.ref d), some (.int (0 + (i : Nat))), some (.ref bk), some (.ref bp), some (.ref hp), some (.ref wp), some (.ref wd), v8', v9', some (.ref sp), v11', some (.str t.2.1), some (.int (t.2.2 : Int)), some (.ref ca), some (.int (0 + (j : Nat))),
          some (.bl (keyHB (ks.take u) t.2.1 cs' (t.2.2 : Int))), v17, v18, v19, none, none] ∧ Same H' G') ⟨v17, v18, ?_, Same.refl H'⟩ (fun u σ G' _ ⟨_, _, _, s⟩ => .inl (.inl (s _ _ gk))) ?_ ?_⟩
      · have e16 : keyHB (ks.take 0) t.2.1 cs' (t.2.2 : Int) = decide (V.int ((cs'.length : Nat) : Int) = V.int (t.2.2 : Int)) := by
          unfold keyHB
          rw [List.take_zero, List.any_nil, Bool.or_false]
          refine decide_eq_decide.mpr ⟨fun e => by rw [e], fun e => V.int.inj e⟩
        rw [e16]
        rfl
      · rintro u v σ G' hv ⟨v17, v18, rfl, sG⟩
        obtain ⟨dk, hdk, hdp⟩ := dps_get gd hv
        obtain ⟨y, hy, rfl⟩ : ∃ y, ks[u]? = some y ∧ keyD y = dk := by
          rw [List.getElem?_map] at hdk
          exact Option.map_eq_some_iff.mp hdk
        obtain ⟨ya, yc, rfl, hya, hyc⟩ := dpKey (dp_same sG _ _ hdp)
        have tk : keyHB (ks.take (u + 1)) t.2.1 cs' (t.2.2 : Int) = (keyHB (ks.take u) t.2.1 cs' (t.2.2 : Int) || (decide (y.1 = t.2.1) && hasAllB cs' y.2)) := by
          unfold keyHB
          rw [List.take_add_one, hy, List.any_append, ← Bool.or_assoc]
          simp
        refine ⟨ya, _, rfl, hya, rfl, _, _, rfl, _, _, rfl, rfl, ?_⟩
        refine ⟨_, rfl, _, rfl, rfl, _, rfl, ite2 (fun c => ?_) fun c => iteF ⟨some (.str y.1), some (.ref yc), ?_, sG⟩⟩
        · have c' : decide (V.str y.1 = V.str t.2.1) = true := c
          have ey : y.1 = t.2.1 := V.str.inj (of_decide_eq_true c')
          rw [decide_eq_true ey, Bool.true_and] at tk
          obtain ⟨yc', e, hcq⟩ := dpCols hyc
          cases e
          have ly : y.2.length ≤ 4 := (gy y (List.mem_of_getElem? hy)).2.1
          refine ⟨_, rfl, yc, rfl, ⟨_, hcq⟩, fun Dn nD => ?_⟩
          refine lc_tup (K := K) (xs := colsV y.2) (fun q G => G Dn = some (.lst ((List.replicate ((y.2.take q).countP fun c => !decide (c ∈ cs')) (1 : Int)).map V.int)) ∧ Same G' G) ⟨upd_same, same_new nD⟩ (fun q G _ h => same_seqT h.2 hcq) ?_ ?_
          · rintro q v G hq ⟨g1, g2⟩
            obtain ⟨c, hc, rfl⟩ : ∃ c : Nat, y.2[q]? = some c ∧ V.int (c : Int) = v := by
              unfold colsV at hq
              rw [List.getElem?_map] at hq
              exact Option.map_eq_some_iff.mp hq
            have hqi : q < y.2.length := (List.getElem?_eq_some_iff.mp hc).1
            have cle : (y.2.take q).countP (fun c => !decide (c ∈ cs')) ≤ q := Nat.le_trans List.countP_le_length (by rw [List.length_take]; omega)
            refine ⟨rfl, _, rfl, _, rfl, ca, _, rfl, .inr (.inl (.inl (g2 _ _ (sG _ _ hca)))), rfl, cols_flat cs', _, rfl, ite2 (fun c1 => ?_) fun c1 => ?_⟩
            · have c1' : (!decide (c ∈ cs')) = true := by
                rw [← cols_in]
                exact c1
              refine ⟨_, g1, ?_, ?_, fun b o h => ?_⟩
              · rw [List.length_map, List.length_replicate, sizeLine_eq]
                omega
              · rw [upd_same, ones_app, List.take_add_one, hc, List.countP_append]
                show _ = some (HO.lst ((List.replicate (_ + List.countP (fun c => !decide (c ∈ cs')) [c]) (1 : Int)).map V.int))
                rw [List.countP_cons, List.countP_nil, c1', if_pos rfl]
              · rw [upd_ne (ne_of_none h nD)]
                exact g2 _ _ h
            · have c1' : (!decide (c ∈ cs')) = false := by
                cases z : (!decide (c ∈ cs')) with
                | false => rfl
                | true =>
                  rw [← cols_in] at z
                  exact absurd z c1
              refine ⟨?_, g2⟩
              rw [g1, List.take_add_one, hc, List.countP_append]
              show _ = some (HO.lst ((List.replicate (_ + List.countP (fun c => !decide (c ∈ cs')) [c]) (1 : Int)).map V.int))
              rw [List.countP_cons, List.countP_nil, c1', if_neg Bool.false_ne_true]
              rfl
          · rintro G ⟨g1, g2⟩
            rw [List.length_map, List.take_length] at g1
            refine ⟨by decide, fun p np => ?_⟩
            have g1' := (same_new (o := .lst []) np) _ _ g1
            have sG2 := sG.trans (g2.trans (same_new (o := .lst []) np))
            have ek : PyData.eqv (.list ((List.replicate (y.2.countP fun c => !decide (c ∈ cs')) (1 : Int)).map PyData.int)) (.list []) = hasAllB cs' y.2 := by
              rw [eqv_nil, count_zero (p := fun c => decide (c ∈ cs'))]
              rfl
            refine ⟨_, .list [], .lst (.inl (.inl g1')) (dps_ints _), .lst (.inl (.inl upd_same)) .nil, ints_shaped _, (by decide +kernel), _, rfl, ite2 (fun c2 => ⟨some (.str y.1), some (.ref yc), ?_, sG2⟩) fun c2 => ⟨some (.str y.1), some (.ref yc), ?_, sG2⟩⟩
            · rw [ek] at c2
              rw [c2, Bool.or_true] at tk
              rw [tk]
              rfl
            · rw [ek] at c2
              rw [Bool.eq_false_iff.mpr c2, Bool.or_false] at tk
              rw [tk]
              rfl
        · have ey : ¬ y.1 = t.2.1 := fun e => c (decide_eq_true (by rw [e]))
          rw [decide_eq_false ey, Bool.false_and, Bool.or_false] at tk
          rw [tk]
          rfl
      · rintro σ G' ⟨v17, v18, rfl, sG⟩
        have ek : ks.take kvs.length = ks := by rw [lkv, List.take_length]
        rw [ek]
        have dbG := dp_same sG _ _ dbH
        have sb := sm_bool (keyHB ks t.2.1 cs' (t.2.2 : Int))
        refine ⟨_, rfl, _, _, rfl, dbG, sm7.sh, Nat.le_trans sm7.dp (by decide), sm7.len (by decide), ?_⟩
        refine ⟨_, rfl, _, rfl, _, rfl, szl _ (by show 2 ≤ 200; omega), fun ky nky => ?_⟩
        have sk := same_new (o := .tup [.str t.2.1, .ref ca]) nky
        refine ⟨_, _, rs, ks, t.2.1, cs', t.2.2, rfl, dp_same sk _ _ dbG, .tup (.inl (.inl upd_same)) (.cons (.str _) (.cons (.tup (.inl (.inl (sk _ _ (sG _ _ hca)))) (dps_cols cs')) .nil)), by omega, by omega, rok, fun y hy => Nat.le_trans (gy y hy).2.1 (by decide), one_of ok.nd ok.ok, ⟨k0, mk0, hk0, lk0⟩, fun H3 s3 => ?_⟩
        refine ⟨_, _, rfl, .bl _, sb.sh, Nat.le_trans sb.dp (by decide), sb.len (by decide), _, rfl, _, _, rfl, .bl _, sb.sh, Nat.le_trans sb.dp (by decide), sb.len (by decide), rfl, _, rfl, iteNo (ne_false rfl) ?_⟩
        have s4 := sk.trans s3
        refine ⟨_, rfl, _, _, rfl, dp_same s4 _ _ dbG, sm7.sh, Nat.le_trans sm7.dp (by decide), sm7.len (by decide), _, rfl, rfl, _, rfl, iteNo (ne_false rfl) ?_⟩
        exact ⟨_, _, _, _, _, _, _, _, rfl, (DH.same (sG.trans s4)).mono (by omega), fH.trans (same_fr (sG.trans s4))⟩
    · rintro σ G ⟨v12, v13, v14, v15, v16, v17, v18, v19, rfl, DG, fG⟩
      exact ⟨_, _, _, _, _, _, _, _, _, _, _, _, _, _, _, _, _, _, rfl, DG.mono (by omega)⟩
end
end My

namespace My
open PySem PySem.Spec PyProof.Rows L2
theorem all_mk {l : PySem.W.OpenLaw} {w : World} {K : PySem.W.Frag} {h : Heap} {mg : Str → Option Value} {fa fDk fDr fOn fWo fPl fVa fAt fRu fBk fHe fWi fKf fKh fHa fLw : Addr} (X : K.In h) (G : h.Ns mainGlobals mg) (hfa : mg "law" = some (.ref fa))
    {odDk anDk odDr anDr odOn anOn odWo anWo odPl anPl odVa anVa odAt anAt odRu anRu odBk anBk odHe anHe odWi anWi odKf anKf odKh anKh odHa anHa odLw anLw : Option Addr} {slDk slDr slOn slWo slPl slVa slAt slRu slBk slHe slWi slKf slKh slHa slLw : Array (Option Value)} {ocDk kVDk dcDk pmDk cdDk ctDk ocDr kVDr dcDr pmDr cdDr ctDr ocOn kVOn dcOn pmOn cdOn ctOn ocWo kVWo dcWo pmWo cdWo ctWo ocPl kVPl dcPl pmPl cdPl ctPl ocVa kVVa dcVa pmVa cdVa ctVa ocAt kVAt dcAt pmAt cdAt ctAt ocRu kVRu dcRu pmRu cdRu ctRu ocBk kVBk dcBk pmBk cdBk ctBk ocHe kVHe dcHe pmHe cdHe ctHe ocWi kVWi dcWi pmWi cdWi ctWi ocKf kVKf dcKf pmKf cdKf ctKf ocKh kVKh dcKh pmKh cdKh ctKh ocHa kVHa dcHa pmHa cdHa ctHa ocLw kVLw dcLw pmLw cdLw ctLw : Value}
    (aDk : PySem.W.nsIn K mainGlobals "_law_deck" = some (some (.ref fDk)))
    (lDk : K.lookup fDk = some ⟨ocDk, odDk, .func (PySem.W.fnOf "_law_deck" "_law_deck" (defArgs sDeck) (defBody sDeck) (defScope sDeck) .none kVDk dcDk pmDk anDk cdDk ctDk), slDk⟩)
    (cDk : PySem.W.codeIn K cdDk "_law_deck" = true)
    (kDk : PySem.W.keepIn K (.ref fDk) = true)
    (aDr : PySem.W.nsIn K mainGlobals "_law_draw" = some (some (.ref fDr)))
    (lDr : K.lookup fDr = some ⟨ocDr, odDr, .func (PySem.W.fnOf "_law_draw" "_law_draw" (defArgs sDraw) (defBody sDraw) (defScope sDraw) .none kVDr dcDr pmDr anDr cdDr ctDr), slDr⟩)
    (cDr : PySem.W.codeIn K cdDr "_law_draw" = true)
    (kDr : PySem.W.keepIn K (.ref fDr) = true)
    (aOn : PySem.W.nsIn K mainGlobals "_law_one" = some (some (.ref fOn)))
    (lOn : K.lookup fOn = some ⟨ocOn, odOn, .func (PySem.W.fnOf "_law_one" "_law_one" (defArgs sOne) (defBody sOne) (defScope sOne) .none kVOn dcOn pmOn anOn cdOn ctOn), slOn⟩)
    (cOn : PySem.W.codeIn K cdOn "_law_one" = true)
    (kOn : PySem.W.keepIn K (.ref fOn) = true)
    (aWo : PySem.W.nsIn K mainGlobals "_law_word" = some (some (.ref fWo)))
    (lWo : K.lookup fWo = some ⟨ocWo, odWo, .func (PySem.W.fnOf "_law_word" "_law_word" (defArgs sWord) (defBody sWord) (defScope sWord) .none kVWo dcWo pmWo anWo cdWo ctWo), slWo⟩)
    (cWo : PySem.W.codeIn K cdWo "_law_word" = true)
    (kWo : PySem.W.keepIn K (.ref fWo) = true)
    (aPl : PySem.W.nsIn K mainGlobals "_law_pool" = some (some (.ref fPl)))
    (lPl : K.lookup fPl = some ⟨ocPl, odPl, .func (PySem.W.fnOf "_law_pool" "_law_pool" (defArgs sPool) (defBody sPool) (defScope sPool) .none kVPl dcPl pmPl anPl cdPl ctPl), slPl⟩)
    (cPl : PySem.W.codeIn K cdPl "_law_pool" = true)
    (kPl : PySem.W.keepIn K (.ref fPl) = true)
    (aVa : PySem.W.nsIn K mainGlobals "_law_vars" = some (some (.ref fVa)))
    (lVa : K.lookup fVa = some ⟨ocVa, odVa, .func (PySem.W.fnOf "_law_vars" "_law_vars" (defArgs sVars) (defBody sVars) (defScope sVars) .none kVVa dcVa pmVa anVa cdVa ctVa), slVa⟩)
    (cVa : PySem.W.codeIn K cdVa "_law_vars" = true)
    (kVa : PySem.W.keepIn K (.ref fVa) = true)
    (aAt : PySem.W.nsIn K mainGlobals "_law_atoms" = some (some (.ref fAt)))
    (lAt : K.lookup fAt = some ⟨ocAt, odAt, .func (PySem.W.fnOf "_law_atoms" "_law_atoms" (defArgs sAtoms) (defBody sAtoms) (defScope sAtoms) .none kVAt dcAt pmAt anAt cdAt ctAt), slAt⟩)
    (cAt : PySem.W.codeIn K cdAt "_law_atoms" = true)
    (kAt : PySem.W.keepIn K (.ref fAt) = true)
    (aRu : PySem.W.nsIn K mainGlobals "_law_rule" = some (some (.ref fRu)))
    (lRu : K.lookup fRu = some ⟨ocRu, odRu, .func (PySem.W.fnOf "_law_rule" "_law_rule" (defArgs sRule) (defBody sRule) (defScope sRule) .none kVRu dcRu pmRu anRu cdRu ctRu), slRu⟩)
    (cRu : PySem.W.codeIn K cdRu "_law_rule" = true)
    (kRu : PySem.W.keepIn K (.ref fRu) = true)
    (aBk : PySem.W.nsIn K mainGlobals "_law_book" = some (some (.ref fBk)))
    (lBk : K.lookup fBk = some ⟨ocBk, odBk, .func (PySem.W.fnOf "_law_book" "_law_book" (defArgs sBook) (defBody sBook) (defScope sBook) .none kVBk dcBk pmBk anBk cdBk ctBk), slBk⟩)
    (cBk : PySem.W.codeIn K cdBk "_law_book" = true)
    (kBk : PySem.W.keepIn K (.ref fBk) = true)
    (aHe : PySem.W.nsIn K mainGlobals "heads" = some (some (.ref fHe)))
    (lHe : K.lookup fHe = some ⟨ocHe, odHe, .func (PySem.W.fnOf "heads" "heads" (defArgs sHeads) (defBody sHeads) (defScope sHeads) .none kVHe dcHe pmHe anHe cdHe ctHe), slHe⟩)
    (cHe : PySem.W.codeIn K cdHe "heads" = true)
    (kHe : PySem.W.keepIn K (.ref fHe) = true)
    (aWi : PySem.W.nsIn K mainGlobals "widths" = some (some (.ref fWi)))
    (lWi : K.lookup fWi = some ⟨ocWi, odWi, .func (PySem.W.fnOf "widths" "widths" (defArgs sWidths) (defBody sWidths) (defScope sWidths) .none kVWi dcWi pmWi anWi cdWi ctWi), slWi⟩)
    (cWi : PySem.W.codeIn K cdWi "widths" = true)
    (kWi : PySem.W.keepIn K (.ref fWi) = true)
    (aKf : PySem.W.nsIn K mainGlobals "key_follows" = some (some (.ref fKf)))
    (lKf : K.lookup fKf = some ⟨ocKf, odKf, .func (PySem.W.fnOf "key_follows" "key_follows" (defArgs sKeyF) (defBody sKeyF) (defScope sKeyF) .none kVKf dcKf pmKf anKf cdKf ctKf), slKf⟩)
    (cKf : PySem.W.codeIn K cdKf "key_follows" = true)
    (kKf : PySem.W.keepIn K (.ref fKf) = true)
    (aKh : PySem.W.nsIn K mainGlobals "key_holds" = some (some (.ref fKh)))
    (lKh : K.lookup fKh = some ⟨ocKh, odKh, .func (PySem.W.fnOf "key_holds" "key_holds" (defArgs sKeyH) (defBody sKeyH) (defScope sKeyH) .none kVKh dcKh pmKh anKh cdKh ctKh), slKh⟩)
    (cKh : PySem.W.codeIn K cdKh "key_holds" = true)
    (kKh : PySem.W.keepIn K (.ref fKh) = true)
    (aHa : PySem.W.nsIn K mainGlobals "has_all" = some (some (.ref fHa)))
    (lHa : K.lookup fHa = some ⟨ocHa, odHa, .func (PySem.W.fnOf "has_all" "has_all" (defArgs sHasAll) (defBody sHasAll) (defScope sHasAll) .none kVHa dcHa pmHa anHa cdHa ctHa), slHa⟩)
    (cHa : PySem.W.codeIn K cdHa "has_all" = true)
    (kHa : PySem.W.keepIn K (.ref fHa) = true)
    (aLw : PySem.W.nsIn K mainGlobals "law" = some (some (.ref fLw)))
    (lLw : K.lookup fLw = some ⟨ocLw, odLw, .func (PySem.W.fnOf "law" "law" (defArgs sLaw) (defBody sLaw) (defScope sLaw) .none kVLw dcLw pmLw anLw cdLw ctLw), slLw⟩)
    (cLw : PySem.W.codeIn K cdLw "law" = true)
    (kLw : PySem.W.keepIn K (.ref fLw) = true)
    (z_int : PySem.W.nsIn K mainGlobals "int" = some none)
    (z_len : PySem.W.nsIn K mainGlobals "len" = some none)
    (z_abs : PySem.W.nsIn K mainGlobals "abs" = some none)
    (z_list : PySem.W.nsIn K mainGlobals "list" = some none)
    (z_range : PySem.W.nsIn K mainGlobals "range" = some none)
    (z_repr : PySem.W.nsIn K mainGlobals "repr" = some none)
    (z_tuple : PySem.W.nsIn K mainGlobals "tuple" = some none)
    (z_sorted : PySem.W.nsIn K mainGlobals "sorted" = some none)
    (z_set : PySem.W.nsIn K mainGlobals "set" = some none)
    (z_dict : PySem.W.nsIn K mainGlobals "dict" = some none)
    (z_isinstance : PySem.W.nsIn K mainGlobals "isinstance" = some none)
    (z_str : PySem.W.nsIn K mainGlobals "str" = some none)
    (z_all : PySem.W.nsIn K mainGlobals "all" = some none)
    (z_any : PySem.W.nsIn K mainGlobals "any" = some none) :
    ∃ fd : FuncData, (∀ (s : Shared) (v : Value), BindsTo s fd ⟨[v], []⟩ [("_law_script", v)]) ∧ ∀ base : Heap, K.In base → base.Ns mainGlobals mg → RunG l.prog w K mg base 6 fa fd ["_law_script"] (spLaw K) := by
  have e := hfa.symm.trans (PySem.W.mg_of X G aLw)
  cases e
  have m := fun {x : Str} {v : Value} (a : PySem.W.nsIn K mainGlobals x = some (some v)) => PySem.W.mg_of X G a
  have z := fun {x : Str} (a : PySem.W.nsIn K mainGlobals x = some none) => PySem.W.mg_none_of X G a
  have B : Blt mg := ⟨z z_int, z z_len, z z_abs, z z_list, z z_range, z z_repr⟩
  have B2 : Blt2 mg := ⟨z z_tuple, z z_sorted, z z_set, z z_dict, z z_isinstance, z z_str, z z_all⟩
  have FDk := fun_mk (st := sDeck) lDk cDk kDk
  have FDr := fun_mk (st := sDraw) lDr cDr kDr
  have FOn := fun_mk (st := sOne) lOn cOn kOn
  have FWo := fun_mk (st := sWord) lWo cWo kWo
  have FPl := fun_mk (st := sPool) lPl cPl kPl
  have FVa := fun_mk (st := sVars) lVa cVa kVa
  have FAt := fun_mk (st := sAtoms) lAt cAt kAt
  have FRu := fun_mk (st := sRule) lRu cRu kRu
  have FBk := fun_mk (st := sBook) lBk cBk kBk
  have FHe := fun_mk (st := sHeads) lHe cHe kHe
  have FWi := fun_mk (st := sWidths) lWi cWi kWi
  have FKf := fun_mk (st := sKeyF) lKf cKf kKf
  have FKh := fun_mk (st := sKeyH) lKh cKh kKh
  have FHa := fun_mk (st := sHasAll) lHa cHa kHa
  have FLw := fun_mk (st := sLaw) lLw cLw kLw
  have bDk := FDk.binds (ps := ["_law_script"]) fun _ _ _ _ _ _ us hl => match us, hl with | [_], _ => rfl
  have bDr := FDr.binds (ps := ["_law_deck_here", "_law_many"]) fun _ _ _ _ _ _ us hl => match us, hl with | [_, _], _ => rfl
  have bOn := FOn.binds (ps := ["_law_deck_here", "_law_items"]) fun _ _ _ _ _ _ us hl => match us, hl with | [_, _], _ => rfl
  have bWo := FWo.binds (ps := ["_law_deck_here"]) fun _ _ _ _ _ _ us hl => match us, hl with | [_], _ => rfl
  have bPl := FPl.binds (ps := ["_law_deck_here", "_law_many"]) fun _ _ _ _ _ _ us hl => match us, hl with | [_, _], _ => rfl
  have bVa := FVa.binds (ps := ["_law_atoms_here"]) fun _ _ _ _ _ _ us hl => match us, hl with | [_], _ => rfl
  have bAt := FAt.binds (ps := ["_law_deck_here", "_law_kinds", "_law_terms", "_law_many"]) fun _ _ _ _ _ _ us hl => match us, hl with | [_, _, _, _], _ => rfl
  have bRu := FRu.binds (ps := ["_law_deck_here", "_law_body_kinds", "_law_head_kinds", "_law_words", "_law_new"]) fun _ _ _ _ _ _ us hl => match us, hl with | [_, _, _, _, _], _ => rfl
  have bBk := FBk.binds (ps := ["_law_deck_here", "_law_many", "_law_new"]) fun _ _ _ _ _ _ us hl => match us, hl with | [_, _, _], _ => rfl
  have bHe := FHe.binds (ps := ["rules"]) fun _ _ _ _ _ _ us hl => match us, hl with | [_], _ => rfl
  have bWi := FWi.binds (ps := ["atoms"]) fun _ _ _ _ _ _ us hl => match us, hl with | [_], _ => rfl
  have bKf := FKf.binds (ps := ["book", "key"]) fun _ _ _ _ _ _ us hl => match us, hl with | [_, _], _ => rfl
  have bKh := FKh.binds (ps := ["keys", "key", "table"]) fun _ _ _ _ _ _ us hl => match us, hl with | [_, _, _], _ => rfl
  have bHa := FHa.binds (ps := ["columns", "row"]) fun _ _ _ _ _ _ us hl => match us, hl with | [_, _], _ => rfl
  refine ⟨PySem.W.fnOf "law" "law" (defArgs sLaw) (defBody sLaw) (defScope sLaw) .none kVLw dcLw pmLw anLw cdLw ctLw, fun s v => .of_eq rfl, fun base _ _ => ?mn⟩
  case mn =>
    have gDr := ok_draw (P := l.prog) (w := w) (base := base) FDr B
    have gOn := ok_one FOn B gDr (m aDr) kDr bDr
    have gWo := ok_word FWo B gOn (m aOn) kOn bOn
    have gPl := ok_pool FPl B gWo (m aWo) kWo bWo
    have gVa := ok_vars (P := l.prog) (w := w) (base := base) FVa B B2
    have gAt := ok_atoms FAt B B2 gDr (m aDr) kDr bDr gOn (m aOn) kOn bOn
    have gRu := ok_rule FRu gAt (m aAt) kAt bAt gVa (m aVa) kVa bVa
    have gBk := ok_book FBk B B2 gDr (m aDr) kDr bDr gOn (m aOn) kOn bOn gPl (m aPl) kPl bPl gRu (m aRu) kRu bRu
    have gHe := ok_heads (P := l.prog) (w := w) (base := base) FHe B2
    have gWi := ok_widths (P := l.prog) (w := w) (base := base) FWi B
    have gHa := ok_hasAll (P := l.prog) (w := w) (base := base) FHa B2
    have gKh := ok_keyH FKh B B2 (z z_any) gHa (m aHa) kHa bHa
    have gKf := ok_keyF FKf gHe (m aHe) kHe bHe gWi (m aWi) kWi bWi gKh (m aKh) kKh bKh
    exact ok_law FLw B B2 ⟨ok_deck FDk B, m aDk, kDk, bDk⟩ ⟨gDr, m aDr, kDr, bDr⟩ ⟨gOn, m aOn, kOn, bOn⟩ ⟨gBk, m aBk, kBk, bBk⟩ ⟨gKf, m aKf, kKf, bKf⟩
end My

open PySem PySem.W PyProof.Rows
set_option maxRecDepth 100000 in
set_option maxHeartbeats 0 in
theorem PySem.Challenge.cw_corestore_k20_keys_that_follow_holds : PySem.Challenge.rw_corestore_k20_keys_that_follow.Holds := by
  w_on; o_law; k_head; (case hw => w_witness2)
  k_fill
  refine My.walk_g (l := PySem.Challenge.rw_corestore_k20_keys_that_follow) (k := 6) (x := "_law_script") (sp := My.spLaw) rfl rfl ⟨rfl, by decide, by decide⟩ (fun w h Y => PySem.W.kIn_of Y) ?F (fun K H a ns hl hS => ⟨a, ns, rfl, hS, hl, fun _ => rfl⟩)
  case F =>
    intro w mg fa h KX G hmg
    refine' My.all_mk KX G hmg ?aDk ?lDk ?cDk ?kDk ?aDr ?lDr ?cDr ?kDr ?aOn ?lOn ?cOn ?kOn ?aWo ?lWo ?cWo ?kWo ?aPl ?lPl ?cPl ?kPl ?aVa ?lVa ?cVa ?kVa ?aAt ?lAt ?cAt ?kAt ?aRu ?lRu ?cRu ?kRu ?aBk ?lBk ?cBk ?kBk ?aHe ?lHe ?cHe ?kHe ?aWi ?lWi ?cWi ?kWi ?aKf ?lKf ?cKf ?kKf ?aKh ?lKh ?cKh ?kKh ?aHa ?lHa ?cHa ?kHa ?aLw ?lLw ?cLw ?kLw ?z_int ?z_len ?z_abs ?z_list ?z_range ?z_repr ?z_tuple ?z_sorted ?z_set ?z_dict ?z_isinstance ?z_str ?z_all ?z_any
    (case aDk => k_is)
    (case aDr => k_is)
    (case aOn => k_is)
    (case aWo => k_is)
    (case aPl => k_is)
    (case aVa => k_is)
    (case aAt => k_is)
    (case aRu => k_is)
    (case aBk => k_is)
    (case aHe => k_is)
    (case aWi => k_is)
    (case aKf => k_is)
    (case aKh => k_is)
    (case aHa => k_is)
    (case aLw => k_is)
    (case lDk => k_is)
    (case lDr => k_is)
    (case lOn => k_is)
    (case lWo => k_is)
    (case lPl => k_is)
    (case lVa => k_is)
    (case lAt => k_is)
    (case lRu => k_is)
    (case lBk => k_is)
    (case lHe => k_is)
    (case lWi => k_is)
    (case lKf => k_is)
    (case lKh => k_is)
    (case lHa => k_is)
    (case lLw => k_is)
    (case cDk => k_is)
    (case kDk => k_is)
    (case cDr => k_is)
    (case kDr => k_is)
    (case cOn => k_is)
    (case kOn => k_is)
    (case cWo => k_is)
    (case kWo => k_is)
    (case cPl => k_is)
    (case kPl => k_is)
    (case cVa => k_is)
    (case kVa => k_is)
    (case cAt => k_is)
    (case kAt => k_is)
    (case cRu => k_is)
    (case kRu => k_is)
    (case cBk => k_is)
    (case kBk => k_is)
    (case cHe => k_is)
    (case kHe => k_is)
    (case cWi => k_is)
    (case kWi => k_is)
    (case cKf => k_is)
    (case kKf => k_is)
    (case cKh => k_is)
    (case kKh => k_is)
    (case cHa => k_is)
    (case kHa => k_is)
    (case cLw => k_is)
    (case kLw => k_is)
    (case z_int => k_is)
    (case z_len => k_is)
    (case z_abs => k_is)
    (case z_list => k_is)
    (case z_range => k_is)
    (case z_repr => k_is)
    (case z_tuple => k_is)
    (case z_sorted => k_is)
    (case z_set => k_is)
    (case z_dict => k_is)
    (case z_isinstance => k_is)
    (case z_str => k_is)
    (case z_all => k_is)
    (case z_any => k_is)
    all_goals exact Value.none
