import PyProof.Rows.All
import Wide.All
import OpenK.AllK
import Wide.FinOn
import HandS.ForMost
import HandS.ForExc
import HandS.Codes
import HandS.IsInst
import HandS.ExcInit
import HandS.ExcValue
import KE.KExcIs
import KE.KDictPairs
import HandS.Style
import HandS.TupAny
import KE.KRevSl
import HandS.TupSets
import HandS.SetBool
import HandS.SortOrd
import HandS.SortRule
import PyProof.Rows.SortKeyStr
import HandS.SetFor
import HandS.Strs
import HandS.SortInts
import HandS.Zip
import HandS.Text
import HandS.WordsDict
import HandS.More
import HandS.Small
import HandS.Iter
import HandS.TupMul
import PyProof.StrOps2
import HandS.Wide
import KE.GoesEnumKw
import KE.GoesNew
import PyProof.ReprLen
import PySem.Challenge.RW_corestore_k28_texts_of_stores
set_option Elab.async false
set_option maxRecDepth 100000
/-! MyA: what every law needs: data in the abstract heap, repr of data, displays as data -/
namespace My
open PySem PySem.Spec PyProof.Rows L2

/-- the abstract heap without what stands at d -/
def off (d : Addr) (H : Hp) : Hp := fun b => if b = d then none else H b
/-- all but what stands at d is as it was -/
def Fr (d : Addr) (H H' : Hp) : Prop := ∀ b o, b ≠ d → H b = some o → H' b = some o
theorem Fr.refl (d : Addr) (H : Hp) : Fr d H H := fun _ _ _ h => h
theorem Fr.trans {d : Addr} {H H1 H2 : Hp} (a : Fr d H H1) (b : Fr d H1 H2) : Fr d H H2 := fun c o n h => b c o n (a c o n h)
theorem same_fr {d : Addr} {H H' : Hp} (a : Same H H') : Fr d H H' := fun c o _ h => a c o h
theorem Fr.off {d : Addr} {H H' : Hp} (a : Fr d H H') : Same (off d H) (off d H') := fun b o h => by
  unfold My.off at h ⊢
  by_cases e : b = d
  · rw [if_pos e] at h
    cases h
  · rw [if_neg e] at h ⊢
    exact a b o e h
theorem off_le {d : Addr} {H : Hp} : Same (off d H) H := fun b o h => by
  unfold off at h
  by_cases e : b = d
  · rw [if_pos e] at h
    cases h
  · rw [if_neg e] at h
    exact h
theorem off_at {d b : Addr} {H : Hp} {o : HO} (n : b ≠ d) (h : H b = some o) : off d H b = some o := by
  unfold off
  rw [if_neg n]
  exact h
theorem same_new {H : Hp} {p : Addr} {o : HO} (n : H p = none) : Same H (upd H p o) := fun b u h => by
  rw [upd_ne (ne_of_none h n)]
  exact h
theorem fr_upd {H : Hp} {d : Addr} {o : HO} : Fr d H (upd H d o) := fun b u n h => by
  rw [upd_ne n]
  exact h
theorem same_seqT {K : PySem.W.Frag} {H H' : Hp} {a : Addr} {xs : List V} (e : Same H H') (h : SqT K H a xs) : SqT K H' a xs := by
  rcases h with (h | ⟨o, h⟩) | h
  · exact .inl (.inl (e _ _ h))
  · exact .inl (.inr ⟨o, e _ _ h⟩)
  · exact .inr h

section
variable {K : PySem.W.Frag} {H H' : Hp}
mutual
theorem dp_same (e : Same H H') : ∀ (d : PyData) (v : V), Dp K H v d → Dp K H' v d
  | .none, _, h => by cases h; exact .non
  | .bool _, _, h => by cases h; exact .bl _
  | .int _, _, h => by cases h; exact .int _
  | .str _, _, h => by cases h; exact .str _
  | .list ds, _, h => by
    cases h with
    | lst hs ha => exact .lst (Same.seq e hs) (dps_same e ds _ ha)
  | .tuple ds, _, h => by
    cases h with
    | tup hs ha => exact .tup (same_seqT e hs) (dps_same e ds _ ha)
  | .dict _, _, h => by cases h
theorem dps_same (e : Same H H') : ∀ (ds : List PyData) (vs : List V), DpAll K H vs ds → DpAll K H' vs ds
  | [], _, h => by cases h; exact .nil
  | d :: ds, _, h => by
    cases h with
    | cons h1 h2 => exact .cons (dp_same e d _ h1) (dps_same e ds _ h2)
end
theorem dps_len : ∀ {ds : List PyData} {vs : List V}, DpAll K H vs ds → vs.length = ds.length
  | [], _, h => by cases h; rfl
  | d :: ds, _, h => by
    cases h with
    | cons h1 h2 => rw [List.length_cons, List.length_cons, dps_len h2]
theorem dps_get : ∀ {ds : List PyData} {vs : List V} {j : Nat} {v : V}, DpAll K H vs ds → vs[j]? = some v → ∃ d, ds[j]? = some d ∧ Dp K H v d
  | [], _, j, v, h, e => by cases h; simp at e
  | d :: ds, _, j, v, h, e => by
    cases h with
    | cons h1 h2 =>
      cases j with
      | zero =>
        simp at e
        subst e
        exact ⟨d, rfl, h1⟩
      | succ j =>
        obtain ⟨z, hz, hd⟩ := dps_get (j := j) (v := v) h2 (by simpa using e)
        exact ⟨z, by simpa using hz, hd⟩
theorem dps_app : ∀ {ds es : List PyData} {vs us : List V}, DpAll K H vs ds → DpAll K H us es → DpAll K H (vs ++ us) (ds ++ es)
  | [], _, _, _, h, g => by cases h; exact g
  | d :: ds, _, _, _, h, g => by
    cases h with
    | cons h1 h2 => exact .cons h1 (dps_app h2 g)
mutual
theorem dp_noDict : ∀ (d : PyData) (v : V), Dp K H v d → d.hasDict = false
  | .none, _, _ => by simp only [PyData.hasDict]
  | .bool _, _, _ => by simp only [PyData.hasDict]
  | .int _, _, _ => by simp only [PyData.hasDict]
  | .str _, _, _ => by simp only [PyData.hasDict]
  | .list ds, _, h => by
    cases h with
    | lst hs ha => simp only [PyData.hasDict]; exact dps_noDict ds _ ha
  | .tuple ds, _, h => by
    cases h with
    | tup hs ha => simp only [PyData.hasDict]; exact dps_noDict ds _ ha
  | .dict _, _, h => by cases h
theorem dps_noDict : ∀ (ds : List PyData) (vs : List V), DpAll K H vs ds → PyData.hasDictAll ds = false
  | [], _, _ => by simp only [PyData.hasDictAll]
  | d :: ds, _, h => by
    cases h with
    | cons h1 h2 => simp only [PyData.hasDictAll, dp_noDict d _ h1, dps_noDict ds _ h2, Bool.or_false]
end
end

/-! ### repr of data -/
def rRepr (K : PySem.W.Frag) : List V → Hp → VK → Prop := fun xs H Q => ∃ (x : V) (d : PyData), xs = [x] ∧ Dp K H x d ∧ d.showable = true ∧ d.depth ≤ 60 ∧ d.shown.length ≤ sizeLine ∧ Q (.str d.shown) H
theorem cr_repr {X : Cx} (hg : X.A.guards = some []) (hu : X.A.units + 64 < cLine) : CallR X (.builtin "repr") (rRepr X.K) := by
  intro pins s σ H xs us Q I r h
  obtain ⟨x, d, rfl, hd, hs, hz, hl, q⟩ := h
  obtain ⟨u, rfl, ru⟩ := vals1 r
  obtain ⟨as, rd⟩ := Dp.reads I d x u hd ru
  have nd := dp_noDict d x hd
  cases hd with
  | non =>
    cases (show u = Value.none from ru)
    have e : (PyData.none).shown = ("None" : Str) := by simp only [PyData.shown]
    rw [e] at q
    exact PySem.P.repr_of_none ⟨.str _, H, I.tok _, ⟨_, rfl⟩, q⟩
  | bl b =>
    cases (show u = Value.bool b from ru)
    have e : (PyData.bool b).shown = (if b then Str.ofString "True" else Str.ofString "False") := by simp only [PyData.shown]
    rw [e] at q
    exact PySem.P.repr_of_bool ⟨.str _, H, I.tok _, ⟨_, rfl⟩, q⟩
  | int i =>
    obtain ⟨t, rfl⟩ := (show ∃ t, u = Value.int i t from ru)
    have e : (PyData.int i).shown = (toString i : String) := by simp only [PyData.shown]
    rw [e] at q
    exact PySem.P.repr_of_int (by simpa [PyData.showable] using hs) ⟨.str _, H, I.tok _, ⟨_, rfl⟩, q⟩
  | str z =>
    obtain ⟨t, rfl⟩ := (show ∃ t, u = Value.str z t from ru)
    have e : (PyData.str z).shown = reprText z := by simp only [PyData.shown]
    rw [e] at q hl
    exact PySem.P.repr_of_str ⟨.str _, H, I.tok _, ⟨_, rfl⟩, q⟩ hl
  | @lst a xs ds h1 h2 =>
    cases (show u = Value.ref a from ru)
    exact repr_of_reads' (h₀ := s.heap) rd hs (PyData.noDict_hsm nd) hg (by omega) (fun _ _ e => e) (fun h' u tk hk => ⟨.str _, H, I.kept hk, ⟨u, rfl⟩, q⟩) hl
  | @tup a xs ds h1 h2 =>
    cases (show u = Value.ref a from ru)
    exact repr_of_reads' (h₀ := s.heap) rd hs (PyData.noDict_hsm nd) hg (by omega) (fun _ _ e => e) (fun h' u tk hk => ⟨.str _, H, I.kept hk, ⟨u, rfl⟩, q⟩) hl

/-! ### displays as data -/
/-- what of H' is new -/
def newp (H H' : Hp) : Hp := fun b => if H b = none then H' b else none
theorem newp_at {H H' : Hp} {b : Addr} {o : HO} (n : H b = none) (h : H' b = some o) : newp H H' b = some o := by
  unfold newp
  rw [if_pos n]
  exact h
theorem newp_of {H H' : Hp} {b : Addr} {o : HO} (h : newp H H' b = some o) : H b = none ∧ H' b = some o := by
  unfold newp at h
  by_cases e : H b = none
  · rw [if_pos e] at h
    exact ⟨e, h⟩
  · rw [if_neg e] at h
    cases h
theorem newp_le {H H' : Hp} : Same (newp H H') H' := fun _ _ h => (newp_of h).2
theorem newp_out {H H1 H2 : Hp} (e : Same H1 H2) : Same (newp H H1) (newp H H2) := fun b o h => newp_at (newp_of h).1 (e b o (newp_of h).2)
theorem newp_in {H H1 H2 : Hp} (e : Same H H1) : Same (newp H1 H2) (newp H H2) := fun _ _ h => newp_at (e.free (newp_of h).1) (newp_of h).2
theorem newp_off {H H' : Hp} {d : Addr} {o : HO} (h : H d = some o) : Same (newp H H') (off d H') := fun b u q => off_at (fun e => by
    subst e
    have z := (newp_of q).1
    rw [h] at z
    cases z) (newp_of q).2
def tD (K : PySem.W.Frag) (d : PyData) : TE := fun _ H Q => ∀ (v : V) (H' : Hp), Same H H' → Dp K (newp H H') v d → Q v H'
def tDs (K : PySem.W.Frag) (ds : List PyData) : TA := fun _ H Q => ∀ (vs : List V) (H' : Hp), Same H H' → DpAll K (newp H H') vs ds → Q vs H'
section
variable {X : Cx} {e : Expr} {es : List Expr} {d : PyData} {ds : List PyData} {pos : Pos}
theorem pe_of {t t' : TE} (h : PE X e t) (i : ∀ σ H Q, t' σ H Q → t σ H Q) : PE X e t' := ⟨fun pins s σ H Q I q => h.run pins s σ H Q I (i σ H Q q)⟩
theorem pa_of {t t' : TA} (h : PA X es t) (i : ∀ σ H Q, t' σ H Q → t σ H Q) : PA X es t' := ⟨fun p pins s σ H Q I q => h.run p pins s σ H Q I (i σ H Q q)⟩
theorem pd_non {j} : PE X (.Constant .none j pos) (tD X.K .none) := pe_of pe_non fun _ H _ q => q _ H (Same.refl H) .non
theorem pd_bl {b j} : PE X (.Constant (.bool b) j pos) (tD X.K (.bool b)) := pe_of pe_bl fun _ H _ q => q _ H (Same.refl H) (.bl b)
theorem pd_int {i j} : PE X (.Constant (.int i) j pos) (tD X.K (.int i)) := pe_of pe_int fun _ H _ q => q _ H (Same.refl H) (.int i)
theorem pd_str {x j} : PE X (.Constant (.str x) j pos) (tD X.K (.str x)) := pe_of pe_str fun _ H _ q => q _ H (Same.refl H) (.str x)
theorem pds_nil : PA X [] (tDs X.K []) := pa_of pa_nil fun _ H _ q => q _ H (Same.refl H) .nil
theorem pds_cons (he : PE X e (tD X.K d)) (hes : PA X es (tDs X.K ds)) (hs : starEach (e :: es) X.env = (false, eval e X.env) :: starEach es X.env := by rfl) : PA X (e :: es) (tDs X.K (d :: ds)) :=
  pa_of (pa_cons he hes hs) fun _ _ _ q v _ s1 h1 vs _ s2 h2 => q (v :: vs) _ (s1.trans s2) (.cons (dp_same (newp_out s2) d v h1) (dps_same (newp_in s1) ds vs h2))
theorem pd_tup {x1} (h : PA X es (tDs X.K ds)) (hz : ds.length ≤ sizeLine := by decide) : PE X (.Tuple es x1 pos) (tD X.K (.tuple ds)) :=
  pe_of (pe_tup h) fun _ _ _ q vs H1 s1 h1 => ⟨by rw [dps_len h1]; exact hz, fun p np => q (.ref p) _ (s1.trans (same_new np)) (.tup (.inl (.inl (newp_at (s1.free np) upd_same))) (dps_same (newp_out (same_new np)) ds vs h1))⟩
/-- a list display, its items told too: it is a new list -/
def tDL (K : PySem.W.Frag) (ds : List PyData) : TE := fun _ H Q => ∀ (p : Addr) (vs : List V) (H' : Hp), Same H H' → H p = none → H' p = some (.lst vs) → DpAll K (newp H H') vs ds → vs.length = ds.length → Q (.ref p) H'
theorem pdl (h : PA X es (tDs X.K ds)) (hz : ds.length ≤ sizeLine := by decide) : PE X (.List es pos) (tDL X.K ds) :=
  pe_of (pe_lst h) fun _ _ _ q vs H1 s1 h1 => ⟨by rw [dps_len h1]; exact hz, fun p np => q p vs _ (s1.trans (same_new np)) (s1.free np) upd_same (dps_same (newp_out (same_new np)) ds vs h1) (dps_len h1)⟩
theorem pd_lst (h : PA X es (tDs X.K ds)) (hz : ds.length ≤ sizeLine := by decide) : PE X (.List es pos) (tD X.K (.list ds)) :=
  pe_of (pdl h hz) fun _ _ _ q p _ H1 s1 np hp h1 _ => q (.ref p) H1 s1 (.lst (.inl (.inl (newp_at np hp))) h1)
end
end My

/-! MyE: the law's own call, where no repr is under way around it -/
namespace My
open PySem PySem.Spec PyProof.Rows L2

/-- a def's promise, kept where nothing that guards stands around the call -/
structure RunG (P : Program) (w : World) (K : PySem.W.Frag) (mg : Str → Option Value) (base : Heap) (k : Nat) (f : Addr) (fd : FuncData) (ps : List Str) (sp : Sp) : Prop where
  len : ∀ vs H Q E, sp vs H Q E → vs.length = ps.length
  go : ∀ (A : Around) (outer : List Env) (s : Shared) (H : Hp) (args : Args) (us : List Value) (vs : List V) (Q : VK) (E : XK), A.guards = some [] → Room k A → Env0 P w K mg base A outer s H →
    BindsTo s fd args (ps.zip us) → Vals vs us → sp vs H Q E → codeAny (model P w) A (.call (.ref f) args) (CR CX0 outer P w H s Q E) s
section
variable {P : Program} {w : World} {K : PySem.W.Frag} {mg : Str → Option Value} {base : Heap}
theorem runG {x qual : Str} {st : Stmt} {f : Addr} {fd : FuncData} {N ps : List Str} {k : Nat} {sp : Sp} (F : Fun K x qual st f fd) (S : FnScope N ps (defScope st)) (len : ∀ vs H Q E, sp vs H Q E → vs.length = ps.length)
    (hbody : ∀ (cdv : Value) (A : Around) (outer : List Env) (s : Shared) (H : Hp) (vs : List V) (Q : VK) (E : XK), A.guards = some [] → Room k (A.deeper (envOfC qual (defScope st) s.heap.objs.size f cdv)) → sp vs H Q E →
      ∃ t, PSs (cxOf CX0 P w K mg base N qual (defScope st) f cdv A outer s H E).nox (defBody st) t ∧ t { nx := fun _ H' => Q .non H', rt := Q } (L2.start N vs) H) : RunG P w K mg base (k + 1) f fd ps sp := by
  refine ⟨len, fun A outer s H args us vs Q E hgu hr e0 hb r hsp => ?_⟩
  obtain ⟨oc, od, kV, doc, pm, an, cdv, ct, osl, rfl, lk, hcd⟩ := F.ex
  have up : ∀ b o, base.get? b = some o → s.heap.get? b = some o := fun b o e => (e0.bs b o e).1
  have KX : K.In s.heap := e0.mod.kin.keeps up
  have hkind : ∀ y ∈ ps.zip us, (defScope st).names.lookup y.1 = some .local ∨ ((defScope st).names.lookup y.1 = some .cell ∧ ((cellsFrom (s.heap.objs.size + 1) (defScope st).names []).lookup y.1).isSome = true) := by
    rintro ⟨n, v⟩ hy
    exact (S.par n (List.of_mem_zip hy).1).imp id fun q => ⟨q, PySem.W.cellsFrom_some _ _ _ (.inl q)⟩
  refine codeAny_call_function hr.depth (KX _ _ lk) rfl S.co S.gen rfl (PySem.W.codeRec_of KX hcd) (hb _ _ _ _ (wpAny_newFunctionEnv_cells S.kind hkind fun env he s1 x => ?_))
  subst he
  refine ⟨(e0.mod.nolimit.keeps up).keeps x.toInCall.keep, codeAny_func ?_⟩
  obtain ⟨t, ht, hq⟩ := hbody cdv A outer s H vs Q E hgu (hr.deeper _) hsp
  refine wpAny_mono (ht.nox.run [] s1 _ H _ (inv_start S hr.hd e0 (len _ _ _ _ hsp) r x) hq) (fun fl s' hs => ?_) fun _ _ hs => hs
  cases fl with
  | ret u => exact hs.elim fun v ⟨σ', H', J, rv, q⟩ => ⟨v, H', J.os, J.bare, J.base, J.hok, rv, q⟩
  | next => exact hs.elim fun σ' ⟨H', J, q⟩ => ⟨V.non, H', J.os, J.bare, J.base, J.hok, rfl, q⟩
  | brk => exact hs.elim fun _ ⟨_, _, q⟩ => q.elim
  | cont => exact hs.elim fun _ ⟨_, _, q⟩ => q.elim
/-- the abstract heap at the law's entry: the script, known to the object, or nothing where the script is one of the module's own -/
theorem entry_heap {s : Shared} {a : Addr} {vs : List Value} {ns : List Int} (KX : K.In s.heap) (ha : s.heap.get? a = some { cls := .type "list", data := .seq vs.toArray }) (hi : IntsAre vs ns) (hl : ns.length ≤ sizeLine) :
    ∃ H : Hp, Only H ∧ SqL K H a (ns.map V.int) ∧ HOk P w H s.heap ∧ ∀ b u, H b = some u → b = a ∧ K.lookup b = none := by
  cases hk : K.lookup a with
  | some o =>
    have e := KX a o hk
    rw [ha] at e
    cases e
    have none_ : ∀ (b : Addr) (u : HO), (fun _ : Addr => (Option.none : Option HO)) b = some u → False := fun b u z => nomatch z
    exact ⟨fun _ => none, fun _ => .inl rfl, .inr ⟨_, vs.toArray, _, hk, rfl, rfl, rfl, by rw [List.size_toArray, hi.length]; exact hl, by simpa using vals_ints hi⟩, fun b u z => (none_ b u z).elim, fun b u z => (none_ b u z).elim⟩
  | none =>
    have at_ : ∀ {b : Addr} {u : HO}, (if b = a then some (HO.frz { cls := .type "list", data := .seq vs.toArray } (.lst (ns.map V.int))) else none) = some u → b = a ∧ u = HO.frz { cls := .type "list", data := .seq vs.toArray } (.lst (ns.map V.int)) := by
      intro b u z
      by_cases hb : b = a
      · rw [if_pos hb] at z
        exact ⟨hb, (Option.some.inj z).symm⟩
      · rw [if_neg hb] at z
        cases z
    refine ⟨fun b => if b = a then some (.frz { cls := .type "list", data := .seq vs.toArray } (.lst (ns.map V.int))) else none, fun b => ?_, .inl (.inr ⟨_, if_pos rfl⟩), fun b u z => ?_, fun b u z => ⟨(at_ z).1, by rw [(at_ z).1]; exact hk⟩⟩
    · by_cases hb : b = a
      · exact .inr ⟨_, _, if_pos hb⟩
      · exact .inl (if_neg hb)
    · obtain ⟨rfl, rfl⟩ := at_ z
      exact ⟨ha, by rw [List.length_map]; exact hl, vs, _, vals_ints hi, ha⟩
/-- the law's call, from its promise -/
theorem law_at {mb : Str → Option Value} {k : Nat} {fa a : Addr} {fd : FuncData} {x : Str} {sp : Sp} {s : Shared} {vs : List Value} {ns : List Int} (KX : K.In s.heap) (hns : s.heap.Ns mainGlobals mg) (hb : s.heap.Ns builtinsNs mb)
    (hbb : ∀ x : Str, x ≠ "__name__" → mb x = bootBuiltins x) (hlim : s.heap.NoLimit) (hg : s.gens = #[]) (ha : s.heap.get? a = some { cls := .type "list", data := .seq vs.toArray }) (hi : IntsAre vs ns) (hl : ns.length ≤ sizeLine)
    (hr : Room k callerA) (F : ∀ base : Heap, K.In base → base.Ns mainGlobals mg → RunG P w K mg base k fa fd [x] sp) (hbind : ∀ (s : Shared) (u : Value), BindsTo s fd ⟨[u], []⟩ [(x, u)])
    (hsp : ∀ H : Hp, Only H → SqL K H a (ns.map V.int) → sp [.ref a] H (fun v _ => v = .bl true) fun _ _ _ => False) :
    codeAny (model P w) callerA (.call (.ref fa) ⟨[.ref a], []⟩) (fun r s' => r = .ok (.ret (.bool true)) ∧ OldK s.heap s'.heap ∧ s'.os = s.os ∧ AllBare s'.gens) s := by
  obtain ⟨H, hO, hS, hok, hA⟩ := entry_heap (P := P) (w := w) KX ha hi hl
  have clear : ∀ {b : Addr}, (∀ u, H b = some u → False) → H b = none := fun {b} z => by
    cases q : H b with
    | none => rfl
    | some u => exact (z u q).elim
  have nsK : ∀ {b : Addr} {m : Str → Option Value}, s.heap.Ns b m → (hidT s.heap H).Ns b m := fun {b m} ⟨o, es, ep, e, dt, r⟩ => ⟨o, es, ep, hidT_get e (clear fun u q => by
    obtain ⟨rfl, _⟩ := hA b u q
    rw [ha] at e
    cases e
    cases dt), dt, r⟩
  have hKb : K.In (hidT s.heap H) := fun b o e => hidT_get (KX b o e) (clear fun u q => by
    rw [(hA b u q).2] at e
    cases e)
  obtain ⟨mc, l1, l2⟩ := hlim
  have e0 : Env0 P w K mg (hidT s.heap H) callerA [] s H := ⟨rfl, ⟨hKb, nsK hns, ⟨mb, nsK hb, hbb⟩, ⟨mc, nsK l1, l2⟩⟩, fun b o e => of_hidT e, Nat.le_of_eq (hidT_size _ _), trivial, (fun b z => nomatch z), hok, .of_eq hg⟩
  refine codeAny_mono ((F _ hKb (nsK hns)).go callerA [] s H ⟨[.ref a], []⟩ [.ref a] [.ref a] _ _ rfl hr e0 (hbind s (.ref a)) (.cons rfl .nil) (hsp H hO hS)) fun r s' h => ?_
  cases r with
  | error e => exact h.elim
  | ok fl =>
    cases fl with
    | next => exact h.elim
    | brk => exact h.elim
    | cont => exact h.elim
    | ret u =>
      obtain ⟨v, H', os, bare, un, hok', rv, q⟩ := h
      cases (show v = .bl true from q)
      cases (show u = Value.bool true from rv)
      refine ⟨rfl, OldK.of_keep fun b o e => ?_, os, bare⟩
      cases q : H b with
      | none => exact un.keep b o e q (fun z => nomatch z) (fun z => nomatch z)
      | some u =>
        rcases hO b with z | ⟨ob, xs, z⟩
        · rw [q] at z
          cases z
        · have e1 := (hok b _ z).1
          rw [e] at e1
          cases e1
          exact (hok' b _ (un.frzs b o _ z)).1
end
theorem walk_g {l : PySem.W.OpenLaw} {k : Nat} {q : Program} {loose : List Str} {XP : (Str → Option Value) → Heap → Prop} {YP : World → Heap → Prop} {d : DefRec} {K : Params → PySem.W.Frag} {sp : PySem.W.Frag → Sp} {x : Str}
    (hn : l.most = some 63) (hdf : d.params.defaults = []) (hr : Room k callerA) (hY : ∀ (w : World) (h : Heap), YP w h → (K w.params).In h)
    (F : ∀ (w : World) (mg : Str → Option Value) (fa : Addr) (h : Heap), (K w.params).In h → h.Ns mainGlobals mg → mg d.name = some (.ref fa) →
      ∃ fd : FuncData, (∀ (s : Shared) (u : Value), BindsTo s fd ⟨[u], []⟩ [(x, u)]) ∧ ∀ base : Heap, (K w.params).In base → base.Ns mainGlobals mg → RunG l.prog w (K w.params) mg base k fa fd [x] (sp (K w.params)))
    (hsp : ∀ (K : PySem.W.Frag) (H : Hp) (a : Addr) (ns : List Int), ns.length ≤ 63 → SqL K H a (ns.map V.int) → sp K [.ref a] H (fun v _ => v = .bl true) fun _ _ _ => False) :
    PySem.W.WalkO q loose XP YP l.row.toRowW d [] (fun f vs => PySem.call f vs) := by
  refine Att.attach_call hn hdf fun w s₀ s₁ mg mb fa o pm cd doc a vs ns G Y ho hd hcd hmg hobj hints hlen hg => ?_
  obtain ⟨fd, hb, hF⟩ := F w mg fa _ (hY w _ Y) G.T.g hmg
  exact law_at (hY w _ Y) G.T.g G.T.b G.T.builtins G.T.nolimit hg hobj hints (by rw [sizeLine_eq]; omega) hr hF hb fun H hO hS => hsp _ H a ns hlen hS
end My

/-! DkDef: what a deck is -/
namespace My
open PySem PySem.Spec PyProof.Rows L2

/-- the built-in names that the helpers use are still the built-in ones -/
structure Blt (mg : Str → Option Value) : Prop where
  int : mg "int" = none
  len : mg "len" = none
  abs : mg "abs" = none
  list : mg "list" = none
  range : mg "range" = none
  repr : mg "repr" = none
/-- a deck at d: its cells ns at l, at most k draws so far -/
structure Deck (H : Hp) (d l : Addr) (ns : List Int) (k : Nat) : Prop where
  ex : ∃ i r n : Int, H d = some (.lst [.ref l, .int i, .int r, .int n]) ∧ 0 ≤ n ∧ n ≤ k
  cells : H l = some (.lst (ns.map V.int))
theorem Deck.ne {H : Hp} {d l : Addr} {ns : List Int} {k : Nat} (D : Deck H d l ns k) : l ≠ d := by
  intro e
  obtain ⟨⟨i, r, n, h, _⟩, c⟩ := D
  rw [e, h] at c
  have c' := HO.lst.inj (Option.some.inj c)
  cases ns with
  | nil => cases c'
  | cons z zs => cases (List.cons.inj c').1
theorem Deck.mono {H : Hp} {d l : Addr} {ns : List Int} {k j : Nat} (D : Deck H d l ns k) (h : k ≤ j) : Deck H d l ns j := by
  obtain ⟨⟨i, r, n, e, h0, h1⟩, c⟩ := D
  exact ⟨⟨i, r, n, e, h0, by omega⟩, c⟩
theorem Deck.same {H H' : Hp} {d l : Addr} {ns : List Int} {k : Nat} (D : Deck H d l ns k) (e : Same H H') : Deck H' d l ns k := by
  obtain ⟨⟨i, r, n, h, hn⟩, c⟩ := D
  exact ⟨⟨i, r, n, e _ _ h, hn⟩, e _ _ c⟩
theorem Deck.upd {H : Hp} {d l b : Addr} {ns : List Int} {k : Nat} {o : HO} (D : Deck H d l ns k) (hd : b ≠ d) (hl : b ≠ l) : Deck (upd H b o) d l ns k := by
  obtain ⟨⟨i, r, n, e, z⟩, c⟩ := D
  exact ⟨⟨i, r, n, by rw [upd_ne (Ne.symm hd)]; exact e, z⟩, by rw [upd_ne (Ne.symm hl)]; exact c⟩
theorem Deck.nd {H : Hp} {d l b : Addr} {ns : List Int} {k : Nat} (D : Deck H d l ns k) (n : H b = none) : b ≠ d ∧ b ≠ l := by
  obtain ⟨⟨i, r, m, e, z⟩, c⟩ := D
  exact ⟨Ne.symm (ne_of_none e n), Ne.symm (ne_of_none c n)⟩
end My

/-! MyPairs: dict(a tuple of pairs); tuples whose object is known -/
namespace My
open PySem PySem.Spec PyProof.Rows L2
/-- a tuple of ys at a, its own object known -/
def KTup (a : Addr) (ys : List V) (o : HO) : Prop := ∃ (its : List Value) (n : Nat), o = .frz { cls := .type "tuple", data := .seq its.toArray n } (.tup ys)
theorem KTup.rd {K : PySem.W.Frag} {H : Hp} {a : Addr} {ys : List V} {o : HO} (h : KTup a ys o) (e : H a = some o) : SqT K H a ys := by
  obtain ⟨its, n, rfl⟩ := h
  exact .inl (.inr ⟨_, e⟩)
section
variable {X : Cx}
theorem ktup_new {P : Program} {w : World} {H : Hp} {h : Heap} {ys : List V} {its : List Value} {a : Addr} {n : Nat} (hz : ys.length ≤ sizeLine) (r : Vals ys its) (e : h.get? a = some { cls := .type "tuple", data := .seq its.toArray n }) :
    ObjOk P w H h a (.frz { cls := .type "tuple", data := .seq its.toArray n } (.tup ys)) := ⟨e, hz, its, r, ⟨_, e, rfl, _, rfl⟩⟩
/-- tuple(xs) of a list: a new one, known -/
def rTupK (K : PySem.W.Frag) : List V → Hp → VK → Prop := fun xs H Q => ∃ p ys, xs = [.ref p] ∧ SqL K H p ys ∧ ∀ (l : Addr) (o : HO), H l = none → KTup l ys o → Q (.ref l) (upd H l o)
theorem call_tupK : CallR X (.type "tuple") (rTupK X.K) := by
  intro pins s σ H xs us Q I r h
  obtain ⟨p, ys, rfl, hq, q⟩ := h
  obtain ⟨u, rfl, rx⟩ := vals1 r
  cases (show u = Value.ref p from rx)
  obtain ⟨its, r', pl, hz⟩ := I.list hq
  have hl := r'.length
  refine call_tuple_list pl.isList (fun h' kp => ?_) (by simp only [List.size_toArray]; omega)
  have I1 : Inv X pins σ H { s with heap := h' } := I.kept (t' := s.toks) kp
  exact ⟨.ref h'.objs.size, _, I1.laid (t' := s.toks) (fun b o e => Heap.get?_push_of_some _ e) (Nat.le_refl _) (ktup_new hz r' (Heap.get?_push_size _ rfl)), rfl, q _ _ (I1.hok.fresh (Nat.le_refl _)) ⟨_, _, rfl⟩⟩
/-- (), known -/
def tTup0 : TE := fun _ H Q => ∀ (p : Addr) (o : HO), H p = none → KTup p [] o → Q (.ref p) (upd H p o)
theorem pe_tup0 {k : Nat} {pos : Pos} : PE X (.Tuple [] k pos) tTup0 := by
  refine ⟨fun pins s σ H Q I hq => ?_⟩
  refine wpAny_Tuple_spliced (thn (pa_nil.run pos pins s σ H (fun vs H' => vs = [] ∧ H' = H) I ⟨rfl, rfl⟩) fun us s1 ⟨xs, H1, I1, r, e1, e2⟩ => ?_)
  subst e1 e2
  cases r
  refine ⟨by show 0 ≤ sizeLine; decide, ?_⟩
  exact ⟨.ref s1.heap.objs.size, _, I1.laid (t' := s1.toks) (fun b u e => Heap.get?_push_of_some _ e) (Nat.le_refl _) (ktup_new (Nat.zero_le _) .nil (Heap.get?_push_size _ rfl)), rfl, hq _ _ (I1.hok.fresh (Nat.le_refl _)) ⟨_, _, rfl⟩⟩
theorem pairs_vals {pins : List (Addr × Obj)} {σ : L2.St} {H : Hp} {s : Shared} (I : Inv X pins σ H s) : ∀ {ps : List Addr} {kvs : List (Key × V)}, Paired (fun p kv => SqT X.K H p [kV kv.1, kv.2]) ps kvs →
    ∃ (prs : List (Key × Value)) (pv : List (Value × Value)), KV kvs prs ∧ pv.length = ps.length ∧ prs.length = ps.length ∧
      ∀ (j : Nat) (k v : Value), pv[j]? = some (k, v) → (∃ b, ps[j]? = some b ∧ IsTup s.heap b #[k, v]) ∧ ∃ q, prs[j]? = some (q, v) ∧ keyIs q k = true
  | _, _, .nil => ⟨[], [], .nil, rfl, rfl, fun j k v e => by simp at e⟩
  | _, _, .cons (a := p) (b := kv) h t => by
    obtain ⟨prs, pv, r, l1, l2, hp⟩ := pairs_vals I t
    obtain ⟨its, rv, ht, _⟩ := I.tuple h
    obtain ⟨u, y, rfl, ru, ry⟩ := vals2 rv
    refine ⟨(kv.1, y) :: prs, (u, y) :: pv, .cons ⟨rfl, ry⟩ r, congrArg Nat.succ l1, congrArg Nat.succ l2, fun j k v e => ?_⟩
    cases j with
    | zero =>
      obtain ⟨rfl, rfl⟩ := Prod.mk.inj (Option.some.inj e)
      exact ⟨⟨p, rfl, ht⟩, kv.1, rfl, kV_is (P := X.prog) (w := X.w) ru⟩
    | succ j =>
      obtain ⟨⟨b, e1, e2⟩, q, e3, e4⟩ := hp j k v e
      exact ⟨⟨b, e1, e2⟩, q, e3, e4⟩
/-- dict(xs) of a tuple of pairs -/
def rDictT (K : PySem.W.Frag) : List V → Hp → VK → Prop := fun xs H Q => ∃ (a : Addr) (ps : List Addr) (kvs : List (Key × V)) (o : HO), xs = [.ref a] ∧ H a = some o ∧ KTup a (ps.map V.ref) o ∧ Paired (fun p kv => SqT K H p [kV kv.1, kv.2]) ps kvs ∧
  ∀ p, H p = none → Q (.ref p) (upd H p (.dK (mergeK [] kvs)))
theorem call_dictT (hc : X.calm = true) : CallR X (.type "dict") (rDictT X.K) := by
  intro pins s σ H xs us Q I r h
  obtain ⟨a, ps, kvs, o, rfl, ha, hk, hp, q⟩ := h
  obtain ⟨u, rfl, rx⟩ := vals1 r
  cases (show u = Value.ref a from rx)
  obtain ⟨its, n, rfl⟩ := hk
  obtain ⟨hob, hz, its', r', it⟩ := I.hok a _ ha
  obtain ⟨o', ho', hc', n', hd'⟩ := it
  rw [hob] at ho'
  cases ho'
  have ei : its = its' := by
    have z := congrArg (fun d : Data => match d with | .seq xs _ => xs.toList | _ => []) hd'
    simpa using z
  subst ei
  have er := refs_at r'
  obtain ⟨prs, pv, rel, l1, l2, hpv⟩ := pairs_vals I hp
  have cnt : its.length = ps.length := by rw [er, List.length_map]
  have hz' : ps.length ≤ sizeLine := by rw [← List.length_map (f := V.ref)]; exact hz
  refine PySem.call_dict_pairs (knd := mixKind X.prog X.w) (kvs := prs) (PySem.PairArg.tuple a its.toArray (fun j => ps.getD j 0) pv) (I.ok.hd hc) ⟨⟨_, _, hob, rfl, rfl, rfl⟩, ⟨by rw [List.size_toArray, cnt, l1], fun j k v e => ?_⟩⟩ ⟨by rw [l1, l2], fun i k v e => ?_⟩ (by rw [l1]; exact hz') fun h' tk hd kp => ?_
  · obtain ⟨⟨b, e1, e2⟩, _⟩ := hpv j k v e
    have eb : ps.getD j 0 = b := by rw [List.getD_eq_getElem?_getD, e1]; rfl
    refine ⟨?_, .inl ?_⟩
    · show its.toArray[j]? = some (Value.ref (ps.getD j 0))
      rw [eb, er]
      simp [e1]
    · show s.heap.IsTuple (ps.getD j 0) #[k, v]
      rw [eb]
      exact e2
  · obtain ⟨_, qk, e3, e4⟩ := hpv i k v e
    exact ⟨qk, e3, e4⟩
  · have hm : (s.heap.objs.size == sysModules) = false := beq_eq_false_iff_ne.mpr (Nat.ne_of_gt I.big)
    have hlen : (mergeK [] kvs).length ≤ sizeLine := by
      refine Nat.le_trans (length_mergeK kvs []) ?_
      rw [List.length_nil, Nat.zero_add, rel.length, l2]
      exact hz'
    exact ⟨.ref s.heap.objs.size, _, I.laid (t' := tk) (fun b o e => kp b o (fun z => nomatch z) e) (Nat.le_refl _) (show ObjOk X.prog X.w _ _ _ (.dK (mergeK [] kvs)) from ⟨hlen, hm, merged [] prs, KV.merge rel .nil, hd⟩), rfl, q _ (I.hok.fresh (Nat.le_refl _))⟩
end
end My

/-! MyRev: t[::-1], t a tuple -/
namespace My
open PySem PySem.Spec PyProof.Rows L2 HT
section
variable {prog : Program} {w : World} {A : Around} {E : Value → Shared → Prop} {s : Shared}
theorem places_rev (n : Nat) : Builtin.Slice.slicePlaces ((n : Int) - 1) (-1) (-1) = n := by
  unfold Builtin.Slice.slicePlaces
  rw [if_neg (by decide)]
  by_cases h : (n : Int) - 1 > -1
  · rw [if_pos h]
    have e : ((n : Int) - 1 - -1 - 1) / (- -1) + 1 = n := by
      rw [show (- -1 : Int) = 1 by decide, Int.ediv_one]
      omega
    rw [e, Int.toNat_natCast]
  · rw [if_neg h]
    have e : n = 0 := by omega
    subst e
    rfl
theorem sliceApplied_rev {sl : Addr} {vl vu vs : Value} {n : Nat} {Q : Int × Int × Nat → Shared → Prop} (hs : s.heap.IsSliceOf sl vl vu vs) (pl : IsPart vl none) (pu : IsPart vu none) (ps : IsPart vs (some (-1)))
    (h : Q ((n : Int) - 1, -1, n) s) : wpAny (model prog w) A (Builtin.Slice.sliceApplied (.ref sl) (pure (n : Int))) Q E s := by
  obtain ⟨os, hos, hcs, hds⟩ := id hs
  unfold Builtin.Slice.sliceApplied Builtin.Slice.sliceFields
  refine wpAny_bind (wpAny_bind (wpAny_field hos hds (x := vl) rfl (wpAny_bind (wpAny_field hos hds (x := vu) rfl (wpAny_bind (wpAny_field hos hds (x := vs) rfl (wpAny_pure ?_)))))))
  refine wpAny_bind (slicePart_ ps ?_)
  show wpAny _ _ (if ((-1 : Int) == 0) = true then _ else _) _ _ s
  rw [if_neg (by decide)]
  refine wpAny_bind (slicePart_ pl (wpAny_bind (slicePart_ pu (wpAny_bind (wpAny_pure ?_)))))
  show wpAny _ _ (pure ((n : Int) - 1, (-1 : Int), Builtin.Slice.slicePlaces ((n : Int) - 1) (-1) (-1))) _ _ s
  rw [places_rev]
  exact wpAny_pure h
theorem fm_congr {α β : Type} {f g : α → Option β} : ∀ {l : List α}, (∀ x ∈ l, f x = g x) → l.filterMap f = l.filterMap g
  | [], _ => rfl
  | x :: r, h => by
    rw [List.filterMap_cons, List.filterMap_cons, h x List.mem_cons_self, fm_congr fun y m => h y (List.mem_cons_of_mem _ m)]
theorem pick_rev (xs : Array Value) : ((List.range xs.size).filterMap fun (m : Nat) => xs[(((xs.size : Nat) : Int) - 1 + (m : Int) * -1).toNat]?).toArray = xs.toList.reverse.toArray := by
  have h := PySem.W.krv_pick xs
  unfold slicePick at h
  rw [PySem.W.krv_bounds] at h
  have h' : ((sliceRange ((xs.size : Int) - 1) (-1) (-1)).filterMap (xs[·]?)).toArray = xs.toList.reverse.toArray := h
  rw [PySem.W.krv_sliceRange, List.filterMap_map] at h'
  rw [← h']
  congr 1
  refine fm_congr fun m hm => ?_
  have lm := List.mem_range.mp hm
  show xs[((xs.size : Int) - 1 + (m : Int) * -1).toNat]? = xs[xs.size - 1 - m]?
  rw [show ((xs.size : Int) - 1 + (m : Int) * -1).toNat = xs.size - 1 - m by omega]
theorem getItem_tuple_rev {t sl : Addr} {items : Array Value} {vl vu vs : Value} {Q : Value → Shared → Prop} (ht : IsTup s.heap t items) (hs : s.heap.IsSliceOf sl vl vu vs) (pl : IsPart vl none) (pu : IsPart vu none) (ps : IsPart vs (some (-1)))
    (h : Q (.ref s.heap.objs.size) { s with heap := s.heap.push { cls := .type "tuple", data := .seq items.toList.reverse.toArray } })
    (hsz : items.size ≤ sizeLine) : wpAny (model prog w) A (getItem (.ref t) (.ref sl)) Q E s := by
  have htake : sizeOk (.seq items.toList.reverse.toArray) := by
    show items.toList.reverse.toArray.size ≤ sizeLine
    rw [List.size_toArray, List.length_reverse, Array.length_toList]
    exact hsz
  obtain ⟨os, hos, hcs, hds⟩ := id hs
  have hTs : s.TypeIs (.ref sl) "slice" := ⟨os, hos, hcs⟩
  unfold getItem
  try with_reducible refine wpAny_holding ?_
  first | refine wpAny_bind (wpAny_pure ?_) | skip
  refine wpAny_bind (wpAny_sequenceKey ht.typeIs (by decide) ?_)
  refine wpAny_bind (wpAny_callSpecial?_slot (name := Str.ofString "__getitem__") ht.typeIs PyProof.Rows.slot_tuple_getitem
    (wpAny_call_entry PyProof.Rows.slot_tuple_getitem ht.typeIs entry_tuple_getitem ?_ (args_tuple_getitem _ _)))
  show wpAny _ _ (Builtin.Tuple.tupleItemsOf (.ref t) >>= _) _ _ s
  refine wpAny_bind (tupleItemsOf_ ht ?_)
  refine wpAny_bind (wpAny_typeOf hTs ?_)
  rw [if_pos (by decide)]
  refine wpAny_bind (sliceApplied_rev hs pl pu ps ?_)
  have hno : ¬ (((items.size : Int) - 1 == 0 && (-1 : Int) == 1 && items.size == items.size) = true) := by
    intro q
    rw [Bool.and_eq_true, Bool.and_eq_true] at q
    exact absurd q.1.2 (by decide)
  show wpAny _ _ (if ((items.size : Int) - 1 == 0 && (-1 : Int) == 1 && items.size == items.size) = true then _ else _) _ _ s
  rw [if_neg hno, pick_rev]
  first
    | exact wpAny_bind (m := Builtin.Tuple.tupleExact _) (wpAny_newObj_type (wpAny_pure ⟨_, rfl, wpAny_pure h⟩) htake)
    | exact wpAny_bind (m := Builtin.Tuple.tupleExact _) (wpAny_newObj_type (wpAny_bind (wpAny_pure (wpAny_pure ⟨_, rfl, wpAny_pure h⟩))) htake)
    | exact wpAny_bind (wpAny_bind (m := Builtin.Tuple.tupleExact _) (wpAny_newObj_type (wpAny_pure (wpAny_pure ⟨_, rfl, wpAny_pure h⟩)) htake))
    | exact wpAny_bind (wpAny_bind (m := Builtin.Tuple.tupleExact _) (wpAny_newObj_type (wpAny_pure ⟨_, rfl, wpAny_pure h⟩) htake))
end
section
variable {X : Cx}
def tRevT (K : PySem.W.Frag) (te : TE) : TE := fun σ H Q => te σ H fun x H1 => ∃ a xs, x = .ref a ∧ SqT K H1 a xs ∧ ∀ p, H1 p = none → Q (.ref p) (upd H1 p (.tup xs.reverse))
theorem pe_revT {e : Expr} {te : TE} {k : Nat} {p1 p2 p3 pos : Pos} (he : PE X e te) : PE X (.Subscript e (.Slice none none (some (.UnaryOp .USub (.Constant (.int 1) k p1) p2)) p3) pos) (tRevT X.K te) := by
  refine ⟨fun pins s σ H Q I h => ?_⟩
  refine Subscript_ (thn (he.run pins s σ H _ I h) fun v s1 ⟨x, H1, I1, r1, q1⟩ => ?_)
  obtain ⟨a, xs, ex, hx, q⟩ := q1
  subst ex
  cases r1
  have hst : PO X (some (.UnaryOp .USub (.Constant (.int 1) k p1) p2)) (tPart (tUn (rU fun i => .int (-i)) (tC (.int 1)))) := po_some (pe_un un_neg pe_int)
  refine wpAny_Slice (thn (po_none.run pins s1 σ H1 (fun o H2 => o = none ∧ H2 = H1) I1 ⟨rfl, rfl⟩) fun vl s2 ⟨l, H2, I2, pl, el, e2⟩ => ?_)
  subst el e2
  refine thn (po_none.run pins s2 σ H2 (fun o H3 => o = none ∧ H3 = H2) I2 ⟨rfl, rfl⟩) fun vu s3 ⟨u, H3, I3, pu, eu, e3⟩ => ?_
  subst eu e3
  refine thn (hst.run pins s3 σ H3 (fun o H4 => o = some (-1) ∧ H4 = H3) I3 ⟨1, rfl, -1, rfl, rfl, rfl⟩) fun vs s4 ⟨o, H4, I4, ps, eo, e4⟩ => ?_
  subst eo e4
  have I5 : Inv X pins σ H4 { s4 with heap := s4.heap.push { cls := .type "slice", data := .fields #[vl, vu, vs] } } := I4.kept (t' := s4.toks) fun b ob q => Heap.get?_push_of_some _ q
  obtain ⟨its, r, ht, hz⟩ := I5.tuple hx
  have hlen := r.length
  show wpAny (model X.prog X.w) X.A (subscriptTail e (.Slice none none (some (.UnaryOp .USub (.Constant (.int 1) k p1) p2)) p3) (.ref a) (.ref s4.heap.objs.size)) (EP X pins σ Q) X.xe { s4 with heap := s4.heap.push { cls := .type "slice", data := .fields #[vl, vu, vs] } }
  refine tail_any (ops := [.ref a, .ref s4.heap.objs.size]) ht.typeIs (PyProof.Rows.slot_tuple_getitem.lookup) ?_ (by with_unfolding_all rfl)
  refine getItem_tuple_rev ht (Heap.IsSliceOf.new _ vl vu vs) pl pu ps ?_ (by rw [List.size_toArray]; omega)
  refine ⟨.ref _, _, I5.laid (t' := s4.toks) (o := .tup xs.reverse) (fun b ob q => Heap.get?_push_of_some _ q) (Nat.le_refl _) ?_, rfl, q _ (I5.hok.fresh (Nat.le_refl _))⟩
  exact ⟨by rw [List.length_reverse]; exact hz, _, r.reverse, IsTup.new _ _⟩
end
end My

/-! NP: tuples whose object is known: displays, t + u, slices, t[::-1] -/
namespace My
open PySem PySem.Spec PyProof.Rows L2
/-- an object at a that has no dict of its own -/
def Pl (K : PySem.W.Frag) (H : Hp) (a : Addr) : Prop := (∃ (o : Obj) (u : HO), H a = some (.frz o u) ∧ o.dict = none) ∨ ∃ o : Obj, K.lookup a = some o ∧ o.dict = none
theorem Pl.same {K : PySem.W.Frag} {H H' : Hp} {a : Addr} (s : Same H H') (h : Pl K H a) : Pl K H' a := by
  rcases h with ⟨o, u, e, d⟩ | h
  · exact .inl ⟨o, u, s _ _ e, d⟩
  · exact .inr h
theorem KTup.pl {K : PySem.W.Frag} {H : Hp} {a : Addr} {ys : List V} {o : HO} (h : KTup a ys o) (e : H a = some o) : Pl K H a := by
  obtain ⟨its, n, rfl⟩ := h
  exact .inl ⟨_, _, e, rfl⟩
theorem KTup.nt {a : Addr} {ys : List V} {o : HO} (h : KTup a ys o) : (∀ xs, o ≠ .lst xs) ∧ ∀ kv, o ≠ .dK kv := by
  obtain ⟨its, n, rfl⟩ := h
  exact ⟨fun _ e => (nomatch e), fun _ e => (nomatch e)⟩
section
variable {X : Cx}
def tTupK (t : TA) : TE := fun σ H Q => t σ H fun xs H1 => xs.length ≤ sizeLine ∧ ∀ (p : Addr) (o : HO), H1 p = none → KTup p xs o → Q (.ref p) (upd H1 p o)
theorem pe_tupK {es : List Expr} {t : TA} {pos : Pos} {x1} (h : PA X es t) : PE X (.Tuple es x1 pos) (tTupK t) := by
  refine ⟨fun pins s σ H Q I hq => ?_⟩
  refine wpAny_Tuple_spliced (thn (h.run pos pins s σ H _ I hq) fun us s1 ⟨xs, H1, I1, r, z, q⟩ => ⟨by rw [← r.length]; exact z, ?_⟩)
  exact ⟨.ref s1.heap.objs.size, _, I1.laid (t' := s1.toks) (fun b u e => Heap.get?_push_of_some _ e) (Nat.le_refl _) (ktup_new (n := 0) z r (Heap.get?_push_size _ rfl)), rfl, q _ _ (I1.hok.fresh (Nat.le_refl _)) ⟨_, _, rfl⟩⟩
/-- t + u -/
def rCatK (K : PySem.W.Frag) : R2 := fun x y H Q => ∃ a b xs ys, x = .ref a ∧ y = .ref b ∧ SqT K H a xs ∧ SqT K H b ys ∧ xs.length + ys.length ≤ sizeLine ∧
  (xs = [] → Q (.ref b) H) ∧ (xs ≠ [] → ys = [] → Q (.ref a) H) ∧ (xs ≠ [] → ys ≠ [] → ∀ (p : Addr) (o : HO), H p = none → KTup p (xs ++ ys) o → Q (.ref p) (upd H p o))
theorem op_catK : OpR X (binaryOp .Add) (rCatK X.K) := by
  intro pins s σ H x y v u Q I rx ry h
  obtain ⟨a, b, xs, ys, rfl, rfl, ha, hb, hz, q0, q1, q2⟩ := h
  by_cases hx : xs = []
  · subst hx
    cases rx
    cases ry
    obtain ⟨its, r1, p1, _⟩ := I.tuple ha
    obtain ⟨its2, r2, p2, _⟩ := I.tuple hb
    cases r1
    exact cat_tup0 p1 p2 ⟨.ref b, H, I, rfl, q0 rfl⟩
  · cases rx
    cases ry
    obtain ⟨its, r1, p1, _⟩ := I.tuple ha
    obtain ⟨its2, r2, p2, _⟩ := I.tuple hb
    refine HT.cat_tup p1 p2 (fun z => hx (r1.nil_iff.mp z)) (fun z => ⟨.ref a, H, I, rfl, q1 hx (r2.nil_iff.mp z)⟩) (fun z => ?_) (by rw [← r1.length, ← r2.length]; exact hz)
    exact ⟨.ref s.heap.objs.size, _, I.laid (t' := s.toks) (fun b ob q => Heap.get?_push_of_some _ q) (Nat.le_refl _) (ktup_new (n := 0) (by rw [List.length_append]; exact hz) (r1.append r2) (Heap.get?_push_size _ rfl)), rfl, q2 hx (fun w => z (r2.nil_iff.mpr w)) _ _ (I.hok.fresh (Nat.le_refl _)) ⟨_, _, rfl⟩⟩
/-- t[lo:hi] -/
def rSlK (K : PySem.W.Frag) : V → Option Int → Option Int → Hp → VK → Prop := fun x lo hi H Q => ∃ a xs, x = .ref a ∧ SqT K H a xs ∧
  (HT.sIx xs.length 0 lo = 0 ∧ HT.sIx xs.length xs.length hi = xs.length → Q (.ref a) H) ∧ (¬ (HT.sIx xs.length 0 lo = 0 ∧ HT.sIx xs.length xs.length hi = xs.length) → ∀ (p : Addr) (o : HO), H p = none → KTup p (cutV xs lo hi) o → Q (.ref p) (upd H p o))
theorem sl_tupK : L2.SlR X (rSlK X.K) := by
  intro pins s σ H x v vl vu lo hi sl Q I rx hs pl pu h
  obtain ⟨a, xs, rfl, hx, q1, q2⟩ := h
  cases rx
  obtain ⟨its, r, ht, hz⟩ := I.tuple hx
  have hlen : its.toArray.size = xs.length := by rw [List.size_toArray]; exact r.length.symm
  refine ⟨"tuple", _, PyProof.Rows.slot_tuple_getitem.lookup, ht.typeIs, ?_⟩
  by_cases hw : HT.sIx xs.length 0 lo = 0 ∧ HT.sIx xs.length xs.length hi = xs.length
  · exact getItem_tuple_whole ht hs pl pu (by rw [hlen]; exact hw) ⟨.ref a, H, I, rfl, q1 hw⟩
  · refine HT.getItem_tuple_cut ht hs pl pu (by rw [hlen]; exact hw) ?_ (by rw [hlen]; exact hz)
    rw [hlen]
    exact ⟨.ref s.heap.objs.size, _, I.laid (t' := s.toks) (fun b ob q => Heap.get?_push_of_some _ q) (Nat.le_refl _) (ktup_new (n := 0) (Nat.le_trans (cutV_length xs lo hi) hz) ((r.drop (HT.sIx xs.length 0 lo)).take (HT.sIx xs.length xs.length hi - HT.sIx xs.length 0 lo)) (Heap.get?_push_size _ rfl)), rfl, q2 hw _ _ (I.hok.fresh (Nat.le_refl _)) ⟨_, _, rfl⟩⟩
/-- t[::-1] -/
def tRevK (K : PySem.W.Frag) (te : TE) : TE := fun σ H Q => te σ H fun x H1 => ∃ a xs, x = .ref a ∧ SqT K H1 a xs ∧ ∀ (p : Addr) (o : HO), H1 p = none → KTup p xs.reverse o → Q (.ref p) (upd H1 p o)
theorem pe_revK {e : Expr} {te : TE} {k : Nat} {p1 p2 p3 pos : Pos} (he : PE X e te) : PE X (.Subscript e (.Slice none none (some (.UnaryOp .USub (.Constant (.int 1) k p1) p2)) p3) pos) (tRevK X.K te) := by
  refine ⟨fun pins s σ H Q I h => ?_⟩
  refine Subscript_ (thn (he.run pins s σ H _ I h) fun v s1 ⟨x, H1, I1, r1, q1⟩ => ?_)
  obtain ⟨a, xs, ex, hx, q⟩ := q1
  subst ex
  cases r1
  have hst : PO X (some (.UnaryOp .USub (.Constant (.int 1) k p1) p2)) (tPart (tUn (rU fun i => .int (-i)) (tC (.int 1)))) := po_some (pe_un un_neg pe_int)
  refine wpAny_Slice (thn (po_none.run pins s1 σ H1 (fun o H2 => o = none ∧ H2 = H1) I1 ⟨rfl, rfl⟩) fun vl s2 ⟨l, H2, I2, pl, el, e2⟩ => ?_)
  subst el e2
  refine thn (po_none.run pins s2 σ H2 (fun o H3 => o = none ∧ H3 = H2) I2 ⟨rfl, rfl⟩) fun vu s3 ⟨u, H3, I3, pu, eu, e3⟩ => ?_
  subst eu e3
  refine thn (hst.run pins s3 σ H3 (fun o H4 => o = some (-1) ∧ H4 = H3) I3 ⟨1, rfl, -1, rfl, rfl, rfl⟩) fun vs s4 ⟨o, H4, I4, ps, eo, e4⟩ => ?_
  subst eo e4
  have I5 : Inv X pins σ H4 { s4 with heap := s4.heap.push { cls := .type "slice", data := .fields #[vl, vu, vs] } } := I4.kept (t' := s4.toks) fun b ob q => Heap.get?_push_of_some _ q
  obtain ⟨its, r, ht, hz⟩ := I5.tuple hx
  have hlen := r.length
  show wpAny (model X.prog X.w) X.A (subscriptTail e (.Slice none none (some (.UnaryOp .USub (.Constant (.int 1) k p1) p2)) p3) (.ref a) (.ref s4.heap.objs.size)) (EP X pins σ Q) X.xe { s4 with heap := s4.heap.push { cls := .type "slice", data := .fields #[vl, vu, vs] } }
  refine tail_any (ops := [.ref a, .ref s4.heap.objs.size]) ht.typeIs (PyProof.Rows.slot_tuple_getitem.lookup) ?_ (by with_unfolding_all rfl)
  refine getItem_tuple_rev ht (Heap.IsSliceOf.new _ vl vu vs) pl pu ps ?_ (by rw [List.size_toArray]; omega)
  exact ⟨.ref _, _, I5.laid (t' := s4.toks) (fun b ob q => Heap.get?_push_of_some _ q) (Nat.le_refl _) (ktup_new (n := 0) (by rw [List.length_reverse]; exact hz) r.reverse (Heap.get?_push_size _ rfl)), rfl, q _ _ (I5.hok.fresh (Nat.le_refl _)) ⟨_, _, rfl⟩⟩
/-- tuple(x) of a list or a tuple -/
def rTupU (K : PySem.W.Frag) : List V → Hp → VK → Prop := fun xs H Q => rTupK K xs H Q ∨ ∃ a ys, xs = [.ref a] ∧ SqT K H a ys ∧ Q (.ref a) H
end
end My

/-! PA: programs over data: what is read as data, what is owned, what a piece of a program does to data -/
namespace My
open PySem PySem.Spec PyProof.Rows L2
/-! ### data in the abstract heap, dicts too -/
def kD : Key → PyData
  | .inl i => .int i
  | .inr x => .str x
/-- such a tuple might be handed to dict(..): nothing but pairs in it -/
def pairLike : PyData → Bool
  | .tuple [_, _] => true
  | _ => false
def dictable (ds : List PyData) : Bool := ds.all pairLike
mutual
inductive Rp (K : PySem.W.Frag) (H : Hp) : V → PyData → Prop
  | non : Rp K H .non .none
  | bl (b : Bool) : Rp K H (.bl b) (.bool b)
  | int (i : Int) : Rp K H (.int i) (.int i)
  | str (x : Str) : Rp K H (.str x) (.str x)
  | lst {a : Addr} {xs : List V} {ds : List PyData} : H a = some (.lst xs) → RpAll K H xs ds → Rp K H (.ref a) (.list ds)
  | tup {a : Addr} {xs : List V} {ds : List PyData} : SqT K H a xs → RpAll K H xs ds → (dictable ds = true → Pl K H a) → Rp K H (.ref a) (.tuple ds)
  | dic {a : Addr} {o : Obj} {kvs : List (Key × V)} {ds : List (PyData × PyData)} : H a = some (.frz o (.dK kvs)) → RpKvs K H kvs ds → Rp K H (.ref a) (.dict ds)
inductive RpAll (K : PySem.W.Frag) (H : Hp) : List V → List PyData → Prop
  | nil : RpAll K H [] []
  | cons {v : V} {vs : List V} {d : PyData} {ds : List PyData} : Rp K H v d → RpAll K H vs ds → RpAll K H (v :: vs) (d :: ds)
inductive RpKvs (K : PySem.W.Frag) (H : Hp) : List (Key × V) → List (PyData × PyData) → Prop
  | nil : RpKvs K H [] []
  | cons {k : Key} {v : V} {kvs : List (Key × V)} {d : PyData} {ds : List (PyData × PyData)} : Rp K H v d → RpKvs K H kvs ds → RpKvs K H ((k, v) :: kvs) ((kD k, d) :: ds)
end
section
variable {K : PySem.W.Frag} {H H' : Hp}
mutual
theorem Rp.same (e : Same H H') : ∀ (d : PyData) (v : V), Rp K H v d → Rp K H' v d
  | .none, _, h => by cases h; exact .non
  | .bool _, _, h => by cases h; exact .bl _
  | .int _, _, h => by cases h; exact .int _
  | .str _, _, h => by cases h; exact .str _
  | .list ds, _, h => by
    cases h with
    | lst hs ha => exact .lst (e _ _ hs) (RpAll.same e ds _ ha)
  | .tuple ds, _, h => by
    cases h with
    | tup hs ha hp => exact .tup (same_seqT e hs) (RpAll.same e ds _ ha) fun c => (hp c).same e
  | .dict ds, _, h => by
    cases h with
    | dic hs ha => exact .dic (e _ _ hs) (RpKvs.same e ds _ ha)
theorem RpAll.same (e : Same H H') : ∀ (ds : List PyData) (vs : List V), RpAll K H vs ds → RpAll K H' vs ds
  | [], _, h => by cases h; exact .nil
  | d :: ds, _, h => by
    cases h with
    | cons h1 h2 => exact .cons (Rp.same e d _ h1) (RpAll.same e ds _ h2)
theorem RpKvs.same (e : Same H H') : ∀ (ds : List (PyData × PyData)) (kvs : List (Key × V)), RpKvs K H kvs ds → RpKvs K H' kvs ds
  | [], _, h => by cases h; exact .nil
  | (k, d) :: ds, _, h => by
    cases h with
    | cons h1 h2 => exact .cons (Rp.same e d _ h1) (RpKvs.same e ds _ h2)
end
theorem RpAll.len : ∀ {ds : List PyData} {vs : List V}, RpAll K H vs ds → vs.length = ds.length
  | [], _, h => by cases h; rfl
  | d :: ds, _, h => by
    cases h with
    | cons h1 h2 => rw [List.length_cons, List.length_cons, RpAll.len h2]
theorem RpAll.get : ∀ {ds : List PyData} {vs : List V} {j : Nat} {v : V}, RpAll K H vs ds → vs[j]? = some v → ∃ d, ds[j]? = some d ∧ Rp K H v d
  | [], _, j, v, h, e => by cases h; simp at e
  | d :: ds, _, j, v, h, e => by
    cases h with
    | cons h1 h2 =>
      cases j with
      | zero =>
        simp at e
        subst e
        exact ⟨d, rfl, h1⟩
      | succ j =>
        obtain ⟨z, hz, hd⟩ := RpAll.get (j := j) (v := v) h2 (by simpa using e)
        exact ⟨z, by simpa using hz, hd⟩
theorem RpAll.at : ∀ {ds : List PyData} {vs : List V} {j : Nat} {d : PyData}, RpAll K H vs ds → ds[j]? = some d → ∃ v, vs[j]? = some v ∧ Rp K H v d
  | [], _, j, v, h, e => by simp at e
  | d :: ds, _, j, v, h, e => by
    cases h with
    | @cons v0 vs0 _ _ h1 h2 =>
      cases j with
      | zero =>
        simp at e
        subst e
        exact ⟨v0, rfl, h1⟩
      | succ j =>
        obtain ⟨z, hz, hd⟩ := RpAll.at (j := j) h2 (by simpa using e)
        exact ⟨z, by simpa using hz, hd⟩
theorem RpAll.app : ∀ {ds es : List PyData} {vs us : List V}, RpAll K H vs ds → RpAll K H us es → RpAll K H (vs ++ us) (ds ++ es)
  | [], _, _, _, h, g => by cases h; exact g
  | d :: ds, _, _, _, h, g => by
    cases h with
    | cons h1 h2 => exact .cons h1 (RpAll.app h2 g)
theorem RpAll.drop : ∀ {ds : List PyData} {vs : List V} (n : Nat), RpAll K H vs ds → RpAll K H (vs.drop n) (ds.drop n)
  | _, _, 0, h => h
  | [], _, n + 1, h => by cases h; exact .nil
  | d :: ds, _, n + 1, h => by
    cases h with
    | cons h1 h2 => exact RpAll.drop n h2
theorem RpAll.take : ∀ {ds : List PyData} {vs : List V} (n : Nat), RpAll K H vs ds → RpAll K H (vs.take n) (ds.take n)
  | _, _, 0, h => .nil
  | [], _, n + 1, h => by cases h; exact .nil
  | d :: ds, _, n + 1, h => by
    cases h with
    | cons h1 h2 => exact .cons h1 (RpAll.take n h2)
-- data without dicts
mutual
def flatD : PyData → Bool
  | .list ds => flatAll ds
  | .tuple ds => flatAll ds
  | .dict _ => false
  | _ => true
def flatAll : List PyData → Bool
  | [] => true
  | d :: ds => flatD d && flatAll ds
end
mutual
theorem Rp.dp : ∀ (d : PyData) (v : V), flatD d = true → Rp K H v d → Dp K H v d
  | .none, _, _, h => by cases h; exact .non
  | .bool _, _, _, h => by cases h; exact .bl _
  | .int _, _, _, h => by cases h; exact .int _
  | .str _, _, _, h => by cases h; exact .str _
  | .list ds, _, f, h => by
    cases h with
    | lst hs ha => exact .lst (.inl (.inl hs)) (RpAll.dp ds _ (by simpa only [flatD] using f) ha)
  | .tuple ds, _, f, h => by
    cases h with
    | tup hs ha _ => exact .tup hs (RpAll.dp ds _ (by simpa only [flatD] using f) ha)
  | .dict ds, _, f, h => by simp only [flatD] at f; cases f
theorem RpAll.dp : ∀ (ds : List PyData) (vs : List V), flatAll ds = true → RpAll K H vs ds → DpAll K H vs ds
  | [], _, _, h => by cases h; exact .nil
  | d :: ds, _, f, h => by
    cases h with
    | cons h1 h2 =>
      simp only [flatAll, Bool.and_eq_true] at f
      exact .cons (Rp.dp d _ f.1 h1) (RpAll.dp ds _ f.2 h2)
end
end
/-! ### what is owned: addresses that no data may reach -/
def hid (O : Addr → Bool) (H : Hp) : Hp := fun b => if O b = true then none else H b
theorem hid_le {O : Addr → Bool} {H : Hp} : Same (hid O H) H := fun b o h => by
  unfold hid at h
  by_cases c : O b = true
  · rw [if_pos c] at h
    cases h
  · rw [if_neg c] at h
    exact h
theorem hid_at {O : Addr → Bool} {H : Hp} {b : Addr} {o : HO} (n : O b = false) (h : H b = some o) : hid O H b = some o := by
  unfold hid
  rw [if_neg (by rw [n]; decide)]
  exact h
theorem hid_out {O : Addr → Bool} {H : Hp} {b : Addr} {o : HO} (h : hid O H b = some o) : O b = false := by
  unfold hid at h
  by_cases c : O b = true
  · rw [if_pos c] at h
    cases h
  · exact Bool.eq_false_iff.mpr c
theorem hid_upd {O : Addr → Bool} {H : Hp} {p : Addr} {o : HO} (h : O p = true) : hid O (upd H p o) = hid O H := by
  funext b
  unfold hid
  by_cases c : O b = true
  · rw [if_pos c, if_pos c]
  · rw [if_neg c, if_neg c, upd_ne (fun e => c (by rw [e]; exact h))]
/-- p owned too -/
def add (O : Addr → Bool) (p : Addr) : Addr → Bool := fun b => O b || decide (b = p)
theorem add_self {O : Addr → Bool} {p : Addr} : add O p p = true := by
  unfold add
  rw [decide_eq_true rfl, Bool.or_true]
theorem add_of {O : Addr → Bool} {p b : Addr} (h : O b = true) : add O p b = true := by
  unfold add
  rw [h, Bool.true_or]
theorem add_or {O : Addr → Bool} {p b : Addr} (h : add O p b = true) : O b = true ∨ b = p := by
  unfold add at h
  rw [Bool.or_eq_true] at h
  exact h.imp id of_decide_eq_true
theorem hid_add {O : Addr → Bool} {H : Hp} {p : Addr} {o : HO} (n : H p = none) : hid (add O p) (upd H p o) = hid O H := by
  funext b
  unfold hid
  by_cases c : b = p
  · rw [if_pos (by rw [c]; exact add_self), c, n]
    by_cases d : O p = true
    · rw [if_pos d]
    · rw [if_neg d]
  · rw [upd_ne c]
    by_cases d : O b = true
    · rw [if_pos d, if_pos (add_of d)]
    · rw [if_neg d, if_neg fun z => (add_or z).elim d c]
def NoTup (o : HO) : Prop := (∀ xs, o ≠ .tup xs) ∧ ∀ b u, o ≠ .frz b u
theorem nt_lst {us : List V} : NoTup (.lst us) := ⟨fun _ e => (nomatch e), fun _ _ e => (nomatch e)⟩
theorem nt_dK {us : List (Key × V)} : NoTup (.dK us) := ⟨fun _ e => (nomatch e), fun _ _ e => (nomatch e)⟩
/-- the owned addresses are in use, by no tuples -/
def Dom (O : Addr → Bool) (H : Hp) : Prop := ∀ b, O b = true → ∃ o, H b = some o ∧ NoTup o
theorem Dom.ne {O : Addr → Bool} {H : Hp} {b : Addr} (d : Dom O H) (h : O b = true) : H b ≠ none := fun z => by
  obtain ⟨o, e, _⟩ := d b h
  rw [z] at e
  cases e
theorem Dom.new {O : Addr → Bool} {H : Hp} {p : Addr} (d : Dom O H) (n : H p = none) : O p = false := Bool.eq_false_iff.mpr fun z => d.ne z n
theorem Dom.tup {O : Addr → Bool} {H : Hp} {p : Addr} {xs : List V} (d : Dom O H) (n : H p = some (.tup xs)) : O p = false := Bool.eq_false_iff.mpr fun z => by
  obtain ⟨o, e, t⟩ := d p z
  rw [n] at e
  exact t.1 xs (Option.some.inj e).symm
theorem Dom.sqT {K : PySem.W.Frag} {O : Addr → Bool} {H : Hp} {p : Addr} {xs : List V} (d : Dom O H) (h : SqT K H p xs) : SqT K (hid O H) p xs := by
  rcases h with (h | ⟨o, h⟩) | h
  · exact .inl (.inl (hid_at (d.tup h) h))
  · refine .inl (.inr ⟨o, hid_at (Bool.eq_false_iff.mpr fun z => ?_) h⟩)
    obtain ⟨o', e, t⟩ := d p z
    rw [h] at e
    exact t.2 _ _ (Option.some.inj e).symm
  · exact .inr h
theorem Dom.same {O : Addr → Bool} {H H' : Hp} (d : Dom O H) (s : Same H H') : Dom O H' := fun b h => by
  obtain ⟨o, e, t⟩ := d b h
  exact ⟨o, s b o e, t⟩
theorem hid_same {O : Addr → Bool} {H H' : Hp} (s : Same H H') : Same (hid O H) (hid O H') := fun b o h => hid_at (hid_out h) (s b o (hid_le b o h))
theorem hid_new {O : Addr → Bool} {H : Hp} {p : Addr} {o : HO} (d : Dom O H) (n : H p = none) : hid O (upd H p o) p = some o := hid_at (d.new n) upd_same
/-! ### a deck, or none -/
structure DkI where
  d : Addr
  l : Addr
  ns : List Int
def DkOk : Option DkI → Nat → Hp → Prop
  | none, _, _ => True
  | some D, n, H => Deck H D.d D.l D.ns n ∧ D.ns.length ≤ 63
def dkA (dk : Option DkI) (b : Addr) : Prop := ∃ D, dk = some D ∧ b = D.d
def NotDk (dk : Option DkI) (p : Addr) : Prop := ∀ D, dk = some D → p ≠ D.d ∧ p ≠ D.l
/-- all but the deck stays -/
def FrD (dk : Option DkI) (H H' : Hp) : Prop := ∀ b o, ¬ dkA dk b → H b = some o → H' b = some o
theorem FrD.refl {dk : Option DkI} (H : Hp) : FrD dk H H := fun _ _ _ h => h
theorem FrD.trans {dk : Option DkI} {H H1 H2 : Hp} (a : FrD dk H H1) (b : FrD dk H1 H2) : FrD dk H H2 := fun c o n h => b c o n (a c o n h)
theorem FrD.of {dk : Option DkI} {H H' : Hp} (s : Same H H') : FrD dk H H' := fun b o _ h => s b o h
theorem FrD.same {H H' : Hp} (f : FrD none H H') : Same H H' := fun b o h => f b o (fun ⟨_, z, _⟩ => by cases z) h
theorem DkOk.same {dk : Option DkI} {n : Nat} {H H' : Hp} (d : DkOk dk n H) (s : Same H H') : DkOk dk n H' := by
  cases dk with
  | none => trivial
  | some D => exact ⟨d.1.same s, d.2⟩
theorem DkOk.mono {dk : Option DkI} {n m : Nat} {H : Hp} (d : DkOk dk n H) (h : n ≤ m) : DkOk dk m H := by
  cases dk with
  | none => trivial
  | some D => exact ⟨d.1.mono h, d.2⟩
theorem DkOk.upd {dk : Option DkI} {n : Nat} {H : Hp} {p : Addr} {o : HO} (d : DkOk dk n H) (h : NotDk dk p) : DkOk dk n (upd H p o) := by
  cases dk with
  | none => trivial
  | some D => exact ⟨d.1.upd (h D rfl).1 (h D rfl).2, d.2⟩
theorem DkOk.new {dk : Option DkI} {n : Nat} {H : Hp} {p : Addr} (d : DkOk dk n H) (h : H p = none) : NotDk dk p := by
  cases dk with
  | none => exact fun D e => by cases e
  | some D =>
    intro D' e
    cases e
    exact d.1.nd h
theorem DkOk.domT {dk : Option DkI} {n : Nat} {H : Hp} {b : Addr} (d : DkOk dk n H) (h : dkA dk b) : ∃ o, H b = some o ∧ NoTup o := by
  obtain ⟨D, rfl, rfl⟩ := h
  obtain ⟨⟨_, _, _, e, _⟩, _⟩ := d.1
  exact ⟨_, e, nt_lst⟩
theorem DkOk.dom {dk : Option DkI} {n : Nat} {H : Hp} {b : Addr} (d : DkOk dk n H) (h : dkA dk b) : H b ≠ none := fun z => by
  obtain ⟨o, e, _⟩ := d.domT h
  rw [z] at e
  cases e
/-! ### the names of a def: what they hold -/
inductive Sv where
  /-- data, shared -/
  | d (x : PyData)
  /-- a list, a dict of one's own, that may be changed -/
  | l (xs : List PyData) | k (kvs : List (PyData × PyData))
  /-- the deck -/
  | dk
def Sv.own : Sv → Bool
  | .l _ => true
  | .k _ => true
  | _ => false
abbrev DEnv := List (Option Sv)
section
variable (K : PySem.W.Frag) (dk : Option DkI) (OB : Addr → Bool) (H0 : Hp) (O : Addr → Bool) (H : Hp)
def SlR : V → Sv → Prop
  | v, .d x => Rp K (hid O H) v x
  | v, .l xs => ∃ p vs, v = .ref p ∧ O p = true ∧ H0 p = none ∧ NotDk dk p ∧ H p = some (.lst vs) ∧ RpAll K (hid O H) vs xs
  | v, .k kvs => ∃ p kv, v = .ref p ∧ O p = true ∧ H0 p = none ∧ NotDk dk p ∧ H p = some (.dK kv) ∧ RpKvs K (hid O H) kv kvs
  | v, .dk => ∃ D, dk = some D ∧ v = .ref D.d
structure StR (σ : L2.St) (ρ : DEnv) (n : Nat) : Prop where
  len : σ.length = ρ.length
  ob : ∀ b, OB b = true → O b = true
  od : Dom OB H0
  dom : Dom O H
  dkO : ∀ b, dkA dk b → OB b = true
  fr : FrD dk H0 H
  dok : DkOk dk n H
  sl : ∀ (i : Nat) (s : Sv), ρ[i]? = some (some s) → ∃ v, σ[i]? = some (some v) ∧ SlR K dk H0 O H v s
  dis : ∀ (i j : Nat) (p : Addr) (s s' : Sv), i ≠ j → ρ[i]? = some (some s) → ρ[j]? = some (some s') → s.own = true → s'.own = true → σ[i]? = some (some (.ref p)) → σ[j]? = some (some (.ref p)) → False
end
section
variable {K : PySem.W.Frag} {dk : Option DkI} {OB : Addr → Bool} {H0 : Hp} {O : Addr → Bool} {H H' : Hp} {σ : L2.St} {ρ : DEnv} {n n' : Nat}
theorem hid_fr (hO : ∀ b, dkA dk b → O b = true) (f : FrD dk H H') : Same (hid O H) (hid O H') := fun b o h => by
  have z := hid_out h
  refine hid_at z (f b o (fun d => ?_) (hid_le b o h))
  rw [hO b d] at z
  cases z
theorem SlR.step {v : V} {s : Sv} (hO : ∀ b, dkA dk b → O b = true) (f : FrD dk H H') (h : SlR K dk H0 O H v s) : SlR K dk H0 O H' v s := by
  have nd : ∀ p, NotDk dk p → ¬ dkA dk p := fun p z ⟨D, e1, e2⟩ => (z D e1).1 e2
  cases s with
  | d x => exact Rp.same (hid_fr hO f) _ _ h
  | l xs =>
    obtain ⟨p, vs, e, h1, h2, h3, h4, h5⟩ := h
    exact ⟨p, vs, e, h1, h2, h3, f _ _ (nd p h3) h4, RpAll.same (hid_fr hO f) _ _ h5⟩
  | k kvs =>
    obtain ⟨p, vs, e, h1, h2, h3, h4, h5⟩ := h
    exact ⟨p, vs, e, h1, h2, h3, f _ _ (nd p h3) h4, RpKvs.same (hid_fr hO f) _ _ h5⟩
  | dk => exact h
theorem StR.dO (s : StR K dk OB H0 O H σ ρ n) : ∀ b, dkA dk b → O b = true := fun b h => s.ob b (s.dkO b h)
theorem StR.hid (s : StR K dk OB H0 O H σ ρ n) (f : FrD dk H H') : Same (My.hid O H) (My.hid O H') := hid_fr s.dO f
/-- what an expression leaves -/
theorem StR.step (s : StR K dk OB H0 O H σ ρ n) (f : FrD dk H H') (d : DkOk dk n' H') : StR K dk OB H0 O H' σ ρ n' where
  len := s.len
  ob := s.ob
  od := s.od
  dom := fun b h => by
    by_cases c : dkA dk b
    · exact d.domT c
    · obtain ⟨o, e, t⟩ := s.dom b h
      exact ⟨o, f b o c e, t⟩
  dkO := s.dkO
  fr := s.fr.trans f
  dok := d
  sl := fun i x h => by
    obtain ⟨v, h1, h2⟩ := s.sl i x h
    exact ⟨v, h1, h2.step s.dO f⟩
  dis := s.dis
/-- a name is given data -/
theorem StR.set (s : StR K dk OB H0 O H σ ρ n) {i : Nat} {v : V} {x : PyData} (h : Rp K (My.hid O H) v x) : StR K dk OB H0 O H (σ.set i (some v)) (ρ.set i (some (.d x))) n where
  len := by rw [List.length_set, List.length_set, s.len]
  ob := s.ob
  od := s.od
  dom := s.dom
  dkO := s.dkO
  fr := s.fr
  dok := s.dok
  sl := fun j y e => by
    by_cases c : i = j
    · subst c
      by_cases l : i < ρ.length
      · rw [List.getElem?_set_self l] at e
        cases e
        exact ⟨v, List.getElem?_set_self (by rw [s.len]; exact l), h⟩
      · rw [List.getElem?_eq_none (by rw [List.length_set]; omega)] at e
        cases e
    · rw [List.getElem?_set_ne c] at e ⊢
      exact s.sl j y e
  dis := fun a b p u w ne e1 e2 o1 o2 f1 f2 => by
    have z : ∀ {j : Nat} {y : Sv}, (ρ.set i (some (.d x)))[j]? = some (some y) → y.own = true → i ≠ j ∧ ρ[j]? = some (some y) := fun {j y} e o => by
      by_cases c : i = j
      · subst c
        by_cases l : i < ρ.length
        · rw [List.getElem?_set_self l] at e
          cases e
          cases o
        · rw [List.getElem?_eq_none (by rw [List.length_set]; omega)] at e
          cases e
      · rw [List.getElem?_set_ne c] at e
        exact ⟨c, e⟩
    obtain ⟨c1, g1⟩ := z e1 o1
    obtain ⟨c2, g2⟩ := z e2 o2
    rw [List.getElem?_set_ne c1] at f1
    rw [List.getElem?_set_ne c2] at f2
    exact s.dis a b p u w ne g1 g2 o1 o2 f1 f2
/-- names forgotten -/
def wipeD (ρ : DEnv) : List Nat → DEnv
  | [] => ρ
  | v :: vs => (wipeD ρ vs).set v none
theorem StR.unset (s : StR K dk OB H0 O H σ ρ n) (i : Nat) : StR K dk OB H0 O H (σ.set i none) (ρ.set i none) n where
  len := by rw [List.length_set, List.length_set, s.len]
  ob := s.ob
  od := s.od
  dom := s.dom
  dkO := s.dkO
  fr := s.fr
  dok := s.dok
  sl := fun j y e => by
    by_cases c : i = j
    · subst c
      by_cases l : i < ρ.length
      · rw [List.getElem?_set_self l] at e
        cases e
      · rw [List.getElem?_eq_none (by rw [List.length_set]; omega)] at e
        cases e
    · rw [List.getElem?_set_ne c] at e ⊢
      exact s.sl j y e
  dis := fun a b p u w ne e1 e2 o1 o2 f1 f2 => by
    have z : ∀ {j : Nat} {y : Sv}, (ρ.set i none)[j]? = some (some y) → i ≠ j ∧ ρ[j]? = some (some y) := fun {j y} e => by
      by_cases c : i = j
      · subst c
        by_cases l : i < ρ.length
        · rw [List.getElem?_set_self l] at e
          cases e
        · rw [List.getElem?_eq_none (by rw [List.length_set]; omega)] at e
          cases e
      · rw [List.getElem?_set_ne c] at e
        exact ⟨c, e⟩
    obtain ⟨c1, g1⟩ := z e1
    obtain ⟨c2, g2⟩ := z e2
    rw [List.getElem?_set_ne c1] at f1
    rw [List.getElem?_set_ne c2] at f2
    exact s.dis a b p u w ne g1 g2 o1 o2 f1 f2
theorem StR.wipe (s : StR K dk OB H0 O H σ ρ n) : ∀ vs : List Nat, StR K dk OB H0 O H (L2.wipe σ vs) (wipeD ρ vs) n
  | [] => s
  | v :: vs => (s.wipe vs).unset v
end
end My

/-! PB: expressions over data -/
namespace My
open PySem PySem.Spec PyProof.Rows L2
abbrev M (α : Type) := Nat → (α → Nat → Prop) → Prop
abbrev ED := DEnv → M PyData
abbrev AD := DEnv → M (List PyData)
abbrev TD := DEnv → M Bool
/-- the readings that go by data alone -/
def tW (K : PySem.W.Frag) (w : ED) : TE := fun σ H Q => ∃ dk OB H0 O ρ n Qd, StR K dk OB H0 O H σ ρ n ∧ w ρ n Qd ∧ ∀ v d H' n', FrD dk H H' → DkOk dk n' H' → Rp K (hid O H') v d → Qd d n' → Q v H'
def tWA (K : PySem.W.Frag) (w : AD) : TA := fun σ H Q => ∃ dk OB H0 O ρ n Qd, StR K dk OB H0 O H σ ρ n ∧ w ρ n Qd ∧ ∀ vs ds H' n', FrD dk H H' → DkOk dk n' H' → RpAll K (hid O H') vs ds → Qd ds n' → Q vs H'
def tWT (K : PySem.W.Frag) (w : TD) : TT := fun σ H Q => ∃ dk OB H0 O ρ n Qd, StR K dk OB H0 O H σ ρ n ∧ w ρ n Qd ∧ ∀ b H' n', FrD dk H H' → DkOk dk n' H' → Qd b n' → Q b H'
abbrev PD (X : Cx) (e : Expr) (w : ED) : Prop := PE X e (tW X.K w)
abbrev PDA (X : Cx) (es : List Expr) (w : AD) : Prop := PA X es (tWA X.K w)
abbrev PDT (X : Cx) (e : Expr) (w : TD) : Prop := PT X e (tWT X.K w)
abbrev PDW (X : Cx) (e : Expr) (w : TD) : Prop := PW X e (tWT X.K w)
/-- t does on data what w says -/
def RdE (K : PySem.W.Frag) (t : TE) (w : ED) : Prop := ∀ {dk OB H0 O H σ ρ n} {Q : VK} {Qd}, StR K dk OB H0 O H σ ρ n → w ρ n Qd → (∀ v d H' n', FrD dk H H' → DkOk dk n' H' → Rp K (hid O H') v d → Qd d n' → Q v H') → t σ H Q
def RdA (K : PySem.W.Frag) (t : TA) (w : AD) : Prop := ∀ {dk OB H0 O H σ ρ n} {Q : List V → Hp → Prop} {Qd}, StR K dk OB H0 O H σ ρ n → w ρ n Qd → (∀ vs ds H' n', FrD dk H H' → DkOk dk n' H' → RpAll K (hid O H') vs ds → Qd ds n' → Q vs H') → t σ H Q
def RdT (K : PySem.W.Frag) (t : TT) (w : TD) : Prop := ∀ {dk OB H0 O H σ ρ n} {Q : Bool → Hp → Prop} {Qd}, StR K dk OB H0 O H σ ρ n → w ρ n Qd → (∀ b H' n', FrD dk H H' → DkOk dk n' H' → Qd b n' → Q b H') → t σ H Q
section
variable {X : Cx} {K : PySem.W.Frag}
theorem qd_mk {e : Expr} {t : TE} {w : ED} (h : PE X e t) (r : RdE X.K t w) : PD X e w := ⟨fun pins s σ H Q I ⟨_, _, _, _, _, _, _, S, hw, k⟩ => h.run pins s σ H Q I (r S hw k)⟩
theorem qda_mk {es : List Expr} {t : TA} {w : AD} (h : PA X es t) (r : RdA X.K t w) : PDA X es w := ⟨fun pos pins s σ H Q I ⟨_, _, _, _, _, _, _, S, hw, k⟩ => h.run pos pins s σ H Q I (r S hw k)⟩
theorem qdt_mk {e : Expr} {t : TT} {w : TD} (h : PT X e t) (r : RdT X.K t w) : PDT X e w := ⟨fun pins s σ H Q I ⟨_, _, _, _, _, _, _, S, hw, k⟩ => h.run pins s σ H Q I (r S hw k)⟩
theorem qdw_mk {e : Expr} {t : TT} {w : TD} (h : PW X e t) (r : RdT X.K t w) : PDW X e w := ⟨fun wh pins s σ H Q I ⟨_, _, _, _, _, _, _, S, hw, k⟩ => h.run wh pins s σ H Q I (r S hw k)⟩
/-! ### constants, names -/
def eC (x : PyData) : ED := fun _ n Q => Q x n
theorem rd_c {v : V} {x : PyData} (h : ∀ H, Rp K H v x) : RdE K (tC v) (eC x) := fun {_ _ _ _ H _ _ n _ _} S hw k => k _ _ H n (FrD.refl H) S.dok (h _) hw
theorem qd_int {i j pos} : PD X (.Constant (.int i) j pos) (eC (.int i)) := qd_mk pe_int (rd_c fun _ => .int i)
theorem qd_bl {b j pos} : PD X (.Constant (.bool b) j pos) (eC (.bool b)) := qd_mk pe_bl (rd_c fun _ => .bl b)
theorem qd_non {j pos} : PD X (.Constant .none j pos) (eC .none) := qd_mk pe_non (rd_c fun _ => .non)
theorem qd_str {x j pos} : PD X (.Constant (.str x) j pos) (eC (.str x)) := qd_mk pe_str (rd_c fun _ => .str x)
theorem qd_glob {x : Str} {z : Str} {td : Tok} {pos : Pos} (hg : Gl X x) (hm : X.mg x = some (.str z td)) (hd : (x == ("__debug__" : Str)) = false := by decide) : PD X (.Name x pos) (eC (.str z)) := qd_mk (pe_glob (v := .str z) hg hm ⟨td, rfl⟩ hd) (rd_c fun _ => .str z)
def eV (i : Nat) : ED := fun ρ n Q => ∃ x, ρ[i]? = some (some (.d x)) ∧ Q x n
theorem rd_v (i : Nat) : RdE K (tVar i) (eV i) := fun {_ _ _ _ H _ _ n _ _} S hw k => by
  obtain ⟨x, e, q⟩ := hw
  obtain ⟨v, e1, e2⟩ := S.sl _ _ e
  exact ⟨v, e1, k _ _ H n (FrD.refl H) S.dok e2 q⟩
theorem qdv (i : Nat) {x : Str} {pos : Pos} (hN : X.N[i]? = some x := by rfl) (hv : Vis X.env.scope x := by first | exact Or.inl rfl | exact Or.inr (Or.inl rfl) | exact Or.inr (Or.inr rfl)) (hd : (x == ("__debug__" : Str)) = false := by decide)
    (hcd : (x == ("__classdict__" : Str)) = false := by decide) : PD X (.Name x pos) (eV i) := qd_mk (pv i hN hv hd hcd) (rd_v i)
/-! ### argument lists -/
def aN : AD := fun _ n Q => Q [] n
def aC (w : ED) (ws : AD) : AD := fun ρ n Q => w ρ n fun x n1 => ws ρ n1 fun xs n2 => Q (x :: xs) n2
theorem rda_nil : RdA K tNil aN := fun {_ _ _ _ H _ _ n _ _} S hw k => k [] [] H n (FrD.refl H) S.dok .nil hw
theorem rd_W {w : ED} : RdE K (tW K w) w := fun S hw k => ⟨_, _, _, _, _, _, _, S, hw, k⟩
theorem rda_W {w : AD} : RdA K (tWA K w) w := fun S hw k => ⟨_, _, _, _, _, _, _, S, hw, k⟩
theorem rdt_W {w : TD} : RdT K (tWT K w) w := fun S hw k => ⟨_, _, _, _, _, _, _, S, hw, k⟩
theorem rda_cons {t : TE} {w : ED} {ts : TA} {ws : AD} (h : RdE K t w) (hs : RdA K ts ws) : RdA K (tCons t ts) (aC w ws) := fun S hw k =>
  h S hw fun v d H1 n1 f1 d1 r1 q1 => hs (S.step f1 d1) q1 fun vs ds H2 n2 f2 d2 r2 q2 => k _ _ H2 n2 (f1.trans f2) d2 (.cons (Rp.same (hid_fr S.dO f2) _ _ r1) r2) q2
theorem qda_nil : PDA X [] aN := qda_mk pa_nil rda_nil
theorem qda_cons {e : Expr} {es : List Expr} {w : ED} {ws : AD} (ha : PD X e w) (hr : PDA X es ws) (hs : starEach (e :: es) X.env = (false, eval e X.env) :: starEach es X.env := by rfl) : PDA X (e :: es) (aC w ws) := qda_mk (pa_cons ha hr hs) (rda_cons rd_W rda_W)
/-! ### displays -/
def lim : Nat := 1000000
theorem lim_le : lim ≤ sizeLine := by
  rw [sizeLine_eq]
  decide
/-- how many arguments -/
inductive ALen : AD → Nat → Prop
  | nil : ALen aN 0
  | cons {w : ED} {ws : AD} {k : Nat} : ALen ws k → ALen (aC w ws) (k + 1)
def eTup (ws : AD) : ED := fun ρ n Q => ws ρ n fun xs n1 => xs.length ≤ lim ∧ Q (.tuple xs) n1
def eLst (ws : AD) : ED := fun ρ n Q => ws ρ n fun xs n1 => xs.length ≤ lim ∧ Q (.list xs) n1
theorem new_rp {dk : Option DkI} {OB : Addr → Bool} {H0 : Hp} {O : Addr → Bool} {H1 : Hp} {σ : L2.St} {ρ : DEnv} {n : Nat} (S : StR K dk OB H0 O H1 σ ρ n) {p : Addr} {o : HO} (np : H1 p = none) : hid O (upd H1 p o) p = some o ∧ Same (hid O H1) (hid O (upd H1 p o)) ∧ FrD dk H1 (upd H1 p o) ∧ DkOk dk n (upd H1 p o) :=
  ⟨hid_new S.dom np, hid_same (same_new np), FrD.of (same_new np), S.dok.same (same_new np)⟩
theorem qd_tup {es : List Expr} {x1 pos} {ws : AD} (h : PDA X es ws) : PD X (.Tuple es x1 pos) (eTup ws) := qd_mk (pe_tupK h) fun S hw k => rda_W S hw fun vs ds H1 n1 f1 d1 r1 ⟨l, q⟩ => by
  refine ⟨by rw [r1.len]; exact Nat.le_trans l lim_le, fun p o np kt => ?_⟩
  obtain ⟨a, b, c, e⟩ := new_rp (S.step f1 d1) (o := o) np
  exact k _ _ _ n1 (f1.trans c) e (.tup (kt.rd a) (RpAll.same b _ _ r1) fun _ => kt.pl a) q
theorem qd_lst {es : List Expr} {pos} {ws : AD} (h : PDA X es ws) : PD X (.List es pos) (eLst ws) := qd_mk (pe_lst h) fun S hw k => rda_W S hw fun vs ds H1 n1 f1 d1 r1 ⟨l, q⟩ => by
  refine ⟨by rw [r1.len]; exact Nat.le_trans l lim_le, fun p np => ?_⟩
  obtain ⟨a, b, c, e⟩ := new_rp (S.step f1 d1) (o := .lst vs) np
  exact k _ _ _ n1 (f1.trans c) e (.lst a (RpAll.same b _ _ r1)) q
/-! ### operators by values -/
/-- an operator's reading does f on data, and only makes new objects -/
def Pu2 (K : PySem.W.Frag) (r : R2) (f : PyData → PyData → Option PyData) : Prop := ∀ {O H x y dx dy dz} {Q : VK}, Dom O H → Rp K (hid O H) x dx → Rp K (hid O H) y dy → f dx dy = some dz → (∀ v H', Same H H' → Rp K (hid O H') v dz → Q v H') → r x y H Q
def PuN (K : PySem.W.Frag) (r : List V → Hp → VK → Prop) (f : List PyData → Option PyData) : Prop := ∀ {O H xs ds dz} {Q : VK}, Dom O H → RpAll K (hid O H) xs ds → f ds = some dz → (∀ v H', Same H H' → Rp K (hid O H') v dz → Q v H') → r xs H Q
def eOp (f : PyData → PyData → Option PyData) (a b : ED) : ED := fun ρ n Q => a ρ n fun x n1 => b ρ n1 fun y n2 => ∃ z, f x y = some z ∧ Q z n2
def eCall (f : List PyData → Option PyData) (ws : AD) : ED := fun ρ n Q => ws ρ n fun xs n1 => ∃ z, f xs = some z ∧ Q z n1
theorem rd_op {r : R2} {f : PyData → PyData → Option PyData} {a b : ED} (h : Pu2 K r f) : RdE K (tOp r (tW K a) (tW K b)) (eOp f a b) := fun S hw k =>
  rd_W S hw fun v d H1 n1 f1 d1 r1 q1 => rd_W (S.step f1 d1) q1 fun u e H2 n2 f2 d2 r2 ⟨z, ez, q2⟩ =>
    h (S.step (f1.trans f2) d2).dom (Rp.same (hid_fr S.dO f2) _ _ r1) r2 ez fun v' H' s r => k _ _ H' n2 ((f1.trans f2).trans (FrD.of s)) (d2.same s) r q2
theorem qd_op {op : Operator} {r : R2} {f : PyData → PyData → Option PyData} {a b : Expr} {wa wb : ED} {pos : Pos} (ho : OpR X (binaryOp op) r) (h : Pu2 X.K r f) (ha : PD X a wa) (hb : PD X b wb) : PD X (.BinOp a op b pos) (eOp f wa wb) := qd_mk (pe_op ho ha hb) (rd_op h)
theorem qd_cmp {op : CmpOp} {r : R2} {f : PyData → PyData → Option PyData} {a b : Expr} {wa wb : ED} {pos : Pos} (ho : OpR X (compareOp op) r) (h : Pu2 X.K r f) (ha : PD X a wa) (hb : PD X b wb) (hm : behindInMarks op b = false) : PD X (.Compare a [op] [b] pos) (eOp f wa wb) := qd_mk (pe_cmpR ho ha hb hm) (rd_op h)
theorem qd_ix {r : R2} {f : PyData → PyData → Option PyData} {a b : Expr} {wa wb : ED} {pos : Pos} (ho : IxR X r) (h : Pu2 X.K r f) (ha : PD X a wa) (hb : PD X b wb) (hs : PlainIx b := by exact fun _ _ => rfl) : PD X (.Subscript a b pos) (eOp f wa wb) := qd_mk (pe_ix ho ha hb hs) (rd_op h)
theorem rd_cb {r : List V → Hp → VK → Prop} {f : List PyData → Option PyData} {ws : AD} (h : PuN K r f) : RdE K (tCB r (tWA K ws)) (eCall f ws) := fun S hw k =>
  rda_W S hw fun vs ds H1 n1 f1 d1 r1 ⟨z, ez, q⟩ => h (S.step f1 d1).dom r1 ez fun v' H' s r => k _ _ H' n1 (f1.trans (FrD.of s)) (d1.same s) r q
theorem qd_callB {id : String} {r : List V → Hp → VK → Prop} {f : List PyData → Option PyData} {x : Str} {e : Expr} {es : List Expr} {ws : AD} {p pos : Pos} (hc : CallR X (.builtin id) r) (h : PuN X.K r f) (hg : Gl X x) (hm : X.mg x = none) (hv : bootBuiltins x = some (.builtin id)) (ha : PDA X (e :: es) ws)
    (hn : x ≠ "__name__" := by decide) (hdb : (x == ("__debug__" : Str)) = false := by decide)
    (he : starEach (e :: es) X.env = (false, eval e X.env) :: starEach es X.env := by rfl) (hpl : (backTo pos (starEach es X.env)).any (·.1) = false := by rfl) : PD X (.Call (.Name x p) (e :: es) [] pos) (eCall f ws) := qd_mk (pe_callB hc hg hm hv ha hn hdb he hpl) (rd_cb h)
theorem qd_callTy {T : String} {r : List V → Hp → VK → Prop} {f : List PyData → Option PyData} {x : Str} {e : Expr} {es : List Expr} {ws : AD} {p pos : Pos} (hc : CallR X (.type T) r) (h : PuN X.K r f) (hg : Gl X x) (hm : X.mg x = none) (hv : bootBuiltins x = some (.type T)) (ha : PDA X (e :: es) ws)
    (hn : x ≠ "__name__" := by decide) (hdb : (x == ("__debug__" : Str)) = false := by decide)
    (he : starEach (e :: es) X.env = (false, eval e X.env) :: starEach es X.env := by rfl) (hpl : (backTo pos (starEach es X.env)).any (·.1) = false := by rfl) : PD X (.Call (.Name x p) (e :: es) [] pos) (eCall f ws) := qd_mk (pe_callTy hc hg hm hv ha hn hdb he hpl) (rd_cb h)
/-! ### tests -/
def bT (w : ED) : TD := fun ρ n Q => w ρ n fun x n1 => ∃ b, x = .bool b ∧ Q b n1
theorem rdt_B {w : ED} : RdT K (tB (tW K w)) (bT w) := fun S hw k => rd_W S hw fun v d H1 n1 f1 d1 r1 ⟨b, e, q⟩ => by
  subst e
  cases r1
  exact ⟨b, rfl, k b H1 n1 f1 d1 q⟩
theorem qdt_val {e : Expr} {w : ED} (h : PD X e w) (he : ∀ whole, isTrue e X.env whole = (do let v ← whole; standAt e.pos; holding [v] (truthy v)) := by intro _; rfl) : PDT X e (bT w) := qdt_mk (pt_val h he) rdt_B
theorem qdt_cmp {op : CmpOp} {r : R2} {f : PyData → PyData → Option PyData} {a b : Expr} {wa wb : ED} {pos : Pos} (ho : OpR X (compareOp op) r) (h : Pu2 X.K r f) (ha : PD X a wa) (hb : PD X b wb) (hm : behindInMarks op b = false) : PDT X (.Compare a [op] [b] pos) (bT (eOp f wa wb)) :=
  qdt_mk (pt_cmpR ho ha hb hm) fun S hw k => rd_op h S hw fun v d H1 n1 f1 d1 r1 ⟨b, e, q⟩ => by
    subst e
    cases r1
    exact ⟨b, rfl, k b H1 n1 f1 d1 q⟩
def bNot (w : TD) : TD := fun ρ n Q => w ρ n fun b n1 => Q (!b) n1
def bAnd (u w : TD) : TD := fun ρ n Q => u ρ n fun b n1 => if b = true then w ρ n1 Q else Q false n1
def bOr (u w : TD) : TD := fun ρ n Q => u ρ n fun b n1 => if b = true then Q true n1 else w ρ n1 Q
theorem qdt_not {a : Expr} {w : TD} {pos : Pos} (ha : PDT X a w) : PDT X (.UnaryOp .Not a pos) (bNot w) := qdt_mk (pt_not ha) fun S hw k => rdt_W S hw fun b H1 n1 f1 d1 q => k _ H1 n1 f1 d1 q
theorem qdw_and1 {a : Expr} {w : TD} {pos : Pos} (ha : PDT X a w) : PDW X (.BoolOp .And [a] pos) w := pw_and1 ha
theorem qdw_or1 {a : Expr} {w : TD} {pos : Pos} (ha : PDT X a w) : PDW X (.BoolOp .Or [a] pos) w := pw_or1 ha
theorem qdw_and {a b : Expr} {rest : List Expr} {u w : TD} {pos : Pos} (ha : PDT X a u) (hb : PDW X (.BoolOp .And (b :: rest) pos) w) : PDW X (.BoolOp .And (a :: b :: rest) pos) (bAnd u w) := qdw_mk (pw_and ha hb) fun S hw k => rdt_W S hw fun b H1 n1 f1 d1 q => by
  cases b with
  | true => exact (if_pos rfl).mpr (rdt_W (S.step f1 d1) ((if_pos rfl).mp q) fun b H2 n2 f2 d2 q2 => k b H2 n2 (f1.trans f2) d2 q2)
  | false => exact (if_neg Bool.false_ne_true).mpr (k false H1 n1 f1 d1 ((if_neg Bool.false_ne_true).mp q))
theorem qdw_or {a b : Expr} {rest : List Expr} {u w : TD} {pos : Pos} (ha : PDT X a u) (hb : PDW X (.BoolOp .Or (b :: rest) pos) w) : PDW X (.BoolOp .Or (a :: b :: rest) pos) (bOr u w) := qdw_mk (pw_or ha hb) fun S hw k => rdt_W S hw fun b H1 n1 f1 d1 q => by
  cases b with
  | true => exact (if_pos rfl).mpr (k true H1 n1 f1 d1 ((if_pos rfl).mp q))
  | false => exact (if_neg Bool.false_ne_true).mpr (rdt_W (S.step f1 d1) ((if_neg Bool.false_ne_true).mp q) fun b H2 n2 f2 d2 q2 => k b H2 n2 (f1.trans f2) d2 q2)
theorem qdt_W {e : Expr} {w : TD} (h : PDW X e w) : PDT X e w := PW.pt h
/-! ### and, or, not as values; a if c else b -/
def eAnd (a b : ED) : ED := fun ρ n Q => a ρ n fun x n1 => ∃ c, x = .bool c ∧ if c = true then b ρ n1 Q else Q (.bool false) n1
def eOr (a b : ED) : ED := fun ρ n Q => a ρ n fun x n1 => ∃ c, x = .bool c ∧ if c = true then Q (.bool true) n1 else b ρ n1 Q
def eNot (a : ED) : ED := fun ρ n Q => a ρ n fun x n1 => ∃ c, x = .bool c ∧ Q (.bool (!c)) n1
def eIf (c : TD) (a b : ED) : ED := fun ρ n Q => c ρ n fun x n1 => if x = true then a ρ n1 Q else b ρ n1 Q
theorem qd_one {op} {a : Expr} {w : ED} {pos : Pos} (h : PD X a w) : PD X (.BoolOp op [a] pos) w := pe_one h
theorem qd_and {a b : Expr} {rest : List Expr} {u w : ED} {pos : Pos} (ha : PD X a u) (hb : PD X (.BoolOp .And (b :: rest) pos) w) : PD X (.BoolOp .And (a :: b :: rest) pos) (eAnd u w) := qd_mk (pe_and ha hb) fun S hw k => rd_W S hw fun v d H1 n1 f1 d1 r1 ⟨c, e, q⟩ => by
  subst e
  cases r1
  cases c with
  | true => exact ⟨true, rfl, (if_pos rfl).mpr (rd_W (S.step f1 d1) ((if_pos rfl).mp q) fun v d H2 n2 f2 d2 r2 q2 => k v d H2 n2 (f1.trans f2) d2 r2 q2)⟩
  | false => exact ⟨false, rfl, (if_neg Bool.false_ne_true).mpr (k _ _ H1 n1 f1 d1 (.bl false) ((if_neg Bool.false_ne_true).mp q))⟩
theorem qd_or {a b : Expr} {rest : List Expr} {u w : ED} {pos : Pos} (ha : PD X a u) (hb : PD X (.BoolOp .Or (b :: rest) pos) w) : PD X (.BoolOp .Or (a :: b :: rest) pos) (eOr u w) := qd_mk (pe_or ha hb) fun S hw k => rd_W S hw fun v d H1 n1 f1 d1 r1 ⟨c, e, q⟩ => by
  subst e
  cases r1
  cases c with
  | true => exact ⟨true, rfl, (if_pos rfl).mpr (k _ _ H1 n1 f1 d1 (.bl true) ((if_pos rfl).mp q))⟩
  | false => exact ⟨false, rfl, (if_neg Bool.false_ne_true).mpr (rd_W (S.step f1 d1) ((if_neg Bool.false_ne_true).mp q) fun v d H2 n2 f2 d2 r2 q2 => k v d H2 n2 (f1.trans f2) d2 r2 q2)⟩
theorem qd_not {a : Expr} {u : ED} {pos : Pos} (ha : PD X a u) : PD X (.UnaryOp .Not a pos) (eNot u) := qd_mk (pe_not ha) fun S hw k => rd_W S hw fun v d H1 n1 f1 d1 r1 ⟨c, e, q⟩ => by
  subst e
  cases r1
  exact ⟨c, rfl, k _ _ H1 n1 f1 d1 (.bl (!c)) q⟩
theorem qd_if {c a b : Expr} {wc : TD} {u w : ED} {pos : Pos} (hc : PDT X c wc) (ha : PD X a u) (hb : PD X b w) : PD X (.IfExp c a b pos) (eIf wc u w) := qd_mk (pe_ifExp hc ha hb) fun S hw k => rdt_W S hw fun b H1 n1 f1 d1 q => by
  cases b with
  | true => exact (if_pos rfl).mpr (rd_W (S.step f1 d1) ((if_pos rfl).mp q) fun v d H2 n2 f2 d2 r2 q2 => k v d H2 n2 (f1.trans f2) d2 r2 q2)
  | false => exact (if_neg Bool.false_ne_true).mpr (rd_W (S.step f1 d1) ((if_neg Bool.false_ne_true).mp q) fun v d H2 n2 f2 d2 r2 q2 => k v d H2 n2 (f1.trans f2) d2 r2 q2)
/-! ### slices -/
def PuS (K : PySem.W.Frag) (r : V → Option Int → Option Int → Hp → VK → Prop) (f : PyData → Option Int → Option Int → Option PyData) : Prop := ∀ {O H x dx lo hi dz} {Q : VK}, Dom O H → Rp K (hid O H) x dx → f dx lo hi = some dz → (∀ v H', Same H H' → Rp K (hid O H') v dz → Q v H') → r x lo hi H Q
def tWO (K : PySem.W.Frag) (w : DEnv → M (Option Int)) : TO := fun σ H Q => ∃ dk OB H0 O ρ n Qd, StR K dk OB H0 O H σ ρ n ∧ w ρ n Qd ∧ ∀ b H' n', FrD dk H H' → DkOk dk n' H' → Qd b n' → Q b H'
abbrev PDO (X : Cx) (e : Option Expr) (w : DEnv → M (Option Int)) : Prop := PO X e (tWO X.K w)
def oN : DEnv → M (Option Int) := fun _ n Q => Q none n
def oS (w : ED) : DEnv → M (Option Int) := fun ρ n Q => w ρ n fun x n1 => ∃ i, x = .int i ∧ Q (some i) n1
theorem qdo_none : PDO X none oN := ⟨fun pins s σ H Q I ⟨_, _, _, _, _, _, _, S, hw, k⟩ => po_none.run pins s σ H Q I (k _ H _ (FrD.refl H) S.dok hw)⟩
theorem qdo_some {e : Expr} {w : ED} (h : PD X e w) : PDO X (some e) (oS w) := ⟨fun pins s σ H Q I ⟨_, _, _, _, _, _, _, S, hw, k⟩ => (po_some h).run pins s σ H Q I (rd_W S hw fun v d H1 n1 f1 d1 r1 ⟨i, e, q⟩ => by
  subst e
  cases r1
  exact ⟨i, rfl, k _ H1 n1 f1 d1 q⟩)⟩
def eSl (f : PyData → Option Int → Option Int → Option PyData) (a : ED) (lo hi : DEnv → M (Option Int)) : ED := fun ρ n Q => a ρ n fun x n1 => lo ρ n1 fun l n2 => hi ρ n2 fun h n3 => ∃ z, f x l h = some z ∧ Q z n3
theorem qd_sl {r : V → Option Int → Option Int → Hp → VK → Prop} {f : PyData → Option Int → Option Int → Option PyData} {e : Expr} {lo hi : Option Expr} {a : ED} {l h : DEnv → M (Option Int)} {p2 pos : Pos} (hr : L2.SlR X r) (hp : PuS X.K r f) (he : PD X e a) (hl : PDO X lo l) (hh : PDO X hi h) :
    PD X (.Subscript e (.Slice lo hi none p2) pos) (eSl f a l h) := qd_mk (pe_slice hr he hl hh) fun S hw k => rd_W S hw fun v d H1 n1 f1 d1 r1 q1 => ⟨_, _, _, _, _, _, _, S.step f1 d1, q1, fun b H2 n2 f2 d2 q2 => ⟨_, _, _, _, _, _, _, S.step (f1.trans f2) d2, q2, fun c H3 n3 f3 d3 ⟨z, ez, q3⟩ =>
      hp (S.step ((f1.trans f2).trans f3) d3).dom (Rp.same (hid_fr S.dO (f2.trans f3)) _ _ r1) ez fun v' H' s r => k _ _ H' n3 (((f1.trans f2).trans f3).trans (FrD.of s)) (d3.same s) r q3⟩⟩
end
end My

/-! PC: targets, loops, comprehensions, statements over data -/
namespace My
open PySem PySem.Spec PyProof.Rows L2
section
variable {K : PySem.W.Frag} {dk : Option DkI} {OB : Addr → Bool} {H0 : Hp} {O : Addr → Bool} {H H' : Hp} {σ : L2.St} {ρ : DEnv} {n n' : Nat}
theorem StR.fresh (S : StR K dk OB H0 O H σ ρ n) {p : Addr} (np : H p = none) : H0 p = none := by
  cases e : H0 p with
  | none => rfl
  | some o =>
    have z := S.fr p o (fun d => S.dok.dom d np) e
    rw [np] at z
    cases z
theorem hid_sub {O O' : Addr → Bool} (h : ∀ b, O' b = true → O b = true) : Same (hid O H) (hid O' H) := fun b o e => by
  refine hid_at ?_ (hid_le b o e)
  have z := hid_out e
  cases c : O' b with
  | false => rfl
  | true =>
    rw [h b c] at z
    cases z
/-- an owned object is changed -/
theorem StR.mut (S : StR K dk OB H0 O H σ ρ n) {i : Nat} {p : Addr} {s s' : Sv} {o : HO} (hr : ρ[i]? = some (some s)) (ho : s.own = true) (ho' : s'.own = true) (hs : σ[i]? = some (some (.ref p))) (hO : O p = true) (h0 : H0 p = none) (hd : NotDk dk p) (nt : NoTup o)
    (new : SlR K dk H0 O (upd H p o) (.ref p) s') : StR K dk OB H0 O (upd H p o) σ (ρ.set i (some s')) n where
  len := by rw [List.length_set, S.len]
  ob := S.ob
  od := S.od
  dom := fun b h => by
    by_cases c : b = p
    · rw [c]
      exact ⟨o, upd_same, nt⟩
    · rw [upd_ne c]
      exact S.dom b h
  dkO := S.dkO
  fr := fun b u h e => by
    rw [upd_ne (fun z => by rw [z, h0] at e; cases e)]
    exact S.fr b u h e
  dok := S.dok.upd hd
  sl := fun j y e => by
    have li : i < ρ.length := (List.getElem?_eq_some_iff.mp hr).1
    by_cases c : i = j
    · subst c
      rw [List.getElem?_set_self li] at e
      cases e
      exact ⟨_, hs, new⟩
    · rw [List.getElem?_set_ne c] at e
      obtain ⟨v, e1, e2⟩ := S.sl j y e
      refine ⟨v, e1, ?_⟩
      cases y with
      | d x =>
        show Rp K (My.hid O (upd H p o)) v x
        rw [hid_upd hO]
        exact e2
      | l xs =>
        obtain ⟨q, vs, rfl, h1, h2, h3, h4, h5⟩ := e2
        refine ⟨q, vs, rfl, h1, h2, h3, ?_, by rw [hid_upd hO]; exact h5⟩
        rw [upd_ne (fun z => S.dis i j p s (.l xs) c hr e ho rfl hs (by rw [← z]; exact e1))]
        exact h4
      | k xs =>
        obtain ⟨q, vs, rfl, h1, h2, h3, h4, h5⟩ := e2
        refine ⟨q, vs, rfl, h1, h2, h3, ?_, by rw [hid_upd hO]; exact h5⟩
        rw [upd_ne (fun z => S.dis i j p s (.k xs) c hr e ho rfl hs (by rw [← z]; exact e1))]
        exact h4
      | dk => exact e2
  dis := fun a b q u w ne e1 e2 o1 o2 f1 f2 => by
    have li : i < ρ.length := (List.getElem?_eq_some_iff.mp hr).1
    have z : ∀ {j : Nat} {y : Sv}, (ρ.set i (some s'))[j]? = some (some y) → y.own = true → ∃ y', ρ[j]? = some (some y') ∧ y'.own = true := fun {j y} e o => by
      by_cases c : i = j
      · subst c
        exact ⟨s, hr, ho⟩
      · rw [List.getElem?_set_ne c] at e
        exact ⟨y, e, o⟩
    obtain ⟨u', g1, k1⟩ := z e1 o1
    obtain ⟨w', g2, k2⟩ := z e2 o2
    exact S.dis a b q u' w' ne g1 g2 k1 k2 f1 f2
/-- a new object, owned by a name -/
theorem StR.new (S : StR K dk OB H0 O H σ ρ n) {i : Nat} {p : Addr} {s : Sv} {o : HO} (np : H p = none) (ho : s.own = true) (nt : NoTup o) (new : SlR K dk H0 (add O p) (upd H p o) (.ref p) s) : StR K dk OB H0 (add O p) (upd H p o) (σ.set i (some (.ref p))) (ρ.set i (some s)) n where
  len := by rw [List.length_set, List.length_set, S.len]
  ob := fun b h => add_of (S.ob b h)
  od := S.od
  dom := fun b h => by
    by_cases c : b = p
    · rw [c]
      exact ⟨o, upd_same, nt⟩
    · rw [upd_ne c]
      exact (add_or h).elim (fun h => S.dom b h) fun z => absurd z c
  dkO := S.dkO
  fr := fun b u h e => same_new np _ _ (S.fr b u h e)
  dok := S.dok.same (same_new np)
  sl := fun j y e => by
    by_cases c : i = j
    · subst c
      by_cases li : i < ρ.length
      · rw [List.getElem?_set_self li] at e
        cases e
        exact ⟨_, List.getElem?_set_self (by rw [S.len]; exact li), new⟩
      · rw [List.getElem?_eq_none (by rw [List.length_set]; omega)] at e
        cases e
    · rw [List.getElem?_set_ne c] at e ⊢
      obtain ⟨v, e1, e2⟩ := S.sl j y e
      refine ⟨v, e1, ?_⟩
      cases y with
      | d x =>
        show Rp K (My.hid (add O p) (upd H p o)) v x
        rw [hid_add np]
        exact e2
      | l xs =>
        obtain ⟨q, vs, rfl, h1, h2, h3, h4, h5⟩ := e2
        exact ⟨q, vs, rfl, add_of h1, h2, h3, same_new np _ _ h4, by rw [hid_add np]; exact h5⟩
      | k xs =>
        obtain ⟨q, vs, rfl, h1, h2, h3, h4, h5⟩ := e2
        exact ⟨q, vs, rfl, add_of h1, h2, h3, same_new np _ _ h4, by rw [hid_add np]; exact h5⟩
      | dk => exact e2
  dis := fun a b q u w ne e1 e2 o1 o2 f1 f2 => by
    -- an old owned slot does not hold p
    have old : ∀ {j : Nat} {y : Sv}, ρ[j]? = some (some y) → y.own = true → σ[j]? = some (some (.ref p)) → False := fun {j y} e oy es => by
      obtain ⟨v, z1, z2⟩ := S.sl j y e
      rw [es] at z1
      cases z1
      cases y with
      | d x => cases oy
      | l xs =>
        obtain ⟨q, vs, z, h1, h2, h3, h4, h5⟩ := z2
        cases z
        rw [np] at h4
        cases h4
      | k xs =>
        obtain ⟨q, vs, z, h1, h2, h3, h4, h5⟩ := z2
        cases z
        rw [np] at h4
        cases h4
      | dk => cases oy
    have at_ : ∀ {j : Nat} {y : Sv}, i = j → (ρ.set i (some s))[j]? = some (some y) → (σ.set i (some (V.ref p)))[j]? = some (some (.ref q)) → q = p := fun {j y} c e f => by
      subst c
      by_cases li : i < ρ.length
      · rw [List.getElem?_set_self (by rw [S.len]; exact li)] at f
        cases f
        rfl
      · rw [List.getElem?_eq_none (by rw [List.length_set]; omega)] at e
        cases e
    by_cases ca : i = a
    · have hq := at_ ca e1 f1
      have cb : i ≠ b := fun z => ne (ca.symm.trans z)
      rw [List.getElem?_set_ne cb] at e2 f2
      rw [hq] at f2
      exact old e2 o2 f2
    · by_cases cb : i = b
      · have hq := at_ cb e2 f2
        rw [List.getElem?_set_ne ca] at e1 f1
        rw [hq] at f1
        exact old e1 o1 f1
      · rw [List.getElem?_set_ne ca] at e1 f1
        rw [List.getElem?_set_ne cb] at e2 f2
        exact S.dis a b q u w ne e1 e2 o1 o2 f1 f2
/-- an accumulator of a comprehension: owned by no name -/
theorem StR.acc (S : StR K dk OB H0 O H σ ρ n) {p : Addr} {o : HO} (np : H p = none) (nt : NoTup o) : StR K dk OB H0 (add O p) (upd H p o) σ ρ n where
  len := S.len
  ob := fun b h => add_of (S.ob b h)
  od := S.od
  dom := fun b h => by
    by_cases c : b = p
    · rw [c]
      exact ⟨o, upd_same, nt⟩
    · rw [upd_ne c]
      exact (add_or h).elim (fun h => S.dom b h) fun z => absurd z c
  dkO := S.dkO
  fr := fun b u h e => same_new np _ _ (S.fr b u h e)
  dok := S.dok.same (same_new np)
  sl := fun j y e => by
    obtain ⟨v, e1, e2⟩ := S.sl j y e
    refine ⟨v, e1, ?_⟩
    cases y with
    | d x =>
      show Rp K (My.hid (add O p) (upd H p o)) v x
      rw [hid_add np]
      exact e2
    | l xs =>
      obtain ⟨q, vs, rfl, h1, h2, h3, h4, h5⟩ := e2
      exact ⟨q, vs, rfl, add_of h1, h2, h3, same_new np _ _ h4, by rw [hid_add np]; exact h5⟩
    | k xs =>
      obtain ⟨q, vs, rfl, h1, h2, h3, h4, h5⟩ := e2
      exact ⟨q, vs, rfl, add_of h1, h2, h3, same_new np _ _ h4, by rw [hid_add np]; exact h5⟩
    | dk => exact e2
  dis := S.dis
end
/-! ### targets -/
abbrev GD := PyData → DEnv → Option DEnv
abbrev GDs := List PyData → DEnv → Option DEnv
/-- the names in vs may have changed, no other -/
def But (vs : List Nat) (σ σ' : L2.St) : Prop := σ'.length = σ.length ∧ ∀ j, j ∉ vs → σ'[j]? = σ[j]?
def tWG (K : PySem.W.Frag) (vs : List Nat) (w : GD) : TG := fun v σ H Q => ∃ dk OB H0 O ρ n x ρ', StR K dk OB H0 O H σ ρ n ∧ Rp K (hid O H) v x ∧ w x ρ = some ρ' ∧ ∀ σ', But vs σ σ' → StR K dk OB H0 O H σ' ρ' n → Q σ' H
def tWGs (K : PySem.W.Frag) (vs : List Nat) (w : GDs) : TGs := fun us σ H Q => ∃ dk OB H0 O ρ n xs ρ', StR K dk OB H0 O H σ ρ n ∧ RpAll K (hid O H) us xs ∧ w xs ρ = some ρ' ∧ ∀ σ', But vs σ σ' → StR K dk OB H0 O H σ' ρ' n → Q σ' H
abbrev PDG (X : Cx) (tg : Expr) (vs : List Nat) (w : GD) : Prop := PG X tg (tWG X.K vs w)
abbrev PDGs (X : Cx) (tgs : List Expr) (vs : List Nat) (w : GDs) : Prop := PGs X tgs (tWGs X.K vs w)
section
variable {X : Cx}
theorem But.refl {σ : L2.St} : But [] σ σ := ⟨rfl, fun _ _ => rfl⟩
theorem But.trans {a b : List Nat} {σ σ1 σ2 : L2.St} (h : But a σ σ1) (g : But b σ1 σ2) : But (a ++ b) σ σ2 := ⟨g.1.trans h.1, fun j z => (g.2 j fun m => z (List.mem_append_right _ m)).trans (h.2 j fun m => z (List.mem_append_left _ m))⟩
def gN (i : Nat) : GD := fun x ρ => some (ρ.set i (some (.d x)))
theorem qdg_name {i : Nat} {x : Str} {pos : Pos} (hN : X.N.Nodup) (hi : X.N[i]? = some x) (hx : Loc X.env.scope x) (hf : X.fn x = true ∨ X.env.scope.names.lookup x = some .local := by first | exact .inl rfl | exact .inr rfl | assumption) : PDG X (.Name x pos) [i] (gN i) :=
  ⟨fun pins s σ H v u Q I r ⟨_, _, _, _, _, _, _, _, S, rx, e, k⟩ => (pg_name hN hi hx hf).run pins s σ H v u Q I r (by
    cases e
    exact k _ ⟨List.length_set .., fun j z => List.getElem?_set_ne (fun c => z (by rw [c]; exact List.mem_singleton_self _))⟩ (S.set rx))⟩
def gsN : GDs := fun xs ρ => match xs with
  | [] => some ρ
  | _ => none
def gsC (g : GD) (gs : GDs) : GDs := fun xs ρ => match xs with
  | [] => none
  | x :: r => (g x ρ).bind (gs r)
theorem qdgs_nil : PDGs X [] [] gsN := ⟨fun pins s σ H vs us Q I r ⟨_, _, _, _, _, _, xs, _, S, rx, e, k⟩ => pgs_nil.run pins s σ H vs us Q I r (by
  cases rx with
  | nil =>
    cases e
    exact ⟨rfl, k σ But.refl S⟩
  | cons a b => cases e)⟩
theorem qdgs_cons {e : Expr} {es : List Expr} {a b : List Nat} {g : GD} {gs : GDs} (h1 : PDG X e a g) (h2 : PDGs X es b gs) (hs : (assignEach (e :: es) X.env).map (·.2) = assign e X.env :: (assignEach es X.env).map (·.2) := by rfl) : PDGs X (e :: es) (a ++ b) (gsC g gs) :=
  ⟨fun pins s σ H vs us Q I r ⟨_, _, _, _, _, _, xs, ρ', S, rx, e, k⟩ => (pgs_cons h1 h2 hs).run pins s σ H vs us Q I r (by
    cases rx with
    | nil => cases e
    | @cons v0 r0 x0 xr ra rb =>
      obtain ⟨ρ1, e1, e2⟩ := Option.bind_eq_some_iff.mp e
      exact ⟨_, _, rfl, _, _, _, _, _, _, _, _, S, ra, e1, fun σ1 b1 S1 => ⟨_, _, _, _, _, _, _, _, S1, rb, e2, fun σ2 b2 S2 => k σ2 (b1.trans b2) S2⟩⟩)⟩
def gT (n : Nat) (gs : GDs) : GD := fun x ρ => match x with
  | .tuple xs => if xs.length = n then gs xs ρ else none
  | _ => none
theorem qdg_tup {es : List Expr} {k : Nat} {vs : List Nat} {gs : GDs} {n : Nat} {pos : Pos} (hc : X.calm = true) (h : PDGs X es vs gs) (hn : (assignEach es X.env).length = n := by rfl) (hst : (assignEach es X.env).findIdx? (·.1) = none := by rfl) : PDG X (.Tuple es k pos) vs (gT n gs) :=
  ⟨fun pins s σ H v u Q I r ⟨_, _, _, _, _, _, x, ρ', S, rx, e, kk⟩ => (pg_tup hc h hn hst).run pins s σ H v u Q I r (by
    cases x with
    | tuple xs =>
      cases rx with
      | @tup a us _ hs ha _ =>
        have e' : (if xs.length = n then gs xs _ else none) = some ρ' := e
        by_cases c : xs.length = n
        · rw [if_pos c] at e'
          exact ⟨_, us, rfl, same_seqT hid_le hs, by rw [ha.len]; exact c, _, _, _, _, _, _, _, _, S, ha, e', kk⟩
        · rw [if_neg c] at e'
          cases e'
    | _ => cases e)⟩
end
theorem wipe_get (σ : L2.St) : ∀ (vs : List Nat) (j : Nat), (wipe σ vs)[j]? = if j ∈ vs ∧ j < σ.length then some none else σ[j]?
  | [], j => by
    rw [if_neg (fun h => by simp at h)]
    rfl
  | v :: vs, j => by
    unfold wipe
    by_cases c : v = j
    · subst c
      by_cases l : v < σ.length
      · rw [List.getElem?_set_self (by rw [wipe_length]; exact l), if_pos ⟨List.mem_cons_self, l⟩]
      · rw [List.getElem?_eq_none (by rw [List.length_set, wipe_length]; omega), if_neg (fun h => l h.2), List.getElem?_eq_none (by omega)]
    · rw [List.getElem?_set_ne c, wipe_get σ vs j]
      have e : (j ∈ v :: vs ∧ j < σ.length) ↔ (j ∈ vs ∧ j < σ.length) := by
        rw [List.mem_cons]
        exact ⟨fun h => ⟨h.1.resolve_left (fun z => c z.symm), h.2⟩, fun h => ⟨.inr h.1, h.2⟩⟩
      by_cases d : j ∈ vs ∧ j < σ.length
      · rw [if_pos d, if_pos (e.mpr d)]
      · rw [if_neg d, if_neg fun z => d (e.mp z)]
/-- a target that sets own names alone leaves the others -/
theorem wipe_but {own vs : List Nat} {σ σ2 : L2.St} (h : ∀ i ∈ vs, i ∈ own) (b : But vs (wipe σ own) σ2) : wipe σ2 own = wipe σ own := by
  have l2 : σ2.length = σ.length := b.1.trans (wipe_length σ own)
  refine List.ext_getElem? fun j => ?_
  rw [wipe_get, wipe_get, l2]
  by_cases c : j ∈ own ∧ j < σ.length
  · rw [if_pos c, if_pos c]
  · rw [if_neg c, if_neg c]
    by_cases d : j ∈ own
    · have nl : ¬ j < σ.length := fun l => c ⟨d, l⟩
      rw [List.getElem?_eq_none (by omega), List.getElem?_eq_none (by omega)]
    · rw [b.2 j (fun m => d (h j m)), wipe_get, if_neg c]
/-! ### what a loop walks -/
/-- J yields the data xs, as long as nothing shared changes -/
def ItOk (K : PySem.W.Frag) (O : Addr → Bool) (H1 : Hp) (J : It) (xs : List PyData) : Prop := ∀ (i : Nat) (O' : Addr → Bool) (H' : Hp), Same (hid O H1) (hid O' H') → Dom O' H' →
  (i < xs.length → J.go i H' ∧ ∀ x H'', J.yld i H' x H'' → ∃ d, xs[i]? = some d ∧ Same H' H'' ∧ Rp K (hid O' H'') x d) ∧ (xs.length ≤ i → J.stop i H')
def tWI (K : PySem.W.Frag) (w : AD) : TI := fun σ H R => ∃ dk OB H0 O ρ n Qd, StR K dk OB H0 O H σ ρ n ∧ w ρ n Qd ∧ ∀ J H1 n1 xs, FrD dk H H1 → DkOk dk n1 H1 → ItOk K O H1 J xs → Qd xs n1 → R J H1
abbrev PDI (X : Cx) (tg iter : Expr) (w : AD) : Prop := PI X tg iter (tWI X.K w)
/-- the items of a list, a tuple, the signs of a text -/
def itemsD : PyData → Option (List PyData)
  | .list xs => some xs
  | .tuple xs => some xs
  | .str z => some (z.cps.toList.map fun c => .str ⟨#[c]⟩)
  | _ => none
def iV (w : ED) : AD := fun ρ n Q => w ρ n fun x n1 => ∃ xs, itemsD x = some xs ∧ Q xs n1
section
variable {X : Cx} {K : PySem.W.Frag} {tg : Expr}
theorem it_list {O : Addr → Bool} {H1 : Hp} {a : Addr} {us : List V} {xs : List PyData} (hd : hid O H1 a = some (.lst us)) (h : RpAll K (hid O H1) us xs) : ItOk K O H1 (Itl K a) xs := fun i O' H' s _ => by
  have q : SqL K H' a us := .inl (.inl (hid_le _ _ (s _ _ hd)))
  refine ⟨fun l => ?_, fun l => ⟨us, q, by rw [h.len]; exact l⟩⟩
  have l' : i < us.length := by rw [h.len]; exact l
  refine ⟨⟨us, us[i], q, List.getElem?_eq_getElem l'⟩, fun x H'' ⟨e, y⟩ => ?_⟩
  subst e
  obtain ⟨d, e1, e2⟩ := h.get (y us q)
  exact ⟨d, e1, Same.refl _, Rp.same s _ _ e2⟩
theorem it_tup {O : Addr → Bool} {H1 : Hp} {a : Addr} {us : List V} {xs : List PyData} (hd : SqT K (hid O H1) a us) (h : RpAll K (hid O H1) us xs) : ItOk K O H1 (Itt K a) xs := fun i O' H' s _ => by
  have q : SqT K H' a us := same_seqT hid_le (same_seqT s hd)
  refine ⟨fun l => ?_, fun l => ⟨us, q, by rw [h.len]; exact l⟩⟩
  have l' : i < us.length := by rw [h.len]; exact l
  refine ⟨⟨us, us[i], q, List.getElem?_eq_getElem l'⟩, fun x H'' ⟨e, y⟩ => ?_⟩
  subst e
  obtain ⟨d, e1, e2⟩ := h.get (y us q)
  exact ⟨d, e1, Same.refl _, Rp.same s _ _ e2⟩
theorem it_str {O : Addr → Bool} {H1 : Hp} {z : Str} : ItOk K O H1 (Its z) (z.cps.toList.map fun c => .str ⟨#[c]⟩) := fun i O' H' s _ => by
  rw [List.length_map, Array.length_toList]
  refine ⟨fun l => ⟨l, fun x H'' ⟨e, c, e1, e2⟩ => ?_⟩, fun l => l⟩
  subst e e2
  exact ⟨.str ⟨#[c]⟩, by rw [List.getElem?_map, Array.getElem?_toList, e1]; rfl, Same.refl _, .str _⟩
theorem it_rng {O : Addr → Bool} {H1 : Hp} {lo : Int} {m : Nat} : ItOk K O H1 (Itr lo m) ((List.range m).map fun (j : Nat) => .int (lo + (j : Int))) := fun i O' H' s _ => by
  rw [List.length_map, List.length_range]
  refine ⟨fun l => ⟨l, fun x H'' ⟨e, e2⟩ => ?_⟩, fun l => l⟩
  subst e e2
  exact ⟨.int (lo + i), by rw [List.getElem?_map, List.getElem?_range l]; rfl, Same.refl _, .int _⟩
def iSeq (K : PySem.W.Frag) (tl : TE) : TI := fun σ H R => tl σ H fun x H1 => (∃ a, x = .ref a ∧ (∃ xs, SqL K H1 a xs) ∧ R (Itl K a) H1) ∨ (∃ a, x = .ref a ∧ (∃ xs, SqT K H1 a xs) ∧ R (Itt K a) H1) ∨ ∃ z, x = .str z ∧ R (Its z) H1
theorem pi_seq {l : Expr} {tl : TE} (hl : PE X l tl) : PI X tg l (iSeq X.K tl) := by
  refine ⟨fun pins s σ H R I h => ?_⟩
  refine thn (hl.run pins s σ H _ I h) fun v s1 ⟨x, H1, I1, r1, q1⟩ => ?_
  rcases q1 with ⟨a, e, ⟨xs, hq⟩, q⟩ | ⟨a, e, ⟨xs, hq⟩, q⟩ | ⟨z, e, q⟩
  · subst e
    cases r1
    obtain ⟨its, rv, p, hz⟩ := I1.list hq
    refine wpAny_pyIter_list p.isList ?_
    refine ⟨s1.heap.objs.size, [s1.heap.objs.size], _, _, H1, rfl, I1.kept (t' := s1.toks) fun b o e => Heap.get?_push_of_some _ e, turn_list a _, ⟨_, Heap.get?_push_size _ rfl, rfl, rfl⟩, fun b hb => ?_, q⟩
    have e : b = s1.heap.objs.size := by simpa using hb
    subst e
    exact I1.fpOk (Nat.le_refl _) (I1.hok.fresh (Nat.le_refl _))
  · subst e
    cases r1
    obtain ⟨its, rv, p, hz⟩ := I1.tuple hq
    refine wpAny_pyIter_tuple (show s1.heap.IsTuple a its.toArray from p) ?_
    refine ⟨s1.heap.objs.size, [s1.heap.objs.size], _, _, H1, rfl, I1.kept (t' := s1.toks) fun b o e => Heap.get?_push_of_some _ e, turn_tuple a _, ⟨_, Heap.get?_push_size _ rfl, rfl, rfl⟩, fun b hb => ?_, q⟩
    have e : b = s1.heap.objs.size := by simpa using hb
    subst e
    exact I1.fpOk (Nat.le_refl _) (I1.hok.fresh (Nat.le_refl _))
  · subst e
    obtain ⟨t, rfl⟩ := r1
    cases ha : z.cps.all (· < 128)
    · exact wpAny_pyIter_wide ha (pi_one (tk := s1.toks) I1 _ (turn_str _ z t "str_iterator" (.inr rfl)) ⟨_, Heap.get?_push_size _ rfl, rfl, rfl⟩ q)
    · exact wpAny_pyIter_ascii ha (pi_one (tk := s1.toks) I1 _ (turn_str _ z t "str_ascii_iterator" (.inl rfl)) ⟨_, Heap.get?_push_size _ rfl, rfl, rfl⟩ q)
theorem qdi_mk {iter : Expr} {wi : TI} {w : AD} (h : PI X tg iter wi) (r : ∀ {dk OB H0 O H σ ρ n} {R : It → Hp → Prop} {Qd}, StR X.K dk OB H0 O H σ ρ n → w ρ n Qd → (∀ J H1 n1 xs, FrD dk H H1 → DkOk dk n1 H1 → ItOk X.K O H1 J xs → Qd xs n1 → R J H1) → wi σ H R) : PDI X tg iter w :=
  ⟨fun pins s σ H R I ⟨_, _, _, _, _, _, _, S, hw, k⟩ => h.run pins s σ H R I (r S hw k)⟩
theorem qdi_val {e : Expr} {w : ED} (h : PD X e w) : PDI X tg e (iV w) := qdi_mk (pi_seq h) fun S hw k => rd_W S hw fun v d H1 n1 f1 d1 r1 ⟨xs, e, q⟩ => by
  cases d with
  | list ds =>
    cases e
    cases r1 with
    | lst hs ha => exact .inl ⟨_, rfl, ⟨_, .inl (.inl (hid_le _ _ hs))⟩, k _ H1 n1 _ f1 d1 (it_list hs ha) q⟩
  | tuple ds =>
    cases e
    cases r1 with
    | tup hs ha _ => exact .inr (.inl ⟨_, rfl, ⟨_, same_seqT hid_le hs⟩, k _ H1 n1 _ f1 d1 (it_tup hs ha) q⟩)
  | str z =>
    cases e
    cases r1
    exact .inr (.inr ⟨z, rfl, k _ H1 n1 _ f1 d1 it_str q⟩)
  | _ => cases e
def rangeD (m : Int) : List PyData := (List.range m.toNat).map fun (j : Nat) => .int (0 + (j : Int))
def iR (w : AD) : AD := fun ρ n Q => w ρ n fun xs n1 => ∃ m : Int, xs = [.int m] ∧ -(2 ^ 62) ≤ m ∧ m < 2 ^ 62 ∧ Q (rangeD m) n1
theorem qdi_range {a : Expr} {w : AD} {p pos : Pos} (hg : Gl X "range") (hm : X.mg "range" = none) (ha : PDA X [a] w) (hs : starEach [a] X.env = [(false, eval a X.env)] := by rfl) : PDI X tg (.Call (.Name "range" p) [a] [] pos) (iR w) := qdi_mk (pi_range1 hg hm ha hs) fun S hw k => rda_W S hw fun vs ds H1 n1 f1 d1 r1 ⟨m, e, l1, l2, q⟩ => by
  subst e
  cases r1 with
  | cons a b =>
    cases a
    cases b
    exact ⟨m, rfl, l1, l2, k _ H1 n1 _ f1 d1 it_rng q⟩
end
end My

/-! PDd: list comprehensions and statements over data, promises of defs -/
namespace My
open PySem PySem.Spec PyProof.Rows L2
section
variable {K : PySem.W.Frag} {dk : Option DkI} {OB : Addr → Bool} {H0 : Hp} {O : Addr → Bool} {H H' : Hp} {σ : L2.St} {ρ : DEnv} {n n' : Nat}
theorem StR.nohold (S : StR K dk OB H0 O H σ ρ n) {p : Addr} (np : H p = none) : ∀ (j : Nat) (y : Sv), ρ[j]? = some (some y) → y.own = true → σ[j]? ≠ some (some (.ref p)) := fun j y e oy es => by
  obtain ⟨v, z1, z2⟩ := S.sl j y e
  rw [es] at z1
  cases z1
  cases y with
  | d x => cases oy
  | l xs =>
    obtain ⟨q, vs, z, h1, h2, h3, h4, h5⟩ := z2
    cases z
    rw [np] at h4
    cases h4
  | k xs =>
    obtain ⟨q, vs, z, h1, h2, h3, h4, h5⟩ := z2
    cases z
    rw [np] at h4
    cases h4
  | dk => cases oy
/-- an owned object that no name holds is changed -/
theorem StR.touch (S : StR K dk OB H0 O H σ ρ n) {p : Addr} {o : HO} (hO : O p = true) (h0 : H0 p = none) (hd : NotDk dk p) (nt : NoTup o) (free : ∀ (j : Nat) (y : Sv), ρ[j]? = some (some y) → y.own = true → σ[j]? ≠ some (some (.ref p))) : StR K dk OB H0 O (upd H p o) σ ρ n where
  len := S.len
  ob := S.ob
  od := S.od
  dom := fun b h => by
    by_cases c : b = p
    · rw [c]
      exact ⟨o, upd_same, nt⟩
    · rw [upd_ne c]
      exact S.dom b h
  dkO := S.dkO
  fr := fun b u h e => by
    rw [upd_ne (fun z => by rw [z, h0] at e; cases e)]
    exact S.fr b u h e
  dok := S.dok.upd hd
  sl := fun j y e => by
    obtain ⟨v, e1, e2⟩ := S.sl j y e
    refine ⟨v, e1, ?_⟩
    cases y with
    | d x =>
      show Rp K (My.hid O (upd H p o)) v x
      rw [hid_upd hO]
      exact e2
    | l xs =>
      obtain ⟨q, vs, rfl, h1, h2, h3, h4, h5⟩ := e2
      refine ⟨q, vs, rfl, h1, h2, h3, ?_, by rw [hid_upd hO]; exact h5⟩
      rw [upd_ne (fun z => free j (.l xs) e rfl (by rw [← z]; exact e1))]
      exact h4
    | k xs =>
      obtain ⟨q, vs, rfl, h1, h2, h3, h4, h5⟩ := e2
      refine ⟨q, vs, rfl, h1, h2, h3, ?_, by rw [hid_upd hO]; exact h5⟩
      rw [upd_ne (fun z => free j (.k xs) e rfl (by rw [← z]; exact e1))]
      exact h4
    | dk => exact e2
  dis := S.dis
/-- an owned list becomes shared -/
def rem (O : Addr → Bool) (p : Addr) : Addr → Bool := fun b => O b && !decide (b = p)
theorem rem_of {O : Addr → Bool} {p b : Addr} (h : rem O p b = true) : O b = true := by
  unfold rem at h
  rw [Bool.and_eq_true] at h
  exact h.1
theorem rem_ne {O : Addr → Bool} {p b : Addr} (h : O b = true) (n : b ≠ p) : rem O p b = true := by
  unfold rem
  rw [h, decide_eq_false n]
  rfl
theorem rem_self {O : Addr → Bool} {p : Addr} : rem O p p = false := by
  unfold rem
  rw [decide_eq_true rfl]
  simp
theorem StR.give (S : StR K dk OB H0 O H σ ρ n) {i : Nat} {p : Addr} {s : Sv} {x : PyData} (hr : ρ[i]? = some (some s)) (ho : s.own = true) (hs : σ[i]? = some (some (.ref p))) (h0 : H0 p = none) (new : Rp K (My.hid (rem O p) H) (.ref p) x) : StR K dk OB H0 (rem O p) H σ (ρ.set i (some (.d x))) n where
  len := by rw [List.length_set, S.len]
  ob := fun b h => rem_ne (S.ob b h) fun e => S.od.ne h (by rw [e]; exact h0)
  od := S.od
  dom := fun b h => S.dom b (rem_of h)
  dkO := S.dkO
  fr := S.fr
  dok := S.dok
  sl := fun j y e => by
    have li : i < ρ.length := (List.getElem?_eq_some_iff.mp hr).1
    by_cases c : i = j
    · subst c
      rw [List.getElem?_set_self li] at e
      cases e
      exact ⟨_, hs, new⟩
    · rw [List.getElem?_set_ne c] at e
      obtain ⟨v, e1, e2⟩ := S.sl j y e
      have sm : Same (My.hid O H) (My.hid (rem O p) H) := hid_sub fun b h => rem_of h
      refine ⟨v, e1, ?_⟩
      cases y with
      | d x => exact Rp.same sm _ _ e2
      | l xs =>
        obtain ⟨q, vs, rfl, h1, h2, h3, h4, h5⟩ := e2
        exact ⟨q, vs, rfl, rem_ne h1 fun z => S.dis i j p s (.l xs) c hr e ho rfl hs (by rw [← z]; exact e1), h2, h3, h4, RpAll.same sm _ _ h5⟩
      | k xs =>
        obtain ⟨q, vs, rfl, h1, h2, h3, h4, h5⟩ := e2
        exact ⟨q, vs, rfl, rem_ne h1 fun z => S.dis i j p s (.k xs) c hr e ho rfl hs (by rw [← z]; exact e1), h2, h3, h4, RpKvs.same sm _ _ h5⟩
      | dk => exact e2
  dis := fun a b q u w ne e1 e2 o1 o2 f1 f2 => by
    have li : i < ρ.length := (List.getElem?_eq_some_iff.mp hr).1
    have z : ∀ {j : Nat} {y : Sv}, (ρ.set i (some (.d x)))[j]? = some (some y) → y.own = true → ρ[j]? = some (some y) := fun {j y} e o => by
      by_cases c : i = j
      · subst c
        rw [List.getElem?_set_self li] at e
        cases e
        cases o
      · rw [List.getElem?_set_ne c] at e
        exact e
    exact S.dis a b q u w ne (z e1 o1) (z e2 o2) o1 o2 f1 f2
end
/-! ### list comprehensions -/
def lcD (g : GD) (p : TD) (e : ED) (ρ0 : DEnv) : List PyData → List PyData → M (List PyData)
  | [], acc => fun n Q => Q acc n
  | x :: xs, acc => fun n Q => ∃ ρ', g x ρ0 = some ρ' ∧ p ρ' n fun b n1 => if b = true then e ρ' n1 fun y n2 => lcD g p e ρ0 xs (acc ++ [y]) n2 Q else lcD g p e ρ0 xs acc n1 Q
def eLc (it : AD) (g : GD) (p : TD) (e : ED) (own : List Nat) : ED := fun ρ n Q => it ρ n fun xs n1 => xs.length ≤ lim ∧ lcD g p e (wipeD ρ own) xs [] n1 fun ys n2 => Q (.list ys) n2
def bYes : TD := fun _ n Q => Q true n
section
variable {X : Cx}
theorem qts_nil : PTs X [] (tWT X.K bYes) := ⟨fun pins s σ H Q I ⟨_, _, _, _, _, _, _, S, hw, k⟩ => pts_nil.run pins s σ H Q I (k _ H _ (FrD.refl H) S.dok hw)⟩
theorem qts_one {c : Expr} {w : TD} (h : PDT X c w) : PTs X [c] (tWT X.K w) := pts_one h
theorem rd_lc {K : PySem.W.Frag} {it : AD} {g : GD} {p : TD} {e : ED} {own vs : List Nat} (hvs : ∀ i ∈ vs, i ∈ own) : RdE K (tLc (tWI K it) (tWG K vs g) (tWT K p) (tW K e) own) (eLc it g p e own) := by
  intro dk OB H0 O H σ ρ n Q Qd S hw k
  refine ⟨dk, OB, H0, O, ρ, n, _, S, hw, fun J H1 n1 xs f1 d1 io hq D nD => ?_⟩
  obtain ⟨ll, q1⟩ := hq
  have S1 := S.step f1 d1
  have SA := S1.acc (o := .lst []) nD nt_lst
  have nd : NotDk dk D := d1.new nD
  have nA : ¬ dkA dk D := fun ⟨E, e1, e2⟩ => (nd E e1).1 e2
  have h0 := S1.fresh nD
  have free := S1.nohold nD
  have oD : add O D D = true := add_self
  let Wt : Nat → Hp → Prop := fun i H2 => ∃ us acc n2, H2 D = some (.lst us) ∧ RpAll K (hid (add O D) H2) us acc ∧ acc.length ≤ i ∧ StR K dk OB H0 (add O D) H2 σ ρ n2 ∧ Same (hid O H1) (hid (add O D) H2) ∧ FrD dk H1 H2 ∧ lcD g p e (wipeD ρ own) (xs.drop i) acc n2 fun ys n2 => Qd (.list ys) n2
  refine ⟨fun i m H2 => m = xs.length - i ∧ i ≤ xs.length ∧ Wt i H2, ⟨xs.length, by simp, Nat.zero_le _, [], [], n1, upd_same, .nil, Nat.le_refl _, SA, by rw [hid_add nD]; exact Same.refl _, FrD.of (same_new nD), q1⟩, ?_⟩
  rintro i m H2 ⟨rfl, hi, us, acc, n2, hD, rA, la, S2, s2, f2, q2⟩
  have itr := io i (add O D) H2 s2 S2.dom
  by_cases hlt : i < xs.length
  · obtain ⟨go, yl⟩ := itr.1 hlt
    refine .inr ⟨go, Wt (i + 1), fun H' w => ⟨xs.length - (i + 1), by omega, rfl, hlt, w⟩, fun x H3 y => ?_⟩
    obtain ⟨d, ed, s3, rx⟩ := yl x H3 y
    have ex : xs.drop i = d :: xs.drop (i + 1) := by
      rw [List.drop_eq_getElem_cons hlt]
      congr 1
      rw [List.getElem?_eq_getElem hlt] at ed
      exact Option.some.inj ed
    rw [ex] at q2
    obtain ⟨ρ', eg, q3⟩ := q2
    have S3 := S2.step (FrD.of s3) (S2.dok.same s3)
    refine ⟨dk, OB, H0, add O D, wipeD ρ own, n2, d, ρ', S3.wipe own, rx, eg, fun σ2 b2 S4 => ⟨wipe_but hvs b2, dk, OB, H0, add O D, ρ', n2, _, S4, q3, fun b H4 n3 f4 d4 q4 => ?_⟩⟩
    cases b with
    | true =>
      refine (if_pos rfl).mpr ⟨dk, OB, H0, add O D, ρ', n3, _, S4.step f4 d4, (if_pos rfl).mp q4, fun y' dy H5 n4 f5 d5 r5 q5 => ?_⟩
      have f25 : FrD dk H2 H5 := ((FrD.of s3).trans f4).trans f5
      have hD5 := f25 _ _ nA hD
      have S5 := S2.step f25 d5
      have s25 := hid_fr S2.dO f25
      refine ⟨us, hD5, ?_, us ++ [y'], acc ++ [dy], n4, upd_same, ?_, by rw [List.length_append]; exact Nat.succ_le_succ la, S5.touch oD h0 nd nt_lst free, ?_, ?_, q5⟩
      · have z := lim_le
        rw [rA.len]
        omega
      · rw [hid_upd oD]
        exact RpAll.app (RpAll.same s25 _ _ rA) (.cons r5 .nil)
      · rw [hid_upd oD]
        exact s2.trans s25
      · exact fun b o h z => by
          rw [upd_ne (ne_of_none z nD)]
          exact f25 _ _ h (f2 _ _ h z)
    | false =>
      have f24 : FrD dk H2 H4 := (FrD.of s3).trans f4
      have s24 := hid_fr S2.dO f24
      exact (if_neg Bool.false_ne_true).mpr ⟨us, acc, n3, f24 _ _ nA hD, RpAll.same s24 _ _ rA, by omega, S2.step f24 d4, s2.trans s24, f2.trans f24, (if_neg Bool.false_ne_true).mp q4⟩
  · have e : i = xs.length := by omega
    subst e
    rw [List.drop_length] at q2
    exact .inl ⟨itr.2 (Nat.le_refl _), k _ _ H2 n2 (f1.trans f2) S2.dok (.lst (hid_at (S1.dom.new nD) hD) (RpAll.same (hid_sub fun b h => add_of h) _ _ rA)) q2⟩
theorem qd_lc {elt tg iter : Expr} {ifs : List Expr} {scope : Scope} {own : List (Str × Nat)} {pos : Pos} {it : AD} {g : GD} {p : TD} {e : ED} {vs : List Nat} (hc : X.calm = true) (hN : X.N.Nodup) (hi : PDI X tg iter it) (ok : BlkOk X.N X.env.scope scope own) (hvs : ∀ i ∈ vs, i ∈ own.map (·.2))
    (hg : ∀ (s : Shared) (H : Hp) (C : Addr) (cl : List (Str × Addr)) (fp : List Addr), PDG (X.blk s H scope (compEnvC scope cl C X.env) fp) tg vs g) (ht : ∀ (s : Shared) (H : Hp) (C : Addr) (cl : List (Str × Addr)) (fp : List Addr), PTs (X.blk s H scope (compEnvC scope cl C X.env) fp) ifs (tWT X.K p))
    (he : ∀ (s : Shared) (H : Hp) (C : Addr) (cl : List (Str × Addr)) (fp : List Addr), PD (X.blk s H scope (compEnvC scope cl C X.env) fp) elt e) (hs : ∀ x, foldedSetIterable iter X.env x = pure x := by intro _; rfl) :
    PD X (.ListComp elt [⟨tg, iter, ifs, 0⟩] scope pos) (eLc it g p e (own.map (·.2))) := qd_mk (pe_lc hc hN hi ok hg ht he hs) (rd_lc hvs)
end
/-! ### statements -/
structure EndsD where
  nx : DEnv → Nat → Prop
  rt : PyData → Nat → Prop
  bk : DEnv → Nat → Prop
  ct : DEnv → Nat → Prop
abbrev SD := DEnv → Nat → EndsD → Prop
structure EndOk (K : PySem.W.Frag) (dk : Option DkI) (OB : Addr → Bool) (H0 : Hp) (O : Addr → Bool) (H : Hp) (E : EndsD) (D : Ends) : Prop where
  nx : ∀ O' H' σ' ρ' n', StR K dk OB H0 O' H' σ' ρ' n' → Same (hid O H) (hid O' H') → E.nx ρ' n' → D.nx σ' H'
  rt : ∀ v d H' n', FrD dk H0 H' → DkOk dk n' H' → Rp K (hid OB H') v d → E.rt d n' → D.rt v H'
  bk : ∀ O' H' σ' ρ' n', StR K dk OB H0 O' H' σ' ρ' n' → Same (hid O H) (hid O' H') → E.bk ρ' n' → D.bk σ' H'
  ct : ∀ O' H' σ' ρ' n', StR K dk OB H0 O' H' σ' ρ' n' → Same (hid O H) (hid O' H') → E.ct ρ' n' → D.ct σ' H'
theorem EndOk.mono {K : PySem.W.Frag} {dk : Option DkI} {OB : Addr → Bool} {H0 : Hp} {O O1 : Addr → Bool} {H H1 : Hp} {E : EndsD} {D : Ends} (h : EndOk K dk OB H0 O H E D) (s : Same (hid O H) (hid O1 H1)) : EndOk K dk OB H0 O1 H1 E D :=
  ⟨fun O' H' σ' ρ' n' S s' q => h.nx O' H' σ' ρ' n' S (s.trans s') q, h.rt, fun O' H' σ' ρ' n' S s' q => h.bk O' H' σ' ρ' n' S (s.trans s') q, fun O' H' σ' ρ' n' S s' q => h.ct O' H' σ' ρ' n' S (s.trans s') q⟩
def tWS (K : PySem.W.Frag) (w : SD) : TS := fun D σ H => ∃ dk OB H0 O ρ n E, StR K dk OB H0 O H σ ρ n ∧ w ρ n E ∧ EndOk K dk OB H0 O H E D
abbrev PSD (X : Cx) (st : Stmt) (w : SD) : Prop := PS X st (tWS X.K w)
abbrev PSDs (X : Cx) (sts : List Stmt) (w : SD) : Prop := PSs X sts (tWS X.K w)
section
variable {X : Cx}
theorem qs_mk {st : Stmt} {t : TS} {w : SD} (h : PS X st t) (r : ∀ {dk OB H0 O H σ ρ n E D}, StR X.K dk OB H0 O H σ ρ n → w ρ n E → EndOk X.K dk OB H0 O H E D → t D σ H) : PSD X st w := ⟨fun pins s σ H D I ⟨_, _, _, _, _, _, _, S, hw, k⟩ => h.run pins s σ H D I (r S hw k)⟩
theorem qss_mk {sts : List Stmt} {t : TS} {w : SD} (h : PSs X sts t) (r : ∀ {dk OB H0 O H σ ρ n E D}, StR X.K dk OB H0 O H σ ρ n → w ρ n E → EndOk X.K dk OB H0 O H E D → t D σ H) : PSDs X sts w := ⟨fun pins s σ H D I ⟨_, _, _, _, _, _, _, S, hw, k⟩ => h.run pins s σ H D I (r S hw k)⟩
def sNil : SD := fun ρ n E => E.nx ρ n
def sSeq (a b : SD) : SD := fun ρ n E => a ρ n { E with nx := fun ρ' n' => b ρ' n' E }
theorem qss_nil : PSDs X [] sNil := qss_mk pss_nil fun S hw k => k.nx _ _ _ _ _ S (Same.refl _) hw
theorem qss_cons {st : Stmt} {rest : List Stmt} {a b : SD} (h1 : PSD X st a) (h2 : PSDs X rest b) : PSDs X (st :: rest) (sSeq a b) := qss_mk (pss_cons h1 h2) fun S hw k =>
  ⟨_, _, _, _, _, _, _, S, hw, fun O' H' σ' ρ' n' S' s q => ⟨_, _, _, _, _, _, _, S', q, k.mono s⟩, k.rt, k.bk, k.ct⟩
theorem qss_one {st : Stmt} {a : SD} (h : PSD X st a) : PSDs X [st] a := qss_mk (pss_one h) fun S hw k => ⟨_, _, _, _, _, _, _, S, hw, k⟩
def sSet (i : Nat) (e : ED) : SD := fun ρ n E => e ρ n fun x n1 => E.nx (ρ.set i (some (.d x))) n1
theorem qs_set {i : Nat} {x : Str} {e : Expr} {w : ED} {pos pos' : Pos} (hN : X.N.Nodup) (hi : X.N[i]? = some x) (hx : Loc X.env.scope x) (he : PD X e w) (hs : swapsWith e (some (.Name x pos')) pos.line X.env = pure false := by rfl)
    (hf : X.fn x = true ∨ X.env.scope.names.lookup x = some .local := by first | exact .inl rfl | exact .inr rfl | assumption) : PSD X (.Assign [.Name x pos'] e pos) (sSet i w) := qs_mk (ps_set hN hi hx he hs hf) fun S hw k => rd_W S hw fun v d H1 n1 f1 d1 r1 q1 =>
  k.nx _ _ _ _ _ ((S.step f1 d1).set r1) (S.hid f1) q1
theorem qs_setLc {i : Nat} {y : Str} {py : Pos} {elt tg iter : Expr} {ifs : List Expr} {scope : Scope} {own : List (Str × Nat)} {pos spos : Pos} {it : AD} {g : GD} {p : TD} {e : ED} {vs : List Nat} (hc : X.calm = true) (hN : X.N.Nodup) (hy : X.N[i]? = some y) (hyl : X.env.scope.names.lookup y = some .local)
    (hsw : swapsWith (.ListComp elt [⟨tg, iter, ifs, 0⟩] scope pos) (some (.Name y py)) spos.line X.env = pure true) (hi : PDI X tg iter it) (ok : BlkOk X.N X.env.scope scope own) (hvs : ∀ i ∈ vs, i ∈ own.map (·.2))
    (hg : ∀ (s : Shared) (H : Hp) (C : Addr) (cl : List (Str × Addr)) (fp : List Addr), PDG (X.blk s H scope (compEnvC scope cl C X.env) fp) tg vs g) (ht : ∀ (s : Shared) (H : Hp) (C : Addr) (cl : List (Str × Addr)) (fp : List Addr), PTs (X.blk s H scope (compEnvC scope cl C X.env) fp) ifs (tWT X.K p))
    (he : ∀ (s : Shared) (H : Hp) (C : Addr) (cl : List (Str × Addr)) (fp : List Addr), PD (X.blk s H scope (compEnvC scope cl C X.env) fp) elt e) (hs : ∀ x, foldedSetIterable iter X.env x = pure x := by intro _; rfl) :
    PSD X (.Assign [.Name y py] (.ListComp elt [⟨tg, iter, ifs, 0⟩] scope pos) spos) (sSet i (eLc it g p e (own.map (·.2)))) := qs_mk (ps_setLc hc hN hy hyl hsw hi ok hg ht he hs) fun S hw k => rd_lc hvs S hw fun v d H1 n1 f1 d1 r1 q1 =>
  k.nx _ _ _ _ _ ((S.step f1 d1).set r1) (S.hid f1) q1
def sAsg (e : ED) (g : GD) : SD := fun ρ n E => e ρ n fun x n1 => ∃ ρ', g x ρ = some ρ' ∧ E.nx ρ' n1
theorem qs_asg {tg e : Expr} {w : ED} {g : GD} {vs : List Nat} {pos : Pos} (he : PD X e w) (hg : PDG X tg vs g) (hs : swapsWithSole [tg] e pos.line X.env = pure false := by rfl) (hw : swappedStores [tg] e X.env = pure none := by rfl)
    (h1 : (assignEach [tg] X.env).map (·.2) = [assign tg X.env] := by rfl) : PSD X (.Assign [tg] e pos) (sAsg w g) := qs_mk (ps_asg he hg hs hw h1) fun S hw k => rd_W S hw fun v d H1 n1 f1 d1 r1 ⟨ρ', eg, q1⟩ =>
  ⟨_, _, _, _, _, _, _, _, S.step f1 d1, r1, eg, fun σ' _ S' => k.nx _ _ _ _ _ S' (S.hid f1) q1⟩
def sRet (e : ED) : SD := fun ρ n E => e ρ n E.rt
theorem qs_ret {e : Expr} {w : ED} {pos : Pos} (he : PD X e w) : PSD X (.Return (some e) pos) (sRet w) := qs_mk (ps_ret he) fun S hw k => rd_W S hw fun v d H1 n1 f1 d1 r1 q1 => k.rt v d H1 n1 (S.fr.trans f1) d1 (Rp.same (hid_sub S.ob) _ _ r1) q1
def sIf (c : TD) (a b : SD) : SD := fun ρ n E => c ρ n fun x n1 => if x = true then a ρ n1 E else b ρ n1 E
theorem qs_if {c : Expr} {a b : List Stmt} {wc : TD} {wa wb : SD} {pos : Pos} (hc : PDT X c wc) (ha : PSDs X a wa) (hb : PSDs X b wb) : PSD X (.If c a b pos) (sIf wc wa wb) := qs_mk (ps_if hc ha hb) fun S hw k => rdt_W S hw fun b H1 n1 f1 d1 q1 => by
  cases b with
  | true => exact (if_pos rfl).mpr ⟨_, _, _, _, _, _, _, S.step f1 d1, (if_pos rfl).mp q1, k.mono (S.hid f1)⟩
  | false => exact (if_neg Bool.false_ne_true).mpr ⟨_, _, _, _, _, _, _, S.step f1 d1, (if_neg Bool.false_ne_true).mp q1, k.mono (S.hid f1)⟩
def sExpr (e : ED) : SD := fun ρ n E => e ρ n fun _ n1 => E.nx ρ n1
def sFor1 (g : GD) (b : SD) : List PyData → SD
  | [] => fun ρ n E => E.nx ρ n
  | x :: xs => fun ρ n E => ∃ ρ', g x ρ = some ρ' ∧ b ρ' n { E with nx := fun ρ2 n2 => sFor1 g b xs ρ2 n2 E, ct := fun ρ2 n2 => sFor1 g b xs ρ2 n2 E, bk := E.nx }
def sFor (it : AD) (g : GD) (b : SD) : SD := fun ρ n E => it ρ n fun xs n1 => sFor1 g b xs ρ n1 E
theorem qs_for {tg iter : Expr} {body : List Stmt} {it : AD} {g : GD} {vs : List Nat} {b : SD} {pos : Pos} (hp : PassesOwn (model X.prog X.w) X.A X.env X.xe) (hc : X.calm = true) (hi : PDI X tg iter it) (hg : PDG X tg vs g) (hb : PSDs X body b)
    (hs : ∀ x, foldedSetIterable iter X.env x = pure x := by intro _; rfl) : PSD X (.For tg iter body [] pos) (sFor it g b) := qs_mk (ps_for hp hc hi hg hb hs) (by
  intro dk OB H0 O H σ ρ n E D S hw k
  refine ⟨dk, OB, H0, O, ρ, n, _, S, hw, fun J H1 n1 xs f1 d1 io q1 => ?_⟩
  have k1 := k.mono (S.hid f1)
  let Wt : Nat → L2.St → Hp → Prop := fun i σ2 H2 => ∃ O2 ρ2 n2, StR X.K dk OB H0 O2 H2 σ2 ρ2 n2 ∧ Same (hid O H1) (hid O2 H2) ∧ sFor1 g b (xs.drop i) ρ2 n2 E
  refine ⟨fun i m σ2 H2 => m = xs.length - i ∧ i ≤ xs.length ∧ Wt i σ2 H2, ⟨xs.length, by simp, Nat.zero_le _, O, ρ, n1, S.step f1 d1, Same.refl _, q1⟩, ?_⟩
  rintro i m σ2 H2 ⟨rfl, hi, O2, ρ2, n2, S2, s2, q2⟩
  have itr := io i O2 H2 s2 S2.dom
  by_cases hlt : i < xs.length
  · obtain ⟨go, yl⟩ := itr.1 hlt
    refine .inr ⟨go, Wt (i + 1), fun σ' H' w => ⟨xs.length - (i + 1), by omega, rfl, hlt, w⟩, fun x H3 y => ?_⟩
    obtain ⟨d, ed, s3, rx⟩ := yl x H3 y
    have ex : xs.drop i = d :: xs.drop (i + 1) := by
      rw [List.drop_eq_getElem_cons hlt]
      congr 1
      rw [List.getElem?_eq_getElem hlt] at ed
      exact Option.some.inj ed
    rw [ex] at q2
    obtain ⟨ρ', eg, q3⟩ := q2
    have S3 := S2.step (FrD.of s3) (S2.dok.same s3)
    have s23 := hid_same (O := O2) s3
    refine ⟨dk, OB, H0, O2, ρ2, n2, d, ρ', S3, rx, eg, fun σ4 b4 S4 => ⟨dk, OB, H0, O2, ρ', n2, _, S4, q3, ?_, k.rt, ?_, ?_⟩⟩
    · exact fun O' H' σ' ρ'' n' S' s' q => ⟨O', ρ'', n', S', (s2.trans s23).trans s', q⟩
    · exact fun O' H' σ' ρ'' n' S' s' q => k1.nx O' H' σ' ρ'' n' S' ((s2.trans s23).trans s') q
    · exact fun O' H' σ' ρ'' n' S' s' q => ⟨O', ρ'', n', S', (s2.trans s23).trans s', q⟩
  · have e : i = xs.length := by omega
    subst e
    rw [List.drop_length] at q2
    exact .inl ⟨itr.2 (Nat.le_refl _), k1.nx O2 H2 σ2 ρ2 n2 S2 s2 q2⟩)
/-! ### a list of one's own -/
def sNewL (i : Nat) : SD := fun ρ n E => E.nx (ρ.set i (some (.l []))) n
theorem qs_newL {i : Nat} {x : Str} {pos pos' p1 : Pos} (hN : X.N.Nodup) (hi : X.N[i]? = some x) (hx : Loc X.env.scope x) (hs : swapsWith (.List [] p1) (some (.Name x pos')) pos.line X.env = pure false := by rfl)
    (hf : X.fn x = true ∨ X.env.scope.names.lookup x = some .local := by first | exact .inl rfl | exact .inr rfl | assumption) : PSD X (.Assign [.Name x pos'] (.List [] p1) pos) (sNewL i) := qs_mk (ps_set hN hi hx (pe_lst pa_nil) hs hf) fun {dk OB H0 O H σ ρ n E D} S hw k => by
  refine ⟨Nat.zero_le _, fun p np => ?_⟩
  refine k.nx (add O p) _ _ _ n (S.new np (s := .l []) rfl nt_lst ⟨p, [], rfl, add_self, S.fresh np, S.dok.new np, upd_same, .nil⟩) ?_ hw
  rw [hid_add np]
  exact Same.refl _
def sApp (i : Nat) (e : ED) : SD := fun ρ n E => ∃ xs, ρ[i]? = some (some (.l xs)) ∧ e ρ n fun x n1 => xs.length < lim ∧ E.nx (ρ.set i (some (.l (xs ++ [x])))) n1
theorem qs_app {i : Nat} {y : Str} {e : Expr} {w : ED} {p1 p2 p3 pos : Pos} (hN : X.N[i]? = some y) (he : PD X e w) (hs : starEach [e] X.env = (false, eval e X.env) :: starEach [] X.env := by rfl)
    (hv : Vis X.env.scope y := by first | exact Or.inl rfl | exact Or.inr (Or.inl rfl) | exact Or.inr (Or.inr rfl)) (hd : (y == ("__debug__" : Str)) = false := by decide) (hcd : (y == ("__classdict__" : Str)) = false := by decide)
    (hst : PS X (.Expr (.Call (.Attribute (.Name y p1) "append" p2) [e] [] p3) pos) (tDrop (tBM X.K "list" rAppend (tVar i) (tCons (tW X.K w) tNil))) := by first | exact ps_expr (pe_bm PySem.F.plainAttrs_list PySem.F.slot_list_append PySem.F.type_list_append mt_append (pv _) (pa_cons (by assumption) pa_nil))) :
    PSD X (.Expr (.Call (.Attribute (.Name y p1) "append" p2) [e] [] p3) pos) (sApp i w) := qs_mk hst fun {dk OB H0 O H σ ρ n E D} S hw k => by
  obtain ⟨xs, e1, q⟩ := hw
  obtain ⟨v, z1, p, us, rfl, h1, h2, h3, h4, h5⟩ := S.sl _ _ e1
  refine ⟨_, z1, .inl ⟨rfl, _, .inl (.inl h4)⟩, rd_W S q fun v d H1 n1 f1 d1 r1 ⟨ll, q1⟩ => ?_⟩
  have nA : ¬ dkA dk p := fun ⟨E, e1, e2⟩ => (h3 E e1).1 e2
  have h4' := f1 _ _ nA h4
  have S1 := S.step f1 d1
  have s1 := S.hid f1
  refine ⟨p, us, v, rfl, rfl, h4', by have z := lim_le; rw [h5.len]; omega, ?_⟩
  refine k.nx O _ _ _ n1 (S1.mut e1 rfl rfl z1 h1 h2 h3 nt_lst (s' := .l (xs ++ [d])) ⟨p, _, rfl, h1, h2, h3, upd_same, ?_⟩) ?_ q1
  · rw [hid_upd h1]
    exact RpAll.app (RpAll.same s1 _ _ h5) (.cons r1 .nil)
  · rw [hid_upd h1]
    exact s1
/-- from here on the list is data like other data -/
def sGive (i : Nat) (b : SD) : SD := fun ρ n E => ∃ xs, ρ[i]? = some (some (.l xs)) ∧ b (ρ.set i (some (.d (.list xs)))) n E
theorem qss_give {sts : List Stmt} {b : SD} (i : Nat) (h : PSDs X sts b) : PSDs X sts (sGive i b) := qss_mk h fun {dk OB H0 O H σ ρ n E D} S hw k => by
  obtain ⟨xs, e1, q⟩ := hw
  obtain ⟨v, z1, p, us, rfl, h1, h2, h3, h4, h5⟩ := S.sl _ _ e1
  have sm : Same (My.hid O H) (My.hid (rem O p) H) := hid_sub fun b h => rem_of h
  exact ⟨_, _, _, rem O p, _, n, E, S.give e1 rfl z1 h2 (.lst (hid_at rem_self h4) (RpAll.same sm _ _ h5)), q, k.mono sm⟩
end
/-! ### promises of defs by data -/
def spP (K : PySem.W.Frag) (F : List PyData → Option PyData) : Sp := fun vs H Q _ => ∃ (O : Addr → Bool) (ds : List PyData) (d : PyData), Dom O H ∧ RpAll K (hid O H) vs ds ∧ F ds = some d ∧ ∀ v H', Same H H' → Rp K (hid O H') v d → Q v H'
theorem pu_fn {K : PySem.W.Frag} {F : List PyData → Option PyData} {ts : TA} {ws : AD} {E : XK} (hs : RdA K ts ws) : RdE K (tCall (spP K F) [] E ts) (eCall F ws) := fun {dk OB H0 O H σ ρ n Q Qd} S hw k =>
  hs S hw fun vs ds H1 n1 f1 d1 r1 ⟨z, ez, q⟩ => ⟨O, ds, z, (S.step f1 d1).dom, by rw [List.append_nil]; exact r1, ez, fun v H' s r => k v z H' n1 (f1.trans (FrD.of s)) (d1.same s) r q⟩
theorem qd_call {X : Cx} {CX : CXT} {k : Nat} {f : Addr} {fd : FuncData} {ps : List Str} {F : List PyData → Option PyData} {x : Str} {e : Expr} {es : List Expr} {ws : AD} {p pos : Pos} {E : XK} (G : FnOk X.prog X.w X.K X.mg X.base CX k f fd ps (spP X.K F)) (hr : Room k X.A) (hg : Gl X x) (hm : X.mg x = some (.ref f))
    (hk : PySem.W.keepIn X.K (.ref f) = true) (hb : Binds X.K fd ps []) (hx : Passes CX X E) (ha : PDA X (e :: es) ws) (hdb : (x == ("__debug__" : Str)) = false := by decide) (he : starEach (e :: es) X.env = (false, eval e X.env) :: starEach es X.env := by rfl) (hpl : (backTo pos (starEach es X.env)).any (·.1) = false := by rfl) :
    PD X (.Call (.Name x p) (e :: es) [] pos) (eCall F ws) := qd_mk (pe_call G hr hg hm hk hb .nil hx ha hdb he hpl) (pu_fn rda_W)
def startD (N : List Str) (ds : List PyData) : DEnv := ds.map (fun d => some (.d d)) ++ List.replicate (N.length - ds.length) none
theorem str_start {K : PySem.W.Frag} {O : Addr → Bool} {H : Hp} {vs : List V} {ds : List PyData} (N : List Str) (d : Dom O H) (r : RpAll K (hid O H) vs ds) : StR K none O H O H (L2.start N vs) (startD N ds) 0 where
  len := by
    unfold L2.start startD
    rw [List.length_append, List.length_append, List.length_map, List.length_map, List.length_replicate, List.length_replicate, r.len]
  ob := fun _ h => h
  od := d
  dom := d
  dkO := fun b ⟨D, e, _⟩ => by cases e
  fr := FrD.refl H
  dok := trivial
  sl := fun i s e => by
    unfold startD at e
    unfold L2.start
    by_cases l : i < ds.length
    · rw [List.getElem?_append_left (by rw [List.length_map]; exact l), List.getElem?_map] at e
      obtain ⟨x, e1, e2⟩ := Option.map_eq_some_iff.mp e
      cases e2
      obtain ⟨v, z1, z2⟩ := r.at e1
      exact ⟨v, by rw [List.getElem?_append_left (by rw [List.length_map, r.len]; exact l), List.getElem?_map, z1]; rfl, z2⟩
    · rw [List.getElem?_append_right (by rw [List.length_map]; omega), List.getElem?_replicate] at e
      split at e
      · cases e
      · cases e
  dis := fun i j p s s' ne e1 e2 o1 o2 => by
    have z : ∀ {i : Nat} {s : Sv}, (startD N ds)[i]? = some (some s) → s.own = true → False := fun {i s} e o => by
      unfold startD at e
      by_cases l : i < ds.length
      · rw [List.getElem?_append_left (by rw [List.length_map]; exact l), List.getElem?_map] at e
        obtain ⟨x, e1, e2⟩ := Option.map_eq_some_iff.mp e
        cases e2
        cases o
      · rw [List.getElem?_append_right (by rw [List.length_map]; omega), List.getElem?_replicate] at e
        split at e
        · cases e
        · cases e
    exact (z e1 o1).elim
/-- where a def ends, by data -/
def endD (d : PyData) : EndsD := ⟨fun _ _ => d = .none, fun x _ => x = d, fun _ _ => False, fun _ _ => False⟩
theorem fn_ok {P : Program} {w : World} {K : PySem.W.Frag} {mg : Str → Option Value} {base : Heap} {x qual : Str} {st : Stmt} {f : Addr} {fd : FuncData} {N ps : List Str} {k : Nat} {Fd : List PyData → Option PyData} {W : SD} (F : Fun K x qual st f fd) (S : FnScope N ps (defScope st))
    (hw : ∀ (cdv : Value) (A : Around) (outer : List Env) (s : Shared) (H : Hp) (E : XK), Room k (A.deeper (envOfC qual (defScope st) s.heap.objs.size f cdv)) → PSDs (cxOf CX0 P w K mg base N qual (defScope st) f cdv A outer s H E).nox (defBody st) W)
    (hF : ∀ ds d, Fd ds = some d → ds.length = ps.length ∧ W (startD N ds) 0 (endD d)) : FnOk P w K mg base CX0 (k + 1) f fd ps (spP K Fd) := by
  refine F.ok S (fun vs H Q E h => ?_) (fun cdv A outer s H vs Q E hr h => ?_)
  · obtain ⟨O, ds, d, _, r, e, _⟩ := h
    rw [r.len]
    exact (hF ds d e).1
  · obtain ⟨O, ds, d, dm, r, e, q⟩ := h
    refine ⟨_, hw cdv A outer s H E hr, none, O, H, O, _, 0, endD d, str_start N dm r, (hF ds d e).2, ?_⟩
    refine ⟨fun O' H' σ' ρ' n' S' s' z => ?_, fun v d' H' n' f1 _ r1 z => ?_, fun _ _ _ _ _ _ _ z => z.elim, fun _ _ _ _ _ _ _ z => z.elim⟩
    · have z' : d = .none := z
      exact q .non H' (FrD.same S'.fr) (by rw [z']; exact .non)
    · have z' : d' = d := z
      exact q v H' (FrD.same f1) (by rw [← z']; exact r1)
end My

/-! PO: what the operators and built-in functions do on data -/
namespace My
open PySem PySem.Spec PyProof.Rows L2
section
variable {K : PySem.W.Frag}
/-! ### + -/
def addD : PyData → PyData → Option PyData
  | .int i, .int j => some (.int (i + j))
  | .str a, .str b => if a.length + b.length ≤ lim then some (.str (a ++ b)) else none
  | .list xs, .list ys => if xs.length + ys.length ≤ lim then some (.list (xs ++ ys)) else none
  | .tuple xs, .tuple ys => if xs.length + ys.length ≤ lim then some (.tuple (xs ++ ys)) else none
  | _, _ => none
abbrev rAddU (K : PySem.W.Frag) : R2 := fun x y H Q => rI0 (fun i j => .int (i + j)) x y H Q ∨ (∃ i j, x = .str i ∧ y = .str j ∧ i.length + j.length ≤ sizeLine ∧ Q (.str (i ++ j)) H) ∨ rCat x y H Q ∨ rCatK K x y H Q
theorem op_addU {X : Cx} : OpR X (binaryOp .Add) (rAddU X.K) := op_add.or (op_add_str.or (op_cat.or op_catK))
theorem ite_some {α : Type} {c : Prop} [Decidable c] {a b : α} (h : (if c then some a else none) = some b) : c ∧ a = b := by
  by_cases k : c
  · rw [if_pos k] at h
    exact ⟨k, Option.some.inj h⟩
  · rw [if_neg k] at h
    cases h
theorem pu_add : Pu2 K (rAddU K) addD := by
  intro O H x y dx dy dz Q dm rx ry e k
  cases dx with
  | int i =>
    cases dy with
    | int j =>
      cases rx
      cases ry
      cases e
      exact .inl ⟨i, j, rfl, rfl, k _ H (Same.refl H) (.int _)⟩
    | _ => cases e
  | str a =>
    cases dy with
    | str b =>
      cases rx
      cases ry
      obtain ⟨c, e⟩ := ite_some e
      subst e
      exact .inr (.inl ⟨a, b, rfl, rfl, Nat.le_trans c lim_le, k _ H (Same.refl H) (.str _)⟩)
    | _ => cases e
  | list xs =>
    cases dy with
    | list ys =>
      obtain ⟨c, e⟩ := ite_some e
      subst e
      cases rx with
      | lst h1 a1 =>
      cases ry with
      | lst h2 a2 =>
      refine .inr (.inr (.inl ⟨_, _, _, _, rfl, rfl, hid_le _ _ h1, hid_le _ _ h2, by rw [a1.len, a2.len]; exact Nat.le_trans c lim_le, fun p np => ?_⟩))
      exact k _ _ (same_new np) (.lst (hid_new dm np) (RpAll.same (hid_same (same_new np)) _ _ (RpAll.app a1 a2)))
    | _ => cases e
  | tuple xs =>
    cases dy with
    | tuple ys =>
      obtain ⟨c, e⟩ := ite_some e
      subst e
      have rx' := rx
      have ry' := ry
      cases rx with
      | @tup ax us _ h1 a1 _ =>
      cases ry with
      | @tup ay ws _ h2 a2 _ =>
      refine .inr (.inr (.inr ⟨_, _, us, ws, rfl, rfl, same_seqT hid_le h1, same_seqT hid_le h2, by rw [a1.len, a2.len]; exact Nat.le_trans c lim_le, fun z => ?_, fun _ z => ?_, fun _ _ p o np kt => ?_⟩))
      · subst z
        cases a1
        exact k _ H (Same.refl H) ry'
      · subst z
        cases a2
        rw [List.append_nil] at k
        exact k _ H (Same.refl H) rx'
      · exact k _ _ (same_new np) (.tup (kt.rd (hid_new dm np)) (RpAll.same (hid_same (same_new np)) _ _ (RpAll.app a1 a2)) fun _ => kt.pl (hid_new dm np))
    | _ => cases e
  | _ => cases e
def subD : PyData → PyData → Option PyData
  | .int i, .int j => some (.int (i - j))
  | _, _ => none
/-- operators of two whole numbers -/
theorem pu_int {g : Int → Int → V} {f : PyData → PyData → Option PyData} (h : ∀ dx dy dz, f dx dy = some dz → ∃ i j, dx = .int i ∧ dy = .int j ∧ ∀ H, Rp K H (g i j) dz) : Pu2 K (rI0 g) f := by
  intro O H x y dx dy dz Q dm rx ry e k
  obtain ⟨i, j, rfl, rfl, hr⟩ := h _ _ _ e
  cases rx
  cases ry
  exact ⟨i, j, rfl, rfl, k _ H (Same.refl H) (hr _)⟩
theorem pu_sub : Pu2 K (rI0 fun i j => .int (i - j)) subD := pu_int fun dx dy dz e => by
  cases dx <;> cases dy <;> cases e
  exact ⟨_, _, rfl, rfl, fun _ => .int _⟩
def modD : PyData → PyData → Option PyData
  | .int i, .int j => if 0 < j then some (.int (i % j)) else none
  | _, _ => none
theorem pu_mod : Pu2 K (rI (fun _ j => 0 < j) fun i j => .int (i % j)) modD := by
  intro O H x y dx dy dz Q dm rx ry e k
  cases dx <;> cases dy <;> try cases e
  obtain ⟨c, e⟩ := ite_some e
  subst e
  cases rx
  cases ry
  exact ⟨_, _, rfl, rfl, c, k _ H (Same.refl H) (.int _)⟩
def fdivD : PyData → PyData → Option PyData
  | .int i, .int j => if 0 < j ∧ j < 1073741824 then some (.int (i / j)) else none
  | _, _ => none
theorem pu_fdiv : Pu2 K (rI CDiv fun i j => .int (i / j)) fdivD := by
  intro O H x y dx dy dz Q dm rx ry e k
  cases dx <;> cases dy <;> try cases e
  obtain ⟨c, e⟩ := ite_some e
  subst e
  cases rx
  cases ry
  exact ⟨_, _, rfl, rfl, c, k _ H (Same.refl H) (.int _)⟩
/-! ### comparisons -/
def ltD (p : Int → Int → Bool) : PyData → PyData → Option PyData
  | .int i, .int j => some (.bool (p i j))
  | _, _ => none
theorem pu_cmp {p : Int → Int → Bool} : Pu2 K (rI0 fun i j => .bl (p i j)) (ltD p) := pu_int fun dx dy dz e => by
  cases dx <;> cases dy <;> cases e
  exact ⟨_, _, rfl, rfl, fun _ => .bl _⟩
def notB : PyData → PyData
  | .bool b => .bool (!b)
  | x => x
def eqD (x y : PyData) : Option PyData := match x, y with
  | .str a, .str b => some (.bool (decide (a = b)))
  | .int a, .int b => some (.bool (decide (a = b)))
  | .bool a, .bool b => some (.bool (decide (a = b)))
  | .none, .none => some (.bool true)
  | x, y => if flatD x = true ∧ flatD y = true ∧ SeqAt.shaped x = true ∧ SeqAt.shaped y = true then some (.bool (PyData.eqv x y)) else none
def neD (x y : PyData) : Option PyData := (eqD x y).map notB
abbrev rEqU (K : PySem.W.Frag) : R2 := fun x y H Q => rEq x y H Q ∨ rEqD K x y H Q
abbrev rNeU (K : PySem.W.Frag) : R2 := fun x y H Q => rNe x y H Q ∨ rNeD K x y H Q
theorem op_eqU {X : Cx} (hu : X.A.units + 64 < cLine) : OpR X (compareOp .Eq) (rEqU X.K) := op_eq.or (op_eqD hu)
theorem op_neU {X : Cx} (hu : X.A.units + 64 < cLine) : OpR X (compareOp .NotEq) (rNeU X.K) := op_ne.or (op_neD hu)
/-- both at once: by == of scalars, or by data -/
theorem eq_cases {O : Addr → Bool} {H : Hp} {x y : V} {dx dy dz : PyData} (rx : Rp K (hid O H) x dx) (ry : Rp K (hid O H) y dy) (e : eqD dx dy = some dz) :
    (∃ b, dz = .bool b ∧ scal x y = true ∧ decide (x = y) = b) ∨ (∃ b, dz = .bool b ∧ Dp K H x dx ∧ Dp K H y dy ∧ SeqAt.shaped dx = true ∧ SeqAt.shaped dy = true ∧ PyData.eqv dx dy = b) := by
  have gen : (if flatD dx = true ∧ flatD dy = true ∧ SeqAt.shaped dx = true ∧ SeqAt.shaped dy = true then some (PyData.bool (PyData.eqv dx dy)) else none) = some dz → ∃ b, dz = .bool b ∧ Dp K H x dx ∧ Dp K H y dy ∧ SeqAt.shaped dx = true ∧ SeqAt.shaped dy = true ∧ PyData.eqv dx dy = b := fun z => by
    obtain ⟨⟨c1, c2, c3, c4⟩, z⟩ := ite_some z
    exact ⟨_, z.symm, Rp.dp _ _ c1 (Rp.same hid_le _ _ rx), Rp.dp _ _ c2 (Rp.same hid_le _ _ ry), c3, c4, rfl⟩
  cases dx <;> cases dy <;> first
    | exact .inr (gen e)
    | (cases rx; cases ry; cases e; refine .inl ⟨_, rfl, rfl, ?_⟩; first | rfl | simp)
theorem pu_eq : Pu2 K (rEqU K) eqD := by
  intro O H x y dx dy dz Q dm rx ry e k
  rcases eq_cases rx ry e with ⟨b, rfl, s, z⟩ | ⟨b, rfl, h1, h2, h3, h4, z⟩
  · refine .inl ⟨s, ?_⟩
    rw [z]
    exact k _ H (Same.refl H) (.bl b)
  · refine .inr ⟨dx, dy, h1, h2, h3, h4, ?_⟩
    rw [z]
    exact k _ H (Same.refl H) (.bl b)
theorem pu_ne : Pu2 K (rNeU K) neD := by
  intro O H x y dx dy dz Q dm rx ry e k
  obtain ⟨dw, ew, e⟩ := Option.map_eq_some_iff.mp e
  subst e
  rcases eq_cases rx ry ew with ⟨b, rfl, s, z⟩ | ⟨b, rfl, h1, h2, h3, h4, z⟩
  · refine .inl ⟨s, ?_⟩
    rw [z]
    exact k _ H (Same.refl H) (.bl _)
  · refine .inr ⟨dx, dy, h1, h2, h3, h4, ?_⟩
    rw [z]
    exact k _ H (Same.refl H) (.bl _)
def isNoneD : PyData → Bool
  | .none => true
  | _ => false
def isND (neg : Bool) (x y : PyData) : Option PyData := match y with
  | .none => some (.bool (if neg then !isNoneD x else isNoneD x))
  | _ => none
theorem rp_non {H : Hp} {x : V} {d : PyData} (h : Rp K H x d) : decide (x = .non) = isNoneD d := by
  cases h <;> first | rfl | (exact decide_eq_false (fun z => by cases z))
theorem pu_isN : Pu2 K (fun x y H Q => y = .non ∧ Q (.bl (decide (x = .non))) H) (isND false) := by
  intro O H x y dx dy dz Q dm rx ry e k
  cases dy <;> cases e
  cases ry
  refine ⟨rfl, ?_⟩
  rw [rp_non rx]
  exact k _ H (Same.refl H) (.bl _)
theorem pu_notN : Pu2 K (fun x y H Q => y = .non ∧ Q (.bl (!decide (x = .non))) H) (isND true) := by
  intro O H x y dx dy dz Q dm rx ry e k
  cases dy <;> cases e
  cases ry
  refine ⟨rfl, ?_⟩
  rw [rp_non rx]
  exact k _ H (Same.refl H) (.bl _)
/-! ### in -/
def scalD : PyData → Bool
  | .none => true
  | .bool _ => true
  | .int _ => true
  | .str _ => true
  | _ => false
/-- == of scalars -/
def eqS : PyData → PyData → Bool
  | .none, .none => true
  | .bool a, .bool b => a == b
  | .bool a, .int b => (if a then 1 else 0) == b
  | .int a, .bool b => a == (if b then 1 else 0)
  | .int a, .int b => a == b
  | .str a, .str b => a == b
  | _, _ => false
def deepD (x y : PyData) : Bool := flatD x && flatD y && SeqAt.shaped x && SeqAt.shaped y
def inDs (neg : Bool) (x : PyData) (ys : List PyData) (y : PyData) : Option PyData := if scalD x = true ∧ ys.all scalD = true then some (.bool (if neg then !ys.any (fun z => eqS z x) else ys.any (fun z => eqS z x))) else
      if deepD x y = true then some (.bool (if neg then !ys.any (fun z => PyData.eqv z x) else ys.any fun z => PyData.eqv z x)) else none
def inD (neg : Bool) (x y : PyData) : Option PyData := match y with
  | .list ys => inDs neg x ys (.list ys)
  | .tuple ys => inDs neg x ys (.tuple ys)
  | .str z => match x with
    | .str a => if a.cps.size = 1 then some (.bool (if neg then !decide (a.cps.getD 0 0 ∈ z.cps.toList) else decide (a.cps.getD 0 0 ∈ z.cps.toList))) else none
    | _ => none
  | _ => none
theorem rp_flat {H : Hp} {x : V} {d : PyData} (h : Rp K H x d) : flatV x = scalD d := by cases h <;> rfl
theorem rps_flat {H : Hp} : ∀ {xs : List V} {ds : List PyData}, RpAll K H xs ds → xs.all flatV = ds.all scalD
  | _, _, .nil => rfl
  | _, _, .cons h t => by rw [List.all_cons, List.all_cons, rp_flat h, rps_flat t]
theorem rp_eqV {H : Hp} {x y : V} {d e : PyData} (h : Rp K H x d) (g : Rp K H y e) : eqV x y = eqS d e := by
  cases h <;> cases g <;> rfl
theorem rps_in {H : Hp} {x : V} {d : PyData} (h : Rp K H x d) : ∀ {xs : List V} {ds : List PyData}, RpAll K H xs ds → inV x xs = ds.any fun z => eqS z d
  | _, _, .nil => rfl
  | _, _, .cons g t => by
    have ih := rps_in h t
    unfold inV at ih ⊢
    rw [List.any_cons, List.any_cons, rp_eqV g h, ih]
def rDp (K : PySem.W.Frag) (neg : Bool) : R2 := fun x y H Q => ∃ d e ds, (e = .list ds ∨ e = .tuple ds) ∧ Dp K H x d ∧ Dp K H y e ∧ SeqAt.shaped d = true ∧ SeqAt.shaped e = true ∧ Q (.bl (if neg then !ds.any (fun z => PyData.eqv z d) else ds.any fun z => PyData.eqv z d)) H
abbrev rInU (K : PySem.W.Frag) : R2 := fun x y H Q => rIn K false x y H Q ∨ (∃ (c : Nat) (z : Str), x = .str ⟨#[c]⟩ ∧ y = .str z ∧ Q (.bl (decide (c ∈ z.cps.toList))) H) ∨ rDp K false x y H Q
abbrev rNotInU (K : PySem.W.Frag) : R2 := fun x y H Q => rIn K true x y H Q ∨ (∃ (c : Nat) (z : Str), x = .str ⟨#[c]⟩ ∧ y = .str z ∧ Q (.bl (!decide (c ∈ z.cps.toList))) H) ∨ rDp K true x y H Q
theorem str_one {a : Str} (h : a.cps.size = 1) : a = ⟨#[a.cps.getD 0 0]⟩ := by
  obtain ⟨c⟩ := a
  obtain ⟨l⟩ := c
  match l, h with
  | [c], _ => rfl
theorem seq_in {O : Addr → Bool} {H : Hp} {a : Addr} {us : List V} {ys : List PyData} {x : V} {dx : PyData} {neg : Bool} {Q : VK} (hs : SqL K H a us ∨ SqT K H a us) (ha : RpAll K (hid O H) us ys) (rx : Rp K (hid O H) x dx) (c : scalD dx = true ∧ ys.all scalD = true)
    (k : Q (.bl (if neg then !ys.any (fun z => eqS z dx) else ys.any (fun z => eqS z dx))) H) : rIn K neg x (.ref a) H Q := by
  refine ⟨a, us, rfl, hs, by rw [rp_flat rx]; exact c.1, by rw [rps_flat ha]; exact c.2, ?_⟩
  rw [rps_in rx ha]
  exact k
end
section
variable {X : Cx} {K : PySem.W.Frag}
theorem op_inU (hu : X.A.units + 65 < cLine) : OpR X (compareOp .In) (rInU X.K) := op_in_seq.or (op_in_sign.or (by
  intro pins s σ H x y v u Q I rx ry h
  obtain ⟨d, e, ds, ee, hd, he, sd, se, q⟩ := h
  obtain ⟨as, r1⟩ := Dp.reads I d x v hd rx
  rcases ee with rfl | rfl
  · obtain ⟨bs, r2⟩ := Dp.reads I (.list ds) y u he ry
    exact SeqAt.in_list_reads r2 r1 (SeqAt.canLay_of_shaped se) (SeqAt.canLay_of_shaped sd) (room_in_shaped sd hu) ⟨.bl _, H, I, rfl, q⟩
  · obtain ⟨bs, r2⟩ := Dp.reads I (.tuple ds) y u he ry
    exact SeqAt.in_tuple_reads r2 r1 (SeqAt.canLay_of_shaped se) (SeqAt.canLay_of_shaped sd) (room_in_shaped sd hu) ⟨.bl _, H, I, rfl, q⟩))
theorem op_notInU (hu : X.A.units + 65 < cLine) : OpR X (compareOp .NotIn) (rNotInU X.K) := op_notIn_seq.or (op_notIn_sign.or (by
  intro pins s σ H x y v u Q I rx ry h
  obtain ⟨d, e, ds, ee, hd, he, sd, se, q⟩ := h
  obtain ⟨as, r1⟩ := Dp.reads I d x v hd rx
  rcases ee with rfl | rfl
  · obtain ⟨bs, r2⟩ := Dp.reads I (.list ds) y u he ry
    exact SeqAt.notIn_list_reads r2 r1 (SeqAt.canLay_of_shaped se) (SeqAt.canLay_of_shaped sd) (room_in_shaped sd hu) ⟨.bl _, H, I, rfl, q⟩
  · obtain ⟨bs, r2⟩ := Dp.reads I (.tuple ds) y u he ry
    exact SeqAt.notIn_tuple_reads r2 r1 (SeqAt.canLay_of_shaped se) (SeqAt.canLay_of_shaped sd) (room_in_shaped sd hu) ⟨.bl _, H, I, rfl, q⟩))
theorem deep_is {x y : PyData} (h : deepD x y = true) : flatD x = true ∧ flatD y = true ∧ SeqAt.shaped x = true ∧ SeqAt.shaped y = true := by
  unfold deepD at h
  simp only [Bool.and_eq_true] at h
  exact ⟨h.1.1.1, h.1.1.2, h.1.2, h.2⟩
theorem inDs_is {neg : Bool} {O : Addr → Bool} {H : Hp} {x y : V} {dx dy dz : PyData} {ys : List PyData} {a : Addr} {us : List V} {Q : VK} (ey : y = .ref a) (ed : dy = .list ys ∨ dy = .tuple ys) (hs : SqL K H a us ∨ SqT K H a us) (ha : RpAll K (hid O H) us ys) (rx : Rp K (hid O H) x dx) (ry : Rp K (hid O H) y dy)
    (e : inDs neg dx ys dy = some dz) (k : ∀ v H', Same H H' → Rp K (hid O H') v dz → Q v H') : rIn K neg x y H Q ∨ rDp K neg x y H Q := by
  subst ey
  unfold inDs at e
  by_cases c : scalD dx = true ∧ ys.all scalD = true
  · rw [if_pos c] at e
    cases e
    exact .inl (seq_in hs ha rx c (k _ H (Same.refl H) (.bl _)))
  · rw [if_neg c] at e
    obtain ⟨c, e⟩ := ite_some e
    subst e
    obtain ⟨c2, c3, c4, c5⟩ := deep_is c
    exact .inr ⟨dx, dy, ys, ed, Rp.dp _ _ c2 (Rp.same hid_le _ _ rx), Rp.dp _ _ c3 (Rp.same hid_le _ _ ry), c4, c5, k _ H (Same.refl H) (.bl _)⟩
theorem pu_in : Pu2 K (rInU K) (inD false) := by
  intro O H x y dx dy dz Q dm rx ry e k
  cases dy with
  | list ys =>
    have ry' := ry
    cases ry with
    | lst h1 a1 => exact (inDs_is rfl (.inl rfl) (.inl (.inl (.inl (hid_le _ _ h1)))) a1 rx ry' e k).imp id .inr
  | tuple ys =>
    have ry' := ry
    cases ry with
    | tup h1 a1 _ => exact (inDs_is rfl (.inr rfl) (.inr (same_seqT hid_le h1)) a1 rx ry' e k).imp id .inr
  | str z =>
    cases dx with
    | str a =>
      cases rx
      cases ry
      obtain ⟨c, e⟩ := ite_some e
      subst e
      exact .inr (.inl ⟨a.cps.getD 0 0, z, by rw [← str_one c], rfl, k _ H (Same.refl H) (.bl _)⟩)
    | _ => cases e
  | _ => cases e
theorem pu_notIn : Pu2 K (rNotInU K) (inD true) := by
  intro O H x y dx dy dz Q dm rx ry e k
  cases dy with
  | list ys =>
    have ry' := ry
    cases ry with
    | lst h1 a1 => exact (inDs_is rfl (.inl rfl) (.inl (.inl (.inl (hid_le _ _ h1)))) a1 rx ry' e k).imp id .inr
  | tuple ys =>
    have ry' := ry
    cases ry with
    | tup h1 a1 _ => exact (inDs_is rfl (.inr rfl) (.inr (same_seqT hid_le h1)) a1 rx ry' e k).imp id .inr
  | str z =>
    cases dx with
    | str a =>
      cases rx
      cases ry
      obtain ⟨c, e⟩ := ite_some e
      subst e
      exact .inr (.inl ⟨a.cps.getD 0 0, z, by rw [← str_one c], rfl, k _ H (Same.refl H) (.bl _)⟩)
    | _ => cases e
  | _ => cases e
/-! ### places, slices -/
def ixD (x y : PyData) : Option PyData := match y with
  | .int i => match x with
    | .list xs => atI xs i
    | .tuple xs => atI xs i
    | .str z => if z.length ≤ lim then (atI z.cps.toList i).map fun c => .str ⟨#[c]⟩ else none
    | _ => none
  | _ => none
theorem rps_atI {H : Hp} {us : List V} {xs : List PyData} {i : Int} {d : PyData} (h : RpAll K H us xs) (e : atI xs i = some d) : ∃ v, atI us i = some v ∧ Rp K H v d := by
  unfold atI at e ⊢
  obtain ⟨j, e1, e2⟩ := Option.bind_eq_some_iff.mp e
  obtain ⟨v, z1, z2⟩ := h.at e2
  exact ⟨v, by rw [h.len, e1]; exact z1, z2⟩
theorem pu_ix : Pu2 K (rIx K) ixD := by
  intro O H x y dx dy dz Q dm rx ry e k
  cases dy with
  | int i =>
    cases ry
    cases dx with
    | list xs =>
      cases rx with
      | lst h1 a1 =>
      obtain ⟨v, z1, z2⟩ := rps_atI a1 e
      exact .inl ⟨_, _, i, v, rfl, rfl, .inl (.inl (hid_le _ _ h1)), z1, k v H (Same.refl H) z2⟩
    | tuple xs =>
      cases rx with
      | tup h1 a1 _ =>
      obtain ⟨v, z1, z2⟩ := rps_atI a1 e
      exact .inr (.inl ⟨_, _, i, v, rfl, rfl, same_seqT hid_le h1, z1, k v H (Same.refl H) z2⟩)
    | str z =>
      cases rx
      have e' : (if z.length ≤ lim then (atI z.cps.toList i).map fun c => PyData.str ⟨#[c]⟩ else none) = some dz := e
      by_cases c : z.length ≤ lim
      · rw [if_pos c] at e'
        obtain ⟨c0, e1, e2⟩ := Option.map_eq_some_iff.mp e'
        subst e2
        exact .inr (.inr ⟨z, i, c0, rfl, rfl, Nat.le_trans c lim_le, e1, k _ H (Same.refl H) (.str _)⟩)
      · rw [if_neg c] at e'
        cases e'
    | _ => cases e
  | _ => cases e
def cutD (xs : List PyData) (lo hi : Option Int) : List PyData := (xs.drop (HT.sIx xs.length 0 lo)).take (HT.sIx xs.length xs.length hi - HT.sIx xs.length 0 lo)
def slD (x : PyData) (lo hi : Option Int) : Option PyData := match x with
  | .list xs => some (.list (cutD xs lo hi))
  | .tuple xs => some (.tuple (cutD xs lo hi))
  | .str z => if z.length ≤ lim then some (.str (cutS z lo hi)) else none
  | _ => none
theorem rps_cut {H : Hp} {us : List V} {xs : List PyData} (h : RpAll K H us xs) (lo hi : Option Int) : RpAll K H (cutV us lo hi) (cutD xs lo hi) := by
  unfold cutV cutD
  rw [h.len]
  exact (h.drop _).take _
abbrev rSlU (K : PySem.W.Frag) : V → Option Int → Option Int → Hp → VK → Prop := fun x lo hi H Q => rSlL K x lo hi H Q ∨ rSlK K x lo hi H Q ∨ rSlS x lo hi H Q
theorem sl_U : L2.SlR X (rSlU X.K) := sl_list.or (sl_tupK.or sl_str)
theorem pu_sl : PuS K (rSlU K) slD := by
  intro O H x dx lo hi dz Q dm rx e k
  cases dx with
  | list xs =>
    cases e
    cases rx with
    | lst h1 a1 =>
    exact .inl ⟨_, _, rfl, .inl (.inl (hid_le _ _ h1)), fun p np => k _ _ (same_new np) (.lst (hid_new dm np) (RpAll.same (hid_same (same_new np)) _ _ (rps_cut a1 lo hi)))⟩
  | tuple xs =>
    cases e
    have rx' := rx
    cases rx with
    | @tup a us _ h1 a1 _ =>
    refine .inr (.inl ⟨_, us, rfl, same_seqT hid_le h1, fun c => ?_, fun _ p o np kt => k _ _ (same_new np) (.tup (kt.rd (hid_new dm np)) (RpAll.same (hid_same (same_new np)) _ _ (rps_cut a1 lo hi)) fun _ => kt.pl (hid_new dm np))⟩)
    have e : cutD xs lo hi = xs := by
      unfold cutD
      rw [← a1.len, c.1, c.2, a1.len, List.drop_zero, Nat.sub_zero, List.take_length]
    rw [e] at k
    exact k _ H (Same.refl H) rx'
  | str z =>
    cases rx
    obtain ⟨c, e⟩ := ite_some e
    subst e
    exact .inr (.inr ⟨z, rfl, Nat.le_trans c lim_le, k _ H (Same.refl H) (.str _)⟩)
  | _ => cases e
/-! ### len, tuple, list, any, all -/
def lenD : List PyData → Option PyData
  | [.list xs] => some (.int xs.length)
  | [.tuple xs] => some (.int xs.length)
  | [.str z] => if z.length ≤ lim then some (.int z.length) else none
  | _ => none
abbrev rLenU (K : PySem.W.Frag) : List V → Hp → VK → Prop := fun xs H Q => (∃ p ys, xs = [.ref p] ∧ (SqL K H p ys ∨ SqT K H p ys) ∧ Q (.int ys.length) H) ∨ ∃ z, xs = [.str z] ∧ z.length ≤ sizeLine ∧ Q (.int z.length) H
theorem CallR.or {f : Value} {r r' : List V → Hp → VK → Prop} (h : CallR X f r) (h' : CallR X f r') : CallR X f (fun xs H Q => r xs H Q ∨ r' xs H Q) := by
  intro pins s σ H xs us Q I rx q
  rcases q with q | q
  · exact h pins s σ H xs us Q I rx q
  · exact h' pins s σ H xs us Q I rx q
theorem cr_lenU : CallR X (.builtin "len") (rLenU X.K) := CallR.or call_len_seq call_len_str
theorem rps1 {H : Hp} {us : List V} {d : PyData} (h : RpAll K H us [d]) : ∃ v, us = [v] ∧ Rp K H v d := by
  cases h with
  | cons a b =>
    cases b
    exact ⟨_, rfl, a⟩
theorem pu_len : PuN K (rLenU K) lenD := by
  intro O H xs ds dz Q dm r e k
  match ds, e with
  | [.list ys], e =>
    cases e
    obtain ⟨v, rfl, r1⟩ := rps1 r
    cases r1 with
    | lst h1 a1 => exact .inl ⟨_, _, rfl, .inl (.inl (.inl (hid_le _ _ h1))), by rw [a1.len]; exact k _ H (Same.refl H) (.int _)⟩
  | [.tuple ys], e =>
    cases e
    obtain ⟨v, rfl, r1⟩ := rps1 r
    cases r1 with
    | tup h1 a1 _ => exact .inl ⟨_, _, rfl, .inr (same_seqT hid_le h1), by rw [a1.len]; exact k _ H (Same.refl H) (.int _)⟩
  | [.str z], e =>
    obtain ⟨c, e⟩ := ite_some e
    subst e
    obtain ⟨v, rfl, r1⟩ := rps1 r
    cases r1
    exact .inr ⟨z, rfl, Nat.le_trans c lim_le, k _ H (Same.refl H) (.int _)⟩
def tupD1 : List PyData → Option PyData
  | [.list xs] => some (.tuple xs)
  | [.tuple xs] => some (.tuple xs)
  | _ => none
theorem cr_tupU {X : Cx} : CallR X (.type "tuple") (rTupU X.K) := CallR.or call_tupK call_tupleT
theorem pu_tuple : PuN K (rTupU K) tupD1 := by
  intro O H xs ds dz Q dm r e k
  match ds, e with
  | [.list ys], e =>
    cases e
    obtain ⟨v, rfl, r1⟩ := rps1 r
    cases r1 with
    | lst h1 a1 => exact .inl ⟨_, _, rfl, .inl (.inl (hid_le _ _ h1)), fun p o np kt => k _ _ (same_new np) (.tup (kt.rd (hid_new dm np)) (RpAll.same (hid_same (same_new np)) _ _ a1) fun _ => kt.pl (hid_new dm np))⟩
  | [.tuple ys], e =>
    cases e
    obtain ⟨v, rfl, r1⟩ := rps1 r
    have r2 := r1
    cases r1 with
    | tup h1 a1 _ => exact .inr ⟨_, _, rfl, same_seqT hid_le h1, k _ H (Same.refl H) r2⟩
def lstD1 : List PyData → Option PyData
  | [.list xs] => some (.list xs)
  | [.tuple xs] => some (.list xs)
  | _ => none
theorem pu_list : PuN K (fun xs H Q => ∃ p ys, xs = [.ref p] ∧ (SqL K H p ys ∨ SqT K H p ys) ∧ ∀ l, H l = none → Q (.ref l) (upd H l (.lst ys))) lstD1 := by
  intro O H xs ds dz Q dm r e k
  match ds, e with
  | [.list ys], e =>
    cases e
    obtain ⟨v, rfl, r1⟩ := rps1 r
    cases r1 with
    | lst h1 a1 => exact ⟨_, _, rfl, .inl (.inl (.inl (hid_le _ _ h1))), fun p np => k _ _ (same_new np) (.lst (hid_new dm np) (RpAll.same (hid_same (same_new np)) _ _ a1))⟩
  | [.tuple ys], e =>
    cases e
    obtain ⟨v, rfl, r1⟩ := rps1 r
    cases r1 with
    | tup h1 a1 _ => exact ⟨_, _, rfl, .inr (same_seqT hid_le h1), fun p np => k _ _ (same_new np) (.lst (hid_new dm np) (RpAll.same (hid_same (same_new np)) _ _ a1))⟩
def boolsD : List PyData → Option (List Bool)
  | [] => some []
  | .bool b :: r => (boolsD r).map (b :: ·)
  | _ => none
theorem rps_bools {H : Hp} : ∀ {us : List V} {ds : List PyData} {bs : List Bool}, RpAll K H us ds → boolsD ds = some bs → us = bs.map V.bl
  | _, _, _, .nil, e => by cases e; rfl
  | _, _, _, .cons (d := d) h t, e => by
    cases d with
    | bool b =>
      obtain ⟨r, e1, e2⟩ := Option.map_eq_some_iff.mp e
      subst e2
      cases h
      rw [rps_bools t e1, List.map_cons]
    | _ => cases e
def anyD : List PyData → Option PyData
  | [.list xs] => (boolsD xs).map fun bs => .bool (bs.any id)
  | _ => none
def allD : List PyData → Option PyData
  | [.list xs] => (boolsD xs).map fun bs => .bool (bs.all id)
  | _ => none
theorem pu_any : PuN K (rAny K) anyD := by
  intro O H xs ds dz Q dm r e k
  match ds, e with
  | [.list ys], e =>
    obtain ⟨bs, e1, e2⟩ := Option.map_eq_some_iff.mp e
    subst e2
    obtain ⟨v, rfl, r1⟩ := rps1 r
    cases r1 with
    | lst h1 a1 => exact ⟨_, bs, rfl, .inl (.inl (by rw [← rps_bools a1 e1]; exact hid_le _ _ h1)), k _ H (Same.refl H) (.bl _)⟩
theorem pu_all : PuN K (rAll K) allD := by
  intro O H xs ds dz Q dm r e k
  match ds, e with
  | [.list ys], e =>
    obtain ⟨bs, e1, e2⟩ := Option.map_eq_some_iff.mp e
    subst e2
    obtain ⟨v, rfl, r1⟩ := rps1 r
    cases r1 with
    | lst h1 a1 => exact ⟨_, bs, rfl, .inl (.inl (by rw [← rps_bools a1 e1]; exact hid_le _ _ h1)), k _ H (Same.refl H) (.bl _)⟩
/-! ### isinstance -/
def tyS : PyData → String
  | .none => "NoneType"
  | .bool _ => "bool"
  | .int _ => "int"
  | .str _ => "str"
  | .list _ => "list"
  | .tuple _ => "tuple"
  | .dict _ => "dict"
theorem tyS_of {H : Hp} {v : V} {d : PyData} (nd : (match d with | .dict _ => false | _ => true) = true) (h : Rp K H v d) : TyX K H v (.type (tyS d)) := by
  cases h with
  | non => exact .base .non
  | bl b => exact .base (.bl b)
  | int i => exact .base (.int i)
  | str x => exact .base (.str x)
  | lst hs _ => exact .base (.lst hs)
  | tup hs _ _ =>
    rcases hs with (hs | ⟨o, hs⟩) | ⟨o, its, n, hk, hc, _⟩
    · exact .base (.tup hs)
    · exact .fTuple hs
    · exact .kTuple hk hc
  | dic hs _ => exact absurd nd Bool.false_ne_true
/-- T is one of the types' bases, as isinstance tells -/
structure IsT (K : PySem.W.Frag) (T : String) (c : String → Bool) : Prop where
  h0 : PySem.W.kitOne K (.type "NoneType") (.type T) = some (c "NoneType")
  h1 : PySem.W.kitOne K (.type "bool") (.type T) = some (c "bool")
  h2 : PySem.W.kitOne K (.type "int") (.type T) = some (c "int")
  h3 : PySem.W.kitOne K (.type "str") (.type T) = some (c "str")
  h4 : PySem.W.kitOne K (.type "list") (.type T) = some (c "list")
  h5 : PySem.W.kitOne K (.type "tuple") (.type T) = some (c "tuple")
def noDict : PyData → Bool
  | .dict _ => false
  | _ => true
def eIsi (c : String → Bool) (w : ED) : ED := fun ρ n Q => w ρ n fun x n1 => noDict x = true ∧ Q (.bool (c (tyS x))) n1
theorem qd_isi {T : String} {c : String → Bool} {e : Expr} {w : ED} {x : Str} {p p2 pos : Pos} (k : IsT X.K T c) (hg : Gl X "isinstance") (hm : X.mg "isinstance" = none) (he : PD X e w) (hgT : Gl X x) (hmT : X.mg x = none) (hvT : bootBuiltins x = some (.type T)) (hn : x ≠ "__name__" := by decide) (hd : (x == ("__debug__" : Str)) = false := by decide)
    (h1 : starEach [e, .Name x p2] X.env = (false, eval e X.env) :: starEach [.Name x p2] X.env := by rfl) (h2 : starEach [.Name x p2] X.env = (false, eval (.Name x p2) X.env) :: starEach [] X.env := by rfl)
    (hpl : (backTo pos (starEach [.Name x p2] X.env)).any (·.1) = false := by rfl) : PD X (.Call (.Name "isinstance" p) [e, .Name x p2] [] pos) (eIsi c w) :=
  qd_mk (pe_callB call_isi hg hm PyProof.Rows.boot_isinstance (pa_cons he (pa_cons (pe_bltn (v := .ty T) hgT hmT hvT rfl hn hd) pa_nil h2) h1) (he := h1) (hpl := hpl)) fun S hw kk => rd_W S hw fun v d H1 n1 f1 d1 r1 ⟨nd, q⟩ => by
    refine ⟨v, .ty T, .type (tyS d), .type T, c (tyS d), rfl, .ty _, tyS_of (by cases d <;> first | rfl | exact nd) (Rp.same hid_le _ _ r1), ?_, kk _ _ H1 n1 f1 d1 (.bl _) q⟩
    cases d with
    | none => exact k.h0
    | bool _ => exact k.h1
    | int _ => exact k.h2
    | str _ => exact k.h3
    | list _ => exact k.h4
    | tuple _ => exact k.h5
    | dict _ => cases nd
end
end My

/-! PQ: chains of comparisons, more statements, truth of sequences -/
namespace My
open PySem PySem.Spec PyProof.Rows L2
theorem Room.u65 {k : Nat} {A : Around} (r : Room k A) : A.units + 65 < cLine := by
  have := r.un
  omega
def eChain (f g : PyData → PyData → Option PyData) (a b c : ED) : ED := fun ρ n Q => a ρ n fun x n1 => b ρ n1 fun y n2 => ∃ k, f x y = some (.bool k) ∧ if k = true then c ρ n2 fun w n3 => ∃ z, g y w = some z ∧ Q z n3 else Q (.bool false) n2
section
variable {X : Cx} {K : PySem.W.Frag}
theorem rd_chain {r r' : R2} {f g : PyData → PyData → Option PyData} {a b c : ED} (h : Pu2 K r f) (h' : Pu2 K r' g) : RdE K (tChain r r' (tW K a) (tW K b) (tW K c)) (eChain f g a b c) := fun S hw k =>
  rd_W S hw fun v d H1 n1 f1 d1 r1 q1 => rd_W (S.step f1 d1) q1 fun u e H2 n2 f2 d2 r2 ⟨kb, ek, q2⟩ =>
    h (S.step (f1.trans f2) d2).dom (Rp.same (hid_fr S.dO f2) _ _ r1) r2 ek fun z H3 s3 rz => by
      cases rz
      refine ⟨kb, rfl, ?_⟩
      have f3 := (f1.trans f2).trans (FrD.of (dk := _) s3)
      have d3 := d2.same s3
      cases kb with
      | true => exact (if_pos rfl).mpr (rd_W (S.step f3 d3) ((if_pos rfl).mp q2) fun w e4 H4 n4 f4 d4 r4 ⟨z, ez, q4⟩ =>
          h' (S.step (f3.trans f4) d4).dom (Rp.same (hid_fr S.dO ((FrD.of s3).trans f4)) _ _ r2) r4 ez fun v' H' s r => k _ _ H' n4 ((f3.trans f4).trans (FrD.of s)) (d4.same s) r q4)
      | false => exact (if_neg Bool.false_ne_true).mpr (k _ _ H3 n2 f3 d3 (.bl false) ((if_neg Bool.false_ne_true).mp q2))
theorem qd_chain {op op' : CmpOp} {r r' : R2} {f g : PyData → PyData → Option PyData} {a b c : Expr} {wa wb wc : ED} {pos : Pos} (ho : OpR X (compareOp op) r) (h : Pu2 X.K r f) (ho' : OpR X (compareOp op') r') (h' : Pu2 X.K r' g) (ha : PD X a wa) (hb : PD X b wb) (hc : PD X c wc)
    (hm : lastMarks [op, op'] [b, c] = false := by with_unfolding_all rfl) : PD X (.Compare a [op, op'] [b, c] pos) (eChain f g wa wb wc) := qd_mk (pe_chain ho ho' ha hb hc hm) (rd_chain h h')
theorem qdt_chain {op op' : CmpOp} {r r' : R2} {f g : PyData → PyData → Option PyData} {a b c : Expr} {wa wb wc : ED} {pos : Pos} (ho : OpR X (compareOp op) r) (h : Pu2 X.K r f) (ho' : OpR X (compareOp op') r') (h' : Pu2 X.K r' g) (ha : PD X a wa) (hb : PD X b wb) (hc : PD X c wc)
    (hm : lastMarks [op, op'] [b, c] = false := by with_unfolding_all rfl) : PDT X (.Compare a [op, op'] [b, c] pos) (bT (eChain f g wa wb wc)) := qdt_mk (pt_chain ho ho' ha hb hc hm) fun S hw k => rd_chain h h' S hw fun v d H1 n1 f1 d1 r1 ⟨b, e, q⟩ => by
  subst e
  cases r1
  exact ⟨b, rfl, k b H1 n1 f1 d1 q⟩
theorem qs_app' {i : Nat} {w : ED} {st : Stmt} (hst : PS X st (tDrop (tBM X.K "list" rAppend (tVar i) (tCons (tW X.K w) tNil)))) : PSD X st (sApp i w) := qs_mk hst fun {dk OB H0 O H σ ρ n E D} S hw k => by
  obtain ⟨xs, e1, q⟩ := hw
  obtain ⟨v, z1, p, us, rfl, h1, h2, h3, h4, h5⟩ := S.sl _ _ e1
  refine ⟨_, z1, .inl ⟨rfl, _, .inl (.inl h4)⟩, rd_W S q fun v d H1 n1 f1 d1 r1 ⟨ll, q1⟩ => ?_⟩
  have nA : ¬ dkA dk p := fun ⟨E, e1, e2⟩ => (h3 E e1).1 e2
  have h4' := f1 _ _ nA h4
  have S1 := S.step f1 d1
  have s1 := S.hid f1
  refine ⟨p, us, v, rfl, rfl, h4', by have z := lim_le; rw [h5.len]; omega, ?_⟩
  refine k.nx O _ _ _ n1 (S1.mut e1 rfl rfl z1 h1 h2 h3 nt_lst (s' := .l (xs ++ [d])) ⟨p, _, rfl, h1, h2, h3, upd_same, ?_⟩) ?_ q1
  · rw [hid_upd h1]
    exact RpAll.app (RpAll.same s1 _ _ h5) (.cons r1 .nil)
  · rw [hid_upd h1]
    exact s1
def sExt (i : Nat) (e : ED) : SD := fun ρ n E => ∃ xs, ρ[i]? = some (some (.l xs)) ∧ e ρ n fun x n1 => ∃ ys, x = .list ys ∧ xs.length + ys.length ≤ lim ∧ E.nx (ρ.set i (some (.l (xs ++ ys)))) n1
theorem qs_ext' {i : Nat} {w : ED} {st : Stmt} (hst : PS X st (tDrop (tBM X.K "list" rExtend (tVar i) (tCons (tW X.K w) tNil)))) : PSD X st (sExt i w) := qs_mk hst fun {dk OB H0 O H σ ρ n E D} S hw k => by
  obtain ⟨xs, e1, q⟩ := hw
  obtain ⟨v, z1, p, us, rfl, h1, h2, h3, h4, h5⟩ := S.sl _ _ e1
  refine ⟨_, z1, .inl ⟨rfl, _, .inl (.inl h4)⟩, rd_W S q fun v d H1 n1 f1 d1 r1 ⟨ys, ey, ll, q1⟩ => ?_⟩
  subst ey
  cases r1 with
  | @lst a ws _ ha hb =>
  have nA : ¬ dkA dk p := fun ⟨E, e1, e2⟩ => (h3 E e1).1 e2
  have h4' := f1 _ _ nA h4
  have S1 := S.step f1 d1
  have s1 := S.hid f1
  refine ⟨p, a, us, ws, rfl, rfl, h4', hid_le _ _ ha, by have z := lim_le; rw [h5.len, hb.len]; omega, ?_⟩
  refine k.nx O _ _ _ n1 (S1.mut e1 rfl rfl z1 h1 h2 h3 nt_lst (s' := .l (xs ++ ys)) ⟨p, _, rfl, h1, h2, h3, upd_same, ?_⟩) ?_ q1
  · rw [hid_upd h1]
    exact RpAll.app (RpAll.same s1 _ _ h5) hb
  · rw [hid_upd h1]
    exact s1
end
end My

/-! PR: reckoning with pieces of programs over data -/
namespace My
open PySem PySem.Spec PyProof.Rows L2
theorem lc_opt {g : GD} {p : TD} {e : ED} {ρ0 : DEnv} (f : PyData → Option PyData) : ∀ {xs acc : List PyData} {n : Nat} {Q : List PyData → Nat → Prop},
    (∀ x ∈ xs, ∀ (n : Nat) (K : Option PyData → Nat → Prop), K (f x) n → ∃ ρ', g x ρ0 = some ρ' ∧ p ρ' n fun b n1 => if b = true then e ρ' n1 fun y n2 => K (some y) n2 else K none n1) → Q (acc ++ xs.filterMap f) n → lcD g p e ρ0 xs acc n Q
  | [], acc, n, Q, _, q => by
    rw [List.filterMap_nil, List.append_nil] at q
    exact q
  | x :: xs, acc, n, Q, h, q => by
    obtain ⟨ρ', e1, e2⟩ := h x List.mem_cons_self n (fun o n1 => match o with
      | some y => lcD g p e ρ0 xs (acc ++ [y]) n1 Q
      | none => lcD g p e ρ0 xs acc n1 Q) (by
        have ih := fun {a : List PyData} {Q} (q : Q (a ++ xs.filterMap f) n) => lc_opt (g := g) (p := p) (e := e) (ρ0 := ρ0) f (xs := xs) (acc := a) (n := n) (Q := Q) (fun y hy => h y (List.mem_cons_of_mem _ hy)) q
        cases c : f x with
        | none =>
          rw [List.filterMap_cons_none c] at q
          exact ih q
        | some y =>
          rw [List.filterMap_cons_some c] at q
          exact ih (by rw [List.append_assoc]; exact q))
    exact ⟨ρ', e1, e2⟩
theorem lc_map {g : GD} {e : ED} {ρ0 : DEnv} (f : PyData → PyData) {xs acc : List PyData} {n : Nat} {Q : List PyData → Nat → Prop}
    (h : ∀ x ∈ xs, ∀ (n : Nat) (K : PyData → Nat → Prop), K (f x) n → ∃ ρ', g x ρ0 = some ρ' ∧ e ρ' n K) (q : Q (acc ++ xs.map f) n) : lcD g bYes e ρ0 xs acc n Q := by
  refine lc_opt (fun x => some (f x)) (fun x hx n K k => ?_) (by rw [List.filterMap_eq_map']; exact q)
  obtain ⟨ρ', e1, e2⟩ := h x hx n (fun y n2 => K (some y) n2) k
  refine ⟨ρ', e1, ?_⟩
  show if true = true then e ρ' n fun y n2 => K (some y) n2 else K none n
  rw [if_pos rfl]
  exact e2
/-! ### any value: what is short enough -/
mutual
def okD : PyData → Bool
  | .str z => decide (z.length ≤ lim)
  | .list xs => decide (xs.length ≤ lim) && okAll xs
  | .tuple xs => decide (xs.length ≤ lim) && okAll xs
  | .dict _ => false
  | _ => true
def okAll : List PyData → Bool
  | [] => true
  | d :: ds => okD d && okAll ds
end
theorem okAll_mem : ∀ {ds : List PyData}, okAll ds = true → ∀ d ∈ ds, okD d = true
  | [], _, d, h => by cases h
  | e :: ds, h, d, m => by
    simp only [okAll, Bool.and_eq_true] at h
    rcases List.mem_cons.mp m with rfl | m
    · exact h.1
    · exact okAll_mem h.2 d m
theorem okD_str {z : Str} (h : okD (.str z) = true) : z.length ≤ lim := by
  simpa only [okD, decide_eq_true_eq] using h
theorem okD_tup {xs : List PyData} (h : okD (.tuple xs) = true) : xs.length ≤ lim ∧ ∀ d ∈ xs, okD d = true := by
  simp only [okD, Bool.and_eq_true, decide_eq_true_eq] at h
  exact ⟨h.1, okAll_mem h.2⟩
theorem okD_lst {xs : List PyData} (h : okD (.list xs) = true) : xs.length ≤ lim ∧ ∀ d ∈ xs, okD d = true := by
  simp only [okD, Bool.and_eq_true, decide_eq_true_eq] at h
  exact ⟨h.1, okAll_mem h.2⟩
theorem okD_nd {d : PyData} (h : okD d = true) : noDict d = true := by
  cases d with
  | dict _ => simp only [okD] at h; cases h
  | _ => rfl
/-- a function of one value that is short enough -/
def F1 (f : PyData → PyData) : List PyData → Option PyData := fun ds => match ds with
  | [d] => if okD d = true then some (f d) else none
  | _ => none
theorem F1_is {f : PyData → PyData} {ds : List PyData} {d : PyData} (e : F1 f ds = some d) : ∃ x, ds = [x] ∧ okD x = true ∧ d = f x := by
  match ds, e with
  | [x], e =>
    obtain ⟨c, e⟩ := ite_some e
    exact ⟨x, rfl, c, e.symm⟩
theorem F1_at {f : PyData → PyData} {x : PyData} (h : okD x = true) : F1 f [x] = some (f x) := if_pos h
theorem boolsD_map {α : Type} {f : α → Bool} : ∀ {xs : List α}, boolsD (xs.map fun x => PyData.bool (f x)) = some (xs.map f)
  | [] => rfl
  | x :: xs => by
    rw [List.map_cons]
    show (boolsD _).map _ = _
    rw [boolsD_map]
    rfl
theorem cps_len (z : Str) : z.cps.toList.length = z.length := by
  rw [Array.length_toList]
  rfl
/-! ### what simp is told -/
theorem lenD_str {z : Str} (h : z.length ≤ lim) : lenD [.str z] = some (.int z.length) := if_pos h
theorem lenD_tup {xs : List PyData} : lenD [.tuple xs] = some (.int xs.length) := rfl
theorem lenD_lst {xs : List PyData} : lenD [.list xs] = some (.int xs.length) := rfl
theorem ltD_int {p : Int → Int → Bool} {i j : Int} : ltD p (.int i) (.int j) = some (.bool (p i j)) := rfl
theorem items_tup {xs : List PyData} : itemsD (.tuple xs) = some xs := rfl
theorem items_lst {xs : List PyData} : itemsD (.list xs) = some xs := rfl
theorem items_str {z : Str} : itemsD (.str z) = some (z.cps.toList.map fun c => .str ⟨#[c]⟩) := rfl
theorem eqD_str {a b : Str} : eqD (.str a) (.str b) = some (.bool (decide (a = b))) := rfl
theorem eqD_int {a b : Int} : eqD (.int a) (.int b) = some (.bool (decide (a = b))) := rfl
theorem neD_str {a b : Str} : neD (.str a) (.str b) = some (.bool (!decide (a = b))) := rfl
theorem neD_int {a b : Int} : neD (.int a) (.int b) = some (.bool (!decide (a = b))) := rfl
theorem addD_int {a b : Int} : addD (.int a) (.int b) = some (.int (a + b)) := rfl
theorem subD_int {a b : Int} : subD (.int a) (.int b) = some (.int (a - b)) := rfl
theorem addD_tup {xs ys : List PyData} (h : xs.length + ys.length ≤ lim) : addD (.tuple xs) (.tuple ys) = some (.tuple (xs ++ ys)) := if_pos h
theorem addD_lst {xs ys : List PyData} (h : xs.length + ys.length ≤ lim) : addD (.list xs) (.list ys) = some (.list (xs ++ ys)) := if_pos h
theorem ixD_tup {xs : List PyData} {i : Int} : ixD (.tuple xs) (.int i) = atI xs i := rfl
theorem ixD_lst {xs : List PyData} {i : Int} : ixD (.list xs) (.int i) = atI xs i := rfl
theorem slD_tup {xs : List PyData} {lo hi : Option Int} : slD (.tuple xs) lo hi = some (.tuple (cutD xs lo hi)) := rfl
theorem slD_lst {xs : List PyData} {lo hi : Option Int} : slD (.list xs) lo hi = some (.list (cutD xs lo hi)) := rfl
theorem tuple_lst {xs : List PyData} : tupD1 [.list xs] = some (.tuple xs) := rfl
theorem tuple_tup {xs : List PyData} : tupD1 [.tuple xs] = some (.tuple xs) := rfl
theorem list_lst {xs : List PyData} : lstD1 [.list xs] = some (.list xs) := rfl
theorem list_tup {xs : List PyData} : lstD1 [.tuple xs] = some (.list xs) := rfl
theorem inD_sign {neg : Bool} {c : Nat} {z : Str} : inD neg (.str ⟨#[c]⟩) (.str z) = some (.bool (if neg then !decide (c ∈ z.cps.toList) else decide (c ∈ z.cps.toList))) := rfl
theorem allD_map {α : Type} {f : α → Bool} {xs : List α} : allD [.list (xs.map fun x => PyData.bool (f x))] = some (.bool (xs.all f)) := by
  show (boolsD _).map _ = _
  rw [boolsD_map, Option.map_some, List.all_map]
  rfl
theorem anyD_map {α : Type} {f : α → Bool} {xs : List α} : anyD [.list (xs.map fun x => PyData.bool (f x))] = some (.bool (xs.any f)) := by
  show (boolsD _).map _ = _
  rw [boolsD_map, Option.map_some, List.any_map]
  rfl
theorem cut_drop1 (xs : List PyData) : cutD xs (some 1) none = xs.drop 1 := by
  unfold cutD
  rw [HT.sIx_none, show HT.sIx xs.length 0 (some 1) = min 1 xs.length from HT.sIx_nat xs.length 0 1]
  cases xs with
  | nil => rfl
  | cons x r =>
    rw [List.length_cons, Nat.min_eq_left (by omega)]
    exact List.take_of_length_le (by simp)
theorem tyS_str {z : Str} : tyS (.str z) = "str" := rfl
theorem tyS_tup {z : List PyData} : tyS (.tuple z) = "tuple" := rfl
end My

/-! MyS: sets of tuples whose items are keys of one kind (texts): what is in them, put in, walked -/
namespace My
open PySem PySem.Spec PyProof.Rows L2

/-! ### the items' small questions -/
theorem ofA_scan {v : Value} (h : v.scannable = true) (n : Nat) : ofAClassStatement n v = pure false := by
  cases v with
  | ref a => cases h
  | _ => cases n <;> rfl
theorem hbv_scan {v : Value} (h : v.scannable = true) (n : Nat) : ∃ b, hashByValue n v = pure b := by
  cases v with
  | ref a => cases h
  | none => exact ⟨_, by cases n <;> rfl⟩
  | bool b => exact ⟨_, by cases n <;> rfl⟩
  | int i t => exact ⟨_, by cases n <;> rfl⟩
  | str x t => exact ⟨_, by cases n <;> rfl⟩
  | bytes x t => exact ⟨_, by cases n <;> rfl⟩
  | _ => cases h
/-- the kind's values are plain ones -/
def Scan {P : Program} {w : World} {K : Type} [DecidableEq K] (knd : KeyKind P w K) : Prop := ∀ k v, knd.is k v = true → v.scannable = true
theorem scan_str (P : Program) (w : World) : Scan (strKind P w) := fun k v h => by
  obtain ⟨t, rfl⟩ := Value.isStrOf_shape (x := k) (v := v) h
  rfl

section
variable {P : Program} {w : World} {K : Type} [DecidableEq K] {knd : KeyKind P w K} {A : Around} {E : Value → Shared → Prop} {s : Shared}
theorem items_scan (S : Scan knd) : ∀ {k : List K} {vs : List Value}, ItemsAre knd k vs → ∀ v ∈ vs, v.scannable = true
  | _, _, .nil, _, hv => nomatch hv
  | _, _, .cons h1 t, v, hv => (List.mem_cons.mp hv).elim (fun e => e ▸ S _ _ h1) fun hv => items_scan S t v hv
theorem ofA_tup (S : Scan knd) {k : List K} {b : Addr} {Q : Bool → Shared → Prop} (hk : IsTupleKey knd s.heap k b) (h : Q false s) : wpAny (model P w) A (ofAClassStatement 8 (.ref b)) Q E s := by
  have ty := hk.typeIs
  obtain ⟨o, its, n, ho, _, hd, hi⟩ := hk
  unfold ofAClassStatement
  refine wpAny_bind (wpAny_typeOf ty ?_)
  dsimp only
  have e : (("tuple" : String) == "tuple") = true := by decide
  simp only [e, if_true, Bool.not_true, Bool.false_eq_true, if_false]
  try refine wpAny_bind (wpAny_pure ?_)
  try simp only [Bool.not_true, Bool.false_eq_true, if_false]
  refine wpAny_bind (m := seqItems? (.ref b)) (wpAny_seqItems ho hd ?_)
  dsimp only
  refine wpAny_bind ?_
  rw [← Array.forIn_toList]
  refine wpAny_forIn_list _ (fun left r z => z = s ∧ r.1 = none ∧ ∀ v ∈ left, v.scannable = true) _ ?_ ?_ _ _ ⟨rfl, rfl, items_scan S hi⟩
  · rintro v left r z ⟨rfl, hr, hall⟩
    rw [ofA_scan (hall v List.mem_cons_self)]
    refine wpAny_bind (wpAny_pure ?_)
    simp only [Bool.false_eq_true, if_false]
    exact wpAny_pure ⟨rfl, rfl, fun u hu => hall u (List.mem_cons_of_mem _ hu)⟩
  · rintro ⟨r, _⟩ z ⟨rfl, hr, _⟩
    obtain rfl : r = none := hr
    exact wpAny_pure h
theorem hbv_tup (S : Scan knd) {k : List K} {b : Addr} {Q : Bool → Shared → Prop} (hk : IsTupleKey knd s.heap k b) (h : ∀ c, Q c s) : wpAny (model P w) A (hashByValue 8 (.ref b)) Q E s := by
  have ty := hk.typeIs
  obtain ⟨o, its, n, ho, _, hd, hi⟩ := hk
  unfold hashByValue
  refine wpAny_bind (wpAny_specialOf ty F.slot_tuple_hash.lookup ?_)
  refine wpAny_bind (m := seqItems? (.ref b)) (wpAny_seqItems ho hd ?_)
  refine wpAny_bind ?_
  show wpAny _ _ (forIn its _ _) _ _ s
  rw [← Array.forIn_toList]
  refine wpAny_forIn_list _ (fun left r z => z = s ∧ (r.1 = none ∨ ∃ c, r.1 = some c) ∧ ∀ v ∈ left, v.scannable = true) _ ?_ ?_ _ _ ⟨rfl, .inl rfl, items_scan S hi⟩
  · rintro v left r z ⟨rfl, _, hall⟩
    obtain ⟨c, e⟩ := hbv_scan (hall v List.mem_cons_self) 7
    rw [e]
    refine wpAny_bind (wpAny_pure ?_)
    cases c with
    | true =>
      simp only [Bool.not_true, Bool.false_eq_true, if_false]
      exact wpAny_pure ⟨rfl, .inl rfl, fun u hu => hall u (List.mem_cons_of_mem _ hu)⟩
    | false =>
      simp only [Bool.not_false, if_true]
      exact wpAny_pure (wpAny_pure (h _))
  · rintro ⟨r, _⟩ z ⟨rfl, hr, _⟩
    rcases hr with hr | ⟨c, hr⟩
    · obtain rfl : r = none := hr
      exact wpAny_pure (h _)
    · obtain rfl : r = some c := hr
      exact wpAny_pure (h _)
/-- a search among such tuples shows nothing -/
theorem unseen (S : Scan knd) {k : List K} {b : Addr} {Q : Bool → Shared → Prop} (hk : IsTupleKey knd s.heap k b) {ys : List Value} (hy : ∀ y ∈ ys, ∃ k' c, y = Value.ref c ∧ IsTupleKey knd s.heap k' c) (h : Q false s) :
    wpAny (model P w) A (searchCouldBeSeen (.ref b) ys) Q E s := by
  unfold searchCouldBeSeen
  refine wpAny_bind (wpAny_forIn_list _ (fun left r z => z = s ∧ r.1 = none ∧ ∀ y ∈ left, ∃ k' c, y = Value.ref c ∧ IsTupleKey knd s.heap k' c) _ ?_ ?_ _ _ ⟨rfl, rfl, hy⟩)
  · rintro v left r z ⟨rfl, _, hall⟩
    obtain ⟨k', c, rfl, hc⟩ := hall v List.mem_cons_self
    have next : ∀ y ∈ left, ∃ k' c, y = Value.ref c ∧ IsTupleKey knd z.heap k' c := fun u hu => hall u (List.mem_cons_of_mem _ hu)
    dsimp only
    by_cases hv : (b == c || (carriedByValue (.ref b) && carriedByValue (.ref c))) = true
    · exact wp_if_pos hv (wpAny_pure ⟨rfl, rfl, next⟩)
    · refine wp_if_neg hv (wpAny_bind (wpAny_eqIsQuiet_tuple hk ?_))
      simp only [Bool.not_true, Bool.false_eq_true, if_false]
      refine wpAny_bind (wpAny_eqIsQuiet_tuple hc ?_)
      simp only [Bool.not_true, Bool.false_eq_true, if_false]
      refine wpAny_bind (ofA_tup S hk ?_)
      simp only [Bool.false_eq_true, if_false]
      refine wpAny_bind (ofA_tup S hc ?_)
      simp only [Bool.false_eq_true, if_false]
      exact wpAny_pure ⟨rfl, rfl, next⟩
  · rintro ⟨r, _⟩ z ⟨rfl, hr, _⟩
    obtain rfl : r = none := hr
    exact wpAny_pure h

/-! ### the table: where a search comes to -/
theorem step_dummy (m : Nat) : ∀ (n : Nat) (p : SetTable.Probe), (nth m p n).dummy = p.dummy
  | 0, _ => rfl
  | n + 1, p => (step_dummy m n (adv m p)).trans (by unfold adv; split <;> rfl)
abbrev stn (m : Nat) (h : Int) (n : Nat) : SetTable.Probe := nth m (runAt m (SetTable.bits h % (m + 1)) (SetTable.bits h)) n
/-- from the c-th step on: the first stored one of that hash, or the empty slot at K -/
theorem probe_says {t : SetTable} {hs : List Int} (T : TabOk t hs) {g : Nat → Int} {h : Int} {c K : Nat} (hc : c ≤ K) (hf : K < 10 * SetTable.turns t.mask) (hK : way t.mask h K ∉ t.place.toList)
    (hin : ∀ q, q < K → way t.mask h q ∈ t.place.toList) :
    (∃ q i, c ≤ q ∧ q < K ∧ t.place.toList[i]? = some (way t.mask h q) ∧ g i = h ∧ (∀ q' i', c ≤ q' → q' < q → t.place.toList[i']? = some (way t.mask h q') → g i' ≠ h) ∧
      t.probe g h (stn t.mask h c) = some (.candidate (way t.mask h q) i (stn t.mask h (q + 1)))) ∨
    ((∀ q' i', c ≤ q' → q' < K → t.place.toList[i']? = some (way t.mask h q') → g i' ≠ h) ∧ t.probe g h (stn t.mask h c) = some (.empty (way t.mask h K) none)) := by
  have sh : ∀ q, nth t.mask (stn t.mask h c) q = stn t.mask h (c + q) := fun q => (nth_add t.mask c _ q).symm
  have shj : ∀ q, (nth t.mask (stn t.mask h c) q).j = way t.mask h (c + q) := fun q => congrArg SetTable.Probe.j (sh q)
  have cK : c + (K - c) = K := by omega
  have fwd : ∀ {q' : Nat}, c ≤ q' → way t.mask h q' = (nth t.mask (stn t.mask h c) (q' - c)).j := fun {q'} l => by rw [shj, show c + (q' - c) = q' by omega]
  rcases go_spec t T.ris T.dm g h (10 * SetTable.turns t.mask) (K - c) (stn t.mask h c) (step_dummy _ _ _) (by omega) (fun q hq => by rw [shj]; exact hin _ (by omega)) (by rw [shj, cK]; exact hK) with ⟨q, i, hq, hi, hg, hno, e⟩ | ⟨hno, e⟩
  · refine .inl ⟨c + q, i, by omega, by omega, by rw [← shj]; exact hi, hg, fun q' i' l1 l2 hp => hno (q' - c) i' (by omega) (by rw [← fwd l1]; exact hp), ?_⟩
    rw [← shj, show c + q + 1 = c + (q + 1) by omega, ← sh]
    exact e
  · refine .inr ⟨fun q' i' l1 l2 hp => hno (q' - c) i' (by omega) (by rw [← fwd l1]; exact hp), ?_⟩
    have ek : way t.mask h K = (nth t.mask (stn t.mask h c) (K - c)).j := fwd hc
    rw [ek]
    exact e

/-! ### the set -/
/-- the stored rows of the tuples at some addresses, with their keys -/
def rows (knd : KeyKind P w K) (L : List (Addr × List K)) : List (Int × Value) := L.map fun p => (tupleKeyHash knd p.2, .ref p.1)
/-- the object at a is a set of the keys of L, in the table's order -/
structure Tab (knd : KeyKind P w K) (h : Heap) (a : Addr) (L : List (Addr × List K)) (es : Array (Int × Value)) (ep : Nat) (t : SetTable) : Prop where
  ob : ∃ o, h.get? a = some o ∧ o.ExactSet ∧ o.data = .set es ep t
  rw_ : es.toList = rows knd L
  tab : TabOk t (L.map fun p => tupleKeyHash knd p.2)
  nd : (L.map (·.2)).Nodup
  led : w.params.followText "set-order" = true ∨ t.led = true
  room : L.length * 5 < t.mask * 3
  few : L.length < 64
variable {a : Addr} {L : List (Addr × List K)} {es : Array (Int × Value)} {ep : Nat} {t : SetTable}
theorem Tab.count {h : Heap} (R : Tab knd h a L es ep t) : es.size = L.length := by
  rw [← Array.length_toList, R.rw_]
  exact List.length_map ..
theorem Tab.slots {h : Heap} (R : Tab knd h a L es ep t) : t.place.toList.length = L.length := by
  rw [Array.length_toList, R.tab.sz, List.length_map]
theorem Tab.fits {h : Heap} (R : Tab knd h a L es ep t) : t.fits es.size = true := by
  have h1 := R.slots
  rw [Array.length_toList] at h1
  have h2 := R.count
  have h3 := R.room
  unfold SetTable.fits SetTable.fill
  rw [R.tab.dm]
  simp
  omega
theorem Tab.odd {h : Heap} (R : Tab knd h a L es ep t) : ¬ t.gaveWay = true := by
  unfold SetTable.gaveWay
  rw [mask_odd R.tab.mok]
  decide
theorem Tab.at_ {h : Heap} (R : Tab knd h a L es ep t) {i : Nat} {p : Addr × List K} (e : L[i]? = some p) : es[i]? = some (tupleKeyHash knd p.2, .ref p.1) := by
  rw [← Array.getElem?_toList, R.rw_]
  show (L.map _)[i]? = _
  rw [List.getElem?_map, e]
  rfl
/-- what the search for adding answers -/
def Ans (knd : KeyKind P w K) (L : List (Addr × List K)) (t : SetTable) (k : List K) (Q : SetFound → Shared → Prop) (s : Shared) : Prop :=
  (k ∈ L.map (·.2) → Q (.there none) s) ∧
  (k ∉ L.map (·.2) → ∀ n, way t.mask (tupleKeyHash knd k) n ∉ t.place.toList → (∀ q, q < n → way t.mask (tupleKeyHash knd k) q ∈ t.place.toList) → Q (.free (way t.mask (tupleKeyHash knd k) n) false) s)
theorem search_go (S : Scan knd) (R : Tab knd s.heap a L es ep t) (tup : ∀ p ∈ L, IsTupleKey knd s.heap p.2 p.1) {x : Addr} {k : List K} (hx : IsTupleKey knd s.heap k x) (hu : A.units < cLine) {n : Nat} (hf : n < 10 * SetTable.turns t.mask)
    (hK : way t.mask (tupleKeyHash knd k) n ∉ t.place.toList) (hin : ∀ q, q < n → way t.mask (tupleKeyHash knd k) q ∈ t.place.toList) {Q : SetFound → Shared → Prop} (hQ : Ans knd L t k Q s) :
    ∀ (f c : Nat) (st : Option SetTable.Probe), st.getD (t.probeStart (tupleKeyHash knd k)) = stn t.mask (tupleKeyHash knd k) c → c ≤ n → n - c < f →
      (∀ (i : Nat) p, L[i]? = some p → p.2 = k → ∃ q, c ≤ q ∧ q < n ∧ t.place.toList[i]? = some (way t.mask (tupleKeyHash knd k) q)) →
      wpAny (model P w) A (setSearchFrom a (.ref x) (tupleKeyHash knd k) true f st) Q E s
  | 0, _, _, _, _, hlt, _ => absurd hlt (Nat.not_lt_zero _)
  | f + 1, c, st, hst, hc, hlt, hre => by
    obtain ⟨o, ho, hex, hd⟩ := R.ob
    have hash_at : ∀ (i : Nat) (p : Addr × List K), L[i]? = some p → (es[i]?.map fun e : Int × Value => e.1).getD 0 = tupleKeyHash knd p.2 := fun i p e => by
      rw [R.at_ e]
      rfl
    have same_hash : ∀ {i0 : Nat} {p0 : Addr × List K}, L[i0]? = some p0 → p0.2 = k → (es[i0]?.map fun e : Int × Value => e.1).getD 0 = tupleKeyHash knd k := fun h0 e0 => by rw [hash_at _ _ h0, e0]
    rw [setSearchFrom_succ]
    refine wpAny_bind (wpAny_setState_of ho hd R.fits ?_)
    dsimp only
    refine wp_if_neg R.odd ?_
    try refine wpAny_bind (wpAny_pure ?_)
    rw [hst]
    rcases probe_says (g := fun i => (es[i]?.map fun e : Int × Value => e.1).getD 0) R.tab hc hf hK hin with ⟨q, i, l1, l2, hi, hg, hno, e⟩ | ⟨hno, e⟩
    · rw [e]
      dsimp only
      have il : i < L.length := by
        rw [← R.slots]
        exact (List.getElem?_eq_some_iff.mp hi).1
      obtain ⟨p, hp⟩ : ∃ p, L[i]? = some p := ⟨L[i], List.getElem?_eq_getElem il⟩
      have pm : p ∈ L := List.mem_of_getElem? hp
      have live : t.slot (way t.mask (tupleKeyHash knd k) q) = .live i := slot_live R.tab.ris hi
      have on : wpAny (model P w) A (searchRest a (.ref x) (tupleKeyHash knd k) true f es t (way t.mask (tupleKeyHash knd k) q) i (stn t.mask (tupleKeyHash knd k) (q + 1))) Q E s := by
        unfold searchRest
        rw [R.at_ hp]
        dsimp only
        refine wpAny_bind (wpAny_holding (wpAny_eqBool_tuple hu (tup p pm) hx (wpAny_bind (wpAny_setState_of ho hd R.fits ?_))))
        dsimp only
        by_cases pk : p.2 = k
        · exact wp_if_pos (by rw [decide_eq_true pk]; rfl) (wpAny_pure (hQ.1 (List.mem_map.mpr ⟨p, pm, pk⟩)))
        · refine wp_if_neg (by rw [decide_eq_false pk]; decide) ?_
          try refine wpAny_bind (wpAny_pure ?_)
          rw [sameMem]
          dsimp only
          simp only [if_true, live, R.at_ hp]
          refine wpAny_bind (wpAny_isSame_ref_self (wpAny_bind (wpAny_pure ?_)))
          simp only [if_true]
          refine wp_if_neg (by rw [decide_eq_false pk]; decide) (search_go S R tup hx hu hf hK hin hQ f (q + 1) _ rfl (by omega) (by omega) fun i0 p0 h0 e0 => ?_)
          obtain ⟨q0, m1, m2, m3⟩ := hre i0 p0 h0 e0
          refine ⟨q0, Nat.lt_of_not_le fun le => ?_, m2, m3⟩
          rcases Nat.lt_or_eq_of_le le with lt | rfl
          · exact hno q0 i0 m1 lt m3 (same_hash h0 e0)
          · have two := (slot_live R.tab.ris m3).symm.trans live
            injection two with two
            rw [two, hp] at h0
            exact pk ((congrArg Prod.snd (Option.some.inj h0)).trans e0)
      by_cases ld : t.led = true
      · refine wp_if_neg (by rw [ld]; decide) ?_
        try refine wpAny_bind (wpAny_pure ?_)
        exact on
      · refine wp_if_pos (by simp [ld]) (wpAny_bind (unseen S hx (fun y hy => ?_) ?_))
        · obtain ⟨r, hr, rfl⟩ := List.mem_map.mp hy
          have hr2 : r ∈ es.toList := by
            have : r ∈ es ∧ r.1 = tupleKeyHash knd k := by simpa using hr
            simpa using this.1
          rw [R.rw_] at hr2
          obtain ⟨p2, m2, rfl⟩ := List.mem_map.mp hr2
          exact ⟨p2.2, p2.1, rfl, tup p2 m2⟩
        · refine wp_if_neg (by decide) ?_
          try refine wpAny_bind (wpAny_pure ?_)
          exact on
    · rw [e]
      dsimp only
      refine wpAny_pure (hQ.2 (fun hm => ?_) n hK hin)
      obtain ⟨p0, h0, e0⟩ := List.mem_map.mp hm
      obtain ⟨i0, hi0⟩ := List.getElem?_of_mem h0
      obtain ⟨q0, m1, m2, m3⟩ := hre i0 p0 hi0 e0
      exact hno q0 i0 m1 m2 m3 (same_hash hi0 e0)
theorem search_all (S : Scan knd) (R : Tab knd s.heap a L es ep t) (tup : ∀ p ∈ L, IsTupleKey knd s.heap p.2 p.1) {x : Addr} {k : List K} (hx : IsTupleKey knd s.heap k x) (hu : A.units < cLine) {Q : SetFound → Shared → Prop} (hQ : Ans knd L t k Q s) :
    wpAny (model P w) A (setSearch a (.ref x) (tupleKeyHash knd k) true) Q E s := by
  have rm := R.room
  obtain ⟨n, hf, hK, hin⟩ := R.tab.first (by rw [List.length_map]; omega) (tupleKeyHash knd k)
  have far : 10 * SetTable.turns t.mask ≤ 1420 := by
    unfold SetTable.turns
    rcases R.tab.mok with e | e | e <;> omega
  unfold setSearch
  refine search_go S R tup hx hu hf hK hin hQ 100000 0 none rfl (Nat.zero_le _) (by omega) fun i p hp e => ?_
  have hi : (L.map fun p => tupleKeyHash knd p.2)[i]? = some (tupleKeyHash knd k) := by
    rw [List.getElem?_map, hp, ← e]
    rfl
  have il : i < t.place.toList.length := by
    rw [R.slots]
    exact (List.getElem?_eq_some_iff.mp hp).1
  obtain ⟨q, hq, eq⟩ := R.tab.before hK hi (List.getElem?_eq_getElem il)
  exact ⟨q, Nat.zero_le _, hq, by rw [List.getElem?_eq_getElem il, eq]⟩

/-! ### laid anew, larger; put in -/
theorem rows_at {es : Array (Int × Value)} (hr : es.toList = rows knd L) (i : Nat) : es[i]? = (L[i]?).map fun p => (tupleKeyHash knd p.2, Value.ref p.1) := by
  rw [← Array.getElem?_toList, hr]
  exact List.getElem?_map ..
theorem range_back {α : Type} (l : List α) : ∀ n, n ≤ l.length → (List.range n).filterMap (fun i => l[i]?) = l.take n
  | 0, _ => by simp
  | n + 1, h => by
    have hn : n < l.length := h
    rw [List.range_succ, List.filterMap_append, range_back l n (Nat.le_of_lt hn), List.take_add_one, List.getElem?_eq_getElem hn]
    simp [List.getElem?_eq_getElem hn]
theorem by_order {es : Array (Int × Value)} (hr : es.toList = rows knd L) {order : Array Nat} (hp : order.toList.Perm (List.range L.length)) :
    ∃ L2 : List (Addr × List K), (order.filterMap (es[·]?)).toList = rows knd L2 ∧ L2.Perm L ∧ L2.map (fun p => tupleKeyHash knd p.2) = order.toList.map fun i => (es.map fun e : Int × Value => e.1).getD i 0 := by
  refine ⟨order.toList.filterMap (fun i => L[i]?), ?_, ?_, ?_⟩
  · have e : (fun i : Nat => es[i]?) = fun i : Nat => (L[i]?).map fun p : Addr × List K => (tupleKeyHash knd p.2, Value.ref p.1) := funext (rows_at hr)
    rw [Array.toList_filterMap, e]
    unfold rows
    rw [List.map_filterMap]
  · have h1 := hp.filterMap fun i => L[i]?
    rw [range_back L L.length (Nat.le_refl _), List.take_length] at h1
    exact h1
  · have each : ∀ l : List Nat, (∀ i ∈ l, i < L.length) → (l.filterMap fun i => L[i]?).map (fun p => tupleKeyHash knd p.2) = l.map fun i => (es.map fun e : Int × Value => e.1).getD i 0 := by
      intro l
      induction l with
      | nil => intro _; rfl
      | cons i l ih =>
        intro h
        have hi := h i List.mem_cons_self
        rw [List.filterMap_cons_some (List.getElem?_eq_getElem hi), List.map_cons, List.map_cons, ih fun j hj => h j (List.mem_cons_of_mem _ hj)]
        have q := rows_at hr i
        rw [List.getElem?_eq_getElem hi] at q
        congr 1
        simp [Array.getD_eq_getD_getElem?, q]
    exact each _ fun i hi => List.mem_range.mp (hp.mem_iff.mp hi)
theorem relay_tab {o : Obj} (ho : s.heap.get? a = some o) (hex : o.ExactSet) (hd : o.data = .set es ep t) (hr : es.toList = rows knd L) (hsz : t.place.size = es.size) (hdm : t.dummies = #[]) (hfl : es.size ≤ t.mask)
    (nd : (L.map (·.2)).Nodup) (led : w.params.followText "set-order" = true ∨ t.led = true) (few : L.length < 64) {wanted M : Nat} (hw : SetTable.sizeAbove wanted - 1 = M) (hM : MaskOk M) (hw2 : SetTable.sizeAbove wanted ≤ 128)
    (hn : L.length * 5 < M * 3) {Q : Unit → Shared → Prop} (hQ : ∀ h' L' es' ep' t', Heap.SameBut a s.heap h' → Tab knd h' a L' es' ep' t' → L'.Perm L → Q () { s with heap := h' }) : wpAny (model P w) A (setRelay a wanted) Q E s := by
  have cnt : es.size = L.length := by
    rw [← Array.length_toList, hr]
    exact List.length_map ..
  have fit : t.fits es.size = true := by
    unfold SetTable.fits SetTable.fill
    rw [hdm]
    simp
    omega
  obtain ⟨t', order, e, hp, T, em, el, _, _⟩ := relaid_ok t (hs := es.map fun e : Int × Value => e.1) (wanted := wanted) hw hM (by rw [Array.size_map]; omega)
  rw [Array.size_map, cnt] at hp
  obtain ⟨L2, r1, r2, r3⟩ := by_order hr hp
  rw [← r3] at T
  have cnt2 : (order.filterMap (es[·]?)).size = es.size := by
    rw [← Array.length_toList, r1, cnt, ← r2.length_eq]
    exact List.length_map ..
  rw [setRelay_eq]
  refine wpAny_bind (wpAny_setState_of ho hd fit ?_)
  dsimp only
  refine wp_if_neg (by rw [sizeLine_eq]; omega) ?_
  try refine wpAny_bind (wpAny_pure ?_)
  rw [e]
  dsimp only
  refine wpAny_bind (wp_if_neg (by rw [cnt2]; simp) ?_)
  try refine wpAny_bind (wpAny_pure ?_)
  refine wpAny_pure ?_
  dsimp only
  refine wpAny_storeSet_of ho hd ?_ (by rw [cnt2, cnt, sizeLine_eq]; omega)
  exact hQ _ L2 _ _ t' (Heap.SameBut.update ..) ⟨⟨_, store_at ho hd, ⟨hex.1, hex.2.1, hex.2.2⟩, rfl⟩, r1, T, (r2.map (·.2)).nodup_iff.mpr nd, by rw [el]; exact led, by rw [r2.length_eq, em]; exact hn, by rw [r2.length_eq]; exact few⟩ r2
theorem TabOk.off {t : SetTable} {hs : List Int} (T : TabOk t hs) : TabOk { t with plain := false } hs := ⟨T.ris, T.dm, T.sz, T.mok, T.bd, T.reach⟩
/-- what the set is behind a key was put in -/
def Put (knd : KeyKind P w K) (h h' : Heap) (a : Addr) (L : List (Addr × List K)) (x : Addr) (k : List K) (L' : List (Addr × List K)) : Prop :=
  Heap.SameBut a h h' ∧ (∃ es ep t, Tab knd h' a L' es ep t) ∧ (k ∈ L.map (·.2) → L' = L) ∧ (k ∉ L.map (·.2) → L'.Perm ((x, k) :: L))
theorem add_tab (S : Scan knd) (R : Tab knd s.heap a L es ep t) (tup : ∀ p ∈ L, IsTupleKey knd s.heap p.2 p.1) {x : Addr} {k : List K} (hx : IsTupleKey knd s.heap k x) (hu : A.units < cLine) (room : L.length + 1 < 64) {Q : Bool → Shared → Prop}
    (hQ : ∀ b h' L', Put knd s.heap h' a L x k L' → Q b { s with heap := h' }) : wpAny (model P w) A (setAddHashed a (.ref x) (tupleKeyHash knd k)) Q E s := by
  obtain ⟨o, ho, hex, hd⟩ := R.ob
  have cnt := R.count
  have rm := R.room
  unfold setAddHashed
  refine wpAny_holding ?_
  rw [show (100000 : Nat) = 99999 + 1 from rfl, setAddHashedIn_succ]
  refine wpAny_bind (wpAny_setState_of ho hd R.fits ?_)
  dsimp only
  refine wp_if_neg (by simp [byScan, Value.scannable]) ?_
  try refine wpAny_bind (wpAny_pure ?_)
  refine wpAny_bind (search_all S R tup hx hu ⟨fun hm => ?_, fun hm n hK hin => ?_⟩)
  · exact wpAny_pure (hQ false s.heap L ⟨Heap.SameBut.refl a s.heap, ⟨es, ep, t, R⟩, fun _ => rfl, fun z => absurd hm z⟩)
  · dsimp only
    refine wpAny_bind (wpAny_setState_of ho hd R.fits ?_)
    dsimp only
    obtain ⟨q1, q2, q3, q4, q5, q6, q7, q8, q9⟩ := R.tab.put hK hin
    obtain ⟨i, ei⟩ : ∃ i, i = SetTable.below t.place (way t.mask (tupleKeyHash knd k) n) := ⟨_, rfl⟩
    obtain ⟨L1, e1⟩ : ∃ L1, L1 = L.take i ++ (x, k) :: L.drop i := ⟨_, rfl⟩
    have pm : L1.Perm ((x, k) :: L) := by
      have z : (L.take i ++ (x, k) :: L.drop i).Perm ((x, k) :: (L.take i ++ L.drop i)) := List.perm_middle
      rw [List.take_append_drop] at z
      rw [e1]
      exact z
    have len1 : L1.length = L.length + 1 := pm.length_eq
    have hin1 : (SetTable.insertAt es (t.put (way t.mask (tupleKeyHash knd k) n)).snd (tupleKeyHash knd k, Value.ref x)).toList = rows knd L1 := by
      rw [q1, ← ei, SetTable.toList_insertAt, R.rw_, e1]
      unfold rows
      rw [List.map_append, List.map_cons, List.map_take, List.map_drop]
    have hs1 : L1.map (fun p => tupleKeyHash knd p.2) = (L.map fun p => tupleKeyHash knd p.2).take i ++ tupleKeyHash knd k :: (L.map fun p => tupleKeyHash knd p.2).drop i := by
      rw [e1, List.map_append, List.map_cons, List.map_take, List.map_drop]
    rw [← ei, ← hs1] at q3
    rw [List.length_map] at q9
    have nd1 : (L1.map (·.2)).Nodup := (pm.map (·.2)).nodup_iff.mpr (List.nodup_cons.mpr ⟨hm, R.nd⟩)
    generalize SetTable.insertAt es (t.put (way t.mask (tupleKeyHash knd k) n)).snd (tupleKeyHash knd k, Value.ref x) = es1 at hin1 ⊢
    have cnt1 : es1.size = L.length + 1 := by
      rw [← Array.length_toList, hin1, ← len1]
      exact List.length_map ..
    have tail : ∀ t1 : SetTable, TabOk t1 (L1.map fun p => tupleKeyHash knd p.2) → t1.mask = t.mask → t1.led = t.led → t1.fill = L.length + 1 →
        wpAny (model P w) A (do
          storeSet a es1 t1
          if (!false && t1.tooFull) = true then do
            setRelay a (SetTable.grown (es.size + 1))
            pure true
          else pure true) Q E s := by
      intro t1 T1 m1 l1 f1
      refine wpAny_bind (wpAny_storeSet_of ho hd ?_ (by rw [cnt1, sizeLine_eq]; omega))
      have ho1 := store_at (es' := es1) (t' := t1) ho hd
      have sb : Heap.SameBut a s.heap (s.heap.update a (Obj.putSet es1 t1)) := Heap.SameBut.update ..
      have led1 : w.params.followText "set-order" = true ∨ t1.led = true := by rw [l1]; exact R.led
      by_cases full : t1.tooFull = true
      · refine wp_if_pos (by rw [full]; rfl) ?_
        have big : (L.length + 1) * 5 ≥ t1.mask * 3 := by
          have z := full
          unfold SetTable.tooFull at z
          rw [decide_eq_true_eq, f1] at z
          exact z
        have two : (t.mask = 7 ∧ L.length = 4) ∨ (t.mask = 31 ∧ L.length = 18) := by
          rcases R.tab.mok with e | e | e
          · rw [m1, e] at big; rw [e] at rm; exact .inl ⟨e, by omega⟩
          · rw [m1, e] at big; rw [e] at rm; exact .inr ⟨e, by omega⟩
          · rw [m1, e] at big; omega
        have sz1 : t1.place.size = es1.size := by rw [T1.sz, List.length_map, len1, cnt1]
        have go : ∀ M, SetTable.sizeAbove (SetTable.grown (L.length + 1)) = M + 1 → MaskOk M → M ≤ 127 → (L.length + 1) * 5 < M * 3 → wpAny (model P w) A (setRelay a (SetTable.grown (es.size + 1)))
            (fun _ z => wpAny (model P w) A (pure true) Q E z) E { s with heap := s.heap.update a (Obj.putSet es1 t1) } := fun M g1 g2 g3 g4 => by
          rw [cnt]
          refine relay_tab (s := { s with heap := s.heap.update a (Obj.putSet es1 t1) }) ho1 ⟨hex.1, hex.2.1, hex.2.2⟩ rfl hin1 sz1 T1.dm (by rw [cnt1, m1]; omega) nd1 led1 (by rw [len1]; exact room) (M := M) (by omega) g2 (by omega) (by rw [len1]; exact g4) fun h2 L2 es2 ep2 t2 sb2 R2 pm2 => ?_
          exact wpAny_pure (hQ true h2 L2 ⟨sb.trans sb2, ⟨es2, ep2, t2, R2⟩, fun z => absurd z hm, fun _ => pm2.trans pm⟩)
        refine wpAny_bind ?_
        rcases two with ⟨_, e2⟩ | ⟨_, e2⟩
        · exact go 31 (by rw [e2]; exact size_20) (.inr (.inl rfl)) (by decide) (by omega)
        · exact go 127 (by rw [e2]; exact size_76) (.inr (.inr rfl)) (by decide) (by omega)
      · refine wp_if_neg (by simp [full]) (wpAny_pure (hQ true _ L1 ⟨sb, ⟨es1, _, t1, ⟨_, ho1, ⟨hex.1, hex.2.1, hex.2.2⟩, rfl⟩, hin1, T1, nd1, led1, ?_, by rw [len1]; exact room⟩, fun z => absurd z hm, fun _ => pm⟩))
        have z := full
        unfold SetTable.tooFull at z
        rw [decide_eq_true_eq, f1] at z
        rw [len1]
        omega
    generalize (t.put (way t.mask (tupleKeyHash knd k) n)).fst = t1 at q3 q4 q5 q6 q9 ⊢
    by_cases pl : t1.plain = true
    · refine wp_if_pos pl (wpAny_bind (hbv_tup S hx fun c => ?_))
      cases c with
      | true =>
        simp only [if_true]
        exact tail t1 q3 q4 q5 q9
      | false =>
        simp only [Bool.false_eq_true, if_false]
        exact tail _ (TabOk.off q3) q4 q5 q9
    · refine wp_if_neg pl (wpAny_bind (wpAny_pure ?_))
      simp only [if_true]
      exact tail t1 q3 q4 q5 q9
end
end My

/-! MyOrd: the order of texts, of tuples of texts; sorted lists without equal items are one -/
namespace My
open PySem PySem.Spec PyProof.Rows L2
/-- a strict order in which any two are the same or one is less -/
structure Tot {α : Type} (lt : α → α → Bool) : Prop where
  irr : ∀ x, lt x x = false
  tri : ∀ x y, lt x y = false → lt y x = false → x = y
  trans : ∀ x y z, lt x y = true → lt y z = true → lt x z = true
theorem Tot.asym {α : Type} {lt : α → α → Bool} (T : Tot lt) {x y : α} (h : lt x y = true) : lt y x = false := by
  cases q : lt y x with
  | false => rfl
  | true =>
    have z := T.trans x y x h q
    rw [T.irr] at z
    cases z
theorem Tot.swo {α : Type} {lt : α → α → Bool} (T : Tot lt) : SrtO.Swo lt := ⟨fun x y h => T.asym h, fun x y z h1 h2 => by
  cases q : lt z x with
  | false => rfl
  | true =>
    cases r : lt y z with
    | true =>
      have c := T.trans y z x r q
      rw [h1] at c
      cases c
    | false =>
      obtain rfl := T.tri y z r h2
      rw [q] at h1
      cases h1⟩
theorem Tot.of_inj {α β : Type} {lt : β → β → Bool} (T : Tot lt) (f : α → β) (inj : ∀ x y, f x = f y → x = y) : Tot fun x y => lt (f x) (f y) :=
  ⟨fun x => T.irr _, fun x y h1 h2 => inj _ _ (T.tri _ _ h1 h2), fun x y z => T.trans _ _ _⟩
/-- lists by their first unlike items -/
def lexL {α : Type} [DecidableEq α] (lt : α → α → Bool) : List α → List α → Bool
  | [], [] => false
  | [], _ :: _ => true
  | _ :: _, [] => false
  | x :: xs, y :: ys => if x = y then lexL lt xs ys else lt x y
theorem Tot.lex {α : Type} [DecidableEq α] {lt : α → α → Bool} (T : Tot lt) : Tot (lexL lt) := by
  refine ⟨fun x => ?_, fun x => ?_, fun x => ?_⟩
  · induction x with
    | nil => rfl
    | cons a x ih => unfold lexL; rw [if_pos rfl]; exact ih
  · induction x with
    | nil =>
      intro y h1 h2
      cases y with
      | nil => rfl
      | cons b y => cases h1
    | cons a x ih =>
      intro y h1 h2
      cases y with
      | nil => cases h2
      | cons b y =>
        unfold lexL at h1 h2
        by_cases e : a = b
        · subst e
          rw [if_pos rfl] at h1 h2
          rw [ih y h1 h2]
        · rw [if_neg e] at h1
          rw [if_neg (fun z => e z.symm)] at h2
          exact absurd (T.tri a b h1 h2) e
  · induction x with
    | nil =>
      intro y z h1 h2
      cases y with
      | nil => cases h1
      | cons b y =>
        cases z with
        | nil => cases h2
        | cons c z => rfl
    | cons a x ih =>
      intro y z h1 h2
      cases y with
      | nil => cases h1
      | cons b y =>
        cases z with
        | nil => cases h2
        | cons c z =>
          unfold lexL at h1 h2 ⊢
          by_cases e1 : a = b
          · subst e1
            rw [if_pos rfl] at h1
            by_cases e2 : a = c
            · subst e2
              rw [if_pos rfl] at h2 ⊢
              exact ih y z h1 h2
            · rw [if_neg e2] at h2 ⊢
              exact h2
          · rw [if_neg e1] at h1
            by_cases e2 : b = c
            · subst e2
              rw [if_neg e1]
              exact h1
            · rw [if_neg e2] at h2
              have h3 := T.trans a b c h1 h2
              have e3 : ¬ a = c := fun q => by
                subst q
                rw [T.irr] at h3
                cases h3
              rw [if_neg e3]
              exact h3
theorem tot_nat : Tot fun x y : Nat => decide (x < y) := ⟨fun x => by simp, fun x y h1 h2 => by simp at h1 h2; omega, fun x y z h1 h2 => by simp at h1 h2 ⊢; omega⟩
/-- the order of texts -/
def ltS (x y : Str) : Bool := lexL (fun a b : Nat => decide (a < b)) x.cps.toList y.cps.toList
theorem tot_str : Tot ltS := tot_nat.lex.of_inj (fun x : Str => x.cps.toList) fun x y h => by
  obtain ⟨⟨x⟩⟩ := x
  obtain ⟨⟨y⟩⟩ := y
  simp at h
  rw [h]
/-- the order of tuples of texts -/
def ltK (x y : List Str) : Bool := lexL ltS x y
theorem tot_key : Tot ltK := tot_str.lex
theorem lt_list : ∀ x y : List Nat, decide (x < y) = lexL (fun a b : Nat => decide (a < b)) x y
  | [], [] => by simp [lexL]
  | [], b :: y => by simp [lexL]
  | a :: x, [] => by simp [lexL]
  | a :: x, b :: y => by
    unfold lexL
    by_cases e : a = b
    · subst e
      rw [if_pos rfl, ← lt_list x y]
      simp [List.cons_lt_cons_iff]
    · rw [if_neg e]
      simp [List.cons_lt_cons_iff, e]
theorem ltS_eq (x y : Str) : decide (x.cps.toList < y.cps.toList) = ltS x y := lt_list _ _
/-- ascending without equal ones -/
def Asc {α : Type} (lt : α → α → Bool) (l : List α) : Prop := l.Pairwise fun x y => lt x y = true
theorem asc_nodup {α : Type} {lt : α → α → Bool} (T : Tot lt) {l : List α} (h : Asc lt l) : l.Nodup := List.Pairwise.imp (fun {x y} q e => by
  subst e
  rw [T.irr] at q
  cases q) h
/-- there is just one such list of some members -/
theorem asc_uniq {α : Type} {lt : α → α → Bool} (T : Tot lt) : ∀ {l m : List α}, Asc lt l → Asc lt m → (∀ x, x ∈ l ↔ x ∈ m) → l = m
  | [], [], _, _, _ => rfl
  | [], y :: m, _, _, h => absurd ((h y).mpr List.mem_cons_self) (by simp)
  | x :: l, [], _, _, h => absurd ((h x).mp List.mem_cons_self) (by simp)
  | x :: l, y :: m, hl, hm, h => by
    have hl' := List.pairwise_cons.mp hl
    have hm' := List.pairwise_cons.mp hm
    have e : x = y := by
      rcases List.mem_cons.mp ((h x).mp List.mem_cons_self) with e | hx
      · exact e
      · rcases List.mem_cons.mp ((h y).mpr List.mem_cons_self) with e | hy
        · exact e.symm
        · have a := T.asym (hl'.1 y hy)
          rw [hm'.1 x hx] at a
          cases a
    subst e
    rw [asc_uniq T hl'.2 hm'.2 fun z => ⟨fun hz => ?_, fun hz => ?_⟩]
    · rcases List.mem_cons.mp ((h z).mp (List.mem_cons_of_mem _ hz)) with q | q
      · subst q
        have a := hl'.1 z hz
        rw [T.irr] at a
        cases a
      · exact q
    · rcases List.mem_cons.mp ((h z).mpr (List.mem_cons_of_mem _ hz)) with q | q
      · subst q
        have a := hm'.1 z hz
        rw [T.irr] at a
        cases a
      · exact q
/-- sorted, all unlike: ascending -/
theorem asc_of {α : Type} {lt : α → α → Bool} (T : Tot lt) {l : List α} (hs : l.Pairwise fun x y => lt y x = false) (nd : l.Nodup) : Asc lt l := by
  have h := List.pairwise_and_iff.mpr ⟨hs, nd⟩
  refine List.Pairwise.imp (fun {x y} q => ?_) h
  cases z : lt x y with
  | true => rfl
  | false => exact absurd (T.tri x y z q.1) q.2
end My

/-! MySrt: how texts and tuples of texts compare in a sort -/
namespace My
open PySem PySem.Spec PyProof.Rows L2
def sOf : Value → Str
  | .str x _ => x
  | _ => Str.empty
section
variable {P : Program} {w : World} {A : Around} {E : Value → Shared → Prop} {s : Shared}
theorem one_str (c : Bool) {x y : Str} {t u : Tok} {Q : Bool → Shared → Prop} (h : Q (ltS x y) s) : wpAny (model P w) A (oneLt' c (.str x t) (.str y u)) Q E s := by
  rw [← ltS_eq] at h
  cases c with
  | true => exact oneLt_str h
  | false => exact PySem.W.kat_one _ _ (PySem.P.lt_str (Q := PySem.W.BoolBack Q) h)
/-- texts can be sorted -/
theorem sortable_strs {a : Addr} {vs : List Value} (h2 : 2 ≤ vs.length) (hv : ∀ v ∈ vs, ∃ x t, v = Value.str x t) : SrtO.SortableO P w A s a vs fun v u => ltS (sOf v) (sOf u) := by
  intro h' _
  refine ⟨oneType', fun Q E hq => PySem.W.kas_kind (T := .type "str") h2 (fun v hm => ?_) (by rfl) (by rfl) hq, fun p q hp hq => ?_⟩
  · obtain ⟨x, t, rfl⟩ := hv v hm
    exact PySem.W.Looks.now
  · obtain ⟨x, t, e1⟩ := hv _ hp
    obtain ⟨y, u, e2⟩ := hv _ hq
    rw [keyLt'_oneType, e1, e2]
    refine one_str true ⟨rfl, ?_⟩
    show _ = ltS (sOf p.1) (sOf q.1)
    rw [e1, e2]
    rfl
theorem lex_strs {b fin : Bool} {Q : Bool → Shared → Prop} : ∀ {xs ys : List Value} {ns ms : List Str} (i : Nat), StrsAre xs ns → StrsAre ys ms → fin = decide (xs.length < ys.length) → Q (ltK ns ms) s → PySem.W.KatLex P w A b fin Q (xs.zip ys) i s
  | [], [], _, _, _, .nil, .nil, hf, h => by
    rw [hf]
    exact h
  | [], _ :: _, _, _, _, .nil, .cons _ _ _, hf, h => by
    rw [hf]
    exact h
  | _ :: _, [], _, _, _, .cons _ _ _, .nil, hf, h => by
    rw [hf]
    exact h
  | _ :: xs, _ :: ys, _, _, i, .cons x t hx, .cons y u hy, hf, h => by
    refine PySem.W.kat_cons (wpAny_eqBool_str ?_)
    refine PySem.W.kat_go (fun e => ?_) (fun e => ?_)
    · have exy := of_decide_eq_true e
      subst exy
      refine PySem.W.kat_yes (lex_strs (i + 1) hx hy (by rw [hf]; simp) ?_)
      unfold ltK lexL at h
      rw [if_pos rfl] at h
      exact h
    · have exy := of_decide_eq_false e
      refine PySem.W.kat_no (one_str _ ?_)
      unfold ltK lexL at h
      rw [if_neg exy] at h
      exact h
/-- at v: a tuple of the texts k -/
def TupK (h : Heap) (v : Value) (k : List Str) : Prop := ∃ a o its n, v = Value.ref a ∧ h.get? a = some o ∧ o.cls = .type "tuple" ∧ o.data = .seq its n ∧ StrsAre its.toList k
theorem TupK.keeps {h h' : Heap} {v : Value} {k : List Str} (x : TupK h v k) (kp : ∀ b o, h.get? b = some o → o.cls = .type "tuple" → h'.get? b = some o) : TupK h' v k := by
  obtain ⟨a, o, its, n, e, ho, hc, r⟩ := x
  exact ⟨a, o, its, n, e, kp _ _ ho hc, hc, r⟩
theorem firsts_str {h : Heap} {k : Value → List Str} : ∀ {vs : List Value}, (∀ v ∈ vs, TupK h v (k v) ∧ k v ≠ []) → ∃ fs : List Value, PySem.W.KatTups h vs fs ∧ fs.length = vs.length ∧ ∀ f ∈ fs, ∃ x t, f = Value.str x t
  | [], _ => ⟨[], PySem.W.KatTups.nil, rfl, fun _ m => nomatch m⟩
  | v :: vs, hp => by
    obtain ⟨fs, h1, h2, h3⟩ := firsts_str fun u m => hp u (List.mem_cons_of_mem _ m)
    obtain ⟨⟨a, o, its, n, rfl, ho, hc, hd, hS⟩, ne⟩ := hp v List.mem_cons_self
    obtain ⟨l⟩ := its
    cases hk : k (.ref a) with
    | nil => exact absurd hk ne
    | cons x ks =>
      rw [hk] at hS
      cases hS with
      | cons y t r => exact ⟨.str x t :: fs, PySem.W.KatTups.cons ho hc hd rfl h1, by rw [List.length_cons, List.length_cons, h2], fun f m => (List.mem_cons.mp m).elim (fun e => ⟨_, _, e⟩) (h3 f)⟩
/-- tuples of texts can be sorted -/
theorem sortable_tups {a : Addr} {vs : List Value} {k : Value → List Str} (h0 : 0 < vs.length) (hp : ∀ v ∈ vs, TupK s.heap v (k v) ∧ k v ≠ []) (ha : ∀ o, s.heap.get? a = some o → o.cls ≠ .type "tuple") :
    SrtO.SortableO P w A s a vs fun v u => ltK (k v) (k u) := by
  intro h' keep
  have hp' : ∀ v ∈ vs, TupK h' v (k v) ∧ k v ≠ [] := fun v hm => ⟨(hp v hm).1.keeps fun b o e c => keep b o (fun z => ha o (by rw [← z]; exact e) c) e, (hp v hm).2⟩
  obtain ⟨fs, h1, h2, h3⟩ := firsts_str hp'
  refine ⟨tuples' true, fun Q E hq => ?_, fun p q hm hm' => ?_⟩
  · refine PySem.W.kat_kind (T := .type "str") h1 (by omega) (fun f hm => ?_) (by rfl) ?_
    · obtain ⟨x, t, rfl⟩ := h3 f hm
      exact PySem.W.Looks.now
    · have e : (Value.type "str" != Value.type "tuple") = true := by decide +kernel
      rw [e]
      exact hq
  · obtain ⟨a1, o1, i1, n1, e1, g1, c1, d1, S1⟩ := (hp' _ hm).1
    obtain ⟨a2, o2, i2, n2, e2, g2, c2, d2, S2⟩ := (hp' _ hm').1
    show wpAny (model P w) A (keyLt' (tuples' true) p.1 q.1) (fun r s' => s' = _ ∧ r = ltK (k p.1) (k q.1)) _ _
    generalize k p.1 = k1 at S1 ⊢
    generalize k q.1 = k2 at S2 ⊢
    rw [e1, e2]
    exact PySem.W.kat_lt g1 d1 g2 d2 (lex_strs 0 S1 S2 (by simp) ⟨rfl, rfl⟩)
end
end My

/-! MySS: sets of texts: what is in them, put in -/
namespace My
open PySem PySem.Spec PyProof.Rows L2
def eS (e : Int × Value) : Str := sOf e.2
def GoodS (w : World) (e : Int × Value) : Prop := ∃ x tk, e = (hashStr w x, Value.str x tk)
/-- the object at a is a set of the texts xs, in the rows' order -/
structure TabS (w : World) (h : Heap) (a : Addr) (xs : List Str) (es : Array (Int × Value)) (ep : Nat) (t : SetTable) : Prop where
  ob : ∃ o, h.get? a = some o ∧ o.ExactSet ∧ o.data = .set es ep t
  good : ∀ e ∈ es.toList, GoodS w e
  eq : es.toList.map eS = xs
  nd : xs.Nodup
  fit : t.fits es.size = true
  ris : Ris t.place.toList
  led : w.params.followText "set-order" = true ∨ t.led = true
  few : xs.length < 64
section
variable {P : Program} {w : World} {A : Around} {E : Value → Shared → Prop} {s : Shared} {a : Addr} {xs : List Str} {es : Array (Int × Value)} {ep : Nat} {t : SetTable}
theorem goodS_elems {l : List (Int × Value)} (g : ∀ e ∈ l, GoodS w e) : ElemsOf (PySem.strKind P w) l := fun e he => by
  obtain ⟨x, tk, rfl⟩ := g e he
  exact ⟨⟨x, strKind_is P w x tk, rfl⟩, rfl⟩
theorem goodS_is {e : Int × Value} (g : GoodS w e) (k : Str) : (PySem.strKind P w).is k e.2 = true ↔ eS e = k := by
  obtain ⟨x, tk, rfl⟩ := g
  show Value.isStrOf k (.str x tk) = true ↔ x = k
  simp [Value.isStrOf]
theorem TabS.count {h : Heap} (R : TabS w h a xs es ep t) : es.size = xs.length := by
  rw [← R.eq, List.length_map, Array.length_toList]
/-- what the set is behind a text was put in -/
def PutS (w : World) (h h' : Heap) (a : Addr) (xs : List Str) (k : Str) (xs' : List Str) : Prop :=
  Heap.SameBut a h h' ∧ (∃ es ep t, TabS w h' a xs' es ep t) ∧ (k ∈ xs → xs' = xs) ∧ (k ∉ xs → xs'.Perm (k :: xs))
/-- the rows stored, laid anew where they are many -/
theorem store_strs {g : Bool → Sem Unit} (hg : ∀ (b : Bool) (z : Shared) (Q' : Unit → Shared → Prop), Q' () z → wpAny (model P w) A (g b) Q' E z) {o : Obj} (ho : s.heap.get? a = some o) (hex : o.ExactSet) (hd : o.data = .set es ep t)
    {es1 : Array (Int × Value)} {t1 : SetTable} (good : ∀ e ∈ es1.toList, GoodS w e) (nd : (es1.toList.map eS).Nodup) (few : es1.size < 64) (fit : t1.fits es1.size = true) (ris : Ris t1.place.toList)
    (led : w.params.followText "set-order" = true ∨ t1.led = true) {dummy : Bool} {R : Option Bool → Shared → Prop}
    (hR : ∀ h' xs', Heap.SameBut a s.heap h' → (∃ es ep t, TabS w h' a xs' es ep t) → xs'.Perm (es1.toList.map eS) → R (some true) { s with heap := h' }) :
    wpAny (model P w) A (do
      storeSet a es1 t1
      if (!dummy && t1.tooFull) = true then do
        g (relayAll t1 es1 (SetTable.grown es1.size)).2.2
        storeSet a (relayAll t1 es1 (SetTable.grown es1.size)).1 (relayAll t1 es1 (SetTable.grown es1.size)).2.1
        pure (some true)
      else pure (some true)) R E s := by
  have few' : es1.size < scanBound := by unfold scanBound; omega
  refine wpAny_bind (wpAny_storeSet_of ho hd ?_ (fits_of_scanBound few'))
  have ho1 := store_at (es' := es1) (t' := t1) ho hd
  have sb := Heap.SameBut.update s.heap a (Obj.putSet es1 t1)
  split
  · have pm := relayAll_perm t1 es1 (SetTable.grown es1.size)
    have f2 := relayAll_fits t1 es1 (SetTable.grown es1.size)
    have r2 := relayAll_ris t1 es1 (SetTable.grown es1.size)
    have l2 := relayAll_led t1 es1 (SetTable.grown es1.size)
    generalize relayAll t1 es1 (SetTable.grown es1.size) = Z at pm f2 r2 l2 ⊢
    obtain ⟨es2, t2, gave⟩ := Z
    dsimp only at pm f2 r2 l2 ⊢
    have cnt : es2.size = es1.size := by rw [← Array.length_toList, pm.length_eq, Array.length_toList]
    refine wpAny_bind (hg _ _ _ (wpAny_bind (wpAny_storeSet_of ho1 rfl ?_ (fits_of_scanBound (by rw [cnt]; exact few')))))
    refine wpAny_pure (hR _ _ (sb.trans (Heap.SameBut.update _ a _)) ⟨es2, _, t2, ⟨_, store_at ho1 rfl, hex, rfl⟩, fun e he => good e (pm.mem_iff.mp he), rfl, (pm.map eS).nodup_iff.mpr nd, f2, r2, by rw [l2]; exact led, ?_⟩ (pm.map eS))
    rw [List.length_map, Array.length_toList, cnt]
    exact few
  · refine wpAny_pure (hR _ _ sb ⟨es1, _, t1, ⟨_, ho1, hex, rfl⟩, good, rfl, nd, fit, ris, led, ?_⟩ (List.Perm.refl _))
    rw [List.length_map, Array.length_toList]
    exact few
theorem add_str (R : TabS w s.heap a xs es ep t) (room : xs.length + 1 < 64) {k : Str} {tk : Tok} {Q : Bool → Shared → Prop} (hQ : ∀ b h' xs', PutS w s.heap h' a xs k xs' → Q b { s with heap := h' }) :
    wpAny (model P w) A (setAddHashed a (.str k tk) (hashStr w k)) Q E s := by
  obtain ⟨o, ho, hex, hd⟩ := R.ob
  have cnt := R.count
  have el : ElemsOf (PySem.strKind P w) es.toList := goodS_elems R.good
  have hkey : (PySem.strKind P w).is k (.str k tk) = true := strKind_is P w k tk
  have hsc : (Value.str k tk).scannable = true := rfl
  have small : es.size < scanBound := by unfold scanBound; omega
  have quiet : ∀ (b : Bool) (z : Shared) (Q' : Unit → Shared → Prop), Q' () z → wpAny (model P w) A (match b with | true => rule "set.scan.the-table-gave-way" | false => pure ()) Q' E z :=
    fun b z Q' q => by cases b <;> first | exact wpAny_pure q | exact wpAny_rule q
  unfold setAddHashed setAddHashedIn
  refine wpAny_holding (wpAny_bind (wpAny_setState_of ho hd R.fit ?_))
  dsimp only
  rw [byScan_of hsc small el]
  simp only [↓reduceIte]
  unfold setAddByScan
  refine wpAny_bind (wpAny_bind (wpAny_rule (wpAny_bind (wpAny_setScan_of hkey ho hd R.fit el ?_))))
  cases hfi : List.findIdx? (fun e => (PySem.strKind P w).is k e.2) es.toList with
  | some j =>
    dsimp only
    obtain ⟨hj, pj, _⟩ := List.findIdx?_eq_some_iff_getElem.mp hfi
    have mem : k ∈ xs := by
      rw [← R.eq]
      exact List.mem_map.mpr ⟨es.toList[j], List.getElem_mem hj, (goodS_is (P := P) (R.good _ (List.getElem_mem hj)) k).mp pj⟩
    exact wpAny_pure (wpAny_pure (hQ _ s.heap xs ⟨Heap.SameBut.refl a s.heap, ⟨es, ep, t, R⟩, fun _ => rfl, fun z => absurd mem z⟩))
  | none =>
    dsimp only
    have nm : k ∉ xs := fun z => by
      rw [← R.eq] at z
      obtain ⟨e, he, q⟩ := List.mem_map.mp z
      have c := List.findIdx?_eq_none_iff.mp hfi e he
      rw [(goodS_is (P := P) (R.good e he) k).mpr q] at c
      cases c
    have pm := layNew_perm t es (hashStr w k) (.str k tk)
    have f1 := layNew_fits t es (hashStr w k) (.str k tk)
    have r1 := layNew_ris t es (hashStr w k) (.str k tk) R.ris
    have l1 := layNew_led t es (hashStr w k) (.str k tk)
    generalize layNew t es (hashStr w k) (.str k tk) = Z at pm f1 r1 l1 ⊢
    obtain ⟨es1, t1, dummy, gave⟩ := Z
    dsimp only at pm f1 r1 l1 ⊢
    rw [Array.toList_push] at pm
    have pc : es1.toList.Perm ((hashStr w k, Value.str k tk) :: es.toList) := pm.trans (List.perm_append_singleton _ _)
    have pk : (es1.toList.map eS).Perm (k :: xs) := by
      have z := pc.map eS
      rw [List.map_cons, R.eq] at z
      exact z
    have good : ∀ e ∈ es1.toList, GoodS w e := fun e he => (List.mem_cons.mp (pc.mem_iff.mp he)).elim (fun z => ⟨k, tk, z⟩) (R.good e)
    have nd : (es1.toList.map eS).Nodup := pk.nodup_iff.mpr (List.nodup_cons.mpr ⟨nm, R.nd⟩)
    have few : es1.size < 64 := by
      have z := pc.length_eq
      rw [Array.length_toList, List.length_cons, Array.length_toList] at z
      omega
    have led : w.params.followText "set-order" = true ∨ t1.led = true := R.led.imp id fun z => by rw [l1]; exact z
    have fin : ∀ h' xs', Heap.SameBut a s.heap h' → (∃ es ep t, TabS w h' a xs' es ep t) → xs'.Perm (es1.toList.map eS) → Q true { s with heap := h' } := fun h' xs' sb r p => hQ true h' xs' ⟨sb, r, fun z => absurd z nm, fun _ => p.trans pk⟩
    refine wpAny_bind (quiet _ _ _ ?_)
    split
    · refine wpAny_bind ?_
      rw [hashByValue_scannable 8 hsc]
      refine wpAny_pure (store_strs quiet ho hex hd good nd few ?_ ?_ ?_ fun h' xs' sb r p => wpAny_pure (fin h' xs' sb r p))
      · first | (split <;> first | exact f1 | exact SetTable.fits_plain_off f1) | exact f1
      · first | (split <;> exact r1) | exact r1
      · first | (split <;> exact led) | exact led
    · refine wpAny_bind (wpAny_pure ?_)
      simp only [↓reduceIte]
      exact store_strs quiet ho hex hd good nd few f1 r1 led fun h' xs' sb r p => wpAny_pure (fin h' xs' sb r p)
end
end My

/-! MySet: sets of texts and of tuples of texts in the abstract heap; sorted(a set) -/
namespace My
open PySem PySem.Spec PyProof.Rows L2
/-- a set of the texts xs | of the tuples L (address, texts) stands at a -/
def SetS (w : World) (a : Addr) (xs : List Str) : HO := .ext fun h => ∃ es ep t, TabS w h a xs es ep t
def SetT (P : Program) (w : World) (a : Addr) (L : List (Addr × List Str)) : HO := .ext fun h => ∃ es ep t, Tab (PySem.strKind P w) h a L es ep t
/-- .. of the tuples L (address, ints and texts) -/
def SetM (P : Program) (w : World) (a : Addr) (L : List (Addr × List Key)) : HO := .ext fun h => ∃ es ep t, Tab (mixKind P w) h a L es ep t
section
variable {P : Program} {w : World} {A : Around} {E : Value → Shared → Prop} {s : Shared} {h h' : Heap} {H : Hp} {a : Addr} {xs : List Str} {L : List (Addr × List Str)} {es : Array (Int × Value)} {ep : Nat} {t : SetTable}
theorem TabS.at_ (R : TabS w h a xs es ep t) (k : ∀ o, h.get? a = some o → h'.get? a = some o) : TabS w h' a xs es ep t := by
  obtain ⟨o, ho, r⟩ := R.ob
  exact ⟨⟨o, k o ho, r⟩, R.good, R.eq, R.nd, R.fit, R.ris, R.led, R.few⟩
theorem Tab.to (R : Tab (PySem.strKind P w) h a L es ep t) (k : ∀ o, h.get? a = some o → h'.get? a = some o) : Tab (PySem.strKind P w) h' a L es ep t := by
  obtain ⟨o, ho, r⟩ := R.ob
  exact ⟨⟨o, k o ho, r⟩, R.rw_, R.tab, R.nd, R.led, R.room, R.few⟩
theorem Tab.toM {L : List (Addr × List Key)} (R : Tab (mixKind P w) h a L es ep t) (k : ∀ o, h.get? a = some o → h'.get? a = some o) : Tab (mixKind P w) h' a L es ep t := by
  obtain ⟨o, ho, r⟩ := R.ob
  exact ⟨⟨o, k o ho, r⟩, R.rw_, R.tab, R.nd, R.led, R.room, R.few⟩
theorem setM_ok {L : List (Addr × List Key)} (R : ∃ es ep t, Tab (mixKind P w) h a L es ep t) : ObjOk P w H h a (SetM P w a L) := by
  refine ⟨R, ?_, fun h1 h2 ⟨es, ep, t, q⟩ k => ⟨es, ep, t, q.toM k⟩⟩
  obtain ⟨_, _, _, q⟩ := R
  obtain ⟨o, ho, _⟩ := q.ob
  exact ⟨o, ho⟩
theorem setM_at {L : List (Addr × List Key)} (ok : HOk P w H h) (e : H a = some (SetM P w a L)) : ∃ es ep t, Tab (mixKind P w) h a L es ep t := (ok a _ e).1
theorem tabM_new (ho : h.get? a = some { cls := .type "set", dict := none, data := .set #[] 0 (.fresh 0 0 (!w.params.followText "set-order")) }) : Tab (mixKind P w) h a [] #[] 0 (.fresh 0 0 (!w.params.followText "set-order")) where
  ob := ⟨_, ho, ⟨rfl, rfl, rfl⟩, rfl⟩
  rw_ := rfl
  tab := ⟨List.Pairwise.nil, rfl, rfl, .inl rfl, (fun x z => nomatch z), fun i h j z => nomatch z⟩
  nd := List.nodup_nil
  led := by
    show _ ∨ (!w.params.followText "set-order") = true
    cases w.params.followText "set-order" <;> simp
  room := by
    show 0 * 5 < 7 * 3
    decide
  few := by decide
theorem setS_ok (R : ∃ es ep t, TabS w h a xs es ep t) : ObjOk P w H h a (SetS w a xs) := by
  refine ⟨R, ?_, fun h1 h2 ⟨es, ep, t, q⟩ k => ⟨es, ep, t, q.at_ k⟩⟩
  obtain ⟨_, _, _, q⟩ := R
  obtain ⟨o, ho, _⟩ := q.ob
  exact ⟨o, ho⟩
theorem setT_ok (R : ∃ es ep t, Tab (PySem.strKind P w) h a L es ep t) : ObjOk P w H h a (SetT P w a L) := by
  refine ⟨R, ?_, fun h1 h2 ⟨es, ep, t, q⟩ k => ⟨es, ep, t, q.to k⟩⟩
  obtain ⟨_, _, _, q⟩ := R
  obtain ⟨o, ho, _⟩ := q.ob
  exact ⟨o, ho⟩
theorem setS_at (ok : HOk P w H h) (e : H a = some (SetS w a xs)) : ∃ es ep t, TabS w h a xs es ep t := (ok a _ e).1
theorem setT_at (ok : HOk P w H h) (e : H a = some (SetT P w a L)) : ∃ es ep t, Tab (PySem.strKind P w) h a L es ep t := (ok a _ e).1
theorem tabS_new (ho : h.get? a = some { cls := .type "set", dict := none, data := .set #[] 0 (.fresh 0 0 (!w.params.followText "set-order")) }) : TabS w h a [] #[] 0 (.fresh 0 0 (!w.params.followText "set-order")) where
  ob := ⟨_, ho, ⟨rfl, rfl, rfl⟩, rfl⟩
  good := fun e z => by simp at z
  eq := rfl
  nd := List.nodup_nil
  fit := rfl
  ris := List.Pairwise.nil
  led := by
    show _ ∨ (!w.params.followText "set-order") = true
    cases w.params.followText "set-order" <;> simp
  few := by decide
theorem tabT_new (ho : h.get? a = some { cls := .type "set", dict := none, data := .set #[] 0 (.fresh 0 0 (!w.params.followText "set-order")) }) : Tab (PySem.strKind P w) h a [] #[] 0 (.fresh 0 0 (!w.params.followText "set-order")) where
  ob := ⟨_, ho, ⟨rfl, rfl, rfl⟩, rfl⟩
  rw_ := rfl
  tab := ⟨List.Pairwise.nil, rfl, rfl, .inl rfl, (fun x z => nomatch z), fun i h j z => nomatch z⟩
  nd := List.nodup_nil
  led := by
    show _ ∨ (!w.params.followText "set-order") = true
    cases w.params.followText "set-order" <;> simp
  room := by
    show 0 * 5 < 7 * 3
    decide
  few := by decide

/-! ### sorted(a set) -/
theorem sorted_set_by {ltv : Value → Value → Bool} (O : SrtO.Swo ltv) (hh : A.handled = none) (ha : SetAt s.heap a es ep t) (hf : t.fits es.size = true) (few : es.size < 64) (r : Ris t.place.toList) (hl : w.params.followText "set-order" = true ∨ t.led = true)
    (hS : ∀ (vs : List Value) (z : Shared) (l : Addr), vs.Perm (es.toList.map (·.2)) → (∀ b o, s.heap.get? b = some o → b ≠ l ∧ z.heap.get? b = some o) → z.heap.get? l = some (seqObj "list" vs.toArray 0) → 2 ≤ vs.length → SrtO.SortableO P w A.in1.in1 z l vs ltv) {Q : Value → Shared → Prop}
    (hQ : ∀ z p (out : List Value) (c : Nat), (∀ b o, s.heap.get? b = some o → z.heap.get? b = some o) → z.gens = s.gens → z.os = s.os → s.heap.objs.size ≤ p → z.heap.get? p = some (seqObj "list" out.toArray c) → SrtO.Srtd ltv out → out.Perm (es.toList.map (·.2)) → Q (.ref p) z) :
    wpAny (model P w) A (call (.builtin "sorted") [.ref a]) Q E s := by
  refine Calls.call_function_entry kind_sorted plain_sorted entry_sorted (args_sorted1 _) ?_
  unfold Builtin.«sorted»
  refine wpAny_bind (m := checkCount "sorted" 1 1 _) (wpAny_pure (wpAny_bind (collect_set (A := A.in1) hh ha hf (by unfold scanBound; omega) r hl fun z vs kp hz g1 o1 pm => ?_)))
  have cnt : vs.length = es.size := by rw [pm.length_eq, List.length_map, Array.length_toList]
  refine wpAny_bind (wpAny_newList ?_ (by rw [sizeLine_eq]; omega))
  have at_ : (z.heap.push (seqObj "list" vs.toArray 0)).get? z.heap.objs.size = some (seqObj "list" vs.toArray 0) := Heap.get?_push_size _ rfl
  have keep : ∀ b o, s.heap.get? b = some o → b ≠ z.heap.objs.size ∧ (z.heap.push (seqObj "list" vs.toArray 0)).get? b = some o := fun b o e => ⟨Nat.ne_of_lt (Heap.lt_size (kp b o e)), Heap.get?_push_of_some _ (kp b o e)⟩
  refine wpAny_bind (wpAny_holding (wpAny_call_entry slot_list_sort ⟨_, at_, rfl⟩ entry_list_sort
    (SrtO.list_sort_ord (s := { z with heap := z.heap.push (seqObj "list" vs.toArray 0) }) O at_ (by rw [sizeLine_eq]; omega) (fun h2 => hS vs { z with heap := z.heap.push (seqObj "list" vs.toArray 0) } z.heap.objs.size pm keep at_ h2) fun out hs hb => ⟨_, rfl, ?_⟩) (args_list_sort _)))
  obtain ⟨c, hc⟩ := sortedHeap_at (vs := vs) (out := out.toArray) at_
  refine wpAny_pure ⟨_, rfl, hQ _ z.heap.objs.size out c (fun b o e => ?_) g1 o1 hz hc hs (hb.perm.trans pm)⟩
  have lt := Heap.lt_size (kp b o e)
  show (sortedHeap (z.heap.push (seqObj "list" vs.toArray 0)) z.heap.objs.size vs out.toArray).get? b = some o
  rw [sortedHeap_old (Nat.ne_of_lt lt) (by rw [size_push']; exact Nat.lt_succ_of_lt lt)]
  exact (keep b o e).2
end
def rSortS (w : World) : List V → Hp → VK → Prop := fun vs H Q => ∃ (a : Addr) (ts : List Str), vs = [V.ref a] ∧ H a = some (SetS w a ts) ∧
  ∀ (ys : List Str) (p : Addr), Asc ltS ys → ys.Perm ts → H p = none → Q (.ref p) (upd H p (.lst (ys.map V.str)))
def rSortT (K : PySem.W.Frag) (P : Program) (w : World) : List V → Hp → VK → Prop := fun vs H Q => ∃ (a : Addr) (L : List (Addr × List Str)), vs = [V.ref a] ∧ H a = some (SetT P w a L) ∧ (∀ q ∈ L, SqT K H q.1 (q.2.map V.str) ∧ q.2 ≠ []) ∧
  ∀ (L' : List (Addr × List Str)) (p : Addr), L'.Perm L → Asc ltK (L'.map (·.2)) → H p = none → Q (.ref p) (upd H p (.lst (L'.map fun q => V.ref q.1)))
section
variable {X : Cx}
theorem vals_strs : ∀ {us : List Value}, (∀ u ∈ us, ∃ x t, u = Value.str x t) → Vals (us.map fun u => V.str (sOf u)) us
  | [], _ => .nil
  | u :: us, h => by
    obtain ⟨x, t, rfl⟩ := h u List.mem_cons_self
    exact .cons ⟨t, rfl⟩ (vals_strs fun v m => h v (List.mem_cons_of_mem _ m))
theorem cr_sortS (hc : X.calm = true) : CallR X (.builtin "sorted") (rSortS X.w) := by
  intro pins s σ H vs us Q I r h
  obtain ⟨a, ts, rfl, ha, q⟩ := h
  obtain ⟨u, rfl, ru⟩ := vals1 r
  cases (show u = Value.ref a from ru)
  obtain ⟨es, ep, t, R⟩ := setS_at I.hok ha
  obtain ⟨o, ho, hex, hd⟩ := R.ob
  have cnt := R.count
  have few := R.few
  have texts : ∀ vs : List Value, vs.Perm (es.toList.map (·.2)) → ∀ v ∈ vs, ∃ x t, v = Value.str x t := fun vs pm v hv => by
    obtain ⟨e, he, rfl⟩ := List.mem_map.mp (pm.mem_iff.mp hv)
    obtain ⟨x, tk, rfl⟩ := R.good e he
    exact ⟨x, tk, rfl⟩
  refine sorted_set_by (ltv := fun v u => ltS (sOf v) (sOf u)) ⟨fun x y => tot_str.swo.asym _ _, fun x y z => tot_str.swo.tr _ _ _⟩ (I.ok.hd hc) ⟨o, ho, hex.1, hd⟩ R.fit (by omega) R.ris R.led (fun vs z l pm kp hl h2 => sortable_strs h2 (texts vs pm)) fun z p out c kp hg hos hp hat hs pm => ?_
  have hn : H p = none := I.hok.fresh hp
  have pS : (out.map sOf).Perm ts := by
    have z := pm.map sOf
    rw [List.map_map] at z
    rw [← R.eq]
    exact z
  have len : out.length ≤ sizeLine := by
    have z := pS.length_eq
    rw [List.length_map] at z
    rw [sizeLine_eq]
    omega
  have hz : z.heap.get? p = some { cls := .type "list", data := .seq out.toArray c } := hat
  have str : ∀ v ∈ out, ∃ x t, v = Value.str x t := texts out pm
  have new : ObjOk X.prog X.w (upd H p (.lst ((out.map sOf).map V.str))) z.heap p (.lst ((out.map sOf).map V.str)) := ⟨by rw [List.length_map, List.length_map]; exact len, out, c, by rw [List.map_map]; exact vals_strs str, hz⟩
  have I3 : Inv X pins σ (upd H p (.lst ((out.map sOf).map V.str))) z := I.call' (ch := []) hos (Un.laid kp hp hn) (I.hok.laid kp hp new) (by rw [hg]; exact I.bare) fun _ m => nomatch m
  exact ⟨.ref p, _, I3, rfl, q (out.map sOf) p (asc_of tot_str (List.pairwise_map.mpr hs) (pS.nodup_iff.mpr R.nd)) pS hn⟩
/-- the tuple at b, as the heap has it -/
theorem tup_at {pins : List (Addr × Obj)} {σ : L2.St} {H : Hp} {s : Shared} (I : Inv X pins σ H s) {b : Addr} {k : List Str} (h : SqT X.K H b (k.map V.str)) : TupK s.heap (.ref b) k ∧ IsTupleKey (PySem.strKind X.prog X.w) s.heap k b := by
  obtain ⟨its, rv, ⟨o, ho, hc, n, hd⟩, _⟩ := I.tuple h
  have S := strsAre_of rv
  refine ⟨⟨b, o, _, n, rfl, ho, hc, hd, by simpa using S⟩, o, _, n, ho, hc, hd, ?_⟩
  have go : ∀ {vs : List Value} {ks : List Str}, StrsAre vs ks → PySem.ItemsAre (PySem.strKind X.prog X.w) ks vs := by
    intro vs ks q
    induction q with
    | nil => exact .nil
    | cons y t _ ih => exact .cons (strKind_is X.prog X.w y t) ih
  exact go (by simpa using S)
theorem tupM_at {pins : List (Addr × Obj)} {σ : L2.St} {H : Hp} {s : Shared} (I : Inv X pins σ H s) {b : Addr} {k : List Key} (h : SqT X.K H b (k.map kV)) : IsTupleKey (mixKind X.prog X.w) s.heap k b := by
  obtain ⟨its, rv, ⟨o, ho, hc, n, hd⟩, _⟩ := I.tuple h
  exact ⟨o, _, n, ho, hc, hd, by simpa using items_are rv⟩
theorem map_str_inj : ∀ {k m : List Str}, k.map V.str = m.map V.str → k = m
  | [], [], _ => rfl
  | [], _ :: _, h => by simp at h
  | _ :: _, [], h => by simp at h
  | x :: k, y :: m, h => by
    rw [List.map_cons, List.map_cons] at h
    obtain ⟨h1, h2⟩ := List.cons.inj h
    rw [V.str.inj h1, map_str_inj h2]
/-- the texts of the tuple that a value is, by a list of such -/
def kOf (L : List (Addr × List Str)) (v : Value) : List Str := match v with
  | .ref b => ((L.find? fun q => q.1 == b).map (·.2)).getD []
  | _ => []
def pOf (L : List (Addr × List Str)) (v : Value) : Addr × List Str := (match v with | .ref b => b | _ => 0, kOf L v)
theorem kOf_at {L : List (Addr × List Str)} (one : ∀ p ∈ L, ∀ q ∈ L, p.1 = q.1 → p.2 = q.2) {q : Addr × List Str} (hq : q ∈ L) : kOf L (.ref q.1) = q.2 := by
  show ((L.find? fun p => p.1 == q.1).map (·.2)).getD [] = q.2
  cases e : L.find? fun p => p.1 == q.1 with
  | none => exact absurd (List.find?_eq_none.mp e q hq) (by simp)
  | some p =>
    have h1 : p.1 = q.1 := by simpa using List.find?_some e
    exact one p (List.mem_of_find?_eq_some e) q hq h1
theorem cr_sortT (hc : X.calm = true) : CallR X (.builtin "sorted") (rSortT X.K X.prog X.w) := by
  intro pins s σ H vs us Q I r h
  obtain ⟨a, L, rfl, ha, ht, q⟩ := h
  obtain ⟨u, rfl, ru⟩ := vals1 r
  cases (show u = Value.ref a from ru)
  obtain ⟨es, ep, t, R⟩ := setT_at I.hok ha
  obtain ⟨o, ho, hex, hd⟩ := R.ob
  have cnt := R.count
  have few := R.few
  have one : ∀ p ∈ L, ∀ q ∈ L, p.1 = q.1 → p.2 = q.2 := fun p hp q hq e => by
    have h1 := (ht p hp).1
    rw [e] at h1
    exact map_str_inj (I.tuple_inj h1 (ht q hq).1)
  have vals : es.toList.map (·.2) = L.map fun p => Value.ref p.1 := by
    rw [R.rw_]
    unfold rows
    rw [List.map_map]
    rfl
  have each : ∀ vs : List Value, vs.Perm (es.toList.map (·.2)) → ∀ v ∈ vs, ∃ p ∈ L, v = Value.ref p.1 ∧ kOf L v = p.2 := fun vs pm v hv => by
    rw [vals] at pm
    obtain ⟨p, hp, rfl⟩ := List.mem_map.mp (pm.mem_iff.mp hv)
    exact ⟨p, hp, rfl, kOf_at one hp⟩
  refine sorted_set_by (ltv := fun v u => ltK (kOf L v) (kOf L u)) ⟨fun x y => tot_key.swo.asym _ _, fun x y z => tot_key.swo.tr _ _ _⟩ (I.ok.hd hc) ⟨o, ho, hex.1, hd⟩ R.fits (by omega) R.tab.ris R.led (fun vs z l pm kp hl h2 => ?_) fun z p out c kp hg hos hp hat hs pm => ?_
  · refine sortable_tups (by omega) (fun v hv => ?_) fun o' e' c' => ?_
    · obtain ⟨p, hp, rfl, e⟩ := each vs pm v hv
      rw [e]
      exact ⟨(tup_at I (ht p hp).1).1.keeps fun b o e _ => (kp b o e).2, (ht p hp).2⟩
    · rw [hl] at e'
      cases e'
      exact absurd (Value.type.inj c') (by decide)
  · have hn : H p = none := I.hok.fresh hp
    have refs : ∀ v ∈ out, v = Value.ref (pOf L v).1 := fun v hv => by
      obtain ⟨p, _, rfl, _⟩ := each out pm v hv
      rfl
    have back : (es.toList.map (·.2)).map (pOf L) = L := by
      rw [vals, List.map_map]
      refine (List.map_congr_left fun p hp => ?_).trans (List.map_id L)
      exact Prod.ext rfl (kOf_at one hp)
    have pL : (out.map (pOf L)).Perm L := by
      have z := pm.map (pOf L)
      rw [back] at z
      exact z
    have len : out.length ≤ sizeLine := by
      have z := pL.length_eq
      rw [List.length_map] at z
      rw [sizeLine_eq]
      omega
    have asc : Asc ltK ((out.map (pOf L)).map (·.2)) := asc_of tot_key (by
      rw [List.map_map]
      exact List.pairwise_map.mpr hs) ((pL.map (·.2)).nodup_iff.mpr R.nd)
    have rel : ∀ l : List Value, (∀ v ∈ l, v = Value.ref (pOf L v).1) → Vals ((l.map (pOf L)).map fun q => V.ref q.1) l := by
      intro l
      induction l with
      | nil => intro _; exact .nil
      | cons v l ih => intro h; exact .cons (h v List.mem_cons_self) (ih fun u hu => h u (List.mem_cons_of_mem _ hu))
    have hz : z.heap.get? p = some { cls := .type "list", data := .seq out.toArray c } := hat
    have new : ObjOk X.prog X.w (upd H p (.lst ((out.map (pOf L)).map fun q => V.ref q.1))) z.heap p (.lst ((out.map (pOf L)).map fun q => V.ref q.1)) := ⟨by rw [List.length_map, List.length_map]; exact len, out, c, rel out refs, hz⟩
    exact ⟨.ref p, _, I.call' (ch := []) hos (Un.laid kp hp hn) (I.hok.laid kp hp new) (by rw [hg]; exact I.bare) (fun _ m => nomatch m), rfl, q _ p pL asc hn⟩
end
end My

/-! MyFill: set(xs) of a list or a tuple, whatever the items are, by a word of what is in the set -/
namespace My
open PySem PySem.Spec PyProof.Rows L2
abbrev set0 (w : World) : Obj := { cls := .type "set", dict := none, data := .set #[] 0 (.fresh 0 0 (!w.params.followText "set-order")) }
/-- F h c: at a stands a set of the content c; J i c: c is what the first i items give -/
structure Fill (P : Program) (w : World) (A : Around) (h0 : Heap) (a : Addr) (items : Array Value) (C : Type) (F : Heap → C → Prop) (J : Nat → C → Prop) : Prop where
  moves : ∀ h h' c, F h c → (∀ o, h.get? a = some o → h'.get? a = some o) → F h' c
  add : ∀ (A' : Around) (i : Nat) (v : Value) (c : C) (z : Shared) (Q : Bool → Shared → Prop) (E : Value → Shared → Prop), A'.units ≤ A.units + 8 → items[i]? = some v → F z.heap c → J i c → (∀ b o, h0.get? b = some o → z.heap.get? b = some o) →
    (∀ b h' tk c', Heap.SameBut a z.heap h' → z.toks ≤ tk → F h' c' → J (i + 1) c' → Q b { z with heap := h', toks := tk }) → wpAny (model P w) A' (setAdd a v) Q E z
section
variable {P : Program} {w : World} {A B : Around} {E : Value → Shared → Prop} {h0 : Heap} {a : Addr} {items : Array Value} {C : Type} {F : Heap → C → Prop} {J : Nat → C → Prop}
theorem fill_loop (K : Fill P w B h0 a items C F J) (hu : A.units + 1 ≤ B.units + 8) {I : Addr} {fp wr : List Addr} {G : Array GenState → Array GenState → Prop} {Pv : Nat → Value → Prop} {St : Nat → Shared → Prop} {R : Result → Shared → Prop}
    (W : WalksS P w A.in1 I fp wr G items.size Pv St) (hf : a ∉ fp) (hv : ∀ i v, Pv i v → items[i]? = some v) (ha : h0.get? a = none) (hw : ∀ b ∈ wr, h0.get? b = none) :
    ∀ (k i : Nat) (s : Shared) (c : C), items.size - i = k → i ≤ items.size → St i s → (∀ b o, h0.get? b = some o → s.heap.get? b = some o) → F s.heap c → J i c →
      (∀ s' c', Moved (a :: wr) G s s' → F s'.heap c' → J items.size c' → (∀ b o, h0.get? b = some o → s'.heap.get? b = some o) → R (.ok (.ret .none)) s') →
      codeAny (model P w) A (.builtin "set.update.loop" ⟨[.ref a, .ref I], []⟩) R s := by
  have aw : a ∉ wr := fun z => hf (W.sub _ z)
  have up : ∀ b ∈ wr, b ∈ a :: wr := fun b z => List.mem_cons_of_mem _ z
  have kept : ∀ {s s' : Shared}, Moved wr G s s' → (∀ b o, h0.get? b = some o → s.heap.get? b = some o) → ∀ b o, h0.get? b = some o → s'.heap.get? b = some o := fun m k b o e =>
    m.heap b o (fun z => by rw [hw b z] at e; cases e) (k b o e)
  intro k
  induction k with
  | zero =>
    intro i s c hk hi st kp hF hJ hR
    obtain rfl : i = items.size := by omega
    refine codeAny_builtin PyProof.Rows.F.entry_set_update_loop ?_
    rw [Around.under_plainId PyProof.Rows.F.plain_set_update_loop _]
    show wpAny _ A.in1 (pyNext (.ref I) >>= _) _ _ s
    refine wpAny_bind (W.done s _ _ st fun s' m => ?_)
    exact wpAny_pure (hR s' c (m.mono up) (K.moves _ _ _ hF fun o e => m.heap a o aw e) hJ (kept m kp))
  | succ k ih =>
    intro i s c hk hi st kp hF hJ hR
    have lt : i < items.size := by omega
    refine codeAny_builtin PyProof.Rows.F.entry_set_update_loop ?_
    rw [Around.under_plainId PyProof.Rows.F.plain_set_update_loop _]
    show wpAny _ A.in1 (pyNext (.ref I) >>= _) _ _ s
    refine wpAny_bind (W.item i s _ _ lt st fun v s1 pv st1 m => ?_)
    show wpAny _ A.in1 (holding [v] (setAdd a v) >>= _) _ _ s1
    refine wpAny_bind (wpAny_holding (K.add A.in1 i v c s1 _ _ hu (hv i v pv) (K.moves _ _ _ hF fun o e => m.heap a o aw e) hJ (kept m kp) fun b h2 tk c2 sb lk hF2 hJ2 => ?_))
    have kp2 : ∀ b o, h0.get? b = some o → h2.get? b = some o := fun b o e => (sb.2 b (fun z => by rw [z, ha] at e; cases e)).trans (kept m kp b o e)
    refine wpAny_pure ⟨plainId_quiet PyProof.Rows.F.plain_set_update_loop _, ih (i + 1) _ c2 (by omega) lt (W.frame _ s1 _ _ st1 lk fun b hb o e => ?_) kp2 hF2 hJ2 fun s3 c3 m3 hF3 hJ3 kp3 => ?_⟩
    · rw [sb.2 b (fun z => hf (by rw [← z]; exact hb))]
      exact e
    · refine hR s3 c3 (Moved.trans W.gtrans ((m.mono up).then_heap lk fun b o hb e => ?_) m3) hF3 hJ3 kp3
      rw [sb.2 b (fun z => hb (by rw [z]; exact List.mem_cons_self))]
      exact e
set_option maxHeartbeats 4000000 in
/-- set(xs) -/
theorem set_of {s : Shared} {l : Addr} {Q : Value → Shared → Prop} (hh : A.handled = none) (hl : s.heap.IsList l items ∨ s.heap.IsTuple l items) (K : Fill P w A s.heap s.heap.objs.size items C F J) {c0 : C}
    (hF : ∀ h, h.get? s.heap.objs.size = some (set0 w) → F h c0) (hJ : J 0 c0)
    (h : ∀ (h' : Heap) (tk : Nat) (c : C), F h' c → J items.size c → (∀ b o, s.heap.get? b = some o → h'.get? b = some o) → Q (.ref s.heap.objs.size) { s with heap := h', toks := tk }) :
    wpAny (model P w) A (call (.type "set") [.ref l]) Q E s := by
  obtain ⟨c1, tl, hmro⟩ := PySem.F.called_set.mro
  have hmade := PySem.F.called_set.made
  have hsub := PySem.F.called_set.sub
  refine wpAny_call (codeAny_of_tree ?_)
  show wpAny _ _ (callAny (.type "set") _) _ _ _
  refine wpAny_pure ⟨Code.quiet_builtin _ (by decide +kernel), codeAny_builtin PySem.F.entry_type_call ?_⟩
  rw [Around.under_plain (weight_type_call_type "set" [.ref l] []) rfl]
  have h1 := PySem.F.called_set.notType
  have h2 := PySem.F.called_set.canCreate
  have hct := PySem.F.typeCall_set_1 (.ref l)
  repeat (any_goals (first | assumption | wp_step))
  refine codeAny_mono (code_set_led1 (.ref l) (E := E) (Q₁ := fun v z => v = .ref s.heap.objs.size ∧ z = { s with heap := s.heap.push (set0 w) }) ⟨rfl, rfl⟩) fun r z hr => ?_
  cases r with
  | error e => exact hr
  | ok fl =>
    cases fl with
    | ret v =>
      obtain ⟨rfl, rfl⟩ := hr
      have hS : (s.heap.push (set0 w)).get? s.heap.objs.size = some (set0 w) := Heap.get?_push_size _ rfl
      have hT : Shared.TypeIs { s with heap := s.heap.push (set0 w) } (.ref s.heap.objs.size) "set" := ⟨_, hS, rfl⟩
      have hli := PySem.F.called_set.init.lookup
      have hbi := PySem.F.called_set.init.bind (.ref s.heap.objs.size)
      repeat (any_goals (first | assumption | wp_step))
      refine codeAny_mono (codeAny_call_builtin (R := wants (fun r z => r = .none ∧ ∃ h' tk c, z = { s with heap := h', toks := tk } ∧ F h' c ∧ J items.size c ∧ (∀ b o, s.heap.get? b = some o → h'.get? b = some o)) E)
        PySem.F.called_set.init.plain PySem.F.entry_set_init (check_set_init_1 hT ?_)) fun r z hr => ?_
      · have gone : ∀ b, s.heap.objs.size ≤ b → s.heap.get? b = none := fun b hb => by
          cases q : s.heap.get? b with
          | none => rfl
          | some o => exact absurd (Nat.lt_of_lt_of_le (Heap.lt_size q) hb) (Nat.lt_irrefl _)
        have h3 : A.in1.in1.in1.handled = none := by simp [hh]
        have z1 : (s.heap.push (set0 w)).objs.size = s.heap.objs.size + 1 := Heap.size_push ..
        -- behind the iterator was made: the loop, from any iterator that walks
        have run : ∀ (ob : Obj) (Pv : Nat → Value → Prop) (St : Nat → Shared → Prop), l < s.heap.objs.size →
            WalksS P w A.in1.in1.in1 (s.heap.push (set0 w)).objs.size [(s.heap.push (set0 w)).objs.size, l] [(s.heap.push (set0 w)).objs.size] (fun a b => b = a) items.size Pv St → (∀ i v, Pv i v → items[i]? = some v) →
            St 0 { s with heap := (s.heap.push (set0 w)).push ob } →
            ∀ (R : Result → Shared → Prop), (∀ h' tk c, F h' c → J items.size c → (∀ b o, s.heap.get? b = some o → h'.get? b = some o) → R (.ok (.ret .none)) { s with heap := h', toks := tk }) →
            codeAny (model P w) A.in1.in1 (.builtin "set.update.loop" ⟨[.ref s.heap.objs.size, .ref (s.heap.push (set0 w)).objs.size], []⟩) R { s with heap := (s.heap.push (set0 w)).push ob } := by
          intro ob Pv St ll W hv st R hR
          have hget : ((s.heap.push (set0 w)).push ob).get? s.heap.objs.size = some (set0 w) := Heap.get?_push_of_some _ hS
          refine fill_loop K (by show A.units + 1 + 1 + 1 ≤ _; omega) W ?_ hv (gone _ (Nat.le_refl _)) (fun b hb => gone b ?_) (items.size - 0) 0 _ c0 rfl (Nat.zero_le _) st (fun b o e => Heap.get?_push_of_some _ (Heap.get?_push_of_some _ e)) (hF _ hget) hJ fun s' c m hF' hJ' kp => ?_
          · rw [z1]
            simp only [List.mem_cons, List.not_mem_nil, or_false, not_or]
            exact ⟨Nat.ne_of_lt (Nat.lt_succ_self _), Nat.ne_of_gt ll⟩
          · rw [List.mem_singleton.mp hb, z1]
            exact Nat.le_succ _
          · obtain ⟨hp, gn, dr, tk, os⟩ := s'
            have eg := m.gens
            have ed := m.drawn
            have eo := m.os
            dsimp only at eg ed eo
            subst eg ed eo
            exact hR hp tk c hF' hJ' kp
        rcases hl with hl | hl
        · obtain ⟨ol, hol, hcl, nl, hdl⟩ := hl
          obtain ⟨oc, od, oda, osl⟩ := ol
          simp only at hcl hdl
          subst hcl hdl
          have ll := Heap.lt_size hol
          have hne2 : l ≠ (s.heap.push (set0 w)).objs.size := by
            rw [z1]
            exact Nat.ne_of_lt (Nat.lt_succ_of_lt ll)
          have hol' : (s.heap.push (set0 w)).get? l = some { cls := .type "list", dict := od, data := .seq items nl, slots := osl } := Heap.get?_push_of_some _ hol
          have hsls := PySem.F.sub_list_set
          have hslf := PySem.F.sub_list_frozenset
          have hne : (Value.type "list" == Value.type "dict") = false := by decide
          have hl1 : (s.heap.push (set0 w)).IsList l items := ⟨_, hol', rfl, nl, rfl⟩
          unfold Builtin.«set.__init__» noKeywords Builtin.Frozenset.updateFrom
          generalize hPI : pyIter = PI
          wp_walk
          subst hPI
          refine wpAny_pyIter_list hl1 (wpAny_bind (wpAny_runValue ?_))
          refine run _ _ _ ll ((Walks.list h3 _ l hne2 items).toS) (fun i v e => e) ⟨⟨_, Heap.get?_push_size _ rfl, rfl, rfl⟩, hl1.push _⟩ _ fun h' tk c hF' hJ' kp => ?_
          refine wpAny_pure ?_
          exact wpAny_pure ⟨rfl, h', tk, c, rfl, hF', hJ', kp⟩
        · obtain ⟨ol, hol, hcl, nl, hdl⟩ := hl
          obtain ⟨oc, od, oda, osl⟩ := ol
          simp only at hcl hdl
          subst hcl hdl
          have ll := Heap.lt_size hol
          have hne2 : l ≠ (s.heap.push (set0 w)).objs.size := by
            rw [z1]
            exact Nat.ne_of_lt (Nat.lt_succ_of_lt ll)
          have hol' : (s.heap.push (set0 w)).get? l = some { cls := .type "tuple", dict := od, data := .seq items nl, slots := osl } := Heap.get?_push_of_some _ hol
          have hsls := PySem.F.sub_tuple_set
          have hslf := PySem.F.sub_tuple_frozenset
          have hne : (Value.type "tuple" == Value.type "dict") = false := by decide
          have hl1 : (s.heap.push (set0 w)).IsTuple l items := ⟨_, hol', rfl, nl, rfl⟩
          unfold Builtin.«set.__init__» noKeywords Builtin.Frozenset.updateFrom
          generalize hPI : pyIter = PI
          wp_walk
          subst hPI
          refine wpAny_pyIter_tuple hl1 (wpAny_bind (wpAny_runValue ?_))
          refine run _ _ _ ll ((Walks.tuple h3 _ l hne2 items).toS) (fun i v e => e) ⟨⟨_, Heap.get?_push_size _ rfl, rfl, rfl⟩, hl1.push _⟩ _ fun h' tk c hF' hJ' kp => ?_
          refine wpAny_pure ?_
          exact wpAny_pure ⟨rfl, h', tk, c, rfl, hF', hJ', kp⟩
      · cases r with
        | error e => exact hr
        | ok fl2 =>
          cases fl2 with
          | ret r =>
            obtain ⟨rfl, h', tk, c, rfl, hF', hJ', kp⟩ := hr
            repeat (any_goals (first | assumption | wp_step))
            exact h _ _ _ hF' hJ' kp
          | _ => exact hr.elim
    | _ => exact hr.elim
end
end My

/-! MySetOf: set(xs), xs a list or tuple of texts or of tuples of texts; set.add -/
namespace My
open PySem PySem.Spec PyProof.Rows L2
def AddS (xs : List Str) (k : Str) (xs' : List Str) : Prop := (k ∈ xs → xs' = xs) ∧ (k ∉ xs → xs'.Perm (k :: xs))
def AddT (L : List (Addr × List Str)) (b : Addr) (k : List Str) (L' : List (Addr × List Str)) : Prop := (k ∈ L.map (·.2) → L' = L) ∧ (k ∉ L.map (·.2) → L'.Perm ((b, k) :: L))
def AddM (L : List (Addr × List Key)) (b : Addr) (k : List Key) (L' : List (Addr × List Key)) : Prop := (k ∈ L.map (·.2) → L' = L) ∧ (k ∉ L.map (·.2) → L'.Perm ((b, k) :: L))
theorem AddM.keys {L L' : List (Addr × List Key)} {b : Addr} {k : List Key} (h : AddM L b k L') (x : List Key) : x ∈ L'.map (·.2) ↔ x = k ∨ x ∈ L.map (·.2) := by
  by_cases c : k ∈ L.map (·.2)
  · rw [h.1 c]
    exact ⟨.inr, fun z => z.elim (fun e => by rw [e]; exact c) id⟩
  · rw [((h.2 c).map (·.2)).mem_iff, List.map_cons, List.mem_cons]
theorem AddM.len {L L' : List (Addr × List Key)} {b : Addr} {k : List Key} (h : AddM L b k L') : L'.length ≤ L.length + 1 := by
  by_cases c : k ∈ L.map (·.2)
  · rw [h.1 c]
    omega
  · rw [(h.2 c).length_eq]
    exact Nat.le_refl _
theorem AddM.sub {L L' : List (Addr × List Key)} {b : Addr} {k : List Key} (h : AddM L b k L') {p : Addr × List Key} (hp : p ∈ L') : p = (b, k) ∨ p ∈ L := by
  by_cases c : k ∈ L.map (·.2)
  · rw [h.1 c] at hp
    exact .inr hp
  · exact List.mem_cons.mp ((h.2 c).mem_iff.mp hp)
theorem scan_mix (P : Program) (w : World) : Scan (mixKind P w) := fun k v h => by
  rw [mixKind_is] at h
  cases k with
  | inr x =>
    obtain ⟨t, rfl⟩ := Value.isStrOf_shape (x := x) (v := v) h
    rfl
  | inl i =>
    cases v with
    | int j t => rfl
    | _ => exact absurd h (by simp [keyIs, Value.isInt])
theorem AddS.mem {xs xs' : List Str} {k : Str} (h : AddS xs k xs') (x : Str) : x ∈ xs' ↔ x = k ∨ x ∈ xs := by
  by_cases c : k ∈ xs
  · rw [h.1 c]
    exact ⟨.inr, fun z => z.elim (fun e => e ▸ c) id⟩
  · rw [(h.2 c).mem_iff]
    exact List.mem_cons
theorem AddS.len {xs xs' : List Str} {k : Str} (h : AddS xs k xs') : xs'.length ≤ xs.length + 1 := by
  by_cases c : k ∈ xs
  · rw [h.1 c]
    omega
  · rw [(h.2 c).length_eq]
    exact Nat.le_refl _
theorem AddT.keys {L L' : List (Addr × List Str)} {b : Addr} {k : List Str} (h : AddT L b k L') (x : List Str) : x ∈ L'.map (·.2) ↔ x = k ∨ x ∈ L.map (·.2) := by
  by_cases c : k ∈ L.map (·.2)
  · rw [h.1 c]
    exact ⟨.inr, fun z => z.elim (fun e => e ▸ c) id⟩
  · rw [((h.2 c).map (·.2)).mem_iff]
    exact List.mem_cons
theorem AddT.sub {L L' : List (Addr × List Str)} {b : Addr} {k : List Str} (h : AddT L b k L') {p : Addr × List Str} (hp : p ∈ L') : p = (b, k) ∨ p ∈ L := by
  by_cases c : k ∈ L.map (·.2)
  · rw [h.1 c] at hp
    exact .inr hp
  · exact List.mem_cons.mp ((h.2 c).mem_iff.mp hp)
theorem AddT.len {L L' : List (Addr × List Str)} {b : Addr} {k : List Str} (h : AddT L b k L') : L'.length ≤ L.length + 1 := by
  by_cases c : k ∈ L.map (·.2)
  · rw [h.1 c]
    omega
  · rw [(h.2 c).length_eq]
    exact Nat.le_refl _
section
variable {P : Program} {w : World} {A : Around} {E : Value → Shared → Prop} {s : Shared} {a : Addr}
theorem setAdd_str {xs : List Str} {es : Array (Int × Value)} {ep : Nat} {t : SetTable} (R : TabS w s.heap a xs es ep t) (room : xs.length + 1 < 64) {k : Str} {tk : Tok} {Q : Bool → Shared → Prop}
    (hQ : ∀ b h' tk xs', s.toks ≤ tk → PutS w s.heap h' a xs k xs' → Q b { s with heap := h', toks := tk }) : wpAny (model P w) A (setAdd a (.str k tk)) Q E s := by
  unfold setAdd
  refine wpAny_holding (wpAny_bind ((PySem.strKind P w).pyHash (strKind_is P w k tk) ?_))
  exact add_str (s := { s with toks := s.toks + 1 }) R room fun b h' xs' p => hQ b h' _ xs' (Nat.le_succ _) p
theorem setAdd_tup {L : List (Addr × List Str)} {es : Array (Int × Value)} {ep : Nat} {t : SetTable} (R : Tab (PySem.strKind P w) s.heap a L es ep t) (tup : ∀ p ∈ L, IsTupleKey (PySem.strKind P w) s.heap p.2 p.1) (room : L.length + 1 < 64) {b : Addr} {k : List Str}
    (hb : IsTupleKey (PySem.strKind P w) s.heap k b) (hu : A.units < cLine) {Q : Bool → Shared → Prop} (hQ : ∀ c h' tk L', s.toks ≤ tk → Put (PySem.strKind P w) s.heap h' a L b k L' → Q c { s with heap := h', toks := tk }) :
    wpAny (model P w) A (setAdd a (.ref b)) Q E s := by
  unfold setAdd
  refine wpAny_holding (wpAny_bind (wpAny_pyHash_tuple hu hb ?_))
  exact add_tab (s := { s with toks := s.toks + (k.length + 1) }) (scan_str P w) R tup hb hu room fun c h' L' p => hQ c h' _ L' (Nat.le_add_right _ _) p
end
section
variable {P : Program} {w : World} {A : Around} {E : Value → Shared → Prop} {s : Shared} {a : Addr}
theorem setAdd_tupM {L : List (Addr × List Key)} {es : Array (Int × Value)} {ep : Nat} {t : SetTable} (R : Tab (mixKind P w) s.heap a L es ep t) (tup : ∀ p ∈ L, IsTupleKey (mixKind P w) s.heap p.2 p.1) (room : L.length + 1 < 64) {b : Addr} {k : List Key}
    (hb : IsTupleKey (mixKind P w) s.heap k b) (hu : A.units < cLine) {Q : Bool → Shared → Prop} (hQ : ∀ c h' tk L', s.toks ≤ tk → Put (mixKind P w) s.heap h' a L b k L' → Q c { s with heap := h', toks := tk }) :
    wpAny (model P w) A (setAdd a (.ref b)) Q E s := by
  unfold setAdd
  refine wpAny_holding (wpAny_bind (wpAny_pyHash_tuple hu hb ?_))
  exact add_tab (s := { s with toks := s.toks + (k.length + 1) }) (scan_mix P w) R tup hb hu room fun c h' L' p => hQ c h' _ L' (Nat.le_add_right _ _) p
end
/-- set(xs) of texts -/
def rSetOfS (K : PySem.W.Frag) (w : World) : List V → Hp → VK → Prop := fun vs H Q => ∃ (l : Addr) (zs : List Str), vs = [V.ref l] ∧ (SqL K H l (zs.map V.str) ∨ SqT K H l (zs.map V.str)) ∧ zs.length < 63 ∧
  ∀ (a : Addr) (xs : List Str), (∀ x, x ∈ xs ↔ x ∈ zs) → H a = none → Q (.ref a) (upd H a (SetS w a xs))
/-- set(xs) of tuples of texts: ks tells the tuples and their texts -/
def rSetOfT (K : PySem.W.Frag) (P : Program) (w : World) : List V → Hp → VK → Prop := fun vs H Q => ∃ (l : Addr) (ks : List (Addr × List Str)), vs = [V.ref l] ∧ (SqL K H l (ks.map fun p => V.ref p.1) ∨ SqT K H l (ks.map fun p => V.ref p.1)) ∧ ks.length < 63 ∧
  (∀ p ∈ ks, SqT K H p.1 (p.2.map V.str)) ∧
  ∀ (a : Addr) (L : List (Addr × List Str)), (∀ p ∈ L, p ∈ ks) → (∀ k, k ∈ L.map (·.2) ↔ k ∈ ks.map (·.2)) → H a = none → Q (.ref a) (upd H a (SetT P w a L))
section
variable {X : Cx}
theorem seq_at {pins : List (Addr × Obj)} {σ : L2.St} {H : Hp} {s : Shared} (I : Inv X pins σ H s) {l : Addr} {vs : List V} (h : SqL X.K H l vs ∨ SqT X.K H l vs) : ∃ its : List Value, Vals vs its ∧ (s.heap.IsList l its.toArray ∨ s.heap.IsTuple l its.toArray) := by
  rcases h with h | h
  · obtain ⟨its, rv, hl, _⟩ := I.list h
    exact ⟨its, rv, .inl hl.isList⟩
  · obtain ⟨its, rv, ⟨o, ho, hc, n, hd⟩, _⟩ := I.tuple h
    exact ⟨its, rv, .inr ⟨o, ho, hc, n, hd⟩⟩
theorem take_mem {α : Type} {l : List α} {i : Nat} {x : α} (h : l[i]? = some x) (y : α) : y ∈ l.take (i + 1) ↔ y = x ∨ y ∈ l.take i := by
  rw [List.take_add_one, h]
  simp [or_comm]
theorem cr_setS (hc : X.calm = true) : CallR X (.type "set") (rSetOfS X.K X.w) := by
  intro pins s σ H vs us Q I r h
  obtain ⟨l, zs, rfl, hl, few, q⟩ := h
  obtain ⟨u, rfl, ru⟩ := vals1 r
  cases (show u = Value.ref l from ru)
  obtain ⟨its, rv, hl⟩ := seq_at I hl
  have cnt : its.toArray.size = zs.length := by
    have z := rv.length
    rw [List.length_map] at z
    simp [← z]
  refine set_of (C := List Str) (F := fun h xs => ∃ es ep t, TabS X.w h s.heap.objs.size xs es ep t) (J := fun i xs => (∀ x, x ∈ xs ↔ x ∈ zs.take i) ∧ xs.length ≤ i) (I.ok.hd hc) hl ⟨fun h h' c ⟨es, ep, t, R⟩ k => ⟨es, ep, t, R.at_ k⟩, fun A' i v c z Q' E' hu hv ⟨es, ep, t, R⟩ hJ kp hQ => ?_⟩
    (c0 := []) (fun h e => ⟨_, _, _, tabS_new e⟩) ⟨fun x => by simp, Nat.le_refl _⟩ fun h' tk c hF hJ kp => ?_
  · have hv' : its[i]? = some v := by simpa using hv
    have hi : i < zs.length := by
      rw [← cnt]
      exact (Array.getElem?_eq_some_iff.mp hv).1
    obtain ⟨u, hu', ru⟩ := rv.get (i := i) (x := V.str zs[i]) (by rw [List.getElem?_map, List.getElem?_eq_getElem hi]; rfl)
    rw [hv'] at hu'
    cases hu'
    obtain ⟨tk, rfl⟩ := ru
    refine setAdd_str R (by omega) fun b h' tk xs' lk ⟨sb, R', p1, p2⟩ => hQ b h' tk xs' sb lk R' ⟨fun x => ?_, ?_⟩
    · rw [AddS.mem (xs := c) (k := zs[i]) ⟨p1, p2⟩ x, take_mem (List.getElem?_eq_getElem hi), hJ.1 x]
    · exact Nat.le_trans (AddS.len (xs := c) (k := zs[i]) ⟨p1, p2⟩) (Nat.succ_le_succ hJ.2)
  · have hn : H s.heap.objs.size = none := I.hok.fresh (Nat.le_refl _)
    rw [cnt] at hJ
    exact ⟨.ref _, _, I.laid (t' := tk) kp (Nat.le_refl _) (setS_ok hF), rfl, q _ c (fun x => by rw [hJ.1 x, List.take_length]) hn⟩
theorem cr_setT (hc : X.calm = true) (hu : X.A.units + 64 < cLine) : CallR X (.type "set") (rSetOfT X.K X.prog X.w) := by
  intro pins s σ H vs us Q I r h
  obtain ⟨l, ks, rfl, hl, few, hk, q⟩ := h
  obtain ⟨u, rfl, ru⟩ := vals1 r
  cases (show u = Value.ref l from ru)
  obtain ⟨its, rv, hl⟩ := seq_at I hl
  have cnt : its.toArray.size = ks.length := by
    have z := rv.length
    rw [List.length_map] at z
    simp [← z]
  have tup : ∀ p ∈ ks, IsTupleKey (PySem.strKind X.prog X.w) s.heap p.2 p.1 := fun p hp => (tup_at I (hk p hp)).2
  have carry : ∀ {z : Shared} {p : Addr × List Str}, (∀ b o, s.heap.get? b = some o → z.heap.get? b = some o) → IsTupleKey (PySem.strKind X.prog X.w) s.heap p.2 p.1 → IsTupleKey (PySem.strKind X.prog X.w) z.heap p.2 p.1 := fun kp ⟨o, its, n, ho, r⟩ => ⟨o, its, n, kp _ _ ho, r⟩
  refine set_of (C := List (Addr × List Str)) (F := fun h L => ∃ es ep t, Tab (PySem.strKind X.prog X.w) h s.heap.objs.size L es ep t) (J := fun i L => (∀ p ∈ L, p ∈ ks) ∧ (∀ k, k ∈ L.map (·.2) ↔ k ∈ (ks.take i).map (·.2)) ∧ L.length ≤ i) (I.ok.hd hc) hl
    ⟨fun h h' c ⟨es, ep, t, R⟩ k => ⟨es, ep, t, R.to k⟩, fun A' i v c z Q' E' hu' hv ⟨es, ep, t, R⟩ ⟨j1, j2, j3⟩ kp hQ => ?_⟩ (c0 := []) (fun h e => ⟨_, _, _, tabT_new e⟩) ⟨fun p z => (nomatch z), fun k => by simp, Nat.le_refl _⟩ fun h' tk c hF ⟨j1, j2, j3⟩ kp => ?_
  · have hv' : its[i]? = some v := by simpa using hv
    have hi : i < ks.length := by
      rw [← cnt]
      exact (Array.getElem?_eq_some_iff.mp hv).1
    obtain ⟨u, hu2, ru⟩ := rv.get (i := i) (x := V.ref ks[i].1) (by rw [List.getElem?_map, List.getElem?_eq_getElem hi]; rfl)
    rw [hv'] at hu2
    cases hu2
    cases (show v = Value.ref ks[i].1 from ru)
    have mk : ks[i] ∈ ks := List.getElem_mem hi
    refine setAdd_tup R (fun p hp => carry kp (tup p (j1 p hp))) (by omega) (k := ks[i].2) (carry kp (tup _ mk)) (by omega) fun b h' tk L' lk ⟨sb, R', p1, p2⟩ => hQ b h' tk L' sb lk R' ⟨fun p hp => ?_, fun k => ?_, ?_⟩
    · rcases AddT.sub (L := c) ⟨p1, p2⟩ hp with e | e
      · rw [e]
        exact mk
      · exact j1 p e
    · rw [AddT.keys (L := c) (b := ks[i].1) ⟨p1, p2⟩ k, j2 k, List.map_take, List.map_take, take_mem (l := ks.map (·.2)) (x := ks[i].2) (by rw [List.getElem?_map, List.getElem?_eq_getElem hi]; rfl)]
    · exact Nat.le_trans (AddT.len (L := c) (b := ks[i].1) ⟨p1, p2⟩) (Nat.succ_le_succ j3)
  · have hn : H s.heap.objs.size = none := I.hok.fresh (Nat.le_refl _)
    rw [cnt] at j2
    exact ⟨.ref _, _, I.laid (t' := tk) kp (Nat.le_refl _) (setT_ok hF), rfl, q _ c j1 (fun k => by rw [j2 k, List.take_length]) hn⟩
end
end My

/-! MyAdd: set.add of a text | of a tuple of texts, for the comprehensions -/
namespace My
open PySem PySem.Spec PyProof.Rows L2
/-- the empty set at D, of either kind -/
def New0 (P : Program) (w : World) (D : Addr) (o : HO) : Prop := o = SetS w D [] ∨ o = SetT P w D [] ∨ o = SetM P w D []
def AddO (K : PySem.W.Frag) (P : Program) (w : World) (D : Addr) (y : V) (H : Hp) (N : Hp → Prop) : Prop :=
  (∃ (k : Str) (xs : List Str), y = .str k ∧ H D = some (SetS w D xs) ∧ xs.length + 1 < 64 ∧ ∀ xs', AddS xs k xs' → N (upd H D (SetS w D xs'))) ∨
  (∃ (b : Addr) (k : List Str) (L : List (Addr × List Str)), y = .ref b ∧ SqT K H b (k.map V.str) ∧ H D = some (SetT P w D L) ∧ (∀ p ∈ L, SqT K H p.1 (p.2.map V.str)) ∧ L.length + 1 < 64 ∧ ∀ L', AddT L b k L' → N (upd H D (SetT P w D L'))) ∨
  (∃ (b : Addr) (k : List Key) (L : List (Addr × List Key)), y = .ref b ∧ SqT K H b (k.map kV) ∧ H D = some (SetM P w D L) ∧ (∀ p ∈ L, SqT K H p.1 (p.2.map kV)) ∧ L.length + 1 < 64 ∧ ∀ L', AddM L b k L' → N (upd H D (SetM P w D L')))
section
variable {X : Cx}
theorem set_add_by {P : Program} {w : World} {A : Around} {E : Value → Shared → Prop} {z : Shared} {D : Addr} {u : Value} {Q : Value → Shared → Prop} (hT : z.TypeIs (.ref D) "set") (h : wpAny (model P w) A.in1 (setAdd D u) (fun _ z' => Q .none z') E z) :
    wpAny (model P w) A (call (.builtin "set.add") [.ref D, u]) Q E z := by
  refine wpAny_call_entry F.slot_set_add hT F.entry_set_add ?_ (F.args_set_add_2 _ _)
  unfold Builtin.«set.add» Builtin.Frozenset.oneOther
  simp only [List.isEmpty_nil, bind_assoc]
  unfold Builtin.Frozenset.addrOf
  refine wpAny_bind (wpAny_pure ?_)
  try dsimp only
  refine wpAny_bind (wpAny_pure ?_)
  try dsimp only
  refine wpAny_bind ?_
  refine wpAny_mono h (fun b z' hz => ?_) fun _ _ e => e
  exact wpAny_pure ⟨_, rfl, hz⟩
theorem add_ok {pins : List (Addr × Obj)} {σ : L2.St} {H : Hp} {s : Shared} {E : Value → Shared → Prop} {D : Addr} {y : V} {u : Value} {N : Hp → Prop} {Q : Value → Shared → Prop} (I : Inv X pins σ H s) (hu : X.A.units + 64 < cLine)
    (h : AddO X.K X.prog X.w D y H N) (r : RelV y u) (hQ : ∀ s' H', Inv X pins σ H' s' → N H' → Q .none s') : wpAny (model X.prog X.w) X.A (call (.builtin "set.add") [.ref D, u]) Q E s := by
  rcases h with ⟨k, xs, rfl, hD, few, n⟩ | ⟨b, k, L, rfl, hb, hD, hk, few, n⟩ | ⟨b, k, L, rfl, hb, hD, hk, few, n⟩
  · obtain ⟨tk, rfl⟩ := r
    obtain ⟨es, ep, t, R⟩ := setS_at I.hok hD
    obtain ⟨o, ho, hex, _⟩ := R.ob
    refine set_add_by ⟨o, ho, hex.1⟩ (setAdd_str R few fun c h' tk' xs' lk ⟨sb, R', p⟩ => ?_)
    have ex : ∃ u, h'.get? D = some u := by
      obtain ⟨_, _, _, q⟩ := R'
      obtain ⟨o', ho', _⟩ := q.ob
      exact ⟨o', ho'⟩
    exact hQ _ _ (I.write (x := D) (e := D) (t' := tk') (by rw [hD]; trivial) (.inl rfl) (fun c u hc hh => (sb.2 c hc).trans hh) ex (setS_ok R')) (n xs' p)
  · cases (show u = Value.ref b from r)
    obtain ⟨es, ep, t, R⟩ := setT_at I.hok hD
    obtain ⟨o, ho, hex, _⟩ := R.ob
    refine set_add_by ⟨o, ho, hex.1⟩ (setAdd_tup R (fun p hp => (tup_at I (hk p hp)).2) few (tup_at I hb).2 (by show X.A.units + 1 < cLine; omega) fun c h' tk' L' lk ⟨sb, R', p⟩ => ?_)
    have ex : ∃ u, h'.get? D = some u := by
      obtain ⟨_, _, _, q⟩ := R'
      obtain ⟨o', ho', _⟩ := q.ob
      exact ⟨o', ho'⟩
    exact hQ _ _ (I.write (x := D) (e := D) (t' := tk') (by rw [hD]; trivial) (.inl rfl) (fun c u hc hh => (sb.2 c hc).trans hh) ex (setT_ok R')) (n L' p)
  · cases (show u = Value.ref b from r)
    obtain ⟨es, ep, t, R⟩ := setM_at I.hok hD
    obtain ⟨o, ho, hex, _⟩ := R.ob
    refine set_add_by ⟨o, ho, hex.1⟩ (setAdd_tupM R (fun p hp => tupM_at I (hk p hp)) few (tupM_at I hb) (by show X.A.units + 1 < cLine; omega) fun c h' tk' L' lk ⟨sb, R', p⟩ => ?_)
    have ex : ∃ u, h'.get? D = some u := by
      obtain ⟨_, _, _, q⟩ := R'
      obtain ⟨o', ho', _⟩ := q.ob
      exact ⟨o', ho'⟩
    exact hQ _ _ (I.write (x := D) (e := D) (t' := tk') (by rw [hD]; trivial) (.inl rfl) (fun c u hc hh => (sb.2 c hc).trans hh) ex (setM_ok R')) (n L' p)
end
end My

/-! MyTurns: the loop of a comprehension's block, whatever stands in its innermost place -/
namespace My
open PySem PySem.Spec PyProof.Rows L2
/-- a turn with `inner` in its innermost place -/
def turnOf (p : Pos) (tg : Expr) (ifs : List Expr) (inner : Sem Unit) (c : Code) (it : Value) (env : Env) : Sem Fin := do
  standAt p
  match ← pyNext it with
  | none => pure (.done .next)
  | some v =>
    letOwnedTupleGo tg it v
    assign tg env v
    let mut ok := true
    for c in ifs do
      if ok then ok ← isTrue c env (eval c env)
    if ok then inner
    again c
abbrev testsIn (ifs : List Expr) (env : Env) : Sem Bool := forIn ifs true fun c r => if r = true then do let ok ← isTrue c env (eval c env); pure (ForInStep.yield ok) else pure (ForInStep.yield r)
abbrev No : Value → Shared → Prop := fun _ _ => False
section
variable {P : Program} {w : World} {A : Around} {R : Result → Shared → Prop} {s : Shared}
theorem no_any {α : Type} {t : Sem α} {Q Q' : α → Shared → Prop} {E : Value → Shared → Prop} (h : wpAny (model P w) A t Q No s) (f : ∀ a z, Q a z → Q' a z) : wpAny (model P w) A t Q' E s := wpAny_mono h f fun _ _ z => z.elim
theorem loop_by {e tg : Expr} {k : Nat} {it acc : Value} {env : Env} {p : Pos} {ifs : List Expr} {inner : Sem Unit} (ht : compTurn e k it acc env = turnOf p tg ifs inner (.compLoop e k it acc env) it env)
    (hv : A.under (.compLoop e k it acc env) = A) (hd : (model P w).den (.compLoop e k it acc env) = (compTurn e k it acc env).onRaise fun x => do noteFrame x env; theTreesLotGoes x) (I : Nat → Shared → Prop)
    (turn : ∀ n z, I n z → wpAny (model P w) A (pyNext it) (fun r z1 => match r with
      | none => R (.ok .next) z1
      | some v => wpAny (model P w) A (letOwnedTupleGo tg it v) (fun _ z2 => wpAny (model P w) A (assign tg env v) (fun _ z3 => wpAny (model P w) A (testsIn ifs env) (fun ok z4 =>
          if ok = true then wpAny (model P w) A inner (fun _ z5 => ∃ m, m < n ∧ I m z5) No z4 else ∃ m, m < n ∧ I m z4) No z3) No z2) No z1) No z) (n : Nat) (h : I n s) :
    codeAny (model P w) A (.compLoop e k it acc env) R s := by
  refine codeAny_loop rfl I (fun n z hI => ?_) n h
  rw [hv, hd]
  refine wpAny_noted ?_
  rw [ht]
  unfold turnOf
  refine wpAny_bind (wpAny_standAt (wpAny_bind (no_any (turn n z hI) fun r z1 h1 => ?_)))
  cases r with
  | none => exact wpAny_pure h1
  | some v =>
    refine wpAny_bind (no_any h1 fun _ z2 h2 => wpAny_bind (no_any h2 fun _ z3 h3 => wpAny_bind (no_any h3 fun ok z4 h4 => ?_)))
    cases ok with
    | false => exact wpAny_pure ⟨rfl, h4⟩
    | true => exact wpAny_bind (no_any h4 fun _ z5 h5 => wpAny_pure ⟨rfl, h5⟩)
end
abbrev TIn := L2.St → Hp → (Hp → Prop) → Prop
/-- what stands in the innermost place keeps the slots but those of vs -/
def InnerOk (B : Cx) (vs : List Nat) (inner : Sem Unit) (ti : TIn) : Prop :=
  ∀ (pins : List (Addr × Obj)) (σ : L2.St) (H : Hp) (z : Shared) (N : Hp → Prop), Inv B pins σ H z → ti σ H N →
    wpAny (model B.prog B.w) B.A inner (fun _ z' => ∃ σ' H', Inv B pins σ' H' z' ∧ σ'.length = σ.length ∧ (∀ (j : Nat) (v : V), j ∉ vs → σ[j]? = some (some v) → σ'[j]? = some (some v)) ∧ N H') No z
/-- the turns of a walk, told by the abstract heap alone -/
def Turns (J : It) (g : TG) (tt : TT) (ti : TIn) (vs : List Nat) (σ : L2.St) (W : Nat → Nat → Hp → Prop) (Last : Hp → Prop) : Prop :=
  ∀ i m H, W i m H → (J.stop i H ∧ Last H) ∨ (J.go i H ∧ ∃ Nx : Hp → Prop, (∀ H', Nx H' → ∃ m', m' < m ∧ W (i + 1) m' H') ∧
    ∀ x H', J.yld i H x H' → g x (wipe σ vs) H' fun σ2 H2 => wipe σ2 vs = wipe σ vs ∧ tt σ2 H2 fun b H3 => if b = true then ti σ2 H3 Nx else Nx H3)
theorem block_walk {B : Cx} {tg e : Expr} {J : It} {fp : List Addr} {it : Addr} {tn : Nat → Heap → Prop} {g : TG} {tt : TT} {ti : TIn} {vs : List Nat} {ifs : List Expr} {inner : Sem Unit} {p : Pos} {k m0 : Nat} {acc : Value} {W : Nat → Nat → Hp → Prop} {Last : Hp → Prop}
    {pins : List (Addr × Obj)} {σ : L2.St} {H : Hp} {s : Shared} (hx : B.xe = No) (hc : B.calm = true) (T : Turn B.prog B.w B.K tg J fp it tn) (pg : PG B tg g) (pt : PTs B ifs tt) (pin : InnerOk B vs inner ti)
    (ht : compTurn e k (.ref it) acc B.env = turnOf p tg ifs inner (.compLoop e k (.ref it) acc B.env) (.ref it) B.env)
    (hv : B.A.under (.compLoop e k (.ref it) acc B.env) = B.A) (hd : (model B.prog B.w).den (.compLoop e k (.ref it) acc B.env) = (compTurn e k (.ref it) acc B.env).onRaise fun x => do noteFrame x B.env; theTreesLotGoes x)
    (stat : ∀ {σ' : L2.St} {H' : Hp} {z : Shared}, Inv B pins σ' H' z → (∀ b ∈ fp, H' b = none) → ∀ b ∈ fp, FpOk B pins H' b)
    (I0 : Inv B pins (wipe σ vs) H s) (st0 : tn 0 s.heap) (n0 : ∀ b ∈ fp, H b = none) (w0 : W 0 m0 H) (tu : Turns J g tt ti vs σ W Last) :
    codeAny (model B.prog B.w) B.A (.compLoop e k (.ref it) acc B.env) (fun r z => r = .ok .next ∧ ∃ H', Inv B pins (wipe σ vs) H' z ∧ Last H') s := by
  refine loop_by ht hv hd (fun n z => ∃ i G, Inv B pins (wipe σ vs) G z ∧ tn i z.heap ∧ (∀ b ∈ fp, G b = none) ∧ W i n G) ?_ m0 ⟨0, H, I0, st0, n0, w0⟩
  rintro n z ⟨i, G, IG, st, nf, hw⟩
  rcases tu i n G hw with ⟨stop, fin⟩ | ⟨go, Nx, hNx, step⟩
  · refine no_any (T.done B rfl rfl rfl hc i pins z _ G No IG (stat IG nf) st stop) fun r z1 ⟨hr, I1⟩ => ?_
    rw [hr]
    exact ⟨rfl, G, I1, fin⟩
  · refine no_any (T.item B rfl rfl rfl hc i pins z _ G No IG (stat IG nf) st go) fun r z1 ⟨u, hr, h1⟩ => ?_
    subst hr
    refine no_any h1 fun _ z2 ⟨x, G2, I2, r2, y2, st2, nf2⟩ => ?_
    have run1 := pg.run _ z2 _ G2 x u _ (I2.pinned (stat I2 nf2) (T.obj _ _ st2)) r2 (step x G2 y2)
    rw [hx] at run1
    refine no_any run1 fun _ z3 ⟨σ3, G3, I3, e3, q3⟩ => ?_
    have run2 := pt.run _ z3 σ3 G3 _ I3 q3
    rw [hx] at run2
    refine no_any run2 fun b z4 ⟨G4, I4, q4⟩ => ?_
    have back : ∀ {σ' : L2.St} {G' : Hp} {z' : Shared}, Inv B (pins ++ pinsAt fp z2.heap) σ' G' z' → σ'.length = σ3.length → (∀ (j : Nat) (v : V), j ∉ vs → σ3[j]? = some (some v) → σ'[j]? = some (some v)) → Nx G' →
        ∃ m, m < n ∧ ∃ i G, Inv B pins (wipe σ vs) G z' ∧ tn i z'.heap ∧ (∀ b ∈ fp, G b = none) ∧ W i m G := by
      intro σ' G' z' I' hl hk nx
      obtain ⟨m', hm, w'⟩ := hNx G' nx
      have held : ∀ b ∈ fp, ∀ o, z2.heap.get? b = some o → z'.heap.get? b = some o ∧ G' b = none := fun b hb o eo =>
        have q := I'.pin (b, o) (List.mem_append_right _ (List.mem_append_right _ (mem_pinsAt hb eo)))
        ⟨q.1, q.2.1⟩
      refine ⟨m', hm, i + 1, G', I'.unpinned.weak ?_ (fun j v ev => ?_), T.keep _ _ _ st2 fun b hb o eo => (held b hb o eo).1, fun b hb => ?_, w'⟩
      · rw [hl, ← e3, wipe_length]
      · rw [← e3] at ev
        obtain ⟨e1, e2⟩ := wipe_some ev
        exact hk j v e2 e1
      · obtain ⟨o, eo, _⟩ := T.obj _ _ st2 b hb
        exact (held b hb o eo).2
    cases b with
    | false =>
      rw [if_neg Bool.false_ne_true] at q4 ⊢
      exact back I4 rfl (fun j v _ e => e) q4
    | true =>
      rw [if_pos rfl] at q4 ⊢
      exact no_any (pin _ σ3 G4 z4 Nx I4 q4) fun _ z5 ⟨σ5, G5, I5, l5, k5, n5⟩ => back I5 l5 k5 n5
end My

/-! MyComp: set comprehensions of texts or of tuples of texts, one clause | two -/
namespace My
open PySem PySem.Spec PyProof.Rows L2
def tSet (P : Program) (w : World) (wi : TI) (g : TG) (tt : TT) (ti : Addr → TIn) (vs : List Nat) : TE := fun σ H Q =>
  wi σ H fun J H1 => ∀ D, H1 D = none → ∃ o0, New0 P w D o0 ∧ ∃ (W : Nat → Nat → Hp → Prop) (m0 : Nat), W 0 m0 (upd H1 D o0) ∧ Turns J g tt (ti D) vs σ W fun H' => Q (.ref D) H'
section
variable {X : Cx}
/-- what holds of a block, whatever its context is -/
abbrev InBlk (X : Cx) (scope : Scope) (F : Cx → Prop) : Prop := ∀ (s : Shared) (H : Hp) (C : Addr) (cl : List (Str × Addr)) (fp : List Addr), F (X.blk s H scope (compEnvC scope cl C X.env) fp)
theorem pe_set_of {elt tg iter : Expr} {ifs : List Expr} {rest : List Comprehension} {scope : Scope} {own : List (Str × Nat)} {pos : Pos} {wi : TI} {g : TG} {tt : TT} {ti : Addr → TIn} {inner : Value → Env → Sem Unit} (hc : X.calm = true) (hN : X.N.Nodup)
    (ht : ∀ it acc env, compTurn (.SetComp elt (⟨tg, iter, ifs, 0⟩ :: rest) scope pos) 0 it acc env = turnOf iter.pos tg ifs (inner acc env) (.compLoop (.SetComp elt (⟨tg, iter, ifs, 0⟩ :: rest) scope pos) 0 it acc env) it env)
    (hi : PI X tg iter wi) (ok : BlkOk X.N X.env.scope scope own) (hg : InBlk X scope fun B => PG B tg g) (htt : InBlk X scope fun B => PTs B ifs tt) (hin : InBlk X scope fun B => ∀ D : Addr, InnerOk B (own.map (·.2)) (inner (.ref D) B.env) (ti D))
    (hs : ∀ x, foldedSetIterable iter X.env x = pure x := by intro _; rfl) : PE X (.SetComp elt (⟨tg, iter, ifs, 0⟩ :: rest) scope pos) (tSet X.prog X.w wi g tt ti (own.map (·.2))) := by
  refine ⟨fun pins s σ H Q I h => ?_⟩
  rw [PpSet.eval_SetComp]
  have free : ∀ y ∈ scope.names, y.2 = .free → ∃ c, X.env.cells.lookup y.1 = some c := fun y hy e => I.ok.has _ (by
    rcases ok.free y hy e with k | k
    · exact .inl k
    · exact .inr k)
  refine wpAny_comprehension_free (use := none) rfl hs (closure_ok free) ok.kind (fun y hy e => by rw [ok.uniq y hy, e]) (thn (hi.run pins s σ H _ I h) fun xv z1 h1 => thn h1 fun itv z2 h2 => ?_)
  obtain ⟨it, fp, tn, J, H2, rfl, I2, T, st2, f2, q⟩ := h2
  refine PpSet.newSet_ok (newEnv_comp ?_)
  have hDn : H2 z2.heap.objs.size = none := I2.hok.fresh (Nat.le_refl _)
  obtain ⟨o0, hnew, W, m0, w0, tu⟩ := q _ hDn
  generalize hz3 : ({ z2 with heap := z2.heap.push { cls := .type "set", dict := none, data := .set #[] 0 (.fresh 0 0 (!X.w.params.followText "set-order")) } } : Shared) = z3
  have e3 : z3.heap = z2.heap.push (set0 X.w) := by rw [← hz3]
  have at3 : z3.heap.get? z2.heap.objs.size = some (set0 X.w) := by
    rw [e3]
    exact Heap.get?_push_size _ rfl
  have new : ObjOk X.prog X.w (upd H2 z2.heap.objs.size o0) z3.heap z2.heap.objs.size o0 := by
    rcases hnew with rfl | rfl | rfl
    · exact setS_ok ⟨_, _, _, tabS_new at3⟩
    · exact setT_ok ⟨_, _, _, tabT_new at3⟩
    · exact setM_ok ⟨_, _, _, tabM_new at3⟩
  have I3 : Inv X pins σ (upd H2 z2.heap.objs.size o0) z3 := by
    rw [← hz3] at new ⊢
    exact I2.laid (t' := z2.toks) (fun b o e => Heap.get?_push_of_some _ e) (Nat.le_refl _) new
  have f3 : ∀ b ∈ fp, FpOk X pins (upd H2 z2.heap.objs.size o0) b ∧ b < z3.heap.objs.size := fun b hb => by
    obtain ⟨o, eo, _⟩ := T.obj _ _ st2 b hb
    have lt := Heap.lt_size eo
    refine ⟨⟨?_, (f2 b hb).2⟩, ?_⟩
    · rw [upd_ne (Nat.ne_of_lt lt)]
      exact (f2 b hb).1
    · rw [e3, Heap.size_push]
      exact Nat.lt_succ_of_lt lt
  generalize z2.heap.objs.size = D at *
  have I4 := block_start I3 ok hN f3
  show codeAny _ _ (.compStart (.SetComp elt (⟨tg, iter, ifs, 0⟩ :: rest) scope pos) 0 (.ref it) (.ref D) (compEnvC scope (cellsFrom (z3.heap.objs.size + 1) scope.names (cloFrom X.env.cells scope.names [])) z3.heap.objs.size X.env)) (compPost (model X.prog X.w) X.A X.xe none (EP X pins σ Q) (.ref D) z3.heap.objs.size) { z3 with heap := pushCells (z3.heap.push { cls := .type "dict", data := .dict #[] }) scope.names }
  have qg := hg z3 (upd H2 D o0) z3.heap.objs.size (cellsFrom (z3.heap.objs.size + 1) scope.names (cloFrom X.env.cells scope.names [])) fp
  have qt := htt z3 (upd H2 D o0) z3.heap.objs.size (cellsFrom (z3.heap.objs.size + 1) scope.names (cloFrom X.env.cells scope.names [])) fp
  have qi := hin z3 (upd H2 D o0) z3.heap.objs.size (cellsFrom (z3.heap.objs.size + 1) scope.names (cloFrom X.env.cells scope.names [])) fp D
  dsimp only at qi
  generalize hce : compEnvC scope (cellsFrom (z3.heap.objs.size + 1) scope.names (cloFrom X.env.cells scope.names [])) z3.heap.objs.size X.env = ce at I4 qg qt qi ⊢
  have cL : ce.locals = z3.heap.objs.size := by
    rw [← hce]
    rfl
  generalize hz4 : ({ z3 with heap := pushCells (z3.heap.push { cls := .type "dict", data := .dict #[] }) scope.names } : Shared) = z4 at I4 ⊢
  have st4 : tn 0 z4.heap := T.keep _ _ _ st2 fun b _ o e => by
    rw [← hz4]
    refine pushCells_keeps _ _ _ _ (Heap.get?_push_of_some _ ?_)
    rw [e3]
    exact Heap.get?_push_of_some _ e
  have walk := block_walk (B := X.blk z3 (upd H2 D o0) scope ce fp) (k := 0) (acc := .ref D) rfl hc T qg qt qi (ht _ _ _) rfl rfl
    (fun {σ' H' z} I' hn b hb => ⟨hn b hb, (I'.ok.exf b hb).1, I'.ok.exfs b hb, .inl hb, fun x c e => (I'.ok.exf b hb).2 x c e, fun p hp => absurd (show p ∈ ([] : List (Addr × Obj)) ++ [] from hp) (by simp)⟩) I4 st4 (fun b hb => (f3 b hb).1.1) w0 tu
  have loop : codeAny (model X.prog X.w) X.A (.compLoop (.SetComp elt (⟨tg, iter, ifs, 0⟩ :: rest) scope pos) 0 (.ref it) (.ref D) ce) (compPost (model X.prog X.w) X.A X.xe none (EP X pins σ Q) (.ref D) z3.heap.objs.size) z4 := by
    refine codeAny_mono walk fun r z ⟨hr, G, IG, qG⟩ => ?_
    rw [hr]
    have IX : Inv X pins σ G z := I3.call' (ch := fp) IG.os IG.base IG.hok IG.bare fun b hb => ⟨(f3 b hb).1.2.2.2.1, (f3 b hb).1.2.1, (f3 b hb).1.2.2.2.2.1, (f3 b hb).1.2.2.2.2.2⟩
    have nC : G z3.heap.objs.size = none := by
      rw [← cL]
      exact IG.free
    obtain ⟨m, hn, _⟩ := IG.loc
    have hn : z.heap.Ns ce.locals m := hn
    rw [cL] at hn
    obtain ⟨k0, k1, k2, k3, k4, k5⟩ := I3.fpOk (Nat.le_refl _) nC
    exact ⟨m, hn, fun h' sb => ⟨.ref D, G, IX.turned (t' := z.toks) (fun b o hb e => (sb.2 b hb).trans e) k0 k1 k3 k4 k5, rfl, qG⟩⟩
  exact PpSet.codeAny_compStart_set loop (T.self X.A 0 _ _ _ st4 loop)
end
end My

/-! MyComp2: the innermost places -/
namespace My
open PySem PySem.Spec PyProof.Rows L2
section
variable {X : Cx}
def inAdd (elt : Expr) (acc : Value) (env : Env) : Sem Unit := do
  let v ← eval elt env
  standAt elt.pos
  let _ ← call (.builtin "set.add") [acc, v]
def tiAdd (K : PySem.W.Frag) (P : Program) (w : World) (te : TE) (D : Addr) : TIn := fun σ H N => te σ H fun y H4 => AddO K P w D y H4 N
theorem in_add {B : Cx} {elt : Expr} {te : TE} {D : Addr} {vs : List Nat} (hx : B.xe = No) (hu : B.A.units + 64 < cLine) (he : PE B elt te) : InnerOk B vs (inAdd elt (.ref D) B.env) (tiAdd B.K B.prog B.w te D) := by
  intro pins σ H z N I h
  unfold inAdd
  have run1 := he.run pins z σ H _ I h
  rw [hx] at run1
  refine wpAny_bind (no_any run1 fun u z1 ⟨y, H1, I1, r1, q1⟩ => wpAny_bind (wpAny_standAt ?_))
  exact wpAny_bind (add_ok I1 hu q1 r1 fun z2 H2 I2 n2 => wpAny_pure ⟨σ, H2, I2, rfl, fun _ _ _ e => e, n2⟩)
/-- {elt for tg in iter if ..} -/
theorem pe_sq {elt tg iter : Expr} {ifs : List Expr} {scope : Scope} {own : List (Str × Nat)} {pos : Pos} {wi : TI} {g : TG} {tt : TT} {te : TE} (hc : X.calm = true) (hN : X.N.Nodup) (hu : X.A.units + 64 < cLine)
    (hi : PI X tg iter wi) (ok : BlkOk X.N X.env.scope scope own) (hg : ∀ (s : Shared) (H : Hp) (C : Addr) (cl : List (Str × Addr)) (fp : List Addr), PG (X.blk s H scope (compEnvC scope cl C X.env) fp) tg g) (htt : ∀ (s : Shared) (H : Hp) (C : Addr) (cl : List (Str × Addr)) (fp : List Addr), PTs (X.blk s H scope (compEnvC scope cl C X.env) fp) ifs tt) (he : ∀ (s : Shared) (H : Hp) (C : Addr) (cl : List (Str × Addr)) (fp : List Addr), PE (X.blk s H scope (compEnvC scope cl C X.env) fp) elt te)
    (hs : ∀ x, foldedSetIterable iter X.env x = pure x := by intro _; rfl) : PE X (.SetComp elt [⟨tg, iter, ifs, 0⟩] scope pos) (tSet X.prog X.w wi g tt (tiAdd X.K X.prog X.w te) (own.map (·.2))) :=
  pe_set_of (inner := inAdd elt) hc hN (fun it acc env => rfl) hi ok hg htt (fun s H C cl fp D => in_add rfl hu (he s H C cl fp)) hs
def inTwo (elt t0 i0 t1 i1 : Expr) (ifs0 ifs1 : List Expr) (scope : Scope) (pos : Pos) (acc : Value) (env : Env) : Sem Unit := do
  let x ← eval i1 env
  standAt i1.pos
  let x ← foldedSetIterable i1 env x
  let _ ← runOwn (.compStart (.SetComp elt [⟨t0, i0, ifs0, 0⟩, ⟨t1, i1, ifs1, 0⟩] scope pos) 1 (← holding [x] (pyIter x)) acc env) env
def tiTwo (wi1 : TI) (g1 : TG) (tt1 : TT) (ti1 : Addr → TIn) (vs1 : List Nat) (D : Addr) : TIn := fun σ H N =>
  wi1 σ H fun J1 H4 => ∃ (W1 : Nat → Nat → Hp → Prop) (m1 : Nat), W1 0 m1 H4 ∧ Turns J1 g1 tt1 (ti1 D) vs1 σ W1 N
theorem turn_two (elt t0 i0 t1 i1 : Expr) (ifs0 ifs1 : List Expr) (scope : Scope) (pos : Pos) (it acc : Value) (env : Env) :
    compTurn (.SetComp elt [⟨t0, i0, ifs0, 0⟩, ⟨t1, i1, ifs1, 0⟩] scope pos) 0 it acc env = turnOf i0.pos t0 ifs0 (inTwo elt t0 i0 t1 i1 ifs0 ifs1 scope pos acc env) (.compLoop (.SetComp elt [⟨t0, i0, ifs0, 0⟩, ⟨t1, i1, ifs1, 0⟩] scope pos) 0 it acc env) it env := by
  unfold turnOf inTwo
  simp only [bind_assoc]
  rfl
theorem turn_two1 (elt t0 i0 t1 i1 : Expr) (ifs0 ifs1 : List Expr) (scope : Scope) (pos : Pos) (it acc : Value) (env : Env) :
    compTurn (.SetComp elt [⟨t0, i0, ifs0, 0⟩, ⟨t1, i1, ifs1, 0⟩] scope pos) 1 it acc env = turnOf i1.pos t1 ifs1 (inAdd elt acc env) (.compLoop (.SetComp elt [⟨t0, i0, ifs0, 0⟩, ⟨t1, i1, ifs1, 0⟩] scope pos) 1 it acc env) it env := rfl
theorem start_two {P : Program} {w : World} {A : Around} {R : Result → Shared → Prop} {s : Shared} {elt t0 i0 t1 i1 : Expr} {ifs0 ifs1 : List Expr} {scope : Scope} {pos : Pos} {it acc : Value} {env : Env}
    (h : codeAny (model P w) A (.compLoop (.SetComp elt [⟨t0, i0, ifs0, 0⟩, ⟨t1, i1, ifs1, 0⟩] scope pos) 1 it acc env) R s)
    (again : ∀ E, wpAny (model P w) A (pyIter it) (fun it' z => codeAny (model P w) A (.compLoop (.SetComp elt [⟨t0, i0, ifs0, 0⟩, ⟨t1, i1, ifs1, 0⟩] scope pos) 1 it' acc env) R z) E s) :
    codeAny (model P w) A (.compStart (.SetComp elt [⟨t0, i0, ifs0, 0⟩, ⟨t1, i1, ifs1, 0⟩] scope pos) 1 it acc env) R s := by
  refine codeAny_of_tree ?_
  show wpAny _ _ ((compStart (.SetComp elt [⟨t0, i0, ifs0, 0⟩, ⟨t1, i1, ifs1, 0⟩] scope pos) 1 it acc env).onRaise (fun x => do noteFrame x env; standAt theWindowsPlace)) _ _ s
  refine wpAny_notedAt ?_
  unfold compStart
  show wpAny _ _ (ask >>= _) _ _ s
  refine wpAny_bind (wpAny_askSetting (wpAny_ite ?_))
  split
  · first
      | exact wpAny_pure (And.intro rfl h)
      | exact wpAny_bind (wpAny_pure (wpAny_pure (And.intro rfl h)))
  · refine wpAny_bind (wpAny_rule ?_)
    first
      | exact wpAny_bind (wpAny_standAt (wpAny_bind (wpAny_mono (again _) (fun _ _ q => wpAny_pure (And.intro rfl q)) fun _ _ e => e)))
      | (show wpAny _ _ (standAt i1.pos >>= _) _ _ s
         exact wpAny_bind (wpAny_standAt (wpAny_bind (wpAny_mono (again _) (fun _ _ q => wpAny_pure (And.intro rfl q)) fun _ _ e => e))))
theorem in_two {B : Cx} {elt t0 i0 t1 i1 : Expr} {ifs0 ifs1 : List Expr} {scope : Scope} {pos : Pos} {te : TE} {D : Addr} {vs vs1 : List Nat} {wi1 : TI} {g1 : TG} {tt1 : TT} (hx : B.xe = No) (hc : B.calm = true) (hu : B.A.units + 64 < cLine) (hv : ∀ i ∈ vs1, i ∈ vs)
    (hi1 : PI B t1 i1 wi1) (hg1 : PG B t1 g1) (ht1 : PTs B ifs1 tt1) (he : PE B elt te) (hs1 : ∀ env x, foldedSetIterable i1 env x = pure x) :
    InnerOk B vs (inTwo elt t0 i0 t1 i1 ifs0 ifs1 scope pos (.ref D) B.env) (tiTwo wi1 g1 tt1 (tiAdd B.K B.prog B.w te) vs1 D) := by
  intro pins σ H z N I h
  unfold inTwo
  have run1 := hi1.run pins z σ H _ I h
  rw [hx] at run1
  refine wpAny_bind (no_any run1 fun u z1 h1 => wpAny_bind (wpAny_standAt (wpAny_bind (wpAny_of_eq (hs1 B.env u) (wpAny_bind (wpAny_holding (no_any h1 fun itv z2 h2 => ?_)))))))
  obtain ⟨it, fp, tn, J, H2, rfl, I2, T, st2, f2, W1, m1, w1, tu⟩ := h2
  refine wpAny_bind (wpAny_runOwn ?_ (by intro x; cases x))
  rw [Around.mark_none]
  have walk := block_walk (B := B) (k := 1) (acc := .ref D) (vs := vs1) (e := .SetComp elt [⟨t0, i0, ifs0, 0⟩, ⟨t1, i1, ifs1, 0⟩] scope pos) hx hc T hg1 ht1 (in_add hx hu he) (turn_two1 _ _ _ _ _ _ _ _ _ _ _ _) rfl rfl
    (fun {σ' H' z'} _ hn b hb => ⟨hn b hb, (f2 b hb).2⟩) (I2.weak (wipe_length σ vs1) fun j v e => (wipe_some e).1) st2 (fun b hb => (f2 b hb).1) w1 tu
  have walk' := codeAny_mono walk (R' := fun r z' => match r with
    | .ok f => wpAny (model B.prog B.w) B.A (pure () : Sem Unit) (fun _ z' => ∃ σ' H', Inv B pins σ' H' z' ∧ σ'.length = σ.length ∧ (∀ (j : Nat) (v : V), j ∉ vs → σ[j]? = some (some v) → σ'[j]? = some (some v)) ∧ N H') No z'
    | .error e => cameBackBy (model B.prog B.w) B.A B.env No e z') fun r z3 ⟨hr, G, IG, nG⟩ => by
      rw [hr]
      exact wpAny_pure ⟨_, G, IG, wipe_length σ vs1, fun j v hj e => by rw [wipe_out fun m => hj (hv j m)]; exact e, nG⟩
  exact start_two walk' fun E => T.self B.A 0 _ _ _ st2 walk'
/-- {elt for t0 in i0 if .. for t1 in i1 if ..} -/
theorem pe_sq2 {elt t0 i0 t1 i1 : Expr} {ifs0 ifs1 : List Expr} {scope : Scope} {own : List (Str × Nat)} {vs1 : List Nat} {pos : Pos} {wi wi1 : TI} {g g1 : TG} {tt tt1 : TT} {te : TE} (hc : X.calm = true) (hN : X.N.Nodup) (hu : X.A.units + 64 < cLine)
    (hi : PI X t0 i0 wi) (ok : BlkOk X.N X.env.scope scope own) (hv : ∀ i ∈ vs1, i ∈ own.map (·.2)) (hg : ∀ (s : Shared) (H : Hp) (C : Addr) (cl : List (Str × Addr)) (fp : List Addr), PG (X.blk s H scope (compEnvC scope cl C X.env) fp) t0 g) (ht : ∀ (s : Shared) (H : Hp) (C : Addr) (cl : List (Str × Addr)) (fp : List Addr), PTs (X.blk s H scope (compEnvC scope cl C X.env) fp) ifs0 tt)
    (hi1 : ∀ (s : Shared) (H : Hp) (C : Addr) (cl : List (Str × Addr)) (fp : List Addr), PI (X.blk s H scope (compEnvC scope cl C X.env) fp) t1 i1 wi1) (hg1 : ∀ (s : Shared) (H : Hp) (C : Addr) (cl : List (Str × Addr)) (fp : List Addr), PG (X.blk s H scope (compEnvC scope cl C X.env) fp) t1 g1) (ht1 : ∀ (s : Shared) (H : Hp) (C : Addr) (cl : List (Str × Addr)) (fp : List Addr), PTs (X.blk s H scope (compEnvC scope cl C X.env) fp) ifs1 tt1) (he : ∀ (s : Shared) (H : Hp) (C : Addr) (cl : List (Str × Addr)) (fp : List Addr), PE (X.blk s H scope (compEnvC scope cl C X.env) fp) elt te)
    (hs : ∀ x, foldedSetIterable i0 X.env x = pure x := by intro _; rfl) (hs1 : ∀ env x, foldedSetIterable i1 env x = pure x := by intro _ _; rfl) :
    PE X (.SetComp elt [⟨t0, i0, ifs0, 0⟩, ⟨t1, i1, ifs1, 0⟩] scope pos) (tSet X.prog X.w wi g tt (tiTwo wi1 g1 tt1 (tiAdd X.K X.prog X.w te) vs1) (own.map (·.2))) :=
  pe_set_of (inner := inTwo elt t0 i0 t1 i1 ifs0 ifs1 scope pos) hc hN (fun it acc env => turn_two _ _ _ _ _ _ _ _ _ _ _ _) hi ok hg ht
    (fun s H C cl fp D => in_two rfl hc hu hv (hi1 s H C cl fp) (hg1 s H C cl fp) (ht1 s H C cl fp) (he s H C cl fp) hs1) hs
end
end My

/-! MySrtT: sorted(t), t a tuple of tuples of texts, equal ones too -/
namespace SrtO
open PySem PySem.Spec PyProof.Rows
section
variable {prog : Program} {w : World} {A : Around} {E : Value → Shared → Prop} {s : Shared}
theorem my_collect_tup {l : Addr} {vs : List Value} {Q : List Value → Shared → Prop} (hl : IsTup s.heap l vs.toArray)
    (h : Q vs { s with heap := (s.heap.push (seqObj "list" #[] 0)).update s.heap.objs.size (Obj.mapSeq (· ++ vs.toArray)) }) (hsz : vs.length ≤ sizeLine) :
    wpAny (model prog w) A (collect (.ref l)) Q E s := by
  obtain ⟨o, ho, hc, n, hd⟩ := id hl
  unfold collect
  refine wpAny_bind (wpAny_runValue (codeAny_builtin entry_proto_collect' ?_))
  show wpAny _ _ (do again (.builtin "list.__iadd__" ⟨[← newList [], .ref l], []⟩)) _ _ s
  refine wpAny_bind (wpAny_newList (wpAny_pure ⟨Code.quiet_builtin _ (by decide +kernel), codeAny_builtin entry_list_iadd' ?_⟩))
  show wpAny _ _ (Builtin.List.listExtendWith (.ref s.heap.objs.size) (.ref l) (.ref s.heap.objs.size)) _ _ { s with heap := s.heap.push (seqObj "list" #[] 0) }
  unfold Builtin.List.listExtendWith
  have ho' : (s.heap.push (seqObj "list" #[] 0)).get? l = some o := Heap.get?_push_of_some _ ho
  refine wpAny_bind (wpAny_typeOf (T := "tuple") ⟨o, ho', hc⟩ ?_)
  have ht : (Value.type "tuple" == Value.type "tuple") = true := by rfl
  rw [if_pos (by rw [ht]; simp)]
  refine wpAny_bind (listItems_at ho' hd ?_)
  refine wpAny_bind (listItems_at (xs := #[]) (n := 0) (Heap.get?_push_size _ rfl) rfl ?_)
  rw [if_neg (by simp)]
  refine wpAny_bind (listUpdate_at (xs := #[]) (n := 0) (Heap.get?_push_size _ rfl) rfl ?_ (Nat.zero_le _) (by show (#[] ++ vs.toArray).size ≤ sizeLine + 1; simp only [Array.size_append, List.size_toArray, List.length_nil]; omega))
  refine wpAny_pure ?_
  show wpAny (model prog w) A (do
      let o ← load s.heap.objs.size
      match o.data with
      | .seq xs _ => pure xs.toList
      | _ => unsupported "internal:collect") Q E { s with heap := (s.heap.push (seqObj "list" #[] 0)).update s.heap.objs.size (Obj.mapSeq (· ++ vs.toArray)) }
  refine wpAny_bind (wpAny_load (get?_update_seq (Heap.get?_push_size _ rfl) _) ?_)
  show wpAny _ _ (pure ((#[] : Array Value) ++ vs.toArray).toList) Q E _
  rw [show ((#[] : Array Value) ++ vs.toArray).toList = vs by simp]
  exact wpAny_pure h
theorem my_sorted_tup {l : Addr} {vs : List Value} {ltv : Value → Value → Bool} {Q : Value → Shared → Prop} (O : Swo ltv) (hl : IsTup s.heap l vs.toArray) (hz : vs.length ≤ sizeLine)
    (hS : 2 ≤ vs.length → ∀ (h₁ : Heap) (a : Addr), h₁.get? a = some (seqObj "list" vs.toArray 0) → (∀ b o, s.heap.get? b = some o → b ≠ a ∧ h₁.get? b = some o) → SortableO prog w A.in1.in1 { s with heap := h₁ } a vs ltv)
    (h : ∀ out : List Value, Srtd ltv out → Stb ltv out vs → Q (.ref (s.heap.objs.size + 1)) { s with heap := sortedAll s.heap vs out.toArray }) :
    wpAny (model prog w) A (call (.builtin "sorted") [.ref l]) Q E s := by
  refine Calls.call_function_entry kind_sorted plain_sorted entry_sorted (args_sorted1 _) ?_
  unfold Builtin.«sorted»
  refine wpAny_bind (m := checkCount "sorted" 1 1 _) (wpAny_pure ?_)
  refine wpAny_bind (my_collect_tup hl ?_ hz)
  refine wpAny_bind (wpAny_newList ?_ hz)
  have hsz : ((s.heap.push (seqObj "list" #[] 0)).update s.heap.objs.size (Obj.mapSeq (· ++ vs.toArray))).objs.size = s.heap.objs.size + 1 := by
    rw [Heap.size_update, size_push']
  have hoL : (((s.heap.push (seqObj "list" #[] 0)).update s.heap.objs.size (Obj.mapSeq (· ++ vs.toArray))).push (seqObj "list" vs.toArray 0)).get? (s.heap.objs.size + 1) = some (seqObj "list" vs.toArray 0) := by
    rw [← hsz]; exact Heap.get?_push_size _ rfl
  have keep : ∀ b o, s.heap.get? b = some o → b ≠ s.heap.objs.size + 1 ∧ (((s.heap.push (seqObj "list" #[] 0)).update s.heap.objs.size (Obj.mapSeq (· ++ vs.toArray))).push (seqObj "list" vs.toArray 0)).get? b = some o := fun b o q => by
    have hlt : b < s.heap.objs.size := Heap.lt_size q
    refine ⟨Nat.ne_of_lt (Nat.lt_succ_of_lt hlt), Heap.get?_push_of_some _ ?_⟩
    rw [Heap.get?_update_ne _ _ _ _ (Nat.ne_of_lt hlt)]
    exact Heap.get?_push_of_some _ q
  show wpAny _ _ _ _ _ { s with heap := ((s.heap.push (seqObj "list" #[] 0)).update s.heap.objs.size (Obj.mapSeq (· ++ vs.toArray))).push (seqObj "list" vs.toArray 0) }
  rw [hsz]
  refine wpAny_bind (wpAny_holding (wpAny_call_entry slot_list_sort ⟨_, hoL, rfl⟩ entry_list_sort (list_sort_ord O hoL hz (fun h2 => hS h2 _ _ hoL keep) fun out hs hb => ⟨_, rfl, ?_⟩) (args_list_sort _)))
  exact wpAny_pure ⟨_, rfl, h out hs hb⟩
end
end SrtO
namespace My
open PySem PySem.Spec PyProof.Rows L2
/-- sorted(t): some other order of the items -/
def rSortTT (K : PySem.W.Frag) : List V → Hp → VK → Prop := fun vs H Q => ∃ (a : Addr) (L : List (Addr × List Str)), vs = [V.ref a] ∧ SqT K H a (L.map fun q => V.ref q.1) ∧ (∀ q ∈ L, SqT K H q.1 (q.2.map V.str) ∧ q.2 ≠ []) ∧
  ∀ (L' : List (Addr × List Str)) (p : Addr), L'.Perm L → H p = none → Q (.ref p) (upd H p (.lst (L'.map fun q => V.ref q.1)))
theorem refs_vals : ∀ {L : List (Addr × List Str)} {its : List Value}, Vals (L.map fun q => V.ref q.1) its → its = L.map fun p => Value.ref p.1
  | [], _, h => by
    cases h
    rfl
  | p :: r, _, h => by
    cases h with
    | cons h1 h2 =>
      rw [refs_vals h2]
      cases h1
      rfl
section
variable {X : Cx}
theorem cr_sortTT (hc : X.calm = true) : CallR X (.builtin "sorted") (rSortTT X.K) := by
  intro pins s σ H vs us Q I r h
  obtain ⟨a, L, rfl, ha, ht, q⟩ := h
  obtain ⟨u, rfl, ru⟩ := vals1 r
  cases (show u = Value.ref a from ru)
  obtain ⟨its, rv, hl, hz⟩ := I.tuple ha
  have ln := rv.length
  rw [List.length_map] at ln hz
  have one : ∀ p ∈ L, ∀ q ∈ L, p.1 = q.1 → p.2 = q.2 := fun p hp q hq e => by
    have h1 := (ht p hp).1
    rw [e] at h1
    exact map_str_inj (I.tuple_inj h1 (ht q hq).1)
  have vals : its = L.map fun p => Value.ref p.1 := refs_vals rv
  have each : ∀ v ∈ its, ∃ p ∈ L, v = Value.ref p.1 ∧ kOf L v = p.2 := fun v hv => by
    rw [vals] at hv
    obtain ⟨p, hp, rfl⟩ := List.mem_map.mp hv
    exact ⟨p, hp, rfl, kOf_at one hp⟩
  refine SrtO.my_sorted_tup (ltv := fun v u => ltK (kOf L v) (kOf L u)) ⟨fun x y => tot_key.swo.asym _ _, fun x y z => tot_key.swo.tr _ _ _⟩ hl (by omega) (fun h2 h₁ b hb kp => ?_) fun out hs pm => ?_
  · refine sortable_tups (s := { s with heap := h₁ }) (by omega) (fun v hv => ?_) fun o' e' c' => ?_
    · obtain ⟨p, hp, rfl, e⟩ := each v hv
      rw [e]
      exact ⟨(tup_at I (ht p hp).1).1.keeps fun b o e _ => (kp b o e).2, (ht p hp).2⟩
    · have e2 : some o' = some _ := e'.symm.trans hb
      cases e2
      exact absurd (Value.type.inj c') (by decide)
  · have refs : ∀ v ∈ out, v = Value.ref (pOf L v).1 := fun v hv => by
      obtain ⟨p, _, rfl, _⟩ := each v (pm.perm.mem_iff.mp hv)
      rfl
    have back : its.map (pOf L) = L := by
      rw [vals, List.map_map]
      refine (List.map_congr_left fun p hp => ?_).trans (List.map_id L)
      exact Prod.ext rfl (kOf_at one hp)
    have pL : (out.map (pOf L)).Perm L := by
      have z := pm.perm.map (pOf L)
      rw [back] at z
      exact z
    have len : ((out.map (pOf L)).map fun q => V.ref q.1).length ≤ sizeLine := by
      rw [List.length_map, pL.length_eq]
      exact hz
    have rel : ∀ l : List Value, (∀ v ∈ l, v = Value.ref (pOf L v).1) → Vals ((l.map (pOf L)).map fun q => V.ref q.1) l := by
      intro l
      induction l with
      | nil => intro _; exact .nil
      | cons v l ih => intro h; exact .cons (h v List.mem_cons_self) (ih fun u hu => h u (List.mem_cons_of_mem _ hu))
    obtain ⟨ep, he'⟩ := PyProof.Rows.sortedAll_at s.heap its out.toArray
    exact ⟨.ref _, upd H (s.heap.objs.size + 1) (.lst ((out.map (pOf L)).map fun q => V.ref q.1)), I.laid (t' := s.toks) (fun _ _ => PyProof.Rows.sortedAll_old) (Nat.le_succ _) ⟨len, out, ep, rel out refs, he'⟩, rfl, q _ _ pL (I.hok.fresh (Nat.le_succ _))⟩
end
end My

/-! PS: sets of texts, of tuples of texts, over data; sorted of them -/
namespace My
open PySem PySem.Spec PyProof.Rows L2
def sortU {α : Type} (lt : α → α → Bool) (l : List α) : List α := l.mergeSort fun a b => !lt b a
theorem sortU_perm {α : Type} {lt : α → α → Bool} (l : List α) : (sortU lt l).Perm l := List.mergeSort_perm _ _
theorem sortU_asc {α : Type} {lt : α → α → Bool} (T : Tot lt) {l : List α} (nd : l.Nodup) : Asc lt (sortU lt l) := by
  refine asc_of T ?_ ((sortU_perm l).nodup_iff.mpr nd)
  have tr : ∀ a b c : α, (!lt b a) = true → (!lt c b) = true → (!lt c a) = true := fun a b c h1 h2 => by
    rw [Bool.not_eq_true'] at h1 h2 ⊢
    cases h : lt c a with
    | false => rfl
    | true =>
      cases k : lt a b with
      | true =>
        rw [T.trans _ _ _ h k] at h2
        cases h2
      | false =>
        have e := T.tri _ _ k h1
        subst e
        rw [h] at h2
        cases h2
  have to : ∀ a b : α, ((!lt b a) || (!lt a b)) = true := fun a b => by
    cases h : lt b a with
    | false => rfl
    | true =>
      rw [T.asym h]
      rfl
  have z := List.pairwise_mergeSort tr to l
  exact z.imp fun {a b} h => by simpa using h
theorem sortU_is {α : Type} [DecidableEq α] {lt : α → α → Bool} (T : Tot lt) {l ys : List α} (nd : l.Nodup) (asc : Asc lt ys) (mem : ∀ x, x ∈ ys ↔ x ∈ l) : ys = sortU lt l :=
  asc_uniq T asc (sortU_asc T nd) fun x => (mem x).trans (sortU_perm l).mem_iff.symm
def addU {α : Type} [DecidableEq α] (acc : List α) (k : α) : List α := if k ∈ acc then acc else acc ++ [k]
theorem addU_mem {α : Type} [DecidableEq α] {acc : List α} {k x : α} : x ∈ addU acc k ↔ x = k ∨ x ∈ acc := by
  unfold addU
  split
  · exact ⟨.inr, fun h => h.elim (fun e => by rw [e]; assumption) id⟩
  · rw [List.mem_append, List.mem_singleton]
    exact Or.comm
theorem addU_nd {α : Type} [DecidableEq α] {acc : List α} {k : α} (h : acc.Nodup) : (addU acc k).Nodup := by
  unfold addU
  split
  · exact h
  · rename_i c
    exact List.nodup_append.mpr ⟨h, by simp, fun a ha b hb e => c (by rw [List.mem_singleton] at hb; rw [← hb, ← e]; exact ha)⟩
theorem addU_len {α : Type} [DecidableEq α] {acc : List α} {k : α} : (addU acc k).length ≤ acc.length + 1 := by
  unfold addU
  split
  · omega
  · rw [List.length_append]
    exact Nat.le_refl _
theorem addU_grow {α : Type} [DecidableEq α] {acc : List α} {k : α} : acc.length ≤ (addU acc k).length := by
  unfold addU
  split
  · exact Nat.le_refl _
  · rw [List.length_append]
    omega
/-- each once, in the order of their first coming -/
def ddU {α : Type} [DecidableEq α] (l : List α) : List α := l.foldl addU []
theorem ddU_from {α : Type} [DecidableEq α] : ∀ (l acc : List α), acc.Nodup → (l.foldl addU acc).Nodup ∧ ∀ x, x ∈ l.foldl addU acc ↔ x ∈ acc ∨ x ∈ l
  | [], acc, h => ⟨h, fun x => by simp⟩
  | k :: l, acc, h => by
    obtain ⟨a, b⟩ := ddU_from l (addU acc k) (addU_nd h)
    refine ⟨a, fun x => ?_⟩
    rw [List.foldl_cons, b x, addU_mem, List.mem_cons]
    constructor
    · rintro ((h | h) | h)
      · exact .inr (.inl h)
      · exact .inl h
      · exact .inr (.inr h)
    · rintro (h | h | h)
      · exact .inl (.inr h)
      · exact .inl (.inl h)
      · exact .inr h
theorem ddU_nd {α : Type} [DecidableEq α] (l : List α) : (ddU l).Nodup := (ddU_from l [] List.nodup_nil).1
theorem ddU_mem {α : Type} [DecidableEq α] {l : List α} {x : α} : x ∈ ddU l ↔ x ∈ l := by
  rw [ddU, (ddU_from l [] List.nodup_nil).2 x]
  simp
/-! ### the two kinds -/
def vS : PyData → Option Str
  | .str x => some x
  | _ => none
def strsD : List PyData → Option (List Str)
  | [] => some []
  | .str x :: r => (strsD r).map (x :: ·)
  | _ => none
def vT : PyData → Option (List Str)
  | .tuple xs => match strsD xs with
    | some (k :: ks) => some (k :: ks)
    | _ => none
  | _ => none
def bS (x : Str) : PyData := .str x
def bT' (k : List Str) : PyData := .tuple (k.map PyData.str)
theorem rps_strs {K : PySem.W.Frag} {H : Hp} : ∀ {us : List V} {ds : List PyData} {ks : List Str}, RpAll K H us ds → strsD ds = some ks → us = ks.map V.str ∧ ds = ks.map PyData.str
  | _, _, _, .nil, e => by cases e; exact ⟨rfl, rfl⟩
  | _, _, _, .cons (d := d) h t, e => by
    cases d with
    | str b =>
      obtain ⟨r, e1, e2⟩ := Option.map_eq_some_iff.mp e
      subst e2
      cases h
      obtain ⟨a, b⟩ := rps_strs t e1
      exact ⟨by rw [a, List.map_cons], by rw [List.map_cons, ← b]⟩
    | _ => cases e
theorem rp_T {K : PySem.W.Frag} {H : Hp} {v : V} {d : PyData} {k : List Str} (h : Rp K H v d) (e : vT d = some k) : ∃ a, v = .ref a ∧ SqT K H a (k.map V.str) ∧ k ≠ [] ∧ d = bT' k := by
  cases d with
  | tuple xs =>
    cases h with
    | tup hs ha =>
      cases c : strsD xs with
      | none => simp [vT, c] at e
      | some ks =>
        cases ks with
        | nil => simp [vT, c] at e
        | cons x r =>
          simp [vT, c] at e
          subst e
          obtain ⟨a, b⟩ := rps_strs ha c
          refine ⟨_, rfl, by rw [← a]; exact hs, List.cons_ne_nil _ _, by rw [b]; rfl⟩
  | _ => cases e
theorem rps_back {K : PySem.W.Frag} {H : Hp} : ∀ ks : List Str, RpAll K H (ks.map V.str) (ks.map PyData.str)
  | [] => .nil
  | x :: r => .cons (.str x) (rps_back r)
/-- a kind of sets: what stands for an item, and the set at D in the heap -/
structure SB (P : Program) (w : World) (K : PySem.W.Frag) (α : Type) [DecidableEq α] where
  view : PyData → Option α
  Acc : (Addr → Bool) → Addr → List α → Hp → Prop
  noL : ∀ {O D acc H}, Acc O D acc H → (∀ us, H D ≠ some (.lst us)) ∧ ∀ us, H D ≠ some (.dK us)
  use : ∀ {O D acc H}, Acc O D acc H → ∃ o, H D = some o ∧ NoTup o
  new : ∀ {O H D}, H D = none → ∃ o0, New0 P w D o0 ∧ Acc (add O D) D [] (upd H D o0)
  keep : ∀ {O D acc H H'}, Acc O D acc H → H' D = H D → Same (hid O H) (hid O H') → Acc O D acc H'
  put : ∀ {O D acc H y dy k} {N : Hp → Prop}, Acc O D acc H → O D = true → Rp K (hid O H) y dy → view dy = some k → acc.length < 62 → (∀ o, Acc O D (addU acc k) (upd H D o) → N (upd H D o)) → AddO K P w D y H N
structure SK (P : Program) (w : World) (K : PySem.W.Frag) (α : Type) [DecidableEq α] extends SB P w K α where
  back : α → PyData
  lt : α → α → Bool
  tot : Tot lt
  srt : ∀ {O D acc H} {Q : VK}, Acc O D acc H → acc.Nodup → (∀ p vs, H p = none → RpAll K (hid O H) vs ((sortU lt acc).map back) → Q (.ref p) (upd H p (.lst vs))) → rSortS w [.ref D] H Q ∨ rSortT K P w [.ref D] H Q
def skS (P : Program) (w : World) (K : PySem.W.Frag) : SK P w K Str where
  view := vS
  back := bS
  lt := ltS
  tot := tot_str
  Acc := fun _ D acc H => ∃ xs, H D = some (SetS w D xs) ∧ (∀ x, x ∈ xs ↔ x ∈ acc) ∧ xs.length ≤ acc.length
  noL := fun ⟨xs, h, _⟩ => ⟨fun us e => (by rw [h] at e; cases e), fun us e => (by rw [h] at e; cases e)⟩
  use := fun ⟨xs, h, _⟩ => ⟨_, h, ⟨fun _ e => (nomatch e), fun _ _ e => (nomatch e)⟩⟩
  new := fun {O H D} _ => ⟨_, .inl rfl, [], upd_same, fun _ => Iff.rfl, Nat.le_refl _⟩
  keep := fun ⟨xs, h, r⟩ e _ => ⟨xs, e.trans h, r⟩
  put := fun {O D acc H y dy k N} ⟨xs, h, m, l⟩ _ r e few n => by
    cases dy with
    | str x =>
      cases e
      cases r
      refine .inl ⟨_, xs, rfl, h, by omega, fun xs' a => n _ ⟨xs', upd_same, fun z => ?_, ?_⟩⟩
      · rw [a.mem, addU_mem, m]
      · by_cases c : k ∈ acc
        · rw [a.1 ((m k).mpr c)]
          exact Nat.le_trans l addU_grow
        · have z := a.len
          unfold addU
          rw [if_neg c, List.length_append]
          show _ ≤ acc.length + 1
          omega
    | _ => cases e
  srt := fun {O D acc H Q} ⟨xs, h, m, l⟩ nd q => .inl ⟨D, xs, rfl, h, fun ys p asc pm np => q p _ np (by
    rw [← sortU_is tot_str nd asc fun x => pm.mem_iff.trans (m x)]
    exact rps_back ys)⟩
theorem strs_nd {ks : List Str} (h : ks ≠ []) {P : Prop} (e : dictable (ks.map PyData.str) = true) : P := by
  cases ks with
  | nil => exact absurd rfl h
  | cons x r => cases e
theorem rps_keys {K : PySem.W.Frag} {H : Hp} : ∀ {L : List (Addr × List Str)}, (∀ q ∈ L, SqT K H q.1 (q.2.map V.str) ∧ q.2 ≠ []) → RpAll K H (L.map fun q => V.ref q.1) ((L.map (·.2)).map bT')
  | [], _ => .nil
  | q :: r, h => .cons (.tup (h q List.mem_cons_self).1 (rps_back q.2) fun e => strs_nd (h q List.mem_cons_self).2 e) (rps_keys fun z m => h z (List.mem_cons_of_mem _ m))
def skT (P : Program) (w : World) (K : PySem.W.Frag) : SK P w K (List Str) where
  view := vT
  back := bT'
  lt := ltK
  tot := tot_key
  Acc := fun O D acc H => ∃ L : List (Addr × List Str), H D = some (SetT P w D L) ∧ (∀ x, x ∈ L.map (·.2) ↔ x ∈ acc) ∧ L.length ≤ acc.length ∧ ∀ q ∈ L, SqT K (hid O H) q.1 (q.2.map V.str) ∧ q.2 ≠ []
  noL := fun ⟨xs, h, _⟩ => ⟨fun us e => (by rw [h] at e; cases e), fun us e => (by rw [h] at e; cases e)⟩
  use := fun ⟨xs, h, _⟩ => ⟨_, h, ⟨fun _ e => (nomatch e), fun _ _ e => (nomatch e)⟩⟩
  new := fun {O H D} _ => ⟨_, .inr (.inl rfl), [], upd_same, fun _ => Iff.rfl, Nat.le_refl _, fun q h => nomatch h⟩
  keep := fun ⟨L, h, m, l, t⟩ e s => ⟨L, e.trans h, m, l, fun q hq => ⟨same_seqT s (t q hq).1, (t q hq).2⟩⟩
  put := fun {O D acc H y dy k N} ⟨L, h, m, l, t⟩ hO r e few n => by
    obtain ⟨a, rfl, hs, ne, _⟩ := rp_T r e
    refine .inr (.inl ⟨a, k, L, rfl, same_seqT hid_le hs, h, fun p hp => same_seqT hid_le (t p hp).1, by omega, fun L' ad => n _ ⟨L', upd_same, fun z => ?_, ?_, fun q hq => ?_⟩⟩)
    · rw [ad.keys, addU_mem, m]
    · by_cases c : k ∈ acc
      · rw [ad.1 ((m k).mpr c)]
        exact Nat.le_trans l addU_grow
      · have z := ad.len
        unfold addU
        rw [if_neg c, List.length_append]
        show _ ≤ acc.length + 1
        omega
    · rw [hid_upd hO]
      rcases ad.sub hq with rfl | hq
      · exact ⟨hs, ne⟩
      · exact t q hq
  srt := fun {O D acc H Q} ⟨L, h, m, l, t⟩ nd q => .inr ⟨D, L, rfl, h, fun p hp => ⟨same_seqT hid_le (t p hp).1, (t p hp).2⟩, fun L' p pm asc np => q p _ np (by
    rw [← sortU_is tot_key nd asc fun x => ((pm.map (·.2)).mem_iff).trans (m x)]
    exact rps_keys fun z hz => t z (pm.mem_iff.mp hz))⟩
/-! ### set comprehensions, sorted at once -/
def loopD {α : Type} (g : GD) (p : TD) (body : DEnv → α → M α) (ρ0 : DEnv) : List PyData → α → M α
  | [], a => fun n Q => Q a n
  | x :: xs, a => fun n Q => ∃ ρ', g x ρ0 = some ρ' ∧ p ρ' n fun b n1 => if b = true then body ρ' a n1 fun a' n2 => loopD g p body ρ0 xs a' n2 Q else loopD g p body ρ0 xs a n1 Q
def putW {α : Type} [DecidableEq α] (view : PyData → Option α) (e : ED) : DEnv → List α → M (List α) := fun ρ acc n Q => e ρ n fun y n1 => ∃ k, view y = some k ∧ acc.length < 62 ∧ Q (addU acc k) n1
section
variable {X : Cx} {α : Type} [DecidableEq α]
/-- a body of a set comprehension does what it says: ti by the heap, b by data -/
def InW (kd : SB X.prog X.w X.K α) (ti : Addr → TIn) (b : DEnv → List α → M (List α)) : Prop := ∀ {dk OB H0 O H D σ ρ n acc} {N : Hp → Prop} {Qd},
  StR X.K dk OB H0 O H σ ρ n → O D = true → NotDk dk D → H0 D = none → kd.Acc O D acc H → acc.Nodup → b ρ acc n Qd →
  (∀ acc' H' n', Same (hid O H) (hid O H') → (∀ b o, b ≠ D → ¬ dkA dk b → H b = some o → H' b = some o) → DkOk dk n' H' → kd.Acc O D acc' H' → acc'.Nodup → Qd acc' n' → N H') → ti D σ H N
theorem inW_put {kd : SB X.prog X.w X.K α} {e : ED} : InW kd (tiAdd X.K X.prog X.w (tW X.K e)) (putW kd.view e) := by
  intro dk OB H0 O H D σ ρ n acc N Qd S hO nd h0 A nda hb q
  refine rd_W S hb fun y dy H1 n1 f1 d1 r1 ⟨k, ek, few, q1⟩ => ?_
  have nA : ¬ dkA dk D := fun ⟨E, e1, e2⟩ => (nd E e1).1 e2
  have s1 := S.hid f1
  -- the set is in use, and stays as it is
  have hD : H1 D = H D := by
    cases c : H D with
    | none => exact absurd c (S.dom.ne hO)
    | some o => exact f1 _ _ nA c
  refine kd.put (kd.keep A hD s1) hO r1 ek few fun o A' => q (addU acc k) _ n1 ?_ ?_ (d1.upd nd) A' (addU_nd nda) q1
  · rw [hid_upd hO]
    exact s1
  · exact fun b o nb na h => by
      rw [upd_ne nb]
      exact f1 _ _ na h
/-- the turns of one clause -/
theorem turns_D {kd : SB X.prog X.w X.K α} {g : GD} {p : TD} {body : DEnv → List α → M (List α)} {vs own : List Nat} {ti : Addr → TIn} (hvs : ∀ i ∈ vs, i ∈ own) (hb : InW kd ti body)
    {dk : Option DkI} {OB : Addr → Bool} {H0 : Hp} {O : Addr → Bool} {H1 : Hp} {D : Addr} {σ : L2.St} {ρ : DEnv} {n1 : Nat} {acc : List α} {xs : List PyData} {J : It} {Last : Hp → Prop} {Qd : List α → Nat → Prop}
    (S : StR X.K dk OB H0 O H1 σ ρ n1) (hO : O D = true) (nd : NotDk dk D) (h0 : H0 D = none) (A : kd.Acc O D acc H1) (nda : acc.Nodup) (io : ItOk X.K O H1 J xs)
    (q : loopD g p body (wipeD ρ own) xs acc n1 Qd)
    (last : ∀ acc' H' n', Same (hid O H1) (hid O H') → (∀ b o, b ≠ D → ¬ dkA dk b → H1 b = some o → H' b = some o) → DkOk dk n' H' → kd.Acc O D acc' H' → acc'.Nodup → Qd acc' n' → Last H') :
    ∃ (W : Nat → Nat → Hp → Prop) (m0 : Nat), W 0 m0 H1 ∧ Turns J (tWG X.K vs g) (tWT X.K p) (ti D) own σ W Last := by
  have nA : ¬ dkA dk D := fun ⟨E, e1, e2⟩ => (nd E e1).1 e2
  have free : ∀ (j : Nat) (y : Sv), ρ[j]? = some (some y) → y.own = true → σ[j]? ≠ some (some (.ref D)) := fun j y e oy es => by
    obtain ⟨v, z1, z2⟩ := S.sl j y e
    rw [es] at z1
    cases z1
    cases y with
    | d x => cases oy
    | l xs =>
      obtain ⟨r, us, z, k1, k2, k3, k4, k5⟩ := z2
      cases z
      exact (kd.noL A).1 us k4
    | k xs =>
      obtain ⟨r, us, z, k1, k2, k3, k4, k5⟩ := z2
      cases z
      exact (kd.noL A).2 us k4
    | dk => cases oy
  -- what stays of the frame where all but the set and the deck stays
  have keepS : ∀ {H' n'}, Same (hid O H1) (hid O H') → (∀ b o, b ≠ D → ¬ dkA dk b → H1 b = some o → H' b = some o) → DkOk dk n' H' → (∃ o, H' D = some o ∧ NoTup o) → StR X.K dk OB H0 O H' σ ρ n' := fun {H' n'} s f d hd => by
    refine ⟨S.len, S.ob, S.od, fun b h => ?_, S.dkO, fun b o h e => ?_, d, fun j y e => ?_, S.dis⟩
    · by_cases c : b = D
      · rw [c]
        exact hd
      · by_cases c2 : dkA dk b
        · exact d.domT c2
        · obtain ⟨o, e, t⟩ := S.dom b h
          exact ⟨o, f b o c c2 e, t⟩
    · have bD : b ≠ D := fun z => by rw [z, h0] at e; cases e
      exact f b o bD h (S.fr b o h e)
    · obtain ⟨v, e1, e2⟩ := S.sl j y e
      refine ⟨v, e1, ?_⟩
      have np : ∀ p, NotDk dk p → ¬ dkA dk p := fun p z ⟨E, e1, e2⟩ => (z E e1).1 e2
      cases y with
      | d x => exact Rp.same s _ _ e2
      | l xs =>
        obtain ⟨r, us, rfl, k1, k2, k3, k4, k5⟩ := e2
        exact ⟨r, us, rfl, k1, k2, k3, f _ _ (fun z => free j (.l xs) e rfl (by rw [← z]; exact e1)) (np r k3) k4, RpAll.same s _ _ k5⟩
      | k xs =>
        obtain ⟨r, us, rfl, k1, k2, k3, k4, k5⟩ := e2
        exact ⟨r, us, rfl, k1, k2, k3, f _ _ (fun z => free j (.k xs) e rfl (by rw [← z]; exact e1)) (np r k3) k4, RpKvs.same s _ _ k5⟩
      | dk => exact e2
  let Wt : Nat → Hp → Prop := fun i H2 => ∃ acc2 n2, Same (hid O H1) (hid O H2) ∧ (∀ b o, b ≠ D → ¬ dkA dk b → H1 b = some o → H2 b = some o) ∧ DkOk dk n2 H2 ∧ kd.Acc O D acc2 H2 ∧ acc2.Nodup ∧ loopD g p body (wipeD ρ own) (xs.drop i) acc2 n2 Qd
  refine ⟨fun i m H2 => m = xs.length - i ∧ i ≤ xs.length ∧ Wt i H2, xs.length, ⟨by simp, Nat.zero_le _, acc, n1, Same.refl _, fun b o _ _ h => h, S.dok, A, nda, q⟩, ?_⟩
  rintro i m H2 ⟨rfl, hi, acc2, n2, s2, f2, d2, A2, nd2, q2⟩
  have hD2 : H2 D ≠ none := by
    obtain ⟨o, e, _⟩ := kd.use A2
    rw [e]
    exact fun z => nomatch z
  have S2 := keepS s2 f2 d2 (kd.use A2)
  have itr := io i O H2 s2 S2.dom
  by_cases hlt : i < xs.length
  · obtain ⟨go, yl⟩ := itr.1 hlt
    refine .inr ⟨go, Wt (i + 1), fun H' w => ⟨xs.length - (i + 1), by omega, rfl, hlt, w⟩, fun x H3 y => ?_⟩
    obtain ⟨d, ed, s3, rx⟩ := yl x H3 y
    have ex : xs.drop i = d :: xs.drop (i + 1) := by
      rw [List.drop_eq_getElem_cons hlt]
      congr 1
      rw [List.getElem?_eq_getElem hlt] at ed
      exact Option.some.inj ed
    rw [ex] at q2
    obtain ⟨ρ', eg, q3⟩ := q2
    have S3 := S2.step (FrD.of s3) (S2.dok.same s3)
    refine ⟨dk, OB, H0, O, wipeD ρ own, n2, d, ρ', S3.wipe own, rx, eg, fun σ2 b2 S4 => ⟨wipe_but hvs b2, dk, OB, H0, O, ρ', n2, _, S4, q3, fun b H4 n3 f4 d4 q4 => ?_⟩⟩
    have f24 : FrD dk H2 H4 := (FrD.of s3).trans f4
    have s24 := hid_fr S2.dO f24
    have hD4 : H4 D = H2 D := by
      cases c : H2 D with
      | none => exact absurd c hD2
      | some o => exact f24 _ _ nA c
    have A4 := kd.keep A2 hD4 s24
    cases b with
    | true =>
      exact (if_pos rfl).mpr (hb (S4.step f4 d4) hO nd h0 A4 nd2 ((if_pos rfl).mp q4) fun acc5 H5 n5 s5 f5 d5 A5 nd5 q5 => ⟨acc5, n5, (s2.trans s24).trans s5, fun b o k1 k2 k3 => f5 b o k1 k2 (f24 b o k2 (f2 b o k1 k2 k3)), d5, A5, nd5, q5⟩)
    | false => exact (if_neg Bool.false_ne_true).mpr ⟨acc2, n3, s2.trans s24, fun b o k1 k2 k3 => f24 b o k2 (f2 b o k1 k2 k3), d4, A4, nd2, (if_neg Bool.false_ne_true).mp q4⟩
  · have e : i = xs.length := by omega
    subst e
    rw [List.drop_length] at q2
    exact .inl ⟨itr.2 (Nat.le_refl _), last acc2 H2 n2 s2 f2 d2 A2 nd2 q2⟩
/-- the body of two clauses -/
def twoW {α : Type} (it1 : AD) (g1 : GD) (p1 : TD) (body : DEnv → α → M α) (vs1 : List Nat) : DEnv → α → M α := fun ρ acc n Q => it1 ρ n fun ys n1 => loopD g1 p1 body (wipeD ρ vs1) ys acc n1 Q
theorem inW_two {kd : SB X.prog X.w X.K α} {it1 : AD} {g1 : GD} {p1 : TD} {body : DEnv → List α → M (List α)} {ti : Addr → TIn} {vs vs1 : List Nat} (hvs : ∀ i ∈ vs, i ∈ vs1) (hb : InW kd ti body) : InW kd (tiTwo (tWI X.K it1) (tWG X.K vs g1) (tWT X.K p1) ti vs1) (twoW it1 g1 p1 body vs1) := by
  intro dk OB H0 O H D σ ρ n acc N Qd S hO nd h0 A nda hq q
  refine ⟨dk, OB, H0, O, ρ, n, _, S, hq, fun J H1 n1 xs f1 d1 io q1 => ?_⟩
  have nA : ¬ dkA dk D := fun ⟨E, e1, e2⟩ => (nd E e1).1 e2
  have s1 := S.hid f1
  have hD : H1 D = H D := by
    cases c : H D with
    | none => exact absurd c (S.dom.ne hO)
    | some o => exact f1 _ _ nA c
  exact turns_D hvs hb (S.step f1 d1) hO nd h0 (kd.keep A hD s1) nda io q1 fun acc' H' n' s' f' d' A' nd' q' => q acc' H' n' (s1.trans s') (fun b o k1 k2 k3 => f' b o k1 k2 (f1 b o k2 k3)) d' A' nd' q'
/-- sorted({..}): the items, each once, ascending -/
def eSort {α : Type} (kd_back : α → PyData) (lt : α → α → Bool) (it : AD) (g : GD) (p : TD) (body : DEnv → List α → M (List α)) (own : List Nat) : ED := fun ρ n Q => it ρ n fun xs n1 => loopD g p body (wipeD ρ own) xs [] n1 fun acc n2 => Q (.list ((sortU lt acc).map kd_back)) n2
abbrev rSortU (K : PySem.W.Frag) (P : Program) (w : World) : List V → Hp → VK → Prop := fun xs H Q => rSortS w xs H Q ∨ rSortT K P w xs H Q
theorem cr_sortU (hc : X.calm = true) : CallR X (.builtin "sorted") (rSortU X.K X.prog X.w) := CallR.or (cr_sortS hc) (cr_sortT hc)
theorem rd_sort {kd : SK X.prog X.w X.K α} {it : AD} {g : GD} {p : TD} {body : DEnv → List α → M (List α)} {vs own : List Nat} {ti : Addr → TIn} (hvs : ∀ i ∈ vs, i ∈ own) (hb : InW kd.toSB ti body) :
    RdE X.K (tCB (rSortU X.K X.prog X.w) (tCons (tSet X.prog X.w (tWI X.K it) (tWG X.K vs g) (tWT X.K p) ti own) tNil)) (eSort kd.back kd.lt it g p body own) := by
  intro dk OB H0 O H σ ρ n Q Qd S hw k
  refine ⟨dk, OB, H0, O, ρ, n, _, S, hw, fun J H1 n1 xs f1 d1 io hq D nD => ?_⟩
  obtain ⟨o0, hnew, A0⟩ := kd.new (O := O) nD
  have S1 := S.step f1 d1
  have SA := S1.acc (o := o0) nD (by
    obtain ⟨o, e, t⟩ := kd.use A0
    rw [upd_same] at e
    rw [Option.some.inj e]
    exact t)
  have e0 : Same (hid O H1) (hid (add O D) (upd H1 D o0)) := by
    rw [hid_add nD]
    exact Same.refl _
  have io' : ItOk X.K (add O D) (upd H1 D o0) J xs := fun i O' H' s dm => io i O' H' (e0.trans s) dm
  have tu := turns_D (own := own) hvs hb SA add_self (d1.new nD) (S1.fresh nD) A0 List.nodup_nil io' hq (Last := fun H' => (rSortU X.K X.prog X.w) [.ref D] H' Q) fun acc' H' n' s' f' d' A' nd' q' => ?_
  · obtain ⟨W, m0, w0, t⟩ := tu
    exact ⟨o0, hnew, W, m0, w0, t⟩
  · refine kd.srt A' nd' fun q vs nq r => ?_
    have f12 : FrD dk H1 H' := fun b o h1 h2 => f' b o (ne_of_none h2 nD) h1 (same_new nD _ _ h2)
    have dm : Dom O H' := (S1.step f12 d').dom
    have r' : RpAll X.K (hid O H') vs ((sortU kd.lt acc').map kd.back) := RpAll.same (hid_sub fun b h => add_of h) _ _ r
    exact k _ _ _ n' ((f1.trans f12).trans (FrD.of (same_new nq))) (d'.same (same_new nq)) (.lst (hid_new dm nq) (RpAll.same (hid_same (same_new nq)) _ _ r')) q'
end
end My

/-! PT2: list comprehensions of two clauses; sorted of sets, as rules -/
namespace My
open PySem PySem.Spec PyProof.Rows L2
/-- a target makes nothing owned -/
def GPure (g : GD) : Prop := ∀ x ρ ρ', g x ρ = some ρ' → ∀ (j : Nat) (y : Sv), ρ'[j]? = some (some y) → y.own = true → ρ[j]? = some (some y)
def GsPure (g : GDs) : Prop := ∀ xs ρ ρ', g xs ρ = some ρ' → ∀ (j : Nat) (y : Sv), ρ'[j]? = some (some y) → y.own = true → ρ[j]? = some (some y)
theorem gp_name (i : Nat) : GPure (gN i) := fun x ρ ρ' e j y h o => by
  cases e
  by_cases c : i = j
  · subst c
    by_cases l : i < ρ.length
    · rw [List.getElem?_set_self l] at h
      cases h
      cases o
    · rw [List.getElem?_eq_none (by rw [List.length_set]; omega)] at h
      cases h
  · rw [List.getElem?_set_ne c] at h
    exact h
theorem gp_nil : GsPure gsN := fun xs ρ ρ' e j y h o => by
  cases xs with
  | nil => cases e; exact h
  | cons _ _ => cases e
theorem gp_cons {g : GD} {gs : GDs} (h1 : GPure g) (h2 : GsPure gs) : GsPure (gsC g gs) := fun xs ρ ρ' e j y h o => by
  cases xs with
  | nil => cases e
  | cons x r =>
    obtain ⟨ρ1, e1, e2⟩ := Option.bind_eq_some_iff.mp e
    exact h1 x ρ ρ1 e1 j y (h2 r ρ1 ρ' e2 j y h o) o
theorem gp_tup {n : Nat} {gs : GDs} (h : GsPure gs) : GPure (gT n gs) := fun x ρ ρ' e j y h1 o => by
  cases x with
  | tuple xs =>
    have e' : (if xs.length = n then gs xs ρ else none) = some ρ' := e
    by_cases c : xs.length = n
    · rw [if_pos c] at e'
      exact h xs ρ ρ' e' j y h1 o
    · rw [if_neg c] at e'
      cases e'
  | _ => cases e
theorem wipeD_get {ρ : DEnv} {j : Nat} {y : Sv} : ∀ {own : List Nat}, (wipeD ρ own)[j]? = some (some y) → ρ[j]? = some (some y) ∧ j ∉ own
  | [], h => ⟨h, by simp⟩
  | v :: vs, h => by
    unfold wipeD at h
    by_cases hi : v = j
    · subst hi
      by_cases hv : v < (wipeD ρ vs).length
      · rw [List.getElem?_set_self hv] at h; cases h
      · rw [List.getElem?_eq_none (by rw [List.length_set]; omega)] at h; cases h
    · rw [List.getElem?_set_ne hi] at h
      obtain ⟨h1, h2⟩ := wipeD_get h
      exact ⟨h1, by simp only [List.mem_cons, not_or]; exact ⟨fun e => hi e.symm, h2⟩⟩
/-- no owned name holds D -/
def Free (σ : L2.St) (ρ : DEnv) (D : Addr) : Prop := ∀ (j : Nat) (y : Sv), ρ[j]? = some (some y) → y.own = true → σ[j]? ≠ some (some (.ref D))
theorem free_in {σ σ2 : L2.St} {ρ ρ' : DEnv} {D : Addr} {g : GD} {x : PyData} {vs own : List Nat} (f : Free σ ρ D) (gp : GPure g) (e : g x (wipeD ρ own) = some ρ') (hvs : ∀ i ∈ vs, i ∈ own) (b : But vs (wipe σ own) σ2) : Free σ2 ρ' D := fun j y h o es => by
  obtain ⟨h1, h2⟩ := wipeD_get (gp x _ ρ' e j y h o)
  rw [b.2 j (fun m => h2 (hvs j m))] at es
  exact f j y h1 o (wipe_some es).1
def appW (e : ED) : DEnv → List PyData → M (List PyData) := fun ρ acc n Q => e ρ n fun y n1 => acc.length < lim ∧ Q (acc ++ [y]) n1
def bodyL (K : PySem.W.Frag) (te : TE) (D : Addr) : L2.St → Hp → (Hp → Prop) → Prop := fun σ H N => te σ H fun y H4 => ∃ acc, H4 D = some (.lst acc) ∧ acc.length < sizeLine ∧ N (upd H4 D (.lst (acc ++ [y])))
section
variable {K : PySem.W.Frag}
def LAcc (K : PySem.W.Frag) (O : Addr → Bool) (D : Addr) (acc : List PyData) (H : Hp) : Prop := ∃ us, H D = some (.lst us) ∧ RpAll K (hid O H) us acc
def InL (K : PySem.W.Frag) (ti : Addr → L2.St → Hp → (Hp → Prop) → Prop) (b : DEnv → List PyData → M (List PyData)) : Prop := ∀ {dk OB H0 O H D σ ρ n acc} {N : Hp → Prop} {Qd : List PyData → Nat → Prop},
  StR K dk OB H0 O H σ ρ n → O D = true → NotDk dk D → H0 D = none → Free σ ρ D → LAcc K O D acc H → b ρ acc n Qd →
  (∀ acc' H' n', Same (hid O H) (hid O H') → (∀ b o, b ≠ D → ¬ dkA dk b → H b = some o → H' b = some o) → DkOk dk n' H' → LAcc K O D acc' H' → Qd acc' n' → N H') → ti D σ H N
theorem inL_app {e : ED} : InL K (bodyL K (tW K e)) (appW e) := by
  intro dk OB H0 O H D σ ρ n acc N Qd S hO nd h0 free A hb q
  obtain ⟨us, hD, ha⟩ := A
  refine rd_W S hb fun y dy H1 n1 f1 d1 r1 ⟨few, q1⟩ => ?_
  have nA : ¬ dkA dk D := fun ⟨E, e1, e2⟩ => (nd E e1).1 e2
  have s1 := S.hid f1
  have hD1 := f1 _ _ nA hD
  refine ⟨us, hD1, ?_, q (acc ++ [dy]) _ n1 ?_ (fun b o nb na h => ?_) (d1.upd nd) ⟨us ++ [y], upd_same, ?_⟩ q1⟩
  · have z := lim_le
    rw [ha.len]
    omega
  · rw [hid_upd hO]
    exact s1
  · rw [upd_ne nb]
    exact f1 _ _ na h
  · rw [hid_upd hO]
    exact RpAll.app (RpAll.same s1 _ _ ha) (.cons r1 .nil)
/-- the turns of one clause over a list -/
theorem turns_L {g : GD} {p : TD} {body : DEnv → List PyData → M (List PyData)} {vs own : List Nat} {ti : Addr → L2.St → Hp → (Hp → Prop) → Prop} (hvs : ∀ i ∈ vs, i ∈ own) (gp : GPure g) (hb : InL K ti body)
    {dk : Option DkI} {OB : Addr → Bool} {H0 : Hp} {O : Addr → Bool} {H1 : Hp} {D : Addr} {σ : L2.St} {ρ : DEnv} {n1 : Nat} {acc : List PyData} {xs : List PyData} {J : It} {Last : Hp → Prop} {Qd : List PyData → Nat → Prop}
    (S : StR K dk OB H0 O H1 σ ρ n1) (hO : O D = true) (nd : NotDk dk D) (h0 : H0 D = none) (free : Free σ ρ D) (A : LAcc K O D acc H1) (io : ItOk K O H1 J xs)
    (q : loopD g p body (wipeD ρ own) xs acc n1 Qd)
    (last : ∀ acc' H' n', Same (hid O H1) (hid O H') → (∀ b o, b ≠ D → ¬ dkA dk b → H1 b = some o → H' b = some o) → DkOk dk n' H' → LAcc K O D acc' H' → Qd acc' n' → Last H') :
    ∃ W : Nat → Nat → Hp → Prop, (∃ m, W 0 m H1) ∧ ∀ i m H, W i m H → (J.stop i H ∧ Last H) ∨ (J.go i H ∧ ∃ Nx : Hp → Prop, (∀ H', Nx H' → ∃ m', m' < m ∧ W (i + 1) m' H') ∧ ∀ x H', J.yld i H x H' → tWG K vs g x (wipe σ own) H' fun σ2 H2 => wipe σ2 own = wipe σ own ∧ tWT K p σ2 H2 fun b H3 =>
      if b = true then ti D σ2 H3 Nx else Nx H3) := by
  have nA : ¬ dkA dk D := fun ⟨E, e1, e2⟩ => (nd E e1).1 e2
  have keepS : ∀ {H' n'}, Same (hid O H1) (hid O H') → (∀ b o, b ≠ D → ¬ dkA dk b → H1 b = some o → H' b = some o) → DkOk dk n' H' → (∃ o, H' D = some o ∧ NoTup o) → StR K dk OB H0 O H' σ ρ n' := fun {H' n'} s f d hd => by
    refine ⟨S.len, S.ob, S.od, fun b h => ?_, S.dkO, fun b o h e => ?_, d, fun j y e => ?_, S.dis⟩
    · by_cases c : b = D
      · rw [c]
        exact hd
      · by_cases c2 : dkA dk b
        · exact d.domT c2
        · obtain ⟨o, e, t⟩ := S.dom b h
          exact ⟨o, f b o c c2 e, t⟩
    · have bD : b ≠ D := fun z => by rw [z, h0] at e; cases e
      exact f b o bD h (S.fr b o h e)
    · obtain ⟨v, e1, e2⟩ := S.sl j y e
      refine ⟨v, e1, ?_⟩
      have np : ∀ p, NotDk dk p → ¬ dkA dk p := fun p z ⟨E, e1, e2⟩ => (z E e1).1 e2
      cases y with
      | d x => exact Rp.same s _ _ e2
      | l xs =>
        obtain ⟨r, us, rfl, k1, k2, k3, k4, k5⟩ := e2
        exact ⟨r, us, rfl, k1, k2, k3, f _ _ (fun z => free j (.l xs) e rfl (by rw [← z]; exact e1)) (np r k3) k4, RpAll.same s _ _ k5⟩
      | k xs =>
        obtain ⟨r, us, rfl, k1, k2, k3, k4, k5⟩ := e2
        exact ⟨r, us, rfl, k1, k2, k3, f _ _ (fun z => free j (.k xs) e rfl (by rw [← z]; exact e1)) (np r k3) k4, RpKvs.same s _ _ k5⟩
      | dk => exact e2
  let Wt : Nat → Hp → Prop := fun i H2 => ∃ acc2 n2, Same (hid O H1) (hid O H2) ∧ (∀ b o, b ≠ D → ¬ dkA dk b → H1 b = some o → H2 b = some o) ∧ DkOk dk n2 H2 ∧ LAcc K O D acc2 H2 ∧ loopD g p body (wipeD ρ own) (xs.drop i) acc2 n2 Qd
  refine ⟨fun i m H2 => m = xs.length - i ∧ i ≤ xs.length ∧ Wt i H2, ⟨xs.length, by simp, Nat.zero_le _, acc, n1, Same.refl _, fun b o _ _ h => h, S.dok, A, q⟩, ?_⟩
  rintro i m H2 ⟨rfl, hi, acc2, n2, s2, f2, d2, A2, q2⟩
  have hD2 : ∃ o, H2 D = some o ∧ NoTup o := by
    obtain ⟨us, e, _⟩ := A2
    exact ⟨_, e, nt_lst⟩
  have S2 := keepS s2 f2 d2 hD2
  have itr := io i O H2 s2 S2.dom
  by_cases hlt : i < xs.length
  · obtain ⟨go, yl⟩ := itr.1 hlt
    refine .inr ⟨go, Wt (i + 1), fun H' w => ⟨xs.length - (i + 1), by omega, rfl, hlt, w⟩, fun x H3 y => ?_⟩
    obtain ⟨d, ed, s3, rx⟩ := yl x H3 y
    have ex : xs.drop i = d :: xs.drop (i + 1) := by
      rw [List.drop_eq_getElem_cons hlt]
      congr 1
      rw [List.getElem?_eq_getElem hlt] at ed
      exact Option.some.inj ed
    rw [ex] at q2
    obtain ⟨ρ', eg, q3⟩ := q2
    have S3 := S2.step (FrD.of s3) (S2.dok.same s3)
    refine ⟨dk, OB, H0, O, wipeD ρ own, n2, d, ρ', S3.wipe own, rx, eg, fun σ2 b2 S4 => ⟨wipe_but hvs b2, dk, OB, H0, O, ρ', n2, _, S4, q3, fun b H4 n3 f4 d4 q4 => ?_⟩⟩
    have f24 : FrD dk H2 H4 := (FrD.of s3).trans f4
    have s24 := hid_fr S2.dO f24
    have A4 : LAcc K O D acc2 H4 := by
      obtain ⟨us, e, r⟩ := A2
      exact ⟨us, f24 _ _ nA e, RpAll.same s24 _ _ r⟩
    cases b with
    | true =>
      exact (if_pos rfl).mpr (hb (S4.step f4 d4) hO nd h0 (free_in free gp eg hvs b2) A4 ((if_pos rfl).mp q4) fun acc5 H5 n5 s5 f5 d5 A5 q5 => ⟨acc5, n5, (s2.trans s24).trans s5, fun b o k1 k2 k3 => f5 b o k1 k2 (f24 b o k2 (f2 b o k1 k2 k3)), d5, A5, q5⟩)
    | false => exact (if_neg Bool.false_ne_true).mpr ⟨acc2, n3, s2.trans s24, fun b o k1 k2 k3 => f24 b o k2 (f2 b o k1 k2 k3), d4, A4, (if_neg Bool.false_ne_true).mp q4⟩
  · have e : i = xs.length := by omega
    subst e
    rw [List.drop_length] at q2
    exact .inl ⟨itr.2 (Nat.le_refl _), last acc2 H2 n2 s2 f2 d2 A2 q2⟩
/-- [elt for t0 in i0 if .. for t1 in i1 if ..] -/
def eLc2 (it : AD) (g : GD) (p : TD) (it1 : AD) (g1 : GD) (p1 : TD) (e : ED) (own vs1 : List Nat) : ED := fun ρ n Q => it ρ n fun xs n1 =>
  loopD g p (twoW it1 g1 p1 (appW e) vs1) (wipeD ρ own) xs [] n1 fun ys n2 => Q (.list ys) n2
theorem rd_lc2 {it it1 : AD} {g g1 : GD} {p p1 : TD} {e : ED} {own vs vs1 w1 : List Nat} (hvs : ∀ i ∈ vs, i ∈ own) (hw1 : ∀ i ∈ w1, i ∈ vs1) (gp : GPure g) (gp1 : GPure g1) :
    RdE K (tLc2 (tWI K it) (tWG K vs g) (tWT K p) (tWI K it1) (tWG K w1 g1) (tWT K p1) (tW K e) own vs1) (eLc2 it g p it1 g1 p1 e own vs1) := by
  intro dk OB H0 O H σ ρ n Q Qd S hw k
  refine ⟨dk, OB, H0, O, ρ, n, _, S, hw, fun J H1 n1 xs f1 d1 io hq D nD => ?_⟩
  have S1 := S.step f1 d1
  have SA := S1.acc (o := .lst []) nD nt_lst
  have e0 : Same (hid O H1) (hid (add O D) (upd H1 D (.lst []))) := by
    rw [hid_add nD]
    exact Same.refl _
  have io' : ItOk K (add O D) (upd H1 D (.lst [])) J xs := fun i O' H' s dm => io i O' H' (e0.trans s) dm
  -- the inner clause
  have inner : InL K (fun D σ2 H3 Nx => tWI K it1 σ2 H3 fun J1 H4 => ∃ W1 : Nat → Nat → Hp → Prop, (∃ m, W1 0 m H4) ∧ ∀ j k H, W1 j k H →
      (J1.stop j H ∧ Nx H) ∨ (J1.go j H ∧ ∃ Nx1 : Hp → Prop, (∀ H', Nx1 H' → ∃ k', k' < k ∧ W1 (j + 1) k' H') ∧ ∀ x H', J1.yld j H x H' → tWG K w1 g1 x (wipe σ2 vs1) H' fun σ3 H5 => wipe σ3 vs1 = wipe σ2 vs1 ∧ tWT K p1 σ3 H5 fun b H6 =>
        if b = true then bodyL K (tW K e) D σ3 H6 Nx1 else Nx1 H6)) (twoW it1 g1 p1 (appW e) vs1) := by
    intro dk OB H0 O H D σ ρ n acc N Qd S hO nd h0 free A hq q
    refine ⟨dk, OB, H0, O, ρ, n, _, S, hq, fun J H1 n1 xs f1 d1 io q1 => ?_⟩
    have nA : ¬ dkA dk D := fun ⟨E, e1, e2⟩ => (nd E e1).1 e2
    have s1 := S.hid f1
    have A1 : LAcc K O D acc H1 := by
      obtain ⟨us, e, r⟩ := A
      exact ⟨us, f1 _ _ nA e, RpAll.same s1 _ _ r⟩
    exact turns_L hw1 gp1 inL_app (S.step f1 d1) hO nd h0 free A1 io q1 fun acc' H' n' s' f' d' A' q' => q acc' H' n' (s1.trans s') (fun b o k1 k2 k3 => f' b o k1 k2 (f1 b o k2 k3)) d' A' q'
  exact turns_L hvs gp inner SA add_self (d1.new nD) (S1.fresh nD) (S1.nohold nD) ⟨[], upd_same, .nil⟩ io' hq fun acc' H' n' s' f' d' A' q' => by
    obtain ⟨us, e, r⟩ := A'
    have f12 : FrD dk H1 H' := fun b o h1 h2 => f' b o (ne_of_none h2 nD) h1 (same_new nD _ _ h2)
    exact k _ _ H' n' (f1.trans f12) d' (.lst (hid_at (S1.dom.new nD) e) (RpAll.same (hid_sub fun b h => add_of h) _ _ r)) q'
end
section
variable {X : Cx}
theorem qd_lc2 {elt tg iter tg1 iter1 : Expr} {ifs ifs1 : List Expr} {scope : Scope} {own : List (Str × Nat)} {vs1 : List Nat} {pos : Pos} {it it1 : AD} {g g1 : GD} {p p1 : TD} {e : ED} {vs w1 : List Nat} (hc : X.calm = true) (hN : X.N.Nodup) (hi : PDI X tg iter it) (ok : BlkOk X.N X.env.scope scope own) (hv : ∀ i ∈ vs1, i ∈ own.map (·.2))
    (hvs : ∀ i ∈ vs, i ∈ own.map (·.2)) (hw1 : ∀ i ∈ w1, i ∈ vs1) (gp : GPure g) (gp1 : GPure g1)
    (hg : ∀ (s : Shared) (H : Hp) (C : Addr) (cl : List (Str × Addr)) (fp : List Addr), PDG (X.blk s H scope (compEnvC scope cl C X.env) fp) tg vs g) (ht : ∀ (s : Shared) (H : Hp) (C : Addr) (cl : List (Str × Addr)) (fp : List Addr), PTs (X.blk s H scope (compEnvC scope cl C X.env) fp) ifs (tWT X.K p))
    (hi1 : ∀ (s : Shared) (H : Hp) (C : Addr) (cl : List (Str × Addr)) (fp : List Addr), PDI (X.blk s H scope (compEnvC scope cl C X.env) fp) tg1 iter1 it1)
    (hg1 : ∀ (s : Shared) (H : Hp) (C : Addr) (cl : List (Str × Addr)) (fp : List Addr), PDG (X.blk s H scope (compEnvC scope cl C X.env) fp) tg1 w1 g1) (ht1 : ∀ (s : Shared) (H : Hp) (C : Addr) (cl : List (Str × Addr)) (fp : List Addr), PTs (X.blk s H scope (compEnvC scope cl C X.env) fp) ifs1 (tWT X.K p1))
    (he : ∀ (s : Shared) (H : Hp) (C : Addr) (cl : List (Str × Addr)) (fp : List Addr), PD (X.blk s H scope (compEnvC scope cl C X.env) fp) elt e) (hs : ∀ x, foldedSetIterable iter X.env x = pure x := by intro _; rfl) (hs1 : ∀ env x, foldedSetIterable iter1 env x = pure x := by intro _ _; rfl) :
    PD X (.ListComp elt [⟨tg, iter, ifs, 0⟩, ⟨tg1, iter1, ifs1, 0⟩] scope pos) (eLc2 it g p it1 g1 p1 e (own.map (·.2)) vs1) := qd_mk (pe_lc2 hc hN hi ok hv hg ht hi1 hg1 ht1 he hs hs1) (rd_lc2 hvs hw1 gp gp1)
section
variable {α : Type} [DecidableEq α]
/-- sorted({elt for tg in iter if ..}) -/
theorem qd_sort1 (kd : SK X.prog X.w X.K α) {elt tg iter : Expr} {ifs : List Expr} {scope : Scope} {own : List (Str × Nat)} {p1 pos pos2 : Pos} {it : AD} {g : GD} {p : TD} {e : ED} {vs : List Nat} (hg0 : Gl X "sorted") (hm0 : X.mg "sorted" = none) (hc : X.calm = true) (hN : X.N.Nodup) (hu : X.A.units + 64 < cLine) (hi : PDI X tg iter it) (ok : BlkOk X.N X.env.scope scope own) (hvs : ∀ i ∈ vs, i ∈ own.map (·.2))
    (hg : ∀ (s : Shared) (H : Hp) (C : Addr) (cl : List (Str × Addr)) (fp : List Addr), PDG (X.blk s H scope (compEnvC scope cl C X.env) fp) tg vs g) (ht : ∀ (s : Shared) (H : Hp) (C : Addr) (cl : List (Str × Addr)) (fp : List Addr), PTs (X.blk s H scope (compEnvC scope cl C X.env) fp) ifs (tWT X.K p))
    (he : ∀ (s : Shared) (H : Hp) (C : Addr) (cl : List (Str × Addr)) (fp : List Addr), PD (X.blk s H scope (compEnvC scope cl C X.env) fp) elt e) (hs : ∀ x, foldedSetIterable iter X.env x = pure x := by intro _; rfl)
    (h1 : starEach [.SetComp elt [⟨tg, iter, ifs, 0⟩] scope pos] X.env = (false, eval (.SetComp elt [⟨tg, iter, ifs, 0⟩] scope pos) X.env) :: starEach [] X.env := by rfl) :
    PD X (.Call (.Name "sorted" p1) [.SetComp elt [⟨tg, iter, ifs, 0⟩] scope pos] [] pos2) (eSort kd.back kd.lt it g p (putW kd.view e) (own.map (·.2))) :=
  qd_mk (pe_callB (cr_sortU hc) hg0 hm0 PyProof.Rows.boot_sorted (pa_cons (pe_sq hc hN hu hi ok hg ht he hs) pa_nil h1) (he := h1)) (rd_sort hvs inW_put)
/-- sorted({elt for t0 in i0 if .. for t1 in i1 if ..}) -/
theorem qd_sort2 (kd : SK X.prog X.w X.K α) {elt tg iter tg1 iter1 : Expr} {ifs ifs1 : List Expr} {scope : Scope} {own : List (Str × Nat)} {vs1 : List Nat} {q1 pos pos2 : Pos} {it it1 : AD} {g g1 : GD} {p p1 : TD} {e : ED} {vs w1 : List Nat} (hg0 : Gl X "sorted") (hm0 : X.mg "sorted" = none) (hc : X.calm = true) (hN : X.N.Nodup) (hu : X.A.units + 64 < cLine) (hi : PDI X tg iter it) (ok : BlkOk X.N X.env.scope scope own)
    (hv : ∀ i ∈ vs1, i ∈ own.map (·.2)) (hvs : ∀ i ∈ vs, i ∈ own.map (·.2)) (hw1 : ∀ i ∈ w1, i ∈ vs1)
    (hg : ∀ (s : Shared) (H : Hp) (C : Addr) (cl : List (Str × Addr)) (fp : List Addr), PDG (X.blk s H scope (compEnvC scope cl C X.env) fp) tg vs g) (ht : ∀ (s : Shared) (H : Hp) (C : Addr) (cl : List (Str × Addr)) (fp : List Addr), PTs (X.blk s H scope (compEnvC scope cl C X.env) fp) ifs (tWT X.K p))
    (hi1 : ∀ (s : Shared) (H : Hp) (C : Addr) (cl : List (Str × Addr)) (fp : List Addr), PDI (X.blk s H scope (compEnvC scope cl C X.env) fp) tg1 iter1 it1)
    (hg1 : ∀ (s : Shared) (H : Hp) (C : Addr) (cl : List (Str × Addr)) (fp : List Addr), PDG (X.blk s H scope (compEnvC scope cl C X.env) fp) tg1 w1 g1) (ht1 : ∀ (s : Shared) (H : Hp) (C : Addr) (cl : List (Str × Addr)) (fp : List Addr), PTs (X.blk s H scope (compEnvC scope cl C X.env) fp) ifs1 (tWT X.K p1))
    (he : ∀ (s : Shared) (H : Hp) (C : Addr) (cl : List (Str × Addr)) (fp : List Addr), PD (X.blk s H scope (compEnvC scope cl C X.env) fp) elt e) (hs : ∀ x, foldedSetIterable iter X.env x = pure x := by intro _; rfl) (hs1 : ∀ env x, foldedSetIterable iter1 env x = pure x := by intro _ _; rfl)
    (h1 : starEach [.SetComp elt [⟨tg, iter, ifs, 0⟩, ⟨tg1, iter1, ifs1, 0⟩] scope pos] X.env = (false, eval (.SetComp elt [⟨tg, iter, ifs, 0⟩, ⟨tg1, iter1, ifs1, 0⟩] scope pos) X.env) :: starEach [] X.env := by rfl) :
    PD X (.Call (.Name "sorted" q1) [.SetComp elt [⟨tg, iter, ifs, 0⟩, ⟨tg1, iter1, ifs1, 0⟩] scope pos] [] pos2) (eSort kd.back kd.lt it g p (twoW it1 g1 p1 (putW kd.view e) vs1) (own.map (·.2))) :=
  qd_mk (pe_callB (cr_sortU hc) hg0 hm0 PyProof.Rows.boot_sorted (pa_cons (pe_sq2 hc hN hu hi ok hv hg ht hi1 hg1 ht1 he hs hs1) pa_nil h1) (he := h1)) (rd_sort hvs (inW_two hw1 inW_put))
/-- sorted(set(e)), e a list or a tuple -/
def viewAll (view : PyData → Option α) : List PyData → Option (List α)
  | [] => some []
  | d :: ds => (view d).bind fun k => (viewAll view ds).map (k :: ·)
def eSortSet (kd_view : PyData → Option α) (kd_back : α → PyData) (lt : α → α → Bool) (e : ED) : ED := fun ρ n Q => e ρ n fun x n1 => ∃ xs ks, (x = .list xs ∨ x = .tuple xs) ∧ viewAll kd_view xs = some ks ∧ ks.length < 63 ∧ Q (.list ((sortU lt (ddU ks)).map kd_back)) n1
end
theorem rps_viewS {K : PySem.W.Frag} {H : Hp} : ∀ {us : List V} {ds : List PyData} {ks : List Str}, RpAll K H us ds → viewAll vS ds = some ks → us = ks.map V.str
  | _, _, _, .nil, e => by cases e; rfl
  | _, _, _, .cons (d := d) h t, e => by
    obtain ⟨k, e1, e2⟩ := Option.bind_eq_some_iff.mp e
    obtain ⟨r, e3, e4⟩ := Option.map_eq_some_iff.mp e2
    subst e4
    cases d with
    | str b =>
      cases e1
      cases h
      rw [rps_viewS t e3, List.map_cons]
    | _ => cases e1
theorem rps_viewT {K : PySem.W.Frag} {H : Hp} : ∀ {us : List V} {ds : List PyData} {ks : List (List Str)}, RpAll K H us ds → viewAll vT ds = some ks → ∃ L : List (Addr × List Str), us = L.map (fun q => V.ref q.1) ∧ L.map (·.2) = ks ∧ ∀ q ∈ L, SqT K H q.1 (q.2.map V.str) ∧ q.2 ≠ []
  | _, _, _, .nil, e => by
    cases e
    exact ⟨[], rfl, rfl, fun q h => nomatch h⟩
  | _, _, _, .cons (d := d) h t, e => by
    obtain ⟨k, e1, e2⟩ := Option.bind_eq_some_iff.mp e
    obtain ⟨r, e3, e4⟩ := Option.map_eq_some_iff.mp e2
    subst e4
    obtain ⟨a, rfl, hs, ne, _⟩ := rp_T h e1
    obtain ⟨L, z1, z2, z3⟩ := rps_viewT t e3
    refine ⟨(a, k) :: L, by rw [z1, List.map_cons], by rw [List.map_cons, z2], fun q hq => ?_⟩
    rcases List.mem_cons.mp hq with rfl | hq
    · exact ⟨hs, ne⟩
    · exact z3 q hq
abbrev rSetU (K : PySem.W.Frag) (P : Program) (w : World) : List V → Hp → VK → Prop := fun xs H Q => rSetOfS K w xs H Q ∨ rSetOfT K P w xs H Q
theorem qd_sortsetS {e : Expr} {w : ED} {p1 p2 q1 q2 : Pos} (hu : X.A.units + 64 < cLine) (hc : X.calm = true) (hg0 : Gl X "sorted") (hm0 : X.mg "sorted" = none) (hg1 : Gl X "set") (hm1 : X.mg "set" = none) (he : PD X e w)
    (h1 : starEach [e] X.env = (false, eval e X.env) :: starEach [] X.env := by rfl) (h2 : starEach [.Call (.Name "set" p1) [e] [] p2] X.env = (false, eval (.Call (.Name "set" p1) [e] [] p2) X.env) :: starEach [] X.env := by rfl) :
    PD X (.Call (.Name "sorted" q1) [.Call (.Name "set" p1) [e] [] p2] [] q2) (eSortSet vS bS ltS w) :=
  qd_mk (pe_callB (cr_sortU hc) hg0 hm0 PyProof.Rows.boot_sorted (pa_cons (pe_callTy (cr_setS hc) hg1 hm1 PyProof.Rows.boot_set (pa_cons he pa_nil h1) (he := h1)) pa_nil h2) (he := h2)) fun {dk OB H0 O H σ ρ n Q Qd} S hw k => rd_W S hw fun v d H1 n1 f1 d1 r1 ⟨xs, ks, ex, ek, few, q⟩ => by
    have dm := (S.step f1 d1).dom
    obtain ⟨a, us, rfl, hs, ha⟩ : ∃ a us, v = .ref a ∧ (SqL X.K H1 a us ∨ SqT X.K H1 a us) ∧ RpAll X.K (hid O H1) us xs := by
      rcases ex with rfl | rfl
      · cases r1 with
        | lst hs ha => exact ⟨_, _, rfl, .inl (.inl (.inl (hid_le _ _ hs))), ha⟩
      · cases r1 with
        | tup hs ha => exact ⟨_, _, rfl, .inr (same_seqT hid_le hs), ha⟩
    have eu := rps_viewS ha ek
    subst eu
    refine ⟨a, ks, rfl, hs, few, fun b zs hz nb => .inl ⟨b, zs, rfl, upd_same, fun ys p asc pm np => ?_⟩⟩
    have e2 : ys = sortU ltS (ddU ks) := sortU_is tot_str (ddU_nd ks) asc fun x => (pm.mem_iff.trans (hz x)).trans ddU_mem.symm
    subst e2
    have s1 := (same_new (o := SetS X.w b zs) nb).trans (same_new (o := .lst ((sortU ltS (ddU ks)).map V.str)) np)
    refine k _ _ _ n1 (f1.trans (FrD.of s1)) (d1.same s1) (.lst (hid_at ?_ upd_same) ?_) q
    · exact (dm.same (same_new nb)).new np
    · rw [show (sortU ltS (ddU ks)).map bS = (sortU ltS (ddU ks)).map PyData.str from rfl]
      exact rps_back _
theorem qd_sortsetT {e : Expr} {w : ED} {p1 p2 q1 q2 : Pos} (hu : X.A.units + 64 < cLine) (hc : X.calm = true) (hg0 : Gl X "sorted") (hm0 : X.mg "sorted" = none) (hg1 : Gl X "set") (hm1 : X.mg "set" = none) (he : PD X e w)
    (h1 : starEach [e] X.env = (false, eval e X.env) :: starEach [] X.env := by rfl) (h2 : starEach [.Call (.Name "set" p1) [e] [] p2] X.env = (false, eval (.Call (.Name "set" p1) [e] [] p2) X.env) :: starEach [] X.env := by rfl) :
    PD X (.Call (.Name "sorted" q1) [.Call (.Name "set" p1) [e] [] p2] [] q2) (eSortSet vT bT' ltK w) :=
  qd_mk (pe_callB (cr_sortU hc) hg0 hm0 PyProof.Rows.boot_sorted (pa_cons (pe_callTy (cr_setT hc hu) hg1 hm1 PyProof.Rows.boot_set (pa_cons he pa_nil h1) (he := h1)) pa_nil h2) (he := h2)) fun {dk OB H0 O H σ ρ n Q Qd} S hw k => rd_W S hw fun v d H1 n1 f1 d1 r1 ⟨xs, ks, ex, ek, few, q⟩ => by
    have dm := (S.step f1 d1).dom
    obtain ⟨a, us, rfl, hs, ha⟩ : ∃ a us, v = .ref a ∧ (SqL X.K H1 a us ∨ SqT X.K H1 a us) ∧ RpAll X.K (hid O H1) us xs := by
      rcases ex with rfl | rfl
      · cases r1 with
        | lst hs ha => exact ⟨_, _, rfl, .inl (.inl (.inl (hid_le _ _ hs))), ha⟩
      · cases r1 with
        | tup hs ha => exact ⟨_, _, rfl, .inr (same_seqT hid_le hs), ha⟩
    obtain ⟨L, rfl, el, hl⟩ := rps_viewT ha ek
    have ll : L.length = ks.length := by
      have z := congrArg List.length el
      rw [List.length_map] at z
      exact z
    refine ⟨a, L, rfl, hs, by omega, fun p hp => same_seqT hid_le (hl p hp).1, fun b M hM hk nb => .inr ⟨b, M, rfl, upd_same, fun p hp => ?_, fun L' p pm asc np => ?_⟩⟩
    · exact ⟨same_seqT (same_new nb) (same_seqT hid_le (hl p (hM p hp)).1), (hl p (hM p hp)).2⟩
    have e2 : L'.map (·.2) = sortU ltK (ddU ks) := sortU_is tot_key (ddU_nd ks) asc fun x => (((pm.map (·.2)).mem_iff).trans (hk x)).trans (by rw [el]; exact ddU_mem.symm)
    have s1 := (same_new (o := SetT X.prog X.w b M) nb).trans (same_new (o := .lst (L'.map fun q => V.ref q.1)) np)
    refine k _ _ _ n1 (f1.trans (FrD.of s1)) (d1.same s1) (.lst (hid_at ?_ upd_same) ?_) q
    · exact (dm.same (same_new nb)).new np
    · rw [← e2]
      exact rps_keys fun z hz => ⟨same_seqT (hid_same s1) (hl z (hM z (pm.mem_iff.mp hz))).1, (hl z (hM z (pm.mem_iff.mp hz))).2⟩
end
end My

/-! PW: the deck: defs that draw, and the law's own run, over data -/
namespace My
open PySem PySem.Spec PyProof.Rows L2
open RZ (ItzT iZipA pi_zipA)
def spW (K : PySem.W.Frag) (W : List PyData → M PyData) : Sp := fun vs H Q _ => ∃ (D : DkI) (O : Addr → Bool) (n : Nat) (ds : List PyData) (vs' : List V) (Qd : PyData → Nat → Prop), vs = .ref D.d :: vs' ∧ Dom O H ∧ O D.d = true ∧ DkOk (some D) n H ∧ RpAll K (hid O H) vs' ds ∧ W ds n Qd ∧
  ∀ v d H' n', FrD (some D) H H' → DkOk (some D) n' H' → Rp K (hid O H') v d → Qd d n' → Q v H'
def eCallW (i : Nat) (W : List PyData → M PyData) (ws : AD) : ED := fun ρ n Q => ρ[i]? = some (some .dk) ∧ ws ρ n fun xs n1 => W xs n1 Q
theorem rd_callW {K : PySem.W.Frag} {W : List PyData → M PyData} {i : Nat} {ts : TA} {ws : AD} {E : XK} (hs : RdA K ts ws) : RdE K (tCall (spW K W) [] E (tCons (tVar i) ts)) (eCallW i W ws) := fun {dk OB H0 O H σ ρ n Q Qd} S hw k => by
  obtain ⟨ei, hw⟩ := hw
  obtain ⟨v, e1, D, ed, ev⟩ := S.sl _ _ ei
  subst ed ev
  refine ⟨_, e1, hs S hw fun vs ds H1 n1 f1 d1 r1 q => ?_⟩
  refine ⟨D, O, n1, ds, vs, Qd, by rw [List.append_nil], (S.step f1 d1).dom, S.dO _ ⟨D, rfl, rfl⟩, d1, r1, q, fun v d H' n' f d' r q' => k v d H' n' (f1.trans f) d' r q'⟩
theorem qd_callW {X : Cx} {CX : CXT} {k : Nat} {f : Addr} {fd : FuncData} {ps : List Str} {W : List PyData → M PyData} {i : Nat} {x : Str} {e : Expr} {es : List Expr} {ws : AD} {p pos : Pos} {E : XK} (G : FnOk X.prog X.w X.K X.mg X.base CX k f fd ps (spW X.K W)) (hr : Room k X.A) (hg : Gl X x) (hm : X.mg x = some (.ref f))
    (hk : PySem.W.keepIn X.K (.ref f) = true) (hb : Binds X.K fd ps []) (hx : Passes CX X E) (h0 : PE X e (tVar i)) (ha : PDA X es ws) (hdb : (x == ("__debug__" : Str)) = false := by decide) (he : starEach (e :: es) X.env = (false, eval e X.env) :: starEach es X.env := by rfl) (hpl : (backTo pos (starEach es X.env)).any (·.1) = false := by rfl) :
    PD X (.Call (.Name x p) (e :: es) [] pos) (eCallW i W ws) := qd_mk (pe_call G hr hg hm hk hb .nil hx (pa_cons h0 ha he) hdb he hpl) (rd_callW rda_W)
def startW (N : List Str) (ds : List PyData) : DEnv := some .dk :: (ds.map (fun d => some (.d d)) ++ List.replicate (N.length - (ds.length + 1)) none)
theorem str_startW {K : PySem.W.Frag} {D : DkI} {O : Addr → Bool} {H : Hp} {vs : List V} {ds : List PyData} {n : Nat} (N : List Str) (d : Dom O H) (hd : O D.d = true) (dok : DkOk (some D) n H) (r : RpAll K (hid O H) vs ds) : StR K (some D) O H O H (L2.start N (.ref D.d :: vs)) (startW N ds) n where
  len := by
    unfold L2.start startW
    have z := r.len
    simp only [List.length_append, List.length_cons, List.length_map, List.length_replicate]
    omega
  ob := fun _ h => h
  od := d
  dom := d
  dkO := fun b ⟨E, e, e2⟩ => by
    cases e
    rw [e2]
    exact hd
  fr := FrD.refl H
  dok := dok
  sl := fun i s e => by
    unfold startW at e
    unfold L2.start
    cases i with
    | zero =>
      cases e
      exact ⟨.ref D.d, rfl, D, rfl, rfl⟩
    | succ i =>
      rw [List.getElem?_cons_succ] at e
      rw [List.map_cons, List.cons_append, List.getElem?_cons_succ]
      by_cases l : i < ds.length
      · rw [List.getElem?_append_left (by rw [List.length_map]; exact l), List.getElem?_map] at e
        obtain ⟨x, e1, e2⟩ := Option.map_eq_some_iff.mp e
        cases e2
        obtain ⟨v, z1, z2⟩ := r.at e1
        exact ⟨v, by rw [List.getElem?_append_left (by rw [List.length_map, r.len]; exact l), List.getElem?_map, z1]; rfl, z2⟩
      · rw [List.getElem?_append_right (by rw [List.length_map]; omega), List.getElem?_replicate] at e
        split at e
        · cases e
        · cases e
  dis := fun i j p s s' ne e1 e2 o1 o2 => by
    have z : ∀ {i : Nat} {s : Sv}, (startW N ds)[i]? = some (some s) → s.own = true → False := fun {i s} e o => by
      unfold startW at e
      cases i with
      | zero => cases e; cases o
      | succ i =>
        rw [List.getElem?_cons_succ] at e
        by_cases l : i < ds.length
        · rw [List.getElem?_append_left (by rw [List.length_map]; exact l), List.getElem?_map] at e
          obtain ⟨x, e1, e2⟩ := Option.map_eq_some_iff.mp e
          cases e2
          cases o
        · rw [List.getElem?_append_right (by rw [List.length_map]; omega), List.getElem?_replicate] at e
          split at e
          · cases e
          · cases e
    exact (z e1 o1).elim
/-- where a def that draws ends -/
def endW (Qd : PyData → Nat → Prop) : EndsD := ⟨fun _ n => Qd .none n, Qd, fun _ _ => False, fun _ _ => False⟩
theorem fn_okW {P : Program} {w : World} {K : PySem.W.Frag} {mg : Str → Option Value} {base : Heap} {x qual : Str} {st : Stmt} {f : Addr} {fd : FuncData} {N ps : List Str} {k : Nat} {Wd : List PyData → M PyData} {W : SD} (F : Fun K x qual st f fd) (S : FnScope N ps (defScope st))
    (hw : ∀ (cdv : Value) (A : Around) (outer : List Env) (s : Shared) (H : Hp) (E : XK), Room k (A.deeper (envOfC qual (defScope st) s.heap.objs.size f cdv)) → PSDs (cxOf CX0 P w K mg base N qual (defScope st) f cdv A outer s H E).nox (defBody st) W)
    (hl : ∀ ds n Qd, Wd ds n Qd → ds.length + 1 = ps.length) (hF : ∀ ds n Qd, Wd ds n Qd → W (startW N ds) n (endW Qd)) : FnOk P w K mg base CX0 (k + 1) f fd ps (spW K Wd) := by
  refine F.ok S (fun vs H Q E h => ?_) (fun cdv A outer s H vs Q E hr h => ?_)
  · obtain ⟨D, O, n, ds, vs', Qd, rfl, _, _, _, r, q, _⟩ := h
    rw [List.length_cons, r.len]
    exact hl ds n Qd q
  · obtain ⟨D, O, n, ds, vs', Qd, rfl, dm, hd, dok, r, hq, q⟩ := h
    refine ⟨_, hw cdv A outer s H E hr, some D, O, H, O, _, n, endW Qd, str_startW N dm hd dok r, hF ds n Qd hq, ?_⟩
    refine ⟨fun O' H' σ' ρ' n' S' s' z => ?_, fun v d' H' n' f1 d1 r1 z => ?_, fun _ _ _ _ _ _ _ z => z.elim, fun _ _ _ _ _ _ _ z => z.elim⟩
    · exact q .non .none H' n' S'.fr S'.dok .non z
    · exact q v d' H' n' f1 d1 r1 z
/-! ### draws -/
def W_draw : List PyData → M PyData := fun ds n Q => ∃ m : Int, ds = [.int m] ∧ 0 < m ∧ m < 1073741824 ∧ n < 1073741824 ∧ ∀ v : Int, 0 ≤ v → v < m → Q (.int v) (n + 1)
def W_one : List PyData → M PyData := fun ds n Q => ∃ xs x, ds = [x] ∧ itemsD x = some xs ∧ noDict x = true ∧ xs ≠ [] ∧ xs.length ≤ lim ∧ n < 1073741824 ∧ ∀ y ∈ xs, Q y (n + 1)
/-! ### repr -/
def reprOk (x : PyData) : Prop := flatD x = true ∧ x.showable = true ∧ x.depth ≤ 60 ∧ x.shown.length ≤ sizeLine
def eRepr (w : ED) : ED := fun ρ n Q => w ρ n fun x n1 => reprOk x ∧ Q (.str x.shown) n1
theorem qd_repr {X : Cx} {e : Expr} {w : ED} {p pos : Pos} (hgu : X.A.guards = some []) (hu : X.A.units + 64 < cLine) (hg : Gl X "repr") (hm : X.mg "repr" = none) (he : PD X e w) (h1 : starEach [e] X.env = (false, eval e X.env) :: starEach [] X.env := by rfl) : PD X (.Call (.Name "repr" p) [e] [] pos) (eRepr w) :=
  qd_mk (pe_callB (cr_repr hgu hu) hg hm boot_repr (pa_cons he pa_nil h1) (he := h1)) fun S hw k => rd_W S hw fun v d H1 n1 f1 d1 r1 ⟨⟨a, b, c, e⟩, q⟩ => ⟨v, d, rfl, Rp.dp _ _ a (Rp.same hid_le _ _ r1), b, c, e, k _ _ H1 n1 f1 d1 (.str _) q⟩
/-! ### zip -/
/-- no two pairs side by side: what zip makes is no tuple of pairs -/
def noPair (xs ys : List PyData) : Bool := (xs.zip ys).all fun p => !(pairLike p.1 && pairLike p.2)
theorem noPair_at {xs ys : List PyData} (nd : noPair xs ys = true) {i : Nat} {d1 d2 : PyData} (e1 : xs[i]? = some d1) (e2 : ys[i]? = some d2) {P : Prop} (c : dictable [d1, d2] = true) : P := by
  have m : (d1, d2) ∈ xs.zip ys := List.mem_of_getElem? ((List.getElem?_zip_eq_some (z := (d1, d2))).mpr ⟨e1, e2⟩)
  have z := List.all_eq_true.mp nd _ m
  have c' : (pairLike d1 && (pairLike d2 && true)) = true := c
  rw [Bool.and_true] at c'
  have z' : (!(pairLike d1 && pairLike d2)) = true := z
  rw [c'] at z'
  cases z'
theorem it_zip {K : PySem.W.Frag} {O : Addr → Bool} {H1 : Hp} {a b : Addr} {us ws : List V} {xs ys : List PyData} (h1 : hid O H1 a = some (.lst us)) (r1 : RpAll K (hid O H1) us xs) (h2 : hid O H1 b = some (.lst ws)) (r2 : RpAll K (hid O H1) ws ys) (nd : noPair xs ys = true) :
    ItOk K O H1 (Itz K a b) ((xs.zip ys).map fun p => .tuple [p.1, p.2]) := fun i O' H' s dm => by
  have q1 : SqL K H' a us := .inl (.inl (hid_le _ _ (s _ _ h1)))
  have q2 : SqL K H' b ws := .inl (.inl (hid_le _ _ (s _ _ h2)))
  rw [List.length_map, List.length_zip]
  refine ⟨fun l => ?_, fun l => ⟨us, ws, q1, q2, by rw [r1.len, r2.len]; omega⟩⟩
  have l1 : i < us.length := by rw [r1.len]; omega
  have l2 : i < ws.length := by rw [r2.len]; omega
  refine ⟨⟨us, ws, us[i], ws[i], q1, q2, List.getElem?_eq_getElem l1, List.getElem?_eq_getElem l2⟩, fun x H'' ⟨T, x1, y1, e, nT, eH, g1, g2⟩ => ?_⟩
  subst e eH
  obtain ⟨d1, e1, z1⟩ := r1.get (g1 us q1)
  obtain ⟨d2, e2, z2⟩ := r2.get (g2 ws q2)
  have st := same_new (o := .tup [x1, y1]) nT
  have s' := s.trans (hid_same (O := O') st)
  refine ⟨.tuple [d1, d2], ?_, st, .tup (.inl (.inl (hid_new dm nT))) (.cons (Rp.same s' _ _ z1) (.cons (Rp.same s' _ _ z2) .nil)) fun c => noPair_at nd e1 e2 c⟩
  rw [List.getElem?_map, (List.getElem?_zip_eq_some (z := (d1, d2))).mpr ⟨e1, e2⟩]
  rfl
theorem it_zipT {K : PySem.W.Frag} {O : Addr → Bool} {H1 : Hp} {a b : Addr} {us ws : List V} {xs ys : List PyData} (h1 : SqT K (hid O H1) a us) (r1 : RpAll K (hid O H1) us xs) (h2 : SqT K (hid O H1) b ws) (r2 : RpAll K (hid O H1) ws ys) (nd : noPair xs ys = true) :
    ItOk K O H1 (ItzT K a b) ((xs.zip ys).map fun p => .tuple [p.1, p.2]) := fun i O' H' s dm => by
  have q1 : SqT K H' a us := same_seqT hid_le (same_seqT s h1)
  have q2 : SqT K H' b ws := same_seqT hid_le (same_seqT s h2)
  rw [List.length_map, List.length_zip]
  refine ⟨fun l => ?_, fun l => ⟨us, ws, q1, q2, by rw [r1.len, r2.len]; omega⟩⟩
  have l1 : i < us.length := by rw [r1.len]; omega
  have l2 : i < ws.length := by rw [r2.len]; omega
  refine ⟨⟨us, ws, us[i], ws[i], q1, q2, List.getElem?_eq_getElem l1, List.getElem?_eq_getElem l2⟩, fun x H'' ⟨T, x1, y1, e, nT, eH, g1, g2⟩ => ?_⟩
  subst e eH
  obtain ⟨d1, e1, z1⟩ := r1.get (g1 us q1)
  obtain ⟨d2, e2, z2⟩ := r2.get (g2 ws q2)
  have st := same_new (o := .tup [x1, y1]) nT
  have s' := s.trans (hid_same (O := O') st)
  refine ⟨.tuple [d1, d2], ?_, st, .tup (.inl (.inl (hid_new dm nT))) (.cons (Rp.same s' _ _ z1) (.cons (Rp.same s' _ _ z2) .nil)) fun c => noPair_at nd e1 e2 c⟩
  rw [List.getElem?_map, (List.getElem?_zip_eq_some (z := (d1, d2))).mpr ⟨e1, e2⟩]
  rfl
/-- both lists, or both tuples -/
def iZ (w : AD) : AD := fun ρ n Q => w ρ n fun ds n1 => ∃ xs ys, (ds = [.list xs, .list ys] ∨ ds = [.tuple xs, .tuple ys]) ∧ noPair xs ys = true ∧ Q ((xs.zip ys).map fun p => .tuple [p.1, p.2]) n1
theorem qdi_zip {X : Cx} {e e2 : Expr} {w : AD} {p pos tpos : Pos} {elts : List Expr} {kk : Nat} (hg : Gl X "zip") (hm : X.mg "zip" = none) (ha : PDA X [e, e2] w) (hs : starEach [e, e2] X.env = (false, eval e X.env) :: starEach [e2] X.env := by rfl) (hpl : (backTo pos (starEach [e2] X.env)).any (·.1) = false := by rfl) :
    PDI X (.Tuple elts kk tpos) (.Call (.Name "zip" p) [e, e2] [] pos) (iZ w) := qdi_mk (pi_zipA hg hm ha hs hpl) fun S hw k => rda_W S hw fun vs ds H1 n1 f1 d1 r1 ⟨xs, ys, ed, nd, q⟩ => by
  rcases ed with rfl | rfl
  · cases r1 with
    | cons a r2 =>
    cases r2 with
    | cons b r3 =>
    cases r3
    cases a with
    | lst h1 a1 =>
    cases b with
    | lst h2 a2 =>
    exact ⟨_, _, _, _, rfl, .inl ⟨.inl (.inl (hid_le _ _ h1)), .inl (.inl (hid_le _ _ h2)), k _ H1 n1 _ f1 d1 (it_zip h1 a1 h2 a2 nd) q⟩⟩
  · cases r1 with
    | cons a r2 =>
    cases r2 with
    | cons b r3 =>
    cases r3
    cases a with
    | tup h1 a1 _ =>
    cases b with
    | tup h2 a2 _ =>
    exact ⟨_, _, _, _, rfl, .inr ⟨same_seqT hid_le h1, same_seqT hid_le h2, k _ H1 n1 _ f1 d1 (it_zipT h1 a1 h2 a2 nd) q⟩⟩
end My

/-! PX: sorted of a list or a tuple of tuples of texts, of a list of texts; the law's own run -/
namespace My
open PySem PySem.Spec PyProof.Rows L2
def rSortTL (K : PySem.W.Frag) : List V → Hp → VK → Prop := fun vs H Q => ∃ (a : Addr) (L : List (Addr × List Str)), vs = [V.ref a] ∧ (SqL K H a (L.map fun q => V.ref q.1) ∨ SqT K H a (L.map fun q => V.ref q.1)) ∧ (∀ q ∈ L, SqT K H q.1 (q.2.map V.str) ∧ q.2 ≠ []) ∧
  ∀ (L' : List (Addr × List Str)) (p : Addr), L'.Perm L → (L'.map (·.2)).Pairwise (fun x y => ltK y x = false) → H p = none → Q (.ref p) (upd H p (.lst (L'.map fun q => V.ref q.1)))
section
variable {X : Cx}
theorem cr_sortTL (hc : X.calm = true) : CallR X (.builtin "sorted") (rSortTL X.K) := by
  intro pins s σ H vs us Q I r h
  obtain ⟨a, L, rfl, ha, ht, q⟩ := h
  obtain ⟨u, rfl, ru⟩ := vals1 r
  cases (show u = Value.ref a from ru)
  have one : ∀ p ∈ L, ∀ q ∈ L, p.1 = q.1 → p.2 = q.2 := fun p hp q hq e => by
    have h1 := (ht p hp).1
    rw [e] at h1
    exact map_str_inj (I.tuple_inj h1 (ht q hq).1)
  have main : ∀ its : List Value, Vals (L.map fun q => V.ref q.1) its → its.length ≤ sizeLine →
      ((∀ out : List Value, SrtO.Srtd (fun v u => ltK (kOf L v) (kOf L u)) out → SrtO.Stb (fun v u => ltK (kOf L v) (kOf L u)) out its → EP X pins σ Q (.ref (s.heap.objs.size + 1)) { s with heap := PyProof.Rows.sortedAll s.heap its out.toArray }) →
        (2 ≤ its.length → ∀ (h₁ : Heap) (b : Addr), h₁.get? b = some (seqObj "list" its.toArray 0) → (∀ c o, s.heap.get? c = some o → c ≠ b ∧ h₁.get? c = some o) → SrtO.SortableO X.prog X.w X.A.in1.in1 { s with heap := h₁ } b its (fun v u => ltK (kOf L v) (kOf L u))) →
        wpAny (model X.prog X.w) X.A (call (.builtin "sorted") [.ref a]) (EP X pins σ Q) X.xe s) →
      wpAny (model X.prog X.w) X.A (call (.builtin "sorted") [.ref a]) (EP X pins σ Q) X.xe s := by
    intro its rv hz run
    have ln := rv.length
    rw [List.length_map] at ln
    have vals : its = L.map fun p => Value.ref p.1 := refs_vals rv
    have each : ∀ v ∈ its, ∃ p ∈ L, v = Value.ref p.1 ∧ kOf L v = p.2 := fun v hv => by
      rw [vals] at hv
      obtain ⟨p, hp, rfl⟩ := List.mem_map.mp hv
      exact ⟨p, hp, rfl, kOf_at one hp⟩
    refine run (fun out hs pm => ?_) fun h2 h₁ b hb kp => ?_
    · have refs : ∀ v ∈ out, v = Value.ref (pOf L v).1 := fun v hv => by
        obtain ⟨p, _, rfl, _⟩ := each v (pm.perm.mem_iff.mp hv)
        rfl
      have back : its.map (pOf L) = L := by
        rw [vals, List.map_map]
        refine (List.map_congr_left fun p hp => ?_).trans (List.map_id L)
        exact Prod.ext rfl (kOf_at one hp)
      have pL : (out.map (pOf L)).Perm L := by
        have z := pm.perm.map (pOf L)
        rw [back] at z
        exact z
      have len : ((out.map (pOf L)).map fun q => V.ref q.1).length ≤ sizeLine := by
        rw [List.length_map, pL.length_eq, ln]
        exact hz
      have rel : ∀ l : List Value, (∀ v ∈ l, v = Value.ref (pOf L v).1) → Vals ((l.map (pOf L)).map fun q => V.ref q.1) l := by
        intro l
        induction l with
        | nil => intro _; exact .nil
        | cons v l ih => intro h; exact .cons (h v List.mem_cons_self) (ih fun u hu => h u (List.mem_cons_of_mem _ hu))
      have srt : ((out.map (pOf L)).map (·.2)).Pairwise (fun x y => ltK y x = false) := by
        rw [List.map_map, List.pairwise_map]
        exact hs
      obtain ⟨ep, he'⟩ := PyProof.Rows.sortedAll_at s.heap its out.toArray
      exact ⟨.ref _, upd H (s.heap.objs.size + 1) (.lst ((out.map (pOf L)).map fun q => V.ref q.1)), I.laid (t' := s.toks) (fun _ _ => PyProof.Rows.sortedAll_old) (Nat.le_succ _) ⟨len, out, ep, rel out refs, he'⟩, rfl, q _ _ pL srt (I.hok.fresh (Nat.le_succ _))⟩
    · refine sortable_tups (s := { s with heap := h₁ }) (by omega) (fun v hv => ?_) fun o' e' c' => ?_
      · obtain ⟨p, hp, rfl, e⟩ := each v hv
        rw [e]
        exact ⟨(tup_at I (ht p hp).1).1.keeps fun b o e _ => (kp b o e).2, (ht p hp).2⟩
      · have e2 : some o' = some _ := e'.symm.trans hb
        cases e2
        exact absurd (Value.type.inj c') (by decide)
  rcases ha with ha | ha
  · obtain ⟨its, rv, hl, hz⟩ := I.list ha
    rw [List.length_map] at hz
    have ln := rv.length
    rw [List.length_map] at ln
    exact main its rv (by omega) fun h1 h2 => SrtO.sorted_ord (ltv := fun v u => ltK (kOf L v) (kOf L u)) ⟨fun x y => tot_key.swo.asym _ _, fun x y z => tot_key.swo.tr _ _ _⟩ hl.isList (by omega) h2 h1
  · obtain ⟨its, rv, hl, hz⟩ := I.tuple ha
    rw [List.length_map] at hz
    have ln := rv.length
    rw [List.length_map] at ln
    exact main its rv (by omega) fun h1 h2 => SrtO.my_sorted_tup (ltv := fun v u => ltK (kOf L v) (kOf L u)) ⟨fun x y => tot_key.swo.asym _ _, fun x y z => tot_key.swo.tr _ _ _⟩ hl (by omega) h2 h1
theorem sort_uniq {α : Type} {lt : α → α → Bool} (T : Tot lt) : ∀ {l m : List α}, l.Perm m → l.Pairwise (fun x y => lt y x = false) → m.Pairwise (fun x y => lt y x = false) → l = m
  | [], m, p, _, _ => (List.nil_perm.mp p).symm ▸ rfl
  | x :: l, [], p, _, _ => by
    have z := p.length_eq
    cases z
  | x :: l, y :: m, p, hl, hm => by
    rw [List.pairwise_cons] at hl hm
    have e : x = y := by
      have h1 : x ∈ y :: m := p.mem_iff.mp List.mem_cons_self
      have h2 : y ∈ x :: l := p.mem_iff.mpr List.mem_cons_self
      rcases List.mem_cons.mp h1 with e | h1
      · exact e
      · rcases List.mem_cons.mp h2 with e | h2
        · exact e.symm
        · exact T.tri _ _ (hm.1 x h1) (hl.1 y h2)
    subst e
    rw [sort_uniq T (List.Perm.cons_inv p) hl.2 hm.2]
theorem sortU_srt {α : Type} {lt : α → α → Bool} (T : Tot lt) (l : List α) : (sortU lt l).Pairwise (fun x y => lt y x = false) := by
  have tr : ∀ a b c : α, (!lt b a) = true → (!lt c b) = true → (!lt c a) = true := fun a b c h1 h2 => by
    rw [Bool.not_eq_true'] at h1 h2 ⊢
    cases h : lt c a with
    | false => rfl
    | true =>
      cases k : lt a b with
      | true =>
        rw [T.trans _ _ _ h k] at h2
        cases h2
      | false =>
        have e := T.tri _ _ k h1
        subst e
        rw [h] at h2
        cases h2
  have to : ∀ a b : α, ((!lt b a) || (!lt a b)) = true := fun a b => by
    cases h : lt b a with
    | false => rfl
    | true =>
      rw [T.asym h]
      rfl
  exact (List.pairwise_mergeSort tr to l).imp fun {a b} h => by simpa using h
def sortTD : List PyData → Option PyData
  | [.list xs] => (viewAll vT xs).map fun ks => .list ((sortU ltK ks).map bT')
  | [.tuple xs] => (viewAll vT xs).map fun ks => .list ((sortU ltK ks).map bT')
  | _ => none
theorem pu_sortT {K : PySem.W.Frag} : PuN K (rSortTL K) sortTD := by
  intro O H xs ds dz Q dm r e k
  obtain ⟨zs, ks, hx, ek, rfl, v, rfl, r1⟩ : ∃ zs ks, (ds = [.list zs] ∨ ds = [.tuple zs]) ∧ viewAll vT zs = some ks ∧ dz = .list ((sortU ltK ks).map bT') ∧ ∃ v, xs = [v] ∧ Rp K (hid O H) v (ds.headD .none) := by
    match ds, e with
    | [.list zs], e =>
      obtain ⟨ks, e1, e2⟩ := Option.map_eq_some_iff.mp e
      obtain ⟨v, ev, rv⟩ := rps1 r
      exact ⟨zs, ks, .inl rfl, e1, e2.symm, v, ev, rv⟩
    | [.tuple zs], e =>
      obtain ⟨ks, e1, e2⟩ := Option.map_eq_some_iff.mp e
      obtain ⟨v, ev, rv⟩ := rps1 r
      exact ⟨zs, ks, .inr rfl, e1, e2.symm, v, ev, rv⟩
  obtain ⟨a, us, rfl, hs, ha⟩ : ∃ a us, v = .ref a ∧ (SqL K H a us ∨ SqT K H a us) ∧ RpAll K (hid O H) us zs := by
    rcases hx with rfl | rfl
    · cases r1 with
      | lst hs ha => exact ⟨_, _, rfl, .inl (.inl (.inl (hid_le _ _ hs))), ha⟩
    · cases r1 with
      | tup hs ha => exact ⟨_, _, rfl, .inr (same_seqT hid_le hs), ha⟩
  obtain ⟨L, rfl, el, hl⟩ := rps_viewT ha ek
  refine ⟨a, L, rfl, hs, fun q hq => ⟨same_seqT hid_le (hl q hq).1, (hl q hq).2⟩, fun L' p pm srt np => ?_⟩
  have e2 : L'.map (·.2) = sortU ltK ks := sort_uniq tot_key (((pm.map (·.2)).trans (by rw [el])).trans (sortU_perm ks).symm) srt (sortU_srt tot_key ks)
  have s1 := same_new (o := .lst (L'.map fun q => V.ref q.1)) np
  refine k _ _ s1 (.lst (hid_new dm np) ?_)
  rw [← e2]
  exact rps_keys fun z hz => ⟨same_seqT (hid_same s1) (hl z (pm.mem_iff.mp hz)).1, (hl z (pm.mem_iff.mp hz)).2⟩
end
/-! ### the law -/
def spLaw (K : PySem.W.Frag) : Sp := fun vs H Q _ => ∃ (a : Addr) (ns : List Int), vs = [.ref a] ∧ SqL K H a (ns.map V.int) ∧ ns.length ≤ 63 ∧ ∀ H', Q (.bl true) H'
def spDk (K : PySem.W.Frag) : Sp := fun vs H Q _ => ∃ (a : Addr) (ns : List Int), vs = [.ref a] ∧ SqL K H a (ns.map V.int) ∧ ns.length ≤ 63 ∧ ∀ (d l : Addr) (ms : List Int) (H' : Hp), Deck H' d l ms 0 → H d = none → H l = none → ms.length ≤ 63 → Same H H' → Q (.ref d) H'
def startL (N : List Str) : DEnv := none :: some .dk :: List.replicate (N.length - 2) none
/-- the law ends by True alone -/
def endL : EndsD := ⟨fun _ _ => False, fun x _ => x = .bool true, fun _ _ => False, fun _ _ => False⟩
theorem law_ok {P : Program} {w : World} {K : PySem.W.Frag} {mg : Str → Option Value} {base : Heap} {st : Stmt} {f : Addr} {fd : FuncData} {N : List Str} {k : Nat} {W : SD} {E0' : XK} (hN : 2 ≤ N.length) (F : Fun K "law" "law" st f fd) (S : FnScope N ["_law_script"] (defScope st))
    (hw : ∀ (cdv : Value) (A : Around) (outer : List Env) (s : Shared) (H : Hp) (E : XK), A.guards = some [] → Room k (A.deeper (envOfC "law" (defScope st) s.heap.objs.size f cdv)) → ∃ st0 rest, defBody st = st0 :: rest ∧ PS (cxOf CX0 P w K mg base N "law" (defScope st) f cdv A outer s H E).nox st0 (tAsg (tCall (spDk K) [] E0' (tCons (tVar 0) tNil)) (gName 1)) ∧
      PSDs (cxOf CX0 P w K mg base N "law" (defScope st) f cdv A outer s H E).nox rest W)
    (hF : W (startL N) 0 endL) : RunG P w K mg base (k + 1) f fd ["_law_script"] (spLaw K) := by
  refine runG F S (fun vs H Q E h => ?_) (fun cdv A outer s H vs Q E hgu hr h => ?_)
  · obtain ⟨a, ns, rfl, _⟩ := h
    rfl
  · obtain ⟨a, ns, rfl, hS, hn, q⟩ := h
    obtain ⟨st0, rest, eb, h0, h1⟩ := hw cdv A outer s H E hgu hr
    rw [eb]
    refine ⟨_, pss_cons h0 h1, ?_⟩
    refine ⟨.ref a, ?_, a, ns, rfl, hS, hn, fun d l ms H1 D1 nd nl hm s1 => ?_⟩
    · unfold L2.start
      rfl
    refine ⟨some ⟨d, l, ms⟩, fun b => decide (b = d), H1, fun b => decide (b = d), startL N, 0, endL, ?_, hF, ?_⟩
    · have dm : Dom (fun b => decide (b = d)) H1 := fun b e => by
        rw [of_decide_eq_true e]
        obtain ⟨⟨_, _, _, z, _⟩, _⟩ := D1
        exact ⟨_, z, nt_lst⟩
      refine ⟨?_, fun _ h => h, dm, dm, fun b ⟨E, e, e2⟩ => ?_, FrD.refl H1, ⟨D1, hm⟩, fun i s e => ?_, fun i j p s s' ne e1 e2 o1 o2 => ?_⟩
      · unfold L2.start startL
        simp only [List.length_set, List.length_append, List.length_cons, List.length_map, List.length_nil, List.length_replicate]
        omega
      · cases e
        exact decide_eq_true e2
      · have z : ∀ {i : Nat} {s : Sv}, (startL N)[i]? = some (some s) → i = 1 ∧ s = .dk := fun {i s} e => by
          unfold startL at e
          match i, e with
          | 0, e => cases e
          | 1, e => cases e; exact ⟨rfl, rfl⟩
          | i + 2, e =>
            rw [List.getElem?_cons_succ, List.getElem?_cons_succ, List.getElem?_replicate] at e
            split at e <;> cases e
        obtain ⟨rfl, rfl⟩ := z e
        refine ⟨.ref d, ?_, ⟨d, l, ms⟩, rfl, rfl⟩
        rw [List.getElem?_set_self]
        unfold L2.start
        simp only [List.length_append, List.length_cons, List.length_map, List.length_nil, List.length_replicate]
        omega
      · have z : ∀ {i : Nat} {s : Sv}, (startL N)[i]? = some (some s) → s.own = true → False := fun {i s} e o => by
          unfold startL at e
          match i, e with
          | 0, e => cases e
          | 1, e => cases e; cases o
          | i + 2, e =>
            rw [List.getElem?_cons_succ, List.getElem?_cons_succ, List.getElem?_replicate] at e
            split at e <;> cases e
        exact (z e1 o1).elim
    · refine ⟨fun _ _ _ _ _ _ _ z => z.elim, fun v x H' n' f d r z => ?_, fun _ _ _ _ _ _ _ z => z.elim, fun _ _ _ _ _ _ _ z => z.elim⟩
      have z' : x = .bool true := z
      subst z'
      cases r
      exact q H'
end My

namespace My
open PySem PySem.Spec PyProof.Rows L2
def top (i : Nat) : Stmt := PySem.Challenge.pw_corestore_k28_texts_of_stores.main.body.getD i (.Pass ⟨0, 0, 0, 0⟩)
abbrev sIsWord : Stmt := top 6
abbrev sUnk : Stmt := top 7
abbrev sIsValue : Stmt := top 8
abbrev sIsFact : Stmt := top 9
abbrev sIsStore : Stmt := top 10
abbrev sMay : Stmt := top 11
abbrev sUnkS : Stmt := top 12
abbrev s_store_text : Stmt := top 17
abbrev s_read_store : Stmt := top 18
abbrev s_text_lines : Stmt := top 19
abbrev s_check_end : Stmt := top 20
abbrev s_fact_fault : Stmt := top 21
abbrev s_may_be_read : Stmt := top 22
abbrev sDeck : Stmt := top 24
abbrev sDraw : Stmt := top 25
abbrev sOne : Stmt := top 26
abbrev sWord : Stmt := top 27
abbrev sPool : Stmt := top 28
abbrev sUnks : Stmt := top 29
abbrev sKinds : Stmt := top 30
abbrev sStore : Stmt := top 31
abbrev sLaw : Stmt := top 32
end My

namespace My
open PySem PySem.Spec PyProof.Rows L2

/-- the deck is made of the script -/
def spDeck (K : PySem.W.Frag) : Sp := fun vs H Q _ => ∃ (a : Addr) (ns : List Int), vs = [.ref a] ∧ SqL K H a (ns.map V.int) ∧ ns.length ≤ 63 ∧ ∀ (d l : Addr) (ms : List Int) (H' : Hp), Deck H' d l ms 0 → H d = none → H l = none → ms.length ≤ 63 → Same H H' → Q (.ref d) H'
/-- a draw below m -/
def spDraw : Sp := fun vs H Q _ => ∃ (d l : Addr) (ns : List Int) (k : Nat) (m : Int), vs = [.ref d, .int m] ∧ 0 < m ∧ m < 1073741824 ∧ Deck H d l ns k ∧ ns.length ≤ 63 ∧ k < 1073741824 ∧
  ∀ (v : Int) (H' : Hp), 0 ≤ v → v < m → Deck H' d l ns (k + 1) → Fr d H H' → Q (.int v) H'
/-- an item of a list or tuple, or a sign of a text -/
def spOne (K : PySem.W.Frag) : Sp := fun vs H Q _ => ∃ (d l : Addr) (ns : List Int) (k : Nat) (x : V), vs = [.ref d, x] ∧ Deck H d l ns k ∧ ns.length ≤ 63 ∧ k < 1073741824 ∧
  ((∃ (p : Addr) (xs : List V), x = .ref p ∧ p ≠ d ∧ (SqL K (off d H) p xs ∨ SqT K (off d H) p xs) ∧ xs ≠ [] ∧ xs.length < 1000000 ∧
    ∀ (j : Nat) (v : V) (H' : Hp), xs[j]? = some v → Deck H' d l ns (k + 1) → Fr d H H' → Q v H') ∨
   (∃ z : Str, x = .str z ∧ 0 < z.length ∧ z.length < 1000000 ∧ ∀ (c : Nat) (H' : Hp), c ∈ z.cps.toList → Deck H' d l ns (k + 1) → Fr d H H' → Q (.str ⟨#[c]⟩) H'))

theorem dps_ints {K : PySem.W.Frag} {H : Hp} : ∀ ns : List Int, DpAll K H (ns.map V.int) (ns.map PyData.int)
  | [] => .nil
  | z :: zs => .cons (.int z) (dps_ints zs)
theorem ints_lay : ∀ ns : List Int, PyData.canLayAll0 (ns.map PyData.int) = true
  | [] => by simp [PyData.canLayAll0]
  | z :: zs => by
    have h := ints_lay zs
    simp [PyData.canLayAll0, PyData.canLay0, h]
theorem ints_depth : ∀ ns : List Int, PyData.depthAll (ns.map PyData.int) = 0
  | [] => by simp [PyData.depthAll]
  | z :: zs => by
    have h := ints_depth zs
    simp [PyData.depthAll, PyData.depth, h]
theorem ints_shaped (ns : List Int) : SeqAt.shaped (.list (ns.map PyData.int)) = true := by
  unfold SeqAt.shaped
  rw [Bool.and_eq_true]
  refine ⟨?_, decide_eq_true ?_⟩
  · simp only [PyData.canLay0]
    exact ints_lay ns
  · simp only [PyData.depth, ints_depth]
    omega
theorem place {i : Int} {n : Nat} (h : 0 < n) : ∃ j : Nat, i % (n : Int) = (j : Int) ∧ j < n := by
  have h1 : 0 ≤ i % (n : Int) := Int.emod_nonneg i (by omega)
  have h2 : i % (n : Int) < (n : Int) := Int.emod_lt_of_pos i (by omega)
  exact ⟨(i % (n : Int)).toNat, by omega, by omega⟩
theorem small_prod {a b : Int} {p q : Nat} (ha0 : 0 ≤ a) (ha : a < p) (hb0 : 0 ≤ b) (hb : b < q) : a * b ≤ (p : Int) * q :=
  Int.mul_le_mul (by omega) (by omega) hb0 (by omega)
theorem mix_ok {x1 n : Int} (m0 : 0 ≤ x1) (m1 : x1 < 2147483629) (h0 : 0 ≤ n) (h1 : n ≤ 1073741824) : (-(2 ^ 64) < x1 ∧ x1 < 2 ^ 64) ∧ (x1 * (2 * (n + 1) + 7) + 6151).natAbs < 2 ^ 64 := by
  have pr : x1 * (2 * (n + 1) + 7) ≤ (2147483629 : Int) * 4294967296 := Int.mul_le_mul (by omega) (by omega) (by omega) (by omega)
  have pr0 : 0 ≤ x1 * (2 * (n + 1) + 7) := Int.mul_nonneg m0 (by omega)
  refine ⟨by omega, ?_⟩
  generalize x1 * (2 * (n + 1) + 7) = z at pr pr0 ⊢
  omega
section
variable {P : Program} {w : World} {K : PySem.W.Frag} {mg : Str → Option Value} {base : Heap}
theorem scDeck : FnScope ["_law_script"] ["_law_script"] (defScope sDeck) := ⟨rfl, rfl, rfl, by decide +kernel, rfl, by decide +kernel, by decide +kernel⟩
theorem ok_deck {f : Addr} {fd : FuncData} (F : Fun K "_law_deck" "_law_deck" sDeck f fd) (B : Blt mg) : FnOk P w K mg base CX0 1 f fd ["_law_script"] (spDeck K) := by
  refine F.ok scDeck (fun vs H Q E h => ?_) (fun cdv A outer s H vs Q E hr h => ?_)
  · obtain ⟨a, ns, rfl, _⟩ := h
    rfl
  · obtain ⟨a, ns, rfl, hS, hn, q⟩ := h
    refine ⟨_, pss_one (ps_ret (pe_lst (pa_cons (pe_callTy call_list_of (by rfl) B.list boot_list (pa_cons (pe_slice sl_list (pv 0) po_none (po_some pe_int)) pa_nil)) (pa_cons pe_int (pa_cons pe_int (pa_cons pe_int pa_nil)))))), ?_⟩
    refine ⟨_, rfl, 63, rfl, a, _, rfl, hS, fun p np => ⟨p, _, rfl, .inl (.inl (.inl upd_same)), fun l nl => ⟨(by show 4 ≤ sizeLine; decide), fun d nd => ?_⟩⟩⟩
    have ec : cutV (ns.map V.int) none (some 63) = ((ns.drop (HT.sIx (ns.map V.int).length 0 none)).take (HT.sIx (ns.map V.int).length (ns.map V.int).length (some 63) - HT.sIx (ns.map V.int).length 0 none)).map V.int := by
      unfold cutV
      rw [List.map_take, List.map_drop]
    have sm := ((same_new np).trans (same_new nl)).trans (same_new (o := .lst [.ref l, .int 0, .int 0, .int 0]) nd)
    refine q d l ((ns.drop (HT.sIx (ns.map V.int).length 0 none)).take (HT.sIx (ns.map V.int).length (ns.map V.int).length (some 63) - HT.sIx (ns.map V.int).length 0 none)) _ ⟨⟨0, 0, 0, upd_same, by omega, by omega⟩, (same_new nd) l _ (by rw [← ec]; exact upd_same)⟩ (((same_new np).trans (same_new nl)).free nd) ((same_new np).free nl) (by rw [List.length_take, List.length_drop]; omega) sm
theorem scDraw : FnScope ["_law_deck_here", "_law_many", "_law_found", "_law_cell", "_law_mixed"] ["_law_deck_here", "_law_many"] (defScope sDraw) := ⟨rfl, rfl, rfl, by decide +kernel, rfl, by decide +kernel, by decide +kernel⟩
theorem ok_draw {f : Addr} {fd : FuncData} (F : Fun K "_law_draw" "_law_draw" sDraw f fd) (B : Blt mg) : FnOk P w K mg base CX0 1 f fd ["_law_deck_here", "_law_many"] spDraw := by
  refine F.ok scDraw (fun vs H Q E h => ?_) (fun cdv A outer s H vs Q E hr h => ?_)
  · obtain ⟨d, l, ns, k, m, rfl, _⟩ := h
    rfl
  · obtain ⟨d, l, ns, k, m, rfl, hm, hm2, D, hlen, hk, q⟩ := h
    have hu := hr.units
    refine ⟨_, pss_cons (ps_asg (pe_op op_add (pe_ix ix_list (pv 0) pe_int (fun _ _ => rfl)) pe_int) (pg_sub (pv 0) pe_int set_list))
      (pss_cons (ps_if (pt_cmpR op_gt (pe_ix ix_list (pv 0) pe_int (fun _ _ => rfl)) pe_int (nomark _))
        (pss_cons (ps_set (i := 2) scDraw.nd rfl (Or.inl rfl) (pe_op op_mod (pe_callTy call_int1 (by rfl) B.int boot_int (pa_cons (pe_ix ix_list (pv 0) pe_int (fun _ _ => rfl)) pa_nil)) (pv 1)))
          (pss_cons (ps_asg (pe_op op_fdiv (pe_ix ix_list (pv 0) pe_int (fun _ _ => rfl)) (pv 1)) (pg_sub (pv 0) pe_int set_list))
            (pss_one (ps_ret (pv 2)))))
        pss_nil)
      (pss_cons (ps_set (i := 3) scDraw.nd rfl (Or.inl rfl) pe_int)
      (C8.pss_cut (ps_if (pt_cmpR (op_neD hu) (pe_ix ix_list (pv 0) pe_int (fun _ _ => rfl)) (pe_lst pa_nil) (nomark _))
        (pss_one (ps_set (i := 3) scDraw.nd rfl (Or.inl rfl) (pe_ix ix_list (pe_ix ix_list (pv 0) pe_int (fun _ _ => rfl)) (pe_op op_mod (pe_callTy call_int1 (by rfl) B.int boot_int (pa_cons (pe_ix ix_list (pv 0) pe_int (fun _ _ => rfl)) pa_nil)) (pe_callB call_len_seq (by rfl) B.len PySem.boot_len (pa_cons (pe_ix ix_list (pv 0) pe_int (fun _ _ => rfl)) pa_nil))) (fun _ _ => rfl))))
        pss_nil)
      (pss_cons (ps_asg (pe_op op_add (pe_ix ix_list (pv 0) pe_int (fun _ _ => rfl)) pe_int) (pg_sub (pv 0) pe_int set_list))
      (C8.pss_cut (ps_if (PW.pt (pw_and (pt_cmpR op_ge (pe_callB call_abs (by rfl) B.abs (by decide +kernel) (pa_cons (pv 3) pa_nil)) (pe_op op_pow pe_int pe_int) (nomark _)) (pw_and1 (pt_cmpR op_le (pe_ix ix_list (pv 0) pe_int (fun _ _ => rfl)) (pe_callB call_len_seq (by rfl) B.len PySem.boot_len (pa_cons (pe_ix ix_list (pv 0) pe_int (fun _ _ => rfl)) pa_nil)) (nomark _)))))
        (pss_cons (ps_asg (pe_op op_fdiv (pe_callB call_abs (by rfl) B.abs (by decide +kernel) (pa_cons (pv 3) pa_nil)) (pv 1)) (pg_sub (pv 0) pe_int set_list))
          (pss_one (ps_ret (pe_op op_mod (pe_callTy call_int1 (by rfl) B.int boot_int (pa_cons (pe_callB call_abs (by rfl) B.abs (by decide +kernel) (pa_cons (pv 3) pa_nil)) pa_nil)) (pv 1)))))
        pss_nil)
      (pss_cons (ps_set (i := 4) scDraw.nd rfl (Or.inl rfl) (pe_op op_mod (pe_op op_pow (pe_callTy call_int1 (by rfl) B.int boot_int (pa_cons (pe_op op_add (pe_op op_mod (pe_callTy call_int1 (by rfl) B.int boot_int (pa_cons (pv 3) pa_nil)) pe_int) (pe_op op_mul pe_int (pe_ix ix_list (pv 0) pe_int (fun _ _ => rfl)))) pa_nil)) pe_int) pe_int))
      (pss_cons (ps_set (i := 4) scDraw.nd rfl (Or.inl rfl) (pe_op op_mod (pe_op op_pow (pe_callTy call_int1 (by rfl) B.int boot_int (pa_cons (pe_op op_add (pe_op op_mul (pv 4) (pe_op op_add (pe_op op_mul pe_int (pe_ix ix_list (pv 0) pe_int (fun _ _ => rfl))) pe_int)) pe_int) pa_nil)) pe_int) pe_int))
      (pss_one (ps_ret (pe_op op_mod (pe_op op_fdiv (pv 4) pe_int) (pv 1))))))))))), ?_⟩
    obtain ⟨i, r, n, hd, hn0, hnk⟩ := D.ex
    have hld : l ≠ d := D.ne
    have hl : H l = some (.lst (ns.map V.int)) := D.cells
    -- deck[3] = deck[3] + 1
    refine ⟨_, rfl, d, _, _, _, rfl, rfl, .inl (.inl hd), rfl, n, 1, rfl, rfl, _, rfl, d, _, _, 3, rfl, rfl, hd, rfl, ?_⟩
    -- if deck[2] > 0
    refine ⟨_, rfl, d, _, _, _, rfl, rfl, .inl (.inl upd_same), rfl, r, 0, rfl, rfl, _, rfl, ite2 (fun _ => ?_) fun _ => ?_⟩
    · refine ⟨_, rfl, d, _, _, _, rfl, rfl, .inl (.inl upd_same), rfl, .inl ⟨r, rfl, _, rfl, r, m, rfl, rfl, hm, ?_⟩⟩
      refine ⟨_, rfl, d, _, _, _, rfl, rfl, .inl (.inl upd_same), rfl, _, rfl, r, m, rfl, rfl, ⟨hm, hm2⟩, _, rfl, d, _, _, 2, rfl, rfl, upd_same, rfl, _, rfl, ?_⟩
      exact q _ _ (Int.emod_nonneg _ (by omega)) (Int.emod_lt_of_pos _ hm) ⟨⟨i, r / m, n + 1, upd_same, by omega, by omega⟩, by rw [upd_ne hld, upd_ne hld]; exact hl⟩ (fr_upd.trans fr_upd)
    -- cell = 73; if deck[0] != []
    refine ⟨fun σ' H' => ∃ (c : Int) (G : Hp), σ' = [some (.ref d), some (.int m), none, some (.int c), none] ∧ H' = G ∧ Fr d H G ∧ G d = some (.lst [.ref l, .int i, .int r, .int (n + 1)]), ?_, ?_⟩
    · refine ⟨_, rfl, d, _, _, _, rfl, rfl, .inl (.inl upd_same), rfl, (by show 0 ≤ sizeLine; omega), fun p np => ?_⟩
      have npd : d ≠ p := ne_of_none upd_same np
      have hl1 : (upd H d (.lst [.ref l, .int i, .int r, .int (n + 1)])) l = some (.lst (ns.map V.int)) := by rw [upd_ne hld]; exact hl
      have npl : l ≠ p := ne_of_none hl1 np
      have hl2 := (same_new (o := HO.lst []) np) _ _ hl1
      have hd2 := (same_new (o := HO.lst []) np) _ _ (upd_same (H := H) (a := d) (o := .lst [.ref l, .int i, .int r, .int (n + 1)]))
      refine ⟨.list (ns.map PyData.int), .list [], .lst (.inl (.inl hl2)) (dps_ints ns), .lst (.inl (.inl upd_same)) .nil, ints_shaped ns, (by decide +kernel), _, rfl, ?_⟩
      have frA : Fr d H (upd (upd H d (.lst [.ref l, .int i, .int r, .int (n + 1)])) p (.lst [])) := fr_upd.trans (same_fr (same_new np))
      refine ite2 (fun hc => ?_) fun _ => ?_
      · have hpos : 0 < ns.length := by
          cases ns with
          | nil => exact absurd hc (by decide +kernel)
          | cons z zs => exact Nat.succ_pos _
        obtain ⟨j, ej, hj⟩ := place (i := i) hpos
        have hj' : (ns.map V.int)[j]? = some (V.int ns[j]) := by
          rw [List.getElem?_map, List.getElem?_eq_getElem hj] <;> rfl
        refine ⟨_, rfl, d, _, _, _, rfl, rfl, .inl (.inl hd2), rfl, _, rfl, d, _, _, _, rfl, rfl, .inl (.inl hd2), rfl, .inl ⟨i, rfl, ?_⟩⟩
        refine ⟨_, rfl, d, _, _, _, rfl, rfl, .inl (.inl hd2), rfl, l, _, rfl, .inl (.inl (.inl hl2)), i, _, rfl, rfl, ?_, l, _, _, _, rfl, rfl, .inl (.inl hl2), at_of (j := j) (v := V.int ns[j]) ?_ hj', ?_⟩
        · show (0 : Int) < ((ns.map V.int).length : Int)
          rw [List.length_map]
          omega
        · show i % ((ns.map V.int).length : Int) = _
          rw [List.length_map]
          exact ej
        · exact ⟨_, _, rfl, rfl, frA, hd2⟩
      · exact ⟨73, _, rfl, rfl, frA, hd2⟩
    rintro σ' H' ⟨c, G, rfl, rfl, fG, hG⟩
    have hlG : H' l = some (.lst (ns.map V.int)) := fG _ _ hld hl
    -- deck[1] = deck[1] + 1
    refine ⟨_, rfl, d, _, _, _, rfl, rfl, .inl (.inl hG), rfl, i, 1, rfl, rfl, _, rfl, d, _, _, 1, rfl, rfl, hG, rfl, ?_⟩
    have hl3 : (upd H' d (.lst [.ref l, .int (i + 1), .int r, .int (n + 1)])) l = some (.lst (ns.map V.int)) := by rw [upd_ne hld]; exact hlG
    -- if abs(cell) >= 10 ** 18 and deck[1] <= len(deck[0])
    have c0 : 0 ≤ c % 2147483579 := Int.emod_nonneg _ (by decide)
    have c1 : c % 2147483579 < 2147483579 := Int.emod_lt_of_pos _ (by decide)
    refine ⟨fun σ' G => σ' = [some (.ref d), some (.int m), none, some (.int c), none] ∧ G = upd H' d (.lst [.ref l, .int (i + 1), .int r, .int (n + 1)]), ?_, ?_⟩
    · refine ⟨_, rfl, c, rfl, 10, 18, rfl, rfl, ⟨by decide, by decide, by decide⟩, _, _, rfl, rfl, _, rfl, ite2 (fun _ => ?_) fun _ => iteF ⟨rfl, rfl⟩⟩
      refine ⟨_, rfl, d, _, _, _, rfl, rfl, .inl (.inl upd_same), rfl, _, rfl, d, _, _, _, rfl, rfl, .inl (.inl upd_same), rfl, l, _, rfl, .inl (.inl (.inl hl3)), _, _, rfl, rfl, _, rfl, ite2 (fun _ => ?_) fun _ => ⟨rfl, rfl⟩⟩
      refine ⟨_, rfl, c, rfl, _, rfl, _, m, rfl, rfl, ⟨hm, hm2⟩, _, rfl, d, _, _, 2, rfl, rfl, upd_same, rfl, ?_⟩
      refine ⟨_, rfl, c, rfl, .inl ⟨_, rfl, _, rfl, _, m, rfl, rfl, hm, ?_⟩⟩
      exact q _ _ (Int.emod_nonneg _ (by omega)) (Int.emod_lt_of_pos _ hm) ⟨⟨i + 1, _, n + 1, upd_same, by omega, by omega⟩, by rw [upd_ne hld, upd_ne hld]; exact hlG⟩ (fG.trans (fr_upd.trans fr_upd))
    rintro σ' G ⟨rfl, rfl⟩
    refine ⟨_, rfl, .inl ⟨c, rfl, c, 2147483579, rfl, rfl, (by show (0 : Int) < 2147483579; decide), ?_⟩⟩
    refine ⟨_, rfl, d, _, _, _, rfl, rfl, .inl (.inl upd_same), rfl, 73856093, n + 1, rfl, rfl, .inl ⟨by decide, by decide⟩, _, _, rfl, rfl, .inl ⟨_, rfl, _, 5, rfl, rfl, ⟨by decide, by decide, by omega⟩, _, 2147483629, rfl, rfl, (by show (0 : Int) < 2147483629; decide), ?_⟩⟩
    have m0 : 0 ≤ (c % 2147483579 + 73856093 * (n + 1)) ^ (5 : Int).toNat % 2147483629 := Int.emod_nonneg _ (by decide)
    have m1 : (c % 2147483579 + 73856093 * (n + 1)) ^ (5 : Int).toNat % 2147483629 < 2147483629 := Int.emod_lt_of_pos _ (by decide)
    have mx := mix_ok m0 m1 hn0 (by omega)
    refine ⟨_, rfl, _, rfl, d, _, _, _, rfl, rfl, .inl (.inl upd_same), rfl, 2, n + 1, rfl, rfl, .inl ⟨by decide, by decide⟩, _, 7, rfl, rfl, _, _, rfl, rfl, .inl mx.1, _, 6151, rfl, rfl, .inl ⟨_, rfl, _, 3, rfl, rfl, ⟨by decide, by decide, mx.2⟩, _, 2147483647, rfl, rfl, (by show (0 : Int) < 2147483647; decide), ?_⟩⟩
    refine ⟨_, rfl, _, 32, rfl, rfl, ⟨by decide, by decide⟩, _, rfl, _, m, rfl, rfl, hm, ?_⟩
    exact q _ _ (Int.emod_nonneg _ (by omega)) (Int.emod_lt_of_pos _ hm) ⟨⟨i + 1, r, n + 1, upd_same, by omega, by omega⟩, hl3⟩ (fG.trans fr_upd)
theorem scOne : FnScope ["_law_deck_here", "_law_items"] ["_law_deck_here", "_law_items"] (defScope sOne) := ⟨rfl, rfl, rfl, by decide +kernel, rfl, by decide +kernel, by decide +kernel⟩
theorem ok_one {f fD : Addr} {fd fdD : FuncData} (F : Fun K "_law_one" "_law_one" sOne f fd) (B : Blt mg) (GD : FnOk P w K mg base CX0 1 fD fdD ["_law_deck_here", "_law_many"] spDraw) (mD : mg "_law_draw" = some (.ref fD))
    (kD : PySem.W.keepIn K (.ref fD) = true) (bD : Binds K fdD ["_law_deck_here", "_law_many"] []) : FnOk P w K mg base CX0 2 f fd ["_law_deck_here", "_law_items"] (spOne K) := by
  refine F.ok scOne (fun vs H Q E h => ?_) (fun cdv A outer s H vs Q E hr h => ?_)
  · obtain ⟨d, l, ns, k, x, rfl, _⟩ := h
    rfl
  · obtain ⟨d, l, ns, k, x, rfl, D, hn, hk, h⟩ := h
    refine ⟨_, pss_one (ps_ret (pe_ix ix_seq (pv 1) (pe_call GD hr rfl mD kD bD .nil pass0 (pa_cons (pv 0) (pa_cons (pe_callB (CallR.or call_len_seq call_len_str) (by rfl) B.len PySem.boot_len (pa_cons (pv 1) pa_nil)) pa_nil))) (fun _ _ => rfl))), ?_⟩
    rcases h with ⟨p, xs, rfl, npd, hS, hne, hlen, q⟩ | ⟨z, rfl, hz0, hz, q⟩
    · have hS' : SqL K H p xs ∨ SqT K H p xs := hS.imp (fun h => Same.seq off_le h) fun h => same_seqT off_le h
      have hpos : 0 < xs.length := List.length_pos_iff.mpr hne
      refine ⟨_, rfl, _, rfl, _, rfl, .inl ⟨p, xs, rfl, hS', d, l, ns, k, _, rfl, ?_, ?_, D, hn, hk, fun v H' h0 h1 D' fr => ?_⟩⟩
      · show (0 : Int) < (xs.length : Int)
        omega
      · show (xs.length : Int) < 1073741824
        omega
      · have hS2 : SqL K H' p xs ∨ SqT K H' p xs := hS.imp (fun h => Same.seq off_le (Same.seq (Fr.off fr) h)) fun h => same_seqT off_le (same_seqT (Fr.off fr) h)
        obtain ⟨j, rfl⟩ : ∃ j : Nat, v = (j : Int) := ⟨v.toNat, by omega⟩
        have hj : j < xs.length := by omega
        have hx : xs[j]? = some xs[j] := List.getElem?_eq_getElem hj
        rcases hS2 with hS2 | hS2
        · exact .inl ⟨p, xs, _, _, rfl, rfl, hS2, atI_nat hx, q j _ H' hx D' fr⟩
        · exact .inr (.inl ⟨p, xs, _, _, rfl, rfl, hS2, atI_nat hx, q j _ H' hx D' fr⟩)
    · have hs : z.length ≤ sizeLine := by rw [sizeLine_eq]; omega
      refine ⟨_, rfl, _, rfl, _, rfl, .inr ⟨z, rfl, hs, d, l, ns, k, _, rfl, ?_, ?_, D, hn, hk, fun v H' h0 h1 D' fr => ?_⟩⟩
      · show (0 : Int) < (z.length : Int)
        omega
      · show (z.length : Int) < 1073741824
        omega
      · obtain ⟨j, rfl⟩ : ∃ j : Nat, v = (j : Int) := ⟨v.toNat, by omega⟩
        have hj : j < z.cps.toList.length := by
          show j < z.cps.toList.length
          have : z.cps.toList.length = z.length := by simp [Str.length]
          omega
        have hx : z.cps.toList[j]? = some z.cps.toList[j] := List.getElem?_eq_getElem hj
        exact .inr (.inr ⟨z, _, _, rfl, rfl, hs, atI_nat hx, q _ H' (List.getElem_mem hj) D' fr⟩)
end
end My

/-! MyTxt: turns over a tuple or a list; small words -/
namespace My
open PySem PySem.Spec PyProof.Rows L2
theorem turns_tup {K : PySem.W.Frag} {a : Addr} {xs : List V} {g : TG} {tt : TT} {ti : TIn} {vs : List Nat} {σ : L2.St} {Last : Hp → Prop} (Pv : Nat → Hp → Prop) (hl : ∀ i H, i ≤ xs.length → Pv i H → SqT K H a xs)
    (hs : ∀ i x H, xs[i]? = some x → Pv i H → g x (wipe σ vs) H fun σ2 H2 => wipe σ2 vs = wipe σ vs ∧ tt σ2 H2 fun b H3 => if b = true then ti σ2 H3 (Pv (i + 1)) else Pv (i + 1) H3) (hd : ∀ H, Pv xs.length H → Last H) :
    Turns (Itt K a) g tt ti vs σ (fun i m H => m = xs.length - i ∧ i ≤ xs.length ∧ Pv i H) Last := by
  rintro i m H ⟨rfl, hi, p⟩
  have q := hl i H hi p
  rcases Nat.lt_or_eq_of_le hi with lt | rfl
  · refine .inr ⟨⟨xs, xs[i], q, List.getElem?_eq_getElem lt⟩, Pv (i + 1), fun H' p' => ⟨xs.length - (i + 1), by omega, rfl, lt, p'⟩, ?_⟩
    rintro x H' ⟨rfl, y⟩
    exact hs i x _ (y xs q) p
  · exact .inl ⟨⟨xs, q, Nat.le_refl _⟩, hd H p⟩
theorem turns_list {K : PySem.W.Frag} {a : Addr} {xs : List V} {g : TG} {tt : TT} {ti : TIn} {vs : List Nat} {σ : L2.St} {Last : Hp → Prop} (Pv : Nat → Hp → Prop) (hl : ∀ i H, i ≤ xs.length → Pv i H → SqL K H a xs)
    (hs : ∀ i x H, xs[i]? = some x → Pv i H → g x (wipe σ vs) H fun σ2 H2 => wipe σ2 vs = wipe σ vs ∧ tt σ2 H2 fun b H3 => if b = true then ti σ2 H3 (Pv (i + 1)) else Pv (i + 1) H3) (hd : ∀ H, Pv xs.length H → Last H) :
    Turns (Itl K a) g tt ti vs σ (fun i m H => m = xs.length - i ∧ i ≤ xs.length ∧ Pv i H) Last := by
  rintro i m H ⟨rfl, hi, p⟩
  have q := hl i H hi p
  rcases Nat.lt_or_eq_of_le hi with lt | rfl
  · refine .inr ⟨⟨xs, xs[i], q, List.getElem?_eq_getElem lt⟩, Pv (i + 1), fun H' p' => ⟨xs.length - (i + 1), by omega, rfl, lt, p'⟩, ?_⟩
    rintro x H' ⟨rfl, y⟩
    exact hs i x _ (y xs q) p
  · exact .inl ⟨⟨xs, q, Nat.le_refl _⟩, hd H p⟩

/-! ### words -/
open TL (tl joinL join_eq tl_join)
def six : List Nat := [97, 98, 99, 109, 121, 122]
/-- a drawn word | a word of a pool -/
structure Wd0 (x : Str) : Prop where
  pos : 0 < (tl x).length
  few : (tl x).length ≤ 8
  of : ∀ c ∈ tl x, c ∈ six
structure Wd (x : Str) : Prop where
  pos : 0 < (tl x).length
  few : (tl x).length ≤ 8
  of : ∀ c ∈ tl x, c ∈ 113 :: six
theorem Wd0.wd {x : Str} (h : Wd0 x) : Wd x := ⟨h.pos, h.few, fun c m => List.mem_cons_of_mem _ (h.of c m)⟩
theorem joinL_ones : ∀ ps : List Nat, joinL [] (ps.map fun c => [c]) = ps
  | [] => rfl
  | [c] => rfl
  | c :: d :: r => by
    show [c] ++ ([] ++ joinL [] ((d :: r).map fun c => [c])) = _
    rw [joinL_ones (d :: r)]
    rfl
theorem tl_joined (ps : List Nat) : tl (Txt.join "" (ps.map fun c => ⟨#[c]⟩)) = ps := by
  rw [join_eq, tl_join, List.map_map]
  exact joinL_ones ps
/-- how many q's stand at the end -/
def tq (x : Str) : Nat := ((tl x).reverse.takeWhile (· == 113)).length
theorem tq_zero {x : Str} (h : Wd0 x) : tq x = 0 := by
  unfold tq
  cases e : (tl x).reverse with
  | nil => rfl
  | cons c r =>
    have m : c ∈ tl x := List.mem_reverse.mp (by rw [e]; exact List.mem_cons_self)
    have n : (c == 113) = false := by
      have z := h.of c m
      cases q : c == 113 with
      | false => rfl
      | true =>
        rw [eq_of_beq q] at z
        exact absurd z (by decide)
    rw [List.takeWhile_cons, n]
    rfl
theorem tq_snoc {x y : Str} (h : tl y = tl x ++ [113]) : tq y = tq x + 1 := by
  unfold tq
  rw [h, List.reverse_append]
  rfl
theorem takeWhile_dropLast {p : Nat → Bool} : ∀ {l : List Nat}, (l.takeWhile p).length < l.length → (l.dropLast.takeWhile p) = l.takeWhile p
  | [], h => absurd h (by simp)
  | [c], h => by
    by_cases e : p c = true
    · simp [e] at h
    · simp [e]
  | c :: d :: r, h => by
    rw [List.dropLast_cons_of_ne_nil (List.cons_ne_nil _ _)]
    by_cases e : p c = true
    · rw [List.takeWhile_cons_of_pos e] at h
      rw [List.takeWhile_cons_of_pos e, List.takeWhile_cons_of_pos e, takeWhile_dropLast (by simpa using h)]
    · rw [List.takeWhile_cons_of_neg e, List.takeWhile_cons_of_neg e]
theorem tq_shift {x y : Str} (h : tl y = (tl x).drop 1 ++ [113]) (lt : tq x < (tl x).length) : tq y = tq x + 1 := by
  unfold tq at lt ⊢
  have e : (tl y).reverse = 113 :: (tl x).reverse.dropLast := by
    rw [h, List.reverse_append, List.dropLast_reverse, List.drop_one]
    rfl
  rw [e, List.takeWhile_cons_of_pos rfl, takeWhile_dropLast (by rw [List.length_reverse]; exact lt)]
  rfl
end My

/-! GW: drawn words, pools of unlike words -/
namespace My
open PySem PySem.Spec PyProof.Rows L2
open TL (tl)
def spWord : Sp := fun vs H Q _ => ∃ (d l : Addr) (ns : List Int) (k : Nat), vs = [.ref d] ∧ Deck H d l ns k ∧ ns.length ≤ 63 ∧ k + 10 < 1073741824 ∧ ∀ (x : Str) (H' : Hp), Wd0 x → Deck H' d l ns (k + 9) → Fr d H H' → Q (.str x) H'
theorem ones_sum : ∀ cs : List Nat, ((cs.map fun c => (⟨#[c]⟩ : Str)).map (·.length)).sum = cs.length
  | [] => rfl
  | c :: r => by
    rw [List.map_cons, List.map_cons, List.sum_cons, ones_sum r, List.length_cons]
    show 1 + _ = _
    omega
theorem Fr.upd_new {d b : Addr} {H H2 H4 : Hp} {o : HO} (f2 : Fr d H H2) (f4 : Fr d H H4) (n : H2 b = none) (hd : b ≠ d) : Fr d H (upd H4 b o) := fun c u hc h => by
  have cb : c ≠ b := fun e => by
    have z := f2 b u hd (by rw [← e]; exact h)
    rw [n] at z
    cases z
  rw [upd_ne cb]
  exact f4 c u hc h
section
variable {P : Program} {w : World} {K : PySem.W.Frag} {mg : Str → Option Value} {base : Heap}
theorem scWord : FnScope ["_law_deck_here", "_law_size", "_law_k"] ["_law_deck_here"] (defScope sWord) := ⟨rfl, rfl, rfl, by decide +kernel, rfl, by decide +kernel, by decide +kernel⟩
theorem ok_word {f fO : Addr} {fd fdO : FuncData} (F : Fun K "_law_word" "_law_word" sWord f fd) (B : Blt mg) (GO : FnOk P w K mg base CX0 2 fO fdO ["_law_deck_here", "_law_items"] (spOne K)) (mO : mg "_law_one" = some (.ref fO))
    (kO : PySem.W.keepIn K (.ref fO) = true) (bO : Binds K fdO ["_law_deck_here", "_law_items"] []) : FnOk P w K mg base CX0 3 f fd ["_law_deck_here"] spWord := by
  refine F.ok scWord (fun vs H Q E h => ?_) (fun cdv A outer s H vs Q E hr h => ?_)
  · obtain ⟨d, l, ns, k, rfl, _⟩ := h
    rfl
  · obtain ⟨d, l, ns, k, rfl, D, hn, hk, q⟩ := h
    refine ⟨_, pss_cons (ps_set (i := 1) scWord.nd rfl (Or.inl rfl) (pe_call GO hr rfl mO kO bO .nil pass0 (pa_cons (pv 0) (pa_cons (pe_lst (pa_cons pe_int (pa_cons pe_int (pa_cons pe_int (pa_cons pe_int (pa_cons pe_int pa_nil)))))) pa_nil))))
      (pss_one (ps_ret (pe_join pe_str (pe_lc (own := [("_law_k", 2)]) (g := gName 2) (tt := tYes) rfl scWord.nd (pi_range1 rfl B.range (pa_cons (pv 1) pa_nil)) (blkOk_by (own := [("_law_k", 2)]) (N := ["_law_deck_here", "_law_size", "_law_k"]) (sc := defScope sWord) (by decide +kernel))
        (fun _ _ _ _ _ => pg_name (i := 2) scWord.nd rfl (Or.inl rfl)) (fun _ _ _ _ _ => pts_nil) (fun _ _ _ _ _ => pe_call GO (hr.mono (by decide)) rfl mO kO bO .nil pass0 (pa_cons (pv 0) (pa_cons pe_str pa_nil))))))), ?_⟩
    refine ⟨_, rfl, (by show 5 ≤ sizeLine; decide), fun p np => ?_⟩
    have pd : p ≠ d := (D.nd np).1
    have D1 : Deck (upd H p (.lst [.int 1, .int 1, .int 2, .int 3, .int 8])) d l ns k := D.same (same_new np)
    refine ⟨d, l, ns, k, .ref p, rfl, D1, hn, by omega, .inl ⟨p, _, rfl, pd, .inl (.inl (.inl (off_at pd upd_same))), List.cons_ne_nil _ _, by decide, fun j v H2 hj D2 f2 => ?_⟩⟩
    obtain ⟨n, rfl, n1, n8⟩ : ∃ n : Nat, v = .int (n : Int) ∧ 0 < n ∧ n ≤ 8 := by
      match j, hj with
      | 0, hj => exact ⟨1, (Option.some.inj hj).symm, by decide, by decide⟩
      | 1, hj => exact ⟨1, (Option.some.inj hj).symm, by decide, by decide⟩
      | 2, hj => exact ⟨2, (Option.some.inj hj).symm, by decide, by decide⟩
      | 3, hj => exact ⟨3, (Option.some.inj hj).symm, by decide, by decide⟩
      | 4, hj => exact ⟨8, (Option.some.inj hj).symm, by decide, by decide⟩
      | n + 5, hj => simp at hj
    have fr2 : Fr d H H2 := (same_fr (same_new np)).trans f2
    refine ⟨⟨_, rfl⟩, _, rfl, (n : Int), rfl, by omega, by omega, fun Dn nD => ?_⟩
    obtain ⟨Dd, Dl⟩ := D2.nd nD
    refine lc_range (lo := 0) (n := (n : Int).toNat) (fun t H3 => ∃ cs : List Nat, H3 Dn = some (.lst (cs.map fun c => V.str ⟨#[c]⟩)) ∧ cs.length = t ∧ (∀ c ∈ cs, c ∈ six) ∧ Deck H3 d l ns (k + 1 + t) ∧ Fr d H H3) ⟨[], upd_same, rfl, (fun c m => nomatch m), D2.same (same_new nD), fr2.trans (same_fr (same_new nD))⟩ ?_ ?_
    · rintro t H3 ht ⟨cs, h1, h2, h3, h4, h5⟩
      refine ⟨rfl, ?_⟩
      dsimp only [tYes]
      rw [if_pos rfl]
      refine ⟨_, rfl, d, l, ns, k + 1 + t, _, rfl, h4, hn, by omega, .inr ⟨_, rfl, by decide, by decide, fun c H4 hc D4 f4 => ?_⟩⟩
      refine ⟨cs.map fun c => V.str ⟨#[c]⟩, f4 _ _ Dd h1, by rw [List.length_map, sizeLine_eq]; omega, cs ++ [c], ?_, by rw [List.length_append, h2]; rfl, fun c' m => ?_, D4.upd Dd Dl, Fr.upd_new fr2 (h5.trans f4) nD Dd⟩
      · rw [upd_same, List.map_append]
        rfl
      · rcases List.mem_append.mp m with m | m
        · exact h3 c' m
        · rw [List.mem_singleton.mp m]
          revert hc
          exact fun z => z
    · rintro H3 ⟨cs, h1, h2, h3, h4, h5⟩
      have hn' : cs.length = n := by rw [h2]; rfl
      refine ⟨_, Dn, cs.map fun c => ⟨#[c]⟩, rfl, rfl, .inl (.inl (.inl (by rw [List.map_map]; exact h1))), ?_, ?_⟩
      · rw [ones_sum, List.length_map]
        show cs.length + cs.length * 0 ≤ 16777216
        omega
      · refine q _ _ ⟨?_, ?_, ?_⟩ (h4.mono (by omega)) h5
        · rw [tl_joined]
          omega
        · rw [tl_joined]
          omega
        · rw [tl_joined]
          exact h3
end
end My

/-! GP: pools of unlike words -/
namespace My
open PySem PySem.Spec PyProof.Rows L2
open TL (tl len_tl tl_append)
theorem inV_strs (x : Str) : ∀ xs : List Str, inV (.str x) (xs.map V.str) = decide (x ∈ xs)
  | [] => rfl
  | y :: r => by
    have ih := inV_strs x r
    unfold inV at ih ⊢
    rw [List.map_cons, List.any_cons, ih]
    show ((y == x) || _) = _
    by_cases e : y = x
    · subst e
      simp
    · have n : (y == x) = false := beq_eq_false_iff_ne.mpr e
      have n2 : ¬ x = y := fun z => e z.symm
      simp [n, n2]
theorem flat_strs (xs : List Str) : (xs.map V.str).all flatV = true := by
  rw [List.all_eq_true]
  intro v hv
  obtain ⟨x, _, rfl⟩ := List.mem_map.mp hv
  rfl
theorem tl_cut1 {x : Str} (h : 0 < (tl x).length) : tl (cutS x (some 1) none) = (tl x).drop 1 := by
  have e : x.length = (tl x).length := len_tl x
  unfold cutS
  rw [HT.sIx_none, show HT.sIx x.length 0 (some 1) = min 1 x.length from HT.sIx_nat x.length 0 1, e, Nat.min_eq_left h]
  show ((tl x).drop 1).take _ = _
  exact List.take_of_length_le (by rw [List.length_drop]; exact Nat.le_refl _)
theorem wd_cut {x y : Str} (h : Wd x) (e : tl y = (tl x).drop 1 ++ [113]) : Wd y := by
  have z := h.few
  have z2 := h.pos
  refine ⟨by rw [e, List.length_append]; exact Nat.succ_pos _, ?_, fun c m => ?_⟩
  · rw [e, List.length_append, List.length_drop]
    show _ + 1 ≤ 8
    omega
  · rw [e] at m
    rcases List.mem_append.mp m with m | m
    · exact h.of c (List.mem_of_mem_drop m)
    · rw [List.mem_singleton.mp m]
      exact List.mem_cons_self
theorem wd_snoc {x y : Str} (h : Wd x) (l : (tl x).length < 8) (e : tl y = tl x ++ [113]) : Wd y := by
  refine ⟨by rw [e, List.length_append]; exact Nat.succ_pos _, ?_, fun c m => ?_⟩
  · rw [e, List.length_append]
    exact l
  · rw [e] at m
    rcases List.mem_append.mp m with m | m
    · exact h.of c m
    · rw [List.mem_singleton.mp m]
      exact List.mem_cons_self
/-- how many of the words have i or more q's at their ends -/
def over (i : Nat) (xs : List Str) : Nat := xs.countP fun x => decide (i ≤ tq x)
theorem over_lt {i : Nat} {x : Str} : ∀ {xs : List Str}, x ∈ xs → tq x = i → over (i + 1) xs + 1 ≤ over i xs
  | y :: r, m, e => by
    have le : over (i + 1) r ≤ over i r := List.countP_mono_left fun z _ h => by
      simp only [decide_eq_true_eq] at h ⊢
      omega
    unfold over at le ⊢
    rw [List.countP_cons, List.countP_cons]
    rcases List.mem_cons.mp m with rfl | m
    · have h1 : decide (i ≤ tq x) = true := decide_eq_true (by omega)
      have h2 : decide (i + 1 ≤ tq x) = false := decide_eq_false (by omega)
      rw [h1, h2]
      simp only [if_true, Bool.false_eq_true, if_false]
      omega
    · have ih := over_lt m e
      unfold over at ih
      by_cases h1 : i + 1 ≤ tq y
      · have h2 : i ≤ tq y := by omega
        simp only [h1, h2, decide_true, if_true]
        omega
      · simp only [h1, decide_false, Bool.false_eq_true, if_false]
        omega
def spPool : Sp := fun vs H Q _ => ∃ (d l : Addr) (ns : List Int) (k m : Nat), vs = [.ref d, .int (m : Int)] ∧ m < 8 ∧ Deck H d l ns k ∧ ns.length ≤ 63 ∧ k + 100 < 1073741824 ∧
  ∀ (p : Addr) (xs : List Str) (H' : Hp), xs.length = m → xs.Nodup → (∀ x ∈ xs, Wd x) → H p = none → H' p = some (.lst (xs.map V.str)) → Deck H' d l ns (k + 9 * m) → Fr d H H' → Q (.ref p) H'
section
variable {P : Program} {w : World} {K : PySem.W.Frag} {mg : Str → Option Value} {base : Heap}
theorem scPool : FnScope ["_law_deck_here", "_law_many", "_law_found", "_law_word_here"] ["_law_deck_here", "_law_many"] (defScope sPool) := ⟨rfl, rfl, rfl, by decide +kernel, rfl, by decide +kernel, by decide +kernel⟩
theorem ok_pool {f fW : Addr} {fd fdW : FuncData} (F : Fun K "_law_pool" "_law_pool" sPool f fd) (B : Blt mg) (GW : FnOk P w K mg base CX0 3 fW fdW ["_law_deck_here"] spWord) (mW : mg "_law_word" = some (.ref fW))
    (kW : PySem.W.keepIn K (.ref fW) = true) (bW : Binds K fdW ["_law_deck_here"] []) : FnOk P w K mg base CX0 4 f fd ["_law_deck_here", "_law_many"] spPool := by
  refine F.ok scPool (fun vs H Q E h => ?_) (fun cdv A outer s H vs Q E hr h => ?_)
  · obtain ⟨d, l, ns, k, m, rfl, _⟩ := h
    rfl
  · obtain ⟨d, l, ns, k, m, rfl, hm, D, hn, hk, q⟩ := h
    refine ⟨_, pss_cons (ps_set (i := 2) scPool.nd rfl (Or.inl rfl) (pe_lst pa_nil))
      (pss_cons (ps_while PassesOwn.never (pt_cmpR op_lt (pe_callB call_len_seq (by rfl) B.len PySem.boot_len (pa_cons (pv 2) pa_nil)) (pv 1) (nomark _))
        (pss_cons (ps_set (i := 3) scPool.nd rfl (Or.inl rfl) (pe_call GW hr rfl mW kW bW .nil pass0 (pa_cons (pv 0) pa_nil)))
        (pss_cons (ps_while PassesOwn.never (pt_cmpR op_in_seq (pv 3) (pv 2) (by rfl))
          (pss_one (ps_set (i := 3) scPool.nd rfl (Or.inl rfl) (pe_ifExp (pt_cmpR op_eq (pe_callB call_len_str (by rfl) B.len PySem.boot_len (pa_cons (pv 3) pa_nil)) pe_int (nomark _))
            (pe_op op_add_str (pe_slice sl_str (pv 3) (po_some pe_int) po_none) pe_str) (pe_op op_add_str (pv 3) pe_str)))))
        (pss_one (ps_expr (pe_bm PySem.F.plainAttrs_list PySem.F.slot_list_append PySem.F.type_list_append mt_append (pv 2) (pa_cons (pv 3) pa_nil)))))))
      (pss_one (ps_ret (pv 2)))), ?_⟩
    refine ⟨by decide, fun p np => ?_⟩
    obtain ⟨pd, pl⟩ := D.nd np
    refine ⟨fun n σ H1 => ∃ (xs : List Str) (v3 : Option V), n = m - xs.length ∧ σ = [some (.ref d), some (.int (m : Int)), some (.ref p), v3] ∧ xs.length ≤ m ∧ xs.Nodup ∧ (∀ x ∈ xs, Wd x) ∧ H1 p = some (.lst (xs.map V.str)) ∧ Deck H1 d l ns (k + 9 * xs.length) ∧ Fr d H H1,
      ⟨m, [], none, rfl, rfl, Nat.zero_le _, List.nodup_nil, (fun x z => nomatch z), upd_same, D.same (same_new np), same_fr (same_new np)⟩, ?_⟩
    rintro n σ H1 ⟨xs, v3, rfl, rfl, hx, nd, wd, hp, D1, f1⟩
    refine ⟨_, rfl, p, _, rfl, .inl (.inl (.inl hp)), _, rfl, _, _, rfl, rfl, _, rfl, ite2 (fun c => ?_) fun c => ?_⟩
    · have c' : xs.length < m := by
        have z := of_decide_eq_true c
        rw [List.length_map] at z
        omega
      refine ⟨fun σ' H' => ∃ (x : Str) (v3 : Option V), σ' = [some (.ref d), some (.int (m : Int)), some (.ref p), v3] ∧ x ∉ xs ∧ Wd x ∧ H' p = some (.lst ((xs ++ [x]).map V.str)) ∧ Deck H' d l ns (k + 9 * (xs.length + 1)) ∧ Fr d H H', ?_, ?_⟩
      · rintro σ' H' ⟨x, v3, rfl, nx, wx, hp', D', f'⟩
        refine ⟨m - (xs.length + 1), by omega, xs ++ [x], v3, by rw [List.length_append]; rfl, rfl, by rw [List.length_append]; exact c', ?_, ?_, hp', by rw [List.length_append]; exact D', f'⟩
        · exact List.nodup_append.mpr ⟨nd, by simp, fun a ha b hb e => nx (by rw [← List.mem_singleton.mp hb, ← e]; exact ha)⟩
        · intro y hy
          rcases List.mem_append.mp hy with z | z
          · exact wd y z
          · rw [List.mem_singleton.mp z]
            exact wx
      · refine ⟨_, rfl, d, l, ns, k + 9 * xs.length, rfl, D1, hn, by omega, fun x0 H2 w0 D2 f2 => ?_⟩
        have hp2 : H2 p = some (.lst (xs.map V.str)) := f2 _ _ pd hp
        have q0 : tq x0 = 0 := tq_zero w0
        have ov0 : over 0 xs = xs.length := by
          unfold over
          rw [List.countP_eq_length]
          intro y _
          simp
        refine ⟨fun n σ' H' => ∃ (x : Str) (i : Nat), σ' = [some (.ref d), some (.int (m : Int)), some (.ref p), some (.str x)] ∧ H' = H2 ∧ Wd x ∧ tq x = i ∧ i + over i xs ≤ xs.length ∧ n = over i xs, ⟨over 0 xs, x0, 0, rfl, rfl, w0.wd, q0, by omega, rfl⟩, ?_⟩
        rintro n σ' H' ⟨x, i, rfl, rfl, wx, qx, hi, rfl⟩
        refine ⟨_, rfl, _, rfl, p, _, rfl, .inl (.inl (.inl hp2)), rfl, flat_strs xs, _, rfl, ite2 (fun c2 => ?_) fun c2 => ?_⟩
        · have mx : x ∈ xs := of_decide_eq_true ((inV_strs x xs).symm.trans c2)
          have lt := over_lt mx qx
          have small : x.length ≤ sizeLine := by
            have z := wx.few
            rw [← len_tl] at z
            rw [sizeLine_eq]
            omega
          have gap : i < (tl x).length ∨ (tl x).length < 8 := by
            have z := wx.few
            omega
          refine ⟨fun σ' G => ∃ y : Str, σ' = [some (.ref d), some (.int (m : Int)), some (.ref p), some (.str y)] ∧ G = H' ∧ Wd y ∧ tq y = i + 1, ?_, ?_⟩
          · rintro σ' G ⟨y, rfl, rfl, wy, qy⟩
            exact ⟨over (i + 1) xs, by omega, y, i + 1, rfl, rfl, wy, qy, by omega, rfl⟩
          · refine ⟨_, rfl, _, rfl, small, rfl, _, rfl, ite2 (fun c3 => ?_) fun c3 => ?_⟩
            · have l8 : (tl x).length = 8 := by
                have z := of_decide_eq_true c3
                have z2 := V.int.inj z
                rw [len_tl] at z2
                omega
              have ey : tl (cutS x (some 1) none ++ "q") = (tl x).drop 1 ++ [113] := by
                rw [tl_append, tl_cut1 (by omega)]
                rfl
              refine ⟨_, rfl, 1, rfl, x, rfl, small, _, _, rfl, rfl, ?_, ?_⟩
              · show (cutS x (some 1) none).length + 1 ≤ sizeLine
                rw [len_tl, tl_cut1 (by omega), List.length_drop, sizeLine_eq]
                omega
              · exact ⟨_, rfl, rfl, wd_cut wx ey, (tq_shift (x := x) ey (by omega)).trans (by rw [qx])⟩
            · have l8 : (tl x).length < 8 := by
                have z : ¬ (V.int (x.length : Nat) = V.int 8) := fun e => c3 (decide_eq_true e)
                have z3 := wx.few
                rw [← len_tl] at z3 ⊢
                rcases Nat.lt_or_eq_of_le z3 with h | h
                · exact h
                · exact absurd (by rw [h]; rfl) z
              refine ⟨_, rfl, _, _, rfl, rfl, ?_, ?_⟩
              · show x.length + 1 ≤ sizeLine
                rw [len_tl, sizeLine_eq]
                omega
              · exact ⟨_, rfl, rfl, wd_snoc wx l8 (tl_append x "q"), (tq_snoc (tl_append x "q")).trans (by rw [qx])⟩
        · have nx : x ∉ xs := fun m => c2 ((inV_strs x xs).trans (decide_eq_true m))
          refine ⟨_, rfl, ?_, _, rfl, p, _, _, rfl, rfl, hp2, ?_, ?_⟩
          · exact .inl ⟨rfl, _, .inl (.inl hp2)⟩
          · rw [List.length_map, sizeLine_eq]
            omega
          · refine ⟨x, _, rfl, nx, wx, ?_, D2.upd pd pl, Fr.upd_new (Fr.refl d H) (f1.trans f2) np pd⟩
            · rw [upd_same, List.map_append]
              rfl
    · have c' : xs.length = m := by
        have z : ¬ ((((xs.map V.str).length : Nat) : Int) < (m : Int)) := fun h => c (decide_eq_true h)
        rw [List.length_map] at z
        omega
      exact ⟨_, rfl, q p xs H1 c' nd wd np hp (by rw [← c']; exact D1) f1⟩
end
end My

/-! GX: built-in names, relations with their widths, facts of them -/
namespace My
open PySem PySem.Spec PyProof.Rows L2
open TL (tl len_tl tl_append)
/-- a relation with its width, as it stands -/
def KindAt (H : Hp) (t : Addr × Str × Nat) : Prop := H t.1 = some (.tup [.str t.2.1, .int (t.2.2 : Int)]) ∧ Wd t.2.1 ∧ 0 < t.2.2 ∧ t.2.2 ≤ 4
theorem Fr.free {d b : Addr} {H H2 : Hp} (f : Fr d H H2) (n : H2 b = none) (hd : b ≠ d) : H b = none := by
  cases e : H b with
  | none => rfl
  | some o =>
    rw [f b o hd e] at n
    cases n
theorem KindAt.fr {d : Addr} {H H2 : Hp} {t : Addr × Str × Nat} (h : KindAt H t) (f : Fr d H H2) (hd : t.1 ≠ d) : KindAt H2 t := ⟨f _ _ hd h.1, h.2⟩
structure Blt2 (mg : Str → Option Value) : Prop where
  tuple : mg "tuple" = none
  sorted : mg "sorted" = none
  set : mg "set" = none
  dict : mg "dict" = none
  isi : mg "isinstance" = none
  str : mg "str" = none
  all : mg "all" = none
theorem len_sub {α : Type} [DecidableEq α] : ∀ {l m : List α}, l.Nodup → (∀ x ∈ l, x ∈ m) → l.length ≤ m.length
  | [], _, _, _ => Nat.zero_le _
  | x :: r, m, nd, h => by
    obtain ⟨nx, nr⟩ := List.nodup_cons.mp nd
    have mx := h x List.mem_cons_self
    have z := len_sub (m := m.erase x) nr fun y hy => (List.mem_erase_of_ne fun e => nx (by rw [← e]; exact hy)).mpr (h y (List.mem_cons_of_mem _ hy))
    rw [List.length_erase_of_mem mx] at z
    have p := List.length_pos_of_mem mx
    rw [List.length_cons]
    omega
/-- a fact of the relations ks with values of vals -/
def FactOk (ks : List (Addr × Str × Nat)) (vals : List Str) (k : List Str) : Prop := ∃ (x : Str) (ws : List Str), k = x :: ws ∧ (∃ t ∈ ks, x = t.2.1 ∧ ws.length = t.2.2) ∧ ∀ y ∈ ws, y ∈ vals
theorem cutV_drop1 (xs : List V) (h : 1 ≤ xs.length) : cutV xs (some 1) none = xs.drop 1 := by
  unfold cutV
  rw [HT.sIx_none, show HT.sIx xs.length 0 (some 1) = min 1 xs.length from HT.sIx_nat xs.length 0 1, Nat.min_eq_left h]
  exact List.take_of_length_le (by rw [List.length_drop]; exact Nat.le_refl _)
theorem not_wholeV (xs : List V) (h : 1 ≤ xs.length) (b : Prop) : ¬ (HT.sIx xs.length 0 (some 1) = 0 ∧ b) := by
  rw [show HT.sIx xs.length 0 (some 1) = min 1 xs.length from HT.sIx_nat xs.length 0 1, Nat.min_eq_left h]
  exact fun z => absurd z.1 (by decide)
theorem iteNo {c : Bool} {A B : Prop} (h : c = false) (b : B) : if c = true then A else B := by
  rw [h]
  exact iteF b
theorem iteYes {c : Bool} {A B : Prop} (h : c = true) (a : A) : if c = true then A else B := by
  rw [if_pos h]
  exact a
end My

/-! GU: unknowns and relations drawn -/
namespace My
open PySem PySem.Spec PyProof.Rows L2
open TL (tl len_tl tl_append)
def eight : List Str := ["?1", "?2", "?3", "?9", "?10", "?21", "?500", "?99999"]
def spUnks : Sp := fun vs H Q _ => ∃ (d l : Addr) (ns : List Int) (k m : Nat), vs = [.ref d, .int (m : Int)] ∧ m ≤ 8 ∧ Deck H d l ns k ∧ ns.length ≤ 63 ∧ k + 100 < 1073741824 ∧
  ∀ (p : Addr) (xs : List Str) (H' : Hp), xs.length = m → xs.Nodup → (∀ x ∈ xs, x ∈ eight) → H p = none → H' p = some (.lst (xs.map V.str)) → Deck H' d l ns (k + m) → Fr d H H' → Q (.ref p) H'
def spKinds : Sp := fun vs H Q _ => ∃ (d l : Addr) (ns : List Int) (k : Nat), vs = [.ref d] ∧ Deck H d l ns k ∧ ns.length ≤ 63 ∧ k + 200 < 1073741824 ∧
  ∀ (p : Addr) (ks : List (Addr × Str × Nat)) (H' : Hp), 2 ≤ ks.length → ks.length ≤ 3 → (ks.map (·.2.1)).Nodup → (∀ t ∈ ks, KindAt H' t) → H p = none → H' p = some (.lst (ks.map fun t => V.ref t.1)) → Deck H' d l ns (k + 40) → Fr d H H' → Q (.ref p) H'
theorem erase_perm {α : Type} : ∀ {l : List α} {j : Nat} (h : j < l.length), (l[j] :: l.eraseIdx j).Perm l
  | x :: r, 0, _ => List.Perm.refl _
  | x :: r, j + 1, h => by
    have h' : j < r.length := Nat.lt_of_succ_lt_succ h
    show (r[j] :: x :: r.eraseIdx j).Perm (x :: r)
    exact (List.Perm.swap _ _ _).trans ((erase_perm h').cons x)
theorem map_erase {α β : Type} (f : α → β) : ∀ (l : List α) (j : Nat), (l.map f).eraseIdx j = (l.eraseIdx j).map f
  | [], _ => rfl
  | x :: r, 0 => rfl
  | x :: r, j + 1 => congrArg (f x :: ·) (map_erase f r j)
end My

/-! PY: truth of values, sorted texts; the drawn words, unknowns, kinds and stores as data -/
namespace My
open PySem PySem.Spec PyProof.Rows L2
def truthD : PyData → Option Bool
  | .none => some false
  | .bool b => some b
  | .int i => some (i != 0)
  | .str z => if z.length ≤ lim then some ((z.length : Int) != 0) else none
  | .list xs => some (!xs.isEmpty)
  | .tuple xs => some (!xs.isEmpty)
  | .dict _ => none
def bTr (w : ED) : TD := fun ρ n Q => w ρ n fun x n1 => ∃ b, truthD x = some b ∧ Q b n1
section
variable {X : Cx}
theorem rps_empty {K : PySem.W.Frag} {H : Hp} {us : List V} {xs : List PyData} (h : RpAll K H us xs) : us.isEmpty = xs.isEmpty := by
  cases h <;> rfl
theorem qdt_truth {e : Expr} {w : ED} (h : PD X e w) (he : ∀ whole, isTrue e X.env whole = (do let v ← whole; standAt e.pos; holding [v] (truthy v)) := by intro _; rfl) : PDT X e (bTr w) := qdt_mk (pt_truth h he) fun S hw k => rd_W S hw fun v d H1 n1 f1 d1 r1 ⟨b, e, q⟩ => by
  refine ⟨b, ?_, k b H1 n1 f1 d1 q⟩
  cases d with
  | none => cases r1; cases e; rfl
  | bool _ => cases r1; cases e; rfl
  | int _ => cases r1; cases e; rfl
  | str z =>
    cases r1
    obtain ⟨c, e⟩ := ite_some e
    subst e
    exact ⟨Nat.le_trans c lim_le, rfl⟩
  | list xs =>
    cases e
    cases r1 with
    | lst h1 a1 => exact .inl ⟨_, .inl (.inl (hid_le _ _ h1)), by rw [rps_empty a1]⟩
  | tuple xs =>
    cases e
    cases r1 with
    | tup h1 a1 _ => exact .inr (.inl ⟨_, same_seqT hid_le h1, by rw [rps_empty a1]⟩)
  | dict _ => cases e
def sortSD : List PyData → Option PyData
  | [.list xs] => match viewAll vS xs with
    | some ks => if ks.length < 64 then some (.list ((sortU ltS ks).map bS)) else none
    | none => none
  | _ => none
theorem rising_pw : ∀ {ys : List Str} {p : Str}, risingS p ys = true → (p :: ys).Pairwise fun x y => ltS y x = false
  | [], p, _ => List.pairwise_singleton _ _
  | x :: r, p, h => by
    have h' : (!ltCps x.cps.toList p.cps.toList && risingS x r) = true := h
    rw [Bool.and_eq_true, Bool.not_eq_true'] at h'
    have ih := rising_pw (ys := r) (p := x) h'.2
    have e : ltS x p = false := by
      rw [← ltS_eq, ← h'.1]
      exact (ltCps_eq _ _).symm
    refine List.pairwise_cons.mpr ⟨fun y hy => ?_, ih⟩
    rcases List.mem_cons.mp hy with rfl | hy
    · exact e
    · have e2 := (List.pairwise_cons.mp ih).1 y hy
      cases z : ltS y p with
      | false => rfl
      | true =>
        -- y < p, not x < p: then y < x or y = x
        cases k : ltS x y with
        | true =>
          rw [tot_str.trans _ _ _ k z] at e
          cases e
        | false =>
          have w := tot_str.tri _ _ k e2
          subst w
          rw [z] at e
          cases e
theorem sortedS_pw {ys : List Str} (h : sortedS ys = true) : ys.Pairwise fun x y => ltS y x = false := by
  cases ys with
  | nil => exact List.Pairwise.nil
  | cons x r => exact rising_pw h
theorem pu_sortS {K : PySem.W.Frag} : PuN K (rSortedS K) sortSD := by
  intro O H xs ds dz Q dm r e k
  match ds, e with
  | [.list zs], e =>
    have e' : (match viewAll vS zs with
      | some ks => if ks.length < 64 then some (PyData.list ((sortU ltS ks).map bS)) else none
      | none => none) = some dz := e
    cases c : viewAll vS zs with
    | none =>
      rw [c] at e'
      cases e'
    | some ks =>
      rw [c] at e'
      obtain ⟨few, e'⟩ := ite_some e'
      subst e'
      obtain ⟨v, rfl, r1⟩ := rps1 r
      cases r1 with
      | lst h1 a1 =>
      have eu := rps_viewS a1 c
      subst eu
      refine ⟨_, ks, rfl, .inl (.inl (hid_le _ _ h1)), few, fun ys p pm srt np => ?_⟩
      have e2 : ys = sortU ltS ks := sort_uniq tot_str (pm.trans (sortU_perm ks).symm) (sortedS_pw srt) (sortU_srt tot_str ks)
      subst e2
      exact k _ _ (same_new np) (.lst (hid_new dm np) (rps_back _))
end
/-! ### the drawn things -/
theorem frd_fr {D : DkI} {H H' : Hp} (f : Fr D.d H H') : FrD (some D) H H' := fun b o n h => f b o (fun e => n ⟨D, rfl, e⟩) h
theorem dom_fr {D : DkI} {O : Addr → Bool} {n : Nat} {H H' : Hp} (d : Dom O H) (f : FrD (some D) H H') (k : DkOk (some D) n H') : Dom O H' := fun b h => by
  by_cases c : dkA (some D) b
  · exact k.domT c
  · obtain ⟨o, e, t⟩ := d b h
    exact ⟨o, f b o c e, t⟩
def W_pool : List PyData → M PyData := fun ds n Q => ∃ m : Nat, ds = [.int (m : Int)] ∧ m < 8 ∧ n + 100 < 1073741824 ∧ ∀ xs : List Str, xs.length = m → xs.Nodup → (∀ x ∈ xs, Wd x) → Q (.list (xs.map PyData.str)) (n + 9 * m)
def W_unks : List PyData → M PyData := fun ds n Q => ∃ m : Nat, ds = [.int (m : Int)] ∧ m ≤ 8 ∧ n + 100 < 1073741824 ∧ ∀ xs : List Str, xs.length = m → xs.Nodup → (∀ x ∈ xs, x ∈ eight) → Q (.list (xs.map PyData.str)) (n + m)
abbrev Kd := Str × Nat
def kdD (t : Kd) : PyData := .tuple [.str t.1, .int (t.2 : Int)]
def W_kinds : List PyData → M PyData := fun ds n Q => ds = [] ∧ n + 200 < 1073741824 ∧ ∀ ks : List Kd, 2 ≤ ks.length → ks.length ≤ 3 → (ks.map (·.1)).Nodup → (∀ t ∈ ks, Wd t.1 ∧ 0 < t.2 ∧ t.2 ≤ 4) → Q (.list (ks.map kdD)) (n + 40)
/-- a drawn fact of these kinds and values -/
def FcOk (ks : List Kd) (vals : List Str) (k : List Str) : Prop := ∃ (x : Str) (ws : List Str), k = x :: ws ∧ (∃ t ∈ ks, x = t.1 ∧ ws.length = t.2) ∧ ∀ y ∈ ws, y ∈ vals
def stD (L : List (List Str)) : PyData := .tuple (L.map bT')
def W_store : List PyData → M PyData := fun ds n Q => ∃ (ks : List Kd) (vals : List Str) (m : Nat), ds = [.list (ks.map kdD), .list (vals.map PyData.str), .int (m : Int)] ∧ m ≤ 60 ∧ n + 1000 < 1073741824 ∧ ks ≠ [] ∧ ks.length ≤ 10 ∧ (∀ t ∈ ks, Wd t.1 ∧ 0 < t.2 ∧ t.2 ≤ 4) ∧ vals ≠ [] ∧ vals.length ≤ 100 ∧
  ∀ L : List (List Str), L.length ≤ m → (∀ k ∈ L, FcOk ks vals k) → Asc ltK L → Q (stD L) (n + 1 + 10 * m)
section
variable {P : Program} {w : World} {K : PySem.W.Frag} {mg : Str → Option Value} {base : Heap} {f : Addr} {fd : FuncData} {ps : List Str} {k : Nat}
theorem as_draw (G : FnOk P w K mg base CX0 k f fd ps spDraw) : FnOk P w K mg base CX0 k f fd ps (spW K W_draw) := G.imp fun vs H Q E ⟨D, O, n, ds, vs', Qd, e, dm, hd, dok, r, ⟨m, ed, h1, h2, h3, q⟩, k⟩ => by
  subst e ed
  cases r with
  | cons a b =>
  cases a
  cases b
  exact ⟨D.d, D.l, D.ns, n, m, rfl, h1, h2, dok.1, dok.2, h3, fun v H' v0 v1 D' f => k _ _ H' (n + 1) (frd_fr f) ⟨D', dok.2⟩ (.int v) (q v v0 v1)⟩
theorem as_pool (G : FnOk P w K mg base CX0 k f fd ps spPool) : FnOk P w K mg base CX0 k f fd ps (spW K W_pool) := G.imp fun vs H Q E ⟨D, O, n, ds, vs', Qd, e, dm, hd, dok, r, ⟨m, ed, h1, h2, q⟩, k⟩ => by
  subst e ed
  cases r with
  | cons a b =>
  cases a
  cases b
  exact ⟨D.d, D.l, D.ns, n, m, rfl, h1, dok.1, dok.2, h2, fun p xs H' a1 a2 a3 np hp D' f => k _ _ H' (n + 9 * m) (frd_fr f) ⟨D', dok.2⟩ (.lst (hid_at (dm.new np) hp) (rps_back xs)) (q xs a1 a2 a3)⟩
theorem as_unks (G : FnOk P w K mg base CX0 k f fd ps spUnks) : FnOk P w K mg base CX0 k f fd ps (spW K W_unks) := G.imp fun vs H Q E ⟨D, O, n, ds, vs', Qd, e, dm, hd, dok, r, ⟨m, ed, h1, h2, q⟩, k⟩ => by
  subst e ed
  cases r with
  | cons a b =>
  cases a
  cases b
  exact ⟨D.d, D.l, D.ns, n, m, rfl, h1, dok.1, dok.2, h2, fun p xs H' a1 a2 a3 np hp D' f => k _ _ H' (n + m) (frd_fr f) ⟨D', dok.2⟩ (.lst (hid_at (dm.new np) hp) (rps_back xs)) (q xs a1 a2 a3)⟩
theorem rps_kinds {O : Addr → Bool} {H : Hp} (dm : Dom O H) : ∀ {ks : List (Addr × Str × Nat)}, (∀ t ∈ ks, KindAt H t) → RpAll K (hid O H) (ks.map fun t => V.ref t.1) ((ks.map (·.2)).map kdD)
  | [], _ => .nil
  | t :: r, h => .cons (.tup (.inl (.inl (hid_at (dm.tup (h t List.mem_cons_self).1) (h t List.mem_cons_self).1))) (.cons (.str _) (.cons (.int _) .nil)) fun c => by cases c) (rps_kinds dm fun z m => h z (List.mem_cons_of_mem _ m))
theorem as_kinds (G : FnOk P w K mg base CX0 k f fd ps spKinds) : FnOk P w K mg base CX0 k f fd ps (spW K W_kinds) := G.imp fun vs H Q E ⟨D, O, n, ds, vs', Qd, e, dm, hd, dok, r, ⟨ed, h2, q⟩, k⟩ => by
  subst e ed
  cases r
  refine ⟨D.d, D.l, D.ns, n, rfl, dok.1, dok.2, h2, fun p ks H' a1 a2 a3 a4 np hp D' f => ?_⟩
  have dok' : DkOk (some D) (n + 40) H' := ⟨D', dok.2⟩
  have dm' := dom_fr dm (frd_fr f) dok'
  refine k _ _ H' (n + 40) (frd_fr f) dok' (.lst (hid_at (dm.new np) hp) (rps_kinds dm' a4)) (q (ks.map (·.2)) (by rw [List.length_map]; exact a1) (by rw [List.length_map]; exact a2) (by rw [List.map_map]; exact a3) fun t ht => ?_)
  obtain ⟨z, hz, rfl⟩ := List.mem_map.mp ht
  exact (a4 z hz).2
theorem rps_kd {H : Hp} : ∀ {us : List V} {ks : List Kd}, RpAll K H us (ks.map kdD) → ∃ L : List (Addr × Str × Nat), us = L.map (fun t => V.ref t.1) ∧ L.map (·.2) = ks ∧ ∀ t ∈ L, SqT K H t.1 [.str t.2.1, .int (t.2.2 : Int)]
  | us, [], h => by
    cases h
    exact ⟨[], rfl, rfl, fun t h => nomatch h⟩
  | us, t :: r, h => by
    cases h with
    | cons h1 h2 =>
    obtain ⟨L, e1, e2, e3⟩ := rps_kd h2
    cases h1 with
    | @tup a xs _ hs ha _ =>
    cases ha with
    | cons b1 b2 =>
    cases b1
    cases b2 with
    | cons c1 c2 =>
    cases c1
    cases c2
    refine ⟨(a, t) :: L, by rw [e1, List.map_cons], by rw [List.map_cons, e2], fun z hz => ?_⟩
    rcases List.mem_cons.mp hz with rfl | hz
    · exact hs
    · exact e3 z hz
end
end My

/-! PZ: promises by what is asked of the answer; loops by invariants -/
namespace My
open PySem PySem.Spec PyProof.Rows L2
abbrev QM := List PyData → (PyData → Prop) → Prop
def spQ (K : PySem.W.Frag) (W : QM) : Sp := fun vs H Q _ => ∃ (O : Addr → Bool) (ds : List PyData) (Qd : PyData → Prop), Dom O H ∧ RpAll K (hid O H) vs ds ∧ W ds Qd ∧ ∀ v d H', Same H H' → Rp K (hid O H') v d → Qd d → Q v H'
def eCallQ (W : QM) (ws : AD) : ED := fun ρ n Q => ws ρ n fun xs n1 => W xs fun d => Q d n1
theorem rd_callQ {K : PySem.W.Frag} {W : QM} {ts : TA} {ws : AD} {E : XK} (hs : RdA K ts ws) : RdE K (tCall (spQ K W) [] E ts) (eCallQ W ws) := fun {dk OB H0 O H σ ρ n Q Qd} S hw k =>
  hs S hw fun vs ds H1 n1 f1 d1 r1 q => ⟨O, ds, fun d => Qd d n1, (S.step f1 d1).dom, by rw [List.append_nil]; exact r1, q, fun v d H' s r q' => k v d H' n1 (f1.trans (FrD.of s)) (d1.same s) r q'⟩
theorem qd_callQ {X : Cx} {CX : CXT} {k : Nat} {f : Addr} {fd : FuncData} {ps : List Str} {W : QM} {x : Str} {e : Expr} {es : List Expr} {ws : AD} {p pos : Pos} {E : XK} (G : FnOk X.prog X.w X.K X.mg X.base CX k f fd ps (spQ X.K W)) (hr : Room k X.A) (hg : Gl X x) (hm : X.mg x = some (.ref f))
    (hk : PySem.W.keepIn X.K (.ref f) = true) (hb : Binds X.K fd ps []) (hx : Passes CX X E) (ha : PDA X (e :: es) ws) (hdb : (x == ("__debug__" : Str)) = false := by decide) (he : starEach (e :: es) X.env = (false, eval e X.env) :: starEach es X.env := by rfl) (hpl : (backTo pos (starEach es X.env)).any (·.1) = false := by rfl) :
    PD X (.Call (.Name x p) (e :: es) [] pos) (eCallQ W ws) := qd_mk (pe_call G hr hg hm hk hb .nil hx ha hdb he hpl) (rd_callQ rda_W)
/-- where a def ends: what is asked of the answer -/
def endQ (Qd : PyData → Prop) : EndsD := ⟨fun _ _ => Qd .none, fun x _ => Qd x, fun _ _ => False, fun _ _ => False⟩
theorem fn_okQ {P : Program} {w : World} {K : PySem.W.Frag} {mg : Str → Option Value} {base : Heap} {x qual : Str} {st : Stmt} {f : Addr} {fd : FuncData} {N ps : List Str} {k : Nat} {Wd : QM} {W : SD} (F : Fun K x qual st f fd) (S : FnScope N ps (defScope st))
    (hw : ∀ (cdv : Value) (A : Around) (outer : List Env) (s : Shared) (H : Hp) (E : XK), Room k (A.deeper (envOfC qual (defScope st) s.heap.objs.size f cdv)) → PSDs (cxOf CX0 P w K mg base N qual (defScope st) f cdv A outer s H E).nox (defBody st) W)
    (hl : ∀ ds Qd, Wd ds Qd → ds.length = ps.length) (hF : ∀ ds Qd, Wd ds Qd → W (startD N ds) 0 (endQ Qd)) : FnOk P w K mg base CX0 (k + 1) f fd ps (spQ K Wd) := by
  refine F.ok S (fun vs H Q E h => ?_) (fun cdv A outer s H vs Q E hr h => ?_)
  · obtain ⟨O, ds, Qd, _, r, e, _⟩ := h
    rw [r.len]
    exact hl ds Qd e
  · obtain ⟨O, ds, Qd, dm, r, e, q⟩ := h
    refine ⟨_, hw cdv A outer s H E hr, none, O, H, O, _, 0, endQ Qd, str_start N dm r, hF ds Qd e, ?_⟩
    exact ⟨fun O' H' σ' ρ' n' S' s' z => q .non .none H' (FrD.same S'.fr) .non z, fun v d' H' n' f1 _ r1 z => q v d' H' (FrD.same f1) r1 z, fun _ _ _ _ _ _ _ z => z.elim, fun _ _ _ _ _ _ _ z => z.elim⟩
/-! ### loops by invariants, in the style of what follows -/
theorem for_inv {g : GD} {b : SD} {E : EndsD} (xs : List PyData) (I : Nat → DEnv → Nat → Prop)
    (step : ∀ (i : Nat) (x : PyData) (ρ : DEnv) (n : Nat) (E' : EndsD), xs[i]? = some x → I i ρ n → (∀ ρ' n', I (i + 1) ρ' n' → E'.nx ρ' n') → (∀ ρ' n', I (i + 1) ρ' n' → E'.ct ρ' n') → E'.rt = E.rt → E'.bk = E.nx → ∃ ρ', g x ρ = some ρ' ∧ b ρ' n E')
    (last : ∀ ρ n, I xs.length ρ n → E.nx ρ n) {ρ : DEnv} {n : Nat} (h0 : I 0 ρ n) : sFor1 g b xs ρ n E := by
  have main : ∀ (k i : Nat) (ρ : DEnv) (n : Nat), xs.length = i + k → I i ρ n → sFor1 g b (xs.drop i) ρ n E := by
    intro k
    induction k with
    | zero =>
      intro i ρ n e h
      rw [List.drop_eq_nil_of_le (by omega)]
      exact last ρ n (by rw [e]; exact h)
    | succ k ih =>
      intro i ρ n e h
      have l : i < xs.length := by omega
      rw [List.drop_eq_getElem_cons l]
      exact step i xs[i] ρ n _ (List.getElem?_eq_getElem l) h (fun ρ' n' h' => ih (i + 1) ρ' n' (by omega) h') (fun ρ' n' h' => ih (i + 1) ρ' n' (by omega) h') rfl rfl
  exact main xs.length 0 ρ n (by omega) h0
theorem lc_inv {g : GD} {p : TD} {e : ED} {ρ0 : DEnv} {Q : List PyData → Nat → Prop} (xs : List PyData) (I : Nat → List PyData → Nat → Prop)
    (step : ∀ (i : Nat) (x : PyData) (acc : List PyData) (n : Nat) (K : List PyData → Nat → Prop), xs[i]? = some x → I i acc n → (∀ acc' n', I (i + 1) acc' n' → K acc' n') → ∃ ρ', g x ρ0 = some ρ' ∧ p ρ' n fun b n1 => if b = true then e ρ' n1 fun y n2 => K (acc ++ [y]) n2 else K acc n1)
    (last : ∀ acc n, I xs.length acc n → Q acc n) {acc : List PyData} {n : Nat} (h0 : I 0 acc n) : lcD g p e ρ0 xs acc n Q := by
  have main : ∀ (k i : Nat) (acc : List PyData) (n : Nat), xs.length = i + k → I i acc n → lcD g p e ρ0 (xs.drop i) acc n Q := by
    intro k
    induction k with
    | zero =>
      intro i acc n e h
      rw [List.drop_eq_nil_of_le (by omega)]
      exact last acc n (by rw [e]; exact h)
    | succ k ih =>
      intro i acc n e h
      have l : i < xs.length := by omega
      rw [List.drop_eq_getElem_cons l]
      exact step i xs[i] acc n (fun a m => lcD g p _ ρ0 (xs.drop (i + 1)) a m Q) (List.getElem?_eq_getElem l) h fun acc' n' h' => ih (i + 1) acc' n' (by omega) h'
  exact main xs.length 0 acc n (by omega) h0
theorem loop_inv {α : Type} {g : GD} {p : TD} {body : DEnv → α → M α} {ρ0 : DEnv} {Q : α → Nat → Prop} (xs : List PyData) (I : Nat → α → Nat → Prop)
    (step : ∀ (i : Nat) (x : PyData) (a : α) (n : Nat) (K : α → Nat → Prop), xs[i]? = some x → I i a n → (∀ a' n', I (i + 1) a' n' → K a' n') → ∃ ρ', g x ρ0 = some ρ' ∧ p ρ' n fun b n1 => if b = true then body ρ' a n1 K else K a n1)
    (last : ∀ a n, I xs.length a n → Q a n) {a : α} {n : Nat} (h0 : I 0 a n) : loopD g p body ρ0 xs a n Q := by
  have main : ∀ (k i : Nat) (a : α) (n : Nat), xs.length = i + k → I i a n → loopD g p body ρ0 (xs.drop i) a n Q := by
    intro k
    induction k with
    | zero =>
      intro i a n e h
      rw [List.drop_eq_nil_of_le (by omega)]
      exact last a n (by rw [e]; exact h)
    | succ k ih =>
      intro i a n e h
      have l : i < xs.length := by omega
      rw [List.drop_eq_getElem_cons l]
      exact step i xs[i] a n (fun a m => loopD g p body ρ0 (xs.drop (i + 1)) a m Q) (List.getElem?_eq_getElem l) h fun a' n' h' => ih (i + 1) a' n' (by omega) h'
  exact main xs.length 0 a n (by omega) h0
section
variable {X : Cx}
theorem qs_setLc2 {i : Nat} {y : Str} {py : Pos} {elt tg iter tg1 iter1 : Expr} {ifs ifs1 : List Expr} {scope : Scope} {own : List (Str × Nat)} {vs1 : List Nat} {pos spos : Pos} {it it1 : AD} {g g1 : GD} {p p1 : TD} {e : ED} {vs w1 : List Nat} (hc : X.calm = true) (hN : X.N.Nodup) (hy : X.N[i]? = some y) (hyl : X.env.scope.names.lookup y = some .local)
    (hsw : swapsWith (.ListComp elt [⟨tg, iter, ifs, 0⟩, ⟨tg1, iter1, ifs1, 0⟩] scope pos) (some (.Name y py)) spos.line X.env = pure true) (hi : PDI X tg iter it) (ok : BlkOk X.N X.env.scope scope own) (hv : ∀ i ∈ vs1, i ∈ own.map (·.2))
    (hvs : ∀ i ∈ vs, i ∈ own.map (·.2)) (hw1 : ∀ i ∈ w1, i ∈ vs1) (gp : GPure g) (gp1 : GPure g1)
    (hg : ∀ (s : Shared) (H : Hp) (C : Addr) (cl : List (Str × Addr)) (fp : List Addr), PDG (X.blk s H scope (compEnvC scope cl C X.env) fp) tg vs g) (ht : ∀ (s : Shared) (H : Hp) (C : Addr) (cl : List (Str × Addr)) (fp : List Addr), PTs (X.blk s H scope (compEnvC scope cl C X.env) fp) ifs (tWT X.K p))
    (hi1 : ∀ (s : Shared) (H : Hp) (C : Addr) (cl : List (Str × Addr)) (fp : List Addr), PDI (X.blk s H scope (compEnvC scope cl C X.env) fp) tg1 iter1 it1)
    (hg1 : ∀ (s : Shared) (H : Hp) (C : Addr) (cl : List (Str × Addr)) (fp : List Addr), PDG (X.blk s H scope (compEnvC scope cl C X.env) fp) tg1 w1 g1) (ht1 : ∀ (s : Shared) (H : Hp) (C : Addr) (cl : List (Str × Addr)) (fp : List Addr), PTs (X.blk s H scope (compEnvC scope cl C X.env) fp) ifs1 (tWT X.K p1))
    (he : ∀ (s : Shared) (H : Hp) (C : Addr) (cl : List (Str × Addr)) (fp : List Addr), PD (X.blk s H scope (compEnvC scope cl C X.env) fp) elt e) (hs : ∀ x, foldedSetIterable iter X.env x = pure x := by intro _; rfl) (hs1 : ∀ env x, foldedSetIterable iter1 env x = pure x := by intro _ _; rfl) :
    PSD X (.Assign [.Name y py] (.ListComp elt [⟨tg, iter, ifs, 0⟩, ⟨tg1, iter1, ifs1, 0⟩] scope pos) spos) (sSet i (eLc2 it g p it1 g1 p1 e (own.map (·.2)) vs1)) := qs_mk (ps_setLc2 hc hN hy hyl hsw hi ok hv hg ht hi1 hg1 ht1 he hs hs1) fun S hw k => rd_lc2 hvs hw1 gp gp1 S hw fun v d H1 n1 f1 d1 r1 q1 =>
  k.nx _ _ _ _ _ ((S.step f1 d1).set r1) (S.hid f1) q1
theorem qd_sort1S {elt tg iter : Expr} {ifs : List Expr} {scope : Scope} {own : List (Str × Nat)} {p1 pos pos2 : Pos} {it : AD} {g : GD} {p : TD} {e : ED} {vs : List Nat} (hg0 : Gl X "sorted") (hm0 : X.mg "sorted" = none) (hc : X.calm = true) (hN : X.N.Nodup) (hu : X.A.units + 64 < cLine) (hi : PDI X tg iter it) (ok : BlkOk X.N X.env.scope scope own) (hvs : ∀ i ∈ vs, i ∈ own.map (·.2))
    (hg : ∀ (s : Shared) (H : Hp) (C : Addr) (cl : List (Str × Addr)) (fp : List Addr), PDG (X.blk s H scope (compEnvC scope cl C X.env) fp) tg vs g) (ht : ∀ (s : Shared) (H : Hp) (C : Addr) (cl : List (Str × Addr)) (fp : List Addr), PTs (X.blk s H scope (compEnvC scope cl C X.env) fp) ifs (tWT X.K p))
    (he : ∀ (s : Shared) (H : Hp) (C : Addr) (cl : List (Str × Addr)) (fp : List Addr), PD (X.blk s H scope (compEnvC scope cl C X.env) fp) elt e) (hs : ∀ x, foldedSetIterable iter X.env x = pure x := by intro _; rfl)
    (h1 : starEach [.SetComp elt [⟨tg, iter, ifs, 0⟩] scope pos] X.env = (false, eval (.SetComp elt [⟨tg, iter, ifs, 0⟩] scope pos) X.env) :: starEach [] X.env := by rfl) :
    PD X (.Call (.Name "sorted" p1) [.SetComp elt [⟨tg, iter, ifs, 0⟩] scope pos] [] pos2) (eSort bS ltS it g p (putW vS e) (own.map (·.2))) :=
  qd_sort1 (skS X.prog X.w X.K) hg0 hm0 hc hN hu hi ok hvs hg ht he hs h1
theorem qd_sort1T {elt tg iter : Expr} {ifs : List Expr} {scope : Scope} {own : List (Str × Nat)} {p1 pos pos2 : Pos} {it : AD} {g : GD} {p : TD} {e : ED} {vs : List Nat} (hg0 : Gl X "sorted") (hm0 : X.mg "sorted" = none) (hc : X.calm = true) (hN : X.N.Nodup) (hu : X.A.units + 64 < cLine) (hi : PDI X tg iter it) (ok : BlkOk X.N X.env.scope scope own) (hvs : ∀ i ∈ vs, i ∈ own.map (·.2))
    (hg : ∀ (s : Shared) (H : Hp) (C : Addr) (cl : List (Str × Addr)) (fp : List Addr), PDG (X.blk s H scope (compEnvC scope cl C X.env) fp) tg vs g) (ht : ∀ (s : Shared) (H : Hp) (C : Addr) (cl : List (Str × Addr)) (fp : List Addr), PTs (X.blk s H scope (compEnvC scope cl C X.env) fp) ifs (tWT X.K p))
    (he : ∀ (s : Shared) (H : Hp) (C : Addr) (cl : List (Str × Addr)) (fp : List Addr), PD (X.blk s H scope (compEnvC scope cl C X.env) fp) elt e) (hs : ∀ x, foldedSetIterable iter X.env x = pure x := by intro _; rfl)
    (h1 : starEach [.SetComp elt [⟨tg, iter, ifs, 0⟩] scope pos] X.env = (false, eval (.SetComp elt [⟨tg, iter, ifs, 0⟩] scope pos) X.env) :: starEach [] X.env := by rfl) :
    PD X (.Call (.Name "sorted" p1) [.SetComp elt [⟨tg, iter, ifs, 0⟩] scope pos] [] pos2) (eSort bT' ltK it g p (putW vT e) (own.map (·.2))) :=
  qd_sort1 (skT X.prog X.w X.K) hg0 hm0 hc hN hu hi ok hvs hg ht he hs h1
theorem qd_sort2S {elt tg iter tg1 iter1 : Expr} {ifs ifs1 : List Expr} {scope : Scope} {own : List (Str × Nat)} {vs1 : List Nat} {q1 pos pos2 : Pos} {it it1 : AD} {g g1 : GD} {p p1 : TD} {e : ED} {vs w1 : List Nat} (hg0 : Gl X "sorted") (hm0 : X.mg "sorted" = none) (hc : X.calm = true) (hN : X.N.Nodup) (hu : X.A.units + 64 < cLine) (hi : PDI X tg iter it) (ok : BlkOk X.N X.env.scope scope own)
    (hv : ∀ i ∈ vs1, i ∈ own.map (·.2)) (hvs : ∀ i ∈ vs, i ∈ own.map (·.2)) (hw1 : ∀ i ∈ w1, i ∈ vs1)
    (hg : ∀ (s : Shared) (H : Hp) (C : Addr) (cl : List (Str × Addr)) (fp : List Addr), PDG (X.blk s H scope (compEnvC scope cl C X.env) fp) tg vs g) (ht : ∀ (s : Shared) (H : Hp) (C : Addr) (cl : List (Str × Addr)) (fp : List Addr), PTs (X.blk s H scope (compEnvC scope cl C X.env) fp) ifs (tWT X.K p))
    (hi1 : ∀ (s : Shared) (H : Hp) (C : Addr) (cl : List (Str × Addr)) (fp : List Addr), PDI (X.blk s H scope (compEnvC scope cl C X.env) fp) tg1 iter1 it1)
    (hg1 : ∀ (s : Shared) (H : Hp) (C : Addr) (cl : List (Str × Addr)) (fp : List Addr), PDG (X.blk s H scope (compEnvC scope cl C X.env) fp) tg1 w1 g1) (ht1 : ∀ (s : Shared) (H : Hp) (C : Addr) (cl : List (Str × Addr)) (fp : List Addr), PTs (X.blk s H scope (compEnvC scope cl C X.env) fp) ifs1 (tWT X.K p1))
    (he : ∀ (s : Shared) (H : Hp) (C : Addr) (cl : List (Str × Addr)) (fp : List Addr), PD (X.blk s H scope (compEnvC scope cl C X.env) fp) elt e) (hs : ∀ x, foldedSetIterable iter X.env x = pure x := by intro _; rfl) (hs1 : ∀ env x, foldedSetIterable iter1 env x = pure x := by intro _ _; rfl)
    (h1 : starEach [.SetComp elt [⟨tg, iter, ifs, 0⟩, ⟨tg1, iter1, ifs1, 0⟩] scope pos] X.env = (false, eval (.SetComp elt [⟨tg, iter, ifs, 0⟩, ⟨tg1, iter1, ifs1, 0⟩] scope pos) X.env) :: starEach [] X.env := by rfl) :
    PD X (.Call (.Name "sorted" q1) [.SetComp elt [⟨tg, iter, ifs, 0⟩, ⟨tg1, iter1, ifs1, 0⟩] scope pos] [] pos2) (eSort bS ltS it g p (twoW it1 g1 p1 (putW vS e) vs1) (own.map (·.2))) :=
  qd_sort2 (skS X.prog X.w X.K) hg0 hm0 hc hN hu hi ok hv hvs hw1 hg ht hi1 hg1 ht1 he hs hs1 h1
theorem qd_sort2T {elt tg iter tg1 iter1 : Expr} {ifs ifs1 : List Expr} {scope : Scope} {own : List (Str × Nat)} {vs1 : List Nat} {q1 pos pos2 : Pos} {it it1 : AD} {g g1 : GD} {p p1 : TD} {e : ED} {vs w1 : List Nat} (hg0 : Gl X "sorted") (hm0 : X.mg "sorted" = none) (hc : X.calm = true) (hN : X.N.Nodup) (hu : X.A.units + 64 < cLine) (hi : PDI X tg iter it) (ok : BlkOk X.N X.env.scope scope own)
    (hv : ∀ i ∈ vs1, i ∈ own.map (·.2)) (hvs : ∀ i ∈ vs, i ∈ own.map (·.2)) (hw1 : ∀ i ∈ w1, i ∈ vs1)
    (hg : ∀ (s : Shared) (H : Hp) (C : Addr) (cl : List (Str × Addr)) (fp : List Addr), PDG (X.blk s H scope (compEnvC scope cl C X.env) fp) tg vs g) (ht : ∀ (s : Shared) (H : Hp) (C : Addr) (cl : List (Str × Addr)) (fp : List Addr), PTs (X.blk s H scope (compEnvC scope cl C X.env) fp) ifs (tWT X.K p))
    (hi1 : ∀ (s : Shared) (H : Hp) (C : Addr) (cl : List (Str × Addr)) (fp : List Addr), PDI (X.blk s H scope (compEnvC scope cl C X.env) fp) tg1 iter1 it1)
    (hg1 : ∀ (s : Shared) (H : Hp) (C : Addr) (cl : List (Str × Addr)) (fp : List Addr), PDG (X.blk s H scope (compEnvC scope cl C X.env) fp) tg1 w1 g1) (ht1 : ∀ (s : Shared) (H : Hp) (C : Addr) (cl : List (Str × Addr)) (fp : List Addr), PTs (X.blk s H scope (compEnvC scope cl C X.env) fp) ifs1 (tWT X.K p1))
    (he : ∀ (s : Shared) (H : Hp) (C : Addr) (cl : List (Str × Addr)) (fp : List Addr), PD (X.blk s H scope (compEnvC scope cl C X.env) fp) elt e) (hs : ∀ x, foldedSetIterable iter X.env x = pure x := by intro _; rfl) (hs1 : ∀ env x, foldedSetIterable iter1 env x = pure x := by intro _ _; rfl)
    (h1 : starEach [.SetComp elt [⟨tg, iter, ifs, 0⟩, ⟨tg1, iter1, ifs1, 0⟩] scope pos] X.env = (false, eval (.SetComp elt [⟨tg, iter, ifs, 0⟩, ⟨tg1, iter1, ifs1, 0⟩] scope pos) X.env) :: starEach [] X.env := by rfl) :
    PD X (.Call (.Name "sorted" q1) [.SetComp elt [⟨tg, iter, ifs, 0⟩, ⟨tg1, iter1, ifs1, 0⟩] scope pos] [] pos2) (eSort bT' ltK it g p (twoW it1 g1 p1 (putW vT e) vs1) (own.map (·.2))) :=
  qd_sort2 (skT X.prog X.w X.K) hg0 hm0 hc hN hu hi ok hv hvs hw1 hg ht hi1 hg1 ht1 he hs hs1 h1
end
end My

/-! PV: dicts over data -/
namespace My
open PySem PySem.Spec PyProof.Rows L2
abbrev DKv := List (PyData × PyData)
def keyOf : PyData → Option Key
  | .int i => some (.inl i)
  | .str x => some (.inr x)
  | _ => none
def hasK (p : PyData × PyData) (k : Key) : Bool := decide (keyOf p.1 = some k)
def valD (ds : DKv) (k : Key) : Option PyData := (ds.find? fun p => hasK p k).map (·.2)
def putD (ds : DKv) (k : Key) (x : PyData) : DKv := if (ds.any fun p => hasK p k) = true then ds.map (fun p => if hasK p k = true then (p.1, x) else p) else ds ++ [(kD k, x)]
def mergeD (ds more : DKv) : DKv := more.foldl (fun acc p => match keyOf p.1 with
  | some k => putD acc k p.2
  | none => acc) ds
theorem keyOf_kD (k : Key) : keyOf (kD k) = some k := by cases k <;> rfl
theorem hasK_kD (k0 k : Key) (d : PyData) : hasK (kD k0, d) k = decide (k0 = k) := by
  unfold hasK
  rw [keyOf_kD]
  exact decide_eq_decide.mpr ⟨Option.some.inj, fun e => by rw [e]⟩
section
variable {K : PySem.W.Frag} {H : Hp}
theorem keyOf_V {v : V} {d : PyData} {k : Key} (r : Rp K H v d) (e : keyOf d = some k) : v = kV k := by
  cases d with
  | int i => cases r; cases e; rfl
  | str x => cases r; cases e; rfl
  | none => cases e
  | bool _ => cases e
  | list _ => cases e
  | tuple _ => cases e
  | dict _ => cases e
theorem kvs_len : ∀ {ds : DKv} {kvs : List (Key × V)}, RpKvs K H kvs ds → kvs.length = ds.length
  | [], _, h => by cases h; rfl
  | _ :: ds, _, h => by
    cases h with
    | cons h1 h2 => rw [List.length_cons, List.length_cons, kvs_len h2]
theorem kvs_val (k : Key) : ∀ {ds : DKv} {kvs : List (Key × V)}, RpKvs K H kvs ds → (valV kvs k = none ∧ valD ds k = none) ∨ ∃ v d, valV kvs k = some v ∧ valD ds k = some d ∧ Rp K H v d
  | [], _, h => by cases h; exact .inl ⟨rfl, rfl⟩
  | _ :: ds, _, h => by
    cases h with
    | @cons k0 v kvs d ds h1 h2 =>
    have ef : valD ((kD k0, d) :: ds) k = if k0 = k then some d else valD ds k := by
      unfold valD
      rw [List.find?_cons, hasK_kD]
      by_cases e : k0 = k
      · rw [decide_eq_true e, if_pos e]
        rfl
      · rw [decide_eq_false e, if_neg e]
    by_cases e : k0 = k
    · exact .inr ⟨v, d, valV_pos e, by rw [ef, if_pos e], h1⟩
    · rw [ef, if_neg e, valV_neg (p := (k0, v)) e]
      exact kvs_val k h2
theorem kvs_any (k : Key) : ∀ {ds : DKv} {kvs : List (Key × V)}, RpKvs K H kvs ds → (kvs.any fun kv => decide (kv.1 = k)) = ds.any fun p => hasK p k
  | [], _, h => by cases h; rfl
  | _ :: ds, _, h => by
    cases h with
    | @cons k0 v kvs d ds h1 h2 => rw [List.any_cons, List.any_cons, kvs_any k h2, hasK_kD]
theorem kvs_snoc {k : Key} {v : V} {x : PyData} (r : Rp K H v x) : ∀ {ds : DKv} {kvs : List (Key × V)}, RpKvs K H kvs ds → RpKvs K H (kvs ++ [(k, v)]) (ds ++ [(kD k, x)])
  | [], _, h => by cases h; exact .cons r .nil
  | _ :: ds, _, h => by
    cases h with
    | cons h1 h2 => exact .cons h1 (kvs_snoc r h2)
theorem kvs_map {k : Key} {v : V} {x : PyData} (r : Rp K H v x) : ∀ {ds : DKv} {kvs : List (Key × V)}, RpKvs K H kvs ds → RpKvs K H (kvs.map fun kv => if kv.1 = k then (kv.1, v) else kv) (ds.map fun p => if hasK p k = true then (p.1, x) else p)
  | [], _, h => by cases h; exact .nil
  | _ :: ds, _, h => by
    cases h with
    | @cons k0 v0 kvs d ds h1 h2 =>
    rw [List.map_cons, List.map_cons, hasK_kD]
    by_cases e : k0 = k
    · rw [decide_eq_true e, if_pos e, if_pos rfl]
      exact .cons r (kvs_map r h2)
    · rw [decide_eq_false e, if_neg e, if_neg Bool.false_ne_true]
      exact .cons h1 (kvs_map r h2)
theorem kvs_put {k : Key} {v : V} {x : PyData} (r : Rp K H v x) {ds : DKv} {kvs : List (Key × V)} (h : RpKvs K H kvs ds) : RpKvs K H (putK kvs k v) (putD ds k x) := by
  unfold putK putD
  rw [kvs_any k h]
  split
  · exact kvs_map r h
  · exact kvs_snoc r h
end
/-! ### reading a dict that is data -/
def eGet (wo we wf : ED) : ED := fun ρ n Q => wo ρ n fun o n1 => ∃ ds, o = .dict ds ∧ we ρ n1 fun y n2 => wf ρ n2 fun z n3 => ∃ k, keyOf y = some k ∧ Q ((valD ds k).getD z) n3
theorem rd_get {K : PySem.W.Frag} {wo we wf : ED} : RdE K (tDGet2 (tW K wo) (tW K we) (tW K wf)) (eGet wo we wf) := fun {dk OB H0 O H σ ρ n Q Qd} S hw k => rd_W S hw fun v o H1 n1 f1 d1 r1 ⟨ds, eo, q1⟩ => by
  subst eo
  cases r1 with
  | @dic a ob kvs _ h1 a1 =>
  refine ⟨a, rfl, .inl ⟨kvs, .inr ⟨ob, hid_le _ _ h1⟩⟩, rd_W (S.step f1 d1) q1 fun y dy H2 n2 f2 d2 r2 q2 => rd_W (S.step (f1.trans f2) d2) q2 fun z dz H3 n3 f3 d3 r3 ⟨key, ek, q3⟩ => ?_⟩
  have s := hid_fr S.dO (f2.trans f3)
  have h3 := s _ _ h1
  refine ⟨valV kvs key, by rw [keyOf_V r2 ek]; exact .inl ⟨kvs, key, .inr ⟨ob, hid_le _ _ h3⟩, rfl, rfl⟩, ?_⟩
  rcases kvs_val key (RpKvs.same s _ _ a1) with ⟨e1, e2⟩ | ⟨u, d, e1, e2, r⟩
  · rw [e1]
    rw [e2] at q3
    exact k _ _ H3 n3 (f1.trans (f2.trans f3)) d3 r3 q3
  · rw [e1]
    rw [e2] at q3
    exact k _ _ H3 n3 (f1.trans (f2.trans f3)) d3 r q3
def ixKD : PyData → PyData → Option PyData
  | .dict ds, y => (keyOf y).bind (valD ds)
  | _, _ => none
def rIxK : R2 := fun x y H Q => ∃ a v, x = .ref a ∧ DGet H a y (some v) ∧ Q v H
theorem pu_ixK {K : PySem.W.Frag} : Pu2 K rIxK ixKD := by
  intro O H x y dx dy dz Q dm rx ry e k
  cases dx with
  | dict ds =>
    obtain ⟨key, ek, e2⟩ := Option.bind_eq_some_iff.mp e
    cases rx with
    | @dic a ob kvs _ h1 a1 =>
    rcases kvs_val key a1 with ⟨_, z⟩ | ⟨u, d, e1, e3, r⟩
    · rw [z] at e2
      cases e2
    · rw [e3] at e2
      cases e2
      refine ⟨a, u, rfl, ?_, k u H (Same.refl _) r⟩
      rw [keyOf_V ry ek, ← e1]
      exact .inl ⟨kvs, key, .inr ⟨ob, hid_le _ _ h1⟩, rfl, rfl⟩
  | _ => cases e
/-- in, not in -/
def inKD (neg : Bool) (x y : PyData) : Option PyData := match y with
  | .dict ds => (keyOf x).map fun k => .bool (if neg = true then !(valD ds k).isSome else (valD ds k).isSome)
  | _ => none
def rInK (neg : Bool) : R2 := fun y x H Q => ∃ a o, x = .ref a ∧ DGet H a y o ∧ Q (.bl (if neg = true then !Option.isSome o else Option.isSome o)) H
theorem pu_inK {K : PySem.W.Frag} {neg : Bool} : Pu2 K (rInK neg) (inKD neg) := by
  intro O H x y dx dy dz Q dm rx ry e k
  cases dy with
  | dict ds =>
    obtain ⟨key, ek, e2⟩ := Option.map_eq_some_iff.mp e
    cases ry with
    | @dic a ob kvs _ h1 a1 =>
    refine ⟨a, valV kvs key, rfl, by rw [keyOf_V rx ek]; exact .inl ⟨kvs, key, .inr ⟨ob, hid_le _ _ h1⟩, rfl, rfl⟩, ?_⟩
    have es : (valV kvs key).isSome = (valD ds key).isSome := by
      rcases kvs_val key a1 with ⟨z1, z2⟩ | ⟨u, d, e1, e3, r⟩
      · rw [z1, z2]
        rfl
      · rw [e1, e3]
        rfl
    rw [es]
    subst e2
    exact k _ H (Same.refl _) (.bl _)
  | _ => cases e
section
variable {X : Cx}
theorem qd_get {o e f : Expr} {wo we wf : ED} {apos cpos : Pos} (hu : X.A.units + 64 < cLine) (ho : PD X o wo) (he : PD X e we) (hf : PD X f wf) (m : M2 X o "get" apos e f cpos := by exact ⟨rfl, rfl, rfl, rfl⟩) : PD X (.Call (.Attribute o "get" apos) [e, f] [] cpos) (eGet wo we wf) :=
  qd_mk (pe_dget2 (by omega) ho he hf m) rd_get
theorem qd_ixK {a b : Expr} {wa wb : ED} {pos : Pos} (hu : X.A.units + 64 < cLine) (ha : PD X a wa) (hb : PD X b wb) (hs : NoSl b := by exact fun _ _ => rfl) : PD X (.Subscript a b pos) (eOp ixKD wa wb) :=
  qd_mk (t := tOp rIxK (tW X.K wa) (tW X.K wb)) (pe_dget (by omega) ha hb hs) (rd_op pu_ixK)
theorem qd_inK {a b : Expr} {wa wb : ED} {pos : Pos} (hu : X.A.units + 64 < cLine) (ha : PD X a wa) (hb : PD X b wb) (hm : behindInMarks .In b = false := by rfl) : PD X (.Compare a [.In] [b] pos) (eOp (inKD false) wa wb) :=
  qd_mk (t := tOp (rInK false) (tW X.K wa) (tW X.K wb)) (pe_cmp (pc_din (by omega) ha hb) hm) (rd_op pu_inK)
theorem qd_notInK {a b : Expr} {wa wb : ED} {pos : Pos} (hu : X.A.units + 64 < cLine) (ha : PD X a wa) (hb : PD X b wb) (hm : behindInMarks .NotIn b = false := by rfl) : PD X (.Compare a [.NotIn] [b] pos) (eOp (inKD true) wa wb) :=
  qd_mk (t := tOp (rInK true) (tW X.K wa) (tW X.K wb)) (pe_cmp (pc_dnotin (by omega) ha hb) hm) (rd_op pu_inK)
theorem rdt_op {r : R2} {f : PyData → PyData → Option PyData} {wa wb : ED} {K : PySem.W.Frag} (h : Pu2 K r f) : RdT K (tB (tOp r (tW K wa) (tW K wb))) (bT (eOp f wa wb)) := fun S hw k => rd_op h S hw fun v d H1 n1 f1 d1 r1 ⟨b, e, q⟩ => by
  subst e
  cases r1
  exact ⟨b, rfl, k b H1 n1 f1 d1 q⟩
theorem qdt_inK {a b : Expr} {wa wb : ED} {pos : Pos} (hu : X.A.units + 64 < cLine) (ha : PD X a wa) (hb : PD X b wb) (hm : behindInMarks .In b = false := by rfl) : PDT X (.Compare a [.In] [b] pos) (bT (eOp (inKD false) wa wb)) :=
  qdt_mk (t := tB (tOp (rInK false) (tW X.K wa) (tW X.K wb))) (pt_cmp (pc_din (by omega) ha hb) hm) (rdt_op pu_inK)
theorem qdt_notInK {a b : Expr} {wa wb : ED} {pos : Pos} (hu : X.A.units + 64 < cLine) (ha : PD X a wa) (hb : PD X b wb) (hm : behindInMarks .NotIn b = false := by rfl) : PDT X (.Compare a [.NotIn] [b] pos) (bT (eOp (inKD true) wa wb)) :=
  qdt_mk (t := tB (tOp (rInK true) (tW X.K wa) (tW X.K wb))) (pt_cmp (pc_dnotin (by omega) ha hb) hm) (rdt_op pu_inK)
end
end My

/-! PVo: dicts of one's own; dict of pairs -/
namespace My
open PySem PySem.Spec PyProof.Rows L2
section
variable {K : PySem.W.Frag} {H : Hp}
theorem kvs_merge : ∀ {more : DKv} {kv2 : List (Key × V)} {ds : DKv} {kvs : List (Key × V)}, RpKvs K H kv2 more → RpKvs K H kvs ds → RpKvs K H (mergeK kvs kv2) (mergeD ds more)
  | [], _, _, _, h, g => by cases h; exact g
  | _ :: more, _, ds, _, h, g => by
    cases h with
    | @cons k v kv2 d _ h1 h2 =>
    have e : mergeD ds ((kD k, d) :: more) = mergeD (putD ds k d) more := by
      show mergeD (match keyOf (kD k) with
        | some k => putD ds k d
        | none => ds) more = _
      rw [keyOf_kD]
    rw [e]
    show RpKvs K H (mergeK (putK _ k v) kv2) _
    exact kvs_merge h2 (kvs_put h1 g)
def pairD : PyData → Option (PyData × PyData)
  | .tuple [x, y] => (keyOf x).map fun _ => (x, y)
  | _ => none
def pairsD : List PyData → Option DKv
  | [] => some []
  | d :: ds => (pairD d).bind fun p => (pairsD ds).map (p :: ·)
theorem kD_of : ∀ {x : PyData} {k : Key}, keyOf x = some k → kD k = x
  | .int _, _, e => by cases e; rfl
  | .str _, _, e => by cases e; rfl
  | .none, _, e => by cases e
  | .bool _, _, e => by cases e
  | .list _, _, e => by cases e
  | .tuple _, _, e => by cases e
  | .dict _, _, e => by cases e
theorem rp_pair {v : V} {d x y : PyData} (r : Rp K H v d) (e : pairD d = some (x, y)) : ∃ (a : Addr) (k : Key) (u : V), v = .ref a ∧ SqT K H a [kV k, u] ∧ x = kD k ∧ Rp K H u y := by
  match d, e with
  | .tuple [x', y'], e =>
    obtain ⟨k, ek, e2⟩ := Option.map_eq_some_iff.mp e
    cases e2
    cases r with
    | @tup a us _ h1 h2 _ =>
    cases h2 with
    | cons r1 h2 =>
    cases h2 with
    | @cons u _ _ _ r2 h2 =>
    cases h2
    rw [keyOf_V r1 ek] at h1
    exact ⟨a, k, u, rfl, h1, (kD_of ek).symm, r2⟩
theorem rps_pairs : ∀ {ds : List PyData} {us : List V} {kvs : DKv}, RpAll K H us ds → pairsD ds = some kvs → ∃ (ps : List Addr) (kv : List (Key × V)), us = ps.map V.ref ∧ Paired (fun p (e : Key × V) => SqT K H p [kV e.1, e.2]) ps kv ∧ RpKvs K H kv kvs
  | [], _, _, h, e => by
    cases h
    cases e
    exact ⟨[], [], rfl, .nil, .nil⟩
  | d :: ds, _, _, h, e => by
    cases h with
    | cons h1 h2 =>
    obtain ⟨⟨x, y⟩, e1, e2⟩ := Option.bind_eq_some_iff.mp e
    obtain ⟨kvs, e3, rfl⟩ := Option.map_eq_some_iff.mp e2
    obtain ⟨a, k, u, rfl, ht, rfl, r⟩ := rp_pair h1 e1
    obtain ⟨ps, kv, rfl, g1, g2⟩ := rps_pairs h2 e3
    exact ⟨a :: ps, (k, u) :: kv, rfl, .cons ht g1, .cons r g2⟩
end
theorem paired_le {K : PySem.W.Frag} {H H' : Hp} (e : Same H H') : ∀ {ps : List Addr} {es : List (Key × V)}, Paired (fun p (e : Key × V) => SqT K H p [kV e.1, e.2]) ps es → Paired (fun p (e : Key × V) => SqT K H' p [kV e.1, e.2]) ps es
  | _, _, .nil => .nil
  | _, _, .cons h t => .cons (same_seqT e h) (paired_le e t)
/-- dict of a list of pairs, of a dict (a tuple of pairs: the heap's account of a tuple doesn't say that it has no dict of its own, which the machine asks before it reads .keys) -/
def rDictS (K : PySem.W.Frag) : List V → Hp → VK → Prop := fun xs H Q => ∃ (a : Addr) (ps : List Addr) (kvs : List (Key × V)), xs = [.ref a] ∧ SqL K H a (ps.map V.ref) ∧ Paired (fun p kv => SqT K H p [kV kv.1, kv.2]) ps kvs ∧
  ∀ p, H p = none → Q (.ref p) (upd H p (.dK (mergeK [] kvs)))
/-- dict of a tuple of pairs that has no dict of its own -/
def rDictP (K : PySem.W.Frag) : List V → Hp → VK → Prop := fun xs H Q => ∃ (a : Addr) (ps : List Addr) (kvs : List (Key × V)), xs = [.ref a] ∧ SqT K H a (ps.map V.ref) ∧ Pl K H a ∧ Paired (fun p kv => SqT K H p [kV kv.1, kv.2]) ps kvs ∧
  ∀ p, H p = none → Q (.ref p) (upd H p (.dK (mergeK [] kvs)))
section
variable {X : Cx}
theorem plain_of {pins : List (Addr × Obj)} {σ : L2.St} {H : Hp} {s : Shared} (I : Inv X pins σ H s) {a : Addr} {xs : List V} (h : SqT X.K H a xs) (p : Pl X.K H a) : ∃ its : List Value, Vals xs its ∧ PlainSeq "tuple" s.heap a its.toArray ∧ xs.length ≤ sizeLine := by
  obtain ⟨its, r, ⟨o, e, hc, n, hd⟩, hz⟩ := I.tuple h
  refine ⟨its, r, ⟨o, n, e, hc, ?_, hd⟩, hz⟩
  rcases p with ⟨o', u, e', d⟩ | ⟨o', e', d⟩
  · obtain ⟨z, _⟩ := I.hok a _ e'
    rw [e] at z
    cases z
    exact d
  · have z := I.kIn a o' e'
    rw [e] at z
    cases z
    exact d
theorem call_dictTP (hc : X.calm = true) : CallR X (.type "dict") (rDictP X.K) := by
  intro pins s σ H xs us Q I r h
  obtain ⟨a, ps, kvs, rfl, ha, hk, hp, q⟩ := h
  obtain ⟨u, rfl, rx⟩ := vals1 r
  cases (show u = Value.ref a from rx)
  obtain ⟨its, r', pl, hz⟩ := plain_of I ha hk
  have er := refs_at r'
  obtain ⟨prs, pv, rel, l1, l2, hpv⟩ := pairs_vals I hp
  have cnt : its.length = ps.length := by rw [er, List.length_map]
  have hz' : ps.length ≤ sizeLine := by rw [← List.length_map (f := V.ref)]; exact hz
  refine PySem.call_dict_pairs (knd := mixKind X.prog X.w) (kvs := prs) (PySem.PairArg.tuple a its.toArray (fun j => ps.getD j 0) pv) (I.ok.hd hc) ⟨pl, ⟨by rw [List.size_toArray, cnt, l1], fun j k v e => ?_⟩⟩ ⟨by rw [l1, l2], fun i k v e => ?_⟩ (by rw [l1]; exact hz') fun h' tk hd kp => ?_
  · obtain ⟨⟨b, e1, e2⟩, _⟩ := hpv j k v e
    have eb : ps.getD j 0 = b := by rw [List.getD_eq_getElem?_getD, e1]; rfl
    refine ⟨?_, .inl ?_⟩
    · show its.toArray[j]? = some (Value.ref (ps.getD j 0))
      rw [eb, er]
      simp [e1]
    · show s.heap.IsTuple (ps.getD j 0) #[k, v]
      rw [eb]
      exact e2
  · obtain ⟨_, qk, e3, e4⟩ := hpv i k v e
    exact ⟨qk, e3, e4⟩
  · have hm : (s.heap.objs.size == sysModules) = false := beq_eq_false_iff_ne.mpr (Nat.ne_of_gt I.big)
    have hlen : (mergeK [] kvs).length ≤ sizeLine := by
      refine Nat.le_trans (length_mergeK kvs []) ?_
      rw [List.length_nil, Nat.zero_add, rel.length, l2]
      exact hz'
    exact ⟨.ref s.heap.objs.size, _, I.laid (t' := tk) (fun b o e => kp b o (fun z => nomatch z) e) (Nat.le_refl _) (show ObjOk X.prog X.w _ _ _ (.dK (mergeK [] kvs)) from ⟨hlen, hm, merged [] prs, KV.merge rel .nil, hd⟩), rfl, q _ (I.hok.fresh (Nat.le_refl _))⟩
theorem call_dictS (hc : X.calm = true) : CallR X (.type "dict") (rDictS X.K) := call_dictP hc
def rDictA (K : PySem.W.Frag) : List V → Hp → VK → Prop := fun xs H Q => rDictS K xs H Q ∨ rDictP K xs H Q ∨ ∃ (a : Addr) (kvs : List (Key × V)), xs = [.ref a] ∧ Rd H a (.dK kvs) ∧ ∀ p, H p = none → Q (.ref p) (upd H p (.dK kvs))
theorem call_dictA (hc : X.calm = true) : CallR X (.type "dict") (rDictA X.K) := CallR.or (call_dictS hc) (CallR.or (call_dictTP hc) call_dictD)
theorem pairs_dictable : ∀ {ds : List PyData} {kvs : DKv}, pairsD ds = some kvs → dictable ds = true
  | [], _, _ => rfl
  | d :: ds, _, e => by
    obtain ⟨p, e1, e2⟩ := Option.bind_eq_some_iff.mp e
    obtain ⟨kvs, e3, _⟩ := Option.map_eq_some_iff.mp e2
    have z : pairLike d = true := by
      match d, e1 with
      | .tuple [x, y], _ => rfl
    show (pairLike d && dictable ds) = true
    rw [z, pairs_dictable e3]
    rfl
def dictD1 : List PyData → Option PyData
  | [.list xs] => (pairsD xs).map fun kvs => .dict (mergeD [] kvs)
  | [.tuple xs] => (pairsD xs).map fun kvs => .dict (mergeD [] kvs)
  | [.dict ds] => some (.dict ds)
  | _ => none
/-- what dict(..) makes, as the machine has it -/
theorem dict_made {K : PySem.W.Frag} {O : Addr → Bool} {H : Hp} {xs : List V} {ds : List PyData} {es : DKv} {Q : VK} (r : RpAll K (hid O H) xs ds) (e : dictD1 ds = some (.dict es)) (k : ∀ kvs p, RpKvs K (hid O H) kvs es → H p = none → Q (.ref p) (upd H p (.dK kvs))) : rDictA K xs H Q := by
  match ds, e with
  | [.list zs], e =>
    obtain ⟨kvs, e1, e2⟩ := Option.map_eq_some_iff.mp e
    cases e2
    obtain ⟨v, rfl, r1⟩ := rps1 r
    cases r1 with
    | lst h1 a1 =>
    obtain ⟨ps, kv, rfl, g1, g2⟩ := rps_pairs a1 e1
    exact .inl ⟨_, ps, kv, rfl, .inl (.inl (hid_le _ _ h1)), paired_le hid_le g1, fun p np => k _ p (kvs_merge g2 .nil) np⟩
  | [.tuple zs], e =>
    obtain ⟨kvs, e1, e2⟩ := Option.map_eq_some_iff.mp e
    cases e2
    obtain ⟨v, rfl, r1⟩ := rps1 r
    cases r1 with
    | tup h1 a1 hp =>
    obtain ⟨ps, kv, rfl, g1, g2⟩ := rps_pairs a1 e1
    refine .inr (.inl ⟨_, ps, kv, rfl, same_seqT hid_le h1, ?_, paired_le hid_le g1, fun p np => k _ p (kvs_merge g2 .nil) np⟩)
    exact (hp (pairs_dictable e1)).same hid_le
  | [.dict zs], e =>
    cases e
    obtain ⟨v, rfl, r1⟩ := rps1 r
    cases r1 with
    | dic h1 a1 => exact .inr (.inr ⟨_, _, rfl, .inr ⟨_, hid_le _ _ h1⟩, fun p np => k _ p a1 np⟩)
theorem dictD1_dict {ds : List PyData} {z : PyData} (e : dictD1 ds = some z) : ∃ es, z = .dict es := by
  match ds, e with
  | [.list zs], e =>
    obtain ⟨kvs, e1, e2⟩ := Option.map_eq_some_iff.mp e
    exact ⟨_, e2.symm⟩
  | [.tuple zs], e =>
    obtain ⟨kvs, e1, e2⟩ := Option.map_eq_some_iff.mp e
    exact ⟨_, e2.symm⟩
  | [.dict zs], e => exact ⟨_, (Option.some.inj e).symm⟩
/-- the thing that is given is locked from then on -/
def lockV (Q : VK) : VK := fun v H => ∃ (d : Addr) (u : HO), v = .ref d ∧ H d = some u ∧ Mut (some u) ∧ ∀ od, Q v (upd H d (.frz od u))
theorem CallR.lock {X : Cx} {f : Value} {r : List V → Hp → VK → Prop} (h : CallR X f r) : CallR X f (fun xs H Q => r xs H (lockV Q)) := by
  intro pins s σ H xs us Q I rs q
  refine thn (h pins s σ H xs us (lockV Q) I rs q) fun v s1 ⟨x, H1, I1, rx, d, u, ex, hd, mu, k⟩ => ?_
  obtain ⟨od, I2⟩ := I1.lock hd mu
  exact ⟨x, _, I2, rx, k od⟩
theorem PE.lock {X : Cx} {e : Expr} {t : TE} (h : PE X e t) : PE X e (fun σ H Q => t σ H (lockV Q)) := ⟨fun pins s σ H Q I q => by
  refine thn (h.run pins s σ H (lockV Q) I q) fun v s1 ⟨x, H1, I1, rx, d, u, ex, hd, mu, k⟩ => ?_
  obtain ⟨od, I2⟩ := I1.lock hd mu
  exact ⟨x, _, I2, rx, k od⟩⟩
theorem upd_upd {H : Hp} {p : Addr} {a b : HO} : upd (upd H p a) p b = upd H p b := by
  funext c
  by_cases h : c = p
  · rw [h, upd_same, upd_same]
  · rw [upd_ne h, upd_ne h, upd_ne h]
def rDictL (K : PySem.W.Frag) : List V → Hp → VK → Prop := fun xs H Q => rDictA K xs H (lockV Q)
theorem pu_dict {K : PySem.W.Frag} : PuN K (rDictL K) dictD1 := by
  intro O H xs ds dz Q dm r e k
  obtain ⟨es, rfl⟩ := dictD1_dict e
  refine dict_made r e fun kvs p g np => ⟨p, .dK kvs, rfl, upd_same, trivial, fun od => ?_⟩
  rw [upd_upd]
  have st := same_new (o := .frz od (.dK kvs)) np
  exact k _ _ st (.dic (hid_new dm np) (RpKvs.same (hid_same st) _ _ g))
/-! ### statements -/
def sNewK (i : Nat) : SD := fun ρ n E => E.nx (ρ.set i (some (.k []))) n
theorem qs_newK {i : Nat} {x : Str} {pos pos' p1 : Pos} (hN : X.N.Nodup) (hi : X.N[i]? = some x) (hx : Loc X.env.scope x) (hs : swapsWith (.Dict [] [] p1) (some (.Name x pos')) pos.line X.env = pure false := by rfl)
    (hf : X.fn x = true ∨ X.env.scope.names.lookup x = some .local := by first | exact .inl rfl | exact .inr rfl | assumption) : PSD X (.Assign [.Name x pos'] (.Dict [] [] p1) pos) (sNewK i) := qs_mk (ps_set hN hi hx pe_dnewK hs hf) fun {dk OB H0 O H σ ρ n E D} S hw k => fun p np => by
  refine k.nx (add O p) _ _ _ n (S.new np (s := .k []) rfl nt_dK ⟨p, [], rfl, add_self, S.fresh np, S.dok.new np, upd_same, .nil⟩) ?_ hw
  rw [hid_add np]
  exact Same.refl _
def sMakeK (i : Nat) (w : AD) : SD := fun ρ n E => w ρ n fun xs n1 => ∃ ds, dictD1 xs = some (.dict ds) ∧ E.nx (ρ.set i (some (.k ds))) n1
theorem qs_makeK {i : Nat} {x : Str} {e : Expr} {es : List Expr} {w : AD} {pos pos' p1 p2 : Pos} (hc : X.calm = true) (hg : Gl X "dict") (hm : X.mg "dict" = none) (hN : X.N.Nodup) (hi : X.N[i]? = some x) (hx : Loc X.env.scope x) (he : PDA X (e :: es) w)
    (hs : swapsWith (.Call (.Name "dict" p1) (e :: es) [] p2) (some (.Name x pos')) pos.line X.env = pure false := by rfl) (h1 : starEach (e :: es) X.env = (false, eval e X.env) :: starEach es X.env := by rfl) (hpl : (backTo p2 (starEach es X.env)).any (·.1) = false := by rfl)
    (hf : X.fn x = true ∨ X.env.scope.names.lookup x = some .local := by first | exact .inl rfl | exact .inr rfl | assumption) : PSD X (.Assign [.Name x pos'] (.Call (.Name "dict" p1) (e :: es) [] p2) pos) (sMakeK i w) :=
  qs_mk (ps_set hN hi hx (pe_callTy (call_dictA hc) hg hm boot_dict he (he := h1) (hpl := hpl)) hs hf) fun {dk OB H0 O H σ ρ n E D} S hw k => rda_W S hw fun vs ds H1 n1 f1 d1 r1 ⟨es, ee, q1⟩ => dict_made r1 ee fun kvs p g np => by
  have S1 := S.step f1 d1
  refine k.nx (add O p) _ _ _ n1 (S1.new np (s := .k es) rfl nt_dK ⟨p, kvs, rfl, add_self, S1.fresh np, S1.dok.new np, upd_same, ?_⟩) ?_ q1
  · rw [hid_add np]
    exact g
  · rw [hid_add np]
    exact S.hid f1
def sPutK (i : Nat) (wk wv : ED) : SD := fun ρ n E => ∃ ds, ρ[i]? = some (some (.k ds)) ∧ wv ρ n fun x n1 => wk ρ n1 fun y n2 => ∃ key, keyOf y = some key ∧ ds.length < lim ∧ E.nx (ρ.set i (some (.k (putD ds key x)))) n2
theorem qs_putK {i : Nat} {o e f : Expr} {wk wv : ED} {pos pos' : Pos} (hu : X.A.units + 64 < cLine) (h0 : PE X o (tVar i)) (hk : PD X f wk) (hv : PD X e wv)
    (hst : PS X (.Assign [.Subscript o f pos'] e pos) (tAsg (tW X.K wv) (gSub (tVar i) (tW X.K wk) rSetD)) := by first | exact ps_asg (by assumption) (pg_sub (by assumption) (by assumption) (set_dict (by omega)))) : PSD X (.Assign [.Subscript o f pos'] e pos) (sPutK i wk wv) := qs_mk hst fun {dk OB H0 O H σ ρ n E D} S hw k => by
  obtain ⟨ds, e1, q⟩ := hw
  obtain ⟨v0, z1, p, kv, rfl, h1, h2, h3, h4, h5⟩ := S.sl _ _ e1
  refine rd_W S q fun v x H1 n1 f1 d1 r1 q1 => ⟨.ref p, z1, rd_W (S.step f1 d1) q1 fun y dy H2 n2 f2 d2 r2 ⟨key, ek, ll, q2⟩ => ?_⟩
  have nA : ¬ dkA dk p := fun ⟨E, e1, e2⟩ => (h3 E e1).1 e2
  have h4' := (f1.trans f2) _ _ nA h4
  have S2 := S.step (f1.trans f2) d2
  have s2 := S.hid (f1.trans f2)
  unfold rSetD
  refine ⟨p, _, rfl, .inl ⟨kv, key, h4', keyOf_V r2 ek, by have z := lim_le; rw [kvs_len h5]; omega, rfl⟩, ?_⟩
  refine k.nx O _ _ _ n2 (S2.mut e1 rfl rfl z1 h1 h2 h3 nt_dK (s' := .k (putD ds key x)) ⟨p, _, rfl, h1, h2, h3, upd_same, ?_⟩) ?_ q2
  · rw [hid_upd h1]
    exact kvs_put (Rp.same (hid_fr S.dO f2) _ _ r1) (RpKvs.same s2 _ _ h5)
  · rw [hid_upd h1]
    exact s2
/-- the thing at d is locked, then the statements run -/
theorem pss_lockS {X : Cx} {sts : List Stmt} {t : TS} (h : PSs X sts t) : PSs X sts (fun D σ H => ∃ (d : Addr) (u : HO), H d = some u ∧ Mut (some u) ∧ ∀ od, t D σ (upd H d (.frz od u))) := ⟨fun pins s σ H D I ⟨d, u, hd, mu, k⟩ => by
  obtain ⟨od, I2⟩ := I.lock hd mu
  exact h.run pins s σ _ D I2 (k od)⟩
theorem hid_frz {O : Addr → Bool} {H : Hp} {p : Addr} {o : HO} (h : O p = true) : Same (My.hid O H) (My.hid (rem O p) (upd H p o)) := fun b u e => by
  have z := hid_out e
  have n : b ≠ p := fun c => by rw [c, h] at z; cases z
  refine hid_at ?_ (by rw [upd_ne n]; exact hid_le _ _ e)
  unfold rem
  rw [z]
  rfl
/-- an owned thing becomes shared, as another object -/
theorem StR.giveF {K : PySem.W.Frag} {dk : Option DkI} {OB : Addr → Bool} {H0 : Hp} {O : Addr → Bool} {H : Hp} {σ : L2.St} {ρ : DEnv} {n : Nat} (S : StR K dk OB H0 O H σ ρ n) {i : Nat} {p : Addr} {s : Sv} {x : PyData} {o : HO} (hr : ρ[i]? = some (some s)) (ho : s.own = true) (hs : σ[i]? = some (some (.ref p))) (hO : O p = true) (h0 : H0 p = none) (hd : NotDk dk p) (new : Rp K (My.hid (rem O p) (upd H p o)) (.ref p) x) : StR K dk OB H0 (rem O p) (upd H p o) σ (ρ.set i (some (.d x))) n where
  len := by rw [List.length_set, S.len]
  ob := fun b h => rem_ne (S.ob b h) fun e => S.od.ne h (by rw [e]; exact h0)
  od := S.od
  dom := fun b h => by
    have nb : b ≠ p := fun c => by rw [c, rem_self] at h; cases h
    rw [upd_ne nb]
    exact S.dom b (rem_of h)
  dkO := S.dkO
  fr := fun b u h e => by
    rw [upd_ne (fun z => by rw [z, h0] at e; cases e)]
    exact S.fr b u h e
  dok := S.dok.upd hd
  sl := fun j y e => by
    have li : i < ρ.length := (List.getElem?_eq_some_iff.mp hr).1
    by_cases c : i = j
    · subst c
      rw [List.getElem?_set_self li] at e
      cases e
      exact ⟨_, hs, new⟩
    · rw [List.getElem?_set_ne c] at e
      obtain ⟨v, e1, e2⟩ := S.sl j y e
      have sm : Same (My.hid O H) (My.hid (rem O p) (upd H p o)) := hid_frz hO
      refine ⟨v, e1, ?_⟩
      cases y with
      | d x => exact Rp.same sm _ _ e2
      | l xs =>
        obtain ⟨q, vs, rfl, h1, h2, h3, h4, h5⟩ := e2
        have nq : q ≠ p := fun z => S.dis i j p s (.l xs) c hr e ho rfl hs (by rw [← z]; exact e1)
        exact ⟨q, vs, rfl, rem_ne h1 nq, h2, h3, by rw [upd_ne nq]; exact h4, RpAll.same sm _ _ h5⟩
      | k xs =>
        obtain ⟨q, vs, rfl, h1, h2, h3, h4, h5⟩ := e2
        have nq : q ≠ p := fun z => S.dis i j p s (.k xs) c hr e ho rfl hs (by rw [← z]; exact e1)
        exact ⟨q, vs, rfl, rem_ne h1 nq, h2, h3, by rw [upd_ne nq]; exact h4, RpKvs.same sm _ _ h5⟩
      | dk => exact e2
  dis := fun a b q u w ne e1 e2 o1 o2 f1 f2 => by
    have li : i < ρ.length := (List.getElem?_eq_some_iff.mp hr).1
    have z : ∀ {j : Nat} {y : Sv}, (ρ.set i (some (.d x)))[j]? = some (some y) → y.own = true → ρ[j]? = some (some y) := fun {j y} e o => by
      by_cases c : i = j
      · subst c
        rw [List.getElem?_set_self li] at e
        cases e
        cases o
      · rw [List.getElem?_set_ne c] at e
        exact e
    exact S.dis a b q u w ne (z e1 o1) (z e2 o2) o1 o2 f1 f2
def sGiveK (i : Nat) (b : SD) : SD := fun ρ n E => ∃ ds, ρ[i]? = some (some (.k ds)) ∧ b (ρ.set i (some (.d (.dict ds)))) n E
theorem qss_giveK {sts : List Stmt} {b : SD} (i : Nat) (h : PSDs X sts b) : PSDs X sts (sGiveK i b) := qss_mk (pss_lockS h) fun {dk OB H0 O H σ ρ n E D} S hw k => by
  obtain ⟨xs, e1, q⟩ := hw
  obtain ⟨v, z1, p, us, rfl, h1, h2, h3, h4, h5⟩ := S.sl _ _ e1
  refine ⟨p, .dK us, h4, trivial, fun od => ?_⟩
  have sm : Same (My.hid O H) (My.hid (rem O p) (upd H p (.frz od (.dK us)))) := hid_frz h1
  exact ⟨_, _, _, rem O p, _, n, E, S.giveF (o := .frz od (.dK us)) e1 rfl z1 h1 h2 h3 (.dic (hid_at rem_self upd_same) (RpKvs.same sm _ _ h5)), q, k.mono sm⟩
/-! ### reading a dict of one's own -/
def eOIn (neg : Bool) (i : Nat) (wa : ED) : ED := fun ρ n Q => ∃ ds, ρ[i]? = some (some (.k ds)) ∧ wa ρ n fun y n1 => ∃ k, keyOf y = some k ∧ Q (.bool (if neg = true then !(valD ds k).isSome else (valD ds k).isSome)) n1
theorem rd_oin {K : PySem.W.Frag} {neg : Bool} {i : Nat} {wa : ED} : RdE K (tOp (rInK neg) (tW K wa) (tVar i)) (eOIn neg i wa) := fun {dk OB H0 O H σ ρ n Q Qd} S hw k => by
  obtain ⟨ds, e1, q⟩ := hw
  obtain ⟨v0, z1, p, kv, rfl, h1, h2, h3, h4, h5⟩ := S.sl _ _ e1
  refine rd_W S q fun v d H1 n1 f1 d1 r1 ⟨key, ek, q1⟩ => ⟨.ref p, z1, ?_⟩
  have nA : ¬ dkA dk p := fun ⟨E, e1, e2⟩ => (h3 E e1).1 e2
  have h4' := f1 _ _ nA h4
  refine ⟨p, valV kv key, rfl, by rw [keyOf_V r1 ek]; exact DGet.k h4', ?_⟩
  have es : (valV kv key).isSome = (valD ds key).isSome := by
    rcases kvs_val key h5 with ⟨z1, z2⟩ | ⟨u, d, e1, e3, r⟩
    · rw [z1, z2]
      rfl
    · rw [e1, e3]
      rfl
  rw [es]
  exact k _ _ H1 n1 f1 d1 (.bl _) q1
theorem qd_oin {i : Nat} {a b : Expr} {wa : ED} {pos : Pos} (hu : X.A.units + 64 < cLine) (ha : PD X a wa) (h0 : PE X b (tVar i)) (hm : behindInMarks .In b = false := by rfl) : PD X (.Compare a [.In] [b] pos) (eOIn false i wa) := qd_mk (t := tOp (rInK false) (tW X.K wa) (tVar i)) (pe_cmp (pc_din (by omega) ha h0) hm) rd_oin
theorem qd_onotin {i : Nat} {a b : Expr} {wa : ED} {pos : Pos} (hu : X.A.units + 64 < cLine) (ha : PD X a wa) (h0 : PE X b (tVar i)) (hm : behindInMarks .NotIn b = false := by rfl) : PD X (.Compare a [.NotIn] [b] pos) (eOIn true i wa) := qd_mk (t := tOp (rInK true) (tW X.K wa) (tVar i)) (pe_cmp (pc_dnotin (by omega) ha h0) hm) rd_oin
theorem rdt_E {K : PySem.W.Frag} {t : TE} {w : ED} (h : RdE K t w) : RdT K (tB t) (bT w) := fun S hw k => h S hw fun v d H1 n1 f1 d1 r1 ⟨b, e, q⟩ => by
  subst e
  cases r1
  exact ⟨b, rfl, k b H1 n1 f1 d1 q⟩
theorem qdt_oin {i : Nat} {a b : Expr} {wa : ED} {pos : Pos} (hu : X.A.units + 64 < cLine) (ha : PD X a wa) (h0 : PE X b (tVar i)) (hm : behindInMarks .In b = false := by rfl) : PDT X (.Compare a [.In] [b] pos) (bT (eOIn false i wa)) := qdt_mk (t := tB (tOp (rInK false) (tW X.K wa) (tVar i))) (pt_cmp (pc_din (by omega) ha h0) hm) (rdt_E rd_oin)
theorem qdt_onotin {i : Nat} {a b : Expr} {wa : ED} {pos : Pos} (hu : X.A.units + 64 < cLine) (ha : PD X a wa) (h0 : PE X b (tVar i)) (hm : behindInMarks .NotIn b = false := by rfl) : PDT X (.Compare a [.NotIn] [b] pos) (bT (eOIn true i wa)) := qdt_mk (t := tB (tOp (rInK true) (tW X.K wa) (tVar i))) (pt_cmp (pc_dnotin (by omega) ha h0) hm) (rdt_E rd_oin)
def eOGet (i : Nat) (we wf : ED) : ED := fun ρ n Q => ∃ ds, ρ[i]? = some (some (.k ds)) ∧ we ρ n fun y n1 => wf ρ n1 fun z n2 => ∃ k, keyOf y = some k ∧ Q ((valD ds k).getD z) n2
theorem rd_oget {K : PySem.W.Frag} {i : Nat} {we wf : ED} : RdE K (tDGet2 (tVar i) (tW K we) (tW K wf)) (eOGet i we wf) := fun {dk OB H0 O H σ ρ n Q Qd} S hw k => by
  obtain ⟨ds, e1, q⟩ := hw
  obtain ⟨v0, z1, p, kv, rfl, h1, h2, h3, h4, h5⟩ := S.sl _ _ e1
  refine ⟨.ref p, z1, p, rfl, .inl ⟨kv, .inl h4⟩, rd_W S q fun y dy H1 n1 f1 d1 r1 q1 => rd_W (S.step f1 d1) q1 fun z dz H2 n2 f2 d2 r2 ⟨key, ek, q2⟩ => ?_⟩
  have nA : ¬ dkA dk p := fun ⟨E, e1, e2⟩ => (h3 E e1).1 e2
  have h4' := (f1.trans f2) _ _ nA h4
  refine ⟨valV kv key, by rw [keyOf_V r1 ek]; exact DGet.k h4', ?_⟩
  rcases kvs_val key (RpKvs.same (hid_fr S.dO (f1.trans f2)) _ _ h5) with ⟨e1, e2⟩ | ⟨u, d, e1, e2, r⟩
  · rw [e1]
    rw [e2] at q2
    exact k _ _ H2 n2 (f1.trans f2) d2 r2 q2
  · rw [e1]
    rw [e2] at q2
    exact k _ _ H2 n2 (f1.trans f2) d2 r q2
theorem qd_oget {i : Nat} {o e f : Expr} {we wf : ED} {apos cpos : Pos} (hu : X.A.units + 64 < cLine) (h0 : PE X o (tVar i)) (he : PD X e we) (hf : PD X f wf) (m : M2 X o "get" apos e f cpos := by exact ⟨rfl, rfl, rfl, rfl⟩) : PD X (.Call (.Attribute o "get" apos) [e, f] [] cpos) (eOGet i we wf) :=
  qd_mk (pe_dget2 (by omega) h0 he hf m) rd_oget
def eOLen (i : Nat) : ED := fun ρ n Q => ∃ ds, ρ[i]? = some (some (.k ds)) ∧ Q (.int (ds.length : Int)) n
theorem qd_olen {i : Nat} {e : Expr} {p pos : Pos} (hg : Gl X "len") (hm : X.mg "len" = none) (h0 : PE X e (tVar i)) (h1 : starEach [e] X.env = (false, eval e X.env) :: starEach [] X.env := by rfl) : PD X (.Call (.Name "len" p) [e] [] pos) (eOLen i) :=
  qd_mk (pe_callB call_lenD hg hm PySem.boot_len (pa_cons h0 pa_nil h1) (he := h1)) fun {dk OB H0 O H σ ρ n Q Qd} S hw k => by
  obtain ⟨ds, e1, q⟩ := hw
  obtain ⟨v0, z1, p, kv, rfl, h1, h2, h3, h4, h5⟩ := S.sl _ _ e1
  refine ⟨.ref p, z1, p, kv, rfl, h4, ?_⟩
  rw [kvs_len h5]
  exact k _ _ H n (FrD.refl H) S.dok (.int _) q
def eOIx (i : Nat) (we : ED) : ED := fun ρ n Q => ∃ ds, ρ[i]? = some (some (.k ds)) ∧ we ρ n fun y n1 => ∃ k d, keyOf y = some k ∧ valD ds k = some d ∧ Q d n1
theorem qd_oix {i : Nat} {a b : Expr} {wb : ED} {pos : Pos} (hu : X.A.units + 64 < cLine) (h0 : PE X a (tVar i)) (hb : PD X b wb) (hs : NoSl b := by exact fun _ _ => rfl) : PD X (.Subscript a b pos) (eOIx i wb) :=
  qd_mk (pe_dget (by omega) h0 hb hs) fun {dk OB H0 O H σ ρ n Q Qd} S hw k => by
  obtain ⟨ds, e1, q⟩ := hw
  obtain ⟨v0, z1, p, kv, rfl, h1, h2, h3, h4, h5⟩ := S.sl _ _ e1
  refine ⟨.ref p, z1, rd_W S q fun y dy H1 n1 f1 d1 r1 ⟨key, d, ek, ed, q1⟩ => ?_⟩
  have nA : ¬ dkA dk p := fun ⟨E, e1, e2⟩ => (h3 E e1).1 e2
  have h4' := f1 _ _ nA h4
  rcases kvs_val key (RpKvs.same (hid_fr S.dO f1) _ _ h5) with ⟨e1, e2⟩ | ⟨u, d2, e1, e2, r⟩
  · rw [e2] at ed
    cases ed
  · rw [e2] at ed
    cases ed
    refine ⟨p, u, rfl, ?_, k _ _ H1 n1 f1 d1 r q1⟩
    rw [keyOf_V r1 ek, ← e1]
    exact DGet.k h4'
end
end My

/-! NU: zip of two tuples, its pairs known -/
namespace My
open PySem PySem.Spec PyProof.Rows L2
open RZ (ItzT pyNext_zipT_item call_zipT)
/-- the pairs are new tuples whose objects are known -/
def ItzK (K : PySem.W.Frag) (a b : Addr) : It := { ItzT K a b with yld := fun i H v H' => ∃ (T : Addr) (x y : V) (o : HO), v = .ref T ∧ H T = none ∧ KTup T [x, y] o ∧ H' = upd H T o ∧ (∀ xs, SqT K H a xs → xs[i]? = some x) ∧ ∀ ys, SqT K H b ys → ys[i]? = some y }
theorem turn_zipK {P : Program} {w : World} {K : PySem.W.Frag} {elts : List Expr} {kk : Nat} {tpos : Pos} {a b z TI TO i1 i2 : Addr} (D : ZipApart z TI TO i1 i2 a b) :
    Turn P w K (.Tuple elts kk tpos) (ItzK K a b) [z, TI, TO, i1, i2] z (fun i h => IsZip h z TI TO .none ∧ IsPair h TI (.ref i1) (.ref i2) ∧ (∃ x y, IsPair h TO x y) ∧ h.IsTupleIter i1 a i ∧ h.IsTupleIter i2 b i) where
  mem := (RZ.turn_zipT (P := P) (w := w) (K := K) (elts := elts) (kk := kk) (tpos := tpos) D).mem
  obj := (RZ.turn_zipT (P := P) (w := w) (K := K) (elts := elts) (kk := kk) (tpos := tpos) D).obj
  keep := (RZ.turn_zipT (P := P) (w := w) (K := K) (elts := elts) (kk := kk) (tpos := tpos) D).keep
  done := (RZ.turn_zipT (P := P) (w := w) (K := K) (elts := elts) (kk := kk) (tpos := tpos) D).done
  self := (RZ.turn_zipT (P := P) (w := w) (K := K) (elts := elts) (kk := kk) (tpos := tpos) D).self
  item := by
    intro X hP hw hK _ i pins s σ H E I hf st ⟨xs, ys, x, y, qx, qy, hx, hy⟩
    subst hP hw hK
    obtain ⟨hz, hTI, ⟨_, _, hTO⟩, h1, h2⟩ := st
    obtain ⟨its, rv, p, _⟩ := I.tuple qx
    obtain ⟨its2, rv2, p2, _⟩ := I.tuple qy
    obtain ⟨u, hu, ru⟩ := rv.get hx
    obtain ⟨u2, hu2, ru2⟩ := rv2.get hy
    have five : ∀ {c : Addr}, c ∉ [z, TI, TO, i1, i2] → c ≠ z ∧ c ≠ TI ∧ c ≠ TO ∧ c ≠ i1 ∧ c ≠ i2 := fun {c} h => by simpa using h
    have below : ∀ c ∈ [z, TI, TO, i1, i2], c < s.heap.objs.size := fun c hc => by
      obtain ⟨o1, e1, _⟩ := h1
      obtain ⟨o2, e2, _⟩ := h2
      simp only [List.mem_cons, List.not_mem_nil, or_false] at hc
      rcases hc with rfl | rfl | rfl | rfl | rfl
      · exact Heap.lt_size hz
      · exact Heap.lt_size hTI
      · exact Heap.lt_size hTO
      · exact Heap.lt_size e1
      · exact Heap.lt_size e2
    refine pyNext_zipT_item D hz hTI hTO h1 h2 p p2 (x := u) (y := u2) (by simpa using hu) (by simpa using hu2) fun h' z' TO' h1' h2' hT _ hk => ⟨_, rfl, wpAny_letOwnedTupleGo_zip (s := { s with heap := h' }) z' fun h'' z'' sb => ?_⟩
    have nz : s.heap.objs.size ≠ z := Nat.ne_of_gt (below z (by simp))
    have new : ObjOk X.prog X.w (upd H s.heap.objs.size (.frz { cls := .type "tuple", data := .seq [u, u2].toArray } (.tup [x, y]))) h'' s.heap.objs.size (.frz { cls := .type "tuple", data := .seq [u, u2].toArray } (.tup [x, y])) :=
      ktup_new (show 2 ≤ sizeLine by decide) (.cons ru (.cons ru2 .nil)) ((sb.2 _ nz).trans hT)
    refine ⟨.ref s.heap.objs.size, _, I.turnedNew (t' := s.toks) (ch := [z, TI, TO, i1, i2]) (fun c o hb q => ?_) hf (Nat.le_refl _) new, rfl, ⟨_, x, y, _, rfl, I.hok.fresh (Nat.le_refl _), ⟨_, _, rfl⟩, rfl, fun l hl => by rw [I.tuple_inj hl qx]; exact hx, fun l hl => by rw [I.tuple_inj hl qy]; exact hy⟩, ⟨z'', (sb.2 _ D.TIz).trans (hk _ _ D.TIz D.TITO D.TIi1 D.TIi2 hTI), ⟨u, u2, (sb.2 _ D.TOz).trans TO'⟩, h1'.at fun o q => (sb.2 _ D.i1z).trans q, h2'.at fun o q => (sb.2 _ D.i2z).trans q⟩, fun c hc => ?_⟩
    · obtain ⟨n1, n2, n3, n4, n5⟩ := five hb
      exact (sb.2 c n1).trans (hk c o n1 n3 n4 n5 q)
    · rw [upd_ne (Nat.ne_of_lt (below c hc))]
      exact (hf c hc).1
def iZipK (K : PySem.W.Frag) (ta : TA) : TI := fun σ H R => ta σ H fun vs H1 => ∃ a b xs ys, vs = [.ref a, .ref b] ∧ SqT K H1 a xs ∧ SqT K H1 b ys ∧ R (ItzK K a b) H1
theorem pi_zipK {X : Cx} {e e2 : Expr} {ta : TA} {p pos tpos : Pos} {elts : List Expr} {kk : Nat} (hg : Gl X "zip") (hm : X.mg "zip" = none) (ha : PA X [e, e2] ta)
    (hs : starEach [e, e2] X.env = (false, eval e X.env) :: starEach [e2] X.env := by rfl) (hpl : (backTo pos (starEach [e2] X.env)).any (·.1) = false := by rfl) : PI X (.Tuple elts kk tpos) (.Call (.Name "zip" p) [e, e2] [] pos) (iZipK X.K ta) := ⟨fun pins s σ H R I h => by
  refine Call_ (ld_blt I hg hm PyProof.Rows.boot_zip (PyProof.Rows.callWith_type1 (thn (ha.run pos pins s σ H _ I h) fun us s1 ⟨vs, H1, I1, r1, a, b, xs, ys, ex, qx, qy, q⟩ => ?_) hs hpl))
  subst ex
  cases r1 with
  | cons r rr =>
  cases rr with
  | cons r' rr =>
  cases rr
  cases r
  cases r'
  obtain ⟨its, rv, p1, _⟩ := I1.tuple qx
  obtain ⟨its2, rv2, p2, _⟩ := I1.tuple qy
  obtain ⟨o1, ho1, _⟩ := id p1
  obtain ⟨o2, ho2, _⟩ := id p2
  refine call_zipT (show s1.heap.IsTuple a its.toArray from p1) (show s1.heap.IsTuple b its2.toArray from p2) fun h' hz hTI hTO h1 h2 _ hk => wpAny_pyIter_zip hz ?_
  refine ⟨_, [s1.heap.objs.size + 4, s1.heap.objs.size + 2, s1.heap.objs.size + 3, s1.heap.objs.size, s1.heap.objs.size + 1], _, _, H1, rfl, I1.kept (t' := s1.toks) hk, turn_zipK (PySem.W.ktu_apart s1.heap.objs.size a b (Heap.lt_size ho1) (Heap.lt_size ho2)), ⟨hz, hTI, ⟨_, _, hTO⟩, h1, h2⟩, fun c hc => ?_, q⟩
  have hle : s1.heap.objs.size ≤ c := by
    have hc' : c = s1.heap.objs.size + 4 ∨ c = s1.heap.objs.size + 2 ∨ c = s1.heap.objs.size + 3 ∨ c = s1.heap.objs.size ∨ c = s1.heap.objs.size + 1 := by simpa using hc
    rcases hc' with z | z | z | z | z <;> rw [z] <;> first | exact Nat.le_refl _ | exact Nat.le_add_right _ _
  exact I1.fpOk hle (I1.hok.fresh hle)⟩
theorem it_zipK {K : PySem.W.Frag} {O : Addr → Bool} {H1 : Hp} {a b : Addr} {us ws : List V} {xs ys : List PyData} (h1 : SqT K (hid O H1) a us) (r1 : RpAll K (hid O H1) us xs) (h2 : SqT K (hid O H1) b ws) (r2 : RpAll K (hid O H1) ws ys) :
    ItOk K O H1 (ItzK K a b) ((xs.zip ys).map fun p => .tuple [p.1, p.2]) := fun i O' H' s dm => by
  have q1 : SqT K H' a us := same_seqT hid_le (same_seqT s h1)
  have q2 : SqT K H' b ws := same_seqT hid_le (same_seqT s h2)
  rw [List.length_map, List.length_zip]
  refine ⟨fun l => ?_, fun l => ⟨us, ws, q1, q2, by rw [r1.len, r2.len]; omega⟩⟩
  have l1 : i < us.length := by rw [r1.len]; omega
  have l2 : i < ws.length := by rw [r2.len]; omega
  refine ⟨⟨us, ws, us[i], ws[i], q1, q2, List.getElem?_eq_getElem l1, List.getElem?_eq_getElem l2⟩, fun x H'' ⟨T, x1, y1, o, e, nT, kt, eH, g1, g2⟩ => ?_⟩
  subst e eH
  obtain ⟨d1, e1, z1⟩ := r1.get (g1 us q1)
  obtain ⟨d2, e2, z2⟩ := r2.get (g2 ws q2)
  have st := same_new (o := o) nT
  have s' := s.trans (hid_same (O := O') st)
  have at_ := hid_new (o := o) dm nT
  refine ⟨.tuple [d1, d2], ?_, st, .tup (kt.rd at_) (.cons (Rp.same s' _ _ z1) (.cons (Rp.same s' _ _ z2) .nil)) fun _ => kt.pl at_⟩
  rw [List.getElem?_map, (List.getElem?_zip_eq_some (z := (d1, d2))).mpr ⟨e1, e2⟩]
  rfl
def iZk (w : AD) : AD := fun ρ n Q => w ρ n fun ds n1 => ∃ xs ys, ds = [.tuple xs, .tuple ys] ∧ Q ((xs.zip ys).map fun p => .tuple [p.1, p.2]) n1
theorem qdi_zipK {X : Cx} {e e2 : Expr} {w : AD} {p pos tpos : Pos} {elts : List Expr} {kk : Nat} (hg : Gl X "zip") (hm : X.mg "zip" = none) (ha : PDA X [e, e2] w) (hs : starEach [e, e2] X.env = (false, eval e X.env) :: starEach [e2] X.env := by rfl) (hpl : (backTo pos (starEach [e2] X.env)).any (·.1) = false := by rfl) :
    PDI X (.Tuple elts kk tpos) (.Call (.Name "zip" p) [e, e2] [] pos) (iZk w) := qdi_mk (pi_zipK hg hm ha hs hpl) fun S hw k => rda_W S hw fun vs ds H1 n1 f1 d1 r1 ⟨xs, ys, ed, q⟩ => by
  subst ed
  cases r1 with
  | cons a r2 =>
  cases r2 with
  | cons b r3 =>
  cases r3
  cases a with
  | tup h1 a1 _ =>
  cases b with
  | tup h2 a2 _ =>
  exact ⟨_, _, _, _, rfl, same_seqT hid_le h1, same_seqT hid_le h2, k _ H1 n1 _ f1 d1 (it_zipK h1 a1 h2 a2) q⟩
end My

/-! NF: pieces of programs that do not draw, as functions of data -/
namespace My
open PySem PySem.Spec PyProof.Rows L2
abbrev EF := DEnv → Option PyData
abbrev AF := DEnv → Option (List PyData)
abbrev TF := DEnv → Option Bool
abbrev OF := DEnv → Option (Option Int)
def IsE (w : ED) (f : EF) : Prop := ∀ (ρ : DEnv) (n : Nat) (Q : PyData → Nat → Prop) (d : PyData), f ρ = some d → Q d n → w ρ n Q
def IsA (w : AD) (f : AF) : Prop := ∀ (ρ : DEnv) (n : Nat) (Q : List PyData → Nat → Prop) (d : List PyData), f ρ = some d → Q d n → w ρ n Q
def IsB (w : TD) (f : TF) : Prop := ∀ (ρ : DEnv) (n : Nat) (Q : Bool → Nat → Prop) (d : Bool), f ρ = some d → Q d n → w ρ n Q
def IsO (w : DEnv → M (Option Int)) (f : OF) : Prop := ∀ (ρ : DEnv) (n : Nat) (Q : Option Int → Nat → Prop) (d : Option Int), f ρ = some d → Q d n → w ρ n Q
theorem bind_is {α β : Type} {x : Option α} {f : α → Option β} {b : β} (h : x.bind f = some b) : ∃ a, x = some a ∧ f a = some b := Option.bind_eq_some_iff.mp h
theorem map_is {α β : Type} {x : Option α} {f : α → β} {b : β} (h : x.map f = some b) : ∃ a, x = some a ∧ f a = b := Option.map_eq_some_iff.mp h
theorem ite_is {α : Type} {c : Prop} [Decidable c] {x : Option α} {b : α} (h : (if c then x else none) = some b) : c ∧ x = some b := by
  by_cases k : c
  · rw [if_pos k] at h
    exact ⟨k, h⟩
  · rw [if_neg k] at h
    cases h
/-! ### expressions -/
def fC (d : PyData) : EF := fun _ => some d
theorem is_c {d : PyData} : IsE (eC d) (fC d) := fun ρ n Q x e q => by
  cases e
  exact q
def getF (o : Option (Option Sv)) : Option PyData := match o with
  | some (some (.d x)) => some x
  | _ => none
def fV (i : Nat) : EF := fun ρ => getF ρ[i]?
theorem getF_is {o : Option (Option Sv)} {x : PyData} (h : getF o = some x) : o = some (some (.d x)) := by
  match o, h with
  | some (some (.d y)), h =>
    cases h
    rfl
theorem is_v {i : Nat} : IsE (eV i) (fV i) := fun ρ n Q x e q => ⟨x, getF_is e, q⟩
def fN : AF := fun _ => some []
def fCo (f : EF) (g : AF) : AF := fun ρ => (f ρ).bind fun x => (g ρ).map (x :: ·)
theorem is_n : IsA aN fN := fun ρ n Q x e q => by
  cases e
  exact q
theorem is_co {w : ED} {ws : AD} {f : EF} {g : AF} (h : IsE w f) (k : IsA ws g) : IsA (aC w ws) (fCo f g) := fun ρ n Q d e q => by
  obtain ⟨x, e1, e2⟩ := bind_is e
  obtain ⟨xs, e3, rfl⟩ := map_is e2
  exact h ρ n _ x e1 (k ρ n _ xs e3 q)
def fTup (a : AF) : EF := fun ρ => (a ρ).bind fun xs => if xs.length ≤ lim then some (.tuple xs) else none
def fLst (a : AF) : EF := fun ρ => (a ρ).bind fun xs => if xs.length ≤ lim then some (.list xs) else none
theorem is_tup {ws : AD} {g : AF} (k : IsA ws g) : IsE (eTup ws) (fTup g) := fun ρ n Q d e q => by
  obtain ⟨xs, e1, e2⟩ := bind_is e
  obtain ⟨c, e3⟩ := ite_is e2
  cases e3
  exact k ρ n _ xs e1 ⟨c, q⟩
theorem is_lst {ws : AD} {g : AF} (k : IsA ws g) : IsE (eLst ws) (fLst g) := fun ρ n Q d e q => by
  obtain ⟨xs, e1, e2⟩ := bind_is e
  obtain ⟨c, e3⟩ := ite_is e2
  cases e3
  exact k ρ n _ xs e1 ⟨c, q⟩
def fOp (F : PyData → PyData → Option PyData) (a b : EF) : EF := fun ρ => (a ρ).bind fun x => (b ρ).bind fun y => F x y
theorem is_op {F : PyData → PyData → Option PyData} {a b : ED} {f g : EF} (h : IsE a f) (k : IsE b g) : IsE (eOp F a b) (fOp F f g) := fun ρ n Q d e q => by
  obtain ⟨x, e1, e2⟩ := bind_is e
  obtain ⟨y, e3, e4⟩ := bind_is e2
  exact h ρ n _ x e1 (k ρ n _ y e3 ⟨d, e4, q⟩)
def fCall (F : List PyData → Option PyData) (a : AF) : EF := fun ρ => (a ρ).bind F
theorem is_call {F : List PyData → Option PyData} {ws : AD} {g : AF} (k : IsA ws g) : IsE (eCall F ws) (fCall F g) := fun ρ n Q d e q => by
  obtain ⟨x, e1, e2⟩ := bind_is e
  exact k ρ n _ x e1 ⟨d, e2, q⟩
def asB : PyData → Option Bool
  | .bool b => some b
  | _ => none
theorem asB_is {d : PyData} {b : Bool} (h : asB d = some b) : d = .bool b := by
  cases d with
  | bool c => cases h; rfl
  | _ => cases h
def tfE (f : EF) : TF := fun ρ => (f ρ).bind asB
theorem is_tfE {w : ED} {f : EF} (h : IsE w f) : IsB (bT w) (tfE f) := fun ρ n Q b e q => by
  obtain ⟨x, e1, e2⟩ := bind_is e
  exact h ρ n _ x e1 ⟨b, asB_is e2, q⟩
def tfTr (f : EF) : TF := fun ρ => (f ρ).bind truthD
theorem is_tfTr {w : ED} {f : EF} (h : IsE w f) : IsB (bTr w) (tfTr f) := fun ρ n Q b e q => by
  obtain ⟨x, e1, e2⟩ := bind_is e
  exact h ρ n _ x e1 ⟨b, e2, q⟩
def tfYes : TF := fun _ => some true
theorem is_tfYes : IsB bYes tfYes := fun ρ n Q b e q => by
  cases e
  exact q
def tfNot (f : TF) : TF := fun ρ => (f ρ).map (!·)
theorem is_tfNot {w : TD} {f : TF} (h : IsB w f) : IsB (bNot w) (tfNot f) := fun ρ n Q b e q => by
  obtain ⟨x, e1, e2⟩ := map_is e
  subst e2
  exact h ρ n _ x e1 q
def tfAnd (f g : TF) : TF := fun ρ => (f ρ).bind fun b => if b = true then g ρ else some false
def tfOr (f g : TF) : TF := fun ρ => (f ρ).bind fun b => if b = true then some true else g ρ
theorem is_tfAnd {u w : TD} {f g : TF} (h : IsB u f) (k : IsB w g) : IsB (bAnd u w) (tfAnd f g) := fun ρ n Q b e q => by
  obtain ⟨x, e1, e2⟩ := bind_is e
  refine h ρ n _ x e1 ?_
  cases x with
  | true => exact k ρ n _ b e2 q
  | false =>
    cases e2
    exact q
theorem is_tfOr {u w : TD} {f g : TF} (h : IsB u f) (k : IsB w g) : IsB (bOr u w) (tfOr f g) := fun ρ n Q b e q => by
  obtain ⟨x, e1, e2⟩ := bind_is e
  refine h ρ n _ x e1 ?_
  cases x with
  | true =>
    cases e2
    exact q
  | false => exact k ρ n _ b e2 q
def fAnd (f g : EF) : EF := fun ρ => ((f ρ).bind asB).bind fun b => if b = true then g ρ else some (.bool false)
def fOr (f g : EF) : EF := fun ρ => ((f ρ).bind asB).bind fun b => if b = true then some (.bool true) else g ρ
def fNot (f : EF) : EF := fun ρ => ((f ρ).bind asB).map fun b => .bool (!b)
theorem asB2 {o : Option PyData} {b : Bool} (h : o.bind asB = some b) : o = some (.bool b) := by
  obtain ⟨x, e1, e2⟩ := bind_is h
  rw [e1, asB_is e2]
theorem is_and {u w : ED} {f g : EF} (h : IsE u f) (k : IsE w g) : IsE (eAnd u w) (fAnd f g) := fun ρ n Q d e q => by
  obtain ⟨x, e1, e2⟩ := bind_is e
  refine h ρ n _ _ (asB2 e1) ⟨x, rfl, ?_⟩
  cases x with
  | true => exact k ρ n _ d e2 q
  | false =>
    cases e2
    exact q
theorem is_or {u w : ED} {f g : EF} (h : IsE u f) (k : IsE w g) : IsE (eOr u w) (fOr f g) := fun ρ n Q d e q => by
  obtain ⟨x, e1, e2⟩ := bind_is e
  refine h ρ n _ _ (asB2 e1) ⟨x, rfl, ?_⟩
  cases x with
  | true =>
    cases e2
    exact q
  | false => exact k ρ n _ d e2 q
theorem is_not {u : ED} {f : EF} (h : IsE u f) : IsE (eNot u) (fNot f) := fun ρ n Q d e q => by
  obtain ⟨x, e1, e2⟩ := map_is e
  subst e2
  exact h ρ n _ _ (asB2 e1) ⟨x, rfl, q⟩
def fIf (c : TF) (f g : EF) : EF := fun ρ => (c ρ).bind fun b => if b = true then f ρ else g ρ
theorem is_if {c : TD} {u w : ED} {t : TF} {f g : EF} (h0 : IsB c t) (h : IsE u f) (k : IsE w g) : IsE (eIf c u w) (fIf t f g) := fun ρ n Q d e q => by
  obtain ⟨x, e1, e2⟩ := bind_is e
  refine h0 ρ n _ x e1 ?_
  cases x with
  | true => exact h ρ n _ d e2 q
  | false => exact k ρ n _ d e2 q
def ofN : OF := fun _ => some none
def ofS (f : EF) : OF := fun ρ => (f ρ).bind fun x => match x with
  | .int i => some (some i)
  | _ => none
theorem is_ofN : IsO oN ofN := fun ρ n Q d e q => by
  cases e
  exact q
theorem is_ofS {w : ED} {f : EF} (h : IsE w f) : IsO (oS w) (ofS f) := fun ρ n Q d e q => by
  obtain ⟨x, e1, e2⟩ := bind_is e
  cases x with
  | int i =>
    cases e2
    exact h ρ n _ _ e1 ⟨i, rfl, q⟩
  | _ => cases e2
def fSl (F : PyData → Option Int → Option Int → Option PyData) (a : EF) (lo hi : OF) : EF := fun ρ => (a ρ).bind fun x => (lo ρ).bind fun l => (hi ρ).bind fun h => F x l h
theorem is_sl {F : PyData → Option Int → Option Int → Option PyData} {a : ED} {lo hi : DEnv → M (Option Int)} {f : EF} {g k : OF} (h1 : IsE a f) (h2 : IsO lo g) (h3 : IsO hi k) : IsE (eSl F a lo hi) (fSl F f g k) := fun ρ n Q d e q => by
  obtain ⟨x, e1, e⟩ := bind_is e
  obtain ⟨y, e2, e⟩ := bind_is e
  obtain ⟨z, e3, e⟩ := bind_is e
  exact h1 ρ n _ x e1 (h2 ρ n _ y e2 (h3 ρ n _ z e3 ⟨d, e, q⟩))
def fChain (F G : PyData → PyData → Option PyData) (a b c : EF) : EF := fun ρ => (a ρ).bind fun x => (b ρ).bind fun y => ((F x y).bind asB).bind fun k => if k = true then (c ρ).bind fun z => G y z else some (.bool false)
theorem is_chain {F G : PyData → PyData → Option PyData} {a b c : ED} {f g h : EF} (h1 : IsE a f) (h2 : IsE b g) (h3 : IsE c h) : IsE (eChain F G a b c) (fChain F G f g h) := fun ρ n Q d e q => by
  obtain ⟨x, e1, e⟩ := bind_is e
  obtain ⟨y, e2, e⟩ := bind_is e
  obtain ⟨k, e3, e⟩ := bind_is e
  refine h1 ρ n _ x e1 (h2 ρ n _ y e2 ⟨k, asB2 e3, ?_⟩)
  cases k with
  | true =>
    obtain ⟨z, e4, e5⟩ := bind_is e
    exact h3 ρ n _ z e4 ⟨d, e5, q⟩
  | false =>
    cases e
    exact q
def fIsi (c : String → Bool) (f : EF) : EF := fun ρ => (f ρ).bind fun x => if noDict x = true then some (.bool (c (tyS x))) else none
theorem is_isi {c : String → Bool} {w : ED} {f : EF} (h : IsE w f) : IsE (eIsi c w) (fIsi c f) := fun ρ n Q d e q => by
  obtain ⟨x, e1, e2⟩ := bind_is e
  obtain ⟨k, e3⟩ := ite_is e2
  cases e3
  exact h ρ n _ x e1 ⟨k, q⟩
/-! ### what is walked -/
def afV (f : EF) : AF := fun ρ => (f ρ).bind itemsD
theorem is_afV {w : ED} {f : EF} (h : IsE w f) : IsA (iV w) (afV f) := fun ρ n Q d e q => by
  obtain ⟨x, e1, e2⟩ := bind_is e
  exact h ρ n _ x e1 ⟨d, e2, q⟩
def rngF : List PyData → Option (List PyData)
  | [.int m] => if -(2 ^ 62) ≤ m ∧ m < 2 ^ 62 then some (rangeD m) else none
  | _ => none
def afR (f : AF) : AF := fun ρ => (f ρ).bind rngF
theorem is_afR {w : AD} {f : AF} (h : IsA w f) : IsA (iR w) (afR f) := fun ρ n Q d e q => by
  obtain ⟨x, e1, e2⟩ := bind_is e
  match x, e2 with
  | [.int m], e2 =>
    obtain ⟨c, e3⟩ := ite_is e2
    cases e3
    exact h ρ n _ _ e1 ⟨m, rfl, c.1, c.2, q⟩
def zipF : List PyData → Option (List PyData)
  | [.list xs, .list ys] => if noPair xs ys = true then some ((xs.zip ys).map fun p => .tuple [p.1, p.2]) else none
  | [.tuple xs, .tuple ys] => if noPair xs ys = true then some ((xs.zip ys).map fun p => .tuple [p.1, p.2]) else none
  | _ => none
def afZ (f : AF) : AF := fun ρ => (f ρ).bind zipF
theorem is_afZ {w : AD} {f : AF} (h : IsA w f) : IsA (iZ w) (afZ f) := fun ρ n Q d e q => by
  obtain ⟨x, e1, e2⟩ := bind_is e
  match x, e2 with
  | [.list xs, .list ys], e2 =>
    obtain ⟨c, e3⟩ := ite_is e2
    cases e3
    exact h ρ n _ _ e1 ⟨xs, ys, .inl rfl, c, q⟩
  | [.tuple xs, .tuple ys], e2 =>
    obtain ⟨c, e3⟩ := ite_is e2
    cases e3
    exact h ρ n _ _ e1 ⟨xs, ys, .inr rfl, c, q⟩
def zipKF : List PyData → Option (List PyData)
  | [.tuple xs, .tuple ys] => some ((xs.zip ys).map fun p => .tuple [p.1, p.2])
  | _ => none
def afZk (f : AF) : AF := fun ρ => (f ρ).bind zipKF
theorem is_afZk {w : AD} {f : AF} (h : IsA w f) : IsA (iZk w) (afZk f) := fun ρ n Q d e q => by
  obtain ⟨x, e1, e2⟩ := bind_is e
  match x, e2 with
  | [.tuple xs, .tuple ys], e2 =>
    cases e2
    exact h ρ n _ _ e1 ⟨xs, ys, rfl, q⟩
/-! ### comprehensions -/
/-- items kept and changed, one by one -/
def lcF (st : PyData → Option (Option PyData)) : List PyData → Option (List PyData)
  | [] => some []
  | x :: xs => (st x).bind fun o => (lcF st xs).map fun r => match o with
    | some y => y :: r
    | none => r
def stF (g : GD) (p : TF) (e : EF) (ρ0 : DEnv) : PyData → Option (Option PyData) := fun x => (g x ρ0).bind fun ρ' => (p ρ').bind fun b => if b = true then (e ρ').map some else some none
theorem is_lcD {g : GD} {p : TD} {e : ED} {pf : TF} {ef : EF} (hp : IsB p pf) (he : IsE e ef) {ρ0 : DEnv} {n : Nat} {Q : List PyData → Nat → Prop} : ∀ {xs acc r : List PyData}, lcF (stF g pf ef ρ0) xs = some r → Q (acc ++ r) n → lcD g p e ρ0 xs acc n Q
  | [], acc, r, h, q => by
    cases h
    rw [List.append_nil] at q
    exact q
  | x :: xs, acc, r, h, q => by
    obtain ⟨o, e1, h⟩ := bind_is h
    obtain ⟨r1, e2, e3⟩ := map_is h
    obtain ⟨ρ', e4, e1⟩ := bind_is e1
    obtain ⟨b, e5, e1⟩ := bind_is e1
    refine ⟨ρ', e4, hp ρ' n _ b e5 ?_⟩
    cases b with
    | true =>
      obtain ⟨y, e6, e7⟩ := map_is e1
      subst e7
      have e3' : y :: r1 = r := e3
      refine he ρ' n _ y e6 (is_lcD hp he (acc := acc ++ [y]) e2 ?_)
      rw [List.append_assoc]
      show Q (acc ++ (y :: r1)) n
      rw [e3']
      exact q
    | false =>
      cases e1
      have e3' : r1 = r := e3
      exact is_lcD hp he e2 (by rw [e3']; exact q)
def fLc (it : AF) (g : GD) (p : TF) (e : EF) (own : List Nat) : EF := fun ρ => (it ρ).bind fun xs => if xs.length ≤ lim then (lcF (stF g p e (wipeD ρ own)) xs).map .list else none
theorem is_lc {it : AD} {g : GD} {p : TD} {e : ED} {own : List Nat} {itf : AF} {pf : TF} {ef : EF} (hi : IsA it itf) (hp : IsB p pf) (he : IsE e ef) : IsE (eLc it g p e own) (fLc itf g pf ef own) := fun ρ n Q d h q => by
  obtain ⟨xs, e1, h⟩ := bind_is h
  obtain ⟨c, h⟩ := ite_is h
  obtain ⟨r, e2, rfl⟩ := map_is h
  exact hi ρ n _ xs e1 ⟨c, is_lcD hp he e2 q⟩
/-- items out of items -/
def flF (st : PyData → Option (List PyData)) : List PyData → Option (List PyData)
  | [] => some []
  | x :: xs => (st x).bind fun o => (flF st xs).map fun r => o ++ r
def stB (g : GD) (p : TF) (fb : DEnv → Option (List PyData)) (ρ0 : DEnv) : PyData → Option (List PyData) := fun x => (g x ρ0).bind fun ρ' => (p ρ').bind fun b => if b = true then fb ρ' else some []
/-- ways to gather items -/
structure Gath (α : Type) where
  put : α → List PyData → α
  ok : α → List PyData → Prop
  put0 : ∀ a, put a [] = a
  putA : ∀ a xs ys, ok a (xs ++ ys) → put a (xs ++ ys) = put (put a xs) ys
  okA : ∀ a xs ys, ok a (xs ++ ys) → ok a xs ∧ ok (put a xs) ys
def IsBd {α : Type} (G : Gath α) (body : DEnv → α → M α) (fb : DEnv → Option (List PyData)) : Prop := ∀ (ρ : DEnv) (a : α) (n : Nat) (Q : α → Nat → Prop) (ys : List PyData), fb ρ = some ys → G.ok a ys → Q (G.put a ys) n → body ρ a n Q
theorem is_loop {α : Type} {G : Gath α} {g : GD} {p : TD} {pf : TF} {body : DEnv → α → M α} {fb : DEnv → Option (List PyData)} (hp : IsB p pf) (hb : IsBd G body fb) {ρ0 : DEnv} {n : Nat} {Q : α → Nat → Prop} :
    ∀ {xs : List PyData} {a : α} {ys : List PyData}, flF (stB g pf fb ρ0) xs = some ys → G.ok a ys → Q (G.put a ys) n → loopD g p body ρ0 xs a n Q
  | [], a, ys, h, _, q => by
    cases h
    rw [G.put0] at q
    exact q
  | x :: xs, a, ys, h, ok, q => by
    obtain ⟨o, e1, h⟩ := bind_is h
    obtain ⟨r, e2, rfl⟩ := map_is h
    obtain ⟨ρ', e4, e1⟩ := bind_is e1
    obtain ⟨b, e5, e1⟩ := bind_is e1
    obtain ⟨ok1, ok2⟩ := G.okA _ _ _ ok
    rw [G.putA _ _ _ ok] at q
    refine ⟨ρ', e4, hp ρ' n _ b e5 ?_⟩
    cases b with
    | true => exact hb ρ' a n _ o e1 ok1 (is_loop hp hb e2 ok2 q)
    | false =>
      cases e1
      rw [G.put0] at ok2 q
      exact is_loop hp hb e2 ok2 q
def fTwo (it1 : AF) (g1 : GD) (p1 : TF) (fb : DEnv → Option (List PyData)) (vs1 : List Nat) : DEnv → Option (List PyData) := fun ρ => (it1 ρ).bind fun ys => flF (stB g1 p1 fb (wipeD ρ vs1)) ys
theorem is_two {α : Type} {G : Gath α} {it1 : AD} {g1 : GD} {p1 : TD} {itf : AF} {pf : TF} {body : DEnv → α → M α} {fb : DEnv → Option (List PyData)} {vs1 : List Nat} (hi : IsA it1 itf) (hp : IsB p1 pf) (hb : IsBd G body fb) : IsBd G (twoW it1 g1 p1 body vs1) (fTwo itf g1 pf fb vs1) := fun ρ a n Q ys h ok q => by
  obtain ⟨xs, e1, e2⟩ := bind_is h
  exact hi ρ n _ xs e1 (is_loop hp hb e2 ok q)
def fOne (e : EF) : DEnv → Option (List PyData) := fun ρ => (e ρ).map fun y => [y]
def gaL : Gath (List PyData) where
  put := fun a ys => a ++ ys
  ok := fun a ys => a.length + ys.length ≤ lim
  put0 := fun a => List.append_nil a
  putA := fun a xs ys _ => (List.append_assoc a xs ys).symm
  okA := fun a xs ys h => by
    rw [List.length_append] at h
    rw [List.length_append]
    exact ⟨by omega, by omega⟩
theorem is_app {e : ED} {ef : EF} (he : IsE e ef) : IsBd gaL (appW e) (fOne ef) := fun ρ a n Q ys h ok q => by
  obtain ⟨y, e1, rfl⟩ := map_is h
  have ok' : a.length + 1 ≤ lim := ok
  exact he ρ n _ y e1 ⟨ok', q⟩
def fLc2 (it : AF) (g : GD) (p : TF) (fb : DEnv → Option (List PyData)) (own : List Nat) : EF := fun ρ => (it ρ).bind fun xs => (flF (stB g p fb (wipeD ρ own)) xs).bind fun ys => if ys.length ≤ lim then some (.list ys) else none
theorem is_lc2 {it it1 : AD} {g g1 : GD} {p p1 : TD} {e : ED} {own vs1 : List Nat} {itf it1f : AF} {pf p1f : TF} {ef : EF} (hi : IsA it itf) (hp : IsB p pf) (hi1 : IsA it1 it1f) (hp1 : IsB p1 p1f) (he : IsE e ef) : IsE (eLc2 it g p it1 g1 p1 e own vs1) (fLc2 itf g pf (fTwo it1f g1 p1f (fOne ef) vs1) own) := fun ρ n Q d h q => by
  obtain ⟨xs, e1, h⟩ := bind_is h
  obtain ⟨ys, e2, h⟩ := bind_is h
  obtain ⟨c, h⟩ := ite_is h
  cases h
  exact hi ρ n _ xs e1 (is_loop (G := gaL) hp (is_two hi1 hp1 (is_app he)) e2 (by show 0 + _ ≤ _; omega) q)
/-! ### sets -/
theorem fold_grow {α : Type} [DecidableEq α] : ∀ (ks acc : List α), acc.length ≤ (ks.foldl addU acc).length
  | [], acc => Nat.le_refl _
  | k :: ks, acc => Nat.le_trans addU_grow (fold_grow ks (addU acc k))
theorem viewAll_app {α : Type} {view : PyData → Option α} : ∀ {xs ys : List PyData} {ks : List α}, viewAll view (xs ++ ys) = some ks → ∃ k1 k2, viewAll view xs = some k1 ∧ viewAll view ys = some k2 ∧ ks = k1 ++ k2
  | [], ys, ks, h => ⟨[], ks, rfl, h, rfl⟩
  | x :: xs, ys, ks, h => by
    obtain ⟨k, e1, h⟩ := bind_is h
    obtain ⟨r, e2, rfl⟩ := map_is h
    obtain ⟨k1, k2, e3, e4, rfl⟩ := viewAll_app (xs := xs) e2
    exact ⟨k :: k1, k2, by show (view x).bind _ = _; rw [e1, e3]; rfl, e4, rfl⟩
def gaS {α : Type} [DecidableEq α] (view : PyData → Option α) : Gath (List α) where
  put := fun a ys => ((viewAll view ys).getD []).foldl addU a
  ok := fun a ys => ∃ ks, viewAll view ys = some ks ∧ (ks.foldl addU a).length < 62
  put0 := fun a => rfl
  putA := fun a xs ys ⟨ks, e, l⟩ => by
    obtain ⟨k1, k2, e1, e2, rfl⟩ := viewAll_app e
    rw [e, e1, e2]
    exact List.foldl_append ..
  okA := fun a xs ys ⟨ks, e, l⟩ => by
    obtain ⟨k1, k2, e1, e2, rfl⟩ := viewAll_app e
    rw [List.foldl_append] at l
    exact ⟨⟨k1, e1, Nat.lt_of_le_of_lt (fold_grow _ _) l⟩, k2, e2, by rw [e1]; exact l⟩
theorem is_put {α : Type} [DecidableEq α] {view : PyData → Option α} {e : ED} {ef : EF} (he : IsE e ef) : IsBd (gaS view) (putW view e) (fOne ef) := fun ρ a n Q ys h ok q => by
  obtain ⟨y, e1, rfl⟩ := map_is h
  obtain ⟨ks, e2, l⟩ := ok
  obtain ⟨k, e3, e4⟩ := bind_is e2
  cases e4
  have q' : Q (((viewAll view [y]).getD []).foldl addU a) n := q
  rw [e2] at q'
  exact he ρ n _ y e1 ⟨k, e3, Nat.lt_of_le_of_lt addU_grow l, q'⟩
def srtF {α : Type} [DecidableEq α] (view : PyData → Option α) (back : α → PyData) (lt : α → α → Bool) (ys : List PyData) : Option PyData := (viewAll view ys).bind fun ks => if (ddU ks).length < 62 then some (.list ((sortU lt (ddU ks)).map back)) else none
def fSort {α : Type} [DecidableEq α] (view : PyData → Option α) (back : α → PyData) (lt : α → α → Bool) (it : AF) (g : GD) (p : TF) (fb : DEnv → Option (List PyData)) (own : List Nat) : EF := fun ρ => (it ρ).bind fun xs => (flF (stB g p fb (wipeD ρ own)) xs).bind (srtF view back lt)
theorem is_sort {α : Type} [DecidableEq α] {view : PyData → Option α} {back : α → PyData} {lt : α → α → Bool} {it : AD} {g : GD} {p : TD} {body : DEnv → List α → M (List α)} {own : List Nat} {itf : AF} {pf : TF} {fb : DEnv → Option (List PyData)} (hi : IsA it itf) (hp : IsB p pf) (hb : IsBd (gaS view) body fb) :
    IsE (eSort back lt it g p body own) (fSort view back lt itf g pf fb own) := fun ρ n Q d h q => by
  obtain ⟨xs, e1, h⟩ := bind_is h
  obtain ⟨ys, e2, h⟩ := bind_is h
  obtain ⟨ks, e3, h⟩ := bind_is h
  obtain ⟨c, h⟩ := ite_is h
  cases h
  refine hi ρ n _ xs e1 (is_loop (G := gaS view) hp hb e2 ⟨ks, e3, c⟩ ?_)
  show Q (.list ((sortU lt (((viewAll view ys).getD []).foldl addU [])).map back)) n
  rw [e3]
  exact q
def setsF {α : Type} [DecidableEq α] (view : PyData → Option α) (back : α → PyData) (lt : α → α → Bool) : PyData → Option PyData
  | .list xs => (viewAll view xs).bind fun ks => if ks.length < 63 then some (.list ((sortU lt (ddU ks)).map back)) else none
  | .tuple xs => (viewAll view xs).bind fun ks => if ks.length < 63 then some (.list ((sortU lt (ddU ks)).map back)) else none
  | _ => none
def fSortSet {α : Type} [DecidableEq α] (view : PyData → Option α) (back : α → PyData) (lt : α → α → Bool) (f : EF) : EF := fun ρ => (f ρ).bind (setsF view back lt)
theorem is_sortSet {α : Type} [DecidableEq α] {view : PyData → Option α} {back : α → PyData} {lt : α → α → Bool} {e : ED} {f : EF} (he : IsE e f) : IsE (eSortSet view back lt e) (fSortSet view back lt f) := fun ρ n Q d h q => by
  obtain ⟨x, e1, h⟩ := bind_is h
  match x, h with
  | .list xs, h =>
    obtain ⟨ks, e3, h⟩ := bind_is h
    obtain ⟨c, h⟩ := ite_is h
    cases h
    exact he ρ n _ _ e1 ⟨xs, ks, .inl rfl, e3, c, q⟩
  | .tuple xs, h =>
    obtain ⟨ks, e3, h⟩ := bind_is h
    obtain ⟨c, h⟩ := ite_is h
    cases h
    exact he ρ n _ _ e1 ⟨xs, ks, .inr rfl, e3, c, q⟩
/-! ### dicts -/
def getKF (ds : DKv) (y z : PyData) : Option PyData := (keyOf y).map fun k => (valD ds k).getD z
def asK : PyData → Option DKv
  | .dict ds => some ds
  | _ => none
theorem asK_is {d : PyData} {ds : DKv} (h : asK d = some ds) : d = .dict ds := by
  cases d with
  | dict c => cases h; rfl
  | _ => cases h
def fGet (o a b : EF) : EF := fun ρ => ((o ρ).bind asK).bind fun ds => (a ρ).bind fun y => (b ρ).bind fun z => getKF ds y z
theorem is_get {o a b : ED} {fo fa fb : EF} (h1 : IsE o fo) (h2 : IsE a fa) (h3 : IsE b fb) : IsE (eGet o a b) (fGet fo fa fb) := fun ρ n Q d e q => by
  obtain ⟨ds, e1, e⟩ := bind_is e
  obtain ⟨x, e0, e1⟩ := bind_is e1
  rw [asK_is e1] at e0
  obtain ⟨y, e2, e⟩ := bind_is e
  obtain ⟨z, e3, e⟩ := bind_is e
  obtain ⟨k, e4, rfl⟩ := map_is e
  exact h1 ρ n _ _ e0 ⟨ds, rfl, h2 ρ n _ y e2 (h3 ρ n _ z e3 ⟨k, e4, q⟩)⟩
def ownK (o : Option (Option Sv)) : Option DKv := match o with
  | some (some (.k ds)) => some ds
  | _ => none
theorem ownK_is {o : Option (Option Sv)} {ds : DKv} (h : ownK o = some ds) : o = some (some (.k ds)) := by
  match o, h with
  | some (some (.k y)), h =>
    cases h
    rfl
def ownL (o : Option (Option Sv)) : Option (List PyData) := match o with
  | some (some (.l ds)) => some ds
  | _ => none
theorem ownL_is {o : Option (Option Sv)} {ds : List PyData} (h : ownL o = some ds) : o = some (some (.l ds)) := by
  match o, h with
  | some (some (.l y)), h =>
    cases h
    rfl
def inKF (neg : Bool) (ds : DKv) (y : PyData) : Option PyData := (keyOf y).map fun k => .bool (if neg = true then !(valD ds k).isSome else (valD ds k).isSome)
def fOIn (neg : Bool) (i : Nat) (a : EF) : EF := fun ρ => (ownK ρ[i]?).bind fun ds => (a ρ).bind fun y => inKF neg ds y
theorem is_oin {neg : Bool} {i : Nat} {a : ED} {f : EF} (h : IsE a f) : IsE (eOIn neg i a) (fOIn neg i f) := fun ρ n Q d e q => by
  obtain ⟨ds, e1, e⟩ := bind_is e
  obtain ⟨y, e2, e⟩ := bind_is e
  obtain ⟨k, e4, rfl⟩ := map_is e
  exact ⟨ds, ownK_is e1, h ρ n _ y e2 ⟨k, e4, q⟩⟩
def fOGet (i : Nat) (a b : EF) : EF := fun ρ => (ownK ρ[i]?).bind fun ds => (a ρ).bind fun y => (b ρ).bind fun z => getKF ds y z
theorem is_oget {i : Nat} {a b : ED} {f g : EF} (h : IsE a f) (k : IsE b g) : IsE (eOGet i a b) (fOGet i f g) := fun ρ n Q d e q => by
  obtain ⟨ds, e1, e⟩ := bind_is e
  obtain ⟨y, e2, e⟩ := bind_is e
  obtain ⟨z, e3, e⟩ := bind_is e
  obtain ⟨kk, e4, rfl⟩ := map_is e
  exact ⟨ds, ownK_is e1, h ρ n _ y e2 (k ρ n _ z e3 ⟨kk, e4, q⟩)⟩
def fOLen (i : Nat) : EF := fun ρ => (ownK ρ[i]?).map fun ds => .int (ds.length : Int)
theorem is_olen {i : Nat} : IsE (eOLen i) (fOLen i) := fun ρ n Q d e q => by
  obtain ⟨ds, e1, rfl⟩ := map_is e
  exact ⟨ds, ownK_is e1, q⟩
def fOIx (i : Nat) (a : EF) : EF := fun ρ => (ownK ρ[i]?).bind fun ds => (a ρ).bind fun y => (keyOf y).bind (valD ds)
theorem is_oix {i : Nat} {a : ED} {f : EF} (h : IsE a f) : IsE (eOIx i a) (fOIx i f) := fun ρ n Q d e q => by
  obtain ⟨ds, e1, e⟩ := bind_is e
  obtain ⟨y, e2, e⟩ := bind_is e
  obtain ⟨k, e3, e4⟩ := bind_is e
  exact ⟨ds, ownK_is e1, h ρ n _ y e2 ⟨k, d, e3, e4, q⟩⟩
/-! ### repr -/
instance reprDec (x : PyData) : Decidable (reprOk x) := by unfold reprOk; exact inferInstance
def fRepr (f : EF) : EF := fun ρ => (f ρ).bind fun x => if reprOk x then some (.str x.shown) else none
theorem is_repr {w : ED} {f : EF} (h : IsE w f) : IsE (eRepr w) (fRepr f) := fun ρ n Q d e q => by
  obtain ⟨x, e1, e2⟩ := bind_is e
  obtain ⟨c, e3⟩ := ite_is e2
  cases e3
  exact h ρ n _ x e1 ⟨c, q⟩
/-! ### statements -/
inductive Fl where
  | nx (ρ : DEnv) | rt (d : PyData) | bk (ρ : DEnv) | ct (ρ : DEnv)
abbrev SF := DEnv → Option Fl
def Fl.ends (E : EndsD) (n : Nat) : Fl → Prop
  | .nx ρ => E.nx ρ n
  | .rt d => E.rt d n
  | .bk ρ => E.bk ρ n
  | .ct ρ => E.ct ρ n
def IsS (w : SD) (f : SF) : Prop := ∀ (ρ : DEnv) (n : Nat) (E : EndsD) (r : Fl), f ρ = some r → r.ends E n → w ρ n E
def fNil : SF := fun ρ => some (.nx ρ)
theorem is_nil : IsS sNil fNil := fun ρ n E r e q => by
  cases e
  exact q
def fSeq (a b : SF) : SF := fun ρ => (a ρ).bind fun r => match r with
  | .nx ρ' => b ρ'
  | .rt d => some (.rt d)
  | .bk ρ' => some (.bk ρ')
  | .ct ρ' => some (.ct ρ')
theorem is_seq {a b : SD} {f g : SF} (h : IsS a f) (k : IsS b g) : IsS (sSeq a b) (fSeq f g) := fun ρ n E r e q => by
  obtain ⟨x, e1, e2⟩ := bind_is e
  refine h ρ n _ x e1 ?_
  cases x with
  | nx ρ' => exact k ρ' n E r e2 q
  | rt d => cases e2; exact q
  | bk d => cases e2; exact q
  | ct d => cases e2; exact q
def fSet (i : Nat) (e : EF) : SF := fun ρ => (e ρ).map fun x => .nx (ρ.set i (some (.d x)))
theorem is_set {i : Nat} {e : ED} {f : EF} (h : IsE e f) : IsS (sSet i e) (fSet i f) := fun ρ n E r e q => by
  obtain ⟨x, e1, rfl⟩ := map_is e
  exact h ρ n _ x e1 q
def fAsg (e : EF) (g : GD) : SF := fun ρ => (e ρ).bind fun x => (g x ρ).map .nx
theorem is_asg {e : ED} {g : GD} {f : EF} (h : IsE e f) : IsS (sAsg e g) (fAsg f g) := fun ρ n E r e q => by
  obtain ⟨x, e1, e⟩ := bind_is e
  obtain ⟨ρ', e2, rfl⟩ := map_is e
  exact h ρ n _ x e1 ⟨ρ', e2, q⟩
def fRet (e : EF) : SF := fun ρ => (e ρ).map .rt
theorem is_ret {e : ED} {f : EF} (h : IsE e f) : IsS (sRet e) (fRet f) := fun ρ n E r e q => by
  obtain ⟨x, e1, rfl⟩ := map_is e
  exact h ρ n _ x e1 q
def fIfS (c : TF) (a b : SF) : SF := fun ρ => (c ρ).bind fun x => if x = true then a ρ else b ρ
theorem is_ifS {c : TD} {a b : SD} {t : TF} {f g : SF} (h0 : IsB c t) (h : IsS a f) (k : IsS b g) : IsS (sIf c a b) (fIfS t f g) := fun ρ n E r e q => by
  obtain ⟨x, e1, e2⟩ := bind_is e
  refine h0 ρ n _ x e1 ?_
  cases x with
  | true => exact h ρ n E r e2 q
  | false => exact k ρ n E r e2 q
def forF (g : GD) (b : SF) : List PyData → SF
  | [] => fun ρ => some (.nx ρ)
  | x :: xs => fun ρ => (g x ρ).bind fun ρ1 => (b ρ1).bind fun r => match r with
    | .nx ρ2 => forF g b xs ρ2
    | .ct ρ2 => forF g b xs ρ2
    | .bk ρ2 => some (.nx ρ2)
    | .rt d => some (.rt d)
theorem is_for1 {g : GD} {b : SD} {f : SF} (h : IsS b f) : ∀ xs : List PyData, IsS (sFor1 g b xs) (forF g f xs)
  | [] => fun ρ n E r e q => by
    cases e
    exact q
  | x :: xs => fun ρ n E r e q => by
    obtain ⟨ρ1, e1, e⟩ := bind_is e
    obtain ⟨y, e2, e⟩ := bind_is e
    refine ⟨ρ1, e1, h ρ1 n _ y e2 ?_⟩
    cases y with
    | nx ρ2 => exact is_for1 h xs ρ2 n E r e q
    | ct ρ2 => exact is_for1 h xs ρ2 n E r e q
    | bk ρ2 => cases e; exact q
    | rt d => cases e; exact q
def fFor (it : AF) (g : GD) (b : SF) : SF := fun ρ => (it ρ).bind fun xs => forF g b xs ρ
theorem is_for {it : AD} {g : GD} {b : SD} {itf : AF} {f : SF} (hi : IsA it itf) (h : IsS b f) : IsS (sFor it g b) (fFor itf g f) := fun ρ n E r e q => by
  obtain ⟨xs, e1, e2⟩ := bind_is e
  exact hi ρ n _ xs e1 (is_for1 h xs ρ n E r e2 q)
def fNewL (i : Nat) : SF := fun ρ => some (.nx (ρ.set i (some (.l []))))
theorem is_newL {i : Nat} : IsS (sNewL i) (fNewL i) := fun ρ n E r e q => by
  cases e
  exact q
def fApp (i : Nat) (e : EF) : SF := fun ρ => (ownL ρ[i]?).bind fun xs => (e ρ).bind fun x => if xs.length < lim then some (.nx (ρ.set i (some (.l (xs ++ [x]))))) else none
theorem is_apps {i : Nat} {e : ED} {f : EF} (h : IsE e f) : IsS (sApp i e) (fApp i f) := fun ρ n E r e q => by
  obtain ⟨xs, e1, e⟩ := bind_is e
  obtain ⟨x, e2, e⟩ := bind_is e
  obtain ⟨c, e⟩ := ite_is e
  cases e
  exact ⟨xs, ownL_is e1, h ρ n _ x e2 ⟨c, q⟩⟩
def asL : PyData → Option (List PyData)
  | .list ds => some ds
  | _ => none
theorem asL_is {d : PyData} {ds : List PyData} (h : asL d = some ds) : d = .list ds := by
  cases d with
  | list c => cases h; rfl
  | _ => cases h
def fExt (i : Nat) (e : EF) : SF := fun ρ => (ownL ρ[i]?).bind fun xs => ((e ρ).bind asL).bind fun ys => if xs.length + ys.length ≤ lim then some (.nx (ρ.set i (some (.l (xs ++ ys))))) else none
theorem is_ext {i : Nat} {e : ED} {f : EF} (h : IsE e f) : IsS (sExt i e) (fExt i f) := fun ρ n E r e q => by
  obtain ⟨xs, e1, e⟩ := bind_is e
  obtain ⟨ys, e2, e⟩ := bind_is e
  obtain ⟨x, e0, e2⟩ := bind_is e2
  rw [asL_is e2] at e0
  obtain ⟨c, e⟩ := ite_is e
  cases e
  exact ⟨xs, ownL_is e1, h ρ n _ _ e0 ⟨ys, rfl, c, q⟩⟩
def fGive (i : Nat) (b : SF) : SF := fun ρ => (ownL ρ[i]?).bind fun xs => b (ρ.set i (some (.d (.list xs))))
theorem is_give {i : Nat} {b : SD} {f : SF} (h : IsS b f) : IsS (sGive i b) (fGive i f) := fun ρ n E r e q => by
  obtain ⟨xs, e1, e⟩ := bind_is e
  exact ⟨xs, ownL_is e1, h _ n E r e q⟩
def fNewK (i : Nat) : SF := fun ρ => some (.nx (ρ.set i (some (.k []))))
theorem is_newK {i : Nat} : IsS (sNewK i) (fNewK i) := fun ρ n E r e q => by
  cases e
  exact q
def fMakeK (i : Nat) (a : AF) : SF := fun ρ => (a ρ).bind fun xs => ((dictD1 xs).bind asK).map fun ds => .nx (ρ.set i (some (.k ds)))
theorem is_makeK {i : Nat} {w : AD} {a : AF} (h : IsA w a) : IsS (sMakeK i w) (fMakeK i a) := fun ρ n E r e q => by
  obtain ⟨xs, e1, e⟩ := bind_is e
  obtain ⟨ds, e2, rfl⟩ := map_is e
  obtain ⟨x, e3, e4⟩ := bind_is e2
  rw [asK_is e4] at e3
  exact h ρ n _ xs e1 ⟨ds, e3, q⟩
def fPutK (i : Nat) (k v : EF) : SF := fun ρ => (ownK ρ[i]?).bind fun ds => (v ρ).bind fun x => (k ρ).bind fun y => (keyOf y).bind fun key => if ds.length < lim then some (.nx (ρ.set i (some (.k (putD ds key x))))) else none
theorem is_putK {i : Nat} {k v : ED} {f g : EF} (h : IsE k f) (h' : IsE v g) : IsS (sPutK i k v) (fPutK i f g) := fun ρ n E r e q => by
  obtain ⟨ds, e1, e⟩ := bind_is e
  obtain ⟨x, e2, e⟩ := bind_is e
  obtain ⟨y, e3, e⟩ := bind_is e
  obtain ⟨key, e4, e⟩ := bind_is e
  obtain ⟨c, e⟩ := ite_is e
  cases e
  exact ⟨ds, ownK_is e1, h' ρ n _ x e2 (h ρ n _ y e3 ⟨key, e4, c, q⟩)⟩
def fGiveK (i : Nat) (b : SF) : SF := fun ρ => (ownK ρ[i]?).bind fun xs => b (ρ.set i (some (.d (.dict xs))))
theorem is_giveK {i : Nat} {b : SD} {f : SF} (h : IsS b f) : IsS (sGiveK i b) (fGiveK i f) := fun ρ n E r e q => by
  obtain ⟨xs, e1, e⟩ := bind_is e
  exact ⟨xs, ownK_is e1, h _ n E r e q⟩
/-! ### defs -/
def outF : Fl → Option PyData
  | .rt d => some d
  | .nx _ => some .none
  | _ => none
def envF (N : Nat) (ds : List PyData) : DEnv := ds.map (fun d => some (.d d)) ++ List.replicate (N - ds.length) none
/-- a def of k parameters and N names with the body S -/
def fnF (k N : Nat) (S : SF) : List PyData → Option PyData := fun ds => if ds.length = k then (S (envF N ds)).bind outF else none
theorem fn_okF {P : Program} {w : World} {K : PySem.W.Frag} {mg : Str → Option Value} {base : Heap} {x qual : Str} {st : Stmt} {f : Addr} {fd : FuncData} {N ps : List Str} {k : Nat} {S : SF} {W : SD} (a b : Nat) (F : Fun K x qual st f fd) (Sc : FnScope N ps (defScope st)) (ha : ps.length = a) (hb : N.length = b)
    (hw : ∀ (cdv : Value) (A : Around) (outer : List Env) (s : Shared) (H : Hp) (E : XK), Room k (A.deeper (envOfC qual (defScope st) s.heap.objs.size f cdv)) → PSDs (cxOf CX0 P w K mg base N qual (defScope st) f cdv A outer s H E).nox (defBody st) W)
    (hp : IsS W S) : FnOk P w K mg base CX0 (k + 1) f fd ps (spP K (fnF a b S)) := fn_ok F Sc hw fun ds d e => by
  obtain ⟨l, e⟩ := ite_is e
  obtain ⟨r, e1, e2⟩ := bind_is e
  refine ⟨by rw [ha]; exact l, ?_⟩
  have e1' : S (startD N ds) = some r := by
    unfold startD
    rw [hb]
    exact e1
  refine hp (startD N ds) 0 (endD d) r e1' ?_
  cases r with
  | nx ρ => cases e2; rfl
  | rt x => cases e2; rfl
  | bk ρ => cases e2
  | ct ρ => cases e2
end My

/-! NG: classes as isinstance tells them; t[::-1] -/
namespace My
open PySem PySem.Spec PyProof.Rows L2
def isC (T S : String) : Bool := decide (S = T) || (decide (T = "int") && decide (S = "bool"))
section
variable {X : Cx}
def revD : PyData → Option PyData
  | .tuple xs => some (.tuple xs.reverse)
  | _ => none
theorem RpAll.rev {K : PySem.W.Frag} {H : Hp} : ∀ {ds : List PyData} {vs : List V}, RpAll K H vs ds → RpAll K H vs.reverse ds.reverse
  | [], _, h => by cases h; exact .nil
  | d :: ds, _, h => by
    cases h with
    | cons h1 h2 =>
      rw [List.reverse_cons, List.reverse_cons]
      exact RpAll.app (RpAll.rev h2) (.cons h1 .nil)
def eRev (w : ED) : ED := fun ρ n Q => w ρ n fun x n1 => ∃ z, revD x = some z ∧ Q z n1
theorem qd_rev {e : Expr} {w : ED} {k : Nat} {p1 p2 p3 pos : Pos} (he : PD X e w) : PD X (.Subscript e (.Slice none none (some (.UnaryOp .USub (.Constant (.int 1) k p1) p2)) p3) pos) (eRev w) := qd_mk (pe_revK he) fun S hw k => rd_W S hw fun v d H1 n1 f1 d1 r1 ⟨z, e, q⟩ => by
  cases d with
  | tuple xs =>
    cases e
    cases r1 with
    | @tup a us _ h1 a1 _ =>
    refine ⟨a, us, rfl, same_seqT hid_le h1, fun p o np kt => ?_⟩
    obtain ⟨x1, x2, x3, x4⟩ := new_rp (S.step f1 d1) (o := o) np
    exact k _ _ _ n1 (f1.trans x3) x4 (.tup (kt.rd x1) (RpAll.same x2 _ _ (RpAll.rev a1)) fun _ => kt.pl x1) q
  | _ => cases e
def fRev (f : EF) : EF := fun ρ => (f ρ).bind revD
theorem is_rev {w : ED} {f : EF} (h : IsE w f) : IsE (eRev w) (fRev f) := fun ρ n Q d e q => by
  obtain ⟨x, e1, e2⟩ := bind_is e
  exact h ρ n _ x e1 ⟨d, e2, q⟩
end
/-! ### methods of texts -/
section
variable {X : Cx}
def PuM (K : PySem.W.Frag) (r : V → List V → Hp → VK → Prop) (f : Str → List PyData → Option PyData) : Prop := ∀ {O H z xs ds dz} {Q : VK}, Dom O H → RpAll K (hid O H) xs ds → f z ds = some dz → (∀ v H', Same H H' → Rp K (hid O H') v dz → Q v H') → r (.str z) xs H Q
def eMeth (f : Str → List PyData → Option PyData) (wo : ED) (ws : AD) : ED := fun ρ n Q => wo ρ n fun x n1 => ∃ z, x = .str z ∧ ws ρ n1 fun xs n2 => ∃ d, f z xs = some d ∧ Q d n2
theorem rd_meth {K : PySem.W.Frag} {r : V → List V → Hp → VK → Prop} {f : Str → List PyData → Option PyData} {wo : ED} {ws : AD} (h : PuM K r f) : RdE K (tBM K "str" r (tW K wo) (tWA K ws)) (eMeth f wo ws) := fun S hw k => rd_W S hw fun v d H1 n1 f1 d1 r1 ⟨z, e, q⟩ => by
  subst e
  cases r1
  refine ⟨rfl, rda_W (S.step f1 d1) q fun vs ds H2 n2 f2 d2 r2 ⟨dz, ez, q2⟩ => ?_⟩
  exact h (S.step (f1.trans f2) d2).dom r2 ez fun v' H' s r => k _ _ H' n2 ((f1.trans f2).trans (FrD.of s)) (d2.same s) r q2
def startsD (z : Str) : List PyData → Option PyData
  | [.str b] => some (.bool (Txt.startswith z b))
  | _ => none
def endsD (z : Str) : List PyData → Option PyData
  | [.str b] => some (.bool (Txt.endswith z b))
  | _ => none
def joinSz (a : Str) (ys : List Str) : Bool := decide ((ys.map (·.length)).sum + ys.length * a.length ≤ 1000000)
def joinD (z : Str) : List PyData → Option PyData
  | [.list xs] => (strsD xs).bind fun ys => if joinSz z ys = true then some (.str (Txt.join z ys)) else none
  | [.tuple xs] => (strsD xs).bind fun ys => if joinSz z ys = true then some (.str (Txt.join z ys)) else none
  | _ => none
def splitD (z : Str) : List PyData → Option PyData
  | [.str b] => if (b.length == 0) = false ∧ z.length ≤ lim then some (.list ((Txt.split z b).map PyData.str)) else none
  | _ => none
theorem pu_starts {K : PySem.W.Frag} : PuM K (fun x xs H Q => ∃ a b, x = .str a ∧ xs = [.str b] ∧ Q (.bl (Txt.startswith a b)) H) startsD := fun {O H z xs ds dz Q} dm r e k => by
  match ds, e with
  | [.str b], e =>
    cases e
    obtain ⟨v, rfl, r1⟩ := rps1 r
    cases r1
    exact ⟨z, b, rfl, rfl, k _ H (Same.refl H) (.bl _)⟩
end
section
variable {K : PySem.W.Frag}
theorem pu_ends : PuM K (fun x xs H Q => ∃ a b, x = .str a ∧ xs = [.str b] ∧ Q (.bl (Txt.endswith a b)) H) endsD := fun {O H z xs ds dz Q} dm r e k => by
  match ds, e with
  | [.str b], e =>
    cases e
    obtain ⟨v, rfl, r1⟩ := rps1 r
    cases r1
    exact ⟨z, b, rfl, rfl, k _ H (Same.refl H) (.bl _)⟩
theorem join_sz {a : Str} {ys : List Str} (h : joinSz a ys = true) : (ys.map (·.length)).sum + ys.length * a.length ≤ 16777216 := by
  have z := of_decide_eq_true h
  omega
theorem pu_join : PuM K (fun x xs H Q => ∃ a p, ∃ ys : List Str, x = .str a ∧ xs = [.ref p] ∧ (SqL K H p (ys.map V.str) ∨ SqT K H p (ys.map V.str)) ∧ (ys.map (·.length)).sum + ys.length * a.length ≤ 16777216 ∧ Q (.str (Txt.join a ys)) H) joinD := fun {O H z xs ds dz Q} dm r e k => by
  match ds, e with
  | [.list xs], e =>
    obtain ⟨ys, e1, e⟩ := bind_is e
    obtain ⟨c, e⟩ := ite_is e
    cases e
    obtain ⟨v, rfl, r1⟩ := rps1 r
    cases r1 with
    | lst h1 a1 =>
    obtain ⟨rfl, _⟩ := rps_strs a1 e1
    exact ⟨z, _, ys, rfl, rfl, .inl (.inl (.inl (hid_le _ _ h1))), join_sz c, k _ H (Same.refl H) (.str _)⟩
  | [.tuple xs], e =>
    obtain ⟨ys, e1, e⟩ := bind_is e
    obtain ⟨c, e⟩ := ite_is e
    cases e
    obtain ⟨v, rfl, r1⟩ := rps1 r
    cases r1 with
    | tup h1 a1 _ =>
    obtain ⟨rfl, _⟩ := rps_strs a1 e1
    exact ⟨z, _, ys, rfl, rfl, .inr (same_seqT hid_le h1), join_sz c, k _ H (Same.refl H) (.str _)⟩
theorem pu_split : PuM K (fun x xs H Q => ∃ a b, x = .str a ∧ xs = [.str b] ∧ (b.length == 0) = false ∧ a.length + 2 ≤ sizeLine ∧ rNewStrs (Txt.split a b) H Q) splitD := fun {O H z xs ds dz Q} dm r e k => by
  match ds, e with
  | [.str b], e =>
    obtain ⟨c, e⟩ := ite_is e
    cases e
    obtain ⟨v, rfl, r1⟩ := rps1 r
    cases r1
    refine ⟨z, b, rfl, rfl, c.1, ?_, fun p np => k _ _ (same_new np) (.lst (hid_new dm np) (rps_back _))⟩
    have h1 := c.2
    have h2 : lim + 2 ≤ sizeLine := by
      rw [sizeLine_eq]
      decide
    omega
end
def asS : PyData → Option Str
  | .str z => some z
  | _ => none
theorem asS_is {d : PyData} {b : Str} (h : asS d = some b) : d = .str b := by
  cases d with
  | str c => cases h; rfl
  | _ => cases h
def fMeth (f : Str → List PyData → Option PyData) (o : EF) (a : AF) : EF := fun ρ => ((o ρ).bind asS).bind fun z => (a ρ).bind fun xs => f z xs
theorem is_meth {f : Str → List PyData → Option PyData} {wo : ED} {ws : AD} {o : EF} {a : AF} (h : IsE wo o) (k : IsA ws a) : IsE (eMeth f wo ws) (fMeth f o a) := fun ρ n Q d e q => by
  obtain ⟨z, e1, e⟩ := bind_is e
  obtain ⟨x, e0, e1⟩ := bind_is e1
  rw [asS_is e1] at e0
  obtain ⟨xs, e2, e⟩ := bind_is e
  exact h ρ n _ _ e0 ⟨z, rfl, k ρ n _ xs e2 ⟨d, e, q⟩⟩
theorem lt64 {a c : Nat} (h : a + 64 < c) : a + 1 < c := by omega
end My

/-! NH: what does not draw, within what draws -/
namespace My
open PySem PySem.Spec PyProof.Rows L2
def pur (f : EF) : ED := fun ρ n Q => ∃ d, f ρ = some d ∧ Q d n
def purA (f : AF) : AD := fun ρ n Q => ∃ d, f ρ = some d ∧ Q d n
def purT (f : TF) : TD := fun ρ n Q => ∃ d, f ρ = some d ∧ Q d n
def purS (f : SF) : SD := fun ρ n E => ∃ r, f ρ = some r ∧ r.ends E n
section
variable {X : Cx}
theorem PD.weak {e : Expr} {w w' : ED} (h : PD X e w) (k : ∀ ρ n Q, w' ρ n Q → w ρ n Q) : PD X e w' := qd_mk h fun S hw kk => rd_W S (k _ _ _ hw) kk
theorem qd_pur {e : Expr} {w : ED} {f : EF} (h : PD X e w) (k : IsE w f) : PD X e (pur f) := PD.weak h fun ρ n Q ⟨d, e, q⟩ => k ρ n Q d e q
theorem qda_pur {es : List Expr} {w : AD} {f : AF} (h : PDA X es w) (k : IsA w f) : PDA X es (purA f) := qda_mk h fun S ⟨d, e, q⟩ kk => rda_W S (k _ _ _ d e q) kk
theorem qdt_pur {e : Expr} {w : TD} {f : TF} (h : PDT X e w) (k : IsB w f) : PDT X e (purT f) := qdt_mk h fun S ⟨d, e, q⟩ kk => rdt_W S (k _ _ _ d e q) kk
theorem qdi_pur {tg iter : Expr} {w : AD} {f : AF} (h : PDI X tg iter w) (k : IsA w f) : PDI X tg iter (purA f) := qdi_mk h fun S ⟨d, e, q⟩ kk => ⟨_, _, _, _, _, _, _, S, k _ _ _ d e q, kk⟩
theorem qs_pur {st : Stmt} {w : SD} {f : SF} (h : PSD X st w) (k : IsS w f) : PSD X st (purS f) := qs_mk h fun S ⟨d, e, q⟩ kk => ⟨_, _, _, _, _, _, _, S, k _ _ _ d e q, kk⟩
/-! ### - i -/
def negF : PyData → Option PyData
  | .int i => some (.int (-i))
  | _ => none
def eNeg (w : ED) : ED := fun ρ n Q => w ρ n fun x n1 => ∃ z, negF x = some z ∧ Q z n1
theorem qd_neg {e : Expr} {w : ED} {pos : Pos} (h : PD X e w) : PD X (.UnaryOp .USub e pos) (eNeg w) := qd_mk (pe_un un_neg h) fun S hw k => rd_W S hw fun v d H1 n1 f1 d1 r1 ⟨z, e, q⟩ => by
  cases d with
  | int i =>
    cases e
    cases r1
    exact ⟨i, rfl, k _ _ H1 n1 f1 d1 (.int _) q⟩
  | _ => cases e
def fNeg (f : EF) : EF := fun ρ => (f ρ).bind negF
theorem is_neg {w : ED} {f : EF} (h : IsE w f) : IsE (eNeg w) (fNeg f) := fun ρ n Q d e q => by
  obtain ⟨x, e1, e2⟩ := bind_is e
  exact h ρ n _ x e1 ⟨d, e2, q⟩
/-! ### displays of constants -/
def aK (ds : List PyData) : AD := fun _ n Q => Q ds n
theorem qdk_nil : PDA X [] (aK []) := qda_nil
theorem qdk_cons {e : Expr} {es : List Expr} {d : PyData} {ds : List PyData} (h : PD X e (eC d)) (hs : PDA X es (aK ds)) (h1 : starEach (e :: es) X.env = (false, eval e X.env) :: starEach es X.env := by rfl) : PDA X (e :: es) (aK (d :: ds)) := qda_mk (qda_cons h hs h1) fun S hw k => rda_W S (w := aC (eC d) (aK ds)) hw k
theorem qdk_tup {es : List Expr} {ds : List PyData} {x1} {pos : Pos} (h : PDA X es (aK ds)) (l : ds.length ≤ lim := by decide) : PD X (.Tuple es x1 pos) (eC (.tuple ds)) := PD.weak (qd_tup h) fun ρ n Q q => ⟨l, q⟩
theorem qdk_lst {es : List Expr} {ds : List PyData} {pos : Pos} (h : PDA X es (aK ds)) (l : ds.length ≤ lim := by decide) : PD X (.List es pos) (eC (.list ds)) := PD.weak (qd_lst h) fun ρ n Q q => ⟨l, q⟩
end
end My

/-! NI: walks of dicts; the empty dict as data -/
namespace My
open PySem PySem.Spec PyProof.Rows L2
section
variable {K : PySem.W.Frag} {H : Hp}
theorem rp_key : ∀ k : Key, Rp K H (kV k) (kD k)
  | .inl i => .int i
  | .inr x => .str x
theorem kvs_keys : ∀ {ds : DKv} {kvs : List (Key × V)}, RpKvs K H kvs ds → ds.map (·.1) = kvs.map fun p => kD p.1
  | [], _, h => by cases h; rfl
  | _ :: ds, _, h => by
    cases h with
    | cons h1 h2 => rw [List.map_cons, List.map_cons, kvs_keys h2]
theorem kvs_at : ∀ {ds : DKv} {kvs : List (Key × V)} {i : Nat} {k : Key} {v : V}, RpKvs K H kvs ds → kvs[i]? = some (k, v) → ∃ d, ds[i]? = some (kD k, d) ∧ Rp K H v d
  | [], _, i, k, v, h, e => by cases h; simp at e
  | _ :: ds, _, i, k, v, h, e => by
    cases h with
    | cons h1 h2 =>
      cases i with
      | zero =>
        simp at e
        obtain ⟨e1, e2⟩ := e
        subst e1 e2
        exact ⟨_, rfl, h1⟩
      | succ i =>
        obtain ⟨d, e1, e2⟩ := kvs_at (i := i) (k := k) (v := v) h2 (by simpa using e)
        exact ⟨d, by simpa using e1, e2⟩
variable {O : Addr → Bool}
theorem it_keys {a : Addr} {o : Obj} {kvs : List (Key × V)} {ds : DKv} (hd : hid O H a = some (.frz o (.dK kvs))) (h : RpKvs K (hid O H) kvs ds) : ItOk K O H (Itk a o kvs) (ds.map (·.1)) := fun i O' H' s _ => by
  have q : H' a = some (.frz o (.dK kvs)) := hid_le _ _ (s _ _ hd)
  have el : (ds.map (·.1)).length = kvs.length := by rw [kvs_keys h, List.length_map]
  refine ⟨fun l => ⟨⟨q, by omega⟩, fun x H'' ⟨e, k, v, ek, ex⟩ => ?_⟩, fun l => ⟨q, by omega⟩⟩
  subst e ex
  exact ⟨kD k, by rw [kvs_keys h, List.getElem?_map, ek]; rfl, Same.refl _, rp_key k⟩
theorem it_vals {a : Addr} {o : Obj} {kvs : List (Key × V)} {ds : DKv} (hd : hid O H a = some (.frz o (.dK kvs))) (h : RpKvs K (hid O H) kvs ds) : ItOk K O H (Itd a o kvs) (ds.map (·.2)) := fun i O' H' s _ => by
  have q : H' a = some (.frz o (.dK kvs)) := hid_le _ _ (s _ _ hd)
  have el : (ds.map (·.2)).length = kvs.length := by rw [List.length_map, kvs_len h]
  refine ⟨fun l => ⟨⟨q, by omega⟩, fun x H'' ⟨e, k, ek⟩ => ?_⟩, fun l => ⟨q, by omega⟩⟩
  subst e
  obtain ⟨d, e1, r⟩ := kvs_at h ek
  exact ⟨d, by rw [List.getElem?_map, e1]; rfl, Same.refl _, Rp.same s _ _ r⟩
theorem not_dictable_key {k : Key} {d : PyData} {P : Prop} (h : dictable [kD k, d] = true) : P := by
  cases k with
  | inl i => exact absurd h Bool.false_ne_true
  | inr x => exact absurd h Bool.false_ne_true
theorem it_items {a : Addr} {o : Obj} {kvs : List (Key × V)} {ds : DKv} (hd : hid O H a = some (.frz o (.dK kvs))) (h : RpKvs K (hid O H) kvs ds) : ItOk K O H (Iti a o kvs) (ds.map fun p => .tuple [p.1, p.2]) := fun i O' H' s dm => by
  have q : H' a = some (.frz o (.dK kvs)) := hid_le _ _ (s _ _ hd)
  have el : (ds.map fun p => PyData.tuple [p.1, p.2]).length = kvs.length := by rw [List.length_map, kvs_len h]
  refine ⟨fun l => ⟨⟨q, by omega⟩, fun x H'' ⟨T, k, v, ek, ex, nT, eH⟩ => ?_⟩, fun l => ⟨q, by omega⟩⟩
  subst ex eH
  obtain ⟨d, e1, r⟩ := kvs_at h ek
  have st := same_new (o := .tup [kV k, v]) nT
  refine ⟨.tuple [kD k, d], by rw [List.getElem?_map, e1]; rfl, st, .tup (.inl (.inl (hid_new dm nT))) (.cons (rp_key k) (.cons (Rp.same (s.trans (hid_same st)) _ _ r) .nil)) fun c => not_dictable_key c⟩
end
section
variable {X : Cx} {tg : Expr}
def iK (w : ED) : AD := fun ρ n Q => w ρ n fun x n1 => ∃ ds, x = .dict ds ∧ Q (ds.map (·.1)) n1
def iKv (w : ED) : AD := fun ρ n Q => w ρ n fun x n1 => ∃ ds, x = .dict ds ∧ Q (ds.map (·.2)) n1
def iKi (w : ED) : AD := fun ρ n Q => w ρ n fun x n1 => ∃ ds, x = .dict ds ∧ Q (ds.map fun p => .tuple [p.1, p.2]) n1
theorem qdi_keys {e : Expr} {w : ED} (h : PD X e w) : PDI X tg e (iK w) := qdi_mk (pi_keys h) fun S hw k => rd_W S hw fun v d H1 n1 f1 d1 r1 ⟨ds, e, q⟩ => by
  subst e
  cases r1 with
  | dic hs ha => exact ⟨_, _, rfl, .inl ⟨_, hid_le _ _ hs, k _ H1 n1 _ f1 d1 (it_keys hs ha) q⟩⟩
theorem qdi_vals {e : Expr} {w : ED} {apos cpos : Pos} (h : PD X e w) (hbase : attributeBase e "values" X.env (eval e X.env) = eval e X.env := by rfl) (hline : (apos.endLine == cpos.line) = true := by rfl) : PDI X tg (.Call (.Attribute e "values" apos) [] [] cpos) (iKv w) := qdi_mk (pi_values h hbase hline) fun S hw k => rd_W S hw fun v d H1 n1 f1 d1 r1 ⟨ds, e, q⟩ => by
  subst e
  cases r1 with
  | dic hs ha => exact ⟨_, _, _, rfl, hid_le _ _ hs, k _ H1 n1 _ f1 d1 (it_vals hs ha) q⟩
theorem qdi_items {elts : List Expr} {kk : Nat} {tpos : Pos} {e : Expr} {w : ED} {apos cpos : Pos} (h : PD X e w) (hbase : attributeBase e "items" X.env (eval e X.env) = eval e X.env := by rfl) (hline : (apos.endLine == cpos.line) = true := by rfl) : PDI X (.Tuple elts kk tpos) (.Call (.Attribute e "items" apos) [] [] cpos) (iKi w) := qdi_mk (pi_items h hbase hline) fun S hw k => rd_W S hw fun v d H1 n1 f1 d1 r1 ⟨ds, e, q⟩ => by
  subst e
  cases r1 with
  | dic hs ha => exact ⟨_, _, _, rfl, hid_le _ _ hs, k _ H1 n1 _ f1 d1 (it_items hs ha) q⟩
theorem qd_dic0 {pos : Pos} : PD X (.Dict [] [] pos) (eC (.dict [])) := qd_mk (PE.lock pe_dnewK) fun {dk OB H0 O H σ ρ n Q Qd} S hw k => fun p np => ⟨p, .dK [], rfl, upd_same, trivial, fun od => by
  rw [upd_upd]
  obtain ⟨a, b, c, e⟩ := new_rp S (o := .frz od (.dK [])) np
  exact k _ _ _ n c e (.dic a .nil) hw⟩
end
/-! ### as functions -/
def afK (f : EF) : AF := fun ρ => ((f ρ).bind asK).map fun ds => ds.map (·.1)
theorem is_afK {w : ED} {f : EF} (h : IsE w f) : IsA (iK w) (afK f) := fun ρ n Q d e q => by
  obtain ⟨ds, e1, rfl⟩ := map_is e
  obtain ⟨x, e0, e1⟩ := bind_is e1
  rw [asK_is e1] at e0
  exact h ρ n _ _ e0 ⟨ds, rfl, q⟩
def afKv (f : EF) : AF := fun ρ => ((f ρ).bind asK).map fun ds => ds.map (·.2)
theorem is_afKv {w : ED} {f : EF} (h : IsE w f) : IsA (iKv w) (afKv f) := fun ρ n Q d e q => by
  obtain ⟨ds, e1, rfl⟩ := map_is e
  obtain ⟨x, e0, e1⟩ := bind_is e1
  rw [asK_is e1] at e0
  exact h ρ n _ _ e0 ⟨ds, rfl, q⟩
def afKi (f : EF) : AF := fun ρ => ((f ρ).bind asK).map fun ds => ds.map fun p => .tuple [p.1, p.2]
theorem is_afKi {w : ED} {f : EF} (h : IsE w f) : IsA (iKi w) (afKi f) := fun ρ n Q d e q => by
  obtain ⟨ds, e1, rfl⟩ := map_is e
  obtain ⟨x, e0, e1⟩ := bind_is e1
  rw [asK_is e1] at e0
  exact h ρ n _ _ e0 ⟨ds, rfl, q⟩
end My

/-! MyLt: t < u of tuples of texts -/
namespace My
open PySem PySem.Spec PyProof.Rows L2
section
open PySem.SeqAt
open PySem.AutoSeq1 (wpAny_loadPart')
open PySem.MeetsSeq PySem.MeetsSeq2 PySem.MeetsSeq3
theorem ltK_cons (x y : Str) (xs ys : List Str) : ltK (x :: xs) (y :: ys) = if x = y then ltK xs ys else ltS x y := rfl
theorem ltK_ends : ∀ {xs ys : List Str}, xs.zip ys = [] → ltK xs ys = decide (xs.length < ys.length)
  | [], [], _ => rfl
  | [], y :: r, _ => by
    rw [decide_eq_true (by simp)]
    rfl
  | x :: r, [], _ => by
    rw [decide_eq_false (by simp)]
    rfl
  | x :: r, y :: t, h => by cases h
theorem tuple_lt_texts (a b : Addr) (I1 I2 : Array Value) (n1 n2 : Nat) (d1 d2 : Option Addr) (s1 s2 : Array (Option Value)) (ks ms : List Str) (h1 : StrsAre I1.toList ks) (h2 : StrsAre I2.toList ms) :
    Meets (Builtin.«tuple.__lt__» ⟨[.ref a, .ref b], []⟩)
      (fun _ R z => z.heap.get? a = some { cls := .type "tuple", dict := d1, data := .seq I1 n1, slots := s1 } ∧ z.heap.get? b = some { cls := .type "tuple", dict := d2, data := .seq I2 n2, slots := s2 } ∧ R (.ok (.ret (.bool (ltK ks ms)))) z) :=
  .of_wp fun P w A R z hz => by
    obtain ⟨hp, gs, dr, tk, os⟩ := z
    obtain ⟨ha, hb, hR⟩ := hz
    have sub := AutoSeq1.sub_tuple_tuple
    have l1 : I1.size = ks.length := by rw [← h1.length]; simp
    have l2 : I2.size = ms.length := by rw [← h2.length]; simp
    wp_walk using wpAny_loadPart' ha, wpAny_loadPart' hb, wpAny_forIn_list _ (fun rest c z' => c.1 = none ∧ z' = ⟨hp, gs, dr, tk, os⟩ ∧ ∃ (vs us : List Value) (k' m' : List Str), rest = vs.zip us ∧
      StrsAre vs k' ∧ StrsAre us m' ∧ k'.length + I2.size = m'.length + I1.size ∧ R (.ok (.ret (.bool (ltK k' m')))) ⟨hp, gs, dr, tk, os⟩) _
    case turn =>
      rintro ⟨v, u⟩ rest c z' ⟨hc, rfl, vs, us, k', m', er, hv, hu, len, hR⟩
      cases hv with
      | nil =>
        rw [List.zip_nil_left] at er
        cases er
      | cons x t hv' =>
        cases hu with
        | nil =>
          rw [List.zip_nil_right] at er
          cases er
        | cons y t' hu' =>
          rw [List.zip_cons_cons] at er
          obtain ⟨e1, er'⟩ := List.cons.inj er
          obtain ⟨rfl, rfl⟩ := Prod.mk.inj e1
          rw [ltK_cons] at hR
          simp only [List.length_cons] at len
          have eq : SeqAt.EqAt A.in1 ⟨hp, gs, dr, tk, os⟩ (.str x t) (.str y t') (decide (x = y)) := eqAt_V (y := .str x) (x := .str y) ⟨t, rfl⟩ ⟨t', rfl⟩ rfl rfl |> fun q => by
            have e : eqV (.str x) (.str y) = decide (x = y) := by
              show (x == y) = _
              rw [Bool.eq_iff_iff, beq_iff_eq, decide_eq_true_eq]
            rw [← e]
            exact q
          refine wpAny_bind (eq P w _ _ ?_)
          by_cases exy : x = y
          · rw [if_pos exy] at hR
            rw [decide_eq_true exy]
            wp_walk
            exact ⟨rfl, rfl, _, _, _, _, er', hv', hu', by omega, hR⟩
          · rw [if_neg exy, ← ltS_eq] at hR
            rw [decide_eq_false exy]
            have lt : ∀ (E' : Value → Shared → Prop) (Q : Value → Shared → Prop), Q (.bool (decide (x.cps.toList < y.cps.toList))) ⟨hp, gs, dr, tk, os⟩ → wpAny (model P w) A.in1 (richCompare .Lt (.str x t) (.str y t')) Q E' ⟨hp, gs, dr, tk, os⟩ := fun E' Q q => (PyProof.Rows.lt_str q : wpAny (model P w) A.in1 (compareOp .Lt (.str x t) (.str y t')) Q E' _)
            wp_walk using lt
            exact ⟨_, rfl, by simpa using hR⟩
    case fin =>
      rintro ⟨c1, c2⟩ z' ⟨hc, rfl, vs, us, k', m', er, hv, hu, len, hR⟩
      simp only at hc
      subst hc
      have ez : k'.zip m' = [] := by
        cases hv with
        | nil => exact List.zip_nil_left
        | cons x t _ =>
          cases hu with
          | nil => exact List.zip_nil_right
          | cons y t' _ =>
            rw [List.zip_cons_cons] at er
            cases er
      rw [ltK_ends ez, show decide (k'.length < m'.length) = decide (I1.size < I2.size) from decide_eq_decide.mpr ⟨fun h => by omega, fun h => by omega⟩] at hR
      wp_walk
      exact ⟨_, rfl, by simpa [Builtin.Tuple.tupleCompareSizes] using hR⟩
    case h => exact ⟨rfl, rfl, I1.toList, I2.toList, ks, ms, rfl, h1, h2, by omega, hR⟩
end
def rLtK (K : PySem.W.Frag) : R2 := fun x y H Q => ∃ (a b : Addr) (ks ms : List Str), x = .ref a ∧ y = .ref b ∧ SqT K H a (ks.map V.str) ∧ SqT K H b (ms.map V.str) ∧ Q (.bl (ltK ks ms)) H
theorem op_ltK {X : Cx} (hu : X.A.units < cLine) : OpR X (compareOp .Lt) (rLtK X.K) := by
  intro pins s σ H x y v u Q I rx ry h
  obtain ⟨a, b, ks, ms, rfl, rfl, ha, hb, q⟩ := h
  cases (show v = Value.ref a from rx)
  cases (show u = Value.ref b from ry)
  obtain ⟨is1, r1, ⟨⟨c1, d1, dt1, sl1⟩, o1, e1, n1, f1⟩, _⟩ := I.tuple ha
  obtain ⟨is2, r2, ⟨⟨c2, d2, dt2, sl2⟩, o2, e2, n2, f2⟩, _⟩ := I.tuple hb
  simp only at e1 e2 f1 f2
  subst e1 e2 f1 f2
  refine richCompare_meets_room (op := .Lt) ⟨_, o1, rfl⟩ ⟨_, o2, rfl⟩ PySem.F.slot_tuple_lt PySem.F.entry_tuple_lt (PySem.F.args_tuple_lt_2 _ _) (tuple_lt_texts a b is1.toArray is2.toArray n1 n2 d1 d2 sl1 sl2 ks ms (by simpa using strsAre_of r1) (by simpa using strsAre_of r2)) ⟨o1, o2, ?_⟩ hu
  exact ⟨(fun z => nomatch z), .bl (ltK ks ms), H, I, rfl, q⟩
end My

/-! MyMul: t * 1, a text times a count -/
namespace My
open PySem PySem.Spec PyProof.Rows L2
theorem tuple_mulW1 (l : Addr) (items : Array Value) (n : Nat) (dd : Option Addr) (sl : Array (Option Value)) (x : Int) (u : Tok) (c0 : (decide (x < -(2 ^ 63)) || decide (x ≥ 2 ^ 63)) = false) (c1 : (items.isEmpty || x == 1) = true) :
    Meets (Builtin.«tuple.__mul__» ⟨[.ref l, .int x u], []⟩) (fun _ R s => s.heap.get? l = some { cls := .type "tuple", dict := dd, data := .seq items n, slots := sl } ∧
      R (.ok (.ret (Value.ref l))) s) :=
  .of_wp fun prog w A R s h => by
    obtain ⟨hp, g, d, tk, os⟩ := s
    obtain ⟨hl, h⟩ := h
    have f1 := AutoSeq1.idx_int
    wp_walk using wpAny_loadPart' hl
    repeat (first
      | (refine wpAny_ite_false (decide_eq_false (by rw [c0]; exact Bool.false_ne_true)) ?_; wp_walk using wpAny_loadPart' hl)
      | (refine wpAny_ite_true (decide_eq_true c1) ?_; wp_walk using wpAny_loadPart' hl))
    exact ⟨_, rfl, h⟩
def rRepT1 (K : PySem.W.Frag) : R2 := fun x y H Q => ∃ l xs, x = .ref l ∧ y = .int 1 ∧ SqT K H l xs ∧ Q (.ref l) H
section
variable {X : Cx}
theorem op_repT1 : OpR X (binaryOp .Mult) (rRepT1 X.K) := by
  intro pins s σ H x y v u Q I rx ry h
  obtain ⟨l, xs, rfl, rfl, hT, q⟩ := h
  cases rx
  obtain ⟨t, rfl⟩ := ry
  obtain ⟨its, r, ⟨⟨cls, dd, data, sl⟩, ho, hc, n, hd⟩, hs⟩ := I.tuple hT
  simp only at hc hd
  subst hc hd
  have c0 : (decide ((1 : Int) < -(2 ^ 63)) || decide ((1 : Int) ≥ 2 ^ 63)) = false := by decide
  have c1 : (its.toArray.isEmpty || (1 : Int) == 1) = true := by
    rw [show ((1 : Int) == 1) = true from rfl, Bool.or_true]
  exact wpAny_binaryOp_repeat_ref (T := "tuple") (U := "int") (by decide) ⟨_, ho, rfl⟩ (fun s' => typeIs_int s' 1 t) noFill_tuple_mul F.fills_int_mul F.slot_int_rmul repeat_tuple F.slot_int_index.lookup
    (call_meets F.slot_int_rmul (typeIs_int s 1 t) F.entry_int_rmul (F.args_int_rmul_2 _ _) (int_rmul_tuple 1 t l its.toArray n dd sl)
      ⟨ho, rfl, ⟨_, ho, rfl⟩, call_meets F.slot_tuple_mul ⟨_, ho, rfl⟩ F.entry_tuple_mul (F.args_tuple_mul_2 _ _) (tuple_mulW1 l its.toArray n dd sl 1 t c0 c1) ⟨ho, ⟨.ref l, H, I, rfl, q⟩⟩⟩)
/-- a text k times -/
def repS (x : Str) (k : Nat) : Str := ⟨(List.replicate k x.cps).foldl (· ++ ·) #[]⟩
def rRepS : R2 := fun x y H Q => ∃ (z : Str) (k : Int), x = .str z ∧ y = .int k ∧ 1 ≤ k ∧ k ≤ 1000 ∧ 0 < z.length ∧ z.length ≤ 1000 ∧ (repS z k.toNat).length ≤ sizeLine ∧ Q (.str (repS z k.toNat)) H
theorem op_repS : OpR X (binaryOp .Mult) rRepS := by
  intro pins s σ H x y v u Q I rx ry h
  obtain ⟨z, k, rfl, rfl, h1, h2, z0, z1, z2, q⟩ := h
  obtain ⟨t, rfl⟩ := rx
  obtain ⟨t', rfl⟩ := ry
  have hm : (z.length : Int) * k ≤ 1000000 := by
    have a1 : (z.length : Int) * k ≤ 1000 * k := Int.mul_le_mul_of_nonneg_right (by omega) (by omega)
    omega
  have hm2 : z.length * k.toNat ≤ 1000000 := by
    have a1 : z.length * k.toNat ≤ 1000 * 1000 := Nat.mul_le_mul z1 (by omega)
    omega
  refine PySem.P.mul_str ?_ (fun _ _ => ?_) (fun _ _ => ?_) ?_
  · rw [decide_eq_false (by omega), decide_eq_false (by omega)]
    rfl
  · intro hc
    have e : (2 ^ 63 - 1 : Int) / 1000 ≤ (2 ^ 63 - 1) / k := by
      rw [Int.le_ediv_iff_mul_le (by omega)]
      omega
    omega
  · unfold Builtin.Str.tooLong
    exact decide_eq_false (by rw [sizeLine_eq]; omega)
  · rw [if_neg (by omega)]
    by_cases e : k = 1
    · subst e
      rw [if_pos (by rfl)]
      have e2 : repS z (1 : Int).toNat = z := by
        show (⟨(List.replicate 1 z.cps).foldl (· ++ ·) #[]⟩ : Str) = z
        simp
      rw [e2] at q
      exact ⟨.str z, H, I, ⟨t, rfl⟩, q⟩
    · rw [if_neg (by
        rw [Bool.or_eq_true]
        rintro (h | h)
        · exact e (eq_of_beq h)
        · have := eq_of_beq h
          omega)]
      exact ⟨z2, .str _, H, I.tok _, ⟨_, rfl⟩, q⟩
end
end My

/-! NJ: sets of tuples of ints and texts, how many; t < u; things times counts -/
namespace My
open PySem PySem.Spec PyProof.Rows L2
/-! ### tuples of ints and texts -/
def keysD : List PyData → Option (List Key)
  | [] => some []
  | d :: r => (keyOf d).bind fun k => (keysD r).map (k :: ·)
def vM : PyData → Option (List Key)
  | .tuple xs => keysD xs
  | _ => none
section
variable {K : PySem.W.Frag} {H : Hp}
theorem rps_keysM : ∀ {us : List V} {ds : List PyData} {ks : List Key}, RpAll K H us ds → keysD ds = some ks → us = ks.map kV
  | _, _, _, .nil, e => by cases e; rfl
  | _, _, _, .cons h t, e => by
    obtain ⟨k, e1, e⟩ := Option.bind_eq_some_iff.mp e
    obtain ⟨r, e2, rfl⟩ := Option.map_eq_some_iff.mp e
    rw [keyOf_V h e1, rps_keysM t e2, List.map_cons]
theorem rp_M {v : V} {d : PyData} {k : List Key} (h : Rp K H v d) (e : vM d = some k) : ∃ a, v = .ref a ∧ SqT K H a (k.map kV) := by
  cases d with
  | tuple xs =>
    cases h with
    | tup hs ha _ => exact ⟨_, rfl, by rw [← rps_keysM ha e]; exact hs⟩
  | _ => cases e
end
theorem addU_perm {α : Type} [DecidableEq α] {acc : List α} {k : α} (h : k ∉ acc) : (addU acc k).Perm (k :: acc) := by
  unfold addU
  rw [if_neg h]
  exact List.perm_append_comm
def skM (P : Program) (w : World) (K : PySem.W.Frag) : SB P w K (List Key) where
  view := vM
  Acc := fun O D acc H => ∃ L : List (Addr × List Key), H D = some (SetM P w D L) ∧ (L.map (·.2)).Perm acc ∧ ∀ q ∈ L, SqT K (hid O H) q.1 (q.2.map kV)
  noL := fun ⟨L, h, _⟩ => ⟨fun us e => (by rw [h] at e; cases e), fun us e => (by rw [h] at e; cases e)⟩
  use := fun ⟨L, h, _⟩ => ⟨_, h, ⟨fun _ e => (nomatch e), fun _ _ e => (nomatch e)⟩⟩
  new := fun {O H D} _ => ⟨_, .inr (.inr rfl), [], upd_same, List.Perm.refl _, fun q h => nomatch h⟩
  keep := fun ⟨L, h, m, t⟩ e s => ⟨L, e.trans h, m, fun q hq => same_seqT s (t q hq)⟩
  put := fun {O D acc H y dy k N} ⟨L, h, m, t⟩ hO r e few n => by
    obtain ⟨a, rfl, hs⟩ := rp_M r e
    have ll : L.length = acc.length := by
      have z := m.length_eq
      rw [List.length_map] at z
      exact z
    refine .inr (.inr ⟨a, k, L, rfl, same_seqT hid_le hs, h, fun p hp => same_seqT hid_le (t p hp), by omega, fun L' ad => n _ ⟨L', upd_same, ?_, fun q hq => ?_⟩⟩)
    · by_cases c : k ∈ L.map (·.2)
      · rw [ad.1 c]
        unfold addU
        rw [if_pos (m.mem_iff.mp c)]
        exact m
      · have p1 : (L'.map (·.2)).Perm (k :: L.map (·.2)) := (ad.2 c).map (·.2)
        exact p1.trans ((List.Perm.cons k m).trans (addU_perm fun z => c (m.mem_iff.mpr z)).symm)
    · rw [hid_upd hO]
      rcases ad.sub hq with rfl | hq
      · exact hs
      · exact t q hq
def rLenM (P : Program) (w : World) : List V → Hp → VK → Prop := fun xs H Q => ∃ (D : Addr) (L : List (Addr × List Key)), xs = [.ref D] ∧ H D = some (SetM P w D L) ∧ Q (.int L.length) H
section
variable {X : Cx}
theorem cr_lenM : CallR X (.builtin "len") (rLenM X.prog X.w) := by
  intro pins s σ H xs us Q I r h
  obtain ⟨D, L, rfl, hD, q⟩ := h
  obtain ⟨u, rfl, rx⟩ := vals1 r
  cases (show u = Value.ref D from rx)
  obtain ⟨es, ep, t, R⟩ := setM_at I.hok hD
  obtain ⟨o, ho, hex, hd⟩ := R.ob
  have c := R.count
  have f := R.few
  exact call_len_set ho hex hd R.fits (by rw [c]; omega) ⟨.int L.length, H, I.tok _, ⟨_, by rw [c]⟩, q⟩
/-- len({..}) -/
def eSetLen {α : Type} (it : AD) (g : GD) (p : TD) (body : DEnv → List α → M (List α)) (own : List Nat) : ED := fun ρ n Q => it ρ n fun xs n1 => loopD g p body (wipeD ρ own) xs [] n1 fun acc n2 => Q (.int (acc.length : Int)) n2
theorem rd_setlen {it : AD} {g : GD} {p : TD} {body : DEnv → List (List Key) → M (List (List Key))} {vs own : List Nat} {ti : Addr → TIn} (hvs : ∀ i ∈ vs, i ∈ own) (hb : InW (skM X.prog X.w X.K) ti body) :
    RdE X.K (tCB (rLenM X.prog X.w) (tCons (tSet X.prog X.w (tWI X.K it) (tWG X.K vs g) (tWT X.K p) ti own) tNil)) (eSetLen it g p body own) := by
  intro dk OB H0 O H σ ρ n Q Qd S hw k
  refine ⟨dk, OB, H0, O, ρ, n, _, S, hw, fun J H1 n1 xs f1 d1 io hq D nD => ?_⟩
  obtain ⟨o0, hnew, A0⟩ := (skM X.prog X.w X.K).new (O := O) nD
  have S1 := S.step f1 d1
  have SA := S1.acc (o := o0) nD (by
    obtain ⟨o, e, t⟩ := (skM X.prog X.w X.K).use A0
    rw [upd_same] at e
    rw [Option.some.inj e]
    exact t)
  have e0 : Same (hid O H1) (hid (add O D) (upd H1 D o0)) := by
    rw [hid_add nD]
    exact Same.refl _
  have io' : ItOk X.K (add O D) (upd H1 D o0) J xs := fun i O' H' s dm => io i O' H' (e0.trans s) dm
  have tu := turns_D (own := own) hvs hb SA add_self (d1.new nD) (S1.fresh nD) A0 List.nodup_nil io' hq (Last := fun H' => (rLenM X.prog X.w) [.ref D] H' Q) fun acc' H' n' s' f' d' A' nd' q' => ?_
  · obtain ⟨W, m0, w0, t⟩ := tu
    exact ⟨o0, hnew, W, m0, w0, t⟩
  · obtain ⟨L, hL, pm, _⟩ := A'
    have f12 : FrD dk H1 H' := fun b o h1 h2 => f' b o (ne_of_none h2 nD) h1 (same_new nD _ _ h2)
    refine ⟨D, L, rfl, hL, k _ _ H' n' (f1.trans f12) d' (.int _) ?_⟩
    have z := pm.length_eq
    rw [List.length_map] at z
    rw [z]
    exact q'
theorem qd_setlen {elt tg iter : Expr} {ifs : List Expr} {scope : Scope} {own : List (Str × Nat)} {p1 pos pos2 : Pos} {it : AD} {g : GD} {p : TD} {e : ED} {vs : List Nat} (hg0 : Gl X "len") (hm0 : X.mg "len" = none) (hc : X.calm = true) (hN : X.N.Nodup) (hu : X.A.units + 64 < cLine) (hi : PDI X tg iter it) (ok : BlkOk X.N X.env.scope scope own) (hvs : ∀ i ∈ vs, i ∈ own.map (·.2))
    (hg : ∀ (s : Shared) (H : Hp) (C : Addr) (cl : List (Str × Addr)) (fp : List Addr), PDG (X.blk s H scope (compEnvC scope cl C X.env) fp) tg vs g) (ht : ∀ (s : Shared) (H : Hp) (C : Addr) (cl : List (Str × Addr)) (fp : List Addr), PTs (X.blk s H scope (compEnvC scope cl C X.env) fp) ifs (tWT X.K p))
    (he : ∀ (s : Shared) (H : Hp) (C : Addr) (cl : List (Str × Addr)) (fp : List Addr), PD (X.blk s H scope (compEnvC scope cl C X.env) fp) elt e) (hs : ∀ x, foldedSetIterable iter X.env x = pure x := by intro _; rfl)
    (h1 : starEach [.SetComp elt [⟨tg, iter, ifs, 0⟩] scope pos] X.env = (false, eval (.SetComp elt [⟨tg, iter, ifs, 0⟩] scope pos) X.env) :: starEach [] X.env := by rfl) :
    PD X (.Call (.Name "len" p1) [.SetComp elt [⟨tg, iter, ifs, 0⟩] scope pos] [] pos2) (eSetLen it g p (putW vM e) (own.map (·.2))) :=
  qd_mk (pe_callB cr_lenM hg0 hm0 PySem.boot_len (pa_cons (pe_sq hc hN hu hi ok hg ht he hs) pa_nil h1) (he := h1)) (rd_setlen hvs (inW_put (kd := skM X.prog X.w X.K)))
end
def fSetLen (it : AF) (g : GD) (p : TF) (fb : DEnv → Option (List PyData)) (own : List Nat) : EF := fun ρ => (it ρ).bind fun xs => (flF (stB g p fb (wipeD ρ own)) xs).bind fun ys => (viewAll vM ys).bind fun ks => if (ddU ks).length < 62 then some (.int ((ddU ks).length : Int)) else none
theorem is_setlen {it : AD} {g : GD} {p : TD} {body : DEnv → List (List Key) → M (List (List Key))} {own : List Nat} {itf : AF} {pf : TF} {fb : DEnv → Option (List PyData)} (hi : IsA it itf) (hp : IsB p pf) (hb : IsBd (gaS vM) body fb) : IsE (eSetLen it g p body own) (fSetLen itf g pf fb own) := fun ρ n Q d h q => by
  obtain ⟨xs, e1, h⟩ := bind_is h
  obtain ⟨ys, e2, h⟩ := bind_is h
  obtain ⟨ks, e3, h⟩ := bind_is h
  obtain ⟨c, h⟩ := ite_is h
  cases h
  refine hi ρ n _ xs e1 (is_loop hp hb e2 ⟨ks, e3, c⟩ ?_)
  show Q (.int (((((viewAll vM ys).getD []).foldl addU [])).length : Int)) n
  rw [e3]
  exact q
theorem lt0 {a c : Nat} (h : a + 64 < c) : a < c := by omega
/-! ### t < u -/
theorem OpR.or {X : Cx} {f : Value → Value → Sem Value} {r r' : R2} (h : OpR X f r) (h' : OpR X f r') : OpR X f (fun x y H Q => r x y H Q ∨ r' x y H Q) := by
  intro pins s σ H x y v u Q I rx ry q
  rcases q with q | q
  · exact h pins s σ H x y v u Q I rx ry q
  · exact h' pins s σ H x y v u Q I rx ry q
def ltX : PyData → PyData → Option PyData
  | .int i, .int j => some (.bool (decide (i < j)))
  | .tuple xs, .tuple ys => (strsD xs).bind fun ks => (strsD ys).map fun ms => .bool (ltK ks ms)
  | _, _ => none
section
variable {K : PySem.W.Frag}
def rLtX (K : PySem.W.Frag) : R2 := fun x y H Q => (rI0 fun i j => .bl (decide (i < j))) x y H Q ∨ rLtK K x y H Q
theorem op_ltX {X : Cx} (hu : X.A.units < cLine) : OpR X (compareOp .Lt) (rLtX X.K) := OpR.or op_lt (op_ltK hu)
theorem pu_ltX : Pu2 K (rLtX K) ltX := by
  intro O H x y dx dy dz Q dm rx ry e k
  match dx, dy, e with
  | .int i, .int j, e =>
    exact .inl (pu_cmp (p := fun i j => decide (i < j)) dm rx ry e k)
  | .tuple xs, .tuple ys, e =>
    obtain ⟨ks, e1, e⟩ := Option.bind_eq_some_iff.mp e
    obtain ⟨ms, e2, rfl⟩ := Option.map_eq_some_iff.mp e
    cases rx with
    | tup h1 a1 _ =>
    cases ry with
    | tup h2 a2 _ =>
    refine .inr ⟨_, _, ks, ms, rfl, rfl, ?_, ?_, k _ H (Same.refl H) (.bl _)⟩
    · rw [← (rps_strs a1 e1).1]
      exact same_seqT hid_le h1
    · rw [← (rps_strs a2 e2).1]
      exact same_seqT hid_le h2
/-! ### times -/
def mulX : PyData → PyData → Option PyData
  | .int i, .int j => if i.natAbs < 2 ^ 32 ∧ j.natAbs < 2 ^ 32 then some (.int (i * j)) else none
  | .list xs, .int k => if 0 ≤ k ∧ k ≤ 1000 ∧ xs.length * k.toNat ≤ lim then some (.list (List.replicate k.toNat xs).flatten) else none
  | .tuple xs, .int k => if 1 ≤ k ∧ k ≤ 1000 ∧ xs ≠ [] ∧ xs.length ≤ 1000 ∧ xs.all (fun d => !pairLike d) = true then some (.tuple (List.replicate k.toNat xs).flatten) else none
  | .str z, .int k => if 1 ≤ k ∧ k ≤ 1000 ∧ 0 < z.length ∧ z.length ≤ 1000 ∧ (repS z k.toNat).length ≤ lim then some (.str (repS z k.toNat)) else none
  | _, _ => none
def rMulX (K : PySem.W.Frag) : R2 := fun x y H Q => ((rI CMulW fun i j => .int (i * j)) x y H Q ∨ rRep x y H Q) ∨ (rRepT K x y H Q ∨ rRepT1 K x y H Q) ∨ rRepS x y H Q
theorem op_mulX' {X : Cx} : OpR X (binaryOp .Mult) (rMulX X.K) := OpR.or (OpR.or op_mulW op_rep) (OpR.or (OpR.or op_repT op_repT1) op_repS)
theorem rps_rep {H : Hp} {vs : List V} {ds : List PyData} (h : RpAll K H vs ds) : ∀ m : Nat, RpAll K H (List.replicate m vs).flatten (List.replicate m ds).flatten
  | 0 => .nil
  | m + 1 => by
    rw [List.replicate_succ, List.replicate_succ, List.flatten_cons, List.flatten_cons]
    exact RpAll.app h (rps_rep h m)
theorem not_dictable {x : PyData} {xs : List PyData} (h : (x :: xs).all (fun d => !pairLike d) = true) (m : Nat) {P : Prop} (e : dictable (List.replicate (m + 1) (x :: xs)).flatten = true) : P := by
  rw [List.replicate_succ, List.flatten_cons] at e
  unfold dictable at e
  rw [List.cons_append, List.all_cons, Bool.and_eq_true] at e
  rw [List.all_cons, Bool.and_eq_true] at h
  rw [e.1] at h
  exact absurd h.1 Bool.false_ne_true
theorem pu_mulX : Pu2 K (rMulX K) mulX := by
  intro O H x y dx dy dz Q dm rx ry e k
  match dx, dy, e with
  | .int i, .int j, e =>
    obtain ⟨c, e⟩ := ite_some e
    subst e
    cases rx
    cases ry
    exact .inl (.inl ⟨_, _, rfl, rfl, wide_mul c.1 c.2 (by decide) (by decide) (by decide), k _ H (Same.refl H) (.int _)⟩)
  | .list xs, .int j, e =>
    obtain ⟨c, e⟩ := ite_some e
    subst e
    cases ry
    cases rx with
    | @lst a us _ h1 a1 =>
    have z := lim_le
    refine .inl (.inr ⟨a, j, us, rfl, rfl, hid_le _ _ h1, by omega, by omega, by rw [a1.len]; omega, fun p np => ?_⟩)
    have st := same_new (o := .lst (List.replicate j.toNat us).flatten) np
    exact k _ _ st (.lst (hid_new dm np) (RpAll.same (hid_same st) _ _ (rps_rep a1 _)))
  | .tuple xs, .int j, e =>
    obtain ⟨c, e⟩ := ite_some e
    subst e
    cases ry
    cases rx with
    | @tup a us _ h1 a1 hp =>
    by_cases one : j = 1
    · subst one
      refine .inr (.inl (.inr ⟨a, us, rfl, rfl, same_seqT hid_le h1, k _ H (Same.refl H) ?_⟩))
      rw [show (List.replicate (1 : Int).toNat xs).flatten = xs by simp]
      exact .tup h1 a1 hp
    · refine .inr (.inl (.inl ⟨a, j, us, rfl, rfl, same_seqT hid_le h1, fun e => c.2.2.1 (by rw [e] at a1; cases a1; rfl), by omega, c.2.1, by rw [a1.len]; exact c.2.2.2.1, fun p np => ?_⟩))
      have st := same_new (o := .tup (List.replicate j.toNat us).flatten) np
      refine k _ _ st (.tup (.inl (.inl (hid_new dm np))) (RpAll.same (hid_same st) _ _ (rps_rep a1 _)) fun d => ?_)
      cases xs with
      | nil => exact absurd rfl c.2.2.1
      | cons x xs =>
        obtain ⟨m, em⟩ : ∃ m, j.toNat = m + 1 := ⟨j.toNat - 1, by omega⟩
        rw [em] at d
        exact not_dictable c.2.2.2.2 m d
  | .str z, .int j, e =>
    obtain ⟨c, e⟩ := ite_some e
    subst e
    cases rx
    cases ry
    have w := lim_le
    exact .inr (.inr ⟨z, j, rfl, rfl, c.1, c.2.1, c.2.2.1, c.2.2.2.1, by omega, k _ H (Same.refl H) (.str _)⟩)
end
end My

/-! KD: stores as data: what the defs about unknowns, knots and blocks tell -/
namespace My
open PySem PySem.Spec PyProof.Rows L2
open TL (tl len_tl tl_append)
def digs : List Nat := [48, 49, 50, 51, 52, 53, 54, 55, 56, 57]
def isUnk (x : Str) : Bool := decide ((tl x).head? = some 63) && (decide (1 ≤ ((tl x).drop 1).length) && decide (((tl x).drop 1).length ≤ 5)) && !decide (((tl x).drop 1).head? = some 48) && ((tl x).drop 1).all fun c => decide (c ∈ digs)
theorem starts_one (x : Str) (c : Nat) : Txt.startswith x ⟨#[c]⟩ = decide ((tl x).head? = some c) := by
  have h := StrLaws.subAt_one x c 0
  have e : (tl x).head? = x.cps.toList[0]? := List.head?_eq_getElem?
  unfold Txt.startswith
  rw [Bool.eq_iff_iff, Bool.and_eq_true, decide_eq_true_eq, decide_eq_true_eq, h, e]
def letS : List Nat := (List.range 26).map (· + 97)
theorem let_is : ("abcdefghijklmnopqrstuvwxyz" : Str).cps.toList = letS := by decide +kernel
def fst (x : Str) : Nat := x.cps.getD 0 0
def opn (x : Str) : Bool := !decide (fst x ∈ letS)
def nmd (x : Str) : Bool := decide (fst x = 63)
def Txt1 (x : Str) : Prop := 1 ≤ x.length ∧ x.length ≤ 100
def OkF (f : List Str) : Prop := 1 ≤ f.length ∧ f.length ≤ 10 ∧ ∀ x ∈ f, Txt1 x
def OkL (L : List (List Str)) : Prop := L.length ≤ 100 ∧ ∀ f ∈ L, OkF f
theorem ixD_0 {x : Str} (h : Txt1 x) : ixD (.str x) (.int 0) = some (.str ⟨#[fst x]⟩) := by
  have e : ixD (.str x) (.int 0) = if x.length ≤ lim then (atI x.cps.toList 0).map fun c => .str ⟨#[c]⟩ else none := rfl
  rw [e, if_pos (Nat.le_trans h.2 (by decide))]
  obtain ⟨a⟩ := x
  obtain ⟨l⟩ := a
  cases l with
  | nil => exact absurd h.1 (by decide)
  | cons c r =>
    have z : atI (c :: r) (0 : Int) = some c := atI_nat (j := 0) rfl
    show (atI (c :: r) (0 : Int)).map _ = _
    rw [z]
    rfl
theorem sl1 (xs : List PyData) : slD (.tuple xs) (some 1) none = some (.tuple (xs.drop 1)) := by rw [slD_tup, cut_drop1]
theorem bT_drop (f : List Str) : (f.map PyData.str).drop 1 = (f.drop 1).map PyData.str := (List.map_drop ..).symm
theorem eqS_str (a b : Str) : eqS (.str a) (.str b) = decide (a = b) := by
  show (a == b) = _
  rw [Bool.eq_iff_iff]
  simp
theorem scal_strs (ks : List Str) : (ks.map PyData.str).all scalD = true := by
  rw [List.all_map]
  exact List.all_eq_true.mpr fun _ _ => rfl
theorem any_strs (x : Str) (ks : List Str) : ((ks.map PyData.str).any fun z => eqS z (.str x)) = decide (x ∈ ks) := by
  rw [List.any_map, Bool.eq_iff_iff, List.any_eq_true, decide_eq_true_eq]
  constructor
  · rintro ⟨z, hz, e⟩
    rw [Function.comp, eqS_str, decide_eq_true_eq] at e
    rw [← e]
    exact hz
  · exact fun h => ⟨x, h, by rw [Function.comp, eqS_str]; exact decide_eq_true rfl⟩
theorem inDs_strs (neg : Bool) (x : Str) (ks : List Str) (y : PyData) : inDs neg (.str x) (ks.map PyData.str) y = some (.bool (if neg = true then !decide (x ∈ ks) else decide (x ∈ ks))) := by
  unfold inDs
  rw [if_pos ⟨rfl, scal_strs ks⟩, any_strs]
theorem in_strs (x : Str) (ks : List Str) : inD false (.str x) (.tuple (ks.map PyData.str)) = some (.bool (decide (x ∈ ks))) := inDs_strs false x ks _
theorem notin_strs (x : Str) (ks : List Str) : inD true (.str x) (.tuple (ks.map PyData.str)) = some (.bool (!decide (x ∈ ks))) := inDs_strs true x ks _
theorem in_strsL (x : Str) (ks : List Str) : inD false (.str x) (.list (ks.map PyData.str)) = some (.bool (decide (x ∈ ks))) := inDs_strs false x ks _
theorem notin_strsL (x : Str) (ks : List Str) : inD true (.str x) (.list (ks.map PyData.str)) = some (.bool (!decide (x ∈ ks))) := inDs_strs true x ks _
def W_open : QM := fun ds Q => ∃ x, ds = [.str x] ∧ Txt1 x ∧ Q (.bool (opn x))
def W_unk : QM := fun ds Q => ∃ x, ds = [.str x] ∧ Txt1 x ∧ Q (.bool (isUnk x))
def touchB (g : List (List Str)) (f : List Str) : Bool := g.any fun row => (f.drop 1).any fun p => opn p && decide (p ∈ row)
def lsD (L : List (List Str)) : PyData := .list (L.map bT')
def W_touch : QM := fun ds Q => ∃ g f, ds = [lsD g, bT' f] ∧ OkL g ∧ OkF f ∧ Q (.bool (touchB g f))
def unkL (L : List (List Str)) : List Str := L.flatMap fun f => (f.drop 1).filter isUnk
def uns (L : List (List Str)) : List Str := sortU ltS (ddU (unkL L))
def uD (L : List (List Str)) : PyData := .tuple ((uns L).map bS)
def W_uns : QM := fun ds Q => ∃ L, (ds = [stD L] ∨ ds = [lsD L]) ∧ OkL L ∧ (ddU (unkL L)).length ≤ 60 ∧ Q (uD L)
theorem dd_snoc {α : Type} [DecidableEq α] (l : List α) (k : α) : ddU (l ++ [k]) = addU (ddU l) k := by
  unfold ddU
  rw [List.foldl_append]
  rfl
theorem dd_len {α : Type} [DecidableEq α] : ∀ (m l : List α), (ddU l).length ≤ (ddU (l ++ m)).length
  | [], l => by rw [List.append_nil]; exact Nat.le_refl _
  | x :: m, l => by
    have h1 := dd_len m (l ++ [x])
    rw [List.append_assoc] at h1
    have h2 : (ddU l).length ≤ (ddU (l ++ [x])).length := by
      rw [dd_snoc]
      exact addU_grow
    exact Nat.le_trans h2 h1
theorem filt_snoc {p : Str → Bool} {l : List Str} {x : Str} : (l ++ [x]).filter p = l.filter p ++ if p x = true then [x] else [] := by
  rw [List.filter_append]
  congr 1
  by_cases h : p x = true
  · rw [if_pos h, List.filter_cons_of_pos h, List.filter_nil]
  · rw [if_neg h, List.filter_cons_of_neg h, List.filter_nil]
def nmL (L : List (List Str)) : List Str := L.flatMap fun f => (f.drop 1).filter nmd
def nms (L : List (List Str)) : List Str := sortU ltS (ddU (nmL L))
def nD (L : List (List Str)) : PyData := .tuple ((nms L).map bS)
def W_nms : QM := fun ds Q => ∃ L, ds = [stD L] ∧ OkL L ∧ (nmL L).length ≤ 60 ∧ Q (nD L)
/-- knots -/
def addK (gs : List (List (List Str))) (f : List Str) : List (List (List Str)) := (gs.filter fun g => !touchB g f) ++ [(gs.filter fun g => touchB g f).flatten ++ [f]]
def knotsL (L : List (List Str)) : List (List (List Str)) := L.foldl addK []
def gsD (gs : List (List (List Str))) : PyData := .list (gs.map lsD)
def W_knots : QM := fun ds Q => ∃ L, ds = [stD L] ∧ OkL L ∧ Q (gsD (knotsL L))
theorem filter_flat {α : Type} (p : List α → Bool) : ∀ gs : List (List α), ((gs.filter fun g => !p g).flatten ++ (gs.filter p).flatten).Perm gs.flatten
  | [] => List.Perm.refl _
  | g :: gs => by
    have ih := filter_flat p gs
    cases h : p g with
    | true =>
      rw [List.filter_cons_of_neg (by rw [h]; decide), List.filter_cons_of_pos h, List.flatten_cons, List.flatten_cons]
      refine (List.perm_append_comm_assoc _ _ _).trans (ih.append_left g)
    | false =>
      rw [List.filter_cons_of_pos (by rw [h]; rfl), List.filter_cons_of_neg (by rw [h]; decide), List.flatten_cons, List.flatten_cons, List.append_assoc]
      exact ih.append_left g
theorem addK_perm (gs : List (List (List Str))) (f : List Str) : (addK gs f).flatten.Perm (gs.flatten ++ [f]) := by
  unfold addK
  rw [List.flatten_append]
  have e : ([(gs.filter fun g => touchB g f).flatten ++ [f]] : List (List (List Str))).flatten = (gs.filter fun g => touchB g f).flatten ++ [f] := by simp
  rw [e, ← List.append_assoc]
  exact (filter_flat (fun g => touchB g f) gs).append_right [f]
theorem knots_snoc (L : List (List Str)) (f : List Str) : knotsL (L ++ [f]) = addK (knotsL L) f := by
  unfold knotsL
  rw [List.foldl_append]
  rfl
theorem snoc_ind {α : Type} {p : List α → Prop} (h0 : p []) (h1 : ∀ l x, p l → p (l ++ [x])) (l : List α) : p l := by
  have h : ∀ r : List α, p r.reverse := fun r => by
    induction r with
    | nil => exact h0
    | cons x r ih =>
      rw [List.reverse_cons]
      exact h1 _ _ ih
  have z := h l.reverse
  rwa [List.reverse_reverse] at z
theorem knots_perm (L : List (List Str)) : (knotsL L).flatten.Perm L := snoc_ind (p := fun L => (knotsL L).flatten.Perm L) (List.Perm.refl _) (fun L f ih => by
  show (knotsL (L ++ [f])).flatten.Perm (L ++ [f])
  rw [knots_snoc]
  exact (addK_perm _ f).trans (ih.append_right [f])) L
theorem flat_len {α : Type} {g : List α} {gs : List (List α)} (h : g ∈ gs) : g.length ≤ gs.flatten.length := by
  obtain ⟨a, b, rfl⟩ := List.append_of_mem h
  rw [List.flatten_append, List.flatten_cons, List.length_append, List.length_append]
  omega
theorem knots_ok {L : List (List Str)} (h : OkL L) : ∀ g ∈ knotsL L, OkL g := fun g hg => by
  have pm := knots_perm L
  refine ⟨Nat.le_trans (flat_len hg) (by rw [pm.length_eq]; exact h.1), fun f hf => h.2 f (pm.mem_iff.mp (List.mem_flatten.mpr ⟨g, hg, hf⟩))⟩
theorem add_ne {gs : List (List (List Str))} {f : List Str} (h : ∀ g ∈ gs, g ≠ []) : ∀ g ∈ addK gs f, g ≠ [] := fun g hg => by
  unfold addK at hg
  rcases List.mem_append.mp hg with hg | hg
  · exact h g (List.mem_filter.mp hg).1
  · rw [List.mem_singleton.mp hg]
    simp
theorem knots_ne (L : List (List Str)) : ∀ g ∈ knotsL L, g ≠ [] := snoc_ind (p := fun L => ∀ g ∈ knotsL L, g ≠ []) (fun g hg => by cases hg) (fun L f ih => by
  show ∀ g ∈ knotsL (L ++ [f]), g ≠ []
  rw [knots_snoc]
  exact add_ne ih) L
theorem len_le_flat {α : Type} : ∀ {gs : List (List α)}, (∀ g ∈ gs, g ≠ []) → gs.length ≤ gs.flatten.length
  | [], _ => Nat.le_refl _
  | g :: gs, h => by
    have ih := len_le_flat fun x hx => h x (List.mem_cons_of_mem _ hx)
    have hg := List.length_pos_iff.mpr (h g List.mem_cons_self)
    rw [List.length_cons, List.flatten_cons, List.length_append]
    omega
theorem knots_len (L : List (List Str)) : (knotsL L).length ≤ L.length := by
  have z := len_le_flat (knots_ne L)
  rwa [(knots_perm L).length_eq] at z
theorem sub_flat {α : Type} {l m : List (List α)} (h : l.Sublist m) : l.flatten.length ≤ m.flatten.length := by
  induction h with
  | slnil => exact Nat.le_refl _
  | cons x _ ih => rw [List.flatten_cons, List.length_append]; omega
  | cons_cons x _ ih => rw [List.flatten_cons, List.flatten_cons, List.length_append, List.length_append]; omega
theorem gs_items (gs : List (List (List Str))) : itemsD (gsD gs) = some (gs.map lsD) := rfl
theorem ls_items (L : List (List Str)) : itemsD (lsD L) = some (L.map bT') := rfl
theorem st_items (L : List (List Str)) : itemsD (stD L) = some (L.map bT') := rfl
end My

/-! DBlk: blocks and what is due, as data -/
namespace My
open PySem PySem.Spec PyProof.Rows L2
open TL (tl len_tl tl_append)
/-- small stores -/
def Sml (L : List (List Str)) : Prop := L.length ≤ 10 ∧ ∀ f ∈ L, OkF f ∧ f.length ≤ 5
theorem Sml.ok {L : List (List Str)} (h : Sml L) : OkL L := ⟨by have := h.1; omega, fun f hf => (h.2 f hf).1⟩
theorem ddU_le {α : Type} [DecidableEq α] (l : List α) : (ddU l).length ≤ l.length := snoc_ind (p := fun l => (ddU l).length ≤ l.length) (Nat.le_refl _) (fun l x ih => by
  show (ddU (l ++ [x])).length ≤ (l ++ [x]).length
  rw [dd_snoc, List.length_append]
  exact Nat.le_trans addU_len (Nat.succ_le_succ ih)) l
theorem Sml.fm {p : Str → Bool} : ∀ {L : List (List Str)}, (∀ f ∈ L, f.length ≤ 5) → (L.flatMap fun f => (f.drop 1).filter p).length ≤ 4 * L.length
  | [], _ => Nat.le_refl _
  | f :: L, h => by
    have ih := Sml.fm (p := p) fun x hx => h x (List.mem_cons_of_mem _ hx)
    have h1 := h f List.mem_cons_self
    have h2 := List.length_filter_le p (f.drop 1)
    rw [List.length_drop] at h2
    rw [List.flatMap_cons, List.length_append, List.length_cons]
    omega
theorem Sml.unk {L : List (List Str)} (h : Sml L) : (unkL L).length ≤ 40 := by
  have z := Sml.fm (p := isUnk) fun f hf => (h.2 f hf).2
  have := h.1
  exact Nat.le_trans z (by omega)
theorem Sml.nm {L : List (List Str)} (h : Sml L) : (nmL L).length ≤ 40 := by
  have z := Sml.fm (p := nmd) fun f hf => (h.2 f hf).2
  have := h.1
  exact Nat.le_trans z (by omega)
theorem Sml.dd {L : List (List Str)} (h : Sml L) : (ddU (unkL L)).length ≤ 60 := Nat.le_trans (ddU_le _) (Nat.le_trans h.unk (by decide))
theorem knots_sm {L : List (List Str)} (h : Sml L) : ∀ g ∈ knotsL L, Sml g := fun g hg => by
  have pm := knots_perm L
  exact ⟨Nat.le_trans (flat_len hg) (by rw [pm.length_eq]; exact h.1), fun f hf => h.2 f (pm.mem_iff.mp (List.mem_flatten.mpr ⟨g, hg, hf⟩))⟩
def blk (L : List (List Str)) : List (List Str) := sortU ltK (((knotsL L).map uns).filter fun k => !k.isEmpty)
def W_blocks : QM := fun ds Q => ∃ L, ds = [stD L] ∧ Sml L ∧ Q (.tuple ((blk L).map bT'))
/-- a pass of spreading -/
def stp (own : List Str) (f : List Str) : List Str := if (f.drop 1).any (fun y => decide (y ∈ own)) = true then sortU ltS (ddU (own ++ nms [f])) else own
def pass (L : List (List Str)) (own : List Str) : List Str := L.foldl stp own
def sprd (L : List (List Str)) : Nat → List Str → List Str
  | 0, own => own
  | n + 1, own => pass L (sprd L n own)
def dueL (L : List (List Str)) : List (List Str) := sortU ltK (ddU ((nms L).map fun x => sprd L 6 [x]))
def W_due : QM := fun ds Q => ∃ L, ds = [stD L] ∧ Sml L ∧ Q (.tuple ((dueL L).map bT'))
def W_names : QM := fun ds Q => ∃ L, ds = [stD L] ∧ Sml L ∧ Q (nD L)
theorem strs_map : ∀ ks : List Str, strsD (ks.map PyData.str) = some ks
  | [] => rfl
  | k :: ks => by
    show (strsD (ks.map PyData.str)).map (k :: ·) = _
    rw [strs_map ks]
    rfl
theorem view_S : ∀ ks : List Str, viewAll vS (ks.map PyData.str) = some ks
  | [] => rfl
  | k :: ks => by
    show (viewAll vS (ks.map PyData.str)).map (k :: ·) = _
    rw [view_S ks]
    rfl
theorem view_T : ∀ {ks : List (List Str)}, (∀ k ∈ ks, k ≠ []) → viewAll vT (ks.map bT') = some ks
  | [], _ => rfl
  | k :: ks, h => by
    have e : vT (bT' k) = some k := by
      show (match strsD (k.map PyData.str) with
        | some (k :: ks) => some (k :: ks)
        | _ => none) = some k
      rw [strs_map]
      cases k with
      | nil => exact absurd rfl (h [] List.mem_cons_self)
      | cons => rfl
    show (vT (bT' k)).bind (fun k => (viewAll vT (ks.map bT')).map (k :: ·)) = _
    rw [e, view_T fun z m => h z (List.mem_cons_of_mem _ m)]
    rfl
theorem sortTD_map {ks : List (List Str)} (h : ∀ k ∈ ks, k ≠ []) : sortTD [.list (ks.map bT')] = some (.list ((sortU ltK ks).map bT')) := by
  show (viewAll vT (ks.map bT')).map _ = _
  rw [view_T h]
  rfl
theorem q_is (x : Str) : ((⟨#[fst x]⟩ : Str) == "?") = nmd x := by
  have e : ("?" : Str) = ⟨#[63]⟩ := by decide +kernel
  rw [e]
  unfold nmd
  rw [Bool.eq_iff_iff]
  simp
theorem q_is' (x : Str) : decide ((⟨#[fst x]⟩ : Str) = "?") = nmd x := by
  rw [← q_is]
  rw [Bool.eq_iff_iff]
  simp
def ones (k : Nat) : List PyData := List.replicate k (.int 1)
theorem ones_ne : ∀ {k : Nat}, k ≤ 4 → neD (.list (ones k)) (.list []) = some (.bool (!decide (k = 0)))
  | 0, _ => rfl
  | 1, _ => rfl
  | 2, _ => rfl
  | 3, _ => rfl
  | 4, _ => rfl
  | k + 5, h => absurd h (by omega)
theorem sub_len {α : Type} [DecidableEq α] : ∀ {l m : List α}, l.Nodup → (∀ x ∈ l, x ∈ m) → l.length ≤ m.length
  | [], _, _, _ => Nat.zero_le _
  | x :: l, m, nd, h => by
    rw [List.nodup_cons] at nd
    have hx := h x List.mem_cons_self
    have ih := sub_len (l := l) (m := m.erase x) nd.2 fun y hy => (List.mem_erase_of_ne (fun e => nd.1 (by rw [← e]; exact hy))).mpr (h y (List.mem_cons_of_mem _ hy))
    rw [List.length_erase_of_mem hx] at ih
    have := List.length_pos_of_mem hx
    rw [List.length_cons]
    omega
/-- a lot of some of these names -/
def Ow (m : List Str) (own : List Str) : Prop := own.Nodup ∧ (∀ x ∈ own, x ∈ m) ∧ own ≠ []
theorem srt_nd {α : Type} {lt : α → α → Bool} {l : List α} (h : l.Nodup) : (sortU lt l).Nodup := (sortU_perm l).nodup_iff.mpr h
theorem srt_mem {α : Type} {lt : α → α → Bool} {l : List α} {x : α} : x ∈ sortU lt l ↔ x ∈ l := (sortU_perm l).mem_iff
theorem nms_mem {L : List (List Str)} {x : Str} : x ∈ nms L ↔ x ∈ nmL L := srt_mem.trans ddU_mem
theorem nms_nd (L : List (List Str)) : (nms L).Nodup := srt_nd (ddU_nd _)
theorem nml_one {L : List (List Str)} {f : List Str} {x : Str} (h : f ∈ L) (m : x ∈ nmL [f]) : x ∈ nmL L := by
  unfold nmL at m ⊢
  rw [List.flatMap_cons, List.flatMap_nil, List.append_nil] at m
  exact List.mem_flatMap.mpr ⟨f, h, m⟩
theorem stp_ow {L : List (List Str)} {own : List Str} {f : List Str} (hf : f ∈ L) (h : Ow (nmL L) own) : Ow (nmL L) (stp own f) := by
  unfold stp
  split
  · refine ⟨srt_nd (ddU_nd _), fun x hx => ?_, fun e => ?_⟩
    · rcases List.mem_append.mp (ddU_mem.mp (srt_mem.mp hx)) with hx | hx
      · exact h.2.1 x hx
      · exact nml_one hf (nms_mem.mp hx)
    · obtain ⟨y, hy⟩ := List.exists_mem_of_ne_nil _ h.2.2
      have z : y ∈ sortU ltS (ddU (own ++ nms [f])) := srt_mem.mpr (ddU_mem.mpr (List.mem_append_left _ hy))
      rw [e] at z
      cases z
  · exact h
theorem fold_ow {L : List (List Str)} : ∀ {M : List (List Str)} {own : List Str}, (∀ f ∈ M, f ∈ L) → Ow (nmL L) own → Ow (nmL L) (M.foldl stp own)
  | [], _, _, h => h
  | f :: M, own, s, h => fold_ow (M := M) (fun x m => s x (List.mem_cons_of_mem _ m)) (stp_ow (s f List.mem_cons_self) h)
theorem sprd_ow {L : List (List Str)} {x : Str} (hx : x ∈ nmL L) : ∀ n : Nat, Ow (nmL L) (sprd L n [x])
  | 0 => ⟨by show ([x] : List Str).Nodup; simp, (fun y hy => by rw [List.mem_singleton.mp hy]; exact hx), (fun e => by cases e)⟩
  | n + 1 => fold_ow (fun _ h => h) (sprd_ow hx n)
theorem Ow.len {L : List (List Str)} {own : List Str} (hL : Sml L) (h : Ow (nmL L) own) : own.length ≤ 40 := Nat.le_trans (sub_len h.1 h.2.1) hL.nm
theorem any_filt {α : Type} {p : α → Bool} {l : List α} : (!decide ((l.filter p).length = 0)) = l.any p := by
  rw [Bool.eq_iff_iff, List.any_eq_true]
  constructor
  · intro h
    have z : (l.filter p).length ≠ 0 := by simpa using h
    obtain ⟨x, hx⟩ := List.exists_mem_of_ne_nil (l.filter p) (fun e => z (by rw [e]; rfl))
    exact ⟨x, (List.mem_filter.mp hx).1, (List.mem_filter.mp hx).2⟩
  · rintro ⟨x, hx, hp⟩
    have z := List.length_pos_of_mem (List.mem_filter.mpr ⟨hx, hp⟩)
    simpa using Nat.ne_of_gt z
theorem nms_four {f : List Str} (h : f.length ≤ 5) : (nms [f]).length ≤ 4 := by
  have z1 := sub_len (nms_nd [f]) fun x h => nms_mem.mp h
  have z2 := List.length_filter_le nmd (f.drop 1)
  have e : nmL [f] = (f.drop 1).filter nmd := by
    unfold nmL
    rw [List.flatMap_cons, List.flatMap_nil, List.append_nil]
  rw [List.length_drop] at z2
  rw [e] at z1
  omega
theorem rangeD_len (m : Int) : (rangeD m).length = m.toNat := by unfold rangeD; rw [List.length_map, List.length_range]
def W_stW : List PyData → M PyData := fun ds n Q => ∃ (ks : List Kd) (vals : List Str) (m : Nat), ds = [.list (ks.map kdD), .list (vals.map PyData.str), .int (m : Int)] ∧ m ≤ 60 ∧ n + 1000 < 1073741824 ∧ ks ≠ [] ∧ ks.length ≤ 10 ∧ (∀ t ∈ ks, Wd t.1 ∧ 0 < t.2 ∧ t.2 ≤ 4) ∧ vals ≠ [] ∧ vals.length ≤ 100 ∧
  ∀ (L : List (List Str)) (n' : Nat), L.length ≤ m → (∀ k ∈ L, FcOk ks vals k) → Asc ltK L → n' ≤ n + 1 + 10 * m → Q (stD L) n'
def W_oneL : List PyData → M PyData := fun ds n Q => ∃ xs, ds = [.list xs] ∧ xs ≠ [] ∧ xs.length ≤ lim ∧ n < 1073741824 ∧ ∀ y ∈ xs, Q y (n + 1)
end My

set_option linter.unusedSimpArgs false
/-! JT: reckoning with functions of data; tables of texts; ways to fit -/
namespace My
open PySem PySem.Spec PyProof.Rows L2
section
variable {α : Type} {enc : α → PyData}
theorem lcF_map {st : PyData → Option (Option PyData)} {h : α → PyData} : ∀ {xs : List α}, (∀ x ∈ xs, st (enc x) = some (some (h x))) → lcF st (xs.map enc) = some (xs.map h)
  | [], _ => rfl
  | x :: xs, H => by
    show (st (enc x)).bind _ = _
    rw [H x List.mem_cons_self, Option.bind_some, lcF_map fun y hy => H y (List.mem_cons_of_mem _ hy)]
    rfl
theorem lcF_filt {st : PyData → Option (Option PyData)} {h : α → PyData} {p : α → Bool} : ∀ {xs : List α}, (∀ x ∈ xs, st (enc x) = some (if p x = true then some (h x) else none)) → lcF st (xs.map enc) = some ((xs.filter p).map h)
  | [], _ => rfl
  | x :: xs, H => by
    show (st (enc x)).bind _ = _
    rw [H x List.mem_cons_self, Option.bind_some, lcF_filt fun y hy => H y (List.mem_cons_of_mem _ hy)]
    by_cases c : p x = true
    · rw [if_pos c, List.filter_cons_of_pos c]
      rfl
    · rw [if_neg c, List.filter_cons_of_neg c]
      rfl
theorem lcF_opt {st : PyData → Option (Option PyData)} {h : α → Option PyData} : ∀ {xs : List α}, (∀ x ∈ xs, st (enc x) = some (h x)) → lcF st (xs.map enc) = some (xs.filterMap h)
  | [], _ => rfl
  | x :: xs, H => by
    show (st (enc x)).bind _ = _
    rw [H x List.mem_cons_self, Option.bind_some, lcF_opt fun y hy => H y (List.mem_cons_of_mem _ hy)]
    cases c : h x with
    | none => rw [List.filterMap_cons_none c]; rfl
    | some y => rw [List.filterMap_cons_some c]; rfl
theorem flF_map {st : PyData → Option (List PyData)} {h : α → List PyData} : ∀ {xs : List α}, (∀ x ∈ xs, st (enc x) = some (h x)) → flF st (xs.map enc) = some (xs.flatMap h)
  | [], _ => rfl
  | x :: xs, H => by
    show (st (enc x)).bind _ = _
    rw [H x List.mem_cons_self, Option.bind_some, flF_map fun y hy => H y (List.mem_cons_of_mem _ hy)]
    rfl
end
theorem lcF_map0 {st : PyData → Option (Option PyData)} {h : PyData → PyData} {xs : List PyData} (H : ∀ x ∈ xs, st x = some (some (h x))) : lcF st xs = some (xs.map h) := by
  have z := lcF_map (enc := id) (h := h) H
  rwa [List.map_id] at z
theorem lcF_filt0 {st : PyData → Option (Option PyData)} {h : PyData → PyData} {p : PyData → Bool} {xs : List PyData} (H : ∀ x ∈ xs, st x = some (if p x = true then some (h x) else none)) : lcF st xs = some ((xs.filter p).map h) := by
  have z := lcF_filt (enc := id) (h := h) H
  rwa [List.map_id] at z
theorem fnF_at {k N : Nat} {S : SF} {ds : List PyData} (h : ds.length = k) : fnF k N S ds = (S (envF N ds)).bind outF := if_pos h
theorem seq_nx {a b : SF} {ρ ρ' : DEnv} (h : a ρ = some (.nx ρ')) : fSeq a b ρ = b ρ' := by
  unfold fSeq
  rw [h]
  rfl
theorem seq_rt {a b : SF} {ρ : DEnv} {d : PyData} (h : a ρ = some (.rt d)) : fSeq a b ρ = some (.rt d) := by
  unfold fSeq
  rw [h]
  rfl
theorem ifS_t {c : TF} {a b : SF} {ρ : DEnv} (h : c ρ = some true) : fIfS c a b ρ = a ρ := by
  unfold fIfS
  rw [h]
  rfl
theorem ifS_f {c : TF} {a b : SF} {ρ : DEnv} (h : c ρ = some false) : fIfS c a b ρ = b ρ := by
  unfold fIfS
  rw [h]
  rfl
theorem for_is {it : AF} {g : GD} {b : SF} {ρ : DEnv} {xs : List PyData} {r : Fl} (hi : it ρ = some xs) (h : forF g b xs ρ = some r) : fFor it g b ρ = some r := by
  unfold fFor
  rw [hi]
  exact h
theorem set_is {i : Nat} {f : EF} {ρ : DEnv} {d : PyData} (h : f ρ = some d) : fSet i f ρ = some (.nx (ρ.set i (some (.d d)))) := by
  unfold fSet
  rw [h]
  rfl
theorem call_is {F : List PyData → Option PyData} {a : AF} {ρ : DEnv} {xs : List PyData} {d : PyData} (ha : a ρ = some xs) (h : F xs = some d) : fCall F a ρ = some d := by
  unfold fCall
  rw [ha]
  exact h
theorem op_is {F : PyData → PyData → Option PyData} {a b : EF} {ρ : DEnv} {x y z : PyData} (ha : a ρ = some x) (hb : b ρ = some y) (h : F x y = some z) : fOp F a b ρ = some z := by
  unfold fOp
  rw [ha, hb]
  exact h
theorem co1 {f : EF} {ρ : DEnv} {x : PyData} (h : f ρ = some x) : fCo f fN ρ = some [x] := by
  unfold fCo
  rw [h]
  rfl
theorem co_is {f : EF} {g : AF} {ρ : DEnv} {x : PyData} {xs : List PyData} (h : f ρ = some x) (k : g ρ = some xs) : fCo f g ρ = some (x :: xs) := by
  unfold fCo
  rw [h, k]
  rfl
theorem sort_is {α : Type} [DecidableEq α] {view : PyData → Option α} {back : α → PyData} {lt : α → α → Bool} {it : AF} {g : GD} {p : TF} {fb : DEnv → Option (List PyData)} {own : List Nat} {ρ : DEnv} {xs ys : List PyData} {d : PyData} (hi : it ρ = some xs) (h : flF (stB g p fb (wipeD ρ own)) xs = some ys) (hs : srtF view back lt ys = some d) : fSort view back lt it g p fb own ρ = some d := by
  unfold fSort
  rw [hi, Option.bind_some, h]
  exact hs
theorem sets_is {α : Type} [DecidableEq α] {view : PyData → Option α} {back : α → PyData} {lt : α → α → Bool} {f : EF} {ρ : DEnv} {x : PyData} {xs : List PyData} {ks : List α} (hf : f ρ = some x) (hx : x = .list xs ∨ x = .tuple xs) (hv : viewAll view xs = some ks) (l : ks.length < 63) : fSortSet view back lt f ρ = some (.list ((sortU lt (ddU ks)).map back)) := by
  unfold fSortSet
  rw [hf, Option.bind_some]
  rcases hx with rfl | rfl
  · show (viewAll view xs).bind _ = _
    rw [hv, Option.bind_some, if_pos l]
  · show (viewAll view xs).bind _ = _
    rw [hv, Option.bind_some, if_pos l]
theorem st_yes {g : GD} {e : EF} {ρ0 ρ' : DEnv} {x y : PyData} (hg : g x ρ0 = some ρ') (he : e ρ' = some y) : stF g tfYes e ρ0 x = some (some y) := by
  unfold stF
  rw [hg, Option.bind_some]
  show (if true = true then (e ρ').map some else some none) = _
  rw [if_pos rfl, he]
  rfl
theorem nil_lst {ρ : DEnv} : fLst fN ρ = some (.list []) := by
  unfold fLst fN
  rw [Option.bind_some]
  exact if_pos (Nat.zero_le _)
theorem ret_is {f : EF} {ρ : DEnv} {d : PyData} (h : f ρ = some d) : fRet f ρ = some (.rt d) := by
  unfold fRet
  rw [h]
  rfl
theorem lc_is {it : AF} {g : GD} {p : TF} {e : EF} {own : List Nat} {ρ : DEnv} {xs ys : List PyData} (hi : it ρ = some xs) (l : xs.length ≤ lim) (h : lcF (stF g p e (wipeD ρ own)) xs = some ys) : fLc it g p e own ρ = some (.list ys) := by
  unfold fLc
  rw [hi, Option.bind_some, if_pos l, h]
  rfl
theorem out_rt {S : SF} {ρ : DEnv} {d : PyData} (h : S ρ = some (.rt d)) : (S ρ).bind outF = some d := by
  rw [h]
  rfl
/-- a loop, by what holds between its turns -/
theorem forF_inv {g : GD} {b : SF} {xs : List PyData} {R : Fl → Prop} (I : Nat → DEnv → Prop)
    (step : ∀ (i : Nat) (x : PyData) (ρ : DEnv), xs[i]? = some x → I i ρ → ∃ ρ1, g x ρ = some ρ1 ∧ ∃ r, b ρ1 = some r ∧ match r with
      | .nx ρ2 => I (i + 1) ρ2
      | .ct ρ2 => I (i + 1) ρ2
      | .bk ρ2 => R (.nx ρ2)
      | .rt d => R (.rt d))
    (last : ∀ ρ, I xs.length ρ → R (.nx ρ)) {ρ : DEnv} (h0 : I 0 ρ) : ∃ r, forF g b xs ρ = some r ∧ R r := by
  have main : ∀ (k i : Nat) (ρ : DEnv), xs.length = i + k → I i ρ → ∃ r, forF g b (xs.drop i) ρ = some r ∧ R r := by
    intro k
    induction k with
    | zero =>
      intro i ρ e h
      rw [List.drop_eq_nil_of_le (by omega)]
      exact ⟨_, rfl, last ρ (by rw [e]; exact h)⟩
    | succ k ih =>
      intro i ρ e h
      have l : i < xs.length := by omega
      rw [List.drop_eq_getElem_cons l]
      obtain ⟨ρ1, e1, r, e2, z⟩ := step i xs[i] ρ (List.getElem?_eq_getElem l) h
      show ∃ r, (g xs[i] ρ).bind _ = some r ∧ R r
      rw [e1, Option.bind_some, e2, Option.bind_some]
      cases r with
      | nx ρ2 => exact ih (i + 1) ρ2 (by omega) z
      | ct ρ2 => exact ih (i + 1) ρ2 (by omega) z
      | bk ρ2 => exact ⟨_, rfl, z⟩
      | rt d => exact ⟨_, rfl, z⟩
  exact main xs.length 0 ρ (by omega) h0
theorem ix0 {x : PyData} {xs : List PyData} : ixD (.tuple (x :: xs)) (.int 0) = some x := by
  show atI (x :: xs) 0 = some x
  exact atI_nat (j := 0) rfl
theorem ix1 {x y : PyData} {xs : List PyData} : ixD (.tuple (x :: y :: xs)) (.int 1) = some y := by
  show atI (x :: y :: xs) 1 = some y
  exact atI_nat (j := 1) rfl
/-! ### tables of texts -/
abbrev Tb := List (Str × Str)
def pS (p : Str × Str) : PyData × PyData := (.str p.1, .str p.2)
def kvT (T : Tb) : DKv := T.map pS
def tabD (T : Tb) : PyData := .dict (kvT T)
def putT (T : Tb) (y z : Str) : Tb := if (T.any fun p => decide (p.1 = y)) = true then T.map (fun p => if p.1 = y then (p.1, z) else p) else T ++ [(y, z)]
theorem hasK_pS (p : Str × Str) (y : Str) : hasK (pS p) (.inr y) = decide (p.1 = y) := by
  unfold hasK pS
  show decide (some (Sum.inr p.1) = some (Sum.inr y)) = _
  exact decide_eq_decide.mpr ⟨fun e => by cases e; rfl, fun e => by rw [e]⟩
theorem valD_kv (y : Str) : ∀ T : Tb, valD (kvT T) (.inr y) = (T.lookup y).map PyData.str
  | [] => rfl
  | p :: T => by
    unfold valD kvT
    rw [List.map_cons, List.find?_cons, hasK_pS]
    by_cases c : p.1 = y
    · rw [decide_eq_true c, List.lookup_cons, c]
      simp [pS]
    · rw [decide_eq_false c, List.lookup_cons]
      have c' : (y == p.1) = false := by
        rw [beq_eq_false_iff_ne]
        exact fun e => c e.symm
      rw [c']
      exact valD_kv y T
theorem putD_kv (T : Tb) (y z : Str) : putD (kvT T) (.inr y) (.str z) = kvT (putT T y z) := by
  unfold putD putT kvT
  have e : ((T.map pS).any fun p => hasK p (.inr y)) = T.any fun p => decide (p.1 = y) := by
    rw [List.any_map]
    congr 1
    funext p
    exact hasK_pS p y
  rw [e]
  split
  · rw [List.map_map, List.map_map]
    refine List.map_congr_left fun p _ => ?_
    show (if hasK (pS p) (.inr y) = true then ((pS p).1, PyData.str z) else pS p) = pS (if p.1 = y then (p.1, z) else p)
    rw [hasK_pS]
    by_cases c : p.1 = y
    · rw [decide_eq_true c, if_pos rfl, if_pos c]
      rfl
    · rw [decide_eq_false c, if_neg Bool.false_ne_true, if_neg c]
  · rw [List.map_append]
    rfl
theorem putT_len (T : Tb) (y z : Str) : (putT T y z).length ≤ T.length + 1 := by
  unfold putT
  split
  · rw [List.length_map]
    omega
  · rw [List.length_append]
    exact Nat.le_refl _
theorem look_map {T : Tb} {y z x : Str} : (T.map fun p => if p.1 = y then (p.1, z) else p).lookup x = if x = y then (T.lookup y).map fun _ => z else T.lookup x := by
  induction T with
  | nil => simp
  | cons p T ih =>
    rw [List.map_cons, List.lookup_cons, List.lookup_cons, List.lookup_cons, ih]
    by_cases c : p.1 = y
    · rw [if_pos c]
      show (match x == p.1 with | true => some z | false => _) = _
      by_cases d : x = y
      · rw [if_pos d, d, c]
        simp
      · have d' : (x == p.1) = false := by
          rw [beq_eq_false_iff_ne, c]
          exact d
        rw [d', if_neg d, if_neg d]
    · rw [if_neg c]
      have c' : (y == p.1) = false := by
        rw [beq_eq_false_iff_ne]
        exact fun e => c e.symm
      rw [c']
      by_cases d : x = y
      · rw [if_pos d, if_pos d, d, c']
      · rw [if_neg d, if_neg d]
theorem look_any {T : Tb} {y : Str} : (T.any fun p => decide (p.1 = y)) = (T.lookup y).isSome := by
  induction T with
  | nil => rfl
  | cons p T ih =>
    rw [List.any_cons, List.lookup_cons, ih]
    by_cases c : p.1 = y
    · rw [decide_eq_true c, c]
      simp
    · have c' : (y == p.1) = false := by
        rw [beq_eq_false_iff_ne]
        exact fun e => c e.symm
      rw [decide_eq_false c, c']
      rfl
theorem look_app {T U : Tb} {y : Str} : (T ++ U).lookup y = (T.lookup y).or (U.lookup y) := by
  induction T with
  | nil => rfl
  | cons p T ih =>
    rw [List.cons_append, List.lookup_cons, List.lookup_cons, ih]
    cases y == p.1 <;> rfl
theorem look_put (T : Tb) (y z x : Str) : (putT T y z).lookup x = if x = y then some z else T.lookup x := by
  unfold putT
  rw [look_any]
  cases h : T.lookup y with
  | some w =>
    rw [if_pos (show (some w).isSome = true from rfl), look_map, h]
    rfl
  | none =>
    rw [if_neg (by simp), look_app]
    by_cases d : x = y
    · rw [if_pos d, d, h]
      simp
    · rw [if_neg d]
      have d' : (x == y) = false := by
        rw [beq_eq_false_iff_ne]
        exact d
      cases T.lookup x with
      | none => simp [d']
      | some _ => rfl
theorem putT_keys (T : Tb) (y z : Str) : (putT T y z).map (·.1) = if (T.lookup y).isSome = true then T.map (·.1) else T.map (·.1) ++ [y] := by
  unfold putT
  rw [look_any]
  split
  · rw [List.map_map]
    refine List.map_congr_left fun p _ => ?_
    show (if p.1 = y then (p.1, z) else p).1 = p.1
    split <;> rfl
  · rw [List.map_append]
    rfl
theorem look_mem {T : Tb} {y : Str} : (T.lookup y).isSome = true ↔ y ∈ T.map (·.1) := by
  rw [← look_any, List.any_eq_true, List.mem_map]
  exact ⟨fun ⟨p, h, e⟩ => ⟨p, h, of_decide_eq_true e⟩, fun ⟨p, h, e⟩ => ⟨p, h, decide_eq_true e⟩⟩
theorem putT_nd {T : Tb} {y z : Str} (h : (T.map (·.1)).Nodup) : ((putT T y z).map (·.1)).Nodup := by
  rw [putT_keys]
  split
  · exact h
  · rename_i c
    rw [look_mem] at c
    rw [List.nodup_append]
    exact ⟨h, (List.nodup_cons.mpr ⟨List.not_mem_nil, List.nodup_nil⟩), fun a ha b hb e => c (by rw [List.mem_singleton.mp hb] at e; rw [← e]; exact ha)⟩
end My

set_option linter.unusedSimpArgs false
/-! JW: any values: words, unknowns, pairs, as the law and the program tell them -/
namespace My
open PySem PySem.Spec PyProof.Rows L2
mutual
theorem flat_lay : ∀ d : PyData, d.canLay0 = true → flatD d = true
  | .none, _ => rfl
  | .bool _, _ => rfl
  | .int _, _ => rfl
  | .str _, _ => rfl
  | .list xs, h => flat_lays xs (by simpa only [PyData.canLay0] using h)
  | .tuple xs, h => flat_lays xs (by simpa only [PyData.canLay0] using h)
  | .dict _, h => by simp [PyData.canLay0] at h
theorem flat_lays : ∀ ds : List PyData, PyData.canLayAll0 ds = true → flatAll ds = true
  | [], _ => rfl
  | d :: ds, h => by
    simp only [PyData.canLayAll0, Bool.and_eq_true] at h
    simp only [flatAll, Bool.and_eq_true]
    exact ⟨flat_lay d h.1, flat_lays ds h.2⟩
end
theorem deep_of {x y : PyData} (hx : SeqAt.shaped x = true) (hy : SeqAt.shaped y = true) : deepD x y = true := by
  unfold deepD
  rw [flat_lay x (SeqAt.canLay_of_shaped hx), flat_lay y (SeqAt.canLay_of_shaped hy), hx, hy]
  rfl
/-- == of data that may be compared -/
theorem eqD_deep {x y : PyData} (hx : SeqAt.shaped x = true) (hy : SeqAt.shaped y = true) (h : ∀ a b : PyData, x = a → y = b → (∃ xs, a = .list xs ∨ a = .tuple xs)) : eqD x y = some (.bool (PyData.eqv x y)) := by
  obtain ⟨xs, e⟩ := h x y rfl rfl
  have c : flatD x = true ∧ flatD y = true ∧ SeqAt.shaped x = true ∧ SeqAt.shaped y = true := ⟨flat_lay x (SeqAt.canLay_of_shaped hx), flat_lay y (SeqAt.canLay_of_shaped hy), hx, hy⟩
  rcases e with rfl | rfl
  · show (if _ then _ else _) = _
    rw [if_pos c]
  · show (if _ then _ else _) = _
    rw [if_pos c]
theorem one_lay {α : Type} : ∀ l : List α, PyData.canLayAll0 (l.map fun _ => PyData.int 1) = true
  | [] => rfl
  | x :: l => by
    rw [List.map_cons]
    simp only [PyData.canLayAll0, PyData.canLay0, Bool.true_and]
    exact one_lay l
theorem one_dep {α : Type} : ∀ l : List α, PyData.depthAll (l.map fun _ => PyData.int 1) ≤ 1
  | [] => by simp [PyData.depthAll]
  | x :: l => by
    rw [List.map_cons]
    simp only [PyData.depthAll, PyData.depth]
    have := one_dep l
    omega
theorem one_shaped {α : Type} (l : List α) : SeqAt.shaped (.list (l.map fun _ => PyData.int 1)) = true := by
  unfold SeqAt.shaped
  have h1 := one_lay l
  have h2 := one_dep l
  rw [Bool.and_eq_true, decide_eq_true_eq]
  refine ⟨by simpa only [PyData.canLay0] using h1, ?_⟩
  simp only [PyData.depth]
  omega
theorem ones_eq {α : Type} (l : List α) : eqD (.list (l.map fun _ => PyData.int 1)) (.list []) = some (.bool l.isEmpty) := by
  rw [eqD_deep (one_shaped l) (by decide +kernel) fun a b e _ => ⟨_, .inl e.symm⟩]
  cases l <;> rfl
/-! ### words, unknowns -/
def wrdB (z : Str) : Bool := (decide (1 ≤ z.length) && decide (z.length ≤ 8)) && z.cps.toList.all fun c => decide (c ∈ letS)
def wrdD : PyData → Bool
  | .str z => wrdB z
  | _ => false
def unkD : PyData → Bool
  | .str z => isUnk z
  | _ => false
theorem filt_empty {α : Type} {p : α → Bool} {l : List α} : (l.filter fun x => !p x).isEmpty = l.all p := by
  induction l with
  | nil => rfl
  | cons x l ih =>
    rw [List.all_cons, ← ih]
    cases h : p x
    · rw [List.filter_cons_of_pos (by rw [h]; rfl)]
      rfl
    · rw [List.filter_cons_of_neg (by rw [h]; decide)]
      rfl
theorem isC_s1 : isC "str" "str" = true := by decide
theorem isC_t1 : isC "tuple" "tuple" = true := by decide
theorem letn_is (c : Nat) : inD true (.str ⟨#[c]⟩) (.str "abcdefghijklmnopqrstuvwxyz") = some (.bool (!decide (c ∈ letS))) := by
  rw [inD_sign, let_is]
  rfl
def digS : List Nat := [48, 49, 50, 51, 52, 53, 54, 55, 56, 57]
theorem dig_is : ("0123456789" : Str).cps.toList = digS := by decide +kernel
theorem dign_is (c : Nat) : inD true (.str ⟨#[c]⟩) (.str "0123456789") = some (.bool (!decide (c ∈ digS))) := by
  rw [inD_sign, dig_is]
  rfl
theorem cutS_1 (z : Str) : cutS z (some 1) none = ⟨(z.cps.toList.drop 1).toArray⟩ := by
  unfold cutS
  rw [HT.sIx_none, show HT.sIx z.length 0 (some 1) = min 1 z.length from HT.sIx_nat z.length 0 1]
  congr 2
  rw [show z.length = z.cps.toList.length from (cps_len z).symm]
  cases z.cps.toList with
  | nil => rfl
  | cons x r =>
    rw [List.length_cons, Nat.min_eq_left (by omega)]
    exact List.take_of_length_le (by simp)
theorem str_at {z : Str} (lz : z.length ≤ lim) {j : Nat} {c : Nat} (h : z.cps.toList[j]? = some c) : ixD (.str z) (.int (j : Int)) = some (.str ⟨#[c]⟩) := by
  show (if z.length ≤ lim then (atI z.cps.toList (j : Int)).map fun c => PyData.str ⟨#[c]⟩ else none) = _
  rw [if_pos lz, atI_nat h]
  rfl
theorem one_eq (c d : Nat) : decide ((⟨#[c]⟩ : Str) = ⟨#[d]⟩) = decide (c = d) := by
  refine decide_eq_decide.mpr ⟨fun e => ?_, fun e => by rw [e]⟩
  have z := congrArg (fun s : Str => s.cps.toList) e
  simpa using z
theorem str_q : ("?" : Str) = ⟨#[63]⟩ := by decide +kernel
theorem str_0 : ("0" : Str) = ⟨#[48]⟩ := by decide +kernel
theorem isUnk_is (z : Str) : isUnk z = (decide (z.cps.toList.head? = some 63) && (decide (2 ≤ z.length) && decide (z.length ≤ 6)) && !decide (z.cps.toList[1]? = some 48) && (z.cps.toList.drop 1).all fun c => decide (c ∈ digS)) := by
  unfold isUnk
  rw [show TL.tl z = z.cps.toList from rfl]
  have e1 : ((z.cps.toList.drop 1).head? : Option Nat) = z.cps.toList[1]? := by
    rw [List.head?_drop]
  have e2 : (z.cps.toList.drop 1).length = z.length - 1 := by
    rw [List.length_drop, cps_len]
  rw [e1, e2, show digs = digS from rfl]
  congr 3
  rw [show decide (1 ≤ z.length - 1) = decide (2 ≤ z.length) from decide_eq_decide.mpr (by omega), show decide (z.length - 1 ≤ 5) = decide (z.length ≤ 6) from decide_eq_decide.mpr (by omega)]
end My

/-! NLa: enumerate(t, start=k) over a tuple -/
namespace My
open PySem PySem.Spec PyProof.Rows L2
theorem callWith_kwT {M : Model} {A : Around} {E : Value → Shared → Prop} {s : Shared} {env : Env} {pos : Pos} {T : String} {e : Expr} {kws : List Keyword} {Q : Value → Shared → Prop}
    (h : wpAny M A (spliced (backTo pos (starEach [e] env))) (fun vs s₁ => wpAny M A (evalAll (List.map (fun x => x.snd) (backToKw pos (keywordEach kws env)))) (fun kvs s₂ => wpAny M A (call (Value.type T) vs ((List.filterMap (fun x => x.fst) (backToKw pos (keywordEach kws env))).zip kvs)) Q E s₂) E s₁) E s)
    (h1 : ∃ m, backTo pos (starEach [e] env) = [(false, m)])
    (h3 : ((backToKw pos (keywordEach kws env)).all fun x => x.fst.isSome) = true)
    (h4 : ((backToKw pos (keywordEach kws env)).any fun x => x.fst.isNone) = false) :
    wpAny M A (callWith pos (Value.type T) [] (backTo pos (starEach [e] env)) (backToKw pos (keywordEach kws env))) Q E s := by
  obtain ⟨m, h1⟩ := h1
  unfold callWith
  refine wpAny_bind (wpAny_holding ?_)
  unfold evalArgs
  rw [h1]
  rw [h1] at h
  generalize backToKw pos (keywordEach kws env) = ks at h h3 h4
  refine wpAny_bind (thn h fun vs s1 h => ?_)
  refine wpAny_holding ?_
  dsimp only
  rw [if_pos h3]
  refine wpAny_bind (thn h fun kvs s2 h => ?_)
  refine wpAny_bind (wpAny_pure ?_)
  refine wpAny_pure ?_
  refine wpAny_bind (wpAny_standAt ?_)
  refine wpAny_bind (wpAny_pure (a := Keeper.machine) ?_)
  rw [h4]
  show wpAny M A ((call (Value.type T) vs ((List.filterMap (fun x => x.fst) ks).zip kvs)) >>= fun r => holding [r] point >>= fun _ => pure r) Q E s2
  refine wpAny_bind (thn h fun r s3 h => ?_)
  exact wpAny_bind (wpAny_holding (wpAny_point (wpAny_pure h)))
/-- start counting at k, over a tuple of n items -/
def IteT (K : PySem.W.Frag) (a : Addr) (k : Int) (n : Nat) : It :=
  { go := fun i H => ∃ xs x, SqT K H a xs ∧ xs[i]? = some x ∧ xs.length = n
    yld := fun i H v H' => ∃ T x, v = V.ref T ∧ H T = none ∧ H' = upd H T (HO.tup [V.int (k + (i : Int)), x]) ∧ ∀ xs, SqT K H a xs → xs[i]? = some x
    stop := fun i H => ∃ xs, SqT K H a xs ∧ xs.length ≤ i ∧ xs.length = n }
theorem turn_enumT {P : Program} {w : World} {K : PySem.W.Frag} {elts : List Expr} {kk : Nat} {tpos : Pos} {a e it : Addr} {k : Int} {n : Nat} (ei : e ≠ it) (ea : e ≠ a) (ia : a ≠ it) :
    Turn P w K (.Tuple elts kk tpos) (IteT K a k n) [e, it] e (fun i h => i ≤ n ∧ (∃ old, IsEnum h e it (k + (i : Int)) old) ∧ h.IsTupleIter it a i) where
  mem := by simp
  obj := fun i h ⟨_, ⟨old, h1⟩, o, h2, _, h3⟩ b hb => by
    rcases List.mem_cons.mp hb with rfl | hb
    · exact ⟨_, h1, fun v => by simp⟩
    · rw [List.mem_singleton.mp hb]
      exact ⟨o, h2, fun v => by rw [h3]; simp⟩
  keep := fun i h h' ⟨l, ⟨old, h1⟩, o, h2, h3⟩ f => ⟨l, ⟨old, f e (by simp) _ h1⟩, o, f it (by simp) _ h2, h3⟩
  self := fun A i s Q E ⟨_, ⟨old, h1⟩, _⟩ q => wpAny_pyIter_enum h1 q
  done := by
    intro X hP hw hK hc i pins s σ H E I hf ⟨ln, s1, s2⟩ ⟨xs, hx, hl, en⟩
    subst hP hw hK
    obtain ⟨its, rv, p, _⟩ := I.tuple hx
    have hcalm := I.ok.hd hc
    have G := GoesN.enumFrom (prog := X.prog) (w := X.w) (A := X.A) (elts := elts) (x1 := kk) (pos := tpos) k (Draws.tuple (prog := X.prog) (w := X.w) (A := X.A.in1) hcalm it a ia its.toArray) e ei (by simp [ei, ea]) (by simp)
    have ein : i = its.toArray.size := by
      have z := rv.length
      rw [List.size_toArray]
      omega
    subst ein
    refine G.stops s (fun s1 => L2.Inv X pins σ H s1) E ⟨s1, s2, p⟩ fun h' tk fr ht => ?_
    exact I.turnedL fr hf
  item := by
    intro X hP hw hK hc i pins s σ H E I hf ⟨ln, s1, s2⟩ ⟨xs, x, hx, e1, en⟩
    subst hP hw hK
    obtain ⟨its, rv, p, _⟩ := I.tuple hx
    have hcalm := I.ok.hd hc
    have G := GoesN.enumFrom (prog := X.prog) (w := X.w) (A := X.A) (elts := elts) (x1 := kk) (pos := tpos) k (Draws.tuple (prog := X.prog) (w := X.w) (A := X.A.in1) hcalm it a ia its.toArray) e ei (by simp [ei, ea]) (by simp)
    obtain ⟨u, hu, ru⟩ := rv.get e1
    have il : i < its.toArray.size := by
      rw [List.size_toArray]
      exact (List.getElem?_eq_some_iff.mp hu).1
    have inn : i < n := by
      have z := rv.length
      rw [List.size_toArray] at il
      omega
    refine G.goes i s (fun u s2 => ∃ x H', L2.Inv X pins σ H' s2 ∧ L2.RelV x u ∧ (IteT X.K a k n).yld i H x H' ∧ (i + 1 ≤ n ∧ (∃ old, IsEnum s2.heap e it (k + ((i + 1 : Nat) : Int)) old) ∧ s2.heap.IsTupleIter it a (i + 1)) ∧ ∀ b ∈ [e, it], H' b = none) E il ⟨s1, s2, p⟩ fun v h' tk ⟨T, t, y, ev, hT, ey, tT⟩ ⟨st1, st2, _⟩ fr _ => ?_
    have eyu : y = u := by
      have z : its[i]? = some y := by simpa using ey
      rw [hu] at z
      exact (Option.some.inj z).symm
    subst eyu
    subst ev
    have new : ObjOk X.prog X.w (upd H T (.tup [V.int (k + (i : Int)), x])) h' T (.tup [V.int (k + (i : Int)), x]) := by
      exact ⟨(show 2 ≤ sizeLine by decide), [.int (k + (i : Int)) t, y], .cons ⟨t, rfl⟩ (.cons ru .nil), tT⟩
    have lt : ∀ b ∈ [e, it], b < s.heap.objs.size := fun b hb => by
      obtain ⟨old, h1⟩ := s1
      obtain ⟨o, h2, _⟩ := s2
      rcases List.mem_cons.mp hb with rfl | hb
      · exact Heap.lt_size h1
      · rw [List.mem_singleton.mp hb]
        exact Heap.lt_size h2
    refine ⟨.ref T, _, I.turnedNew (t' := tk) (ch := [e, it]) fr hf hT new, rfl, ⟨T, x, rfl, I.hok.fresh hT, rfl, fun l hl => by rw [I.tuple_inj hl hx]; exact e1⟩, ⟨inn, st1, st2⟩, fun b hb => ?_⟩
    rw [upd_ne (Nat.ne_of_lt (Nat.lt_of_lt_of_le (lt b hb) hT))]
    exact (hf b hb).1
def iEnumS (K : PySem.W.Frag) (ta tk : TA) : TI := fun σ H R => ta σ H fun vs H1 => tk σ H1 fun ks H2 => ∃ a k xs, vs = [V.ref a] ∧ ks = [V.int k] ∧ SqT K H2 a xs ∧ -2 ^ 63 ≤ k ∧ k < 2 ^ 63 ∧ R (IteT K a k xs.length) H2
theorem pi_enumS {X : Cx} {e ke : Expr} {ta tk : TA} {p pos tpos kpos : Pos} {elts : List Expr} {kk : Nat} (hg : Gl X "enumerate") (hm : X.mg "enumerate" = none) (ha : PA X [e] ta) (hk : PK X [⟨some "start", ke, kpos⟩] tk)
    (he : eval (.Call (.Name "enumerate" p) [e] [⟨some "start", ke, kpos⟩] pos) X.env = (do
      let f ← eval (.Name "enumerate" p) X.env
      callWith pos f [] (backTo pos (starEach [e] X.env)) (backToKw pos (keywordEach [⟨some "start", ke, kpos⟩] X.env))) := by rfl)
    (h1 : ∃ m, backTo pos (starEach [e] X.env) = [(false, m)] := by exact ⟨_, rfl⟩) : PI X (.Tuple elts kk tpos) (.Call (.Name "enumerate" p) [e] [⟨some "start", ke, kpos⟩] pos) (iEnumS X.K ta tk) := ⟨fun pins s σ H R I h => by
  rw [he]
  refine wpAny_bind (ld_blt I hg hm PyProof.Rows.boot_enumerate (callWith_kwT (thn (ha.run pos pins s σ H _ I h) fun us s1 ⟨vs, H1, I1, r1, q⟩ => thn (hk.run pos pins s1 σ H1 _ I1 q) fun kvs s2 ⟨ks, H2, I2, r2, a, k, xs, e1, e2, hx, k1, k2, hR⟩ => ?_) h1 rfl rfl))
  subst e1
  subst e2
  cases r1 with
  | cons r rr =>
  cases rr
  cases r
  cases r2 with
  | cons r rr =>
  cases rr
  obtain ⟨t, rfl⟩ := r
  obtain ⟨its, rv, p1, _⟩ := I2.tuple hx
  obtain ⟨o1, ho1, _⟩ := id p1
  have la := Heap.lt_size ho1
  show wpAny _ _ (call (Value.type "enumerate") [.ref a] [("start", .int k t)]) _ _ s2
  refine enum_begins_start (begins_tuple a its.toArray) p1 k1 k2 fun h' hE hI hs fr => wpAny_pyIter_enum hE ?_
  refine ⟨_, [s2.heap.objs.size + 1, s2.heap.objs.size], _, _, H2, rfl, I2.kept (t' := s2.toks) fr, turn_enumT (Nat.succ_ne_self _) (Nat.ne_of_gt (Nat.lt_succ_of_lt la)) (Nat.ne_of_lt la), ⟨Nat.zero_le _, ⟨_, by simpa using hE⟩, ⟨_, hI, rfl, rfl⟩⟩, fun c hc => ?_, hR⟩
  have hle : s2.heap.objs.size ≤ c := by
    have hc' : c = s2.heap.objs.size + 1 ∨ c = s2.heap.objs.size := by simpa using hc
    rcases hc' with z | z <;> rw [z] <;> first | exact Nat.le_refl _ | exact Nat.le_add_right _ _
  exact I2.fpOk hle (I2.hok.fresh hle)⟩
end My

/-! NL: enumerate, as data; global whole numbers; raise; statements that only call -/
namespace My
open PySem PySem.Spec PyProof.Rows L2
def enumD : Int → List PyData → List PyData
  | _, [] => []
  | k, x :: xs => .tuple [.int k, x] :: enumD (k + 1) xs
theorem enumD_len : ∀ (xs : List PyData) (k : Int), (enumD k xs).length = xs.length
  | [], _ => rfl
  | x :: xs, k => by rw [enumD, List.length_cons, List.length_cons, enumD_len xs]
theorem enumD_at : ∀ (xs : List PyData) (k : Int) (i : Nat), (enumD k xs)[i]? = xs[i]?.map fun x => .tuple [.int (k + (i : Int)), x]
  | [], _, _ => rfl
  | x :: xs, k, 0 => by
    rw [enumD, List.getElem?_cons_zero, List.getElem?_cons_zero]
    show some _ = some _
    rw [show k + ((0 : Nat) : Int) = k by omega]
  | x :: xs, k, i + 1 => by
    rw [enumD, List.getElem?_cons_succ, List.getElem?_cons_succ, enumD_at xs (k + 1) i, show k + 1 + (i : Int) = k + ((i + 1 : Nat) : Int) by omega]
theorem not_dic {i : Int} {x : PyData} {P : Prop} (c : dictable [.int i, x] = true) : P := by
  have z : (pairLike (.int i) && dictable [x]) = true := c
  cases z
section
variable {K : PySem.W.Frag} {O : Addr → Bool} {H1 : Hp}
theorem it_enumT {a : Addr} {us : List V} {xs : List PyData} {k : Int} (h1 : SqT K (hid O H1) a us) (r1 : RpAll K (hid O H1) us xs) : ItOk K O H1 (IteT K a k us.length) (enumD k xs) := fun i O' H' s dm => by
  have q1 : SqT K H' a us := same_seqT hid_le (same_seqT s h1)
  rw [enumD_len]
  refine ⟨fun l => ?_, fun l => ⟨us, q1, by rw [r1.len]; exact l, rfl⟩⟩
  have l1 : i < us.length := by rw [r1.len]; omega
  refine ⟨⟨us, us[i], q1, List.getElem?_eq_getElem l1, rfl⟩, fun x H'' ⟨T, x1, e, nT, eH, g1⟩ => ?_⟩
  subst e eH
  obtain ⟨d1, e1, z1⟩ := r1.get (g1 us q1)
  have st := same_new (o := .tup [V.int (k + (i : Int)), x1]) nT
  have s' := s.trans (hid_same (O := O') st)
  refine ⟨.tuple [.int (k + (i : Int)), d1], ?_, st, .tup (.inl (.inl (hid_new dm nT))) (.cons (.int _) (.cons (Rp.same s' _ _ z1) .nil)) fun c => not_dic c⟩
  rw [enumD_at, e1]
  rfl
theorem it_enumL {a : Addr} {us : List V} {xs : List PyData} (h1 : hid O H1 a = some (.lst us)) (r1 : RpAll K (hid O H1) us xs) : ItOk K O H1 (Ite K a) (enumD 0 xs) := fun i O' H' s dm => by
  have q1 : SqL K H' a us := .inl (.inl (hid_le _ _ (s _ _ h1)))
  rw [enumD_len]
  refine ⟨fun l => ?_, fun l => ⟨us, q1, by rw [r1.len]; exact l⟩⟩
  have l1 : i < us.length := by rw [r1.len]; omega
  refine ⟨⟨us, us[i], q1, List.getElem?_eq_getElem l1⟩, fun x H'' ⟨T, x1, e, nT, eH, g1⟩ => ?_⟩
  subst e eH
  obtain ⟨d1, e1, z1⟩ := r1.get (g1 us q1)
  have st := same_new (o := .tup [V.int (i : Int), x1]) nT
  have s' := s.trans (hid_same (O := O') st)
  refine ⟨.tuple [.int (i : Int), d1], ?_, st, .tup (.inl (.inl (hid_new dm nT))) (.cons (.int _) (.cons (Rp.same s' _ _ z1) .nil)) fun c => not_dic c⟩
  rw [enumD_at, e1]
  show some (PyData.tuple [.int (0 + (i : Int)), d1]) = _
  rw [Int.zero_add]
end
def iEnS (k : Int) (w : ED) : AD := fun ρ n Q => w ρ n fun d n1 => ∃ xs, d = .tuple xs ∧ -2 ^ 63 ≤ k ∧ k < 2 ^ 63 ∧ Q (enumD k xs) n1
def iEnL (w : ED) : AD := fun ρ n Q => w ρ n fun d n1 => ∃ xs, d = .list xs ∧ Q (enumD 0 xs) n1
section
variable {X : Cx}
theorem qdi_enumS {e ke : Expr} {w : ED} {k : Int} {p pos tpos kpos : Pos} {elts : List Expr} {kk : Nat} (hg : Gl X "enumerate") (hm : X.mg "enumerate" = none) (he : PD X e w) (hk : PE X ke (tC (.int k)))
    (h0 : eval (.Call (.Name "enumerate" p) [e] [⟨some "start", ke, kpos⟩] pos) X.env = (do
      let f ← eval (.Name "enumerate" p) X.env
      callWith pos f [] (backTo pos (starEach [e] X.env)) (backToKw pos (keywordEach [⟨some "start", ke, kpos⟩] X.env))) := by rfl)
    (h1 : ∃ m, backTo pos (starEach [e] X.env) = [(false, m)] := by exact ⟨_, rfl⟩) (h2 : starEach [e] X.env = (false, eval e X.env) :: starEach [] X.env := by rfl) : PDI X (.Tuple elts kk tpos) (.Call (.Name "enumerate" p) [e] [⟨some "start", ke, kpos⟩] pos) (iEnS k w) :=
  qdi_mk (pi_enumS hg hm (pa_cons he pa_nil h2) (pk_cons hk pk_nil) h0 h1) fun S hw kq => rd_W S hw fun v d H1 n1 f1 d1 r1 ⟨xs, ed, k1, k2, q⟩ => by
    subst ed
    cases r1 with
    | tup hs ha _ =>
    exact ⟨_, k, _, rfl, rfl, same_seqT hid_le hs, k1, k2, kq _ H1 n1 _ f1 d1 (it_enumT hs ha) q⟩
theorem qdi_enumL {e : Expr} {w : ED} {p pos tpos : Pos} {elts : List Expr} {kk : Nat} (hg : Gl X "enumerate") (hm : X.mg "enumerate" = none) (he : PD X e w) (h2 : starEach [e] X.env = (false, eval e X.env) :: starEach [] X.env := by rfl) : PDI X (.Tuple elts kk tpos) (.Call (.Name "enumerate" p) [e] [] pos) (iEnL w) :=
  qdi_mk (pi_enum hg hm (pa_cons he pa_nil h2) h2) fun S hw kq => rd_W S hw fun v d H1 n1 f1 d1 r1 ⟨xs, ed, q⟩ => by
    subst ed
    cases r1 with
    | lst hs ha =>
    exact ⟨_, _, rfl, .inl (.inl (hid_le _ _ hs)), kq _ H1 n1 _ f1 d1 (it_enumL hs ha) q⟩
theorem qd_globI {x : Str} {i : Int} {td : Tok} {pos : Pos} (hg : Gl X x) (hm : X.mg x = some (.int i td)) (hd : (x == ("__debug__" : Str)) = false := by decide) : PD X (.Name x pos) (eC (.int i)) := qd_mk (pe_glob (v := .int i) hg hm ⟨td, rfl⟩ hd) (rd_c fun _ => .int i)
def sNever : SD := fun _ _ _ => False
theorem qs_never {st : Stmt} : PSD X st sNever := qs_mk ps_never fun _ hw _ => hw.elim
theorem qs_expr {e : Expr} {w : ED} {pos : Pos} (he : PD X e w) (hs : swapsWith e none pos.line X.env = pure false := by rfl) : PSD X (.Expr e pos) (sExpr w) := qs_mk (ps_expr he hs) fun S hw k => rd_W S hw fun v d H1 n1 f1 d1 r1 q1 => k.nx _ _ _ _ _ (S.step f1 d1) (S.hid f1) q1
end
def enS (k : Int) : PyData → Option (List PyData)
  | .tuple xs => if -2 ^ 63 ≤ k ∧ k < 2 ^ 63 then some (enumD k xs) else none
  | _ => none
def enL : PyData → Option (List PyData)
  | .list xs => some (enumD 0 xs)
  | _ => none
def afEnS (k : Int) (f : EF) : AF := fun ρ => (f ρ).bind (enS k)
def afEnL (f : EF) : AF := fun ρ => (f ρ).bind enL
theorem is_afEnS {k : Int} {w : ED} {f : EF} (h : IsE w f) : IsA (iEnS k w) (afEnS k f) := fun ρ n Q d e q => by
  obtain ⟨x, e1, e2⟩ := bind_is e
  match x, e2 with
  | .tuple xs, e2 =>
    obtain ⟨c, e3⟩ := ite_is e2
    cases e3
    exact h ρ n _ _ e1 ⟨xs, rfl, c.1, c.2, q⟩
theorem is_afEnL {w : ED} {f : EF} (h : IsE w f) : IsA (iEnL w) (afEnL f) := fun ρ n Q d e q => by
  obtain ⟨x, e1, e2⟩ := bind_is e
  match x, e2 with
  | .list xs, e2 =>
    cases e2
    exact h ρ n _ _ e1 ⟨xs, rfl, q⟩
def fBad : SF := fun _ => none
theorem is_bad : IsS sNever fBad := fun _ _ _ _ e => by cases e
def fExpr (e : EF) : SF := fun ρ => (e ρ).map fun _ => .nx ρ
theorem is_expr {e : ED} {f : EF} (h : IsE e f) : IsS (sExpr e) (fExpr f) := fun ρ n E r e q => by
  obtain ⟨x, e1, rfl⟩ := map_is e
  exact h ρ n _ x e1 q
end My

set_option linter.unusedVariables false
/-! X_is_unknown: a def as a function of data -/
namespace My
open PySem PySem.Spec PyProof.Rows L2
section
variable {P : Program} {w : World} {K : PySem.W.Frag} {mg : Str → Option Value} {base : Heap}
def S_is_unknown : SF :=
  (fSeq (fIfS (tfOr (tfNot (tfE (fIsi (isC "str") (fV 0)))) (tfNot (tfE (fMeth startsD (fV 0) (fCo (fC (.str "?")) fN))))) (fRet (fC (.bool false))) fNil)
    (fSeq (fSet 1 (fSl slD (fV 0) (ofS (fC (.int 1))) ofN))
    (fRet (fAnd (fChain (ltD fun i j => decide (i ≤ j)) (ltD fun i j => decide (i ≤ j)) (fC (.int 1)) (fCall lenD (fCo (fV 1) fN)) (fC (.int 5))) (fAnd (fOp neD (fOp ixD (fV 1) (fC (.int 0))) (fC (.str "0"))) (fCall allD (fCo (fLc (afV (fV 1)) (gN 2) tfYes (fOp (inD false) (fV 2) (fC (.str "0123456789"))) [2]) fN)))))))
def F_is_unknown : List PyData → Option PyData := fnF 1 3 S_is_unknown
theorem at_is_unknown (x0 : PyData) : F_is_unknown [x0] = (S_is_unknown [some (.d x0), none, none]).bind outF := rfl
theorem sc_is_unknown : FnScope ["value", "digits", "sign"] ["value"] (defScope sUnk) := ⟨rfl, rfl, rfl, by decide +kernel, rfl, by decide +kernel, by decide +kernel⟩
theorem okF_is_unknown {f : Addr} {fd : FuncData} (F : Fun K "is_unknown" "is_unknown" sUnk f fd) (z_isinstance : mg "isinstance" = none) (z_str : mg "str" = none) (z_len : mg "len" = none) (z_all : mg "all" = none) (k_str : IsT K "str" (isC "str")) {t_DIGITS : Tok} (g_DIGITS : mg "DIGITS" = some (.str "0123456789" t_DIGITS)) : FnOk P w K mg base CX0 1 f fd ["value"] (spP K F_is_unknown) :=
  show FnOk P w K mg base CX0 1 f fd ["value"] (spP K (fnF 1 3 S_is_unknown)) from
  fn_okF (S := S_is_unknown) 1 3 F sc_is_unknown rfl rfl (fun cdv A outer s H E hr => by
    have hu := hr.units
    have hv := Room.u65 hr
    exact (qss_cons (qs_if (qdt_W (qdw_or (qdt_not (qdt_val (qd_isi k_str (by rfl) z_isinstance (qdv 0) (by rfl) z_str boot_str))) (qdw_or1 (qdt_not (qdt_val (qd_mk (pe_bm PySem.F.plainAttrs_str PySem.F.slot_str_startswith PySem.F.type_str_startswith mt_startswith (qdv 0) (qda_cons qd_str qda_nil)) (rd_meth pu_starts))))))) (qss_one (qs_ret qd_bl)) qss_nil)
      (qss_cons (qs_set (i := 1) sc_is_unknown.nd rfl (Or.inl rfl) (qd_sl sl_U pu_sl (qdv 0) (qdo_some qd_int) qdo_none))
      (qss_one (qs_ret (qd_and (qd_chain op_le pu_cmp op_le pu_cmp qd_int (qd_callB cr_lenU pu_len (by rfl) z_len PySem.boot_len (qda_cons (qdv 1) qda_nil)) qd_int) (qd_and (qd_cmp (op_neU hu) pu_ne (qd_ix ix_seq pu_ix (qdv 1) qd_int) qd_str (nomark _)) (qd_one (qd_callB (cr_all rfl) pu_all (by rfl) z_all boot_all (qda_cons (qd_lc (own := [("sign", 2)]) rfl sc_is_unknown.nd (qdi_val (qdv 1)) (blkOk_by (own := [("sign", 2)]) (N := ["value", "digits", "sign"]) (sc := (defScope sUnk)) (by decide +kernel)) (by decide) (fun _ _ _ _ _ => (qdg_name (i := 2) sc_is_unknown.nd rfl (Or.inl rfl))) (fun _ _ _ _ _ => qts_nil) (fun _ _ _ _ _ => (qd_cmp (op_inU hv) pu_in (qdv 2) (qd_glob rfl g_DIGITS) (by rfl)))) qda_nil))))))))))
   (show IsS _ S_is_unknown from (is_seq (is_ifS (is_tfOr (is_tfNot (is_tfE (is_isi is_v))) (is_tfNot (is_tfE (is_meth is_v (is_co is_c is_n))))) (is_ret is_c) is_nil) (is_seq (is_set (is_sl is_v (is_ofS is_c) is_ofN)) (is_ret (is_and (is_chain is_c (is_call (is_co is_v is_n)) is_c) (is_and (is_op (is_op is_v is_c) is_c) (is_call (is_co (is_lc (is_afV is_v) is_tfYes (is_op is_v is_c)) is_n))))))))

end
end My

set_option linter.unusedVariables false
/-! X_unknowns: a def as a function of data -/
namespace My
open PySem PySem.Spec PyProof.Rows L2
section
variable {P : Program} {w : World} {K : PySem.W.Frag} {mg : Str → Option Value} {base : Heap}
def S_unknowns : SF :=
  (fRet (fCall tupD1 (fCo (fSort vS bS ltS (afV (fV 0)) (gN 1) tfYes (fTwo (afV (fSl slD (fV 1) (ofS (fC (.int 1))) ofN)) (gN 2) (tfE (fCall F_is_unknown (fCo (fV 2) fN))) (fOne (fV 2)) [2]) [1, 2]) fN)))
def F_unknowns : List PyData → Option PyData := fnF 1 3 S_unknowns
theorem at_unknowns (x0 : PyData) : F_unknowns [x0] = (S_unknowns [some (.d x0), none, none]).bind outF := rfl
theorem sc_unknowns : FnScope ["store", "fact", "part"] ["store"] (defScope sUnkS) := ⟨rfl, rfl, rfl, by decide +kernel, rfl, by decide +kernel, by decide +kernel⟩
theorem okF_unknowns {f : Addr} {fd : FuncData} (F : Fun K "unknowns" "unknowns" sUnkS f fd) (z_tuple : mg "tuple" = none) (z_sorted : mg "sorted" = none) {f_is_unknown : Addr} {d_is_unknown : FuncData} (G_is_unknown : FnOk P w K mg base CX0 1 f_is_unknown d_is_unknown ["value"] (spP K F_is_unknown)) (m_is_unknown : mg "is_unknown" = some (.ref f_is_unknown)) (k_is_unknown : PySem.W.keepIn K (.ref f_is_unknown) = true) (b_is_unknown : Binds K d_is_unknown ["value"] []) : FnOk P w K mg base CX0 2 f fd ["store"] (spP K F_unknowns) :=
  show FnOk P w K mg base CX0 2 f fd ["store"] (spP K (fnF 1 3 S_unknowns)) from
  fn_okF (S := S_unknowns) 1 3 F sc_unknowns rfl rfl (fun cdv A outer s H E hr => by
    have hu := hr.units
    have hv := Room.u65 hr
    exact (qss_one (qs_ret (qd_callTy cr_tupU pu_tuple (by rfl) z_tuple boot_tuple (qda_cons (qd_sort2S (by rfl) z_sorted (own := [("fact", 1), ("part", 2)]) (vs1 := [2]) rfl sc_unknowns.nd hu (qdi_val (qdv 0)) (blkOk_by (own := [("fact", 1), ("part", 2)]) (N := ["store", "fact", "part"]) (sc := (defScope sUnkS)) (by decide +kernel)) (by decide) (by decide) (by decide) (fun _ _ _ _ _ => (qdg_name (i := 1) sc_unknowns.nd rfl (Or.inl rfl))) (fun _ _ _ _ _ => qts_nil) (fun _ _ _ _ _ => (qdi_val (qd_sl sl_U pu_sl (qdv 1) (qdo_some qd_int) qdo_none))) (fun _ _ _ _ _ => (qdg_name (i := 2) sc_unknowns.nd rfl (Or.inl rfl))) (fun _ _ _ _ _ => (qts_one (qdt_val (qd_call G_is_unknown (hr.mono (by decide)) rfl m_is_unknown k_is_unknown b_is_unknown pass0 (qda_cons (qdv 2) qda_nil))))) (fun _ _ _ _ _ => (qdv 2))) qda_nil)))))
   (show IsS _ S_unknowns from (is_ret (is_call (is_co (is_sort (is_afV is_v) is_tfYes (is_two (is_afV (is_sl is_v (is_ofS is_c) is_ofN)) (is_tfE (is_call (is_co is_v is_n))) (is_put is_v))) is_n))))

end
end My

set_option linter.unusedSimpArgs false
/-! JX: unknowns and names of stores, facts and stores by tables -/
namespace My
open PySem PySem.Spec PyProof.Rows L2
theorem dig_in (c : Nat) : inD false (.str ⟨#[c]⟩) (.str "0123456789") = some (.bool (decide (c ∈ digS))) := by
  rw [inD_sign, dig_is]
  rfl
theorem F_unk {z : Str} (lz : z.length ≤ lim) : F_is_unknown [.str z] = some (.bool (isUnk z)) := by
  rw [at_is_unknown]
  unfold S_is_unknown
  rw [isUnk_is]
  have es : Txt.startswith z "?" = decide (z.cps.toList.head? = some 63) := by
    rw [str_q]
    exact starts_one z 63
  have l := cps_len z
  cases ez : z.cps.toList with
  | nil =>
    rw [ez] at es
    refine out_rt ((seq_rt (ifS_t ?_)).trans ?_)
    · simp only [fC, fV, fN, fCo, fTup, fLst, fOp, fCall, tfE, tfTr, tfYes, tfNot, tfAnd, tfOr, fAnd, fOr, fNot, fIf, ofN, ofS, fSl, fChain, fIsi, afV, afR, afZ, afZk, zipKF, fLc, fLc2, fTwo, fOne, fSort, fSortSet, fGet, fOIn, fOGet, fOLen, fOIx, fRepr, fRev, fMeth, fNil, fSeq, fSet, fAsg, fRet, fIfS, fFor, fNewL, fApp, fExt, fGive, fNewK, fMakeK, fPutK, fGiveK, outF, envF, fnF, stF, stB, gN, gT, gsC, gsN, wipeD, getF, ownK, ownL, asB, asK, asL, asS, List.getElem?_cons_zero, List.getElem?_cons_succ, Option.bind_some, Option.map_some, Option.bind_none, Option.map_none, List.map_cons, List.map_nil, List.cons_append, List.nil_append, List.set_cons_zero, List.set_cons_succ, List.length_cons, List.length_nil, List.replicate_succ, List.replicate_zero, Nat.reduceSub, Nat.reduceAdd, Nat.reduceEqDiff, if_true, Bool.true_eq_false, Bool.false_eq_true, if_false, reduceIte, noDict, lenD_tup, lenD_lst, ltD_int, items_tup, items_lst, items_str, eqD_str, eqD_int, neD_str, neD_int, addD_int, subD_int, slD_lst, slD_tup, tuple_lst, tuple_tup, list_lst, list_tup, tyS_str, tyS_tup, isC_s1, startsD, es, Bool.not_true]
      rfl
    · rfl
  | cons a r =>
    rw [ez] at es l
    have es' : Txt.startswith z "?" = decide (a = 63) := es.trans (decide_eq_decide.mpr ⟨Option.some.inj, fun e => congrArg some e⟩)
    show _ = some (PyData.bool (decide (some a = some 63) && (decide (2 ≤ z.length) && decide (z.length ≤ 6)) && !decide (r[0]? = some 48) && r.all fun c => decide (c ∈ digS)))
    rw [show decide (some a = some 63) = decide (a = 63) from decide_eq_decide.mpr ⟨Option.some.inj, fun e => congrArg some e⟩]
    by_cases ca : a = 63
    · rw [decide_eq_true ca] at es'
      have sl : slD (.str z) (some 1) none = some (.str ⟨r.toArray⟩) := by
        rw [show slD (.str z) (some 1) none = some (.str (cutS z (some 1) none)) from if_pos lz, cutS_1, ez]
        rfl
      have lr : (⟨r.toArray⟩ : Str).length = r.length := by
        show (r.toArray).size = _
        exact List.size_toArray
      have lr' : r.length + 1 = z.length := l
      have lr2 : (⟨r.toArray⟩ : Str).length ≤ lim := by
        rw [lr]
        omega
      refine out_rt ((seq_nx (ρ' := [some (.d (.str z)), none, none]) (ifS_f ?_)).trans ((seq_nx (ρ' := [some (.d (.str z)), some (.d (.str ⟨r.toArray⟩)), none]) ?_).trans (ret_is ?_)))
      · simp only [fC, fV, fN, fCo, fTup, fLst, fOp, fCall, tfE, tfTr, tfYes, tfNot, tfAnd, tfOr, fAnd, fOr, fNot, fIf, ofN, ofS, fSl, fChain, fIsi, afV, afR, afZ, afZk, zipKF, fLc, fLc2, fTwo, fOne, fSort, fSortSet, fGet, fOIn, fOGet, fOLen, fOIx, fRepr, fRev, fMeth, fNil, fSeq, fSet, fAsg, fRet, fIfS, fFor, fNewL, fApp, fExt, fGive, fNewK, fMakeK, fPutK, fGiveK, outF, envF, fnF, stF, stB, gN, gT, gsC, gsN, wipeD, getF, ownK, ownL, asB, asK, asL, asS, List.getElem?_cons_zero, List.getElem?_cons_succ, Option.bind_some, Option.map_some, Option.bind_none, Option.map_none, List.map_cons, List.map_nil, List.cons_append, List.nil_append, List.set_cons_zero, List.set_cons_succ, List.length_cons, List.length_nil, List.replicate_succ, List.replicate_zero, Nat.reduceSub, Nat.reduceAdd, Nat.reduceEqDiff, if_true, Bool.true_eq_false, Bool.false_eq_true, if_false, reduceIte, noDict, lenD_tup, lenD_lst, ltD_int, items_tup, items_lst, items_str, eqD_str, eqD_int, neD_str, neD_int, addD_int, subD_int, slD_lst, slD_tup, tuple_lst, tuple_tup, list_lst, list_tup, tyS_str, tyS_tup, isC_s1, startsD, es', Bool.not_true]
      · refine set_is ?_
        simp only [fC, fV, fN, fCo, fTup, fLst, fOp, fCall, tfE, tfTr, tfYes, tfNot, tfAnd, tfOr, fAnd, fOr, fNot, fIf, ofN, ofS, fSl, fChain, fIsi, afV, afR, afZ, afZk, zipKF, fLc, fLc2, fTwo, fOne, fSort, fSortSet, fGet, fOIn, fOGet, fOLen, fOIx, fRepr, fRev, fMeth, fNil, fSeq, fSet, fAsg, fRet, fIfS, fFor, fNewL, fApp, fExt, fGive, fNewK, fMakeK, fPutK, fGiveK, outF, envF, fnF, stF, stB, gN, gT, gsC, gsN, wipeD, getF, ownK, ownL, asB, asK, asL, asS, List.getElem?_cons_zero, List.getElem?_cons_succ, Option.bind_some, Option.map_some, Option.bind_none, Option.map_none, List.map_cons, List.map_nil, List.cons_append, List.nil_append, List.set_cons_zero, List.set_cons_succ, List.length_cons, List.length_nil, List.replicate_succ, List.replicate_zero, Nat.reduceSub, Nat.reduceAdd, Nat.reduceEqDiff, if_true, Bool.true_eq_false, Bool.false_eq_true, if_false, reduceIte, noDict, lenD_tup, lenD_lst, ltD_int, items_tup, items_lst, items_str, eqD_str, eqD_int, neD_str, neD_int, addD_int, subD_int, slD_lst, slD_tup, tuple_lst, tuple_tup, list_lst, list_tup, tyS_str, tyS_tup, sl]
      · by_cases c1 : (1 : Int) ≤ (⟨r.toArray⟩ : Str).length
        · by_cases c2 : ((⟨r.toArray⟩ : Str).length : Int) ≤ 5
          · cases r with
            | nil => rw [lr] at c1; simp at c1
            | cons b t =>
              have i0 : ixD (.str ⟨(b :: t).toArray⟩) (.int 0) = some (.str ⟨#[b]⟩) := str_at (j := 0) lr2 rfl
              have lv : ((b :: t).map fun c => PyData.str ⟨#[c]⟩).length ≤ lim := by
                rw [List.length_map]
                omega
              have k1 : fLc (afV (fV 1)) (gN 2) tfYes (fOp (inD false) (fV 2) (fC (.str "0123456789"))) [2] [some (.d (.str z)), some (.d (.str ⟨(b :: t).toArray⟩)), none] = some (.list ((b :: t).map fun c => PyData.bool (decide (c ∈ digS)))) := lc_is (xs := (b :: t).map fun c => PyData.str ⟨#[c]⟩) rfl lv (lcF_map fun c _ => by
                simp only [fC, fV, fN, fCo, fTup, fLst, fOp, fCall, tfE, tfTr, tfYes, tfNot, tfAnd, tfOr, fAnd, fOr, fNot, fIf, ofN, ofS, fSl, fChain, fIsi, afV, afR, afZ, afZk, zipKF, fLc, fLc2, fTwo, fOne, fSort, fSortSet, fGet, fOIn, fOGet, fOLen, fOIx, fRepr, fRev, fMeth, fNil, fSeq, fSet, fAsg, fRet, fIfS, fFor, fNewL, fApp, fExt, fGive, fNewK, fMakeK, fPutK, fGiveK, outF, envF, fnF, stF, stB, gN, gT, gsC, gsN, wipeD, getF, ownK, ownL, asB, asK, asL, asS, List.getElem?_cons_zero, List.getElem?_cons_succ, Option.bind_some, Option.map_some, Option.bind_none, Option.map_none, List.map_cons, List.map_nil, List.cons_append, List.nil_append, List.set_cons_zero, List.set_cons_succ, List.length_cons, List.length_nil, List.replicate_succ, List.replicate_zero, Nat.reduceSub, Nat.reduceAdd, Nat.reduceEqDiff, if_true, Bool.true_eq_false, Bool.false_eq_true, if_false, reduceIte, noDict, lenD_tup, lenD_lst, ltD_int, items_tup, items_lst, items_str, eqD_str, eqD_int, neD_str, neD_int, addD_int, subD_int, slD_lst, slD_tup, tuple_lst, tuple_tup, list_lst, list_tup, tyS_str, tyS_tup, dig_in])
              have k4 : fCall allD (fCo (fLc (afV (fV 1)) (gN 2) tfYes (fOp (inD false) (fV 2) (fC (.str "0123456789"))) [2]) fN) [some (.d (.str z)), some (.d (.str ⟨(b :: t).toArray⟩)), none] = some (.bool ((b :: t).all fun c => decide (c ∈ digS))) := call_is (co1 k1) allD_map
              generalize fCall allD (fCo (fLc (afV (fV 1)) (gN 2) tfYes (fOp (inD false) (fV 2) (fC (.str "0123456789"))) [2]) fN) = kk at k4
              unfold fAnd fChain
              simp only [fC, fV, fN, fCo, fTup, fLst, fOp, fCall, tfE, tfTr, tfYes, tfNot, tfAnd, tfOr, fAnd, fOr, fNot, fIf, ofN, ofS, fSl, fChain, fIsi, afV, afR, afZ, afZk, zipKF, fLc, fLc2, fTwo, fOne, fSort, fSortSet, fGet, fOIn, fOGet, fOLen, fOIx, fRepr, fRev, fMeth, fNil, fSeq, fSet, fAsg, fRet, fIfS, fFor, fNewL, fApp, fExt, fGive, fNewK, fMakeK, fPutK, fGiveK, outF, envF, fnF, stF, stB, gN, gT, gsC, gsN, wipeD, getF, ownK, ownL, asB, asK, asL, asS, List.getElem?_cons_zero, List.getElem?_cons_succ, Option.bind_some, Option.map_some, Option.bind_none, Option.map_none, List.map_cons, List.map_nil, List.cons_append, List.nil_append, List.set_cons_zero, List.set_cons_succ, List.length_cons, List.length_nil, List.replicate_succ, List.replicate_zero, Nat.reduceSub, Nat.reduceAdd, Nat.reduceEqDiff, if_true, Bool.true_eq_false, Bool.false_eq_true, if_false, reduceIte, noDict, lenD_tup, lenD_lst, ltD_int, items_tup, items_lst, items_str, eqD_str, eqD_int, neD_str, neD_int, addD_int, subD_int, slD_lst, slD_tup, tuple_lst, tuple_tup, list_lst, list_tup, tyS_str, tyS_tup, lenD_str lr2, decide_eq_true c1, decide_eq_true c2, i0, str_0, one_eq, k4]
              rw [decide_eq_true ca, decide_eq_true (show 2 ≤ z.length by rw [lr] at c1; omega), decide_eq_true (show z.length ≤ 6 by rw [lr] at c2; omega)]
              show _ = some (PyData.bool (true && (true && true) && !decide (some b = some 48) && (b :: t).all fun c => decide (c ∈ digS)))
              rw [show decide (some b = some 48) = decide (b = 48) from decide_eq_decide.mpr ⟨Option.some.inj, fun e => congrArg some e⟩]
              cases decide (b = 48) <;> rfl
          · unfold fAnd fChain
            simp only [fC, fV, fN, fCo, fTup, fLst, fOp, fCall, tfE, tfTr, tfYes, tfNot, tfAnd, tfOr, fAnd, fOr, fNot, fIf, ofN, ofS, fSl, fChain, fIsi, afV, afR, afZ, afZk, zipKF, fLc, fLc2, fTwo, fOne, fSort, fSortSet, fGet, fOIn, fOGet, fOLen, fOIx, fRepr, fRev, fMeth, fNil, fSeq, fSet, fAsg, fRet, fIfS, fFor, fNewL, fApp, fExt, fGive, fNewK, fMakeK, fPutK, fGiveK, outF, envF, fnF, stF, stB, gN, gT, gsC, gsN, wipeD, getF, ownK, ownL, asB, asK, asL, asS, List.getElem?_cons_zero, List.getElem?_cons_succ, Option.bind_some, Option.map_some, Option.bind_none, Option.map_none, List.map_cons, List.map_nil, List.cons_append, List.nil_append, List.set_cons_zero, List.set_cons_succ, List.length_cons, List.length_nil, List.replicate_succ, List.replicate_zero, Nat.reduceSub, Nat.reduceAdd, Nat.reduceEqDiff, if_true, Bool.true_eq_false, Bool.false_eq_true, if_false, reduceIte, noDict, lenD_tup, lenD_lst, ltD_int, items_tup, items_lst, items_str, eqD_str, eqD_int, neD_str, neD_int, addD_int, subD_int, slD_lst, slD_tup, tuple_lst, tuple_tup, list_lst, list_tup, tyS_str, tyS_tup, lenD_str lr2, decide_eq_true c1, decide_eq_false c2]
            rw [decide_eq_false (show ¬ z.length ≤ 6 by rw [lr] at c2; omega)]
            simp
        · unfold fAnd fChain
          simp only [fC, fV, fN, fCo, fTup, fLst, fOp, fCall, tfE, tfTr, tfYes, tfNot, tfAnd, tfOr, fAnd, fOr, fNot, fIf, ofN, ofS, fSl, fChain, fIsi, afV, afR, afZ, afZk, zipKF, fLc, fLc2, fTwo, fOne, fSort, fSortSet, fGet, fOIn, fOGet, fOLen, fOIx, fRepr, fRev, fMeth, fNil, fSeq, fSet, fAsg, fRet, fIfS, fFor, fNewL, fApp, fExt, fGive, fNewK, fMakeK, fPutK, fGiveK, outF, envF, fnF, stF, stB, gN, gT, gsC, gsN, wipeD, getF, ownK, ownL, asB, asK, asL, asS, List.getElem?_cons_zero, List.getElem?_cons_succ, Option.bind_some, Option.map_some, Option.bind_none, Option.map_none, List.map_cons, List.map_nil, List.cons_append, List.nil_append, List.set_cons_zero, List.set_cons_succ, List.length_cons, List.length_nil, List.replicate_succ, List.replicate_zero, Nat.reduceSub, Nat.reduceAdd, Nat.reduceEqDiff, if_true, Bool.true_eq_false, Bool.false_eq_true, if_false, reduceIte, noDict, lenD_tup, lenD_lst, ltD_int, items_tup, items_lst, items_str, eqD_str, eqD_int, neD_str, neD_int, addD_int, subD_int, slD_lst, slD_tup, tuple_lst, tuple_tup, list_lst, list_tup, tyS_str, tyS_tup, lenD_str lr2, decide_eq_false c1]
          rw [decide_eq_false (show ¬ 2 ≤ z.length by rw [lr] at c1; omega)]
          simp
    · rw [decide_eq_false ca] at es'
      refine out_rt ((seq_rt (ifS_t ?_)).trans ?_)
      · simp only [fC, fV, fN, fCo, fTup, fLst, fOp, fCall, tfE, tfTr, tfYes, tfNot, tfAnd, tfOr, fAnd, fOr, fNot, fIf, ofN, ofS, fSl, fChain, fIsi, afV, afR, afZ, afZk, zipKF, fLc, fLc2, fTwo, fOne, fSort, fSortSet, fGet, fOIn, fOGet, fOLen, fOIx, fRepr, fRev, fMeth, fNil, fSeq, fSet, fAsg, fRet, fIfS, fFor, fNewL, fApp, fExt, fGive, fNewK, fMakeK, fPutK, fGiveK, outF, envF, fnF, stF, stB, gN, gT, gsC, gsN, wipeD, getF, ownK, ownL, asB, asK, asL, asS, List.getElem?_cons_zero, List.getElem?_cons_succ, Option.bind_some, Option.map_some, Option.bind_none, Option.map_none, List.map_cons, List.map_nil, List.cons_append, List.nil_append, List.set_cons_zero, List.set_cons_succ, List.length_cons, List.length_nil, List.replicate_succ, List.replicate_zero, Nat.reduceSub, Nat.reduceAdd, Nat.reduceEqDiff, if_true, Bool.true_eq_false, Bool.false_eq_true, if_false, reduceIte, noDict, lenD_tup, lenD_lst, ltD_int, items_tup, items_lst, items_str, eqD_str, eqD_int, neD_str, neD_int, addD_int, subD_int, slD_lst, slD_tup, tuple_lst, tuple_tup, list_lst, list_tup, tyS_str, tyS_tup, isC_s1, startsD, es', Bool.not_true]
        rfl
      · rw [decide_eq_false ca]
        rfl
/-! ### unknowns, names -/
theorem view_str (ks : List Str) : viewAll vS (ks.map PyData.str) = some ks := view_S ks
theorem Txt1.lm {x : Str} (h : Txt1 x) : x.length ≤ lim := Nat.le_trans h.2 (by decide)
theorem fl_strs {α : Type} (f : α → List Str) (L : List α) : L.flatMap (fun x => (f x).map PyData.str) = (L.flatMap f).map PyData.str := by
  induction L with
  | nil => rfl
  | cons x L ih => rw [List.flatMap_cons, List.flatMap_cons, ih, List.map_append]
theorem F_uns {L : List (List Str)} (h : OkL L) (few : (ddU (unkL L)).length < 62) : F_unknowns [stD L] = some (uD L) := by
  rw [at_unknowns]
  unfold S_unknowns
  refine out_rt (ret_is (call_is (xs := [.list ((uns L).map bS)]) ?_ rfl))
  have k1 : flF (stB (gN 1) tfYes (fTwo (afV (fSl slD (fV 1) (ofS (fC (.int 1))) ofN)) (gN 2) (tfE (fCall F_is_unknown (fCo (fV 2) fN))) (fOne (fV 2)) [2]) [some (.d (stD L)), none, none]) (L.map bT') = some ((unkL L).map PyData.str) := by
    unfold unkL
    rw [← fl_strs]
    refine flF_map fun f hf => ?_
    have okf := h.2 f hf
    rw [show bT' f = .tuple (f.map PyData.str) from rfl]
    simp only [fC, fV, fN, fCo, fTup, fLst, fOp, fCall, tfE, tfTr, tfYes, tfNot, tfAnd, tfOr, fAnd, fOr, fNot, fIf, ofN, ofS, fSl, fChain, fIsi, afV, afR, afZ, afZk, zipKF, fLc, fLc2, fTwo, fOne, fSort, fSortSet, fGet, fOIn, fOGet, fOLen, fOIx, fRepr, fRev, fMeth, fNil, fSeq, fSet, fAsg, fRet, fIfS, fFor, fNewL, fApp, fExt, fGive, fNewK, fMakeK, fPutK, fGiveK, outF, envF, fnF, stF, stB, gN, gT, gsC, gsN, wipeD, getF, ownK, ownL, asB, asK, asL, asS, List.getElem?_cons_zero, List.getElem?_cons_succ, Option.bind_some, Option.map_some, Option.bind_none, Option.map_none, List.map_cons, List.map_nil, List.cons_append, List.nil_append, List.set_cons_zero, List.set_cons_succ, List.length_cons, List.length_nil, List.replicate_succ, List.replicate_zero, Nat.reduceSub, Nat.reduceAdd, Nat.reduceEqDiff, if_true, Bool.true_eq_false, Bool.false_eq_true, if_false, reduceIte, noDict, lenD_tup, lenD_lst, ltD_int, items_tup, items_lst, items_str, eqD_str, eqD_int, neD_str, neD_int, addD_int, subD_int, slD_lst, slD_tup, tuple_lst, tuple_tup, list_lst, list_tup, tyS_str, tyS_tup, cut_drop1, bT_drop]
    have k2 := flF_map (enc := PyData.str) (h := fun x => if isUnk x = true then [PyData.str x] else []) (xs := f.drop 1) (st := stB (gN 2) (tfE (fCall F_is_unknown (fCo (fV 2) fN))) (fOne (fV 2)) [some (Sv.d (stD L)), some (Sv.d (PyData.tuple (List.map PyData.str f))), none]) fun x hx => by
      simp only [fC, fV, fN, fCo, fTup, fLst, fOp, fCall, tfE, tfTr, tfYes, tfNot, tfAnd, tfOr, fAnd, fOr, fNot, fIf, ofN, ofS, fSl, fChain, fIsi, afV, afR, afZ, afZk, zipKF, fLc, fLc2, fTwo, fOne, fSort, fSortSet, fGet, fOIn, fOGet, fOLen, fOIx, fRepr, fRev, fMeth, fNil, fSeq, fSet, fAsg, fRet, fIfS, fFor, fNewL, fApp, fExt, fGive, fNewK, fMakeK, fPutK, fGiveK, outF, envF, fnF, stF, stB, gN, gT, gsC, gsN, wipeD, getF, ownK, ownL, asB, asK, asL, asS, List.getElem?_cons_zero, List.getElem?_cons_succ, Option.bind_some, Option.map_some, Option.bind_none, Option.map_none, List.map_cons, List.map_nil, List.cons_append, List.nil_append, List.set_cons_zero, List.set_cons_succ, List.length_cons, List.length_nil, List.replicate_succ, List.replicate_zero, Nat.reduceSub, Nat.reduceAdd, Nat.reduceEqDiff, if_true, Bool.true_eq_false, Bool.false_eq_true, if_false, reduceIte, noDict, lenD_tup, lenD_lst, ltD_int, items_tup, items_lst, items_str, eqD_str, eqD_int, neD_str, neD_int, addD_int, subD_int, slD_lst, slD_tup, tuple_lst, tuple_tup, list_lst, list_tup, tyS_str, tyS_tup, F_unk (okf.2.2 x (List.mem_of_mem_drop hx)).lm]
      cases isUnk x <;> rfl
    refine k2.trans (congrArg some ?_)
    induction f.drop 1 with
    | nil => rfl
    | cons x r ih =>
      rw [List.flatMap_cons, ih]
      cases hx : isUnk x
      · rw [List.filter_cons_of_neg (by rw [hx]; decide)]
        rfl
      · rw [List.filter_cons_of_pos hx]
        rfl
  refine co1 (sort_is (xs := L.map bT') rfl k1 ?_)
  unfold srtF
  rw [view_str, Option.bind_some, if_pos few]
  rfl
end My

set_option linter.unusedSimpArgs false
/-! JL: leads judged: by the program, by the law -/
namespace My
open PySem PySem.Spec PyProof.Rows L2
/-! ### what may be compared -/
def ShN (n : Nat) (d : PyData) : Prop := d.canLay0 = true ∧ d.depth ≤ n
theorem lays_iff : ∀ {xs : List PyData}, PyData.canLayAll0 xs = true ↔ ∀ x ∈ xs, x.canLay0 = true
  | [] => by simp [PyData.canLayAll0]
  | x :: xs => by
    simp only [PyData.canLayAll0, Bool.and_eq_true, List.mem_cons, forall_eq_or_imp]
    rw [lays_iff]
theorem deps_le {n : Nat} : ∀ {xs : List PyData}, PyData.depthAll xs ≤ n ↔ ∀ x ∈ xs, x.depth ≤ n
  | [] => by simp [PyData.depthAll]
  | x :: xs => by
    simp only [PyData.depthAll, List.mem_cons, forall_eq_or_imp, Nat.max_le]
    rw [deps_le]
theorem ShN.tup {n : Nat} {xs : List PyData} : ShN (n + 1) (.tuple xs) ↔ ∀ x ∈ xs, ShN n x := by
  unfold ShN
  simp only [PyData.canLay0, PyData.depth, Nat.add_le_add_iff_right]
  rw [lays_iff, deps_le]
  exact ⟨fun h x m => ⟨h.1 x m, h.2 x m⟩, fun h => ⟨fun x m => (h x m).1, fun x m => (h x m).2⟩⟩
theorem ShN.lst {n : Nat} {xs : List PyData} : ShN (n + 1) (.list xs) ↔ ∀ x ∈ xs, ShN n x := by
  unfold ShN
  simp only [PyData.canLay0, PyData.depth, Nat.add_le_add_iff_right]
  rw [lays_iff, deps_le]
  exact ⟨fun h x m => ⟨h.1 x m, h.2 x m⟩, fun h => ⟨fun x m => (h x m).1, fun x m => (h x m).2⟩⟩
theorem ShN.mono {n m : Nat} {d : PyData} (h : ShN n d) (l : n ≤ m) : ShN m d := ⟨h.1, Nat.le_trans h.2 l⟩
theorem ShN.sh {d : PyData} (h : ShN 64 d) : SeqAt.shaped d = true := by
  unfold SeqAt.shaped
  rw [h.1, decide_eq_true h.2]
  rfl
theorem ShN.str {n : Nat} {z : Str} (h : ∀ c ∈ z.cps.toList, c < 1000) : ShN n (.str z) := by
  refine ⟨?_, by simp [PyData.depth]⟩
  simp only [PyData.canLay0]
  unfold PyData.strOk
  rw [← Array.all_toList]
  exact List.all_eq_true.mpr fun c hc => decide_eq_true (Nat.lt_of_lt_of_le (h c hc) (by decide))
theorem eqv_strs (ks : List Str) : ∀ xs : List PyData, PyData.eqvAll xs (ks.map PyData.str) = true ↔ xs = ks.map PyData.str := by
  induction ks with
  | nil =>
    intro xs
    cases xs <;> simp [PyData.eqvAll]
  | cons k ks ih =>
    intro xs
    cases xs with
    | nil => simp [PyData.eqvAll]
    | cons x xs =>
      rw [List.map_cons]
      simp only [PyData.eqvAll, Bool.and_eq_true, List.cons.injEq]
      rw [ih]
      refine and_congr ?_ Iff.rfl
      cases x <;> simp [PyData.eqv]
theorem eqv_strs' (ks : List Str) : ∀ xs : List PyData, PyData.eqvAll (ks.map PyData.str) xs = true ↔ xs = ks.map PyData.str := by
  induction ks with
  | nil =>
    intro xs
    cases xs <;> simp [PyData.eqvAll]
  | cons k ks ih =>
    intro xs
    cases xs with
    | nil => simp [PyData.eqvAll]
    | cons x xs =>
      rw [List.map_cons]
      simp only [PyData.eqvAll, Bool.and_eq_true, List.cons.injEq]
      rw [ih]
      refine and_congr ?_ Iff.rfl
      cases x <;> simp [PyData.eqv]
      exact eq_comm
/-! ### good stores -/
def SgnOk (z : Str) : Prop := (∀ c ∈ z.cps.toList, c < 1000) ∧ Txt1 z
def ValOk (z : Str) : Prop := wrdB z = true ∨ isUnk z = true
def FactG (f : List Str) : Prop := ∃ r ws, f = r :: ws ∧ wrdB r = true ∧ 1 ≤ ws.length ∧ ws.length ≤ 4 ∧ ∀ y ∈ ws, ValOk y
def GoodL (L : List (List Str)) : Prop := L.length ≤ 60 ∧ ∀ f ∈ L, FactG f
theorem wrd_sgn {z : Str} (h : wrdB z = true) : SgnOk z := by
  unfold wrdB at h
  simp only [Bool.and_eq_true, decide_eq_true_eq, List.all_eq_true] at h
  refine ⟨fun c hc => ?_, h.1.1, by omega⟩
  have z := h.2 c hc
  unfold letS at z
  simp only [List.mem_map, List.mem_range] at z
  obtain ⟨a, l, e⟩ := z
  omega
theorem unk_sgn {z : Str} (h : isUnk z = true) : SgnOk z := by
  rw [isUnk_is] at h
  simp only [Bool.and_eq_true, decide_eq_true_eq, List.all_eq_true] at h
  obtain ⟨⟨⟨h1, h2, h3⟩, _⟩, h5⟩ := h
  refine ⟨fun c hc => ?_, by omega, by omega⟩
  cases e : z.cps.toList with
  | nil => rw [e] at hc; cases hc
  | cons a r =>
    rw [e] at h1 h5 hc
    rcases List.mem_cons.mp hc with rfl | hc
    · have z := Option.some.inj h1
      omega
    · have z := h5 c hc
      unfold digS at z
      simp only [List.mem_cons, List.not_mem_nil, or_false] at z
      omega
theorem val_sgn {z : Str} (h : ValOk z) : SgnOk z := h.elim wrd_sgn unk_sgn
theorem FactG.okF {f : List Str} (h : FactG f) : OkF f := by
  obtain ⟨r, ws, rfl, h1, h2, h3, h4⟩ := h
  refine ⟨by simp, by simp only [List.length_cons]; omega, fun x hx => ?_⟩
  rcases List.mem_cons.mp hx with rfl | hx
  · exact (wrd_sgn h1).2
  · exact (val_sgn (h4 x hx)).2
theorem GoodL.okL {L : List (List Str)} (h : GoodL L) : OkL L := ⟨by have := h.1; omega, fun f hf => (h.2 f hf).okF⟩
theorem fst_head {z : Str} : fst z = (z.cps.toList.head?).getD 0 := by
  unfold fst
  obtain ⟨a⟩ := z
  obtain ⟨l⟩ := a
  cases l <;> rfl
theorem wrd_nmd {z : Str} (h : wrdB z = true) : nmd z = false := by
  unfold wrdB at h
  simp only [Bool.and_eq_true, decide_eq_true_eq, List.all_eq_true] at h
  unfold nmd
  refine decide_eq_false fun e => ?_
  rw [fst_head] at e
  have l := cps_len z
  cases ez : z.cps.toList with
  | nil => rw [ez] at l; simp only [List.length_nil] at l; omega
  | cons a r =>
    rw [ez] at e
    have z := h.2 a (by rw [ez]; exact List.mem_cons_self)
    unfold letS at z
    simp only [List.mem_map, List.mem_range] at z
    obtain ⟨b, l, e2⟩ := z
    have e3 : a = 63 := e
    omega
theorem unk_nmd {z : Str} (h : isUnk z = true) : nmd z = true := by
  rw [isUnk_is] at h
  simp only [Bool.and_eq_true, decide_eq_true_eq] at h
  unfold nmd
  refine decide_eq_true ?_
  rw [fst_head, h.1.1.1]
  rfl
theorem wrd_unk {z : Str} (h : wrdB z = true) : isUnk z = false := by
  cases e : isUnk z with
  | false => rfl
  | true =>
    have a := wrd_nmd h
    rw [unk_nmd e] at a
    cases a
theorem val_nmd {z : Str} (h : ValOk z) : nmd z = isUnk z := by
  rcases h with h | h
  · rw [wrd_nmd h, wrd_unk h]
  · rw [unk_nmd h, h]
theorem good_nm {L : List (List Str)} (h : GoodL L) : nmL L = unkL L := by
  unfold nmL unkL
  have z := h.2
  clear h
  induction L with
  | nil => rfl
  | cons f L ih =>
    rw [List.flatMap_cons, List.flatMap_cons, ih fun g hg => z g (List.mem_cons_of_mem _ hg)]
    congr 1
    obtain ⟨r, ws, rfl, _, _, _, h4⟩ := z f List.mem_cons_self
    exact List.filter_congr fun y hy => val_nmd (h4 y hy)
theorem good_nms {L : List (List Str)} (h : GoodL L) : nms L = uns L := by
  unfold nms uns
  rw [good_nm h]
theorem uns_mem {L : List (List Str)} {x : Str} : x ∈ uns L ↔ ∃ f ∈ L, x ∈ f.drop 1 ∧ isUnk x = true := by
  unfold uns
  rw [srt_mem, ddU_mem]
  unfold unkL
  rw [List.mem_flatMap]
  exact ⟨fun ⟨f, h1, h2⟩ => ⟨f, h1, List.mem_filter.mp h2⟩, fun ⟨f, h1, h2⟩ => ⟨f, h1, List.mem_filter.mpr h2⟩⟩
theorem uns_nd (L : List (List Str)) : (uns L).Nodup := srt_nd (ddU_nd _)
end My

set_option linter.unusedSimpArgs false
/-! JQ: neighbours that may follow, and the whole row ascending with one width for each relation -/
namespace My
open PySem PySem.Spec PyProof.Rows L2
theorem ltK_cons_ (x y : Str) (xs ys : List Str) : ltK (x :: xs) (y :: ys) = if x = y then ltK xs ys else ltS x y := rfl
def mayK (ks ms : List Str) : Bool := ltK ks ms && (!decide (ks.head? = ms.head?) || decide (ks.length = ms.length))
def adjL (L : List (List Str)) : Bool := (L.zip (L.drop 1)).all fun p => mayK p.1 p.2
/-- one width for each first text -/
def OneW (L : List (List Str)) : Prop := ∀ k ∈ L, ∀ m ∈ L, k.head? = m.head? → k.length = m.length
theorem adjL_cons (k m : List Str) (r : List (List Str)) : adjL (k :: m :: r) = (mayK k m && adjL (m :: r)) := rfl
theorem ltK_head {x y : Str} {xs ys : List Str} (h : ltK (x :: xs) (y :: ys) = true) : x = y ∨ ltS x y = true := by
  rw [ltK_cons_] at h
  by_cases e : x = y
  · exact .inl e
  · rw [if_neg e] at h
    exact .inr h
theorem adj_asc : ∀ {L : List (List Str)}, (∀ k ∈ L, k ≠ []) → (adjL L = true ↔ Asc ltK L ∧ OneW L)
  | [], _ => ⟨fun _ => ⟨.nil, fun k h => nomatch h⟩, fun _ => rfl⟩
  | [k], _ => ⟨fun _ => ⟨List.pairwise_singleton _ _, fun a ha b hb _ => by rw [List.mem_singleton.mp ha, List.mem_singleton.mp hb]⟩, fun _ => rfl⟩
  | k :: m :: r, ne => by
    have ih := adj_asc (L := m :: r) fun j hj => ne j (List.mem_cons_of_mem _ hj)
    rw [adjL_cons, Bool.and_eq_true, ih]
    obtain ⟨x, xs, rfl⟩ := List.exists_cons_of_ne_nil (ne k List.mem_cons_self)
    obtain ⟨y, ys, rfl⟩ := List.exists_cons_of_ne_nil (ne m (List.mem_cons_of_mem _ List.mem_cons_self))
    constructor
    · rintro ⟨hm, asc, one⟩
      unfold mayK at hm
      rw [Bool.and_eq_true] at hm
      obtain ⟨lt, w⟩ := hm
      have all : ∀ j ∈ (y :: ys) :: r, ltK (x :: xs) j = true := fun j hj => by
        rcases List.mem_cons.mp hj with rfl | hj
        · exact lt
        · exact tot_key.trans _ _ _ lt ((List.pairwise_cons.mp asc).1 j hj)
      have key : ∀ j ∈ (y :: ys) :: r, (x :: xs).head? = j.head? → (x :: xs).length = j.length := fun j hj e => by
        have hxy : x = y := by
          rcases ltK_head lt with h | h
          · exact h
          · exfalso
            obtain ⟨z, zs, rfl⟩ := List.exists_cons_of_ne_nil (ne j (List.mem_cons_of_mem _ hj))
            have exz : x = z := Option.some.inj e
            subst exz
            rcases List.mem_cons.mp hj with hj | hj
            · have e2 : x = y := (List.cons.inj hj).1
              rw [e2, tot_str.irr] at h
              cases h
            · rcases ltK_head ((List.pairwise_cons.mp asc).1 _ hj) with h2 | h2
              · rw [h2, tot_str.irr] at h
                cases h
              · have h3 := tot_str.trans _ _ _ h h2
                rw [tot_str.irr] at h3
                cases h3
        have e1 : (x :: xs).length = (y :: ys).length := by
          rcases Bool.or_eq_true_iff.mp w with h | h
          · rw [hxy] at h
            simp at h
          · exact of_decide_eq_true h
        rw [e1]
        refine one _ List.mem_cons_self j hj ?_
        rw [← e, hxy]
        rfl
      refine ⟨List.pairwise_cons.mpr ⟨all, asc⟩, fun a ha b hb e => ?_⟩
      rcases List.mem_cons.mp ha with rfl | ha
      · rcases List.mem_cons.mp hb with rfl | hb
        · rfl
        · exact key b hb e
      · rcases List.mem_cons.mp hb with rfl | hb
        · exact (key a ha e.symm).symm
        · exact one a ha b hb e
    · rintro ⟨asc, one⟩
      obtain ⟨h1, h2⟩ := List.pairwise_cons.mp asc
      refine ⟨?_, h2, fun a ha b hb => one a (List.mem_cons_of_mem _ ha) b (List.mem_cons_of_mem _ hb)⟩
      unfold mayK
      rw [h1 _ List.mem_cons_self, Bool.true_and]
      by_cases e : (x :: xs).head? = (y :: ys).head?
      · rw [decide_eq_true (one _ List.mem_cons_self _ (List.mem_cons_of_mem _ List.mem_cons_self) e), Bool.or_true]
      · rw [decide_eq_false e]
        rfl
theorem asc_is {ks ms : List (List Str)} (ne : ∀ k ∈ ks, k ≠ []) (one : OneW ks) (asc : Asc ltK ms) (mem : ∀ k, k ∈ ms ↔ k ∈ ks) : decide (ks = ms) = adjL ks := by
  rw [Bool.eq_iff_iff, decide_eq_true_eq, adj_asc ne]
  constructor
  · rintro rfl
    exact ⟨asc, one⟩
  · rintro ⟨h, _⟩
    exact asc_uniq tot_key h asc fun k => (mem k).symm
end My

set_option linter.unusedVariables false
/-! X_is_word: a def as a function of data -/
namespace My
open PySem PySem.Spec PyProof.Rows L2
section
variable {P : Program} {w : World} {K : PySem.W.Frag} {mg : Str → Option Value} {base : Heap}
def S_is_word : SF :=
  (fSeq (fIfS (tfNot (tfE (fIsi (isC "str") (fV 0)))) (fRet (fC (.bool false))) fNil)
    (fRet (fAnd (fChain (ltD fun i j => decide (i ≤ j)) (ltD fun i j => decide (i ≤ j)) (fC (.int 1)) (fCall lenD (fCo (fV 0) fN)) (fC (.int 8))) (fCall allD (fCo (fLc (afV (fV 0)) (gN 1) tfYes (fOp (inD false) (fV 1) (fC (.str "abcdefghijklmnopqrstuvwxyz"))) [1]) fN)))))
def F_is_word : List PyData → Option PyData := fnF 1 2 S_is_word
theorem at_is_word (x0 : PyData) : F_is_word [x0] = (S_is_word [some (.d x0), none]).bind outF := rfl
theorem sc_is_word : FnScope ["value", "sign"] ["value"] (defScope sIsWord) := ⟨rfl, rfl, rfl, by decide +kernel, rfl, by decide +kernel, by decide +kernel⟩
theorem okF_is_word {f : Addr} {fd : FuncData} (F : Fun K "is_word" "is_word" sIsWord f fd) (z_isinstance : mg "isinstance" = none) (z_str : mg "str" = none) (z_len : mg "len" = none) (z_all : mg "all" = none) (k_str : IsT K "str" (isC "str")) {t_LETTERS : Tok} (g_LETTERS : mg "LETTERS" = some (.str "abcdefghijklmnopqrstuvwxyz" t_LETTERS)) : FnOk P w K mg base CX0 1 f fd ["value"] (spP K F_is_word) :=
  show FnOk P w K mg base CX0 1 f fd ["value"] (spP K (fnF 1 2 S_is_word)) from
  fn_okF (S := S_is_word) 1 2 F sc_is_word rfl rfl (fun cdv A outer s H E hr => by
    have hu := hr.units
    have hv := Room.u65 hr
    exact (qss_cons (qs_if (qdt_not (qdt_val (qd_isi k_str (by rfl) z_isinstance (qdv 0) (by rfl) z_str boot_str))) (qss_one (qs_ret qd_bl)) qss_nil)
      (qss_one (qs_ret (qd_and (qd_chain op_le pu_cmp op_le pu_cmp qd_int (qd_callB cr_lenU pu_len (by rfl) z_len PySem.boot_len (qda_cons (qdv 0) qda_nil)) qd_int) (qd_one (qd_callB (cr_all rfl) pu_all (by rfl) z_all boot_all (qda_cons (qd_lc (own := [("sign", 1)]) rfl sc_is_word.nd (qdi_val (qdv 0)) (blkOk_by (own := [("sign", 1)]) (N := ["value", "sign"]) (sc := (defScope sIsWord)) (by decide +kernel)) (by decide) (fun _ _ _ _ _ => (qdg_name (i := 1) sc_is_word.nd rfl (Or.inl rfl))) (fun _ _ _ _ _ => qts_nil) (fun _ _ _ _ _ => (qd_cmp (op_inU hv) pu_in (qdv 1) (qd_glob rfl g_LETTERS) (by rfl)))) qda_nil))))))))
   (show IsS _ S_is_word from (is_seq (is_ifS (is_tfNot (is_tfE (is_isi is_v))) (is_ret is_c) is_nil) (is_ret (is_and (is_chain is_c (is_call (is_co is_v is_n)) is_c) (is_call (is_co (is_lc (is_afV is_v) is_tfYes (is_op is_v is_c)) is_n))))))

end
end My

set_option linter.unusedVariables false
/-! X_is_value: a def as a function of data -/
namespace My
open PySem PySem.Spec PyProof.Rows L2
section
variable {P : Program} {w : World} {K : PySem.W.Frag} {mg : Str → Option Value} {base : Heap}
def S_is_value : SF :=
  (fRet (fOr (fCall F_is_word (fCo (fV 0) fN)) (fCall F_is_unknown (fCo (fV 0) fN))))
def F_is_value : List PyData → Option PyData := fnF 1 1 S_is_value
theorem at_is_value (x0 : PyData) : F_is_value [x0] = (S_is_value [some (.d x0)]).bind outF := rfl
theorem sc_is_value : FnScope ["value"] ["value"] (defScope sIsValue) := ⟨rfl, rfl, rfl, by decide +kernel, rfl, by decide +kernel, by decide +kernel⟩
theorem okF_is_value {f : Addr} {fd : FuncData} (F : Fun K "is_value" "is_value" sIsValue f fd) {f_is_word : Addr} {d_is_word : FuncData} (G_is_word : FnOk P w K mg base CX0 1 f_is_word d_is_word ["value"] (spP K F_is_word)) (m_is_word : mg "is_word" = some (.ref f_is_word)) (k_is_word : PySem.W.keepIn K (.ref f_is_word) = true) (b_is_word : Binds K d_is_word ["value"] []) {f_is_unknown : Addr} {d_is_unknown : FuncData} (G_is_unknown : FnOk P w K mg base CX0 1 f_is_unknown d_is_unknown ["value"] (spP K F_is_unknown)) (m_is_unknown : mg "is_unknown" = some (.ref f_is_unknown)) (k_is_unknown : PySem.W.keepIn K (.ref f_is_unknown) = true) (b_is_unknown : Binds K d_is_unknown ["value"] []) : FnOk P w K mg base CX0 2 f fd ["value"] (spP K F_is_value) :=
  show FnOk P w K mg base CX0 2 f fd ["value"] (spP K (fnF 1 1 S_is_value)) from
  fn_okF (S := S_is_value) 1 1 F sc_is_value rfl rfl (fun cdv A outer s H E hr => by
    have hu := hr.units
    have hv := Room.u65 hr
    exact (qss_one (qs_ret (qd_or (qd_call G_is_word (hr.mono (by decide)) rfl m_is_word k_is_word b_is_word pass0 (qda_cons (qdv 0) qda_nil)) (qd_one (qd_call G_is_unknown (hr.mono (by decide)) rfl m_is_unknown k_is_unknown b_is_unknown pass0 (qda_cons (qdv 0) qda_nil)))))))
   (show IsS _ S_is_value from (is_ret (is_or (is_call (is_co is_v is_n)) (is_call (is_co is_v is_n)))))

end
end My

set_option linter.unusedVariables false
/-! X_is_fact: a def as a function of data -/
namespace My
open PySem PySem.Spec PyProof.Rows L2
section
variable {P : Program} {w : World} {K : PySem.W.Frag} {mg : Str → Option Value} {base : Heap}
def S_is_fact : SF :=
  (fSeq (fIfS (tfOr (tfNot (tfE (fIsi (isC "tuple") (fV 0)))) (tfNot (tfE (fChain (ltD fun i j => decide (i ≤ j)) (ltD fun i j => decide (i ≤ j)) (fC (.int 2)) (fCall lenD (fCo (fV 0) fN)) (fC (.int 5)))))) (fRet (fC (.bool false))) fNil)
    (fRet (fAnd (fCall F_is_word (fCo (fOp ixD (fV 0) (fC (.int 0))) fN)) (fCall allD (fCo (fLc (afV (fSl slD (fV 0) (ofS (fC (.int 1))) ofN)) (gN 1) tfYes (fCall F_is_value (fCo (fV 1) fN)) [1]) fN)))))
def F_is_fact : List PyData → Option PyData := fnF 1 2 S_is_fact
theorem at_is_fact (x0 : PyData) : F_is_fact [x0] = (S_is_fact [some (.d x0), none]).bind outF := rfl
theorem sc_is_fact : FnScope ["value", "part"] ["value"] (defScope sIsFact) := ⟨rfl, rfl, rfl, by decide +kernel, rfl, by decide +kernel, by decide +kernel⟩
theorem okF_is_fact {f : Addr} {fd : FuncData} (F : Fun K "is_fact" "is_fact" sIsFact f fd) (z_isinstance : mg "isinstance" = none) (z_tuple : mg "tuple" = none) (z_len : mg "len" = none) (z_all : mg "all" = none) (k_tuple : IsT K "tuple" (isC "tuple")) {f_is_word : Addr} {d_is_word : FuncData} (G_is_word : FnOk P w K mg base CX0 1 f_is_word d_is_word ["value"] (spP K F_is_word)) (m_is_word : mg "is_word" = some (.ref f_is_word)) (k_is_word : PySem.W.keepIn K (.ref f_is_word) = true) (b_is_word : Binds K d_is_word ["value"] []) {f_is_value : Addr} {d_is_value : FuncData} (G_is_value : FnOk P w K mg base CX0 2 f_is_value d_is_value ["value"] (spP K F_is_value)) (m_is_value : mg "is_value" = some (.ref f_is_value)) (k_is_value : PySem.W.keepIn K (.ref f_is_value) = true) (b_is_value : Binds K d_is_value ["value"] []) : FnOk P w K mg base CX0 3 f fd ["value"] (spP K F_is_fact) :=
  show FnOk P w K mg base CX0 3 f fd ["value"] (spP K (fnF 1 2 S_is_fact)) from
  fn_okF (S := S_is_fact) 1 2 F sc_is_fact rfl rfl (fun cdv A outer s H E hr => by
    have hu := hr.units
    have hv := Room.u65 hr
    exact (qss_cons (qs_if (qdt_W (qdw_or (qdt_not (qdt_val (qd_isi k_tuple (by rfl) z_isinstance (qdv 0) (by rfl) z_tuple boot_tuple))) (qdw_or1 (qdt_not (qdt_chain op_le pu_cmp op_le pu_cmp qd_int (qd_callB cr_lenU pu_len (by rfl) z_len PySem.boot_len (qda_cons (qdv 0) qda_nil)) qd_int))))) (qss_one (qs_ret qd_bl)) qss_nil)
      (qss_one (qs_ret (qd_and (qd_call G_is_word (hr.mono (by decide)) rfl m_is_word k_is_word b_is_word pass0 (qda_cons (qd_ix ix_seq pu_ix (qdv 0) qd_int) qda_nil)) (qd_one (qd_callB (cr_all rfl) pu_all (by rfl) z_all boot_all (qda_cons (qd_lc (own := [("part", 1)]) rfl sc_is_fact.nd (qdi_val (qd_sl sl_U pu_sl (qdv 0) (qdo_some qd_int) qdo_none)) (blkOk_by (own := [("part", 1)]) (N := ["value", "part"]) (sc := (defScope sIsFact)) (by decide +kernel)) (by decide) (fun _ _ _ _ _ => (qdg_name (i := 1) sc_is_fact.nd rfl (Or.inl rfl))) (fun _ _ _ _ _ => qts_nil) (fun _ _ _ _ _ => (qd_call G_is_value (hr.mono (by decide)) rfl m_is_value k_is_value b_is_value pass0 (qda_cons (qdv 1) qda_nil)))) qda_nil))))))))
   (show IsS _ S_is_fact from (is_seq (is_ifS (is_tfOr (is_tfNot (is_tfE (is_isi is_v))) (is_tfNot (is_tfE (is_chain is_c (is_call (is_co is_v is_n)) is_c)))) (is_ret is_c) is_nil) (is_ret (is_and (is_call (is_co (is_op is_v is_c) is_n)) (is_call (is_co (is_lc (is_afV (is_sl is_v (is_ofS is_c) is_ofN)) is_tfYes (is_call (is_co is_v is_n))) is_n))))))

end
end My

set_option linter.unusedVariables false
/-! X_may_follow: a def as a function of data -/
namespace My
open PySem PySem.Spec PyProof.Rows L2
section
variable {P : Program} {w : World} {K : PySem.W.Frag} {mg : Str → Option Value} {base : Heap}
def S_may_follow : SF :=
  (fRet (fAnd (fOp ltX (fV 0) (fV 1)) (fOr (fOp neD (fOp ixD (fV 0) (fC (.int 0))) (fOp ixD (fV 1) (fC (.int 0)))) (fOp eqD (fCall lenD (fCo (fV 0) fN)) (fCall lenD (fCo (fV 1) fN))))))
def F_may_follow : List PyData → Option PyData := fnF 2 2 S_may_follow
theorem at_may_follow (x0 x1 : PyData) : F_may_follow [x0, x1] = (S_may_follow [some (.d x0), some (.d x1)]).bind outF := rfl
theorem sc_may_follow : FnScope ["fact", "then"] ["fact", "then"] (defScope sMay) := ⟨rfl, rfl, rfl, by decide +kernel, rfl, by decide +kernel, by decide +kernel⟩
theorem okF_may_follow {f : Addr} {fd : FuncData} (F : Fun K "may_follow" "may_follow" sMay f fd) (z_len : mg "len" = none) : FnOk P w K mg base CX0 1 f fd ["fact", "then"] (spP K F_may_follow) :=
  show FnOk P w K mg base CX0 1 f fd ["fact", "then"] (spP K (fnF 2 2 S_may_follow)) from
  fn_okF (S := S_may_follow) 2 2 F sc_may_follow rfl rfl (fun cdv A outer s H E hr => by
    have hu := hr.units
    have hv := Room.u65 hr
    exact (qss_one (qs_ret (qd_and (qd_cmp (op_ltX (lt0 hu)) pu_ltX (qdv 0) (qdv 1) (nomark _)) (qd_one (qd_or (qd_cmp (op_neU hu) pu_ne (qd_ix ix_seq pu_ix (qdv 0) qd_int) (qd_ix ix_seq pu_ix (qdv 1) qd_int) (nomark _)) (qd_one (qd_cmp (op_eqU hu) pu_eq (qd_callB cr_lenU pu_len (by rfl) z_len PySem.boot_len (qda_cons (qdv 0) qda_nil)) (qd_callB cr_lenU pu_len (by rfl) z_len PySem.boot_len (qda_cons (qdv 1) qda_nil)) (nomark _)))))))))
   (show IsS _ S_may_follow from (is_ret (is_and (is_op is_v is_v) (is_or (is_op (is_op is_v is_c) (is_op is_v is_c)) (is_op (is_call (is_co is_v is_n)) (is_call (is_co is_v is_n)))))))

end
end My

set_option linter.unusedVariables false
/-! X_is_store: a def as a function of data -/
namespace My
open PySem PySem.Spec PyProof.Rows L2
section
variable {P : Program} {w : World} {K : PySem.W.Frag} {mg : Str → Option Value} {base : Heap}
def S_is_store : SF :=
  (fSeq (fIfS (tfOr (tfNot (tfE (fIsi (isC "tuple") (fV 0)))) (tfNot (tfE (fCall allD (fCo (fLc (afV (fV 0)) (gN 1) tfYes (fCall F_is_fact (fCo (fV 1) fN)) [1]) fN))))) (fRet (fC (.bool false))) fNil)
    (fRet (fCall allD (fCo (fLc (afZk (fCo (fV 0) (fCo (fSl slD (fV 0) (ofS (fC (.int 1))) ofN) fN))) (gT 2 (gsC (gN 1) (gsC (gN 2) gsN))) tfYes (fCall F_may_follow (fCo (fV 1) (fCo (fV 2) fN))) [1, 2]) fN))))
def F_is_store : List PyData → Option PyData := fnF 1 3 S_is_store
theorem at_is_store (x0 : PyData) : F_is_store [x0] = (S_is_store [some (.d x0), none, none]).bind outF := rfl
theorem sc_is_store : FnScope ["value", "fact", "then"] ["value"] (defScope sIsStore) := ⟨rfl, rfl, rfl, by decide +kernel, rfl, by decide +kernel, by decide +kernel⟩
theorem okF_is_store {f : Addr} {fd : FuncData} (F : Fun K "is_store" "is_store" sIsStore f fd) (z_isinstance : mg "isinstance" = none) (z_tuple : mg "tuple" = none) (z_all : mg "all" = none) (z_zip : mg "zip" = none) (k_tuple : IsT K "tuple" (isC "tuple")) {f_is_fact : Addr} {d_is_fact : FuncData} (G_is_fact : FnOk P w K mg base CX0 3 f_is_fact d_is_fact ["value"] (spP K F_is_fact)) (m_is_fact : mg "is_fact" = some (.ref f_is_fact)) (k_is_fact : PySem.W.keepIn K (.ref f_is_fact) = true) (b_is_fact : Binds K d_is_fact ["value"] []) {f_may_follow : Addr} {d_may_follow : FuncData} (G_may_follow : FnOk P w K mg base CX0 1 f_may_follow d_may_follow ["fact", "then"] (spP K F_may_follow)) (m_may_follow : mg "may_follow" = some (.ref f_may_follow)) (k_may_follow : PySem.W.keepIn K (.ref f_may_follow) = true) (b_may_follow : Binds K d_may_follow ["fact", "then"] []) : FnOk P w K mg base CX0 4 f fd ["value"] (spP K F_is_store) :=
  show FnOk P w K mg base CX0 4 f fd ["value"] (spP K (fnF 1 3 S_is_store)) from
  fn_okF (S := S_is_store) 1 3 F sc_is_store rfl rfl (fun cdv A outer s H E hr => by
    have hu := hr.units
    have hv := Room.u65 hr
    exact (qss_cons (qs_if (qdt_W (qdw_or (qdt_not (qdt_val (qd_isi k_tuple (by rfl) z_isinstance (qdv 0) (by rfl) z_tuple boot_tuple))) (qdw_or1 (qdt_not (qdt_val (qd_callB (cr_all rfl) pu_all (by rfl) z_all boot_all (qda_cons (qd_lc (own := [("fact", 1)]) rfl sc_is_store.nd (qdi_val (qdv 0)) (blkOk_by (own := [("fact", 1)]) (N := ["value", "fact", "then"]) (sc := (defScope sIsStore)) (by decide +kernel)) (by decide) (fun _ _ _ _ _ => (qdg_name (i := 1) sc_is_store.nd rfl (Or.inl rfl))) (fun _ _ _ _ _ => qts_nil) (fun _ _ _ _ _ => (qd_call G_is_fact (hr.mono (by decide)) rfl m_is_fact k_is_fact b_is_fact pass0 (qda_cons (qdv 1) qda_nil)))) qda_nil))))))) (qss_one (qs_ret qd_bl)) qss_nil)
      (qss_one (qs_ret (qd_callB (cr_all rfl) pu_all (by rfl) z_all boot_all (qda_cons (qd_lc (own := [("fact", 1), ("then", 2)]) rfl sc_is_store.nd (qdi_zipK (by rfl) z_zip (qda_cons (qdv 0) (qda_cons (qd_sl sl_U pu_sl (qdv 0) (qdo_some qd_int) qdo_none) qda_nil))) (blkOk_by (own := [("fact", 1), ("then", 2)]) (N := ["value", "fact", "then"]) (sc := (defScope sIsStore)) (by decide +kernel)) (by decide) (fun _ _ _ _ _ => (qdg_tup (n := 2) rfl (qdgs_cons (qdg_name (i := 1) sc_is_store.nd rfl (Or.inl rfl)) (qdgs_cons (qdg_name (i := 2) sc_is_store.nd rfl (Or.inl rfl)) qdgs_nil)))) (fun _ _ _ _ _ => qts_nil) (fun _ _ _ _ _ => (qd_call G_may_follow (hr.mono (by decide)) rfl m_may_follow k_may_follow b_may_follow pass0 (qda_cons (qdv 1) (qda_cons (qdv 2) qda_nil))))) qda_nil))))))
   (show IsS _ S_is_store from (is_seq (is_ifS (is_tfOr (is_tfNot (is_tfE (is_isi is_v))) (is_tfNot (is_tfE (is_call (is_co (is_lc (is_afV is_v) is_tfYes (is_call (is_co is_v is_n))) is_n))))) (is_ret is_c) is_nil) (is_ret (is_call (is_co (is_lc (is_afZk (is_co is_v (is_co (is_sl is_v (is_ofS is_c) is_ofN) is_n))) is_tfYes (is_call (is_co is_v (is_co is_v is_n)))) is_n)))))

end
end My

set_option linter.unusedSimpArgs false
set_option linter.unusedVariables false
/-! JS: what the functions of stores tell -/
namespace My
open PySem PySem.Spec PyProof.Rows L2
theorem and_is {a b : EF} {ρ : DEnv} {x y : Bool} (h : a ρ = some (.bool x)) (k : x = true → b ρ = some (.bool y)) : fAnd a b ρ = some (.bool (x && y)) := by
  unfold fAnd
  rw [h]
  cases x with
  | true => exact k rfl
  | false => rfl
theorem or_is {a b : EF} {ρ : DEnv} {x y : Bool} (h : a ρ = some (.bool x)) (k : x = false → b ρ = some (.bool y)) : fOr a b ρ = some (.bool (x || y)) := by
  unfold fOr
  rw [h]
  cases x with
  | true => rfl
  | false => exact k rfl
theorem tb_is {e : EF} {ρ : DEnv} {b : Bool} (h : e ρ = some (.bool b)) : tfE e ρ = some b := by
  unfold tfE
  rw [h]
  rfl
theorem tnot_is {f : TF} {ρ : DEnv} {b : Bool} (h : f ρ = some b) : tfNot f ρ = some (!b) := by
  unfold tfNot
  rw [h]
  rfl
theorem tor_is {f g : TF} {ρ : DEnv} {x y : Bool} (h : f ρ = some x) (k : x = false → g ρ = some y) : tfOr f g ρ = some (x || y) := by
  unfold tfOr
  rw [h]
  cases x with
  | true => rfl
  | false => exact k rfl
theorem tand_is {f g : TF} {ρ : DEnv} {x y : Bool} (h : f ρ = some x) (k : x = true → g ρ = some y) : tfAnd f g ρ = some (x && y) := by
  unfold tfAnd
  rw [h]
  cases x with
  | true => exact k rfl
  | false => rfl
/-- lo <= len(x) <= hi -/
theorem chain_is {a : EF} {ρ : DEnv} {m lo hi : Int} (h : a ρ = some (.int m)) : fChain (ltD fun i j => decide (i ≤ j)) (ltD fun i j => decide (i ≤ j)) (fC (.int lo)) a (fC (.int hi)) ρ = some (.bool (decide (lo ≤ m) && decide (m ≤ hi))) := by
  unfold fChain fC
  rw [h]
  by_cases c1 : lo ≤ m
  · by_cases c2 : m ≤ hi
    · simp only [fC, fV, fN, fCo, fTup, fLst, fOp, fCall, tfE, tfTr, tfYes, tfNot, tfAnd, tfOr, fAnd, fOr, fNot, fIf, ofN, ofS, fSl, fChain, fIsi, afV, afR, afZ, afZk, zipKF, fLc, fLc2, fTwo, fOne, fSort, fSortSet, fGet, fOIn, fOGet, fOLen, fOIx, fRepr, fRev, fMeth, fNil, fSeq, fSet, fAsg, fRet, fIfS, fFor, fNewL, fApp, fExt, fGive, fNewK, fMakeK, fPutK, fGiveK, outF, envF, fnF, stF, stB, gN, gT, gsC, gsN, wipeD, getF, ownK, ownL, asB, asK, asL, asS, List.getElem?_cons_zero, List.getElem?_cons_succ, Option.bind_some, Option.map_some, Option.bind_none, Option.map_none, List.map_cons, List.map_nil, List.cons_append, List.nil_append, List.set_cons_zero, List.set_cons_succ, List.length_cons, List.length_nil, List.replicate_succ, List.replicate_zero, Nat.reduceSub, Nat.reduceAdd, Nat.reduceEqDiff, if_true, Bool.true_eq_false, Bool.false_eq_true, if_false, reduceIte, noDict, lenD_tup, lenD_lst, ltD_int, items_tup, items_lst, items_str, eqD_str, eqD_int, neD_str, neD_int, addD_int, subD_int, slD_lst, slD_tup, tuple_lst, tuple_tup, list_lst, list_tup, tyS_str, tyS_tup, decide_eq_true c1, decide_eq_true c2]
      rfl
    · simp only [fC, fV, fN, fCo, fTup, fLst, fOp, fCall, tfE, tfTr, tfYes, tfNot, tfAnd, tfOr, fAnd, fOr, fNot, fIf, ofN, ofS, fSl, fChain, fIsi, afV, afR, afZ, afZk, zipKF, fLc, fLc2, fTwo, fOne, fSort, fSortSet, fGet, fOIn, fOGet, fOLen, fOIx, fRepr, fRev, fMeth, fNil, fSeq, fSet, fAsg, fRet, fIfS, fFor, fNewL, fApp, fExt, fGive, fNewK, fMakeK, fPutK, fGiveK, outF, envF, fnF, stF, stB, gN, gT, gsC, gsN, wipeD, getF, ownK, ownL, asB, asK, asL, asS, List.getElem?_cons_zero, List.getElem?_cons_succ, Option.bind_some, Option.map_some, Option.bind_none, Option.map_none, List.map_cons, List.map_nil, List.cons_append, List.nil_append, List.set_cons_zero, List.set_cons_succ, List.length_cons, List.length_nil, List.replicate_succ, List.replicate_zero, Nat.reduceSub, Nat.reduceAdd, Nat.reduceEqDiff, if_true, Bool.true_eq_false, Bool.false_eq_true, if_false, reduceIte, noDict, lenD_tup, lenD_lst, ltD_int, items_tup, items_lst, items_str, eqD_str, eqD_int, neD_str, neD_int, addD_int, subD_int, slD_lst, slD_tup, tuple_lst, tuple_tup, list_lst, list_tup, tyS_str, tyS_tup, decide_eq_true c1, decide_eq_false c2]
      rfl
  · simp only [fC, fV, fN, fCo, fTup, fLst, fOp, fCall, tfE, tfTr, tfYes, tfNot, tfAnd, tfOr, fAnd, fOr, fNot, fIf, ofN, ofS, fSl, fChain, fIsi, afV, afR, afZ, afZk, zipKF, fLc, fLc2, fTwo, fOne, fSort, fSortSet, fGet, fOIn, fOGet, fOLen, fOIx, fRepr, fRev, fMeth, fNil, fSeq, fSet, fAsg, fRet, fIfS, fFor, fNewL, fApp, fExt, fGive, fNewK, fMakeK, fPutK, fGiveK, outF, envF, fnF, stF, stB, gN, gT, gsC, gsN, wipeD, getF, ownK, ownL, asB, asK, asL, asS, List.getElem?_cons_zero, List.getElem?_cons_succ, Option.bind_some, Option.map_some, Option.bind_none, Option.map_none, List.map_cons, List.map_nil, List.cons_append, List.nil_append, List.set_cons_zero, List.set_cons_succ, List.length_cons, List.length_nil, List.replicate_succ, List.replicate_zero, Nat.reduceSub, Nat.reduceAdd, Nat.reduceEqDiff, if_true, Bool.true_eq_false, Bool.false_eq_true, if_false, reduceIte, noDict, lenD_tup, lenD_lst, ltD_int, items_tup, items_lst, items_str, eqD_str, eqD_int, neD_str, neD_int, addD_int, subD_int, slD_lst, slD_tup, tuple_lst, tuple_tup, list_lst, list_tup, tyS_str, tyS_tup, decide_eq_false c1]
    rfl
theorem let_in (c : Nat) : inD false (.str ⟨#[c]⟩) (.str "abcdefghijklmnopqrstuvwxyz") = some (.bool (decide (c ∈ letS))) := by
  have z := letn_is c
  rw [inD_sign] at z ⊢
  simpa using z
theorem F_word {d : PyData} (h : okD d = true) : F_is_word [d] = some (.bool (wrdD d)) := by
  rw [at_is_word]
  unfold S_is_word
  cases d with
  | str z =>
    have lz := okD_str h
    have lv : (z.cps.toList.map fun c => PyData.str ⟨#[c]⟩).length ≤ lim := by
      rw [List.length_map, cps_len]
      exact lz
    refine out_rt ((seq_nx (ρ' := [some (.d (.str z)), none]) ((ifS_f ?_).trans rfl)).trans (ret_is ?_))
    · rfl
    · show _ = some (PyData.bool (wrdB z))
      have k1 : fLc (afV (fV 0)) (gN 1) tfYes (fOp (inD false) (fV 1) (fC (.str "abcdefghijklmnopqrstuvwxyz"))) [1] [some (.d (.str z)), none] = some (.list (z.cps.toList.map fun c => PyData.bool (decide (c ∈ letS)))) := lc_is (xs := z.cps.toList.map fun c => PyData.str ⟨#[c]⟩) rfl lv (lcF_map fun c _ => st_yes rfl (op_is rfl rfl (let_in c)))
      rw [and_is (chain_is (call_is (co1 (rfl : (fV 0) [some (.d (.str z)), none] = some (.str z))) (lenD_str lz))) fun _ => call_is (co1 k1) allD_map]
      unfold wrdB
      rw [show decide ((1 : Int) ≤ (z.length : Int)) = decide (1 ≤ z.length) from decide_eq_decide.mpr (by omega), show decide ((z.length : Int) ≤ 8) = decide (z.length ≤ 8) from decide_eq_decide.mpr (by omega)]
  | dict _ => simp only [okD] at h; cases h
  | _ => rfl
theorem F_unkD {d : PyData} (h : okD d = true) : F_is_unknown [d] = some (.bool (unkD d)) := by
  cases d with
  | str z => exact F_unk (okD_str h)
  | dict _ => simp only [okD] at h; cases h
  | _ => rfl
def valB (d : PyData) : Bool := wrdD d || unkD d
theorem F_value {d : PyData} (h : okD d = true) : F_is_value [d] = some (.bool (valB d)) := by
  rw [at_is_value]
  unfold S_is_value
  exact out_rt (ret_is (or_is (call_is (co1 rfl) (F_word h)) fun _ => call_is (co1 rfl) (F_unkD h)))
def factB : PyData → Bool
  | .tuple (x :: ys) => (decide (1 ≤ ys.length) && decide (ys.length ≤ 4)) && (wrdD x && ys.all valB)
  | _ => false
theorem F_fact {d : PyData} (h : okD d = true) : F_is_fact [d] = some (.bool (factB d)) := by
  rw [at_is_fact]
  unfold S_is_fact
  cases d with
  | tuple xs =>
    obtain ⟨lx, ok⟩ := okD_tup h
    have e1 : (tfOr (tfNot (tfE (fIsi (isC "tuple") (fV 0)))) (tfNot (tfE (fChain (ltD fun i j => decide (i ≤ j)) (ltD fun i j => decide (i ≤ j)) (fC (.int 2)) (fCall lenD (fCo (fV 0) fN)) (fC (.int 5)))))) [some (.d (.tuple xs)), none] = some (!(decide ((2 : Int) ≤ (xs.length : Int)) && decide ((xs.length : Int) ≤ 5))) := by
      refine (tor_is (x := false) (tnot_is (b := true) rfl) fun _ => tnot_is (tb_is (chain_is (call_is (co1 rfl) rfl)))).trans ?_
      rw [Bool.false_or]
    cases c : decide ((2 : Int) ≤ (xs.length : Int)) && decide ((xs.length : Int) ≤ 5) with
    | false =>
      rw [c] at e1
      refine (out_rt (seq_rt ((ifS_t e1).trans rfl))).trans ?_
      cases xs with
      | nil => rfl
      | cons x ys =>
        show _ = some (PyData.bool ((decide (1 ≤ ys.length) && decide (ys.length ≤ 4)) && (wrdD x && ys.all valB)))
        rw [List.length_cons] at c
        rw [show (decide (1 ≤ ys.length) && decide (ys.length ≤ 4)) = false by
          rw [← c]
          congr 1 <;> exact decide_eq_decide.mpr (by omega), Bool.false_and]
    | true =>
      rw [c] at e1
      rw [Bool.and_eq_true, decide_eq_true_eq, decide_eq_true_eq] at c
      cases xs with
      | nil => exact absurd c.1 (by decide)
      | cons x ys =>
        rw [List.length_cons] at c
        have k1 : fLc (afV (fSl slD (fV 0) (ofS (fC (.int 1))) ofN)) (gN 1) tfYes (fCall F_is_value (fCo (fV 1) fN)) [1] [some (.d (.tuple (x :: ys))), none] = some (.list (ys.map fun y => PyData.bool (valB y))) := by
          refine lc_is (xs := ys) ?_ (by show _ ≤ 1000000; omega) (lcF_map0 fun y hy => st_yes rfl (call_is (co1 rfl) (F_value (ok y (List.mem_cons_of_mem _ hy)))))
          simp only [fC, fV, fN, fCo, fTup, fLst, fOp, fCall, tfE, tfTr, tfYes, tfNot, tfAnd, tfOr, fAnd, fOr, fNot, fIf, ofN, ofS, fSl, fChain, fIsi, afV, afR, afZ, afZk, zipKF, fLc, fLc2, fTwo, fOne, fSort, fSortSet, fGet, fOIn, fOGet, fOLen, fOIx, fRepr, fRev, fMeth, fNil, fSeq, fSet, fAsg, fRet, fIfS, fFor, fNewL, fApp, fExt, fGive, fNewK, fMakeK, fPutK, fGiveK, outF, envF, fnF, stF, stB, gN, gT, gsC, gsN, wipeD, getF, ownK, ownL, asB, asK, asL, asS, List.getElem?_cons_zero, List.getElem?_cons_succ, Option.bind_some, Option.map_some, Option.bind_none, Option.map_none, List.map_cons, List.map_nil, List.cons_append, List.nil_append, List.set_cons_zero, List.set_cons_succ, List.length_cons, List.length_nil, List.replicate_succ, List.replicate_zero, Nat.reduceSub, Nat.reduceAdd, Nat.reduceEqDiff, if_true, Bool.true_eq_false, Bool.false_eq_true, if_false, reduceIte, noDict, lenD_tup, lenD_lst, ltD_int, items_tup, items_lst, items_str, eqD_str, eqD_int, neD_str, neD_int, addD_int, subD_int, slD_lst, slD_tup, tuple_lst, tuple_tup, list_lst, list_tup, tyS_str, tyS_tup, cut_drop1, List.drop_succ_cons, List.drop_zero]
        refine (out_rt ((seq_nx ((ifS_f e1).trans rfl)).trans (ret_is (and_is (call_is (co1 (op_is rfl rfl ix0)) (F_word (ok x List.mem_cons_self))) fun _ => call_is (co1 k1) allD_map)))).trans ?_
        show _ = some (PyData.bool ((decide (1 ≤ ys.length) && decide (ys.length ≤ 4)) && (wrdD x && ys.all valB)))
        rw [decide_eq_true (show 1 ≤ ys.length by omega), decide_eq_true (show ys.length ≤ 4 by omega)]
        rfl
  | dict _ => simp only [okD] at h; cases h
  | _ => rfl
theorem strsD_back : ∀ ks : List Str, strsD (ks.map PyData.str) = some ks
  | [] => rfl
  | k :: ks => by
    show (strsD (ks.map PyData.str)).map (k :: ·) = _
    rw [strsD_back ks]
    rfl
theorem F_may {x y : Str} {xs ys : List Str} (l1 : xs.length ≤ 100) (l2 : ys.length ≤ 100) : F_may_follow [bT' (x :: xs), bT' (y :: ys)] = some (.bool (mayK (x :: xs) (y :: ys))) := by
  rw [at_may_follow]
  unfold S_may_follow
  have a1 : (fOp ltX (fV 0) (fV 1)) [some (.d (bT' (x :: xs))), some (.d (bT' (y :: ys)))] = some (.bool (ltK (x :: xs) (y :: ys))) := by
    refine op_is rfl rfl ?_
    show (strsD ((x :: xs).map PyData.str)).bind _ = _
    rw [strsD_back]
    show (strsD ((y :: ys).map PyData.str)).map _ = _
    rw [strsD_back]
    rfl
  have a2 : (fOp neD (fOp ixD (fV 0) (fC (.int 0))) (fOp ixD (fV 1) (fC (.int 0)))) [some (.d (bT' (x :: xs))), some (.d (bT' (y :: ys)))] = some (.bool (!decide (x = y))) := op_is (op_is rfl rfl ix0) (op_is rfl rfl ix0) rfl
  have a3 : (fOp eqD (fCall lenD (fCo (fV 0) fN)) (fCall lenD (fCo (fV 1) fN))) [some (.d (bT' (x :: xs))), some (.d (bT' (y :: ys)))] = some (.bool (decide ((x :: xs).length = (y :: ys).length))) := by
    refine (op_is (call_is (co1 rfl) (rfl : lenD [bT' (x :: xs)] = some (.int (((x :: xs).map PyData.str).length : Int)))) (call_is (co1 rfl) (rfl : lenD [bT' (y :: ys)] = some (.int (((y :: ys).map PyData.str).length : Int)))) rfl).trans ?_
    rw [List.length_map, List.length_map]
    exact congrArg (fun b => some (PyData.bool b)) (decide_eq_decide.mpr (by omega))
  refine (out_rt (ret_is (and_is a1 fun _ => or_is a2 fun _ => a3))).trans ?_
  unfold mayK
  rw [show decide ((x :: xs).head? = (y :: ys).head?) = decide (x = y) from decide_eq_decide.mpr ⟨Option.some.inj, fun e => congrArg some e⟩]
/-! ### stores -/
theorem val_str {d : PyData} (h : valB d = true) : ∃ z, d = .str z ∧ ValOk z := by
  cases d with
  | str z => exact ⟨z, rfl, by
      have h' : (wrdB z || isUnk z) = true := h
      rw [Bool.or_eq_true] at h'
      exact h'⟩
  | _ => cases h
theorem val_of {z : Str} (h : ValOk z) : valB (.str z) = true := by
  show (wrdB z || isUnk z) = true
  rw [Bool.or_eq_true]
  exact h
theorem vals_str : ∀ {ys : List PyData}, ys.all valB = true → ∃ ws : List Str, ys = ws.map PyData.str ∧ ∀ y ∈ ws, ValOk y
  | [], _ => ⟨[], rfl, fun y h => (by cases h)⟩
  | y :: ys, h => by
    rw [List.all_cons, Bool.and_eq_true] at h
    obtain ⟨z, rfl, hz⟩ := val_str h.1
    obtain ⟨ws, rfl, hw⟩ := vals_str h.2
    exact ⟨z :: ws, rfl, fun y hy => (List.mem_cons.mp hy).elim (fun e => e ▸ hz) (hw y)⟩
theorem fact_is {d : PyData} (h : factB d = true) : ∃ f, d = bT' f ∧ FactG f := by
  cases d with
  | tuple xs =>
    cases xs with
    | nil => cases h
    | cons x ys =>
      have h' : ((decide (1 ≤ ys.length) && decide (ys.length ≤ 4)) && (wrdD x && ys.all valB)) = true := h
      simp only [Bool.and_eq_true, decide_eq_true_eq] at h'
      obtain ⟨⟨l1, l2⟩, hx, hy⟩ := h'
      cases x with
      | str z =>
        obtain ⟨ws, rfl, hw⟩ := vals_str hy
        rw [List.length_map] at l1 l2
        exact ⟨z :: ws, rfl, z, ws, rfl, hx, l1, l2, hw⟩
      | _ => cases hx
  | _ => cases h
theorem fact_of {f : List Str} (h : FactG f) : factB (bT' f) = true := by
  obtain ⟨r, ws, rfl, h1, h2, h3, h4⟩ := h
  show ((decide (1 ≤ (ws.map PyData.str).length) && decide ((ws.map PyData.str).length ≤ 4)) && (wrdB r && (ws.map PyData.str).all valB)) = true
  rw [List.length_map, decide_eq_true h2, decide_eq_true h3, h1, List.all_map]
  exact List.all_eq_true.mpr fun y hy => val_of (h4 y hy)
theorem facts_is : ∀ {xs : List PyData}, xs.all factB = true → ∃ L : List (List Str), xs = L.map bT' ∧ ∀ f ∈ L, FactG f
  | [], _ => ⟨[], rfl, fun y h => (by cases h)⟩
  | x :: xs, h => by
    rw [List.all_cons, Bool.and_eq_true] at h
    obtain ⟨f, rfl, hf⟩ := fact_is h.1
    obtain ⟨L, rfl, hL⟩ := facts_is h.2
    exact ⟨f :: L, rfl, fun y hy => (List.mem_cons.mp hy).elim (fun e => e ▸ hf) (hL y)⟩
theorem facts_of {L : List (List Str)} (h : ∀ f ∈ L, FactG f) : (L.map bT').all factB = true := by
  rw [List.all_map]
  exact List.all_eq_true.mpr fun f hf => fact_of (h f hf)
def StoreP (d : PyData) : Prop := ∃ L : List (List Str), d = stD L ∧ (∀ f ∈ L, FactG f) ∧ adjL L = true
theorem str_inj : ∀ {a b : List Str}, a.map PyData.str = b.map PyData.str → a = b
  | [], [], _ => rfl
  | [], _ :: _, h => by simp at h
  | _ :: _, [], h => by simp at h
  | x :: a, y :: b, h => by
    rw [List.map_cons, List.map_cons] at h
    obtain ⟨h1, h2⟩ := List.cons.inj h
    rw [PyData.str.inj h1, str_inj h2]
theorem bT_inj : ∀ {a b : List (List Str)}, a.map bT' = b.map bT' → a = b
  | [], [], _ => rfl
  | [], _ :: _, h => by simp at h
  | _ :: _, [], h => by simp at h
  | x :: a, y :: b, h => by
    rw [List.map_cons, List.map_cons] at h
    obtain ⟨h1, h2⟩ := List.cons.inj h
    rw [str_inj (PyData.tuple.inj h1), bT_inj h2]
theorem F_store {d : PyData} (h : okD d = true) : ∃ b : Bool, F_is_store [d] = some (.bool b) ∧ (b = true ↔ StoreP d) := by
  rw [at_is_store]
  unfold S_is_store
  cases d with
  | tuple xs =>
    obtain ⟨lx, ok⟩ := okD_tup h
    have k1 : fLc (afV (fV 0)) (gN 1) tfYes (fCall F_is_fact (fCo (fV 1) fN)) [1] [some (.d (.tuple xs)), none, none] = some (.list (xs.map fun x => PyData.bool (factB x))) := lc_is (xs := xs) rfl lx (lcF_map0 fun x hx => st_yes rfl (call_is (co1 rfl) (F_fact (ok x hx))))
    have e1 : (tfOr (tfNot (tfE (fIsi (isC "tuple") (fV 0)))) (tfNot (tfE (fCall allD (fCo (fLc (afV (fV 0)) (gN 1) tfYes (fCall F_is_fact (fCo (fV 1) fN)) [1]) fN))))) [some (.d (.tuple xs)), none, none] = some (!xs.all factB) := (tor_is (x := false) (tnot_is (b := true) rfl) fun _ => tnot_is (tb_is (call_is (co1 k1) allD_map))).trans (by rw [Bool.false_or])
    cases c : xs.all factB with
    | false =>
      rw [c] at e1
      refine ⟨false, out_rt (seq_rt ((ifS_t e1).trans rfl)), fun z => (by cases z), ?_⟩
      rintro ⟨L, e, hL, _⟩
      rw [PyData.tuple.inj e, facts_of hL] at c
      cases c
    | true =>
      rw [c] at e1
      obtain ⟨L, rfl, hL⟩ := facts_is c
      have zs : (afZk (fCo (fV 0) (fCo (fSl slD (fV 0) (ofS (fC (.int 1))) ofN) fN))) [some (.d (.tuple (L.map bT'))), none, none] = some ((L.zip (L.drop 1)).map fun p => .tuple [bT' p.1, bT' p.2]) := by
        have sl : fSl slD (fV 0) (ofS (fC (.int 1))) ofN [some (.d (.tuple (L.map bT'))), none, none] = some (.tuple ((L.drop 1).map bT')) := by
          simp only [fC, fV, fN, fCo, fTup, fLst, fOp, fCall, tfE, tfTr, tfYes, tfNot, tfAnd, tfOr, fAnd, fOr, fNot, fIf, ofN, ofS, fSl, fChain, fIsi, afV, afR, afZ, afZk, zipKF, fLc, fLc2, fTwo, fOne, fSort, fSortSet, fGet, fOIn, fOGet, fOLen, fOIx, fRepr, fRev, fMeth, fNil, fSeq, fSet, fAsg, fRet, fIfS, fFor, fNewL, fApp, fExt, fGive, fNewK, fMakeK, fPutK, fGiveK, outF, envF, fnF, stF, stB, gN, gT, gsC, gsN, wipeD, getF, ownK, ownL, asB, asK, asL, asS, List.getElem?_cons_zero, List.getElem?_cons_succ, Option.bind_some, Option.map_some, Option.bind_none, Option.map_none, List.map_cons, List.map_nil, List.cons_append, List.nil_append, List.set_cons_zero, List.set_cons_succ, List.length_cons, List.length_nil, List.replicate_succ, List.replicate_zero, Nat.reduceSub, Nat.reduceAdd, Nat.reduceEqDiff, if_true, Bool.true_eq_false, Bool.false_eq_true, if_false, reduceIte, noDict, lenD_tup, lenD_lst, ltD_int, items_tup, items_lst, items_str, eqD_str, eqD_int, neD_str, neD_int, addD_int, subD_int, slD_lst, slD_tup, tuple_lst, tuple_tup, list_lst, list_tup, tyS_str, tyS_tup, cut_drop1]
          rw [List.map_drop]
        unfold afZk
        rw [co_is rfl (co1 sl), Option.bind_some]
        show some (((L.map bT').zip ((L.drop 1).map bT')).map _) = _
        rw [List.zip_map, List.map_map]
        rfl
      have lz : ((L.zip (L.drop 1)).map fun p => PyData.tuple [bT' p.1, bT' p.2]).length ≤ lim := by
        rw [List.length_map, List.length_zip]
        rw [List.length_map] at lx
        exact Nat.le_trans (Nat.min_le_left _ _) lx
      have k2 : fLc (afZk (fCo (fV 0) (fCo (fSl slD (fV 0) (ofS (fC (.int 1))) ofN) fN))) (gT 2 (gsC (gN 1) (gsC (gN 2) gsN))) tfYes (fCall F_may_follow (fCo (fV 1) (fCo (fV 2) fN))) [1, 2] [some (.d (.tuple (L.map bT'))), none, none] = some (.list ((L.zip (L.drop 1)).map fun p => PyData.bool (mayK p.1 p.2))) := by
        refine lc_is zs lz (lcF_map fun p hp => ?_)
        obtain ⟨m1, m2⟩ := List.of_mem_zip (show (p.1, p.2) ∈ L.zip (L.drop 1) from hp)
        obtain ⟨r1, w1, e1, _, _, l1, _⟩ := hL _ m1
        obtain ⟨r2, w2, e2, _, _, l2, _⟩ := hL _ (List.mem_of_mem_drop m2)
        refine st_yes (ρ' := [some (.d (.tuple (L.map bT'))), some (.d (bT' p.1)), some (.d (bT' p.2))]) rfl (call_is (co_is rfl (co1 rfl)) ?_)
        rw [e1, e2]
        exact F_may (by omega) (by omega)
      refine ⟨adjL L, out_rt ((seq_nx ((ifS_f e1).trans rfl)).trans (ret_is (call_is (co1 k2) allD_map))), fun z => ⟨L, rfl, hL, z⟩, ?_⟩
      rintro ⟨M, e, _, z⟩
      rw [bT_inj (PyData.tuple.inj e)]
      exact z
  | dict _ => simp only [okD] at h; cases h
  | _ => exact ⟨false, rfl, fun z => (by cases z), fun ⟨L, e, _⟩ => (by cases e)⟩
end My

/-! JN: draws, as they are asked for -/
namespace My
open PySem PySem.Spec PyProof.Rows L2
theorem one_lst {xs : List PyData} {n : Nat} {Q : PyData → Nat → Prop} (ne : xs ≠ []) (l : xs.length ≤ 1000000) (hn : n < 1073741824) (q : ∀ y ∈ xs, Q y (n + 1)) : W_one [.list xs] n Q := ⟨xs, .list xs, rfl, rfl, rfl, ne, l, hn, q⟩
theorem one_tup {xs : List PyData} {n : Nat} {Q : PyData → Nat → Prop} (ne : xs ≠ []) (l : xs.length ≤ 1000000) (hn : n < 1073741824) (q : ∀ y ∈ xs, Q y (n + 1)) : W_one [.tuple xs] n Q := ⟨xs, .tuple xs, rfl, rfl, rfl, ne, l, hn, q⟩
theorem draw_nat {m : Int} {n : Nat} {Q : PyData → Nat → Prop} (m0 : 0 < m) (m1 : m < 1073741824) (hn : n < 1073741824) (q : ∀ c : Nat, (c : Int) < m → Q (.int (c : Int)) (n + 1)) : W_draw [.int m] n Q := ⟨m, rfl, m0, m1, hn, fun v v0 v1 => by
  obtain ⟨c, rfl⟩ := Int.eq_ofNat_of_zero_le v0
  exact q c v1⟩
theorem items_len {x : PyData} {xs : List PyData} (h : itemsD x = some xs) (l : xs.length ≤ lim) : lenD [x] = some (.int (xs.length : Int)) ∧ ∀ (j : Nat) (y : PyData), xs[j]? = some y → ixD x (.int (j : Int)) = some y := by
  cases x with
  | list ys =>
    cases h
    exact ⟨rfl, fun j y e => atI_nat e⟩
  | tuple ys =>
    cases h
    exact ⟨rfl, fun j y e => atI_nat e⟩
  | str z =>
    cases h
    rw [List.length_map, cps_len] at l
    refine ⟨by rw [lenD_str l, List.length_map, cps_len], fun j y e => ?_⟩
    rw [List.getElem?_map] at e
    obtain ⟨c, e1, rfl⟩ := Option.map_eq_some_iff.mp e
    exact str_at l e1
  | _ => cases h
theorem tup1_is {f : EF} {ρ : DEnv} {x : PyData} (h : f ρ = some x) : fTup (fCo f fN) ρ = some (.tuple [x]) := by
  unfold fTup
  rw [co1 h, Option.bind_some]
  exact if_pos (show 1 ≤ lim by decide)
theorem afR_is {f : EF} {ρ : DEnv} {m : Int} (h : f ρ = some (.int m)) (h1 : -(2 ^ 62) ≤ m) (h2 : m < 2 ^ 62) : afR (fCo f fN) ρ = some (rangeD m) := by
  unfold afR
  rw [co1 h, Option.bind_some]
  exact if_pos ⟨h1, h2⟩
theorem rng_is {m : Int} (h1 : -(2 ^ 62) ≤ m) (h2 : m < 2 ^ 62) : rngF [.int m] = some (rangeD m) := if_pos ⟨h1, h2⟩
theorem range_at {m : Int} {i : Nat} {x : PyData} (h : (rangeD m)[i]? = some x) : i < m.toNat ∧ x = .int (i : Int) := by
  have l := (List.getElem?_eq_some_iff.mp h).1
  rw [rangeD_len] at l
  unfold rangeD at h
  rw [List.getElem?_map, List.getElem?_range l] at h
  refine ⟨l, ?_⟩
  have z := Option.some.inj h
  rw [← z]
  show PyData.int (0 + (i : Int)) = _
  rw [Int.zero_add]
end My

/-! MyShow: data that can be shown, and how long it is -/
namespace My
open PySem PySem.Spec PyProof.Rows L2
open TL (tl len_tl tl_append)
/-- showable, of that depth and weight at most -/
structure Sm (d : PyData) (dep wt : Nat) : Prop where
  sh : d.showable = true
  lf : d.leavesShort 8 = true
  dp : d.depth ≤ dep
  wt : d.weight ≤ wt
theorem Sm.mono {d : PyData} {a b c e : Nat} (h : Sm d a b) (h1 : a ≤ c) (h2 : b ≤ e) : Sm d c e := ⟨h.sh, h.lf, Nat.le_trans h.dp h1, Nat.le_trans h.wt h2⟩
theorem Sm.len {d : PyData} {dep wt : Nat} (h : Sm d dep wt) (hw : wt ≤ 100000) : d.shown.length ≤ sizeLine := by
  have z := PyData.shown_le 8 (Nat.le_refl _) d h.lf
  have z2 := h.wt
  rw [sizeLine_eq]
  omega
/-- a text that a drawn value is -/
structure Vl (x : Str) : Prop where
  pos : 0 < (tl x).length
  few : (tl x).length ≤ 8
  low : ∀ c ∈ tl x, c < 200
theorem Wd.vl {x : Str} (h : Wd x) : Vl x := ⟨h.pos, h.few, fun c m => by
  have z := h.of c m
  revert z
  exact fun z => (show ∀ c ∈ 113 :: six, c < 200 by decide) c z⟩
theorem sm_str {x : Str} (h : Vl x) : Sm (.str x) 0 8 where
  sh := by simp only [PyData.showable]
  lf := by
    simp only [PyData.leavesShort, List.all_eq_true, decide_eq_true_eq]
    exact fun c m => Nat.lt_of_lt_of_le (h.low c m) (by decide)
  dp := by simp only [PyData.depth]; exact Nat.le_refl _
  wt := by
    have z := h.few
    have e : x.cps.size = (tl x).length := by simp [tl]
    simp only [PyData.weight]
    omega
theorem sm_all {dep wt : Nat} : ∀ {ds : List PyData}, (∀ d ∈ ds, Sm d dep wt) → PyData.showableAll ds = true ∧ PyData.leavesShortAll 8 ds = true ∧ PyData.depthAll ds ≤ dep ∧ PyData.weightAll ds ≤ ds.length * (wt + 1)
  | [], _ => by simp only [PyData.showableAll, PyData.leavesShortAll, PyData.depthAll, PyData.weightAll]; exact ⟨trivial, trivial, Nat.zero_le _, Nat.zero_le _⟩
  | d :: ds, h => by
    obtain ⟨a1, a2, a3, a4⟩ := sm_all fun e m => h e (List.mem_cons_of_mem _ m)
    have g := h d List.mem_cons_self
    have g4 := g.wt
    have g3 := g.dp
    simp only [PyData.showableAll, PyData.leavesShortAll, PyData.depthAll, PyData.weightAll, g.sh, g.lf, a1, a2, Bool.and_self, List.length_cons, Nat.succ_mul]
    refine ⟨trivial, trivial, ?_, ?_⟩
    · omega
    · omega
theorem sm_tup {dep wt : Nat} {ds : List PyData} (h : ∀ d ∈ ds, Sm d dep wt) : Sm (.tuple ds) (dep + 1) (ds.length * (wt + 1)) := by
  obtain ⟨a1, a2, a3, a4⟩ := sm_all h
  refine ⟨?_, ?_, ?_, ?_⟩
  · simpa only [PyData.showable] using a1
  · simpa only [PyData.leavesShort] using a2
  · simp only [PyData.depth]
    omega
  · simpa only [PyData.weight] using a4
theorem sm_lst {dep wt : Nat} {ds : List PyData} (h : ∀ d ∈ ds, Sm d dep wt) : Sm (.list ds) (dep + 1) (ds.length * (wt + 1)) := by
  obtain ⟨a1, a2, a3, a4⟩ := sm_all h
  refine ⟨?_, ?_, ?_, ?_⟩
  · simpa only [PyData.showable] using a1
  · simpa only [PyData.leavesShort] using a2
  · simp only [PyData.depth]
    omega
  · simpa only [PyData.weight] using a4
/-- a tuple of texts | a store, as data -/
def fD (k : List Str) : PyData := .tuple (k.map PyData.str)
def sD (ks : List (List Str)) : PyData := .tuple (ks.map fD)
section
variable {K : PySem.W.Frag} {H : Hp}
theorem dps_strs : ∀ ws : List Str, DpAll K H (ws.map V.str) (ws.map PyData.str)
  | [] => .nil
  | x :: r => .cons (.str x) (dps_strs r)
theorem dp_fact {a : Addr} {k : List Str} (h : SqT K H a (k.map V.str)) : Dp K H (.ref a) (fD k) := .tup h (dps_strs k)
theorem dps_facts : ∀ {L : List (Addr × List Str)}, (∀ q ∈ L, SqT K H q.1 (q.2.map V.str)) → DpAll K H (L.map fun q => V.ref q.1) ((L.map (·.2)).map fD)
  | [], _ => .nil
  | q :: r, h => .cons (dp_fact (h q List.mem_cons_self)) (dps_facts fun z m => h z (List.mem_cons_of_mem _ m))
theorem dp_store {p : Addr} {L : List (Addr × List Str)} (ht : SqT K H p (L.map fun q => V.ref q.1)) (h : ∀ q ∈ L, SqT K H q.1 (q.2.map V.str)) : Dp K H (.ref p) (sD (L.map (·.2))) := .tup ht (dps_facts h)
end
theorem sm_fact {k : List Str} (h : ∀ x ∈ k, Vl x) (n : k.length ≤ 5) : Sm (fD k) 1 45 := by
  have z := sm_tup (dep := 0) (wt := 8) (ds := k.map PyData.str) fun d hd => by
    obtain ⟨x, hx, rfl⟩ := List.mem_map.mp hd
    exact sm_str (h x hx)
  refine z.mono (Nat.le_refl _) ?_
  rw [List.length_map]
  omega
theorem sm_store {ks : List (List Str)} (h : ∀ k ∈ ks, k.length ≤ 5 ∧ ∀ x ∈ k, Vl x) (n : ks.length ≤ 60) : Sm (sD ks) 2 2760 := by
  have z := sm_tup (dep := 1) (wt := 45) (ds := ks.map fD) fun d hd => by
    obtain ⟨k, hk, rfl⟩ := List.mem_map.mp hd
    exact sm_fact (h k hk).2 (h k hk).1
  refine z.mono (Nat.le_refl _) ?_
  rw [List.length_map]
  omega
end My

/-! JV: values that are drawn or bent: what may be done with them -/
namespace My
open PySem PySem.Spec PyProof.Rows L2
mutual
def gvD : PyData → Bool
  | .none => true
  | .bool _ => true
  | .int i => decide (0 ≤ i) && decide (i ≤ 9)
  | .str x => x.cps.toList.all fun c => decide (c < 1000)
  | .list xs => gvAll xs
  | .tuple xs => gvAll xs
  | .dict _ => false
def gvAll : List PyData → Bool
  | [] => true
  | d :: ds => gvD d && gvAll ds
end
theorem gvAll_iff : ∀ {xs : List PyData}, gvAll xs = true ↔ ∀ x ∈ xs, gvD x = true
  | [] => by simp [gvAll]
  | x :: xs => by
    simp only [gvAll, Bool.and_eq_true, List.mem_cons, forall_eq_or_imp]
    rw [gvAll_iff]
theorem wt_app : ∀ (a b : List PyData), PyData.weightAll (a ++ b) = PyData.weightAll a + PyData.weightAll b
  | [], b => by simp [PyData.weightAll]
  | x :: a, b => by
    rw [List.cons_append]
    simp only [PyData.weightAll]
    rw [wt_app a b]
    omega
theorem wt_mem : ∀ {xs : List PyData} {x : PyData}, x ∈ xs → x.weight + 1 ≤ PyData.weightAll xs
  | y :: xs, x, h => by
    simp only [PyData.weightAll]
    rcases List.mem_cons.mp h with rfl | h
    · omega
    · have := wt_mem h
      omega
theorem wt_len : ∀ xs : List PyData, xs.length ≤ PyData.weightAll xs
  | [] => Nat.zero_le _
  | x :: xs => by
    simp only [PyData.weightAll, List.length_cons]
    have := wt_len xs
    omega
mutual
theorem gv_lay : ∀ d : PyData, gvD d = true → d.canLay0 = true
  | .none, _ => rfl
  | .bool _, _ => rfl
  | .int _, _ => rfl
  | .str x, h => (ShN.str (n := 0) fun c hc => by
    simp only [gvD, List.all_eq_true, decide_eq_true_eq] at h
    exact h c hc).1
  | .list xs, h => by
    simp only [gvD] at h
    simpa only [PyData.canLay0] using gv_lays xs h
  | .tuple xs, h => by
    simp only [gvD] at h
    simpa only [PyData.canLay0] using gv_lays xs h
  | .dict _, h => by simp [gvD] at h
theorem gv_lays : ∀ ds : List PyData, gvAll ds = true → PyData.canLayAll0 ds = true
  | [], _ => rfl
  | d :: ds, h => by
    simp only [gvAll, Bool.and_eq_true] at h
    simp only [PyData.canLayAll0, Bool.and_eq_true]
    exact ⟨gv_lay d h.1, gv_lays ds h.2⟩
end
mutual
theorem gv_show : ∀ d : PyData, gvD d = true → d.showable = true ∧ d.leavesShort 8 = true
  | .none, _ => by simp [PyData.showable, PyData.leavesShort]
  | .bool _, _ => by simp [PyData.showable, PyData.leavesShort]
  | .int i, h => by
    simp only [gvD, Bool.and_eq_true, decide_eq_true_eq] at h
    have z : ∀ j : Nat, j < 10 → (PyData.int (j : Int)).showable = true ∧ (PyData.int (j : Int)).leavesShort 8 = true := by decide +kernel
    obtain ⟨j, rfl⟩ := Int.eq_ofNat_of_zero_le h.1
    exact z j (by omega)
  | .str x, h => by
    simp only [gvD, List.all_eq_true, decide_eq_true_eq] at h
    simp only [PyData.showable, PyData.leavesShort, true_and, List.all_eq_true, decide_eq_true_eq]
    exact fun c m => Nat.lt_of_lt_of_le (h c m) (by decide)
  | .list xs, h => by
    simp only [gvD] at h
    simpa only [PyData.showable, PyData.leavesShort] using gv_shows xs h
  | .tuple xs, h => by
    simp only [gvD] at h
    simpa only [PyData.showable, PyData.leavesShort] using gv_shows xs h
  | .dict _, h => by simp [gvD] at h
theorem gv_shows : ∀ ds : List PyData, gvAll ds = true → PyData.showableAll ds = true ∧ PyData.leavesShortAll 8 ds = true
  | [], _ => by simp [PyData.showableAll, PyData.leavesShortAll]
  | d :: ds, h => by
    simp only [gvAll, Bool.and_eq_true] at h
    obtain ⟨a, b⟩ := gv_show d h.1
    obtain ⟨c, e⟩ := gv_shows ds h.2
    simp only [PyData.showableAll, PyData.leavesShortAll, a, b, c, e, Bool.and_self, and_self]
end
mutual
theorem gv_ok : ∀ d : PyData, gvD d = true → d.weight ≤ 1000000 → okD d = true
  | .none, _, _ => rfl
  | .bool _, _, _ => rfl
  | .int _, _, _ => rfl
  | .str x, _, w => by
    simp only [PyData.weight] at w
    simp only [okD, decide_eq_true_eq]
    exact w
  | .list xs, h, w => by
    simp only [gvD] at h
    simp only [PyData.weight] at w
    simp only [okD, Bool.and_eq_true, decide_eq_true_eq]
    exact ⟨Nat.le_trans (wt_len xs) w, gv_oks xs h w⟩
  | .tuple xs, h, w => by
    simp only [gvD] at h
    simp only [PyData.weight] at w
    simp only [okD, Bool.and_eq_true, decide_eq_true_eq]
    exact ⟨Nat.le_trans (wt_len xs) w, gv_oks xs h w⟩
  | .dict _, h, _ => by simp [gvD] at h
theorem gv_oks : ∀ ds : List PyData, gvAll ds = true → PyData.weightAll ds ≤ 1000000 → okAll ds = true
  | [], _, _ => rfl
  | d :: ds, h, w => by
    simp only [gvAll, Bool.and_eq_true] at h
    simp only [PyData.weightAll] at w
    simp only [okAll, Bool.and_eq_true]
    exact ⟨gv_ok d h.1 (by omega), gv_oks ds h.2 (by omega)⟩
end
/-- a value of that weight and depth at most -/
structure Gv (W D : Nat) (d : PyData) : Prop where
  gv : gvD d = true
  wt : d.weight ≤ W
  dp : d.depth ≤ D
theorem Gv.mono {W D W' D' : Nat} {d : PyData} (h : Gv W D d) (h1 : W ≤ W') (h2 : D ≤ D') : Gv W' D' d := ⟨h.gv, Nat.le_trans h.wt h1, Nat.le_trans h.dp h2⟩
theorem Gv.ok {W D : Nat} {d : PyData} (h : Gv W D d) (w : W ≤ 1000000) : okD d = true := gv_ok d h.gv (Nat.le_trans h.wt w)
theorem Gv.sh {W D : Nat} {d : PyData} (h : Gv W D d) : ShN D d := ⟨gv_lay d h.gv, h.dp⟩
theorem Gv.repr {W D : Nat} {d : PyData} (h : Gv W D d) (w : W ≤ 100000) (k : D ≤ 60) : reprOk d := by
  obtain ⟨a, b⟩ := gv_show d h.gv
  exact ⟨flat_lay d (gv_lay d h.gv), a, Nat.le_trans h.dp k, Sm.len (dep := D) (wt := W) ⟨a, b, h.dp, h.wt⟩ w⟩
/-- many values -/
structure Gvs (W D : Nat) (ds : List PyData) : Prop where
  gv : gvAll ds = true
  wt : PyData.weightAll ds ≤ W
  dp : PyData.depthAll ds ≤ D
theorem Gvs.tup {W D : Nat} {ds : List PyData} (h : Gvs W D ds) : Gv W (D + 1) (.tuple ds) := ⟨by simpa only [gvD] using h.gv, by simpa only [PyData.weight] using h.wt, by simp only [PyData.depth]; exact Nat.succ_le_succ h.dp⟩
theorem Gvs.lst {W D : Nat} {ds : List PyData} (h : Gvs W D ds) : Gv W (D + 1) (.list ds) := ⟨by simpa only [gvD] using h.gv, by simpa only [PyData.weight] using h.wt, by simp only [PyData.depth]; exact Nat.succ_le_succ h.dp⟩
theorem Gv.tups {W D : Nat} {ds : List PyData} (h : Gv W (D + 1) (.tuple ds)) : Gvs W D ds := ⟨by simpa only [gvD] using h.gv, by simpa only [PyData.weight] using h.wt, by have z := h.dp; simp only [PyData.depth] at z; omega⟩
theorem Gvs.mono {W D W' D' : Nat} {d : List PyData} (h : Gvs W D d) (h1 : W ≤ W') (h2 : D ≤ D') : Gvs W' D' d := ⟨h.gv, Nat.le_trans h.wt h1, Nat.le_trans h.dp h2⟩
theorem Gvs.nil {W D : Nat} : Gvs W D [] := ⟨rfl, by simp [PyData.weightAll], by simp [PyData.depthAll]⟩
theorem Gvs.one {W D : Nat} {d : PyData} (h : Gv W D d) : Gvs (W + 1) D [d] := ⟨gvAll_iff.mpr fun x hx => by rw [List.mem_singleton.mp hx]; exact h.gv, by simp only [PyData.weightAll]; have := h.wt; omega, deps_le.mpr fun x hx => by rw [List.mem_singleton.mp hx]; exact h.dp⟩
theorem Gvs.app {W V D : Nat} {a b : List PyData} (h : Gvs W D a) (k : Gvs V D b) : Gvs (W + V) D (a ++ b) := by
  refine ⟨gvAll_iff.mpr fun x hx => ?_, by rw [wt_app]; exact Nat.add_le_add h.wt k.wt, deps_le.mpr fun x hx => ?_⟩
  · rcases List.mem_append.mp hx with hx | hx
    · exact gvAll_iff.mp h.gv x hx
    · exact gvAll_iff.mp k.gv x hx
  · rcases List.mem_append.mp hx with hx | hx
    · exact deps_le.mp h.dp x hx
    · exact deps_le.mp k.dp x hx
theorem wt_sub : ∀ {a b : List PyData}, a.Sublist b → PyData.weightAll a ≤ PyData.weightAll b
  | _, _, .slnil => Nat.le_refl _
  | _, _, .cons x h => by
    simp only [PyData.weightAll]
    have := wt_sub h
    omega
  | _, _, .cons_cons x h => by
    simp only [PyData.weightAll]
    have := wt_sub h
    omega
theorem Gvs.sub {W D : Nat} {a b : List PyData} (h : Gvs W D b) (s : a.Sublist b) : Gvs W D a := ⟨gvAll_iff.mpr fun x hx => gvAll_iff.mp h.gv x (s.subset hx), Nat.le_trans (wt_sub s) h.wt, deps_le.mpr fun x hx => deps_le.mp h.dp x (s.subset hx)⟩
theorem Gvs.mem {W D : Nat} {b : List PyData} {x : PyData} (h : Gvs W D b) (m : x ∈ b) : Gv W D x := ⟨gvAll_iff.mp h.gv x m, Nat.le_trans (by have := wt_mem m; omega) h.wt, deps_le.mp h.dp x m⟩
theorem wt_perm {a b : List PyData} (p : a.Perm b) : PyData.weightAll a = PyData.weightAll b := by
  induction p with
  | nil => rfl
  | cons x _ ih => simp only [PyData.weightAll]; omega
  | swap x y l => simp only [PyData.weightAll]; omega
  | trans _ _ h1 h2 => exact h1.trans h2
theorem Gvs.perm {W D : Nat} {a b : List PyData} (h : Gvs W D b) (p : a.Perm b) : Gvs W D a := ⟨gvAll_iff.mpr fun x hx => gvAll_iff.mp h.gv x (p.subset hx), by rw [wt_perm p]; exact h.wt, deps_le.mpr fun x hx => deps_le.mp h.dp x (p.subset hx)⟩
theorem Gvs.cut {W D : Nat} {b : List PyData} (h : Gvs W D b) (lo hi : Option Int) : Gvs W D (cutD b lo hi) := h.sub ((List.take_sublist _ _).trans (List.drop_sublist _ _))
theorem Gv.str {x : Str} (h : SgnOk x) : Gv 100 0 (.str x) := ⟨by simp only [gvD, List.all_eq_true, decide_eq_true_eq]; exact h.1, by simp only [PyData.weight]; exact h.2.2, by simp [PyData.depth]⟩
/-! slices at a place -/
theorem cut_to (xs : List PyData) (j : Nat) : cutD xs none (some (j : Int)) = xs.take j := by
  unfold cutD
  rw [show HT.sIx xs.length 0 none = 0 from rfl, HT.sIx_nat, List.drop_zero, Nat.sub_zero]
  by_cases h : j ≤ xs.length
  · rw [Nat.min_eq_left h]
  · rw [Nat.min_eq_right (by omega), List.take_length, List.take_of_length_le (by omega)]
theorem cut_from (xs : List PyData) (j : Nat) : cutD xs (some (j : Int)) none = xs.drop j := by
  unfold cutD
  rw [HT.sIx_none, HT.sIx_nat]
  by_cases h : j ≤ xs.length
  · rw [Nat.min_eq_left h]
    exact List.take_of_length_le (by rw [List.length_drop]; exact Nat.le_refl _)
  · rw [Nat.min_eq_right (by omega), List.drop_length, List.drop_of_length_le (by omega), List.take_nil]
end My

set_option linter.unusedSimpArgs false
set_option linter.unusedVariables false
/-! JG: drawn facts are good facts -/
namespace My
open PySem PySem.Spec PyProof.Rows L2
theorem six_let : ∀ c ∈ 113 :: six, c ∈ letS := by decide
theorem wd_wrd {x : Str} (h : Wd x) : wrdB x = true := by
  have l := cps_len x
  have h1 : 0 < x.cps.toList.length := h.pos
  have h2 : x.cps.toList.length ≤ 8 := h.few
  rw [l] at h1 h2
  unfold wrdB
  simp only [Bool.and_eq_true, decide_eq_true_eq, List.all_eq_true]
  exact ⟨⟨h1, h2⟩, fun c hc => six_let c (h.of c hc)⟩
theorem eight_unk : ∀ x ∈ eight, isUnk x = true := by decide +kernel
theorem good_fc {ks : List Kd} {vals k : List Str} (hk : ∀ t ∈ ks, Wd t.1 ∧ 0 < t.2 ∧ t.2 ≤ 4) (hv : ∀ y ∈ vals, ValOk y) (h : FcOk ks vals k) : FactG k := by
  obtain ⟨x, ws, rfl, ⟨t, ht, rfl, l⟩, hy⟩ := h
  have z := hk t ht
  exact ⟨t.1, ws, rfl, wd_wrd z.1, by omega, by omega, fun y m => hv y (hy y m)⟩
theorem unkL_len : ∀ {L : List (List Str)}, (∀ f ∈ L, FactG f) → (unkL L).length ≤ 4 * L.length
  | [], _ => by simp [unkL]
  | f :: L, h => by
    have z := unkL_len (L := L) fun g hg => h g (List.mem_cons_of_mem _ hg)
    unfold unkL at z ⊢
    rw [List.flatMap_cons, List.length_append, List.length_cons]
    obtain ⟨r, ws, rfl, _, _, h3, _⟩ := h f List.mem_cons_self
    have y : (((r :: ws).drop 1).filter isUnk).length ≤ ws.length := List.length_filter_le _ _
    omega
theorem val_len {x : Str} (h : ValOk x) : x.length ≤ 8 := by
  rcases h with h | h
  · unfold wrdB at h
    simp only [Bool.and_eq_true, decide_eq_true_eq] at h
    exact h.1.2
  · rw [isUnk_is] at h
    simp only [Bool.and_eq_true, decide_eq_true_eq] at h
    have z := h.1.1.2.2
    omega
theorem Gv.val {x : Str} (h : ValOk x) : Gv 8 0 (.str x) := ⟨(Gv.str (val_sgn h)).gv, by simp only [PyData.weight]; exact val_len h, (Gv.str (val_sgn h)).dp⟩
theorem gv_pair {x y : Str} (hx : ValOk x) (hy : ValOk y) : Gv 18 1 (.tuple [.str x, .str y]) := ((Gvs.one (Gv.val hx)).app (Gvs.one (Gv.val hy))).tup
theorem Gvs.all {W D : Nat} : ∀ {xs : List PyData}, (∀ x ∈ xs, Gv W D x) → Gvs ((W + 1) * xs.length) D xs
  | [], _ => Gvs.nil
  | x :: xs, h => by
    have a := (Gvs.one (h x List.mem_cons_self)).app (Gvs.all fun y hy => h y (List.mem_cons_of_mem _ hy))
    refine Gvs.mono a ?_ (Nat.le_refl _)
    rw [List.length_cons, Nat.mul_add]
    omega
end My

/-! MySplit: a text split at a sign -/
namespace My
open PySem PySem.Spec PyProof.Rows L2
/-- places of a sign -/
def posF (c : Nat) : Nat → List Nat → List Nat
  | _, [] => []
  | k, x :: xs => if x = c then k :: posF c (k + 1) xs else posF c (k + 1) xs
theorem posF_app (c : Nat) : ∀ (l m : List Nat) (k : Nat), posF c k (l ++ m) = posF c k l ++ posF c (k + l.length) m
  | [], m, k => rfl
  | x :: l, m, k => by
    rw [List.cons_append, posF, posF, posF_app c l m (k + 1), List.length_cons, Nat.add_right_comm, Nat.add_assoc]
    split <;> simp
theorem posF_len (c : Nat) : ∀ (l : List Nat) (k : Nat), (posF c k l).length ≤ l.length
  | [], _ => Nat.le_refl _
  | x :: l, k => by
    have z := posF_len c l (k + 1)
    rw [posF]
    split
    · rw [List.length_cons, List.length_cons]
      omega
    · rw [List.length_cons]
      omega
def occStep (s sub : Str) (hi limit : Nat) (a : Array Nat × Nat) (i : Nat) : Array Nat × Nat := if (decide (a.1.size < limit) && decide (a.2 ≤ i) && decide (i + sub.length ≤ hi) && Builtin.Str.subAt s sub i) = true then (a.1.push i, i + sub.length) else a
theorem forIn_fold {α β : Type} {f : β → α → β} {g : α → β → Id (ForInStep β)} (h : ∀ a b, g a b = pure (.yield (f b a))) : ∀ (l : List α) (init : β), (forIn l init g : Id β) = pure (l.foldl f init)
  | [], init => rfl
  | x :: l, init => by
    rw [List.forIn_cons, h]
    show forIn l (f init x) g = _
    exact forIn_fold h l _
theorem occ_fold (s sub : Str) (lo hi limit : Nat) : Builtin.Str.occurrences s sub lo hi limit = ((List.range' lo (hi + 1 - lo) 1).foldl (occStep s sub hi limit) (#[], lo)).1.toList := by
  unfold Builtin.Str.occurrences
  simp only [Std.Legacy.Range.forIn_eq_forIn_range']
  rw [forIn_fold (f := occStep s sub hi limit) (fun i a => by unfold occStep; split <;> rfl)]
  have e : [lo:hi + 1].size = hi + 1 - lo := by simp [Std.Legacy.Range.size]
  rw [e]
  rfl
theorem occ_one (s : Str) (c : Nat) : Builtin.Str.occurrences s ⟨#[c]⟩ 0 s.length (s.length + 1) = posF c 0 s.cps.toList := by
  rw [occ_fold]
  have l := cps_len s
  have main : ∀ k, k ≤ s.length → ∃ fr, (List.range' 0 k 1).foldl (occStep s ⟨#[c]⟩ s.length (s.length + 1)) (#[], 0) = ((posF c 0 (s.cps.toList.take k)).toArray, fr) ∧ fr ≤ k := by
    intro k
    induction k with
    | zero => exact fun _ => ⟨0, rfl, Nat.le_refl _⟩
    | succ k ih =>
      intro hk
      obtain ⟨fr, e, hf⟩ := ih (by omega)
      have r1 : List.range' 0 (k + 1) 1 = List.range' 0 k 1 ++ [k] := by
        rw [List.range'_concat]
        simp
      have kl : k < s.cps.toList.length := by omega
      have tk : s.cps.toList.take (k + 1) = s.cps.toList.take k ++ [s.cps.toList[k]] := by
        rw [List.take_add_one, List.getElem?_eq_getElem kl]
        rfl
      have pl := posF_len c (s.cps.toList.take k) 0
      rw [List.length_take] at pl
      rw [r1, List.foldl_append, e, tk, posF_app]
      have ltk : (s.cps.toList.take k).length = k := by rw [List.length_take]; omega
      rw [ltk, Nat.zero_add]
      have sub := StrLaws.subAt_one s c k
      have len1 : (⟨#[c]⟩ : Str).length = 1 := rfl
      show ∃ fr', occStep s ⟨#[c]⟩ s.length (s.length + 1) ((posF c 0 (s.cps.toList.take k)).toArray, fr) k = _ ∧ _
      unfold occStep
      by_cases h : s.cps.toList[k] = c
      · have sa := sub.mpr (by rw [List.getElem?_eq_getElem kl, h])
        rw [if_pos]
        · refine ⟨k + 1, ?_, Nat.le_refl _⟩
          rw [len1]
          show ((posF c 0 (s.cps.toList.take k)).toArray.push k, k + 1) = _
          rw [posF, if_pos h, posF]
          simp
        · simp only [Bool.and_eq_true, decide_eq_true_eq]
          exact ⟨⟨⟨by show (posF c 0 (s.cps.toList.take k)).toArray.size < s.length + 1; rw [List.size_toArray]; omega, hf⟩, sa.1⟩, sa.2⟩
      · rw [if_neg]
        · refine ⟨fr, ?_, by omega⟩
          rw [posF, if_neg h, posF, List.append_nil]
        · simp only [Bool.and_eq_true, decide_eq_true_eq]
          rintro ⟨⟨_, h1⟩, h2⟩
          have z := sub.mp ⟨h1, h2⟩
          rw [List.getElem?_eq_getElem kl] at z
          exact h (Option.some.inj z)
  obtain ⟨fr, e, _⟩ := main s.length (Nat.le_refl _)
  have r1 : List.range' 0 (s.length + 1 - 0) 1 = List.range' 0 s.length 1 ++ [s.length] := by
    rw [Nat.sub_zero, List.range'_concat]
    simp
  rw [r1, List.foldl_append, e]
  show (occStep s ⟨#[c]⟩ s.length (s.length + 1) ((posF c 0 (s.cps.toList.take s.length)).toArray, fr) s.length).1.toList = _
  unfold occStep
  rw [if_neg]
  · rw [List.take_of_length_le (by omega)]
  · simp only [Bool.and_eq_true, decide_eq_true_eq]
    rintro ⟨⟨_, h1⟩, _⟩
    have len1 : (⟨#[c]⟩ : Str).length = 1 := rfl
    omega
/-! ### the parts -/
def splitL (c : Nat) : List Nat → List (List Nat)
  | [] => [[]]
  | x :: xs => if x = c then [] :: splitL c xs else match splitL c xs with
    | h :: t => (x :: h) :: t
    | [] => [[x]]
theorem splitL_ne (c : Nat) : ∀ l : List Nat, ∃ h t, splitL c l = h :: t
  | [] => ⟨[], [], rfl⟩
  | x :: xs => by
    rw [splitL]
    split
    · exact ⟨_, _, rfl⟩
    · obtain ⟨h, t, e⟩ := splitL_ne c xs
      rw [e]
      exact ⟨_, _, rfl⟩
theorem parts_is (c : Nat) (s : List Nat) : ∀ (rest pre : List Nat) (a : Nat) (h : List Nat) (t : List (List Nat)), s = pre ++ rest → a ≤ pre.length → splitL c rest = h :: t →
    ((a :: (posF c pre.length rest).map (· + 1)).zip (posF c pre.length rest ++ [s.length])).map (fun p => (s.drop p.1).take (p.2 - p.1)) = (pre.drop a ++ h) :: t
  | [], pre, a, h, t, es, ha, e => by
    rw [splitL] at e
    cases e
    rw [List.append_nil] at es
    subst es
    show [(s.drop a).take (s.length - a)] = _
    rw [List.append_nil, List.take_of_length_le (by rw [List.length_drop]; exact Nat.le_refl _)]
  | x :: xs, pre, a, h, t, es, ha, e => by
    rw [splitL] at e
    have es' : s = (pre ++ [x]) ++ xs := by rw [es, List.append_assoc]; rfl
    have lp : (pre ++ [x]).length = pre.length + 1 := by rw [List.length_append]; rfl
    rw [posF]
    by_cases cx : x = c
    · rw [if_pos cx] at e ⊢
      cases e
      obtain ⟨h', t', e'⟩ := splitL_ne c xs
      have ih := parts_is c s xs (pre ++ [x]) (pre.length + 1) h' t' es' (by omega) e'
      rw [lp] at ih
      rw [List.map_cons, List.cons_append, List.zip_cons_cons, List.map_cons, ih, e']
      congr 1
      · show (s.drop a).take (pre.length - a) = _
        rw [List.append_nil, es, List.drop_append_of_le_length ha, List.take_append_of_le_length (by rw [List.length_drop]; exact Nat.le_refl _), List.take_of_length_le (by rw [List.length_drop]; exact Nat.le_refl _)]
      · rw [List.drop_of_length_le (by omega), List.nil_append]
    · rw [if_neg cx] at e ⊢
      obtain ⟨h', t', e'⟩ := splitL_ne c xs
      rw [e'] at e
      cases e
      have ih := parts_is c s xs (pre ++ [x]) a h' t es' (by omega) e'
      rw [lp] at ih
      rw [ih, List.drop_append_of_le_length ha, List.append_assoc]
      rfl
theorem strSub_is (s : Str) (i j : Nat) : Builtin.Str.strSub s i j = ⟨((s.cps.toList.drop i).take (j - i)).toArray⟩ := by
  unfold Builtin.Str.strSub
  congr 1
  apply Array.toList_inj.mp
  simp [Array.toList_extract]
theorem str_back (s : Str) : (⟨s.cps.toList.toArray⟩ : Str) = s := by
  obtain ⟨a⟩ := s
  rfl
theorem posF_nil {c : Nat} : ∀ {l : List Nat} {k : Nat}, posF c k l = [] → c ∉ l
  | [], _, _ => List.not_mem_nil
  | x :: l, k, h => by
    rw [posF] at h
    by_cases e : x = c
    · rw [if_pos e] at h
      cases h
    · rw [if_neg e] at h
      intro m
      rcases List.mem_cons.mp m with z | z
      · exact e z.symm
      · exact posF_nil h z
theorem splitL_end {c : Nat} : ∀ {seg : List Nat}, c ∉ seg → splitL c seg = [seg]
  | [], _ => rfl
  | x :: seg, h => by
    rw [splitL, if_neg (fun e => h (by rw [e]; exact List.mem_cons_self)), splitL_end fun k => h (List.mem_cons_of_mem _ k)]
theorem split_one (s : Str) (c : Nat) (hc : c < 256) : Txt.split s ⟨#[c]⟩ = (splitL c s.cps.toList).map fun l => ⟨l.toArray⟩ := by
  unfold Txt.split
  rw [occ_one]
  have l := cps_len s
  have k1 : Builtin.Str.strKind ⟨#[c]⟩ = 1 := by
    unfold Builtin.Str.strKind
    rw [if_pos (by simpa using hc)]
  have k2 : ¬ Builtin.Str.strKind s < Builtin.Str.strKind ⟨#[c]⟩ := by
    rw [k1]
    unfold Builtin.Str.strKind
    split
    · omega
    · split <;> omega
  rw [decide_eq_false k2, Bool.or_false]
  by_cases h0 : s.length < (⟨#[c]⟩ : Str).length
  · rw [if_pos (decide_eq_true h0)]
    have z : s.length = 0 := by
      have e : (⟨#[c]⟩ : Str).length = 1 := rfl
      omega
    have e : s.cps.toList = [] := List.length_eq_zero_iff.mp (by omega)
    rw [e]
    show [s] = [⟨[].toArray⟩]
    rw [← e, str_back]
  · rw [if_neg (by rw [decide_eq_false h0]; decide)]
    by_cases h1 : posF c 0 s.cps.toList = []
    · rw [h1, if_pos (show ([] : List Nat).isEmpty = true from rfl), splitL_end (posF_nil h1)]
      show [s] = [(⟨s.cps.toList.toArray⟩ : Str)]
      rw [str_back]
    · rw [if_neg (by rw [List.isEmpty_iff]; exact h1)]
      obtain ⟨h, t, e⟩ := splitL_ne c s.cps.toList
      have z := parts_is c s.cps.toList s.cps.toList [] 0 h t rfl (Nat.zero_le _) e
      unfold Builtin.Str.partsBetween
      have e1 : (⟨#[c]⟩ : Str).length = 1 := rfl
      rw [e1, e]
      rw [List.drop_nil, List.nil_append] at z
      rw [← z, List.map_map, l]
      refine List.map_congr_left fun p _ => ?_
      exact strSub_is s p.1 p.2
theorem splitL_seg {c : Nat} : ∀ {seg : List Nat} (rest : List Nat), c ∉ seg → splitL c (seg ++ c :: rest) = seg :: splitL c rest
  | [], rest, _ => by
    rw [List.nil_append, splitL, if_pos rfl]
  | x :: seg, rest, h => by
    rw [List.cons_append, splitL, if_neg (fun e => h (by rw [e]; exact List.mem_cons_self)), splitL_seg rest fun k => h (List.mem_cons_of_mem _ k)]
end My

set_option linter.unusedVariables false
/-! X_store_text: a def as a function of data -/
namespace My
open PySem PySem.Spec PyProof.Rows L2
section
variable {P : Program} {w : World} {K : PySem.W.Frag} {mg : Str → Option Value} {base : Heap}
def S_store_text : SF :=
  (fRet (fMeth joinD (fC (.str "")) (fCo (fLc (afV (fV 0)) (gN 1) tfYes (fOp addD (fMeth joinD (fC (.str " ")) (fCo (fV 1) fN)) (fC (.str "\n"))) [1]) fN)))
def F_store_text : List PyData → Option PyData := fnF 1 2 S_store_text
theorem at_store_text (x0 : PyData) : F_store_text [x0] = (S_store_text [some (.d x0), none]).bind outF := rfl
theorem sc_store_text : FnScope ["store", "fact"] ["store"] (defScope s_store_text) := ⟨rfl, rfl, rfl, by decide +kernel, rfl, by decide +kernel, by decide +kernel⟩
theorem okF_store_text {f : Addr} {fd : FuncData} (F : Fun K "store_text" "store_text" s_store_text f fd)  : FnOk P w K mg base CX0 1 f fd ["store"] (spP K F_store_text) :=
  show FnOk P w K mg base CX0 1 f fd ["store"] (spP K (fnF 1 2 S_store_text)) from
  fn_okF (S := S_store_text) 1 2 F sc_store_text rfl rfl (fun cdv A outer s H E hr => by
    have hu := hr.units
    have hv := Room.u65 hr
    exact (qss_one (qs_ret (qd_mk (pe_bm PySem.F.plainAttrs_str PySem.F.slot_str_join PySem.F.type_str_join mt_join qd_str (qda_cons (qd_lc (own := [("fact", 1)]) rfl sc_store_text.nd (qdi_val (qdv 0)) (blkOk_by (own := [("fact", 1)]) (N := ["store", "fact"]) (sc := (defScope s_store_text)) (by decide +kernel)) (by decide) (fun _ _ _ _ _ => (qdg_name (i := 1) sc_store_text.nd rfl (Or.inl rfl))) (fun _ _ _ _ _ => qts_nil) (fun _ _ _ _ _ => (qd_op op_addU pu_add (qd_mk (pe_bm PySem.F.plainAttrs_str PySem.F.slot_str_join PySem.F.type_str_join mt_join qd_str (qda_cons (qdv 1) qda_nil)) (rd_meth pu_join)) qd_str))) qda_nil)) (rd_meth pu_join)))))
   (show IsS _ S_store_text from (is_ret (is_meth is_c (is_co (is_lc (is_afV is_v) is_tfYes (is_op (is_meth is_c (is_co is_v is_n)) is_c)) is_n))))

end
end My

set_option linter.unusedVariables false
/-! X_text_lines: a def as a function of data -/
namespace My
open PySem PySem.Spec PyProof.Rows L2
section
variable {P : Program} {w : World} {K : PySem.W.Frag} {mg : Str → Option Value} {base : Heap}
def S_text_lines : SF :=
  (fSeq (fSet 1 (fMeth splitD (fV 0) (fCo (fC (.str "\n")) fN)))
    (fRet (fIf (tfE (fOp eqD (fOp ixD (fV 1) (fNeg (fC (.int 1)))) (fC (.str "")))) (fSl slD (fV 1) ofN (ofS (fNeg (fC (.int 1))))) (fV 1))))
def F_text_lines : List PyData → Option PyData := fnF 1 2 S_text_lines
theorem at_text_lines (x0 : PyData) : F_text_lines [x0] = (S_text_lines [some (.d x0), none]).bind outF := rfl
theorem sc_text_lines : FnScope ["text", "lines"] ["text"] (defScope s_text_lines) := ⟨rfl, rfl, rfl, by decide +kernel, rfl, by decide +kernel, by decide +kernel⟩
theorem okF_text_lines {f : Addr} {fd : FuncData} (F : Fun K "text_lines" "text_lines" s_text_lines f fd)  : FnOk P w K mg base CX0 1 f fd ["text"] (spP K F_text_lines) :=
  show FnOk P w K mg base CX0 1 f fd ["text"] (spP K (fnF 1 2 S_text_lines)) from
  fn_okF (S := S_text_lines) 1 2 F sc_text_lines rfl rfl (fun cdv A outer s H E hr => by
    have hu := hr.units
    have hv := Room.u65 hr
    exact (qss_cons (qs_set (i := 1) sc_text_lines.nd rfl (Or.inl rfl) (qd_mk (pe_bm PySem.F.plainAttrs_str PySem.F.slot_str_split PySem.F.type_str_split mt_split (qdv 0) (qda_cons qd_str qda_nil)) (rd_meth pu_split)))
      (qss_one (qs_ret (qd_if (qdt_cmp (op_eqU hu) pu_eq (qd_ix ix_seq pu_ix (qdv 1) (qd_neg qd_int)) qd_str (nomark _)) (qd_sl sl_U pu_sl (qdv 1) qdo_none (qdo_some (qd_neg qd_int))) (qdv 1))))))
   (show IsS _ S_text_lines from (is_seq (is_set (is_meth is_v (is_co is_c is_n))) (is_ret (is_if (is_tfE (is_op (is_op is_v (is_neg is_c)) is_c)) (is_sl is_v is_ofN (is_ofS (is_neg is_c))) is_v))))

end
end My

set_option linter.unusedVariables false
/-! X_may_be_read: a def as a function of data -/
namespace My
open PySem PySem.Spec PyProof.Rows L2
section
variable {P : Program} {w : World} {K : PySem.W.Frag} {mg : Str → Option Value} {base : Heap}
def S_may_be_read : SF :=
  (fRet (fAnd (fCall F_is_store (fCo (fV 0) fN)) (fAnd (fOp (ltD fun i j => decide (i ≤ j)) (fCall lenD (fCo (fV 0) fN)) (fC (.int 30))) (fOp (ltD fun i j => decide (i ≤ j)) (fCall lenD (fCo (fCall F_unknowns (fCo (fV 0) fN)) fN)) (fC (.int 5))))))
def F_may_be_read : List PyData → Option PyData := fnF 1 1 S_may_be_read
theorem at_may_be_read (x0 : PyData) : F_may_be_read [x0] = (S_may_be_read [some (.d x0)]).bind outF := rfl
theorem sc_may_be_read : FnScope ["facts"] ["facts"] (defScope s_may_be_read) := ⟨rfl, rfl, rfl, by decide +kernel, rfl, by decide +kernel, by decide +kernel⟩
theorem okF_may_be_read {f : Addr} {fd : FuncData} (F : Fun K "may_be_read" "may_be_read" s_may_be_read f fd) (z_len : mg "len" = none) {t_MOST_FACTS : Tok} (g_MOST_FACTS : mg "MOST_FACTS" = some (.int 30 t_MOST_FACTS)) {t_MOST_UNKNOWNS : Tok} (g_MOST_UNKNOWNS : mg "MOST_UNKNOWNS" = some (.int 5 t_MOST_UNKNOWNS)) {f_is_store : Addr} {d_is_store : FuncData} (G_is_store : FnOk P w K mg base CX0 4 f_is_store d_is_store ["value"] (spP K F_is_store)) (m_is_store : mg "is_store" = some (.ref f_is_store)) (k_is_store : PySem.W.keepIn K (.ref f_is_store) = true) (b_is_store : Binds K d_is_store ["value"] []) {f_unknowns : Addr} {d_unknowns : FuncData} (G_unknowns : FnOk P w K mg base CX0 2 f_unknowns d_unknowns ["store"] (spP K F_unknowns)) (m_unknowns : mg "unknowns" = some (.ref f_unknowns)) (k_unknowns : PySem.W.keepIn K (.ref f_unknowns) = true) (b_unknowns : Binds K d_unknowns ["store"] []) : FnOk P w K mg base CX0 5 f fd ["facts"] (spP K F_may_be_read) :=
  show FnOk P w K mg base CX0 5 f fd ["facts"] (spP K (fnF 1 1 S_may_be_read)) from
  fn_okF (S := S_may_be_read) 1 1 F sc_may_be_read rfl rfl (fun cdv A outer s H E hr => by
    have hu := hr.units
    have hv := Room.u65 hr
    exact (qss_one (qs_ret (qd_and (qd_call G_is_store (hr.mono (by decide)) rfl m_is_store k_is_store b_is_store pass0 (qda_cons (qdv 0) qda_nil)) (qd_and (qd_cmp op_le pu_cmp (qd_callB cr_lenU pu_len (by rfl) z_len PySem.boot_len (qda_cons (qdv 0) qda_nil)) (qd_globI rfl g_MOST_FACTS) (nomark _)) (qd_one (qd_cmp op_le pu_cmp (qd_callB cr_lenU pu_len (by rfl) z_len PySem.boot_len (qda_cons (qd_call G_unknowns (hr.mono (by decide)) rfl m_unknowns k_unknowns b_unknowns pass0 (qda_cons (qdv 0) qda_nil)) qda_nil)) (qd_globI rfl g_MOST_UNKNOWNS) (nomark _))))))))
   (show IsS _ S_may_be_read from (is_ret (is_and (is_call (is_co is_v is_n)) (is_and (is_op (is_call (is_co is_v is_n)) is_c) (is_op (is_call (is_co (is_call (is_co is_v is_n)) is_n)) is_c)))))

end
end My

set_option linter.unusedVariables false
/-! X_fact_fault: a def as a function of data -/
namespace My
open PySem PySem.Spec PyProof.Rows L2
section
variable {P : Program} {w : World} {K : PySem.W.Frag} {mg : Str → Option Value} {base : Heap}
def S_fact_fault : SF :=
  (fSeq (fIfS (tfNot (tfE (fCall F_is_word (fCo (fOp ixD (fV 1) (fC (.int 0))) fN)))) (fRet (fC (.int 0))) fNil)
    (fSeq (fFor (afEnS 1 (fSl slD (fV 1) (ofS (fC (.int 1))) ofN)) (gT 2 (gsC (gN 2) (gsC (gN 3) gsN))) (fIfS (tfOr (tfE (fOp (ltD fun i j => decide (j < i)) (fV 2) (fC (.int 4)))) (tfNot (tfE (fCall F_is_value (fCo (fV 3) fN))))) (fRet (fV 2)) fNil))
    (fSeq (fIfS (tfE (fOp eqD (fCall lenD (fCo (fV 1) fN)) (fC (.int 1)))) (fRet (fC (.int 1))) fNil)
    (fRet (fIf (tfE (fCall F_may_be_read (fCo (fOp addD (fV 0) (fTup (fCo (fV 1) fN))) fN))) (fC .none) (fC (.int 0)))))))
def F_fact_fault : List PyData → Option PyData := fnF 2 4 S_fact_fault
theorem at_fact_fault (x0 x1 : PyData) : F_fact_fault [x0, x1] = (S_fact_fault [some (.d x0), some (.d x1), none, none]).bind outF := rfl
theorem sc_fact_fault : FnScope ["store", "words", "at", "word"] ["store", "words"] (defScope s_fact_fault) := ⟨rfl, rfl, rfl, by decide +kernel, rfl, by decide +kernel, by decide +kernel⟩
theorem okF_fact_fault {f : Addr} {fd : FuncData} (F : Fun K "fact_fault" "fact_fault" s_fact_fault f fd) (z_enumerate : mg "enumerate" = none) (z_len : mg "len" = none) {t_MOST_VALUES : Tok} (g_MOST_VALUES : mg "MOST_VALUES" = some (.int 4 t_MOST_VALUES)) {f_is_word : Addr} {d_is_word : FuncData} (G_is_word : FnOk P w K mg base CX0 1 f_is_word d_is_word ["value"] (spP K F_is_word)) (m_is_word : mg "is_word" = some (.ref f_is_word)) (k_is_word : PySem.W.keepIn K (.ref f_is_word) = true) (b_is_word : Binds K d_is_word ["value"] []) {f_is_value : Addr} {d_is_value : FuncData} (G_is_value : FnOk P w K mg base CX0 2 f_is_value d_is_value ["value"] (spP K F_is_value)) (m_is_value : mg "is_value" = some (.ref f_is_value)) (k_is_value : PySem.W.keepIn K (.ref f_is_value) = true) (b_is_value : Binds K d_is_value ["value"] []) {f_may_be_read : Addr} {d_may_be_read : FuncData} (G_may_be_read : FnOk P w K mg base CX0 5 f_may_be_read d_may_be_read ["facts"] (spP K F_may_be_read)) (m_may_be_read : mg "may_be_read" = some (.ref f_may_be_read)) (k_may_be_read : PySem.W.keepIn K (.ref f_may_be_read) = true) (b_may_be_read : Binds K d_may_be_read ["facts"] []) : FnOk P w K mg base CX0 6 f fd ["store", "words"] (spP K F_fact_fault) :=
  show FnOk P w K mg base CX0 6 f fd ["store", "words"] (spP K (fnF 2 4 S_fact_fault)) from
  fn_okF (S := S_fact_fault) 2 4 F sc_fact_fault rfl rfl (fun cdv A outer s H E hr => by
    have hu := hr.units
    have hv := Room.u65 hr
    exact (qss_cons (qs_if (qdt_not (qdt_val (qd_call G_is_word (hr.mono (by decide)) rfl m_is_word k_is_word b_is_word pass0 (qda_cons (qd_ix ix_seq pu_ix (qdv 1) qd_int) qda_nil)))) (qss_one (qs_ret qd_int)) qss_nil)
      (qss_cons (qs_for PassesOwn.never rfl (qdi_enumS (by rfl) z_enumerate (qd_sl sl_U pu_sl (qdv 1) (qdo_some qd_int) qdo_none) pe_int) (qdg_tup (n := 2) rfl (qdgs_cons (qdg_name (i := 2) sc_fact_fault.nd rfl (Or.inl rfl)) (qdgs_cons (qdg_name (i := 3) sc_fact_fault.nd rfl (Or.inl rfl)) qdgs_nil))) (qss_one (qs_if (qdt_W (qdw_or (qdt_cmp op_gt pu_cmp (qdv 2) (qd_globI rfl g_MOST_VALUES) (nomark _)) (qdw_or1 (qdt_not (qdt_val (qd_call G_is_value (hr.mono (by decide)) rfl m_is_value k_is_value b_is_value pass0 (qda_cons (qdv 3) qda_nil))))))) (qss_one (qs_ret (qdv 2))) qss_nil)))
      (qss_cons (qs_if (qdt_cmp (op_eqU hu) pu_eq (qd_callB cr_lenU pu_len (by rfl) z_len PySem.boot_len (qda_cons (qdv 1) qda_nil)) qd_int (nomark _)) (qss_one (qs_ret qd_int)) qss_nil)
      (qss_one (qs_ret (qd_if (qdt_val (qd_call G_may_be_read (hr.mono (by decide)) rfl m_may_be_read k_may_be_read b_may_be_read pass0 (qda_cons (qd_op op_addU pu_add (qdv 0) (qd_tup (qda_cons (qdv 1) qda_nil))) qda_nil))) qd_non qd_int)))))))
   (show IsS _ S_fact_fault from (is_seq (is_ifS (is_tfNot (is_tfE (is_call (is_co (is_op is_v is_c) is_n)))) (is_ret is_c) is_nil) (is_seq (is_for (is_afEnS (is_sl is_v (is_ofS is_c) is_ofN)) (is_ifS (is_tfOr (is_tfE (is_op is_v is_c)) (is_tfNot (is_tfE (is_call (is_co is_v is_n))))) (is_ret is_v) is_nil)) (is_seq (is_ifS (is_tfE (is_op (is_call (is_co is_v is_n)) is_c)) (is_ret is_c) is_nil) (is_ret (is_if (is_tfE (is_call (is_co (is_op is_v (is_tup (is_co is_v is_n))) is_n))) is_c is_c))))))

end
end My

set_option linter.unusedVariables false
/-! X_check_end: a def as a function of data -/
namespace My
open PySem PySem.Spec PyProof.Rows L2
section
variable {P : Program} {w : World} {K : PySem.W.Frag} {mg : Str → Option Value} {base : Heap}
def S_check_end : SF :=
  (fIfS (tfAnd (tfE (fOp (ltD fun i j => decide (j < i)) (fCall lenD (fCo (fV 1) fN)) (fC (.int 0)))) (tfNot (tfE (fMeth endsD (fV 0) (fCo (fC (.str "\n")) fN))))) fBad fNil)
def F_check_end : List PyData → Option PyData := fnF 2 2 S_check_end
theorem at_check_end (x0 x1 : PyData) : F_check_end [x0, x1] = (S_check_end [some (.d x0), some (.d x1)]).bind outF := rfl
theorem sc_check_end : FnScope ["text", "lines"] ["text", "lines"] (defScope s_check_end) := ⟨rfl, rfl, rfl, by decide +kernel, rfl, by decide +kernel, by decide +kernel⟩
theorem okF_check_end {f : Addr} {fd : FuncData} (F : Fun K "check_end" "check_end" s_check_end f fd) (z_len : mg "len" = none) : FnOk P w K mg base CX0 1 f fd ["text", "lines"] (spP K F_check_end) :=
  show FnOk P w K mg base CX0 1 f fd ["text", "lines"] (spP K (fnF 2 2 S_check_end)) from
  fn_okF (S := S_check_end) 2 2 F sc_check_end rfl rfl (fun cdv A outer s H E hr => by
    have hu := hr.units
    have hv := Room.u65 hr
    exact (qss_one (qs_if (qdt_W (qdw_and (qdt_cmp op_gt pu_cmp (qd_callB cr_lenU pu_len (by rfl) z_len PySem.boot_len (qda_cons (qdv 1) qda_nil)) qd_int (nomark _)) (qdw_and1 (qdt_not (qdt_val (qd_mk (pe_bm PySem.F.plainAttrs_str PySem.F.slot_str_endswith PySem.F.type_str_endswith mt_endswith (qdv 0) (qda_cons qd_str qda_nil)) (rd_meth pu_ends))))))) (qss_one qs_never) qss_nil)))
   (show IsS _ S_check_end from (is_ifS (is_tfAnd (is_tfE (is_op (is_call (is_co is_v is_n)) is_c)) (is_tfNot (is_tfE (is_meth is_v (is_co is_c is_n))))) is_bad is_nil))

end
end My

set_option linter.unusedVariables false
/-! X_read_store: a def as a function of data -/
namespace My
open PySem PySem.Spec PyProof.Rows L2
section
variable {P : Program} {w : World} {K : PySem.W.Frag} {mg : Str → Option Value} {base : Heap}
def S_read_store : SF :=
  (fSeq (fSet 1 (fCall F_text_lines (fCo (fV 0) fN)))
    (fSeq (fSet 2 (fTup fN))
    (fSeq (fFor (afEnL (fV 1)) (gT 2 (gsC (gN 3) (gsC (gN 4) gsN))) (fSeq (fSet 5 (fCall tupD1 (fCo (fMeth splitD (fV 4) (fCo (fC (.str " ")) fN)) fN)))
    (fSeq (fSet 6 (fCall F_fact_fault (fCo (fV 2) (fCo (fV 5) fN))))
    (fSeq (fIfS (tfE (fOp (isND true) (fV 6) (fC .none))) fBad fNil)
    (fSet 2 (fOp addD (fV 2) (fTup (fCo (fV 5) fN))))))))
    (fSeq (fExpr (fCall F_check_end (fCo (fV 0) (fCo (fV 1) fN))))
    (fRet (fV 2))))))
def F_read_store : List PyData → Option PyData := fnF 1 7 S_read_store
theorem at_read_store (x0 : PyData) : F_read_store [x0] = (S_read_store [some (.d x0), none, none, none, none, none, none]).bind outF := rfl
theorem sc_read_store : FnScope ["text", "lines", "store", "number", "line", "words", "fault"] ["text"] (defScope s_read_store) := ⟨rfl, rfl, rfl, by decide +kernel, rfl, by decide +kernel, by decide +kernel⟩
theorem okF_read_store {f : Addr} {fd : FuncData} (F : Fun K "read_store" "read_store" s_read_store f fd) (z_enumerate : mg "enumerate" = none) (z_tuple : mg "tuple" = none) {f_text_lines : Addr} {d_text_lines : FuncData} (G_text_lines : FnOk P w K mg base CX0 1 f_text_lines d_text_lines ["text"] (spP K F_text_lines)) (m_text_lines : mg "text_lines" = some (.ref f_text_lines)) (k_text_lines : PySem.W.keepIn K (.ref f_text_lines) = true) (b_text_lines : Binds K d_text_lines ["text"] []) {f_fact_fault : Addr} {d_fact_fault : FuncData} (G_fact_fault : FnOk P w K mg base CX0 6 f_fact_fault d_fact_fault ["store", "words"] (spP K F_fact_fault)) (m_fact_fault : mg "fact_fault" = some (.ref f_fact_fault)) (k_fact_fault : PySem.W.keepIn K (.ref f_fact_fault) = true) (b_fact_fault : Binds K d_fact_fault ["store", "words"] []) {f_check_end : Addr} {d_check_end : FuncData} (G_check_end : FnOk P w K mg base CX0 1 f_check_end d_check_end ["text", "lines"] (spP K F_check_end)) (m_check_end : mg "check_end" = some (.ref f_check_end)) (k_check_end : PySem.W.keepIn K (.ref f_check_end) = true) (b_check_end : Binds K d_check_end ["text", "lines"] []) : FnOk P w K mg base CX0 7 f fd ["text"] (spP K F_read_store) :=
  show FnOk P w K mg base CX0 7 f fd ["text"] (spP K (fnF 1 7 S_read_store)) from
  fn_okF (S := S_read_store) 1 7 F sc_read_store rfl rfl (fun cdv A outer s H E hr => by
    have hu := hr.units
    have hv := Room.u65 hr
    exact (qss_cons (qs_set (i := 1) sc_read_store.nd rfl (Or.inl rfl) (qd_call G_text_lines (hr.mono (by decide)) rfl m_text_lines k_text_lines b_text_lines pass0 (qda_cons (qdv 0) qda_nil)))
      (qss_cons (qs_set (i := 2) sc_read_store.nd rfl (Or.inl rfl) (qd_tup qda_nil))
      (qss_cons (qs_for PassesOwn.never rfl (qdi_enumL (by rfl) z_enumerate (qdv 1)) (qdg_tup (n := 2) rfl (qdgs_cons (qdg_name (i := 3) sc_read_store.nd rfl (Or.inl rfl)) (qdgs_cons (qdg_name (i := 4) sc_read_store.nd rfl (Or.inl rfl)) qdgs_nil))) (qss_cons (qs_set (i := 5) sc_read_store.nd rfl (Or.inl rfl) (qd_callTy cr_tupU pu_tuple (by rfl) z_tuple boot_tuple (qda_cons (qd_mk (pe_bm PySem.F.plainAttrs_str PySem.F.slot_str_split PySem.F.type_str_split mt_split (qdv 4) (qda_cons qd_str qda_nil)) (rd_meth pu_split)) qda_nil)))
      (qss_cons (qs_set (i := 6) sc_read_store.nd rfl (Or.inl rfl) (qd_call G_fact_fault (hr.mono (by decide)) rfl m_fact_fault k_fact_fault b_fact_fault pass0 (qda_cons (qdv 2) (qda_cons (qdv 5) qda_nil))))
      (qss_cons (qs_if (qdt_cmp op_notN pu_notN (qdv 6) qd_non (nomark _)) (qss_one qs_never) qss_nil)
      (qss_one (qs_set (i := 2) sc_read_store.nd rfl (Or.inl rfl) (qd_op op_addU pu_add (qdv 2) (qd_tup (qda_cons (qdv 5) qda_nil)))))))))
      (qss_cons (qs_expr (qd_call G_check_end (hr.mono (by decide)) rfl m_check_end k_check_end b_check_end pass0 (qda_cons (qdv 0) (qda_cons (qdv 1) qda_nil))))
      (qss_one (qs_ret (qdv 2))))))))
   (show IsS _ S_read_store from (is_seq (is_set (is_call (is_co is_v is_n))) (is_seq (is_set (is_tup is_n)) (is_seq (is_for (is_afEnL is_v) (is_seq (is_set (is_call (is_co (is_meth is_v (is_co is_c is_n)) is_n))) (is_seq (is_set (is_call (is_co is_v (is_co is_v is_n)))) (is_seq (is_ifS (is_tfE (is_op is_v is_c)) is_bad is_nil) (is_set (is_op is_v (is_tup (is_co is_v is_n)))))))) (is_seq (is_expr (is_call (is_co is_v (is_co is_v is_n)))) (is_ret is_v))))))

end
end My

set_option linter.unusedSimpArgs false
set_option linter.unusedVariables false
/-! JTx: texts of stores, written and read -/
namespace My
open PySem PySem.Spec PyProof.Rows L2
def mkS (l : List Nat) : Str := ⟨l.toArray⟩
theorem mkS_tl (l : List Nat) : (mkS l).cps.toList = l := rfl
theorem mkS_of {s : Str} {l : List Nat} (h : s.cps.toList = l) : s = mkS l := by
  rw [← h]
  exact (str_back s).symm
theorem mkS_len (l : List Nat) : (mkS l).length = l.length := by rw [← cps_len, mkS_tl]
def factC : List Str → List Nat
  | [] => []
  | x :: r => x.cps.toList ++ r.flatMap fun y => 32 :: y.cps.toList
def textC (L : List (List Str)) : List Nat := L.flatMap fun f => factC f ++ [10]
theorem sp_is : (" " : Str) = ⟨#[32]⟩ := by decide +kernel
theorem nl_is : ("\n" : Str) = ⟨#[10]⟩ := by decide +kernel
theorem em_is : ("" : Str) = ⟨#[]⟩ := by decide +kernel
theorem fold_join (g : List Nat) (sep : Str) (hs : sep.cps.toList = g) : ∀ (rest : List Str) (acc : Array Nat), (rest.foldl (fun acc p => acc ++ sep.cps ++ p.cps) acc).toList = acc.toList ++ rest.flatMap fun y => g ++ y.cps.toList
  | [], acc => by simp
  | y :: rest, acc => by
    rw [List.foldl_cons, fold_join g sep hs rest, List.flatMap_cons]
    simp only [Array.toList_append, hs, List.append_assoc]
theorem join_tl (g : List Nat) (sep : Str) (hs : sep.cps.toList = g) (x : Str) (r : List Str) : (Txt.join sep (x :: r)).cps.toList = x.cps.toList ++ r.flatMap fun y => g ++ y.cps.toList := by
  unfold Txt.join Builtin.Str.glued
  exact fold_join g sep hs r x.cps
theorem join_sp {f : List Str} (h : f ≠ []) : Txt.join " " f = mkS (factC f) := by
  cases f with
  | nil => exact absurd rfl h
  | cons x r =>
    refine mkS_of ?_
    rw [join_tl [32] " " (by rw [sp_is]) x r]
    rfl
theorem join_em (ys : List Str) : Txt.join "" ys = mkS (ys.flatMap fun y => y.cps.toList) := by
  refine mkS_of ?_
  cases ys with
  | nil => decide +kernel
  | cons x r =>
    rw [join_tl [] "" (by rw [em_is]) x r, List.flatMap_cons]
    rfl
theorem app_tl (a b : Str) : (a ++ b).cps.toList = a.cps.toList ++ b.cps.toList := TL.tl_append a b
theorem line_is {f : List Str} (h : f ≠ []) : Txt.join " " f ++ "\n" = mkS (factC f ++ [10]) := by
  refine mkS_of ?_
  rw [app_tl, join_sp h, mkS_tl, nl_is]
/-! ### sizes, signs -/
theorem fact_val {f : List Str} (h : FactG f) : ∀ x ∈ f, ValOk x := by
  obtain ⟨r, ws, rfl, h1, _, _, h4⟩ := h
  exact fun x hx => (List.mem_cons.mp hx).elim (fun e => .inl (by rw [e]; exact h1)) (h4 x)
theorem flatC_len : ∀ {r : List Str}, (∀ y ∈ r, y.length ≤ 8) → (r.flatMap fun y => 32 :: y.cps.toList).length ≤ 9 * r.length
  | [], _ => Nat.zero_le _
  | y :: r, h => by
    have a := flatC_len (r := r) fun z hz => h z (List.mem_cons_of_mem _ hz)
    have b := h y List.mem_cons_self
    rw [List.flatMap_cons, List.length_append, List.length_cons, List.length_cons, cps_len]
    omega
theorem factC_len {f : List Str} (h : FactG f) : (factC f).length ≤ 44 := by
  have v := fact_val h
  obtain ⟨r, ws, rfl, _, _, l4, _⟩ := h
  have a := val_len (v r List.mem_cons_self)
  have b := flatC_len (r := ws) fun y hy => val_len (v y (List.mem_cons_of_mem _ hy))
  show (r.cps.toList ++ _).length ≤ 44
  rw [List.length_append, cps_len]
  omega
theorem textC_len : ∀ {L : List (List Str)}, (∀ f ∈ L, FactG f) → (textC L).length ≤ 45 * L.length
  | [], _ => Nat.zero_le _
  | f :: L, h => by
    have a := textC_len (L := L) fun g hg => h g (List.mem_cons_of_mem _ hg)
    have b := factC_len (h f List.mem_cons_self)
    unfold textC at a ⊢
    rw [List.flatMap_cons]
    simp only [List.length_append, List.length_singleton, List.length_cons, List.length_nil]
    omega
theorem val_signs {x : Str} (h : ValOk x) : ∀ c ∈ x.cps.toList, c ≠ 10 ∧ c ≠ 32 ∧ c < 1000 := fun c hc => by
  rcases h with h | h
  · unfold wrdB at h
    simp only [Bool.and_eq_true, decide_eq_true_eq, List.all_eq_true] at h
    have z := h.2 c hc
    unfold letS at z
    simp only [List.mem_map, List.mem_range] at z
    obtain ⟨a, l, e⟩ := z
    omega
  · rw [isUnk_is] at h
    simp only [Bool.and_eq_true, decide_eq_true_eq, List.all_eq_true] at h
    obtain ⟨⟨⟨h1, _⟩, _⟩, h5⟩ := h
    cases e : x.cps.toList with
    | nil => rw [e] at hc; cases hc
    | cons a r =>
      rw [e] at h1 h5 hc
      rcases List.mem_cons.mp hc with rfl | hc
      · have z := Option.some.inj h1
        omega
      · have z := h5 c hc
        unfold digS at z
        simp only [List.mem_cons, List.not_mem_nil, or_false] at z
        omega
theorem factC_signs {f : List Str} (h : ∀ x ∈ f, ValOk x) : ∀ c ∈ factC f, c ≠ 10 ∧ c < 1000 := fun c hc => by
  cases f with
  | nil => cases hc
  | cons x r =>
    rcases List.mem_append.mp hc with hc | hc
    · have z := val_signs (h x List.mem_cons_self) c hc
      exact ⟨z.1, z.2.2⟩
    · obtain ⟨y, hy, hc⟩ := List.mem_flatMap.mp hc
      rcases List.mem_cons.mp hc with rfl | hc
      · exact ⟨by decide, by decide⟩
      · have z := val_signs (h y (List.mem_cons_of_mem _ hy)) c hc
        exact ⟨z.1, z.2.2⟩
theorem split_text : ∀ {L : List (List Str)}, (∀ f ∈ L, FactG f) → splitL 10 (textC L) = L.map factC ++ [[]]
  | [], _ => rfl
  | f :: L, h => by
    have z := factC_signs (fact_val (h f List.mem_cons_self))
    unfold textC
    rw [List.flatMap_cons, List.append_assoc, List.singleton_append, splitL_seg _ fun k => (z 10 k).1 rfl]
    have ih := split_text (L := L) fun g hg => h g (List.mem_cons_of_mem _ hg)
    unfold textC at ih
    rw [ih]
    rfl
theorem split_fact : ∀ {x : Str} {r : List Str}, (∀ y ∈ x :: r, ∀ c ∈ y.cps.toList, c ≠ 32) → splitL 32 (factC (x :: r)) = (x :: r).map fun y => y.cps.toList
  | x, [], h => by
    show splitL 32 (x.cps.toList ++ []) = _
    rw [List.append_nil, splitL_end fun k => h x List.mem_cons_self 32 k rfl]
    rfl
  | x, y :: r, h => by
    have ih := split_fact (x := y) (r := r) fun z hz => h z (List.mem_cons_of_mem _ hz)
    show splitL 32 (x.cps.toList ++ ((32 :: y.cps.toList) ++ _)) = _
    rw [List.cons_append, splitL_seg _ fun k => h x List.mem_cons_self 32 k rfl]
    rw [List.map_cons, ← ih]
    rfl
/-! ### the functions -/
theorem meth_is {D : Str → List PyData → Option PyData} {o : EF} {a : AF} {ρ : DEnv} {z : Str} {xs : List PyData} {d : PyData} (ho : o ρ = some (.str z)) (ha : a ρ = some xs) (h : D z xs = some d) : fMeth D o a ρ = some d := by
  unfold fMeth
  rw [ho, Option.bind_some]
  show (some z).bind _ = _
  rw [Option.bind_some, ha]
  exact h
theorem sum_le {k : Nat} : ∀ {ys : List Str}, (∀ y ∈ ys, y.length ≤ k) → (ys.map (·.length)).sum ≤ k * ys.length
  | [], _ => Nat.zero_le _
  | y :: ys, h => by
    have a := sum_le (ys := ys) fun z hz => h z (List.mem_cons_of_mem _ hz)
    have b := h y List.mem_cons_self
    rw [List.map_cons, List.sum_cons, List.length_cons, Nat.mul_add]
    omega
theorem joinT {f : List Str} (h : FactG f) : joinD " " [bT' f] = some (.str (mkS (factC f))) := by
  have v := fact_val h
  obtain ⟨r, ws, rfl, _, _, l4, _⟩ := id h
  have s := sum_le (k := 8) (ys := r :: ws) fun y hy => val_len (v y hy)
  show (strsD ((r :: ws).map PyData.str)).bind _ = _
  rw [strsD_back, Option.bind_some]
  have l1 : (" " : Str).length = 1 := by decide +kernel
  have e : joinSz " " (r :: ws) = true := by
    unfold joinSz
    rw [l1]
    refine decide_eq_true ?_
    rw [List.length_cons] at s ⊢
    omega
  rw [e, if_pos rfl, join_sp (by simp)]
theorem joinL {f : List Str} (h : FactG f) : joinD " " [.list (f.map PyData.str)] = some (.str (mkS (factC f))) := joinT h
theorem addLine {f : List Str} (h : FactG f) : addD (.str (mkS (factC f))) (.str "\n") = some (.str (mkS (factC f ++ [10]))) := by
  have l := factC_len h
  have l1 : ("\n" : Str).length = 1 := by decide +kernel
  show (if (mkS (factC f)).length + ("\n" : Str).length ≤ lim then some (PyData.str (mkS (factC f) ++ "\n")) else none) = _
  rw [if_pos (by rw [mkS_len, l1]; show _ ≤ 1000000; omega)]
  congr 2
  refine mkS_of ?_
  rw [app_tl, mkS_tl, nl_is]
theorem F_stext {L : List (List Str)} (g : ∀ f ∈ L, FactG f) (l : L.length ≤ 60) : F_store_text [stD L] = some (.str (mkS (textC L))) := by
  rw [at_store_text]
  unfold S_store_text
  have k1 : fLc (afV (fV 0)) (gN 1) tfYes (fOp addD (fMeth joinD (fC (.str " ")) (fCo (fV 1) fN)) (fC (.str "\n"))) [1] [some (.d (stD L)), none] = some (.list ((L.map fun f => mkS (factC f ++ [10])).map PyData.str)) := by
    rw [List.map_map]
    exact lc_is (xs := L.map bT') rfl (by rw [List.length_map]; show _ ≤ 1000000; omega) (lcF_map fun f hf => st_yes rfl (op_is (meth_is rfl (co1 rfl) (joinT (g f hf))) rfl (addLine (g f hf))))
  refine out_rt (ret_is (meth_is rfl (co1 k1) ?_))
  show (strsD _).bind _ = _
  rw [strsD_back, Option.bind_some]
  have s := sum_le (k := 45) (ys := L.map fun f => mkS (factC f ++ [10])) fun y hy => by
    obtain ⟨f, hf, rfl⟩ := List.mem_map.mp hy
    have := factC_len (g f hf)
    rw [mkS_len, List.length_append, List.length_singleton]
    omega
  rw [List.length_map] at s
  have e : joinSz "" (L.map fun f => mkS (factC f ++ [10])) = true := by
    unfold joinSz
    have l0 : ("" : Str).length = 0 := by decide +kernel
    rw [l0]
    refine decide_eq_true ?_
    omega
  rw [e, if_pos rfl, join_em]
  congr 3
  rw [List.flatMap_map]
  rfl
theorem atI_last {α : Type} (A : List α) (x : α) : atI (A ++ [x]) (-1) = some x := by
  unfold atI ixN
  rw [List.length_append, List.length_singleton, if_neg (by decide), if_pos (by omega)]
  show (A ++ [x])[((-1 : Int) + ((A.length + 1 : Nat) : Int)).toNat]? = some x
  rw [show ((-1 : Int) + ((A.length + 1 : Nat) : Int)).toNat = A.length by omega]
  simp
theorem ix_last (A : List PyData) (x : PyData) : ixD (.list (A ++ [x])) (.int (-1)) = some x := atI_last A x
theorem cut_but (A : List PyData) (x : PyData) : cutD (A ++ [x]) none (some (-1)) = A := by
  unfold cutD
  rw [HT.sIx_none]
  have e : HT.sIx (A ++ [x]).length (A ++ [x]).length (some (-1)) = A.length := by
    unfold HT.sIx
    rw [List.length_append, List.length_singleton]
    show (if (-1 : Int) < 0 then ((-1 : Int) + ((A.length + 1 : Nat) : Int)).toNat else _) = _
    rw [if_pos (by decide)]
    omega
  rw [e, List.drop_zero, Nat.sub_zero, List.take_left' rfl]
theorem splitT {l : List Nat} (ll : l.length ≤ 1000000) {c : Nat} (hc : c < 256) {b : Str} (hb : b = ⟨#[c]⟩) : splitD (mkS l) [.str b] = some (.list (((splitL c l).map mkS).map PyData.str)) := by
  subst hb
  show (if ((⟨#[c]⟩ : Str).length == 0) = false ∧ (mkS l).length ≤ lim then some (PyData.list ((Txt.split (mkS l) ⟨#[c]⟩).map PyData.str)) else none) = _
  rw [if_pos ⟨rfl, by rw [mkS_len]; exact ll⟩, split_one _ _ hc, mkS_tl]
  rfl
theorem slL_but {f g : EF} {ρ : DEnv} {xs : List PyData} {j : Int} (hf : f ρ = some (.list xs)) (hg : g ρ = some (.int j)) : fSl slD f ofN (ofS g) ρ = some (.list (cutD xs none (some j))) := by
  unfold fSl ofN ofS
  rw [hf, hg]
  rfl
theorem if_t {c : TF} {a b : EF} {ρ : DEnv} {d : PyData} (h : c ρ = some true) (k : a ρ = some d) : fIf c a b ρ = some d := by
  unfold fIf
  rw [h]
  exact k
theorem F_lines {L : List (List Str)} (g : ∀ f ∈ L, FactG f) (l : L.length ≤ 60) : F_text_lines [.str (mkS (textC L))] = some (.list (L.map fun f => .str (mkS (factC f)))) := by
  rw [at_text_lines]
  unfold S_text_lines
  have tl := textC_len g
  have k1 : fMeth splitD (fV 0) (fCo (fC (.str "\n")) fN) [some (.d (.str (mkS (textC L)))), none] = some (.list ((L.map fun f => PyData.str (mkS (factC f))) ++ [.str (mkS [])])) := by
    refine meth_is rfl (co1 rfl) ((splitT (by omega) (by decide) nl_is).trans ?_)
    rw [split_text g, List.map_append, List.map_append, List.map_map, List.map_map]
    rfl
  generalize (L.map fun f => PyData.str (mkS (factC f))) = A at k1
  have c0 : (fOp ixD (fV 1) (fNeg (fC (.int 1)))) [some (.d (.str (mkS (textC L)))), some (.d (.list (A ++ [.str (mkS [])])))] = some (.str (mkS [])) := op_is rfl rfl (ix_last A (.str (mkS [])))
  have c1 : tfE (fOp eqD (fOp ixD (fV 1) (fNeg (fC (.int 1)))) (fC (.str ""))) [some (.d (.str (mkS (textC L)))), some (.d (.list (A ++ [.str (mkS [])])))] = some true := tb_is (op_is c0 rfl (by rw [eqD_str, decide_eq_true (show mkS [] = ("" : Str) from em_is.symm)]))
  have s1 : (fSl slD (fV 1) ofN (ofS (fNeg (fC (.int 1))))) [some (.d (.str (mkS (textC L)))), some (.d (.list (A ++ [.str (mkS [])])))] = some (.list A) := (slL_but rfl rfl).trans (by rw [cut_but])
  exact out_rt ((seq_nx (set_is k1)).trans (ret_is (if_t c1 s1)))
theorem F_cend {L : List (List Str)} {A : List PyData} (g : ∀ f ∈ L, FactG f) (hA : A.length = L.length) : F_check_end [.str (mkS (textC L)), .list A] = some .none := by
  rw [at_check_end]
  unfold S_check_end
  have key : (tfAnd (tfE (fOp (ltD fun i j => decide (j < i)) (fCall lenD (fCo (fV 1) fN)) (fC (.int 0)))) (tfNot (tfE (fMeth endsD (fV 0) (fCo (fC (.str "\n")) fN))))) [some (.d (.str (mkS (textC L)))), some (.d (.list A))] = some false := by
    have e1 : tfE (fOp (ltD fun i j => decide (j < i)) (fCall lenD (fCo (fV 1) fN)) (fC (.int 0))) [some (.d (.str (mkS (textC L)))), some (.d (.list A))] = some (decide ((0 : Int) < (A.length : Int))) := tb_is (op_is (call_is (co1 rfl) lenD_lst) rfl ltD_int)
    have e2 : tfE (fMeth endsD (fV 0) (fCo (fC (.str "\n")) fN)) [some (.d (.str (mkS (textC L)))), some (.d (.list A))] = some (Txt.endswith (mkS (textC L)) "\n") := tb_is (meth_is rfl (co1 rfl) rfl)
    cases L with
    | nil =>
      have z : A.length = 0 := hA
      rw [z] at e1
      unfold tfAnd
      rw [e1]
      rfl
    | cons f L =>
      have z : Txt.endswith (mkS (textC (f :: L))) "\n" = true := by
        rw [nl_is]
        have lst : ∀ M : List (List Str), M ≠ [] → ∃ B, textC M = B ++ [10] := fun M hM => by
          obtain ⟨N, x, rfl⟩ : ∃ N x, M = N ++ [x] := ⟨M.dropLast, M.getLast hM, (List.dropLast_concat_getLast hM).symm⟩
          refine ⟨textC N ++ factC x, ?_⟩
          unfold textC
          rw [List.flatMap_append, List.flatMap_cons, List.flatMap_nil, List.append_nil, List.append_assoc]
        obtain ⟨B, eB⟩ := lst (f :: L) (by simp)
        rw [eB]
        have ll : (mkS (B ++ [10])).length = B.length + 1 := by rw [mkS_len, List.length_append]; rfl
        have sub := (StrLaws.subAt_one (mkS (B ++ [10])) 10 B.length).mpr (by rw [mkS_tl]; simp)
        unfold Txt.endswith
        have l1 : (⟨#[10]⟩ : Str).length = 1 := rfl
        rw [l1, ll, Nat.add_sub_cancel, sub.2, decide_eq_true (by omega)]
        rfl
      rw [z] at e2
      unfold tfAnd
      rw [e1]
      cases decide ((0 : Int) < (A.length : Int)) with
      | false => rfl
      | true => exact tnot_is e2
  show ((fIfS _ fBad fNil) _).bind outF = _
  rw [ifS_f key]
  rfl
theorem addS {a b : List Nat} (h : a.length + b.length ≤ 1000000) : addD (.str (mkS a)) (.str (mkS b)) = some (.str (mkS (a ++ b))) := by
  show (if (mkS a).length + (mkS b).length ≤ lim then some (PyData.str (mkS a ++ mkS b)) else none) = _
  rw [if_pos (by rw [mkS_len, mkS_len]; exact h)]
  congr 2
  refine mkS_of ?_
  rw [app_tl, mkS_tl, mkS_tl]
theorem addS1 {a b : List Nat} {s : Str} (h : a.length + b.length ≤ 1000000) (e : s = mkS b) : addD (.str (mkS a)) (.str s) = some (.str (mkS (a ++ b))) := by
  rw [e]
  exact addS h
theorem gv_text {L : List (List Str)} (g : ∀ f ∈ L, FactG f) : Gv (45 * L.length) 0 (.str (mkS (textC L))) := by
  refine ⟨?_, ?_, by simp [PyData.depth]⟩
  · simp only [gvD, List.all_eq_true, decide_eq_true_eq]
    intro c hc
    rw [mkS_tl] at hc
    unfold textC at hc
    obtain ⟨f, hf, hc⟩ := List.mem_flatMap.mp hc
    rcases List.mem_append.mp hc with hc | hc
    · exact (factC_signs (fact_val (g f hf)) c hc).2
    · rw [List.mem_singleton.mp hc]
      decide
  · simp only [PyData.weight]
    show (mkS (textC L)).length ≤ _
    rw [mkS_len]
    exact textC_len g
theorem kinds_one {ks : List Kd} {vals : List Str} {L : List (List Str)} (nd : (ks.map (·.1)).Nodup) (h : ∀ f ∈ L, FcOk ks vals f) : OneW L := by
  intro a ha b hb e
  obtain ⟨x, ws, rfl, ⟨t, ht, rfl, l1⟩, _⟩ := h a ha
  obtain ⟨y, us, rfl, ⟨s, hs, rfl, l2⟩, _⟩ := h b hb
  have e' : t.1 = s.1 := by first | exact Option.some.inj e | exact e
  have key : ∀ {l : List Kd}, (l.map (·.1)).Nodup → ∀ t ∈ l, ∀ s ∈ l, t.1 = s.1 → t = s := fun {l} => by
    induction l with
    | nil => exact fun _ t ht => nomatch ht
    | cons z l ih =>
      intro nd t ht s hs e
      rw [List.map_cons, List.nodup_cons] at nd
      rcases List.mem_cons.mp ht with h1 | h1
      · rcases List.mem_cons.mp hs with h2 | h2
        · rw [h1, h2]
        · exact absurd (List.mem_map.mpr ⟨s, h2, by rw [← e, h1]⟩) nd.1
      · rcases List.mem_cons.mp hs with h2 | h2
        · exact absurd (List.mem_map.mpr ⟨t, h1, by rw [e, h2]⟩) nd.1
        · exact ih nd.2 t h1 s h2 e
  have z := key nd t ht s hs e'
  rw [List.length_cons, List.length_cons, l1, l2, z]
/-! ### reading -/
theorem fact_gv {f : List Str} (h : FactG f) : Gv 45 1 (bT' f) := by
  have v := fact_val h
  obtain ⟨r, ws, rfl, _, _, l4, _⟩ := h
  have z := Gvs.all (W := 8) (D := 0) (xs := (r :: ws).map PyData.str) fun x hx => by
    obtain ⟨y, hy, rfl⟩ := List.mem_map.mp hx
    exact Gv.val (v y hy)
  exact z.tup.mono (by rw [List.length_map, List.length_cons]; omega) (Nat.le_refl _)
theorem store_gv {L : List (List Str)} (h : ∀ f ∈ L, FactG f) : Gv (46 * L.length) 2 (stD L) := by
  have z := Gvs.all (W := 45) (D := 1) (xs := L.map bT') fun x hx => by
    obtain ⟨f, hf, rfl⟩ := List.mem_map.mp hx
    exact fact_gv (h f hf)
  rw [List.length_map] at z
  exact z.tup
/-- few unknowns -/
def FewU (L : List (List Str)) : Prop := ∃ us : List Str, us.length ≤ 5 ∧ ∀ f ∈ L, ∀ y ∈ f.drop 1, isUnk y = true → y ∈ us
theorem F_mbr {L : List (List Str)} (g : ∀ f ∈ L, FactG f) (adj : adjL L = true) (l : L.length ≤ 30) (hU : FewU L) : F_may_be_read [stD L] = some (.bool true) := by
  rw [at_may_be_read]
  unfold S_may_be_read
  obtain ⟨us, lu, hu⟩ := hU
  have gv := store_gv g
  have ok : okD (stD L) = true := gv.ok (by omega)
  obtain ⟨b, e1, e2⟩ := F_store ok
  have bt := e2.mpr ⟨L, rfl, g, adj⟩
  subst bt
  have okL : OkL L := ⟨by omega, fun f hf => (g f hf).okF⟩
  have lx : (uns L).length ≤ 5 := Nat.le_trans (sub_len (uns_nd L) fun x hx => by
    obtain ⟨f, hf, h1, h2⟩ := uns_mem.mp hx
    exact hu f hf x h1 h2) lu
  have ld : (ddU (unkL L)).length ≤ 5 := by
    have z : (uns L).length = (ddU (unkL L)).length := (sortU_perm _).length_eq
    omega
  have un := F_uns okL (by omega)
  have t2 : (fOp (ltD fun i j => decide (i ≤ j)) (fCall lenD (fCo (fV 0) fN)) (fC (.int 30))) [some (.d (stD L))] = some (.bool true) := by
    refine (op_is (call_is (co1 rfl) (lenD_tup (xs := L.map bT'))) rfl ltD_int).trans ?_
    rw [List.length_map, decide_eq_true (show ((L.length : Nat) : Int) ≤ 30 by omega)]
  have t3 : (fOp (ltD fun i j => decide (i ≤ j)) (fCall lenD (fCo (fCall F_unknowns (fCo (fV 0) fN)) fN)) (fC (.int 5))) [some (.d (stD L))] = some (.bool true) := by
    refine (op_is (call_is (co1 (call_is (co1 rfl) un)) (lenD_tup (xs := (uns L).map bS))) rfl ltD_int).trans ?_
    rw [List.length_map, decide_eq_true (show (((uns L).length : Nat) : Int) ≤ 5 by omega)]
  exact out_rt (ret_is (and_is (call_is (co1 rfl) e1) fun _ => and_is t2 fun _ => t3))
abbrev fltB : SF := (fIfS (tfOr (tfE (fOp (ltD fun i j => decide (j < i)) (fV 2) (fC (.int 4)))) (tfNot (tfE (fCall F_is_value (fCo (fV 3) fN))))) (fRet (fV 2)) fNil)
theorem tup0_is {ρ : DEnv} : fTup fN ρ = some (.tuple []) := by
  unfold fTup fN
  rw [Option.bind_some]
  exact if_pos (Nat.zero_le _)
theorem gT2_ {x y : PyData} {i j : Nat} {ρ : DEnv} : gT 2 (gsC (gN i) (gsC (gN j) gsN)) (.tuple [x, y]) ρ = some ((ρ.set i (some (.d x))).set j (some (.d y))) := rfl
theorem fault_loop (a b : Option Sv) : ∀ (ws : List Str) (k : Int) (v2' v3' : Option Sv), (∀ y ∈ ws, ValOk y) → k + ws.length ≤ 5 → ∃ v2 v3, forF (gT 2 (gsC (gN 2) (gsC (gN 3) gsN))) fltB (enumD k (ws.map PyData.str)) [a, b, v2', v3'] = some (.nx [a, b, v2, v3])
  | [], k, v2, v3, _, _ => ⟨v2, v3, rfl⟩
  | w :: ws, k, v2, v3, h, l => by
    rw [List.length_cons] at l
    have hw := h w List.mem_cons_self
    have okw : okD (.str w) = true := (Gv.val hw).ok (by decide)
    have t : (tfOr (tfE (fOp (ltD fun i j => decide (j < i)) (fV 2) (fC (.int 4)))) (tfNot (tfE (fCall F_is_value (fCo (fV 3) fN))))) [a, b, some (.d (.int k)), some (.d (.str w))] = some false := by
      refine (tor_is (x := false) ((tb_is (op_is rfl rfl ltD_int)).trans (by rw [decide_eq_false (by omega)])) fun _ => tnot_is (tb_is (call_is (co1 rfl) (F_value okw)))).trans ?_
      rw [val_of hw]
      rfl
    obtain ⟨u2, u3, e⟩ := fault_loop a b ws (k + 1) (some (.d (.int k))) (some (.d (.str w))) (fun y hy => h y (List.mem_cons_of_mem _ hy)) (by omega)
    refine ⟨u2, u3, ?_⟩
    have e0 : fltB [a, b, some (.d (.int k)), some (.d (.str w))] = some (.nx [a, b, some (.d (.int k)), some (.d (.str w))]) := (ifS_f t).trans rfl
    show (fltB [a, b, some (.d (.int k)), some (.d (.str w))]).bind _ = _
    rw [e0, Option.bind_some]
    exact e
theorem F_fault {L : List (List Str)} {f : List Str} (g : ∀ x ∈ L ++ [f], FactG x) (adj : adjL (L ++ [f]) = true) (l : (L ++ [f]).length ≤ 30) (hU : FewU (L ++ [f])) : F_fact_fault [stD L, bT' f] = some .none := by
  rw [at_fact_fault]
  unfold S_fact_fault
  have gf := g f (List.mem_append_right _ (List.mem_singleton.mpr rfl))
  have v := fact_val gf
  obtain ⟨r, ws, rfl, hr, w1, w4, hw⟩ := id gf
  have okr : okD (.str r) = true := (Gv.val (v r List.mem_cons_self)).ok (by decide)
  have t1 : (tfNot (tfE (fCall F_is_word (fCo (fOp ixD (fV 1) (fC (.int 0))) fN)))) [some (.d (stD L)), some (.d (bT' (r :: ws))), none, none] = some false := (tnot_is (tb_is (call_is (co1 (op_is rfl rfl ix0)) (F_word okr)))).trans (by
    show some (!wrdB r) = _
    rw [hr]
    rfl)
  obtain ⟨v2, v3, e2⟩ := fault_loop (some (.d (stD L))) (some (.d (bT' (r :: ws)))) ws 1 none none hw (by omega)
  have i2 : afEnS 1 (fSl slD (fV 1) (ofS (fC (.int 1))) ofN) [some (.d (stD L)), some (.d (bT' (r :: ws))), none, none] = some (enumD 1 (ws.map PyData.str)) := by
    unfold afEnS
    have z : (fSl slD (fV 1) (ofS (fC (.int 1))) ofN) [some (.d (stD L)), some (.d (bT' (r :: ws))), none, none] = some (.tuple ((((r :: ws).map PyData.str).drop 1))) := sl1 _
    rw [z]
    rfl
  have t3 : tfE (fOp eqD (fCall lenD (fCo (fV 1) fN)) (fC (.int 1))) [some (.d (stD L)), some (.d (bT' (r :: ws))), v2, v3] = some false := by
    refine (tb_is (op_is (call_is (co1 rfl) (lenD_tup (xs := (r :: ws).map PyData.str))) rfl eqD_int)).trans ?_
    rw [List.length_map, List.length_cons, decide_eq_false (show ¬ ((ws.length + 1 : Nat) : Int) = 1 by omega)]
  have t4 : tfE (fCall F_may_be_read (fCo (fOp addD (fV 0) (fTup (fCo (fV 1) fN))) fN)) [some (.d (stD L)), some (.d (bT' (r :: ws))), v2, v3] = some true := by
    refine tb_is (call_is (co1 (op_is rfl (tup1_is rfl) (z := stD (L ++ [r :: ws])) ?_)) (F_mbr g adj l hU))
    unfold stD
    rw [List.map_append]
    rw [List.length_append, List.length_singleton] at l
    exact addD_tup (by rw [List.length_map, List.length_singleton]; show _ ≤ 1000000; omega)
  refine out_rt ((seq_nx ((ifS_f t1).trans rfl)).trans ((seq_nx (for_is i2 e2)).trans ((seq_nx ((ifS_f t3).trans rfl)).trans (ret_is ?_))))
  unfold fIf
  rw [t4]
  rfl
theorem adj_take {L : List (List Str)} (ne : ∀ k ∈ L, k ≠ []) (h : adjL L = true) (k : Nat) : adjL (L.take k) = true := by
  obtain ⟨asc, one⟩ := (adj_asc ne).mp h
  exact (adj_asc fun x hx => ne x (List.mem_of_mem_take hx)).mpr ⟨asc.sublist (List.take_sublist k L), fun a ha b hb => one a (List.mem_of_mem_take ha) b (List.mem_of_mem_take hb)⟩
theorem back_map (f : List Str) : (f.map fun y => y.cps.toList).map mkS = f := by
  rw [List.map_map]
  refine (List.map_congr_left fun y _ => ?_).trans (List.map_id f)
  exact str_back y
theorem F_read {L : List (List Str)} (g : ∀ f ∈ L, FactG f) (adj : adjL L = true) (l : L.length ≤ 30) (hU : FewU L) : F_read_store [.str (mkS (textC L))] = some (stD L) := by
  rw [at_read_store]
  unfold S_read_store
  have ne : ∀ k ∈ L, k ≠ [] := fun k hk e => by
    obtain ⟨_, _, e3, _⟩ := g k hk
    rw [e] at e3
    cases e3
  obtain ⟨us, lu, hu⟩ := hU
  let T : Option Sv := some (.d (.str (mkS (textC L))))
  let N : Option Sv := some (.d (.list (L.map fun f => PyData.str (mkS (factC f)))))
  obtain ⟨r, e1, e2⟩ := forF_inv (g := gT 2 (gsC (gN 3) (gsC (gN 4) gsN))) (b := fSeq (fSet 5 (fCall tupD1 (fCo (fMeth splitD (fV 4) (fCo (fC (.str " ")) fN)) fN))) (fSeq (fSet 6 (fCall F_fact_fault (fCo (fV 2) (fCo (fV 5) fN)))) (fSeq (fIfS (tfE (fOp (isND true) (fV 6) (fC .none))) fBad fNil) (fSet 2 (fOp addD (fV 2) (fTup (fCo (fV 5) fN)))))))
    (xs := enumD 0 (L.map fun f => PyData.str (mkS (factC f)))) (R := fun r => ∃ v3 v4 v5 v6, r = .nx [T, N, some (.d (stD L)), v3, v4, v5, v6])
    (fun i ρ => ∃ v3 v4 v5 v6, ρ = [T, N, some (.d (stD (L.take i))), v3, v4, v5, v6])
    (by
      rintro i x ρ hx ⟨v3, v4, v5, v6, rfl⟩
      rw [enumD_at] at hx
      obtain ⟨y, hy, rfl⟩ := Option.map_eq_some_iff.mp hx
      rw [List.getElem?_map] at hy
      obtain ⟨f, hf, rfl⟩ := Option.map_eq_some_iff.mp hy
      have gf := g f (List.mem_of_getElem? hf)
      have v := fact_val gf
      have tk : L.take (i + 1) = L.take i ++ [f] := by
        rw [List.take_add_one, hf]
        rfl
      have il : i < L.length := (List.getElem?_eq_some_iff.mp hf).1
      have sub : ∀ x ∈ L.take i ++ [f], x ∈ L := fun x hx => by
        rw [← tk] at hx
        exact List.mem_of_mem_take hx
      have fl : F_fact_fault [stD (L.take i), bT' f] = some .none := F_fault (fun x hx => g x (sub x hx)) (by rw [← tk]; exact adj_take ne adj _) (by rw [List.length_append, List.length_take, List.length_singleton]; omega) ⟨us, lu, fun x hx => hu x (sub x hx)⟩
      have k1 : (fCall tupD1 (fCo (fMeth splitD (fV 4) (fCo (fC (.str " ")) fN)) fN)) [T, N, some (.d (stD (L.take i))), some (.d (.int (0 + (i : Int)))), some (.d (.str (mkS (factC f)))), v5, v6] = some (bT' f) := by
        have fc := factC_len gf
        refine call_is (co1 (meth_is rfl (co1 rfl) (splitT (by omega) (by decide) sp_is))) ?_
        obtain ⟨r, ws, rfl, _⟩ := id gf
        rw [split_fact fun y hy c hc => (val_signs (v y hy) c hc).2.1, back_map]
        rfl
      refine ⟨_, gT2_, .nx [T, N, some (.d (stD (L.take (i + 1)))), some (.d (.int (0 + (i : Int)))), some (.d (.str (mkS (factC f)))), some (.d (bT' f)), some (.d .none)], ?_, _, _, _, _, rfl⟩
      refine (seq_nx (set_is k1)).trans ((seq_nx (set_is (call_is (co_is rfl (co1 rfl)) fl))).trans ((seq_nx ((ifS_f (tb_is (op_is rfl rfl rfl))).trans rfl)).trans ?_))
      rw [set_is (d := stD (L.take (i + 1))) (op_is rfl (tup1_is rfl) ?_)]
      · rfl
      · rw [tk]
        unfold stD
        rw [List.map_append]
        exact addD_tup (by rw [List.length_map, List.length_take, List.length_singleton]; show _ ≤ 1000000; omega))
    (by
      rintro ρ ⟨v3, v4, v5, v6, rfl⟩
      rw [enumD_len, List.length_map, List.take_length]
      exact ⟨_, _, _, _, rfl⟩)
    (ρ := [T, N, some (.d (.tuple [])), none, none, none, none]) ⟨none, none, none, none, rfl⟩
  obtain ⟨v3, v4, v5, v6, rfl⟩ := e2
  have ln := F_lines g (by omega)
  have ce := F_cend (A := L.map fun f => PyData.str (mkS (factC f))) g (by rw [List.length_map])
  refine out_rt ((seq_nx (set_is (call_is (co1 rfl) ln))).trans ((seq_nx (ρ' := [T, N, some (.d (.tuple [])), none, none, none, none]) (set_is (tup0_is))).trans ((seq_nx (for_is rfl e1)).trans ((seq_nx (ρ' := [T, N, some (.d (stD L)), v3, v4, v5, v6]) ?_).trans (ret_is rfl)))))
  unfold fExpr
  rw [call_is (co_is rfl (co1 rfl)) ce]
  rfl
end My

set_option linter.unusedSimpArgs false
set_option linter.unusedVariables false
/-! JO: the menu of odd values -/
namespace My
open PySem PySem.Spec PyProof.Rows L2
def odds1 : List PyData := [.none, .bool true, .bool false, .int 0, .int 1, .int 7, .str "", .str "a", .str "A", .str "?", .str "?0", .str "?1", .str "?01", .str "?123456", .str "a1", .str "aB", .str "abcdefghi", .str "a b"]
def odds2 : List PyData := [.tuple [], .list [], .tuple [.str "a"], .tuple [.str "a", .str "b"], .list [.str "a", .str "b"], .tuple [.str "a", .str "?1"], .tuple [.str "a", .str "A"], .tuple [.tuple [.str "a", .str "b"]], .tuple [.str "?1", .str "a"]]
def odds3 : List PyData := [.tuple [.str "a", .tuple [.str "b"]], .tuple [.str "a", .str "b", .str "c", .str "d", .str "e", .str "f"], .tuple [.str "a", .int 1], .str "zz", .str "?x", .tuple [.str "", .str "a"]]
/-- the menu of odd values -/
def odds : List PyData := (odds1 ++ odds2) ++ odds3
def W_odd : List PyData → M PyData := fun ds n Q => ds = [] ∧ n < 1073741824 ∧ ∀ y ∈ odds, Q y (n + 1)
end My

/-! JY: steps through what draws -/
namespace My
open PySem PySem.Spec PyProof.Rows L2
theorem callW0 {i : Nat} {W : List PyData → M PyData} {ρ : DEnv} {n : Nat} {Q : PyData → Nat → Prop} (h : ρ[i]? = some (some .dk)) (q : W [] n Q) : eCallW i W aN ρ n Q := ⟨h, q⟩
theorem callW1 {i : Nat} {W : List PyData → M PyData} {f : EF} {ρ : DEnv} {n : Nat} {x : PyData} {Q : PyData → Nat → Prop} (h : ρ[i]? = some (some .dk)) (hf : f ρ = some x) (q : W [x] n Q) : eCallW i W (aC (pur f) aN) ρ n Q := ⟨h, x, hf, q⟩
theorem callW2 {i : Nat} {W : List PyData → M PyData} {f g : EF} {ρ : DEnv} {n : Nat} {x y : PyData} {Q : PyData → Nat → Prop} (h : ρ[i]? = some (some .dk)) (hf : f ρ = some x) (hg : g ρ = some y) (q : W [x, y] n Q) : eCallW i W (aC (pur f) (aC (pur g) aN)) ρ n Q := ⟨h, x, hf, y, hg, q⟩
theorem callW3 {i : Nat} {W : List PyData → M PyData} {f g k : EF} {ρ : DEnv} {n : Nat} {x y z : PyData} {Q : PyData → Nat → Prop} (h : ρ[i]? = some (some .dk)) (hf : f ρ = some x) (hg : g ρ = some y) (hk : k ρ = some z) (q : W [x, y, z] n Q) : eCallW i W (aC (pur f) (aC (pur g) (aC (pur k) aN))) ρ n Q := ⟨h, x, hf, y, hg, z, hk, q⟩
theorem wSeqP {f : SF} {b : SD} {ρ ρ' : DEnv} {n : Nat} {E : EndsD} (hf : f ρ = some (.nx ρ')) (q : b ρ' n E) : sSeq (purS f) b ρ n E := ⟨.nx ρ', hf, q⟩
theorem wSetS {i : Nat} {e : ED} {b : SD} {ρ : DEnv} {n : Nat} {E : EndsD} (q : e ρ n fun x n1 => b (ρ.set i (some (.d x))) n1 E) : sSeq (sSet i e) b ρ n E := q
theorem wRet {e : ED} {ρ : DEnv} {n : Nat} {E : EndsD} (q : e ρ n fun x n1 => E.rt x n1) : sRet e ρ n E := q
theorem wRetP {f : SF} {ρ : DEnv} {n : Nat} {E : EndsD} {x : PyData} (hf : f ρ = some (.rt x)) (q : E.rt x n) : purS f ρ n E := ⟨.rt x, hf, q⟩
theorem wOp {F : PyData → PyData → Option PyData} {a b : ED} {ρ : DEnv} {n : Nat} {Q : PyData → Nat → Prop} (q : a ρ n fun x n1 => b ρ n1 fun y n2 => ∃ z, F x y = some z ∧ Q z n2) : eOp F a b ρ n Q := q
theorem wPur {f : EF} {ρ : DEnv} {n : Nat} {x : PyData} {Q : PyData → Nat → Prop} (hf : f ρ = some x) (q : Q x n) : pur f ρ n Q := ⟨x, hf, q⟩
theorem wTup1 {e : ED} {ρ : DEnv} {n : Nat} {Q : PyData → Nat → Prop} (q : e ρ n fun x n1 => Q (.tuple [x]) n1) (mono : ∀ {Q' : PyData → Nat → Prop}, (e ρ n fun x n1 => Q (.tuple [x]) n1) → (∀ x n1, Q (.tuple [x]) n1 → Q' x n1) → e ρ n Q') : eTup (aC e aN) ρ n Q := mono q fun x n1 q => ⟨by show 1 ≤ lim; decide, q⟩
theorem one_le_lim : 1 ≤ lim := by decide
theorem neL_nil {xs : List PyData} (h : ShN 60 (.list xs)) : neD (.list xs) (.list []) = some (.bool (!xs.isEmpty)) := by
  unfold neD
  rw [eqD_deep (h.mono (by decide)).sh (by decide +kernel) fun a b e _ => ⟨_, .inl e.symm⟩]
  cases xs <;> rfl
theorem nats_sh (l : List Nat) : ShN 60 (.list (l.map fun (j : Nat) => PyData.int (j : Int))) := ShN.lst.mpr fun x hx => by
  obtain ⟨j, _, rfl⟩ := List.mem_map.mp hx
  exact ⟨rfl, Nat.zero_le _⟩
theorem range_nat (m : Nat) : rangeD (m : Int) = (List.range m).map fun (j : Nat) => PyData.int (j : Int) := by
  unfold rangeD
  rw [Int.toNat_natCast]
  exact List.map_congr_left fun j _ => congrArg PyData.int (Int.zero_add _)
theorem slT_to {f g : EF} {ρ : DEnv} {xs : List PyData} {j : Nat} (hf : f ρ = some (.tuple xs)) (hg : g ρ = some (.int (j : Int))) : fSl slD f ofN (ofS g) ρ = some (.tuple (xs.take j)) := by
  unfold fSl ofN ofS
  rw [hf, hg]
  show some (PyData.tuple (cutD xs none (some (j : Int)))) = _
  rw [cut_to]
theorem slT_from {f g : EF} {ρ : DEnv} {xs : List PyData} {j : Nat} (hf : f ρ = some (.tuple xs)) (hg : g ρ = some (.int (j : Int))) : fSl slD f (ofS g) ofN ρ = some (.tuple (xs.drop j)) := by
  unfold fSl ofN ofS
  rw [hf, hg]
  show some (PyData.tuple (cutD xs (some (j : Int)) none)) = _
  rw [cut_from]
theorem succ_is {f : EF} {ρ : DEnv} {j : Nat} (hf : f ρ = some (.int (j : Int))) : fOp addD f (fC (.int 1)) ρ = some (.int ((j + 1 : Nat) : Int)) := op_is hf rfl rfl
theorem addT {a b : List PyData} (h : a.length + b.length ≤ 1000000) : addD (.tuple a) (.tuple b) = some (.tuple (a ++ b)) := if_pos h
theorem addL {a b : List PyData} (h : a.length + b.length ≤ 1000000) : addD (.list a) (.list b) = some (.list (a ++ b)) := if_pos h
theorem Gvs.len {W D : Nat} {ds : List PyData} (h : Gvs W D ds) : ds.length ≤ W := Nat.le_trans (wt_len ds) h.wt
theorem odds_gv : ∀ y ∈ odds, Gv 20 2 y := by
  have h : odds.all (fun y => gvD y && decide (y.weight ≤ 20) && decide (y.depth ≤ 2)) = true := by decide +kernel
  intro y hy
  have z := List.all_eq_true.mp h y hy
  simp only [Bool.and_eq_true, decide_eq_true_eq] at z
  exact ⟨z.1.1, z.1.2, z.2⟩
/-- put at a place, left out at a place -/
theorem wt_split {xs : List PyData} {j : Nat} {x : PyData} (h : xs[j]? = some x) : PyData.weightAll (xs.take j) + (x.weight + 1) + PyData.weightAll (xs.drop (j + 1)) = PyData.weightAll xs := by
  have e : xs = xs.take j ++ x :: xs.drop (j + 1) := by
    obtain ⟨l, e⟩ := List.getElem?_eq_some_iff.mp h
    rw [← e, ← List.drop_eq_getElem_cons l, List.take_append_drop]
  conv => rhs; rw [e]
  rw [wt_app]
  simp only [PyData.weightAll]
  omega
theorem wt_two (xs : List PyData) (j : Nat) : PyData.weightAll (xs.take j) + PyData.weightAll (xs.drop j) = PyData.weightAll xs := by
  rw [← wt_app, List.take_append_drop]
theorem w_oddIn {a b : EF} {ρ : DEnv} {n : Nat} {Q : PyData → Nat → Prop} {A B : List PyData} (dk : ρ[0]? = some (some .dk)) (ha : a ρ = some (.tuple A)) (hb : b ρ = some (.tuple B)) (l : A.length + B.length ≤ 900000) (hn : n < 1073741824) (q : ∀ o ∈ odds, Q (.tuple ((A ++ [o]) ++ B)) (n + 1)) :
    eOp addD (eOp addD (pur a) (eTup (aC (eCallW 0 W_odd aN) aN))) (pur b) ρ n Q := by
  refine ⟨_, ha, dk, rfl, hn, fun y hy => ⟨one_le_lim, _, addT (by rw [List.length_singleton]; omega), _, hb, _, addT (by rw [List.length_append, List.length_singleton]; omega), q y hy⟩⟩
theorem w_bentIn {D : Nat} {a b f : EF} {ρ : DEnv} {n : Nat} {Q : PyData → Nat → Prop} {x : PyData} {A B : List PyData} {W : Nat → List PyData → M PyData} (dk : ρ[0]? = some (some .dk)) (ha : a ρ = some (.tuple A)) (hf : f ρ = some x) (hb : b ρ = some (.tuple B)) (l : A.length + B.length ≤ 900000) (q : W D [x] n fun y n' => Q (.tuple ((A ++ [y]) ++ B)) n')
    (mono : ∀ {Q1 Q2 : PyData → Nat → Prop}, (∀ y n', Q1 y n' → Q2 y n') → W D [x] n Q1 → W D [x] n Q2) :
    eOp addD (eOp addD (pur a) (eTup (aC (eCallW 0 (W D) (aC (pur f) aN)) aN))) (pur b) ρ n Q :=
  ⟨_, ha, dk, x, hf, mono (fun y n' q => ⟨one_le_lim, _, addT (by rw [List.length_singleton]; omega), _, hb, _, addT (by rw [List.length_append, List.length_singleton]; omega), q⟩) q⟩
theorem wLstC {w : ED} {ws : AD} {ρ : DEnv} {n : Nat} {Q : PyData → Nat → Prop} (q : w ρ n fun x n1 => ws ρ n1 fun xs n2 => (x :: xs).length ≤ lim ∧ Q (.list (x :: xs)) n2) : eLst (aC w ws) ρ n Q := q
theorem lm_le {k : Nat} (h : k ≤ 1000000) : k ≤ lim := h
theorem last_is {f : EF} {ρ : DEnv} {xs : List PyData} (hf : f ρ = some (.tuple xs)) : ∃ ys, fSl slD f (ofS (fNeg (fC (.int 1)))) ofN ρ = some (.tuple ys) ∧ ys.Sublist xs := by
  unfold fSl ofN ofS fNeg fC
  rw [hf]
  exact ⟨_, rfl, (List.take_sublist _ _).trans (List.drop_sublist _ _)⟩
end My

/-! NM: a, b = x, y -/
namespace My
open PySem PySem.Spec PyProof.Rows L2
section
variable {X : Cx}
def sPar2 (i j : Nat) (ws : AD) : SD := fun ρ n E => ws ρ n fun xs n1 => ∃ x y, xs = [x, y] ∧ E.nx ((ρ.set i (some (.d x))).set j (some (.d y))) n1
theorem qs_par2 {i j : Nat} {x y : Str} {a b : Expr} {ws : AD} {px py pt pos : Pos} {kt k2 pt2} (hc : X.calm = true) (hN : X.N.Nodup) (hi : X.N[i]? = some x) (hj : X.N[j]? = some y) (hij : i ≠ j)
    (hx : X.env.scope.names.lookup x = some .local) (hy : X.env.scope.names.lookup y = some .local) (ha : PDA X [a, b] ws)
    (hw : swappedStores [.Tuple [.Name x px, .Name y py] kt pt] (.Tuple [a, b] k2 pt2) X.env = pure (some [x, y]))
    (hs : swapsWithSole [.Tuple [.Name x px, .Name y py] kt pt] (.Tuple [a, b] k2 pt2) pos.line X.env = pure false := by rfl) :
    PSD X (.Assign [.Tuple [.Name x px, .Name y py] kt pt] (.Tuple [a, b] k2 pt2) pos) (sPar2 i j ws) := qs_mk (ps_par hc hN hi hj hij hx hy ha hw hs) fun {dk OB H0 O H σ ρ n E D} S hq k => rda_W S hq fun vs ds H1 n1 f1 d1 r1 ⟨dx, dy, e, q1⟩ => by
  subst e
  cases r1 with
  | cons r1 r2 =>
  cases r2 with
  | cons r2 r3 =>
  cases r3
  exact ⟨_, _, rfl, k.nx _ _ _ _ _ (((S.step f1 d1).set r1).set r2) (S.hid f1) q1⟩
def sPar3K (i j l : Nat) (wa wb : ED) : SD := fun ρ n E => wa ρ n fun x n1 => wb ρ n1 fun y n2 => E.nx (((ρ.set i (some (.k []))).set j (some (.d x))).set l (some (.d y))) n2
end
def fPar2 (i j : Nat) (a : AF) : SF := fun ρ => (a ρ).bind fun xs => match xs with
  | [x, y] => some (.nx ((ρ.set i (some (.d x))).set j (some (.d y))))
  | _ => none
theorem is_par2 {i j : Nat} {w : AD} {a : AF} (h : IsA w a) : IsS (sPar2 i j w) (fPar2 i j a) := fun ρ n E r e q => by
  obtain ⟨xs, e1, e⟩ := bind_is e
  match xs, e with
  | [x, y], e =>
    cases e
    exact h ρ n _ _ e1 ⟨x, y, rfl, q⟩
end My

set_option linter.unusedSimpArgs false
set_option linter.unusedVariables false
/-! JG2: steps of a law's turn -/
namespace My
open PySem PySem.Spec PyProof.Rows L2
theorem or_ff {f g : TF} {ρ : DEnv} (h : f ρ = some false) (k : g ρ = some false) : tfOr f g ρ = some false := by
  unfold tfOr
  rw [h]
  exact k
theorem tfE_is {e : EF} {ρ : DEnv} {b : Bool} (h : e ρ = some (.bool b)) : tfE e ρ = some b := by
  unfold tfE
  rw [h]
  rfl
theorem repr_is {f : EF} {ρ : DEnv} {x : PyData} (h : f ρ = some x) (ok : reprOk x) : fRepr f ρ = some (.str x.shown) := by
  unfold fRepr
  rw [h]
  exact if_pos ok
theorem ne_ff {f g : EF} {ρ : DEnv} {z : Str} (h : f ρ = some (.str z)) (k : g ρ = some (.str z)) : tfE (fOp neD f g) ρ = some false := by
  refine tfE_is (op_is h k ?_)
  rw [neD_str, decide_eq_true rfl]
  rfl
theorem slL_to {f g : EF} {ρ : DEnv} {xs : List PyData} {j : Nat} (hf : f ρ = some (.list xs)) (hg : g ρ = some (.int (j : Int))) : fSl slD f ofN (ofS g) ρ = some (.list (xs.take j)) := by
  unfold fSl ofN ofS
  rw [hf, hg]
  show some (PyData.list (cutD xs none (some (j : Int)))) = _
  rw [cut_to]
theorem co3 {a b c : EF} {ρ : DEnv} {x y z : PyData} (h1 : a ρ = some x) (h2 : b ρ = some y) (h3 : c ρ = some z) : fCo a (fCo b (fCo c fN)) ρ = some [x, y, z] := co_is h1 (co_is h2 (co1 h3))
theorem last_c {f : EF} {ρ : DEnv} {xs : List PyData} (hf : f ρ = some (.tuple xs)) : fSl slD f (ofS (fNeg (fC (.int 1)))) ofN ρ = some (.tuple (cutD xs (some (-1)) none)) := by
  unfold fSl ofN ofS fNeg fC
  rw [hf]
  rfl
theorem cut_sub (xs : List PyData) (a b : Option Int) : (cutD xs a b).Sublist xs := (List.take_sublist _ _).trans (List.drop_sublist _ _)
theorem yes_is {ρ : DEnv} {n : Nat} {a b : Nat → Prop} (q : a n) : bYes ρ n fun t n1 => if t = true then a n1 else b n1 := show (if true = true then a n else b n) from (if_pos rfl).mpr q
theorem repr_bool (b : Bool) : reprOk (.bool b) := by cases b <;> decide
end My

set_option linter.unusedSimpArgs false
set_option linter.unusedVariables false
/-! Y__law_one: a def that draws -/
namespace My
open PySem PySem.Spec PyProof.Rows L2
section
variable {P : Program} {w : World} {K : PySem.W.Frag} {mg : Str → Option Value} {base : Heap}
theorem sc__law_one : FnScope ["_law_deck_here", "_law_items"] ["_law_deck_here", "_law_items"] (defScope sOne) := ⟨rfl, rfl, rfl, by decide +kernel, rfl, by decide +kernel, by decide +kernel⟩
theorem okW__law_one {f : Addr} {fd : FuncData} (F : Fun K "_law_one" "_law_one" sOne f fd) (z_len : mg "len" = none) {f__law_draw : Addr} {d__law_draw : FuncData} (G__law_draw : FnOk P w K mg base CX0 1 f__law_draw d__law_draw ["_law_deck_here", "_law_many"] (spW K W_draw)) (m__law_draw : mg "_law_draw" = some (.ref f__law_draw)) (k__law_draw : PySem.W.keepIn K (.ref f__law_draw) = true) (b__law_draw : Binds K d__law_draw ["_law_deck_here", "_law_many"] []) : FnOk P w K mg base CX0 2 f fd ["_law_deck_here", "_law_items"] (spW K W_one) :=
  fn_okW F sc__law_one (fun cdv A outer s H E hr => by
    have hu := hr.units
    have hv := Room.u65 hr
    exact (qss_one (qs_ret (qd_ix ix_seq pu_ix (qd_pur (qdv 1) is_v) (qd_callW G__law_draw (hr.mono (by decide)) rfl m__law_draw k__law_draw b__law_draw pass0 (pv 0) (qda_cons (qd_pur (qd_callB cr_lenU pu_len (by rfl) z_len PySem.boot_len (qda_cons (qdv 1) qda_nil)) (is_call (is_co is_v is_n))) qda_nil)))))) (by
    intro ds n Qd h
    obtain ⟨xs, x, rfl, _⟩ := h
    rfl
    ) (by
    intro ds n Qd h
    obtain ⟨xs, x, rfl, hi, nd, ne, l1, l2, q⟩ := h
    simp only [sSeq, sIf, sRet, sSet, sAsg, sNil, bNot, bT, bAnd, bOr, bTr, eIsi, eV, eC, eCall, eOp, eChain, eAnd, eOr, eNot, eIf, eTup, eLst, eSl, eLc, aC, aN, iV, iR, startW, endW, startL, endL, oN, oS, bYes, eSort, eLc2, twoW, appW, putW, eSortSet, sNewL, sGive, sFor, sApp, sExt, sNewK, sMakeK, sPutK, sGiveK, eCallW, eRepr, iZ, eRev, pur, purA, purT, purS, Fl.ends, Option.some.injEq, Sv.d.injEq, Sv.l.injEq, Sv.k.injEq, exists_eq_left', exists_eq_left, PyData.bool.injEq, PyData.int.injEq, PyData.tuple.injEq, PyData.list.injEq, true_and, and_true, fC, fV, fN, fCo, fTup, fLst, fOp, fCall, tfE, tfTr, tfYes, tfNot, tfAnd, tfOr, fAnd, fOr, fNot, fIf, ofN, ofS, fSl, fChain, fIsi, afV, afR, afZ, afZk, zipKF, fLc, fLc2, fTwo, fOne, fSort, fSortSet, fGet, fOIn, fOGet, fOLen, fOIx, fRepr, fRev, fMeth, fNil, fSeq, fSet, fAsg, fRet, fIfS, fFor, fNewL, fApp, fExt, fGive, fNewK, fMakeK, fPutK, fGiveK, outF, envF, fnF, stF, stB, gN, gT, gsC, gsN, wipeD, getF, ownK, ownL, asB, asK, asL, asS, List.getElem?_cons_zero, List.getElem?_cons_succ, Option.bind_some, Option.map_some, Option.bind_none, Option.map_none, List.map_cons, List.map_nil, List.cons_append, List.nil_append, List.set_cons_zero, List.set_cons_succ, List.length_cons, List.length_nil, List.replicate_succ, List.replicate_zero, Nat.reduceSub, Nat.reduceAdd, Nat.reduceEqDiff, if_true, Bool.true_eq_false, Bool.false_eq_true, if_false, reduceIte, noDict, lenD_tup, lenD_lst, ltD_int, items_tup, items_lst, items_str, eqD_str, eqD_int, neD_str, neD_int, addD_int, subD_int, slD_lst, slD_tup, tuple_lst, tuple_tup, list_lst, list_tup, tyS_str, tyS_tup]
    obtain ⟨e1, e2⟩ := items_len hi l1
    have l0 := List.length_pos_iff.mpr ne
    have l3 : xs.length ≤ 1000000 := l1
    refine ⟨_, e1, draw_nat (by omega) (by omega) l2 fun c hc => ?_⟩
    have lc : c < xs.length := by omega
    exact ⟨xs[c], e2 c _ (List.getElem?_eq_getElem lc), q _ (List.getElem_mem lc)⟩
    )

end
end My

set_option linter.unusedSimpArgs false
set_option linter.unusedVariables false
set_option maxHeartbeats 4000000
/-! XL28: the law's run -/
namespace My
open PySem PySem.Spec PyProof.Rows L2
section
variable {P : Program} {w : World} {K : PySem.W.Frag} {mg : Str → Option Value} {base : Heap}
theorem sc_law : FnScope ["_law_script", "_law_deck_here", "_law_turn", "_law_values", "_law_store_here", "_law_held", "_law_text", "_law_fact"] ["_law_script"] (defScope sLaw) := ⟨rfl, rfl, rfl, by decide +kernel, rfl, by decide +kernel, by decide +kernel⟩
theorem okL_law {f : Addr} {fd : FuncData} (F : Fun K "law" "law" sLaw f fd) (z_range : mg "range" = none) (z_repr : mg "repr" = none) (z_list : mg "list" = none) {f__law_deck : Addr} {d__law_deck : FuncData} (G__law_deck : FnOk P w K mg base CX0 1 f__law_deck d__law_deck ["_law_script"] (spDk K)) (m__law_deck : mg "_law_deck" = some (.ref f__law_deck)) (k__law_deck : PySem.W.keepIn K (.ref f__law_deck) = true) (b__law_deck : Binds K d__law_deck ["_law_script"] []) {f__law_pool : Addr} {d__law_pool : FuncData} (G__law_pool : FnOk P w K mg base CX0 4 f__law_pool d__law_pool ["_law_deck_here", "_law_many"] (spW K W_pool)) (m__law_pool : mg "_law_pool" = some (.ref f__law_pool)) (k__law_pool : PySem.W.keepIn K (.ref f__law_pool) = true) (b__law_pool : Binds K d__law_pool ["_law_deck_here", "_law_many"] []) {f__law_unknowns : Addr} {d__law_unknowns : FuncData} (G__law_unknowns : FnOk P w K mg base CX0 2 f__law_unknowns d__law_unknowns ["_law_deck_here", "_law_many"] (spW K W_unks)) (m__law_unknowns : mg "_law_unknowns" = some (.ref f__law_unknowns)) (k__law_unknowns : PySem.W.keepIn K (.ref f__law_unknowns) = true) (b__law_unknowns : Binds K d__law_unknowns ["_law_deck_here", "_law_many"] []) {f__law_store : Addr} {d__law_store : FuncData} (G__law_store : FnOk P w K mg base CX0 3 f__law_store d__law_store ["_law_deck_here", "_law_kinds_here", "_law_values", "_law_many"] (spW K W_stW)) (m__law_store : mg "_law_store" = some (.ref f__law_store)) (k__law_store : PySem.W.keepIn K (.ref f__law_store) = true) (b__law_store : Binds K d__law_store ["_law_deck_here", "_law_kinds_here", "_law_values", "_law_many"] []) {f__law_kinds : Addr} {d__law_kinds : FuncData} (G__law_kinds : FnOk P w K mg base CX0 5 f__law_kinds d__law_kinds ["_law_deck_here"] (spW K W_kinds)) (m__law_kinds : mg "_law_kinds" = some (.ref f__law_kinds)) (k__law_kinds : PySem.W.keepIn K (.ref f__law_kinds) = true) (b__law_kinds : Binds K d__law_kinds ["_law_deck_here"] []) {f__law_one : Addr} {d__law_one : FuncData} (G__law_one : FnOk P w K mg base CX0 2 f__law_one d__law_one ["_law_deck_here", "_law_items"] (spW K W_one)) (m__law_one : mg "_law_one" = some (.ref f__law_one)) (k__law_one : PySem.W.keepIn K (.ref f__law_one) = true) (b__law_one : Binds K d__law_one ["_law_deck_here", "_law_items"] []) {f_store_text : Addr} {d_store_text : FuncData} (G_store_text : FnOk P w K mg base CX0 1 f_store_text d_store_text ["store"] (spP K F_store_text)) (m_store_text : mg "store_text" = some (.ref f_store_text)) (k_store_text : PySem.W.keepIn K (.ref f_store_text) = true) (b_store_text : Binds K d_store_text ["store"] []) {f_read_store : Addr} {d_read_store : FuncData} (G_read_store : FnOk P w K mg base CX0 7 f_read_store d_read_store ["text"] (spP K F_read_store)) (m_read_store : mg "read_store" = some (.ref f_read_store)) (k_read_store : PySem.W.keepIn K (.ref f_read_store) = true) (b_read_store : Binds K d_read_store ["text"] []) : RunG P w K mg base 8 f fd ["_law_script"] (spLaw K) :=
  law_ok (by decide) F sc_law (fun cdv A outer s H E hgu hr => by
    have hu := hr.units
    have hv := Room.u65 hr
    exact ⟨_, _, rfl, ps_set (i := 1) sc_law.nd rfl (Or.inl rfl) (pe_call G__law_deck (hr.mono (by decide)) rfl m__law_deck k__law_deck b__law_deck .nil pass0 (pa_cons (pv 0) pa_nil)), (qss_cons (qs_for PassesOwn.never rfl (qdi_pur (qdi_range (by rfl) z_range (qda_cons qd_int qda_nil)) (is_afR (is_co is_c is_n))) (qdg_name (i := 2) sc_law.nd rfl (Or.inl rfl)) (qss_cons (qs_set (i := 3) sc_law.nd rfl (Or.inl rfl) (qd_op op_addU pu_add (qd_callW G__law_pool (hr.mono (by decide)) rfl m__law_pool k__law_pool b__law_pool pass0 (pv 1) (qda_cons (qd_pur qd_int is_c) qda_nil)) (qd_callW G__law_unknowns (hr.mono (by decide)) rfl m__law_unknowns k__law_unknowns b__law_unknowns pass0 (pv 1) (qda_cons (qd_pur qd_int is_c) qda_nil))))
      (qss_cons (qs_set (i := 4) sc_law.nd rfl (Or.inl rfl) (qd_callW G__law_store (hr.mono (by decide)) rfl m__law_store k__law_store b__law_store pass0 (pv 1) (qda_cons (qd_callW G__law_kinds (hr.mono (by decide)) rfl m__law_kinds k__law_kinds b__law_kinds pass0 (pv 1) qda_nil) (qda_cons (qd_pur (qdv 3) is_v) (qda_cons (qd_callW G__law_one (hr.mono (by decide)) rfl m__law_one k__law_one b__law_one pass0 (pv 1) (qda_cons (qd_pur (qdk_lst (qdk_cons qd_int (qdk_cons qd_int (qdk_cons qd_int (qdk_cons qd_int qdk_nil))))) is_c) qda_nil)) qda_nil)))))
      (qss_cons (qs_pur (qs_par2 (i := 5) (j := 6) rfl sc_law.nd rfl rfl (by decide) rfl rfl (qda_cons (qd_repr hgu hu (by rfl) z_repr (qdv 4)) (qda_cons qd_str qda_nil)) rfl) (is_par2 (is_co (is_repr is_v) (is_co is_c is_n))))
      (qss_cons (qs_pur (qs_for PassesOwn.never rfl (qdi_val (qdv 4)) (qdg_name (i := 7) sc_law.nd rfl (Or.inl rfl)) (qss_one (qs_set (i := 6) sc_law.nd rfl (Or.inl rfl) (qd_op op_addU pu_add (qd_op op_addU pu_add (qdv 6) (qd_mk (pe_bm PySem.F.plainAttrs_str PySem.F.slot_str_join PySem.F.type_str_join mt_join qd_str (qda_cons (qd_callTy call_list_of pu_list (by rfl) z_list boot_list (qda_cons (qdv 7) qda_nil)) qda_nil)) (rd_meth pu_join))) qd_str)))) (is_for (is_afV is_v) (is_set (is_op (is_op is_v (is_meth is_c (is_co (is_call (is_co is_v is_n)) is_n))) is_c))))
      (qss_one (qs_pur (qs_if (qdt_W (qdw_or (qdt_cmp (op_neU hu) pu_ne (qd_repr hgu hu (by rfl) z_repr (qd_call G_store_text (hr.mono (by decide)) rfl m_store_text k_store_text b_store_text pass0 (qda_cons (qdv 4) qda_nil))) (qd_repr hgu hu (by rfl) z_repr (qdv 6)) (nomark _)) (qdw_or (qdt_cmp (op_neU hu) pu_ne (qd_repr hgu hu (by rfl) z_repr (qd_call G_read_store (hr.mono (by decide)) rfl m_read_store k_read_store b_read_store pass0 (qda_cons (qdv 6) qda_nil))) (qdv 5) (nomark _)) (qdw_or1 (qdt_cmp (op_neU hu) pu_ne (qd_repr hgu hu (by rfl) z_repr (qdv 4)) (qdv 5) (nomark _)))))) (qss_one (qs_ret qd_bl)) qss_nil) (is_ifS (is_tfOr (is_tfE (is_op (is_repr (is_call (is_co is_v is_n))) (is_repr is_v))) (is_tfOr (is_tfE (is_op (is_repr (is_call (is_co is_v is_n))) is_v)) (is_tfE (is_op (is_repr is_v) is_v)))) (is_ret is_c) is_nil))))))))
      (qss_one (qs_pur (qs_ret qd_bl) (is_ret is_c))))⟩) (by
    refine ⟨rangeD 24, afR_is rfl (by decide) (by decide), ?_⟩
    refine for_inv (rangeD 24) (fun i ρ n => ∃ v2 v3 v4 v5 v6 v7, ρ = [none, some .dk, v2, v3, v4, v5, v6, v7] ∧ n ≤ 1000 * i) ?_ ?_ ⟨none, none, none, none, none, none, rfl, Nat.le_refl _⟩
    · rintro i x ρ n E' hx ⟨v2, v3, v4, v5, v6, v7, rfl, hn⟩ nx _ _ _
      obtain ⟨lx, rfl⟩ := range_at hx
      have i24 : i < 24 := lx
      refine ⟨_, rfl, ?_⟩
      refine wSetS ⟨rfl, .int 4, rfl, 4, rfl, by decide, by omega, fun xs lx nx' hxs => ?_⟩
      refine ⟨rfl, .int 4, rfl, 4, rfl, by decide, by omega, fun ys ly ny hys => ?_⟩
      refine ⟨.list ((xs ++ ys).map PyData.str), by rw [List.map_append]; exact addL (by rw [List.length_map, List.length_map]; omega), ?_⟩
      have hv : ∀ y ∈ xs ++ ys, ValOk y := fun y hy => (List.mem_append.mp hy).elim (fun h => .inl (wd_wrd (hxs y h))) fun h => .inr (eight_unk y (hys y h))
      have lv : (xs ++ ys).length = 8 := by rw [List.length_append]; omega
      have vne : xs ++ ys ≠ [] := fun e => by rw [e] at lv; exact absurd lv (by decide)
      refine wSetS ⟨rfl, rfl, rfl, by omega, fun ks k2 k3 knd hk => ?_⟩
      have kne : ks ≠ [] := fun e => by rw [e] at k2; exact absurd k2 (by decide)
      refine ⟨_, rfl, rfl, _, rfl, one_lst (by simp) (by decide) (by omega) fun y hy => ?_⟩
      obtain ⟨m, rfl, hm⟩ : ∃ m : Nat, y = .int (m : Int) ∧ m ≤ 30 := by
        rcases List.mem_cons.mp hy with rfl | hy
        · exact ⟨0, rfl, by decide⟩
        rcases List.mem_cons.mp hy with rfl | hy
        · exact ⟨3, rfl, by decide⟩
        rcases List.mem_cons.mp hy with rfl | hy
        · exact ⟨9, rfl, by decide⟩
        · rw [List.mem_singleton.mp hy]
          exact ⟨30, rfl, by decide⟩
      refine ⟨ks, xs ++ ys, m, rfl, by omega, by omega, kne, by omega, hk, vne, by omega, fun L n1 lL hL asc hn1 => ?_⟩
      dsimp only
      have g : ∀ f ∈ L, FactG f := fun f hf => good_fc hk hv (hL f hf)
      have ne : ∀ k ∈ L, k ≠ [] := fun k hk e => by
        obtain ⟨_, _, e3, _⟩ := g k hk
        rw [e] at e3
        cases e3
      have one : OneW L := kinds_one knd hL
      have adj : adjL L = true := (adj_asc ne).mpr ⟨asc, one⟩
      have hU : FewU L := ⟨ys, by omega, fun f hf y hy hu => by
        obtain ⟨x0, us, rfl, _, h3⟩ := hL f hf
        rcases List.mem_append.mp (h3 y hy) with h | h
        · have z := wrd_unk (wd_wrd (hxs y h))
          rw [z] at hu
          cases hu
        · exact h⟩
      have lL30 : L.length ≤ 30 := by omega
      have gvL := (store_gv g).repr (by omega) (by decide)
      obtain ⟨rL, hrL⟩ : ∃ r, r = (stD L).shown := ⟨_, rfl⟩
      let T : List Nat → DEnv → Prop := fun t ρ => ∃ u7, ρ = [none, some .dk, some (.d (.int (i : Int))), some (.d (.list (List.map PyData.str (xs ++ ys)))), some (.d (stD L)), some (.d (.str (stD L).shown)), some (.d (.str (mkS t))), u7]
      refine wSeqP (ρ' := [none, some .dk, some (.d (.int (i : Int))), some (.d (.list (List.map PyData.str (xs ++ ys)))), some (.d (stD L)), some (.d (.str (stD L).shown)), some (.d (.str (mkS []))), v7]) ?_ ?_
      · unfold fPar2
        rw [co_is (repr_is rfl gvL) (co1 (x := .str (mkS [])) (by show some (PyData.str "") = _; rw [em_is]; rfl))]
        rfl
      obtain ⟨r, e1, e2⟩ := forF_inv (g := gN 7) (b := (fSet 6 (fOp addD (fOp addD (fV 6) (fMeth (fun {z} {ds} => joinD z ds) (fC (.str " ")) (fCo (fCall lstD1 (fCo (fV 7) fN)) fN))) (fC (.str "\n")))))
        (xs := L.map bT') (R := fun r => ∃ ρ, r = .nx ρ ∧ T (textC L) ρ) (fun j ρ => T (textC (L.take j)) ρ)
        (by
          rintro j x ρ hx ⟨u7, rfl⟩
          rw [List.getElem?_map] at hx
          obtain ⟨f, hf, rfl⟩ := Option.map_eq_some_iff.mp hx
          have gf := g f (List.mem_of_getElem? hf)
          have tk : L.take (j + 1) = L.take j ++ [f] := by
            rw [List.take_add_one, hf]
            rfl
          have tt : textC (L.take (j + 1)) = textC (L.take j) ++ (factC f ++ [10]) := by
            rw [tk]
            unfold textC
            rw [List.flatMap_append, List.flatMap_cons, List.flatMap_nil, List.append_nil]
          have tl := textC_len (L := L.take j) fun f hf => g f (List.mem_of_mem_take hf)
          have fl := factC_len gf
          rw [List.length_take] at tl
          refine ⟨_, rfl, _, set_is (op_is (op_is rfl (meth_is rfl (co1 (call_is (co1 rfl) (show lstD1 [bT' f] = some (.list (f.map PyData.str)) from rfl))) (joinL gf)) (addS (a := textC (L.take j)) (b := factC f) (by omega))) rfl (addS1 (a := textC (L.take j) ++ factC f) (b := [10]) (by rw [List.length_append, List.length_singleton]; omega) nl_is)), ?_⟩
          rw [List.append_assoc, ← tt]
          exact ⟨some (.d (bT' f)), rfl⟩)
        (fun ρ h => ⟨ρ, rfl, by rw [List.length_map, List.take_length] at h; exact h⟩)
        (ρ := [none, some .dk, some (.d (.int (i : Int))), some (.d (.list (List.map PyData.str (xs ++ ys)))), some (.d (stD L)), some (.d (.str (stD L).shown)), some (.d (.str (mkS []))), v7]) ⟨v7, rfl⟩
      obtain ⟨ρ', rfl, u7, rfl⟩ := e2
      refine wSeqP (for_is rfl e1) ?_
      have tl := textC_len g
      have gvT := (gv_text g).repr (by omega) (by decide)
      have st := F_stext g (by omega)
      have rd := F_read g adj lL30 hU
      refine ⟨_, (ifS_f (or_ff (ne_ff (repr_is (call_is (co1 rfl) st) gvT) (repr_is rfl gvT)) (or_ff (ne_ff (repr_is (call_is (co1 rfl) rd) gvL) rfl) (ne_ff (repr_is rfl gvL) rfl)))).trans rfl, ?_⟩
      exact nx _ _ ⟨_, _, _, _, _, _, rfl, by omega⟩
    · rintro ρ n ⟨v2, v3, v4, v5, v6, v7, rfl, hn⟩
      exact wRetP rfl rfl
    )

end
end My

set_option linter.unusedSimpArgs false
set_option linter.unusedVariables false
/-! Y__law_store: a def that draws -/
namespace My
open PySem PySem.Spec PyProof.Rows L2
section
variable {P : Program} {w : World} {K : PySem.W.Frag} {mg : Str → Option Value} {base : Heap}
theorem sc__law_store : FnScope ["_law_deck_here", "_law_kinds_here", "_law_values", "_law_many", "_law_row", "_law_k", "_law_name", "_law_width", "_law_at"] ["_law_deck_here", "_law_kinds_here", "_law_values", "_law_many"] (defScope sStore) := ⟨rfl, rfl, rfl, by decide +kernel, rfl, by decide +kernel, by decide +kernel⟩
theorem okW__law_store {f : Addr} {fd : FuncData} (F : Fun K "_law_store" "_law_store" sStore f fd) (z_range : mg "range" = none) (z_tuple : mg "tuple" = none) (z_sorted : mg "sorted" = none) (z_set : mg "set" = none) {f__law_draw : Addr} {d__law_draw : FuncData} (G__law_draw : FnOk P w K mg base CX0 1 f__law_draw d__law_draw ["_law_deck_here", "_law_many"] (spW K W_draw)) (m__law_draw : mg "_law_draw" = some (.ref f__law_draw)) (k__law_draw : PySem.W.keepIn K (.ref f__law_draw) = true) (b__law_draw : Binds K d__law_draw ["_law_deck_here", "_law_many"] []) {f__law_one : Addr} {d__law_one : FuncData} (G__law_one : FnOk P w K mg base CX0 2 f__law_one d__law_one ["_law_deck_here", "_law_items"] (spW K W_one)) (m__law_one : mg "_law_one" = some (.ref f__law_one)) (k__law_one : PySem.W.keepIn K (.ref f__law_one) = true) (b__law_one : Binds K d__law_one ["_law_deck_here", "_law_items"] []) : FnOk P w K mg base CX0 3 f fd ["_law_deck_here", "_law_kinds_here", "_law_values", "_law_many"] (spW K W_stW) :=
  fn_okW F sc__law_store (fun cdv A outer s H E hr => by
    have hu := hr.units
    have hv := Room.u65 hr
    exact (qss_cons (qs_pur (qs_newL (i := 4) sc__law_store.nd rfl (Or.inl rfl)) is_newL)
      (qss_cons (qs_for PassesOwn.never rfl (qdi_range (by rfl) z_range (qda_cons (qd_callW G__law_draw (hr.mono (by decide)) rfl m__law_draw k__law_draw b__law_draw pass0 (pv 0) (qda_cons (qd_pur (qd_op op_addU pu_add (qdv 3) qd_int) (is_op is_v is_c)) qda_nil)) qda_nil)) (qdg_name (i := 5) sc__law_store.nd rfl (Or.inl rfl)) (qss_cons (qs_asg (qd_callW G__law_one (hr.mono (by decide)) rfl m__law_one k__law_one b__law_one pass0 (pv 0) (qda_cons (qd_pur (qdv 1) is_v) qda_nil)) (qdg_tup (n := 2) rfl (qdgs_cons (qdg_name (i := 6) sc__law_store.nd rfl (Or.inl rfl)) (qdgs_cons (qdg_name (i := 7) sc__law_store.nd rfl (Or.inl rfl)) qdgs_nil))))
      (qss_one (qs_app' (ps_expr (pe_bm PySem.F.plainAttrs_list PySem.F.slot_list_append PySem.F.type_list_append mt_append (pv 4) (pa_cons (qd_op op_addU pu_add (qd_pur (qd_tup (qda_cons (qdv 6) qda_nil)) (is_tup (is_co is_v is_n))) (qd_callTy cr_tupU pu_tuple (by rfl) z_tuple boot_tuple (qda_cons (qd_lc (own := [("_law_at", 8)]) rfl sc__law_store.nd (qdi_pur (qdi_range (by rfl) z_range (qda_cons (qdv 7) qda_nil)) (is_afR (is_co is_v is_n))) (blkOk_by (own := [("_law_at", 8)]) (N := ["_law_deck_here", "_law_kinds_here", "_law_values", "_law_many", "_law_row", "_law_k", "_law_name", "_law_width", "_law_at"]) (sc := (defScope sStore)) (by decide +kernel)) (by decide) (fun _ _ _ _ _ => (qdg_name (i := 8) sc__law_store.nd rfl (Or.inl rfl))) (fun _ _ _ _ _ => qts_nil) (fun _ _ _ _ _ => (qd_callW G__law_one (hr.mono (by decide)) rfl m__law_one k__law_one b__law_one pass0 (pv 0) (qda_cons (qd_pur (qdv 2) is_v) qda_nil)))) qda_nil))) pa_nil)))))))
      (qss_give 4 (qss_one (qs_pur (qs_ret (qd_callTy cr_tupU pu_tuple (by rfl) z_tuple boot_tuple (qda_cons (qd_sortsetT hu rfl (by rfl) z_sorted (by rfl) z_set (qdv 4)) qda_nil))) (is_ret (is_call (is_co (is_sortSet is_v) is_n))))))))) (by
    intro ds n Qd h
    obtain ⟨ks, vals, m, rfl, _⟩ := h
    rfl
    ) (by
    intro ds n Qd h
    obtain ⟨ks, vals, m, rfl, hm, hn, kne, kl, hk, vne, vl, q⟩ := h
    simp only [sSeq, sIf, sRet, sSet, sAsg, sNil, bNot, bT, bAnd, bOr, bTr, eIsi, eV, eC, eCall, eOp, eChain, eAnd, eOr, eNot, eIf, eTup, eLst, eSl, eLc, aC, aN, iV, iR, startW, endW, startL, endL, oN, oS, bYes, eSort, eLc2, twoW, appW, putW, eSortSet, sNewL, sGive, sFor, sApp, sExt, sNewK, sMakeK, sPutK, sGiveK, eCallW, eRepr, iZ, eRev, pur, purA, purT, purS, Fl.ends, Option.some.injEq, Sv.d.injEq, Sv.l.injEq, Sv.k.injEq, exists_eq_left', exists_eq_left, PyData.bool.injEq, PyData.int.injEq, PyData.tuple.injEq, PyData.list.injEq, true_and, and_true, fC, fV, fN, fCo, fTup, fLst, fOp, fCall, tfE, tfTr, tfYes, tfNot, tfAnd, tfOr, fAnd, fOr, fNot, fIf, ofN, ofS, fSl, fChain, fIsi, afV, afR, afZ, afZk, zipKF, fLc, fLc2, fTwo, fOne, fSort, fSortSet, fGet, fOIn, fOGet, fOLen, fOIx, fRepr, fRev, fMeth, fNil, fSeq, fSet, fAsg, fRet, fIfS, fFor, fNewL, fApp, fExt, fGive, fNewK, fMakeK, fPutK, fGiveK, outF, envF, fnF, stF, stB, gN, gT, gsC, gsN, wipeD, getF, ownK, ownL, asB, asK, asL, asS, List.getElem?_cons_zero, List.getElem?_cons_succ, Option.bind_some, Option.map_some, Option.bind_none, Option.map_none, List.map_cons, List.map_nil, List.cons_append, List.nil_append, List.set_cons_zero, List.set_cons_succ, List.length_cons, List.length_nil, List.replicate_succ, List.replicate_zero, Nat.reduceSub, Nat.reduceAdd, Nat.reduceEqDiff, if_true, Bool.true_eq_false, Bool.false_eq_true, if_false, reduceIte, noDict, lenD_tup, lenD_lst, ltD_int, items_tup, items_lst, items_str, eqD_str, eqD_int, neD_str, neD_int, addD_int, subD_int, slD_lst, slD_tup, tuple_lst, tuple_tup, list_lst, list_tup, tyS_str, tyS_tup]
    refine draw_nat (by omega) (by omega) (by omega) fun c hc => ?_
    refine ⟨c, rfl, by omega, by omega, ?_⟩
    refine for_inv (rangeD c) (fun i ρ n' => ∃ rows v5 v6 v7, ρ = [some .dk, some (.d (.list (ks.map kdD))), some (.d (.list (vals.map PyData.str))), some (.d (.int (m : Int))), some (.l (rows.map bT')), v5, v6, v7, none] ∧ rows.length = i ∧ (∀ k ∈ rows, FcOk ks vals k) ∧ n' ≤ n + 1 + 5 * i) ?_ ?_ ⟨[], none, none, none, rfl, rfl, (fun k h => by cases h), Nat.le_refl _⟩
    · rintro i x ρ n' E' hx ⟨rows, v5, v6, v7, rfl, lr, hr, hn'⟩ nx _ _ _
      have ic : i < c := by
        have z := (range_at hx).1
        omega
      refine ⟨_, rfl, ?_⟩
      refine ⟨rfl, .list (ks.map kdD), rfl, ?_⟩
      dsimp only [aN]
      refine one_lst (xs := ks.map kdD) (fun e => kne (List.map_eq_nil_iff.mp e)) (by rw [List.length_map]; omega) (by omega) fun y hy => ?_
      obtain ⟨t, ht, rfl⟩ := List.mem_map.mp hy
      have kt := hk t ht
      refine ⟨_, rfl, ?_⟩
      have t4 := kt.2.2
      refine ⟨_, rfl, _, tup1_is rfl, _, afR_is rfl (by omega) (by omega), by rw [rangeD_len]; show _ ≤ 1000000; omega, ?_⟩
      refine lc_inv (rangeD t.2) (fun j acc n2 => ∃ ws : List Str, acc = ws.map PyData.str ∧ ws.length = j ∧ (∀ y ∈ ws, y ∈ vals) ∧ n2 = n' + 1 + j) ?_ ?_ ⟨[], rfl, rfl, (fun y h => by cases h), rfl⟩
      · rintro j y acc n2 K2 hy ⟨ws, rfl, lw, hw, rfl⟩ k2
        have jc : j < t.2 := by
          have z := (range_at hy).1
          omega
        refine ⟨_, rfl, ?_⟩
        simp only [sSeq, sIf, sRet, sSet, sAsg, sNil, bNot, bT, bAnd, bOr, bTr, eIsi, eV, eC, eCall, eOp, eChain, eAnd, eOr, eNot, eIf, eTup, eLst, eSl, eLc, aC, aN, iV, iR, startW, endW, startL, endL, oN, oS, bYes, eSort, eLc2, twoW, appW, putW, eSortSet, sNewL, sGive, sFor, sApp, sExt, sNewK, sMakeK, sPutK, sGiveK, eCallW, eRepr, iZ, eRev, pur, purA, purT, purS, Fl.ends, Option.some.injEq, Sv.d.injEq, Sv.l.injEq, Sv.k.injEq, exists_eq_left', exists_eq_left, PyData.bool.injEq, PyData.int.injEq, PyData.tuple.injEq, PyData.list.injEq, true_and, and_true, fC, fV, fN, fCo, fTup, fLst, fOp, fCall, tfE, tfTr, tfYes, tfNot, tfAnd, tfOr, fAnd, fOr, fNot, fIf, ofN, ofS, fSl, fChain, fIsi, afV, afR, afZ, afZk, zipKF, fLc, fLc2, fTwo, fOne, fSort, fSortSet, fGet, fOIn, fOGet, fOLen, fOIx, fRepr, fRev, fMeth, fNil, fSeq, fSet, fAsg, fRet, fIfS, fFor, fNewL, fApp, fExt, fGive, fNewK, fMakeK, fPutK, fGiveK, outF, envF, fnF, stF, stB, gN, gT, gsC, gsN, wipeD, getF, ownK, ownL, asB, asK, asL, asS, List.getElem?_cons_zero, List.getElem?_cons_succ, Option.bind_some, Option.map_some, Option.bind_none, Option.map_none, List.map_cons, List.map_nil, List.cons_append, List.nil_append, List.set_cons_zero, List.set_cons_succ, List.length_cons, List.length_nil, List.replicate_succ, List.replicate_zero, Nat.reduceSub, Nat.reduceAdd, Nat.reduceEqDiff, if_true, Bool.true_eq_false, Bool.false_eq_true, if_false, reduceIte, noDict, lenD_tup, lenD_lst, ltD_int, items_tup, items_lst, items_str, eqD_str, eqD_int, neD_str, neD_int, addD_int, subD_int, slD_lst, slD_tup, tuple_lst, tuple_tup, list_lst, list_tup, tyS_str, tyS_tup]
        refine one_lst (fun e => vne (List.map_eq_nil_iff.mp e)) (by rw [List.length_map]; omega) (by omega) fun z hz => ?_
        obtain ⟨v, hv, rfl⟩ := List.mem_map.mp hz
        refine k2 _ _ ⟨ws ++ [v], by rw [List.map_append]; rfl, by rw [List.length_append, lw]; rfl, fun y hy => ?_, rfl⟩
        rcases List.mem_append.mp hy with hy | hy
        · exact hw y hy
        · rw [List.mem_singleton.mp hy]
          exact hv
      · rintro acc n2 ⟨ws, rfl, lw, hw, rfl⟩
        rw [rangeD_len] at lw
        have lw' : ws.length = t.2 := lw
        have nb : n' + 1 + (rangeD t.2).length ≤ n + 1 + 5 * (i + 1) := by
          rw [rangeD_len]
          show n' + 1 + t.2 ≤ _
          omega
        refine ⟨.tuple (ws.map PyData.str), rfl, _, addD_tup (by rw [List.length_map]; show 1 + _ ≤ 1000000; omega), by rw [List.length_map]; show _ < 1000000; omega, nx _ _ ⟨rows ++ [t.1 :: ws], some (.d x), some (.d (.str t.1)), some (.d (.int (t.2 : Int))), ?_, ?_, ?_, nb⟩⟩
        · rw [List.map_append]
          rfl
        · rw [List.length_append, lr]
          rfl
        · intro k hk'
          rcases List.mem_append.mp hk' with hk' | hk'
          · exact hr k hk'
          · rw [List.mem_singleton.mp hk']
            exact ⟨t.1, ws, rfl, ⟨t, ht, rfl, lw'⟩, hw⟩
    · rintro ρ n' ⟨rows, v5, v6, v7, rfl, lr, hr, hn'⟩
      rw [rangeD_len] at lr
      have lr' : rows.length = c := lr
      rw [rangeD_len] at hn'
      have hn2 : n' ≤ n + 1 + 5 * c := hn'
      have vt : viewAll vT (rows.map bT') = some rows := view_T fun k hk e => by
        obtain ⟨z1, z2, z3, _⟩ := hr k hk
        rw [e] at z3
        cases z3
      simp only [sSeq, sIf, sRet, sSet, sAsg, sNil, bNot, bT, bAnd, bOr, bTr, eIsi, eV, eC, eCall, eOp, eChain, eAnd, eOr, eNot, eIf, eTup, eLst, eSl, eLc, aC, aN, iV, iR, startW, endW, startL, endL, oN, oS, bYes, eSort, eLc2, twoW, appW, putW, eSortSet, sNewL, sGive, sFor, sApp, sExt, sNewK, sMakeK, sPutK, sGiveK, eCallW, eRepr, iZ, eRev, pur, purA, purT, purS, Fl.ends, Option.some.injEq, Sv.d.injEq, Sv.l.injEq, Sv.k.injEq, exists_eq_left', exists_eq_left, PyData.bool.injEq, PyData.int.injEq, PyData.tuple.injEq, PyData.list.injEq, true_and, and_true, fC, fV, fN, fCo, fTup, fLst, fOp, fCall, tfE, tfTr, tfYes, tfNot, tfAnd, tfOr, fAnd, fOr, fNot, fIf, ofN, ofS, fSl, fChain, fIsi, afV, afR, afZ, afZk, zipKF, fLc, fLc2, fTwo, fOne, fSort, fSortSet, fGet, fOIn, fOGet, fOLen, fOIx, fRepr, fRev, fMeth, fNil, fSeq, fSet, fAsg, fRet, fIfS, fFor, fNewL, fApp, fExt, fGive, fNewK, fMakeK, fPutK, fGiveK, outF, envF, fnF, stF, stB, gN, gT, gsC, gsN, wipeD, getF, ownK, ownL, asB, asK, asL, asS, List.getElem?_cons_zero, List.getElem?_cons_succ, Option.bind_some, Option.map_some, Option.bind_none, Option.map_none, List.map_cons, List.map_nil, List.cons_append, List.nil_append, List.set_cons_zero, List.set_cons_succ, List.length_cons, List.length_nil, List.replicate_succ, List.replicate_zero, Nat.reduceSub, Nat.reduceAdd, Nat.reduceEqDiff, if_true, Bool.true_eq_false, Bool.false_eq_true, if_false, reduceIte, noDict, lenD_tup, lenD_lst, ltD_int, items_tup, items_lst, items_str, eqD_str, eqD_int, neD_str, neD_int, addD_int, subD_int, slD_lst, slD_tup, tuple_lst, tuple_tup, list_lst, list_tup, tyS_str, tyS_tup, setsF, vt]
      refine ⟨.rt (stD (sortU ltK (ddU rows))), ?_, q (sortU ltK (ddU rows)) n' ?_ (fun k hk => hr k (ddU_mem.mp (srt_mem.mp hk))) (sortU_asc tot_key (ddU_nd rows)) (by omega)⟩
      · rw [if_pos (by omega)]
        rfl
      · rw [(sortU_perm _).length_eq]
        exact Nat.le_trans (ddU_le rows) (by omega)
    )

end
end My

/-! GU: unknowns, kinds drawn -/
namespace My
open PySem PySem.Spec PyProof.Rows L2
section
variable {P : Program} {w : World} {K : PySem.W.Frag} {mg : Str → Option Value} {base : Heap}
theorem scUnks : FnScope ["_law_deck_here", "_law_many", "_law_found", "_law_some", "_law_k"] ["_law_deck_here", "_law_many"] (defScope sUnks) := ⟨rfl, rfl, rfl, by decide +kernel, rfl, by decide +kernel, by decide +kernel⟩
theorem ok_unks {f fD : Addr} {fd fdD : FuncData} (F : Fun K "_law_unknowns" "_law_unknowns" sUnks f fd) (B : Blt mg) (GD : FnOk P w K mg base CX0 1 fD fdD ["_law_deck_here", "_law_many"] spDraw) (mD : mg "_law_draw" = some (.ref fD))
    (kD : PySem.W.keepIn K (.ref fD) = true) (bD : Binds K fdD ["_law_deck_here", "_law_many"] []) : FnOk P w K mg base CX0 2 f fd ["_law_deck_here", "_law_many"] spUnks := by
  refine F.ok scUnks (fun vs H Q E h => ?_) (fun cdv A outer s H vs Q E hr h => ?_)
  · obtain ⟨d, l, ns, k, m, rfl, _⟩ := h
    rfl
  · obtain ⟨d, l, ns, k, m, rfl, hm, D, hn, hk, q⟩ := h
    refine ⟨_, pss_cons (ps_par (i := 2) (j := 3) rfl scUnks.nd rfl rfl (by decide) rfl rfl (pa_cons (pe_lst pa_nil) (pa_cons (pe_lst (pa_cons pe_str (pa_cons pe_str (pa_cons pe_str (pa_cons pe_str (pa_cons pe_str (pa_cons pe_str (pa_cons pe_str (pa_cons pe_str pa_nil))))))))) pa_nil)) (by rfl))
      (pss_cons (ps_for PassesOwn.never rfl (pi_range1 rfl B.range (pa_cons (pv 1) pa_nil)) (pg_name (i := 4) scUnks.nd rfl (Or.inl rfl))
        (pss_one (ps_expr (pe_bm PySem.F.plainAttrs_list PySem.F.slot_list_append PySem.F.type_list_append mt_append (pv 2)
          (pa_cons (pe_bm PySem.F.plainAttrs_list PySem.F.slot_list_pop PySem.F.type_list_pop mt_popAt (pv 3)
            (pa_cons (pe_call GD hr rfl mD kD bD .nil pass0 (pa_cons (pv 0) (pa_cons (pe_callB call_len_seq (by rfl) B.len PySem.boot_len (pa_cons (pv 3) pa_nil)) pa_nil))) pa_nil)) pa_nil)))))
      (pss_one (ps_ret (pv 2)))), ?_⟩
    refine ⟨by decide, fun p np => ⟨by show 8 ≤ sizeLine; decide, fun p2 np2 => ⟨_, _, rfl, ?_⟩⟩⟩
    obtain ⟨pd, pl⟩ := D.nd np
    have np2' : H p2 = none := (same_new np).free np2
    obtain ⟨pd2, pl2⟩ := D.nd np2'
    have pp : p ≠ p2 := ne_of_none upd_same np2
    refine ⟨_, rfl, m, rfl, by omega, by omega, for_range (n := m) (fun i σ H1 => ∃ (xs rest : List Str) (v4 : Option V), σ = [some (.ref d), some (.int (m : Int)), some (.ref p), some (.ref p2), v4] ∧ xs.length = i ∧ (xs ++ rest).Perm eight ∧ H1 p = some (.lst (xs.map V.str)) ∧ H1 p2 = some (.lst (rest.map V.str)) ∧ Deck H1 d l ns (k + i) ∧ Fr d H H1)
      ⟨[], eight, none, rfl, rfl, List.Perm.refl _, by rw [upd_ne pp]; exact upd_same, upd_same, (D.same (same_new np)).same (same_new np2), same_fr ((same_new np).trans (same_new np2))⟩ ?_ ?_⟩
    · rintro i σ H1 hi ⟨xs, rest, v4, rfl, lx, pm, h1, h2, D1, f1⟩
      have tot := pm.length_eq
      rw [List.length_append, lx] at tot
      have t8 : eight.length = 8 := rfl
      refine ⟨_, rfl, .inl ⟨rfl, _, .inl (.inl h1)⟩, _, rfl, .inl ⟨rfl, _, .inl (.inl h2)⟩, _, rfl, _, rfl, p2, _, rfl, .inl (.inl (.inl h2)), d, l, ns, k + i, _, rfl, ?_, ?_, D1, hn, by omega, fun v H2 v0 v1 D2 f2 => ?_⟩
      · rw [List.length_map]
        omega
      · rw [List.length_map]
        omega
      · rw [List.length_map] at v1
        obtain ⟨j, rfl⟩ : ∃ j : Nat, v = (j : Int) := ⟨v.toNat, by omega⟩
        have hj : j < rest.length := by omega
        have g1 : H2 p = some (.lst (xs.map V.str)) := f2 _ _ pd h1
        have g2 : H2 p2 = some (.lst (rest.map V.str)) := f2 _ _ pd2 h2
        refine ⟨p2, _, (j : Int), j, .str rest[j], rfl, rfl, g2, by omega, by omega, ?_, ?_, ?_⟩
        · rw [seqIndex_of (by omega) (by rw [List.length_map]; omega), Int.toNat_natCast]
        · rw [List.getElem?_map, List.getElem?_eq_getElem hj]
          rfl
        · refine ⟨p, _, _, rfl, rfl, by rw [upd_ne pp]; exact g1, by rw [List.length_map, sizeLine_eq]; omega, xs ++ [rest[j]], rest.eraseIdx j, _, rfl, by rw [List.length_append, lx]; rfl, ?_, ?_, ?_, ?_, ?_⟩
          · refine List.Perm.trans ?_ pm
            rw [List.append_assoc]
            exact List.Perm.append_left xs (erase_perm hj)
          · rw [upd_same, List.map_append]
            rfl
          · rw [upd_ne (Ne.symm pp), upd_same, map_erase]
          · exact (D2.upd pd2 pl2).upd pd pl
          · refine Fr.upd_new (Fr.refl d H) (Fr.upd_new (Fr.refl d H) (f1.trans f2) np2' pd2) np pd
    · rintro σ H1 ⟨xs, rest, v4, rfl, lx, pm, h1, h2, D1, f1⟩
      have nd : (xs ++ rest).Nodup := pm.nodup_iff.mpr (by decide)
      exact ⟨_, rfl, q p xs H1 lx (List.nodup_append.mp nd).1 (fun x m => pm.mem_iff.mp (List.mem_append_left _ m)) np h1 D1 f1⟩
theorem scKinds : FnScope ["_law_deck_here", "_law_row", "_law_name"] ["_law_deck_here"] (defScope sKinds) := ⟨rfl, rfl, rfl, by decide +kernel, rfl, by decide +kernel, by decide +kernel⟩
theorem ok_kinds {f fD fO fP : Addr} {fd fdD fdO fdP : FuncData} (F : Fun K "_law_kinds" "_law_kinds" sKinds f fd) (B : Blt mg) (GD : FnOk P w K mg base CX0 1 fD fdD ["_law_deck_here", "_law_many"] spDraw) (mD : mg "_law_draw" = some (.ref fD))
    (kD : PySem.W.keepIn K (.ref fD) = true) (bD : Binds K fdD ["_law_deck_here", "_law_many"] []) (GO : FnOk P w K mg base CX0 2 fO fdO ["_law_deck_here", "_law_items"] (spOne K)) (mO : mg "_law_one" = some (.ref fO))
    (kO : PySem.W.keepIn K (.ref fO) = true) (bO : Binds K fdO ["_law_deck_here", "_law_items"] []) (GP : FnOk P w K mg base CX0 4 fP fdP ["_law_deck_here", "_law_many"] spPool) (mP : mg "_law_pool" = some (.ref fP))
    (kP : PySem.W.keepIn K (.ref fP) = true) (bP : Binds K fdP ["_law_deck_here", "_law_many"] []) : FnOk P w K mg base CX0 5 f fd ["_law_deck_here"] spKinds := by
  refine F.ok scKinds (fun vs H Q E h => ?_) (fun cdv A outer s H vs Q E hr h => ?_)
  · obtain ⟨d, l, ns, k, rfl, _⟩ := h
    rfl
  · obtain ⟨d, l, ns, k, rfl, D, hn, hk, q⟩ := h
    have hr1 : Room 1 _ := hr.mono (by decide)
    have hr2 : Room 2 _ := hr.mono (by decide)
    refine ⟨_, pss_cons (ps_set (i := 1) scKinds.nd rfl (Or.inl rfl) (pe_call GP hr rfl mP kP bP .nil pass0 (pa_cons (pv 0) (pa_cons (pe_op op_add pe_int (pe_call GD hr1 rfl mD kD bD .nil pass0 (pa_cons (pv 0) (pa_cons pe_int pa_nil)))) pa_nil))))
      (pss_one (ps_ret (pe_lc (own := [("_law_name", 2)]) (g := gName 2) (tt := tYes) rfl scKinds.nd (pi_list (pv 1)) (blkOk_by (own := [("_law_name", 2)]) (N := ["_law_deck_here", "_law_row", "_law_name"]) (sc := defScope sKinds) (by decide +kernel))
        (fun _ _ _ _ _ => pg_name (i := 2) scKinds.nd rfl (Or.inl rfl)) (fun _ _ _ _ _ => pts_nil)
        (fun _ _ _ _ _ => pe_tup (pa_cons (pv 2) (pa_cons (pe_call GO hr2 rfl mO kO bO .nil pass0 (pa_cons (pv 0) (pa_cons (pe_lst (pa_cons pe_int (pa_cons pe_int (pa_cons pe_int (pa_cons pe_int (pa_cons pe_int pa_nil)))))) pa_nil))) pa_nil)))))), ?_⟩
    refine ⟨_, rfl, _, rfl, d, l, ns, k, 2, rfl, by decide, by decide, D, hn, by omega, fun v H1 v0 v1 D1 f1 => ⟨2, v, rfl, rfl, ?_⟩⟩
    obtain ⟨m, hm, m2, m3⟩ : ∃ m : Nat, 2 + v = (m : Int) ∧ 2 ≤ m ∧ m ≤ 3 := ⟨(2 + v).toNat, by omega, by omega, by omega⟩
    refine ⟨d, l, ns, k + 1, m, (by show [V.ref d, V.int (2 + v)] = _; rw [hm]), by omega, D1, hn, by omega, fun p xs H2 lx nd wd np hp D2 f2 => ?_⟩
    have f02 := f1.trans f2
    have pd : p ≠ d := (D1.nd np).1
    have pl : p ≠ l := (D1.nd np).2
    refine ⟨_, rfl, p, rfl, ⟨_, .inl (.inl hp)⟩, fun Dn nD => ?_⟩
    obtain ⟨Dd, Dl⟩ := D2.nd nD
    have Dp' : Dn ≠ p := Ne.symm (ne_of_none hp nD)
    refine lc_list (xs := xs.map V.str) (fun t H3 => ∃ ks : List (Addr × Str × Nat), ks.map (·.2.1) = xs.take t ∧ H3 Dn = some (.lst (ks.map fun t => V.ref t.1)) ∧ (∀ t ∈ ks, KindAt H3 t ∧ H t.1 = none ∧ t.1 ≠ Dn) ∧ H3 p = some (.lst (xs.map V.str)) ∧ Deck H3 d l ns (k + 1 + 9 * m + t) ∧ Fr d H2 H3 ∧ Fr d H H3)
      ⟨[], rfl, upd_same, (fun t z => nomatch z), by rw [upd_ne (Ne.symm Dp')]; exact hp, D2.same (same_new nD), same_fr (same_new nD), f02.trans (same_fr (same_new nD))⟩ (fun t H3 _ ⟨ks, _, _, _, h4, _⟩ => .inl (.inl h4)) ?_ ?_
    · rintro t x H3 hx ⟨ks, h1, h2, h3, h4, h5, h6, h7⟩
      refine ⟨rfl, ?_⟩
      dsimp only [tYes]
      rw [if_pos rfl]
      obtain ⟨x, rfl⟩ : ∃ y : Str, x = .str y := by
        rw [List.getElem?_map] at hx
        obtain ⟨y, _, e⟩ := Option.map_eq_some_iff.mp hx
        exact ⟨y, e.symm⟩
      have hx' : xs[t]? = some x := by
        rw [List.getElem?_map] at hx
        obtain ⟨y, e1, e2⟩ := Option.map_eq_some_iff.mp hx
        rw [e1, V.str.inj e2]
      have ht : t < xs.length := (List.getElem?_eq_some_iff.mp hx').1
      have mx : x ∈ xs := List.mem_of_getElem? hx'
      have lk : ks.length = t := by
        have z := congrArg List.length h1
        rw [List.length_map, List.length_take] at z
        omega
      refine ⟨_, rfl, _, rfl, (by show 5 ≤ sizeLine; decide), fun a na => ?_⟩
      obtain ⟨ad, al⟩ := h5.nd na
      have D5 := h5.same (same_new (o := .lst [.int 1, .int 2, .int 2, .int 3, .int 4]) na)
      refine ⟨d, l, ns, k + 1 + 9 * m + t, .ref a, rfl, D5, hn, by omega, .inl ⟨a, _, rfl, ad, .inl (.inl (.inl (off_at ad upd_same))), List.cons_ne_nil _ _, by decide, fun j v H4 hj D4 f4 => ?_⟩⟩
      obtain ⟨n, rfl, n1, n4⟩ : ∃ n : Nat, v = .int (n : Int) ∧ 0 < n ∧ n ≤ 4 := by
        match j, hj with
        | 0, hj => exact ⟨1, (Option.some.inj hj).symm, by decide, by decide⟩
        | 1, hj => exact ⟨2, (Option.some.inj hj).symm, by decide, by decide⟩
        | 2, hj => exact ⟨2, (Option.some.inj hj).symm, by decide, by decide⟩
        | 3, hj => exact ⟨3, (Option.some.inj hj).symm, by decide, by decide⟩
        | 4, hj => exact ⟨4, (Option.some.inj hj).symm, by decide, by decide⟩
        | n + 5, hj => simp at hj
      have f34 : Fr d H3 H4 := (same_fr (same_new na)).trans f4
      refine ⟨(by show 2 ≤ sizeLine; decide), fun b nb => ?_⟩
      obtain ⟨bd, bl⟩ := D4.nd nb
      have g1 : H4 Dn = some (.lst (ks.map fun t => V.ref t.1)) := f34 _ _ Dd h2
      have bDn : b ≠ Dn := Ne.symm (ne_of_none g1 nb)
      have nbH : H b = none := (h7.trans f34).free nb bd
      have aDn : H Dn = none := f02.free nD Dd
      refine ⟨_, (by rw [upd_ne (Ne.symm bDn)]; exact g1), by rw [List.length_map, sizeLine_eq]; omega, ks ++ [(b, x, n)], ?_, ?_, fun t' z => ?_, ?_, ?_, ?_, ?_⟩
      · rw [List.map_append, h1, List.take_add_one, hx']
        rfl
      · rw [upd_same, List.map_append]
        rfl
      · rcases List.mem_append.mp z with z | z
        · obtain ⟨e1, e2, e3⟩ := h3 t' z
          have td : t'.1 ≠ d := by
            intro e
            have z1 := e1.1
            rw [e] at z1
            obtain ⟨⟨_, _, _, z2, _⟩, _⟩ := h5
            rw [z2] at z1
            cases z1
          have e5 : KindAt H4 t' := e1.fr f34 td
          have tb : t'.1 ≠ b := ne_of_none e5.1 nb
          exact ⟨⟨by rw [upd_ne e3, upd_ne tb]; exact e5.1, e5.2⟩, e2, e3⟩
        · rw [List.mem_singleton.mp z]
          exact ⟨⟨by rw [upd_ne bDn]; exact upd_same, wd x mx, n1, n4⟩, nbH, bDn⟩
      · rw [upd_ne (Ne.symm Dp'), upd_ne (ne_of_none (f34 _ _ pd h4) nb)]
        exact f34 _ _ pd h4
      · exact (D4.upd bd bl).upd Dd Dl
      · exact Fr.upd_new (Fr.refl d H2) (Fr.upd_new (Fr.refl d H2) (h6.trans f34) (h6.trans f34 |>.free nb bd) bd) nD Dd
      · exact Fr.upd_new (Fr.refl d H) (Fr.upd_new (Fr.refl d H) (h7.trans f34) nbH bd) aDn Dd
    · rintro H3 ⟨ks, h1, h2, h3, h4, h5, h6, h7⟩
      rw [List.length_map, List.take_length] at h1
      have lk : ks.length = xs.length := by rw [← h1, List.length_map]
      exact q Dn ks H3 (by omega) (by omega) (by rw [h1]; exact nd) (fun t z => (h3 t z).1) (f02.free nD Dd) h2 (h5.mono (by rw [List.length_map]; omega)) h7
end
end My

namespace My
open PySem PySem.Spec PyProof.Rows L2
theorem all_mk {l : PySem.W.OpenLaw} {w : World} {K : PySem.W.Frag} {h : Heap} {mg : Str → Option Value} {fa fDk fDr fOn fWo fPl ff5 ff6 ff7 ff8 ff9 ff10 ff11 ff12 ff13 ff14 ff15 ff16 ff17 ff18 ff19 ff20 fLw : Addr} {t_DIGITS t_LETTERS t_MOST_FACTS t_MOST_UNKNOWNS t_MOST_VALUES : Tok} (X : K.In h) (G : h.Ns mainGlobals mg) (hfa : mg "law" = some (.ref fa))
    {odDk anDk odDr anDr odOn anOn odWo anWo odPl anPl odf5 anf5 odf6 anf6 odf7 anf7 odf8 anf8 odf9 anf9 odf10 anf10 odf11 anf11 odf12 anf12 odf13 anf13 odf14 anf14 odf15 anf15 odf16 anf16 odf17 anf17 odf18 anf18 odf19 anf19 odf20 anf20 odLw anLw : Option Addr} {slDk slDr slOn slWo slPl slf5 slf6 slf7 slf8 slf9 slf10 slf11 slf12 slf13 slf14 slf15 slf16 slf17 slf18 slf19 slf20 slLw : Array (Option Value)} {ocDk kVDk dcDk pmDk cdDk ctDk ocDr kVDr dcDr pmDr cdDr ctDr ocOn kVOn dcOn pmOn cdOn ctOn ocWo kVWo dcWo pmWo cdWo ctWo ocPl kVPl dcPl pmPl cdPl ctPl ocf5 kVf5 dcf5 pmf5 cdf5 ctf5 ocf6 kVf6 dcf6 pmf6 cdf6 ctf6 ocf7 kVf7 dcf7 pmf7 cdf7 ctf7 ocf8 kVf8 dcf8 pmf8 cdf8 ctf8 ocf9 kVf9 dcf9 pmf9 cdf9 ctf9 ocf10 kVf10 dcf10 pmf10 cdf10 ctf10 ocf11 kVf11 dcf11 pmf11 cdf11 ctf11 ocf12 kVf12 dcf12 pmf12 cdf12 ctf12 ocf13 kVf13 dcf13 pmf13 cdf13 ctf13 ocf14 kVf14 dcf14 pmf14 cdf14 ctf14 ocf15 kVf15 dcf15 pmf15 cdf15 ctf15 ocf16 kVf16 dcf16 pmf16 cdf16 ctf16 ocf17 kVf17 dcf17 pmf17 cdf17 ctf17 ocf18 kVf18 dcf18 pmf18 cdf18 ctf18 ocf19 kVf19 dcf19 pmf19 cdf19 ctf19 ocf20 kVf20 dcf20 pmf20 cdf20 ctf20 ocLw kVLw dcLw pmLw cdLw ctLw : Value}
    (aDk : PySem.W.nsIn K mainGlobals "_law_deck" = some (some (.ref fDk)))
    (lDk : K.lookup fDk = some ⟨ocDk, odDk, .func (PySem.W.fnOf "_law_deck" "_law_deck" (defArgs sDeck) (defBody sDeck) (defScope sDeck) .none kVDk dcDk pmDk anDk cdDk ctDk), slDk⟩)
    (cDk : PySem.W.codeIn K cdDk "_law_deck" = true)
    (kDk : PySem.W.keepIn K (.ref fDk) = true)
    (aDr : PySem.W.nsIn K mainGlobals "_law_draw" = some (some (.ref fDr)))
    (lDr : K.lookup fDr = some ⟨ocDr, odDr, .func (PySem.W.fnOf "_law_draw" "_law_draw" (defArgs sDraw) (defBody sDraw) (defScope sDraw) .none kVDr dcDr pmDr anDr cdDr ctDr), slDr⟩)
    (cDr : PySem.W.codeIn K cdDr "_law_draw" = true)
    (kDr : PySem.W.keepIn K (.ref fDr) = true)
    (aOn : PySem.W.nsIn K mainGlobals "_law_one" = some (some (.ref fOn)))
    (lOn : K.lookup fOn = some ⟨ocOn, odOn, .func (PySem.W.fnOf "_law_one" "_law_one" (defArgs sOne) (defBody sOne) (defScope sOne) .none kVOn dcOn pmOn anOn cdOn ctOn), slOn⟩)
    (cOn : PySem.W.codeIn K cdOn "_law_one" = true)
    (kOn : PySem.W.keepIn K (.ref fOn) = true)
    (aWo : PySem.W.nsIn K mainGlobals "_law_word" = some (some (.ref fWo)))
    (lWo : K.lookup fWo = some ⟨ocWo, odWo, .func (PySem.W.fnOf "_law_word" "_law_word" (defArgs sWord) (defBody sWord) (defScope sWord) .none kVWo dcWo pmWo anWo cdWo ctWo), slWo⟩)
    (cWo : PySem.W.codeIn K cdWo "_law_word" = true)
    (kWo : PySem.W.keepIn K (.ref fWo) = true)
    (aPl : PySem.W.nsIn K mainGlobals "_law_pool" = some (some (.ref fPl)))
    (lPl : K.lookup fPl = some ⟨ocPl, odPl, .func (PySem.W.fnOf "_law_pool" "_law_pool" (defArgs sPool) (defBody sPool) (defScope sPool) .none kVPl dcPl pmPl anPl cdPl ctPl), slPl⟩)
    (cPl : PySem.W.codeIn K cdPl "_law_pool" = true)
    (kPl : PySem.W.keepIn K (.ref fPl) = true)
    (af5 : PySem.W.nsIn K mainGlobals "_law_unknowns" = some (some (.ref ff5)))
    (lf5 : K.lookup ff5 = some ⟨ocf5, odf5, .func (PySem.W.fnOf "_law_unknowns" "_law_unknowns" (defArgs sUnks) (defBody sUnks) (defScope sUnks) .none kVf5 dcf5 pmf5 anf5 cdf5 ctf5), slf5⟩)
    (cf5 : PySem.W.codeIn K cdf5 "_law_unknowns" = true)
    (kf5 : PySem.W.keepIn K (.ref ff5) = true)
    (af6 : PySem.W.nsIn K mainGlobals "_law_kinds" = some (some (.ref ff6)))
    (lf6 : K.lookup ff6 = some ⟨ocf6, odf6, .func (PySem.W.fnOf "_law_kinds" "_law_kinds" (defArgs sKinds) (defBody sKinds) (defScope sKinds) .none kVf6 dcf6 pmf6 anf6 cdf6 ctf6), slf6⟩)
    (cf6 : PySem.W.codeIn K cdf6 "_law_kinds" = true)
    (kf6 : PySem.W.keepIn K (.ref ff6) = true)
    (af7 : PySem.W.nsIn K mainGlobals "_law_store" = some (some (.ref ff7)))
    (lf7 : K.lookup ff7 = some ⟨ocf7, odf7, .func (PySem.W.fnOf "_law_store" "_law_store" (defArgs sStore) (defBody sStore) (defScope sStore) .none kVf7 dcf7 pmf7 anf7 cdf7 ctf7), slf7⟩)
    (cf7 : PySem.W.codeIn K cdf7 "_law_store" = true)
    (kf7 : PySem.W.keepIn K (.ref ff7) = true)
    (af8 : PySem.W.nsIn K mainGlobals "is_word" = some (some (.ref ff8)))
    (lf8 : K.lookup ff8 = some ⟨ocf8, odf8, .func (PySem.W.fnOf "is_word" "is_word" (defArgs sIsWord) (defBody sIsWord) (defScope sIsWord) .none kVf8 dcf8 pmf8 anf8 cdf8 ctf8), slf8⟩)
    (cf8 : PySem.W.codeIn K cdf8 "is_word" = true)
    (kf8 : PySem.W.keepIn K (.ref ff8) = true)
    (af9 : PySem.W.nsIn K mainGlobals "is_unknown" = some (some (.ref ff9)))
    (lf9 : K.lookup ff9 = some ⟨ocf9, odf9, .func (PySem.W.fnOf "is_unknown" "is_unknown" (defArgs sUnk) (defBody sUnk) (defScope sUnk) .none kVf9 dcf9 pmf9 anf9 cdf9 ctf9), slf9⟩)
    (cf9 : PySem.W.codeIn K cdf9 "is_unknown" = true)
    (kf9 : PySem.W.keepIn K (.ref ff9) = true)
    (af10 : PySem.W.nsIn K mainGlobals "is_value" = some (some (.ref ff10)))
    (lf10 : K.lookup ff10 = some ⟨ocf10, odf10, .func (PySem.W.fnOf "is_value" "is_value" (defArgs sIsValue) (defBody sIsValue) (defScope sIsValue) .none kVf10 dcf10 pmf10 anf10 cdf10 ctf10), slf10⟩)
    (cf10 : PySem.W.codeIn K cdf10 "is_value" = true)
    (kf10 : PySem.W.keepIn K (.ref ff10) = true)
    (af11 : PySem.W.nsIn K mainGlobals "is_fact" = some (some (.ref ff11)))
    (lf11 : K.lookup ff11 = some ⟨ocf11, odf11, .func (PySem.W.fnOf "is_fact" "is_fact" (defArgs sIsFact) (defBody sIsFact) (defScope sIsFact) .none kVf11 dcf11 pmf11 anf11 cdf11 ctf11), slf11⟩)
    (cf11 : PySem.W.codeIn K cdf11 "is_fact" = true)
    (kf11 : PySem.W.keepIn K (.ref ff11) = true)
    (af12 : PySem.W.nsIn K mainGlobals "may_follow" = some (some (.ref ff12)))
    (lf12 : K.lookup ff12 = some ⟨ocf12, odf12, .func (PySem.W.fnOf "may_follow" "may_follow" (defArgs sMay) (defBody sMay) (defScope sMay) .none kVf12 dcf12 pmf12 anf12 cdf12 ctf12), slf12⟩)
    (cf12 : PySem.W.codeIn K cdf12 "may_follow" = true)
    (kf12 : PySem.W.keepIn K (.ref ff12) = true)
    (af13 : PySem.W.nsIn K mainGlobals "is_store" = some (some (.ref ff13)))
    (lf13 : K.lookup ff13 = some ⟨ocf13, odf13, .func (PySem.W.fnOf "is_store" "is_store" (defArgs sIsStore) (defBody sIsStore) (defScope sIsStore) .none kVf13 dcf13 pmf13 anf13 cdf13 ctf13), slf13⟩)
    (cf13 : PySem.W.codeIn K cdf13 "is_store" = true)
    (kf13 : PySem.W.keepIn K (.ref ff13) = true)
    (af14 : PySem.W.nsIn K mainGlobals "unknowns" = some (some (.ref ff14)))
    (lf14 : K.lookup ff14 = some ⟨ocf14, odf14, .func (PySem.W.fnOf "unknowns" "unknowns" (defArgs sUnkS) (defBody sUnkS) (defScope sUnkS) .none kVf14 dcf14 pmf14 anf14 cdf14 ctf14), slf14⟩)
    (cf14 : PySem.W.codeIn K cdf14 "unknowns" = true)
    (kf14 : PySem.W.keepIn K (.ref ff14) = true)
    (af15 : PySem.W.nsIn K mainGlobals "store_text" = some (some (.ref ff15)))
    (lf15 : K.lookup ff15 = some ⟨ocf15, odf15, .func (PySem.W.fnOf "store_text" "store_text" (defArgs s_store_text) (defBody s_store_text) (defScope s_store_text) .none kVf15 dcf15 pmf15 anf15 cdf15 ctf15), slf15⟩)
    (cf15 : PySem.W.codeIn K cdf15 "store_text" = true)
    (kf15 : PySem.W.keepIn K (.ref ff15) = true)
    (af16 : PySem.W.nsIn K mainGlobals "text_lines" = some (some (.ref ff16)))
    (lf16 : K.lookup ff16 = some ⟨ocf16, odf16, .func (PySem.W.fnOf "text_lines" "text_lines" (defArgs s_text_lines) (defBody s_text_lines) (defScope s_text_lines) .none kVf16 dcf16 pmf16 anf16 cdf16 ctf16), slf16⟩)
    (cf16 : PySem.W.codeIn K cdf16 "text_lines" = true)
    (kf16 : PySem.W.keepIn K (.ref ff16) = true)
    (af17 : PySem.W.nsIn K mainGlobals "check_end" = some (some (.ref ff17)))
    (lf17 : K.lookup ff17 = some ⟨ocf17, odf17, .func (PySem.W.fnOf "check_end" "check_end" (defArgs s_check_end) (defBody s_check_end) (defScope s_check_end) .none kVf17 dcf17 pmf17 anf17 cdf17 ctf17), slf17⟩)
    (cf17 : PySem.W.codeIn K cdf17 "check_end" = true)
    (kf17 : PySem.W.keepIn K (.ref ff17) = true)
    (af18 : PySem.W.nsIn K mainGlobals "may_be_read" = some (some (.ref ff18)))
    (lf18 : K.lookup ff18 = some ⟨ocf18, odf18, .func (PySem.W.fnOf "may_be_read" "may_be_read" (defArgs s_may_be_read) (defBody s_may_be_read) (defScope s_may_be_read) .none kVf18 dcf18 pmf18 anf18 cdf18 ctf18), slf18⟩)
    (cf18 : PySem.W.codeIn K cdf18 "may_be_read" = true)
    (kf18 : PySem.W.keepIn K (.ref ff18) = true)
    (af19 : PySem.W.nsIn K mainGlobals "fact_fault" = some (some (.ref ff19)))
    (lf19 : K.lookup ff19 = some ⟨ocf19, odf19, .func (PySem.W.fnOf "fact_fault" "fact_fault" (defArgs s_fact_fault) (defBody s_fact_fault) (defScope s_fact_fault) .none kVf19 dcf19 pmf19 anf19 cdf19 ctf19), slf19⟩)
    (cf19 : PySem.W.codeIn K cdf19 "fact_fault" = true)
    (kf19 : PySem.W.keepIn K (.ref ff19) = true)
    (af20 : PySem.W.nsIn K mainGlobals "read_store" = some (some (.ref ff20)))
    (lf20 : K.lookup ff20 = some ⟨ocf20, odf20, .func (PySem.W.fnOf "read_store" "read_store" (defArgs s_read_store) (defBody s_read_store) (defScope s_read_store) .none kVf20 dcf20 pmf20 anf20 cdf20 ctf20), slf20⟩)
    (cf20 : PySem.W.codeIn K cdf20 "read_store" = true)
    (kf20 : PySem.W.keepIn K (.ref ff20) = true)
    (aLw : PySem.W.nsIn K mainGlobals "law" = some (some (.ref fLw)))
    (lLw : K.lookup fLw = some ⟨ocLw, odLw, .func (PySem.W.fnOf "law" "law" (defArgs sLaw) (defBody sLaw) (defScope sLaw) .none kVLw dcLw pmLw anLw cdLw ctLw), slLw⟩)
    (cLw : PySem.W.codeIn K cdLw "law" = true)
    (kLw : PySem.W.keepIn K (.ref fLw) = true)
    (z_abs : PySem.W.nsIn K mainGlobals "abs" = some none)
    (z_all : PySem.W.nsIn K mainGlobals "all" = some none)
    (z_dict : PySem.W.nsIn K mainGlobals "dict" = some none)
    (z_enumerate : PySem.W.nsIn K mainGlobals "enumerate" = some none)
    (z_int : PySem.W.nsIn K mainGlobals "int" = some none)
    (z_isinstance : PySem.W.nsIn K mainGlobals "isinstance" = some none)
    (z_len : PySem.W.nsIn K mainGlobals "len" = some none)
    (z_list : PySem.W.nsIn K mainGlobals "list" = some none)
    (z_range : PySem.W.nsIn K mainGlobals "range" = some none)
    (z_repr : PySem.W.nsIn K mainGlobals "repr" = some none)
    (z_set : PySem.W.nsIn K mainGlobals "set" = some none)
    (z_sorted : PySem.W.nsIn K mainGlobals "sorted" = some none)
    (z_str : PySem.W.nsIn K mainGlobals "str" = some none)
    (z_tuple : PySem.W.nsIn K mainGlobals "tuple" = some none)
    (z_zip : PySem.W.nsIn K mainGlobals "zip" = some none)
    (g_DIGITS : PySem.W.nsIn K mainGlobals "DIGITS" = some (some (.str "0123456789" t_DIGITS)))
    (g_LETTERS : PySem.W.nsIn K mainGlobals "LETTERS" = some (some (.str "abcdefghijklmnopqrstuvwxyz" t_LETTERS)))
    (g_MOST_FACTS : PySem.W.nsIn K mainGlobals "MOST_FACTS" = some (some (.int 30 t_MOST_FACTS)))
    (g_MOST_UNKNOWNS : PySem.W.nsIn K mainGlobals "MOST_UNKNOWNS" = some (some (.int 5 t_MOST_UNKNOWNS)))
    (g_MOST_VALUES : PySem.W.nsIn K mainGlobals "MOST_VALUES" = some (some (.int 4 t_MOST_VALUES)))
    (i_str_0 : PySem.W.kitOne K (.type "NoneType") (.type "str") = some false)
    (i_str_1 : PySem.W.kitOne K (.type "bool") (.type "str") = some false)
    (i_str_2 : PySem.W.kitOne K (.type "int") (.type "str") = some false)
    (i_str_3 : PySem.W.kitOne K (.type "str") (.type "str") = some true)
    (i_str_4 : PySem.W.kitOne K (.type "list") (.type "str") = some false)
    (i_str_5 : PySem.W.kitOne K (.type "tuple") (.type "str") = some false)
    (i_tuple_0 : PySem.W.kitOne K (.type "NoneType") (.type "tuple") = some false)
    (i_tuple_1 : PySem.W.kitOne K (.type "bool") (.type "tuple") = some false)
    (i_tuple_2 : PySem.W.kitOne K (.type "int") (.type "tuple") = some false)
    (i_tuple_3 : PySem.W.kitOne K (.type "str") (.type "tuple") = some false)
    (i_tuple_4 : PySem.W.kitOne K (.type "list") (.type "tuple") = some false)
    (i_tuple_5 : PySem.W.kitOne K (.type "tuple") (.type "tuple") = some true) :
    ∃ fd : FuncData, (∀ (s : Shared) (v : Value), BindsTo s fd ⟨[v], []⟩ [("_law_script", v)]) ∧ ∀ base : Heap, K.In base → base.Ns mainGlobals mg → RunG l.prog w K mg base 8 fa fd ["_law_script"] (spLaw K) := by
  have e := hfa.symm.trans (PySem.W.mg_of X G aLw)
  cases e
  have m := fun {x : Str} {v : Value} (a : PySem.W.nsIn K mainGlobals x = some (some v)) => PySem.W.mg_of X G a
  have z := fun {x : Str} (a : PySem.W.nsIn K mainGlobals x = some none) => PySem.W.mg_none_of X G a
  have B : Blt mg := ⟨z z_int, z z_len, z z_abs, z z_list, z z_range, z z_repr⟩
  have B2 : Blt2 mg := ⟨z z_tuple, z z_sorted, z z_set, z z_dict, z z_isinstance, z z_str, z z_all⟩
  have k_str : IsT K "str" (isC "str") := ⟨i_str_0.trans (congrArg some (by decide)), i_str_1.trans (congrArg some (by decide)), i_str_2.trans (congrArg some (by decide)), i_str_3.trans (congrArg some (by decide)), i_str_4.trans (congrArg some (by decide)), i_str_5.trans (congrArg some (by decide))⟩
  have k_tuple : IsT K "tuple" (isC "tuple") := ⟨i_tuple_0.trans (congrArg some (by decide)), i_tuple_1.trans (congrArg some (by decide)), i_tuple_2.trans (congrArg some (by decide)), i_tuple_3.trans (congrArg some (by decide)), i_tuple_4.trans (congrArg some (by decide)), i_tuple_5.trans (congrArg some (by decide))⟩
  have FDk := fun_mk (st := sDeck) lDk cDk kDk
  have FDr := fun_mk (st := sDraw) lDr cDr kDr
  have FOn := fun_mk (st := sOne) lOn cOn kOn
  have FWo := fun_mk (st := sWord) lWo cWo kWo
  have FPl := fun_mk (st := sPool) lPl cPl kPl
  have Ff5 := fun_mk (st := sUnks) lf5 cf5 kf5
  have Ff6 := fun_mk (st := sKinds) lf6 cf6 kf6
  have Ff7 := fun_mk (st := sStore) lf7 cf7 kf7
  have Ff8 := fun_mk (st := sIsWord) lf8 cf8 kf8
  have Ff9 := fun_mk (st := sUnk) lf9 cf9 kf9
  have Ff10 := fun_mk (st := sIsValue) lf10 cf10 kf10
  have Ff11 := fun_mk (st := sIsFact) lf11 cf11 kf11
  have Ff12 := fun_mk (st := sMay) lf12 cf12 kf12
  have Ff13 := fun_mk (st := sIsStore) lf13 cf13 kf13
  have Ff14 := fun_mk (st := sUnkS) lf14 cf14 kf14
  have Ff15 := fun_mk (st := s_store_text) lf15 cf15 kf15
  have Ff16 := fun_mk (st := s_text_lines) lf16 cf16 kf16
  have Ff17 := fun_mk (st := s_check_end) lf17 cf17 kf17
  have Ff18 := fun_mk (st := s_may_be_read) lf18 cf18 kf18
  have Ff19 := fun_mk (st := s_fact_fault) lf19 cf19 kf19
  have Ff20 := fun_mk (st := s_read_store) lf20 cf20 kf20
  have FLw := fun_mk (st := sLaw) lLw cLw kLw
  have bDk := FDk.binds (ps := ["_law_script"]) fun _ _ _ _ _ _ us hl => match us, hl with | [_], _ => rfl
  have bDr := FDr.binds (ps := ["_law_deck_here", "_law_many"]) fun _ _ _ _ _ _ us hl => match us, hl with | [_, _], _ => rfl
  have bOn := FOn.binds (ps := ["_law_deck_here", "_law_items"]) fun _ _ _ _ _ _ us hl => match us, hl with | [_, _], _ => rfl
  have bWo := FWo.binds (ps := ["_law_deck_here"]) fun _ _ _ _ _ _ us hl => match us, hl with | [_], _ => rfl
  have bPl := FPl.binds (ps := ["_law_deck_here", "_law_many"]) fun _ _ _ _ _ _ us hl => match us, hl with | [_, _], _ => rfl
  have bf5 := Ff5.binds (ps := ["_law_deck_here", "_law_many"]) fun _ _ _ _ _ _ us hl => match us, hl with | [_, _], _ => rfl
  have bf6 := Ff6.binds (ps := ["_law_deck_here"]) fun _ _ _ _ _ _ us hl => match us, hl with | [_], _ => rfl
  have bf7 := Ff7.binds (ps := ["_law_deck_here", "_law_kinds_here", "_law_values", "_law_many"]) fun _ _ _ _ _ _ us hl => match us, hl with | [_, _, _, _], _ => rfl
  have bf8 := Ff8.binds (ps := ["value"]) fun _ _ _ _ _ _ us hl => match us, hl with | [_], _ => rfl
  have bf9 := Ff9.binds (ps := ["value"]) fun _ _ _ _ _ _ us hl => match us, hl with | [_], _ => rfl
  have bf10 := Ff10.binds (ps := ["value"]) fun _ _ _ _ _ _ us hl => match us, hl with | [_], _ => rfl
  have bf11 := Ff11.binds (ps := ["value"]) fun _ _ _ _ _ _ us hl => match us, hl with | [_], _ => rfl
  have bf12 := Ff12.binds (ps := ["fact", "then"]) fun _ _ _ _ _ _ us hl => match us, hl with | [_, _], _ => rfl
  have bf13 := Ff13.binds (ps := ["value"]) fun _ _ _ _ _ _ us hl => match us, hl with | [_], _ => rfl
  have bf14 := Ff14.binds (ps := ["store"]) fun _ _ _ _ _ _ us hl => match us, hl with | [_], _ => rfl
  have bf15 := Ff15.binds (ps := ["store"]) fun _ _ _ _ _ _ us hl => match us, hl with | [_], _ => rfl
  have bf16 := Ff16.binds (ps := ["text"]) fun _ _ _ _ _ _ us hl => match us, hl with | [_], _ => rfl
  have bf17 := Ff17.binds (ps := ["text", "lines"]) fun _ _ _ _ _ _ us hl => match us, hl with | [_, _], _ => rfl
  have bf18 := Ff18.binds (ps := ["facts"]) fun _ _ _ _ _ _ us hl => match us, hl with | [_], _ => rfl
  have bf19 := Ff19.binds (ps := ["store", "words"]) fun _ _ _ _ _ _ us hl => match us, hl with | [_, _], _ => rfl
  have bf20 := Ff20.binds (ps := ["text"]) fun _ _ _ _ _ _ us hl => match us, hl with | [_], _ => rfl
  refine ⟨PySem.W.fnOf "law" "law" (defArgs sLaw) (defBody sLaw) (defScope sLaw) .none kVLw dcLw pmLw anLw cdLw ctLw, fun s v => .of_eq rfl, fun base _ _ => ?mn⟩
  case mn =>
    have gDr := ok_draw (P := l.prog) (w := w) (base := base) FDr B
    have gOn := ok_one FOn B gDr (m aDr) kDr bDr
    have gWo := ok_word FWo B gOn (m aOn) kOn bOn
    have gPl := ok_pool FPl B gWo (m aWo) kWo bWo
    have gf5 := ok_unks Ff5 B gDr (m aDr) kDr bDr
    have hf5 := as_unks gf5
    have gf6 := ok_kinds Ff6 B gDr (m aDr) kDr bDr gOn (m aOn) kOn bOn gPl (m aPl) kPl bPl
    have hf6 := as_kinds gf6
    have hDr := as_draw gDr
    have hPl := as_pool gPl
    have hDk := ok_deck (P := l.prog) (w := w) (base := base) FDk B
    have hOn := okW__law_one (P := l.prog) (w := w) (mg := mg) (base := base) FOn (z z_len) hDr (m aDr) kDr bDr
    have hf7 := okW__law_store (P := l.prog) (w := w) (mg := mg) (base := base) Ff7 (z z_range) (z z_tuple) (z z_sorted) (z z_set) hDr (m aDr) kDr bDr hOn (m aOn) kOn bOn
    have hf8 := okF_is_word (P := l.prog) (w := w) (mg := mg) (base := base) Ff8 (z z_isinstance) (z z_str) (z z_len) (z z_all) k_str (m g_LETTERS)
    have hf9 := okF_is_unknown (P := l.prog) (w := w) (mg := mg) (base := base) Ff9 (z z_isinstance) (z z_str) (z z_len) (z z_all) k_str (m g_DIGITS)
    have hf10 := okF_is_value (P := l.prog) (w := w) (mg := mg) (base := base) Ff10 hf8 (m af8) kf8 bf8 hf9 (m af9) kf9 bf9
    have hf11 := okF_is_fact (P := l.prog) (w := w) (mg := mg) (base := base) Ff11 (z z_isinstance) (z z_tuple) (z z_len) (z z_all) k_tuple hf8 (m af8) kf8 bf8 hf10 (m af10) kf10 bf10
    have hf12 := okF_may_follow (P := l.prog) (w := w) (mg := mg) (base := base) Ff12 (z z_len)
    have hf13 := okF_is_store (P := l.prog) (w := w) (mg := mg) (base := base) Ff13 (z z_isinstance) (z z_tuple) (z z_all) (z z_zip) k_tuple hf11 (m af11) kf11 bf11 hf12 (m af12) kf12 bf12
    have hf14 := okF_unknowns (P := l.prog) (w := w) (mg := mg) (base := base) Ff14 (z z_tuple) (z z_sorted) hf9 (m af9) kf9 bf9
    have hf15 := okF_store_text (P := l.prog) (w := w) (mg := mg) (base := base) Ff15 
    have hf16 := okF_text_lines (P := l.prog) (w := w) (mg := mg) (base := base) Ff16 
    have hf17 := okF_check_end (P := l.prog) (w := w) (mg := mg) (base := base) Ff17 (z z_len)
    have hf18 := okF_may_be_read (P := l.prog) (w := w) (mg := mg) (base := base) Ff18 (z z_len) (m g_MOST_FACTS) (m g_MOST_UNKNOWNS) hf13 (m af13) kf13 bf13 hf14 (m af14) kf14 bf14
    have hf19 := okF_fact_fault (P := l.prog) (w := w) (mg := mg) (base := base) Ff19 (z z_enumerate) (z z_len) (m g_MOST_VALUES) hf8 (m af8) kf8 bf8 hf10 (m af10) kf10 bf10 hf18 (m af18) kf18 bf18
    have hf20 := okF_read_store (P := l.prog) (w := w) (mg := mg) (base := base) Ff20 (z z_enumerate) (z z_tuple) hf16 (m af16) kf16 bf16 hf19 (m af19) kf19 bf19 hf17 (m af17) kf17 bf17
    exact okL_law FLw (z z_range) (z z_repr) (z z_list) hDk (m aDk) kDk bDk hPl (m aPl) kPl bPl hf5 (m af5) kf5 bf5 hf7 (m af7) kf7 bf7 hf6 (m af6) kf6 bf6 hOn (m aOn) kOn bOn hf15 (m af15) kf15 bf15 hf20 (m af20) kf20 bf20
end My

open PySem PySem.W PyProof.Rows
set_option maxRecDepth 100000 in
set_option maxHeartbeats 0 in
theorem PySem.Challenge.cw_corestore_k28_texts_of_stores_holds : PySem.Challenge.rw_corestore_k28_texts_of_stores.Holds := by
  w_on; o_law; k_head; (case hw => w_witness2)
  k_fill
  refine My.walk_g (l := PySem.Challenge.rw_corestore_k28_texts_of_stores) (k := 8) (x := "_law_script") (sp := My.spLaw) rfl rfl ⟨rfl, by decide, by decide⟩ (fun w h Y => PySem.W.kIn_of Y) ?F (fun K H a ns hl hS => ⟨a, ns, rfl, hS, hl, fun _ => rfl⟩)
  case F =>
    intro w mg fa h KX G hmg
    refine' My.all_mk KX G hmg ?aDk ?lDk ?cDk ?kDk ?aDr ?lDr ?cDr ?kDr ?aOn ?lOn ?cOn ?kOn ?aWo ?lWo ?cWo ?kWo ?aPl ?lPl ?cPl ?kPl ?af5 ?lf5 ?cf5 ?kf5 ?af6 ?lf6 ?cf6 ?kf6 ?af7 ?lf7 ?cf7 ?kf7 ?af8 ?lf8 ?cf8 ?kf8 ?af9 ?lf9 ?cf9 ?kf9 ?af10 ?lf10 ?cf10 ?kf10 ?af11 ?lf11 ?cf11 ?kf11 ?af12 ?lf12 ?cf12 ?kf12 ?af13 ?lf13 ?cf13 ?kf13 ?af14 ?lf14 ?cf14 ?kf14 ?af15 ?lf15 ?cf15 ?kf15 ?af16 ?lf16 ?cf16 ?kf16 ?af17 ?lf17 ?cf17 ?kf17 ?af18 ?lf18 ?cf18 ?kf18 ?af19 ?lf19 ?cf19 ?kf19 ?af20 ?lf20 ?cf20 ?kf20 ?aLw ?lLw ?cLw ?kLw ?z_abs ?z_all ?z_dict ?z_enumerate ?z_int ?z_isinstance ?z_len ?z_list ?z_range ?z_repr ?z_set ?z_sorted ?z_str ?z_tuple ?z_zip ?g_DIGITS ?g_LETTERS ?g_MOST_FACTS ?g_MOST_UNKNOWNS ?g_MOST_VALUES ?i_str_0 ?i_str_1 ?i_str_2 ?i_str_3 ?i_str_4 ?i_str_5 ?i_tuple_0 ?i_tuple_1 ?i_tuple_2 ?i_tuple_3 ?i_tuple_4 ?i_tuple_5
    (case g_DIGITS => k_is)
    (case g_LETTERS => k_is)
    (case g_MOST_FACTS => k_is)
    (case g_MOST_UNKNOWNS => k_is)
    (case g_MOST_VALUES => k_is)
    (case aDk => k_is)
    (case aDr => k_is)
    (case aOn => k_is)
    (case aWo => k_is)
    (case aPl => k_is)
    (case af5 => k_is)
    (case af6 => k_is)
    (case af7 => k_is)
    (case af8 => k_is)
    (case af9 => k_is)
    (case af10 => k_is)
    (case af11 => k_is)
    (case af12 => k_is)
    (case af13 => k_is)
    (case af14 => k_is)
    (case af15 => k_is)
    (case af16 => k_is)
    (case af17 => k_is)
    (case af18 => k_is)
    (case af19 => k_is)
    (case af20 => k_is)
    (case aLw => k_is)
    (case lDk => k_is)
    (case lDr => k_is)
    (case lOn => k_is)
    (case lWo => k_is)
    (case lPl => k_is)
    (case lf5 => k_is)
    (case lf6 => k_is)
    (case lf7 => k_is)
    (case lf8 => k_is)
    (case lf9 => k_is)
    (case lf10 => k_is)
    (case lf11 => k_is)
    (case lf12 => k_is)
    (case lf13 => k_is)
    (case lf14 => k_is)
    (case lf15 => k_is)
    (case lf16 => k_is)
    (case lf17 => k_is)
    (case lf18 => k_is)
    (case lf19 => k_is)
    (case lf20 => k_is)
    (case lLw => k_is)
    (case cDk => k_is)
    (case kDk => k_is)
    (case cDr => k_is)
    (case kDr => k_is)
    (case cOn => k_is)
    (case kOn => k_is)
    (case cWo => k_is)
    (case kWo => k_is)
    (case cPl => k_is)
    (case kPl => k_is)
    (case cf5 => k_is)
    (case kf5 => k_is)
    (case cf6 => k_is)
    (case kf6 => k_is)
    (case cf7 => k_is)
    (case kf7 => k_is)
    (case cf8 => k_is)
    (case kf8 => k_is)
    (case cf9 => k_is)
    (case kf9 => k_is)
    (case cf10 => k_is)
    (case kf10 => k_is)
    (case cf11 => k_is)
    (case kf11 => k_is)
    (case cf12 => k_is)
    (case kf12 => k_is)
    (case cf13 => k_is)
    (case kf13 => k_is)
    (case cf14 => k_is)
    (case kf14 => k_is)
    (case cf15 => k_is)
    (case kf15 => k_is)
    (case cf16 => k_is)
    (case kf16 => k_is)
    (case cf17 => k_is)
    (case kf17 => k_is)
    (case cf18 => k_is)
    (case kf18 => k_is)
    (case cf19 => k_is)
    (case kf19 => k_is)
    (case cf20 => k_is)
    (case kf20 => k_is)
    (case cLw => k_is)
    (case kLw => k_is)
    (case z_abs => k_is)
    (case z_all => k_is)
    (case z_dict => k_is)
    (case z_enumerate => k_is)
    (case z_int => k_is)
    (case z_isinstance => k_is)
    (case z_len => k_is)
    (case z_list => k_is)
    (case z_range => k_is)
    (case z_repr => k_is)
    (case z_set => k_is)
    (case z_sorted => k_is)
    (case z_str => k_is)
    (case z_tuple => k_is)
    (case z_zip => k_is)
    (case i_str_0 => kit_is)
    (case i_str_1 => kit_is)
    (case i_str_2 => kit_is)
    (case i_str_3 => kit_is)
    (case i_str_4 => kit_is)
    (case i_str_5 => kit_is)
    (case i_tuple_0 => kit_is)
    (case i_tuple_1 => kit_is)
    (case i_tuple_2 => kit_is)
    (case i_tuple_3 => kit_is)
    (case i_tuple_4 => kit_is)
    (case i_tuple_5 => kit_is)
    all_goals exact Value.none
