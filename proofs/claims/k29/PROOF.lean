import PyProof.Rows.All
import Wide.All
import OpenK.AllK
import Wide.FinOn
import HandS.ForMost
import HandS.ForExc
import HandS.Codes
import HandS.IsInst
import HandS.ExcInit
import HandS.ExcValue
import KE.KExcIs
import KE.KDictPairs
import HandS.Style
import HandS.TupAny
import KE.KRevSl
import HandS.Lambda
import KE.KDictKeyed
import HandS.TupSets
import HandS.SetBool
import HandS.SortOrd
import HandS.SortRule
import PyProof.Rows.SortKeyStr
import HandS.SetFor
import HandS.Strs
import HandS.SortInts
import KE.KeyNested
import KE.SortData
import HandS.Zip
import HandS.Text
import HandS.WordsDict
import HandS.More
import HandS.Small
import HandS.Iter
import HandS.TupMul
import PyProof.StrOps2
import HandS.Wide
import KE.GoesEnumKw
import KE.GoesNew
import HandS.DictComp
import KE.DataMinMax
import PyProof.ReprLen
import KE.DataCmp
import HandS.Replace
import HandS.ExcOwn
import HandS.TryOnly
import HandS.TryMany
import HandS.ExcIs
import HandS.ExcField
import HandS.ListEq
import HandS.DeepEq
import HandS.FStr
import HandS.Flow
import PySem.Challenge.RW_corestore_k29_other_texts
set_option Elab.async false
set_option maxRecDepth 100000
namespace My
open PySem PySem.Spec PyProof.Rows L2
def off (d : Addr) (H : Hp) : Hp := fun b => if b = d then none else H b
def Fr (d : Addr) (H H' : Hp) : Prop := ∀ b o, b ≠ d → H b = some o → H' b = some o
theorem Fr.refl (d : Addr) (H : Hp) : Fr d H H := fun _ _ _ h => h
theorem Fr.trans {d : Addr} {H H1 H2 : Hp} (a : Fr d H H1) (b : Fr d H1 H2) : Fr d H H2 := fun c o n h => b c o n (a c o n h)
theorem same_fr {d : Addr} {H H' : Hp} (a : Same H H') : Fr d H H' := fun c o _ h => a c o h
theorem Fr.off {d : Addr} {H H' : Hp} (a : Fr d H H') : Same (off d H) (off d H') := fun b o h => by
  unfold My.off at h ⊢
  by_cases e : b = d
  · rw [if_pos e] at h
    cases h
  · rw [if_neg e] at h ⊢
    exact a b o e h
theorem off_le {d : Addr} {H : Hp} : Same (off d H) H := fun b o h => by
  unfold off at h
  by_cases e : b = d
  · rw [if_pos e] at h
    cases h
  · rw [if_neg e] at h
    exact h
theorem off_at {d b : Addr} {H : Hp} {o : HO} (n : b ≠ d) (h : H b = some o) : off d H b = some o := by
  unfold off
  rw [if_neg n]
  exact h
theorem same_new {H : Hp} {p : Addr} {o : HO} (n : H p = none) : Same H (upd H p o) := fun b u h => by
  rw [upd_ne (ne_of_none h n)]
  exact h
theorem fr_upd {H : Hp} {d : Addr} {o : HO} : Fr d H (upd H d o) := fun b u n h => by
  rw [upd_ne n]
  exact h
theorem same_seqT {K : PySem.W.Frag} {H H' : Hp} {a : Addr} {xs : List V} (e : Same H H') (h : SqT K H a xs) : SqT K H' a xs := by
  rcases h with (h | ⟨o, h⟩) | h
  · exact .inl (.inl (e _ _ h))
  · exact .inl (.inr ⟨o, e _ _ h⟩)
  · exact .inr h
section
variable {K : PySem.W.Frag} {H H' : Hp}
mutual
theorem dp_noDict : ∀ (d : PyData) (v : V), Dp K H v d → d.hasDict = false
  | .none, _, _ => by simp only [PyData.hasDict]
  | .bool _, _, _ => by simp only [PyData.hasDict]
  | .int _, _, _ => by simp only [PyData.hasDict]
  | .str _, _, _ => by simp only [PyData.hasDict]
  | .list ds, _, h => by
    cases h with
    | lst hs ha => simp only [PyData.hasDict]; exact dps_noDict ds _ ha
  | .tuple ds, _, h => by
    cases h with
    | tup hs ha => simp only [PyData.hasDict]; exact dps_noDict ds _ ha
  | .dict _, _, h => by cases h
theorem dps_noDict : ∀ (ds : List PyData) (vs : List V), DpAll K H vs ds → PyData.hasDictAll ds = false
  | [], _, _ => by simp only [PyData.hasDictAll]
  | d :: ds, _, h => by
    cases h with
    | cons h1 h2 => simp only [PyData.hasDictAll, dp_noDict d _ h1, dps_noDict ds _ h2, Bool.or_false]
end
end
def rRepr (K : PySem.W.Frag) : List V → Hp → VK → Prop := fun xs H Q => ∃ (x : V) (d : PyData), xs = [x] ∧ Dp K H x d ∧ d.showable = true ∧ d.depth ≤ 60 ∧ d.shown.length ≤ sizeLine ∧ Q (.str d.shown) H
theorem cr_repr {X : Cx} (hg : X.A.guards = some []) (hu : X.A.units + 64 < cLine) : CallR X (.builtin "repr") (rRepr X.K) := by
  intro pins s σ H xs us Q I r h
  obtain ⟨x, d, rfl, hd, hs, hz, hl, q⟩ := h
  obtain ⟨u, rfl, ru⟩ := vals1 r
  obtain ⟨as, rd⟩ := Dp.reads I d x u hd ru
  have nd := dp_noDict d x hd
  cases hd with
  | non =>
    cases (show u = Value.none from ru)
    have e : (PyData.none).shown = ("None" : Str) := by simp only [PyData.shown]
    rw [e] at q
    exact PySem.P.repr_of_none ⟨.str _, H, I.tok _, ⟨_, rfl⟩, q⟩
  | bl b =>
    cases (show u = Value.bool b from ru)
    have e : (PyData.bool b).shown = (if b then Str.ofString "True" else Str.ofString "False") := by simp only [PyData.shown]
    rw [e] at q
    exact PySem.P.repr_of_bool ⟨.str _, H, I.tok _, ⟨_, rfl⟩, q⟩
  | int i =>
    obtain ⟨t, rfl⟩ := (show ∃ t, u = Value.int i t from ru)
    have e : (PyData.int i).shown = (toString i : String) := by simp only [PyData.shown]
    rw [e] at q
    exact PySem.P.repr_of_int (by simpa [PyData.showable] using hs) ⟨.str _, H, I.tok _, ⟨_, rfl⟩, q⟩
  | str z =>
    obtain ⟨t, rfl⟩ := (show ∃ t, u = Value.str z t from ru)
    have e : (PyData.str z).shown = reprText z := by simp only [PyData.shown]
    rw [e] at q hl
    exact PySem.P.repr_of_str ⟨.str _, H, I.tok _, ⟨_, rfl⟩, q⟩ hl
  | @lst a xs ds h1 h2 =>
    cases (show u = Value.ref a from ru)
    exact repr_of_reads' (h₀ := s.heap) rd hs (PyData.noDict_hsm nd) hg (by omega) (fun _ _ e => e) (fun h' u tk hk => ⟨.str _, H, I.kept hk, ⟨u, rfl⟩, q⟩) hl
  | @tup a xs ds h1 h2 =>
    cases (show u = Value.ref a from ru)
    exact repr_of_reads' (h₀ := s.heap) rd hs (PyData.noDict_hsm nd) hg (by omega) (fun _ _ e => e) (fun h' u tk hk => ⟨.str _, H, I.kept hk, ⟨u, rfl⟩, q⟩) hl
end My
namespace My
open PySem PySem.Spec PyProof.Rows L2
structure RunG (P : Program) (w : World) (K : PySem.W.Frag) (mg : Str → Option Value) (base : Heap) (k : Nat) (f : Addr) (fd : FuncData) (ps : List Str) (sp : Sp) : Prop where
  len : ∀ vs H Q E, sp vs H Q E → vs.length = ps.length
  go : ∀ (A : Around) (outer : List Env) (s : Shared) (H : Hp) (args : Args) (us : List Value) (vs : List V) (Q : VK) (E : XK), A.guards = some [] → Room k A → Env0 P w K mg base A outer s H →
    BindsTo s fd args (ps.zip us) → Vals vs us → sp vs H Q E → codeAny (model P w) A (.call (.ref f) args) (CR CX0 outer P w H s Q E) s
section
variable {P : Program} {w : World} {K : PySem.W.Frag} {mg : Str → Option Value} {base : Heap}
theorem runG {x qual : Str} {st : Stmt} {f : Addr} {fd : FuncData} {N ps : List Str} {k : Nat} {sp : Sp} (F : Fun K x qual st f fd) (S : FnScope N ps (defScope st)) (len : ∀ vs H Q E, sp vs H Q E → vs.length = ps.length)
    (hbody : ∀ (cdv : Value) (A : Around) (outer : List Env) (s : Shared) (H : Hp) (vs : List V) (Q : VK) (E : XK), A.guards = some [] → Room k (A.deeper (envOfC qual (defScope st) s.heap.objs.size f cdv)) → sp vs H Q E →
      ∃ t, PSs (cxOf CX0 P w K mg base N qual (defScope st) f cdv A outer s H E).nox (defBody st) t ∧ t { nx := fun _ H' => Q .non H', rt := Q } (L2.start N vs) H) : RunG P w K mg base (k + 1) f fd ps sp := by
  refine ⟨len, fun A outer s H args us vs Q E hgu hr e0 hb r hsp => ?_⟩
  obtain ⟨oc, od, kV, doc, pm, an, cdv, ct, osl, rfl, lk, hcd⟩ := F.ex
  have up : ∀ b o, base.get? b = some o → s.heap.get? b = some o := fun b o e => (e0.bs b o e).1
  have KX : K.In s.heap := e0.mod.kin.keeps up
  have hkind : ∀ y ∈ ps.zip us, (defScope st).names.lookup y.1 = some .local ∨ ((defScope st).names.lookup y.1 = some .cell ∧ ((cellsFrom (s.heap.objs.size + 1) (defScope st).names []).lookup y.1).isSome = true) := by
    rintro ⟨n, v⟩ hy
    exact (S.par n (List.of_mem_zip hy).1).imp id fun q => ⟨q, PySem.W.cellsFrom_some _ _ _ (.inl q)⟩
  refine codeAny_call_function hr.depth (KX _ _ lk) rfl S.co S.gen rfl (PySem.W.codeRec_of KX hcd) (hb _ _ _ _ (wpAny_newFunctionEnv_cells S.kind hkind fun env he s1 x => ?_))
  subst he
  refine ⟨(e0.mod.nolimit.keeps up).keeps x.toInCall.keep, codeAny_func ?_⟩
  obtain ⟨t, ht, hq⟩ := hbody cdv A outer s H vs Q E hgu (hr.deeper _) hsp
  refine wpAny_mono (ht.nox.run [] s1 _ H _ (inv_start S hr.hd e0 (len _ _ _ _ hsp) r x) hq) (fun fl s' hs => ?_) fun _ _ hs => hs
  cases fl with
  | ret u => exact hs.elim fun v ⟨σ', H', J, rv, q⟩ => ⟨v, H', J.os, J.bare, J.base, J.hok, rv, q⟩
  | next => exact hs.elim fun σ' ⟨H', J, q⟩ => ⟨V.non, H', J.os, J.bare, J.base, J.hok, rfl, q⟩
  | brk => exact hs.elim fun _ ⟨_, _, q⟩ => q.elim
  | cont => exact hs.elim fun _ ⟨_, _, q⟩ => q.elim
theorem entry_heap {s : Shared} {a : Addr} {vs : List Value} {ns : List Int} (KX : K.In s.heap) (ha : s.heap.get? a = some { cls := .type "list", data := .seq vs.toArray }) (hi : IntsAre vs ns) (hl : ns.length ≤ sizeLine) :
    ∃ H : Hp, Only H ∧ SqL K H a (ns.map V.int) ∧ HOk P w H s.heap ∧ ∀ b u, H b = some u → b = a ∧ K.lookup b = none := by
  cases hk : K.lookup a with
  | some o =>
    have e := KX a o hk
    rw [ha] at e
    cases e
    have none_ : ∀ (b : Addr) (u : HO), (fun _ : Addr => (Option.none : Option HO)) b = some u → False := fun b u z => nomatch z
    exact ⟨fun _ => none, fun _ => .inl rfl, .inr ⟨_, vs.toArray, _, hk, rfl, rfl, rfl, by rw [List.size_toArray, hi.length]; exact hl, by simpa using vals_ints hi⟩, fun b u z => (none_ b u z).elim, fun b u z => (none_ b u z).elim⟩
  | none =>
    have at_ : ∀ {b : Addr} {u : HO}, (if b = a then some (HO.frz { cls := .type "list", data := .seq vs.toArray } (.lst (ns.map V.int))) else none) = some u → b = a ∧ u = HO.frz { cls := .type "list", data := .seq vs.toArray } (.lst (ns.map V.int)) := by
      intro b u z
      by_cases hb : b = a
      · rw [if_pos hb] at z
        exact ⟨hb, (Option.some.inj z).symm⟩
      · rw [if_neg hb] at z
        cases z
    refine ⟨fun b => if b = a then some (.frz { cls := .type "list", data := .seq vs.toArray } (.lst (ns.map V.int))) else none, fun b => ?_, .inl (.inr ⟨_, if_pos rfl⟩), fun b u z => ?_, fun b u z => ⟨(at_ z).1, by rw [(at_ z).1]; exact hk⟩⟩
    · by_cases hb : b = a
      · exact .inr ⟨_, _, if_pos hb⟩
      · exact .inl (if_neg hb)
    · obtain ⟨rfl, rfl⟩ := at_ z
      exact ⟨ha, by rw [List.length_map]; exact hl, vs, _, vals_ints hi, ha⟩
theorem law_at {mb : Str → Option Value} {k : Nat} {fa a : Addr} {fd : FuncData} {x : Str} {sp : Sp} {s : Shared} {vs : List Value} {ns : List Int} (KX : K.In s.heap) (hns : s.heap.Ns mainGlobals mg) (hb : s.heap.Ns builtinsNs mb)
    (hbb : ∀ x : Str, x ≠ "__name__" → mb x = bootBuiltins x) (hlim : s.heap.NoLimit) (hg : s.gens = #[]) (ha : s.heap.get? a = some { cls := .type "list", data := .seq vs.toArray }) (hi : IntsAre vs ns) (hl : ns.length ≤ sizeLine)
    (hr : Room k callerA) (F : ∀ base : Heap, K.In base → base.Ns mainGlobals mg → RunG P w K mg base k fa fd [x] sp) (hbind : ∀ (s : Shared) (u : Value), BindsTo s fd ⟨[u], []⟩ [(x, u)])
    (hsp : ∀ H : Hp, Only H → SqL K H a (ns.map V.int) → sp [.ref a] H (fun v _ => v = .bl true) fun _ _ _ => False) :
    codeAny (model P w) callerA (.call (.ref fa) ⟨[.ref a], []⟩) (fun r s' => r = .ok (.ret (.bool true)) ∧ OldK s.heap s'.heap ∧ s'.os = s.os ∧ AllBare s'.gens) s := by
  obtain ⟨H, hO, hS, hok, hA⟩ := entry_heap (P := P) (w := w) KX ha hi hl
  have clear : ∀ {b : Addr}, (∀ u, H b = some u → False) → H b = none := fun {b} z => by
    cases q : H b with
    | none => rfl
    | some u => exact (z u q).elim
  have nsK : ∀ {b : Addr} {m : Str → Option Value}, s.heap.Ns b m → (hidT s.heap H).Ns b m := fun {b m} ⟨o, es, ep, e, dt, r⟩ => ⟨o, es, ep, hidT_get e (clear fun u q => by
    obtain ⟨rfl, _⟩ := hA b u q
    rw [ha] at e
    cases e
    cases dt), dt, r⟩
  have hKb : K.In (hidT s.heap H) := fun b o e => hidT_get (KX b o e) (clear fun u q => by
    rw [(hA b u q).2] at e
    cases e)
  obtain ⟨mc, l1, l2⟩ := hlim
  have e0 : Env0 P w K mg (hidT s.heap H) callerA [] s H := ⟨rfl, ⟨hKb, nsK hns, ⟨mb, nsK hb, hbb⟩, ⟨mc, nsK l1, l2⟩⟩, fun b o e => of_hidT e, Nat.le_of_eq (hidT_size _ _), trivial, (fun b z => nomatch z), hok, .of_eq hg⟩
  refine codeAny_mono ((F _ hKb (nsK hns)).go callerA [] s H ⟨[.ref a], []⟩ [.ref a] [.ref a] _ _ rfl hr e0 (hbind s (.ref a)) (.cons rfl .nil) (hsp H hO hS)) fun r s' h => ?_
  cases r with
  | error e => exact h.elim
  | ok fl =>
    cases fl with
    | next => exact h.elim
    | brk => exact h.elim
    | cont => exact h.elim
    | ret u =>
      obtain ⟨v, H', os, bare, un, hok', rv, q⟩ := h
      cases (show v = .bl true from q)
      cases (show u = Value.bool true from rv)
      refine ⟨rfl, OldK.of_keep fun b o e => ?_, os, bare⟩
      cases q : H b with
      | none => exact un.keep b o e q (fun z => nomatch z) (fun z => nomatch z)
      | some u =>
        rcases hO b with z | ⟨ob, xs, z⟩
        · rw [q] at z
          cases z
        · have e1 := (hok b _ z).1
          rw [e] at e1
          cases e1
          exact (hok' b _ (un.frzs b o _ z)).1
end
end My
namespace My
open PySem PySem.Spec PyProof.Rows L2
structure Blt (mg : Str → Option Value) : Prop where
  int : mg "int" = none
  len : mg "len" = none
  abs : mg "abs" = none
  list : mg "list" = none
  range : mg "range" = none
  repr : mg "repr" = none
structure Deck (H : Hp) (d l : Addr) (ns : List Int) (k : Nat) : Prop where
  ex : ∃ i r n : Int, H d = some (.lst [.ref l, .int i, .int r, .int n]) ∧ 0 ≤ n ∧ n ≤ k
  cells : H l = some (.lst (ns.map V.int))
theorem Deck.ne {H : Hp} {d l : Addr} {ns : List Int} {k : Nat} (D : Deck H d l ns k) : l ≠ d := by
  intro e
  obtain ⟨⟨i, r, n, h, _⟩, c⟩ := D
  rw [e, h] at c
  have c' := HO.lst.inj (Option.some.inj c)
  cases ns with
  | nil => cases c'
  | cons z zs => cases (List.cons.inj c').1
theorem Deck.mono {H : Hp} {d l : Addr} {ns : List Int} {k j : Nat} (D : Deck H d l ns k) (h : k ≤ j) : Deck H d l ns j := by
  obtain ⟨⟨i, r, n, e, h0, h1⟩, c⟩ := D
  exact ⟨⟨i, r, n, e, h0, by omega⟩, c⟩
theorem Deck.same {H H' : Hp} {d l : Addr} {ns : List Int} {k : Nat} (D : Deck H d l ns k) (e : Same H H') : Deck H' d l ns k := by
  obtain ⟨⟨i, r, n, h, hn⟩, c⟩ := D
  exact ⟨⟨i, r, n, e _ _ h, hn⟩, e _ _ c⟩
theorem Deck.upd {H : Hp} {d l b : Addr} {ns : List Int} {k : Nat} {o : HO} (D : Deck H d l ns k) (hd : b ≠ d) (hl : b ≠ l) : Deck (upd H b o) d l ns k := by
  obtain ⟨⟨i, r, n, e, z⟩, c⟩ := D
  exact ⟨⟨i, r, n, by rw [upd_ne (Ne.symm hd)]; exact e, z⟩, by rw [upd_ne (Ne.symm hl)]; exact c⟩
theorem Deck.nd {H : Hp} {d l b : Addr} {ns : List Int} {k : Nat} (D : Deck H d l ns k) (n : H b = none) : b ≠ d ∧ b ≠ l := by
  obtain ⟨⟨i, r, m, e, z⟩, c⟩ := D
  exact ⟨Ne.symm (ne_of_none e n), Ne.symm (ne_of_none c n)⟩
end My
namespace My
open PySem PySem.Spec PyProof.Rows L2
def KTup (a : Addr) (ys : List V) (o : HO) : Prop := ∃ (its : List Value) (n : Nat), o = .frz { cls := .type "tuple", data := .seq its.toArray n } (.tup ys)
theorem KTup.rd {K : PySem.W.Frag} {H : Hp} {a : Addr} {ys : List V} {o : HO} (h : KTup a ys o) (e : H a = some o) : SqT K H a ys := by
  obtain ⟨its, n, rfl⟩ := h
  exact .inl (.inr ⟨_, e⟩)
section
variable {X : Cx}
theorem ktup_new {P : Program} {w : World} {H : Hp} {h : Heap} {ys : List V} {its : List Value} {a : Addr} {n : Nat} (hz : ys.length ≤ sizeLine) (r : Vals ys its) (e : h.get? a = some { cls := .type "tuple", data := .seq its.toArray n }) :
    ObjOk P w H h a (.frz { cls := .type "tuple", data := .seq its.toArray n } (.tup ys)) := ⟨e, hz, its, r, ⟨_, e, rfl, _, rfl⟩⟩
def rTupK (K : PySem.W.Frag) : List V → Hp → VK → Prop := fun xs H Q => ∃ p ys, xs = [.ref p] ∧ SqL K H p ys ∧ ∀ (l : Addr) (o : HO), H l = none → KTup l ys o → Q (.ref l) (upd H l o)
theorem call_tupK : CallR X (.type "tuple") (rTupK X.K) := by
  intro pins s σ H xs us Q I r h
  obtain ⟨p, ys, rfl, hq, q⟩ := h
  obtain ⟨u, rfl, rx⟩ := vals1 r
  cases (show u = Value.ref p from rx)
  obtain ⟨its, r', pl, hz⟩ := I.list hq
  have hl := r'.length
  refine call_tuple_list pl.isList (fun h' kp => ?_) (by simp only [List.size_toArray]; omega)
  have I1 : Inv X pins σ H { s with heap := h' } := I.kept (t' := s.toks) kp
  exact ⟨.ref h'.objs.size, _, I1.laid (t' := s.toks) (fun b o e => Heap.get?_push_of_some _ e) (Nat.le_refl _) (ktup_new hz r' (Heap.get?_push_size _ rfl)), rfl, q _ _ (I1.hok.fresh (Nat.le_refl _)) ⟨_, _, rfl⟩⟩
end
end My
namespace My
open PySem PySem.Spec PyProof.Rows L2
def Pl (K : PySem.W.Frag) (H : Hp) (a : Addr) : Prop := (∃ (o : Obj) (u : HO), H a = some (.frz o u) ∧ o.dict = none) ∨ ∃ o : Obj, K.lookup a = some o ∧ o.dict = none
theorem Pl.same {K : PySem.W.Frag} {H H' : Hp} {a : Addr} (s : Same H H') (h : Pl K H a) : Pl K H' a := by
  rcases h with ⟨o, u, e, d⟩ | h
  · exact .inl ⟨o, u, s _ _ e, d⟩
  · exact .inr h
theorem KTup.pl {K : PySem.W.Frag} {H : Hp} {a : Addr} {ys : List V} {o : HO} (h : KTup a ys o) (e : H a = some o) : Pl K H a := by
  obtain ⟨its, n, rfl⟩ := h
  exact .inl ⟨_, _, e, rfl⟩
theorem KTup.nt {a : Addr} {ys : List V} {o : HO} (h : KTup a ys o) : (∀ xs, o ≠ .lst xs) ∧ ∀ kv, o ≠ .dK kv := by
  obtain ⟨its, n, rfl⟩ := h
  exact ⟨fun _ e => (nomatch e), fun _ e => (nomatch e)⟩
section
variable {X : Cx}
def tTupK (t : TA) : TE := fun σ H Q => t σ H fun xs H1 => xs.length ≤ sizeLine ∧ ∀ (p : Addr) (o : HO), H1 p = none → KTup p xs o → Q (.ref p) (upd H1 p o)
theorem pe_tupK {es : List Expr} {t : TA} {pos : Pos} {x1} (h : PA X es t) : PE X (.Tuple es x1 pos) (tTupK t) := by
  refine ⟨fun pins s σ H Q I hq => ?_⟩
  refine wpAny_Tuple_spliced (thn (h.run pos pins s σ H _ I hq) fun us s1 ⟨xs, H1, I1, r, z, q⟩ => ⟨by rw [← r.length]; exact z, ?_⟩)
  exact ⟨.ref s1.heap.objs.size, _, I1.laid (t' := s1.toks) (fun b u e => Heap.get?_push_of_some _ e) (Nat.le_refl _) (ktup_new (n := 0) z r (Heap.get?_push_size _ rfl)), rfl, q _ _ (I1.hok.fresh (Nat.le_refl _)) ⟨_, _, rfl⟩⟩
def rCatK (K : PySem.W.Frag) : R2 := fun x y H Q => ∃ a b xs ys, x = .ref a ∧ y = .ref b ∧ SqT K H a xs ∧ SqT K H b ys ∧ xs.length + ys.length ≤ sizeLine ∧
  (xs = [] → Q (.ref b) H) ∧ (xs ≠ [] → ys = [] → Q (.ref a) H) ∧ (xs ≠ [] → ys ≠ [] → ∀ (p : Addr) (o : HO), H p = none → KTup p (xs ++ ys) o → Q (.ref p) (upd H p o))
theorem op_catK : OpR X (binaryOp .Add) (rCatK X.K) := by
  intro pins s σ H x y v u Q I rx ry h
  obtain ⟨a, b, xs, ys, rfl, rfl, ha, hb, hz, q0, q1, q2⟩ := h
  by_cases hx : xs = []
  · subst hx
    cases rx
    cases ry
    obtain ⟨its, r1, p1, _⟩ := I.tuple ha
    obtain ⟨its2, r2, p2, _⟩ := I.tuple hb
    cases r1
    exact cat_tup0 p1 p2 ⟨.ref b, H, I, rfl, q0 rfl⟩
  · cases rx
    cases ry
    obtain ⟨its, r1, p1, _⟩ := I.tuple ha
    obtain ⟨its2, r2, p2, _⟩ := I.tuple hb
    refine HT.cat_tup p1 p2 (fun z => hx (r1.nil_iff.mp z)) (fun z => ⟨.ref a, H, I, rfl, q1 hx (r2.nil_iff.mp z)⟩) (fun z => ?_) (by rw [← r1.length, ← r2.length]; exact hz)
    exact ⟨.ref s.heap.objs.size, _, I.laid (t' := s.toks) (fun b ob q => Heap.get?_push_of_some _ q) (Nat.le_refl _) (ktup_new (n := 0) (by rw [List.length_append]; exact hz) (r1.append r2) (Heap.get?_push_size _ rfl)), rfl, q2 hx (fun w => z (r2.nil_iff.mpr w)) _ _ (I.hok.fresh (Nat.le_refl _)) ⟨_, _, rfl⟩⟩
def rSlK (K : PySem.W.Frag) : V → Option Int → Option Int → Hp → VK → Prop := fun x lo hi H Q => ∃ a xs, x = .ref a ∧ SqT K H a xs ∧
  (HT.sIx xs.length 0 lo = 0 ∧ HT.sIx xs.length xs.length hi = xs.length → Q (.ref a) H) ∧ (¬ (HT.sIx xs.length 0 lo = 0 ∧ HT.sIx xs.length xs.length hi = xs.length) → ∀ (p : Addr) (o : HO), H p = none → KTup p (cutV xs lo hi) o → Q (.ref p) (upd H p o))
theorem sl_tupK : L2.SlR X (rSlK X.K) := by
  intro pins s σ H x v vl vu lo hi sl Q I rx hs pl pu h
  obtain ⟨a, xs, rfl, hx, q1, q2⟩ := h
  cases rx
  obtain ⟨its, r, ht, hz⟩ := I.tuple hx
  have hlen : its.toArray.size = xs.length := by rw [List.size_toArray]; exact r.length.symm
  refine ⟨"tuple", _, PyProof.Rows.slot_tuple_getitem.lookup, ht.typeIs, ?_⟩
  by_cases hw : HT.sIx xs.length 0 lo = 0 ∧ HT.sIx xs.length xs.length hi = xs.length
  · exact getItem_tuple_whole ht hs pl pu (by rw [hlen]; exact hw) ⟨.ref a, H, I, rfl, q1 hw⟩
  · refine HT.getItem_tuple_cut ht hs pl pu (by rw [hlen]; exact hw) ?_ (by rw [hlen]; exact hz)
    rw [hlen]
    exact ⟨.ref s.heap.objs.size, _, I.laid (t' := s.toks) (fun b ob q => Heap.get?_push_of_some _ q) (Nat.le_refl _) (ktup_new (n := 0) (Nat.le_trans (cutV_length xs lo hi) hz) ((r.drop (HT.sIx xs.length 0 lo)).take (HT.sIx xs.length xs.length hi - HT.sIx xs.length 0 lo)) (Heap.get?_push_size _ rfl)), rfl, q2 hw _ _ (I.hok.fresh (Nat.le_refl _)) ⟨_, _, rfl⟩⟩
def rTupU (K : PySem.W.Frag) : List V → Hp → VK → Prop := fun xs H Q => rTupK K xs H Q ∨ ∃ a ys, xs = [.ref a] ∧ SqT K H a ys ∧ Q (.ref a) H
end
end My
namespace My
open PySem PySem.Spec PyProof.Rows L2
def kD : Key → PyData
  | .inl i => .int i
  | .inr x => .str x
def pairLike : PyData → Bool
  | .tuple [_, _] => true
  | _ => false
def dictable (ds : List PyData) : Bool := ds.all pairLike
mutual
inductive Rp (K : PySem.W.Frag) (H : Hp) : V → PyData → Prop
  | non : Rp K H .non .none
  | bl (b : Bool) : Rp K H (.bl b) (.bool b)
  | int (i : Int) : Rp K H (.int i) (.int i)
  | str (x : Str) : Rp K H (.str x) (.str x)
  | lst {a : Addr} {xs : List V} {ds : List PyData} : H a = some (.lst xs) → RpAll K H xs ds → Rp K H (.ref a) (.list ds)
  | tup {a : Addr} {xs : List V} {ds : List PyData} : SqT K H a xs → RpAll K H xs ds → (dictable ds = true → Pl K H a) → Rp K H (.ref a) (.tuple ds)
  | dic {a : Addr} {o : Obj} {kvs : List (Key × V)} {ds : List (PyData × PyData)} : H a = some (.frz o (.dK kvs)) → RpKvs K H kvs ds → Rp K H (.ref a) (.dict ds)
inductive RpAll (K : PySem.W.Frag) (H : Hp) : List V → List PyData → Prop
  | nil : RpAll K H [] []
  | cons {v : V} {vs : List V} {d : PyData} {ds : List PyData} : Rp K H v d → RpAll K H vs ds → RpAll K H (v :: vs) (d :: ds)
inductive RpKvs (K : PySem.W.Frag) (H : Hp) : List (Key × V) → List (PyData × PyData) → Prop
  | nil : RpKvs K H [] []
  | cons {k : Key} {v : V} {kvs : List (Key × V)} {d : PyData} {ds : List (PyData × PyData)} : Rp K H v d → RpKvs K H kvs ds → RpKvs K H ((k, v) :: kvs) ((kD k, d) :: ds)
end
section
variable {K : PySem.W.Frag} {H H' : Hp}
mutual
theorem Rp.same (e : Same H H') : ∀ (d : PyData) (v : V), Rp K H v d → Rp K H' v d
  | .none, _, h => by cases h; exact .non
  | .bool _, _, h => by cases h; exact .bl _
  | .int _, _, h => by cases h; exact .int _
  | .str _, _, h => by cases h; exact .str _
  | .list ds, _, h => by
    cases h with
    | lst hs ha => exact .lst (e _ _ hs) (RpAll.same e ds _ ha)
  | .tuple ds, _, h => by
    cases h with
    | tup hs ha hp => exact .tup (same_seqT e hs) (RpAll.same e ds _ ha) fun c => (hp c).same e
  | .dict ds, _, h => by
    cases h with
    | dic hs ha => exact .dic (e _ _ hs) (RpKvs.same e ds _ ha)
theorem RpAll.same (e : Same H H') : ∀ (ds : List PyData) (vs : List V), RpAll K H vs ds → RpAll K H' vs ds
  | [], _, h => by cases h; exact .nil
  | d :: ds, _, h => by
    cases h with
    | cons h1 h2 => exact .cons (Rp.same e d _ h1) (RpAll.same e ds _ h2)
theorem RpKvs.same (e : Same H H') : ∀ (ds : List (PyData × PyData)) (kvs : List (Key × V)), RpKvs K H kvs ds → RpKvs K H' kvs ds
  | [], _, h => by cases h; exact .nil
  | (k, d) :: ds, _, h => by
    cases h with
    | cons h1 h2 => exact .cons (Rp.same e d _ h1) (RpKvs.same e ds _ h2)
end
theorem RpAll.len : ∀ {ds : List PyData} {vs : List V}, RpAll K H vs ds → vs.length = ds.length
  | [], _, h => by cases h; rfl
  | d :: ds, _, h => by
    cases h with
    | cons h1 h2 => rw [List.length_cons, List.length_cons, RpAll.len h2]
theorem RpAll.get : ∀ {ds : List PyData} {vs : List V} {j : Nat} {v : V}, RpAll K H vs ds → vs[j]? = some v → ∃ d, ds[j]? = some d ∧ Rp K H v d
  | [], _, j, v, h, e => by cases h; simp at e
  | d :: ds, _, j, v, h, e => by
    cases h with
    | cons h1 h2 =>
      cases j with
      | zero =>
        simp at e
        subst e
        exact ⟨d, rfl, h1⟩
      | succ j =>
        obtain ⟨z, hz, hd⟩ := RpAll.get (j := j) (v := v) h2 (by simpa using e)
        exact ⟨z, by simpa using hz, hd⟩
theorem RpAll.at : ∀ {ds : List PyData} {vs : List V} {j : Nat} {d : PyData}, RpAll K H vs ds → ds[j]? = some d → ∃ v, vs[j]? = some v ∧ Rp K H v d
  | [], _, j, v, h, e => by simp at e
  | d :: ds, _, j, v, h, e => by
    cases h with
    | @cons v0 vs0 _ _ h1 h2 =>
      cases j with
      | zero =>
        simp at e
        subst e
        exact ⟨v0, rfl, h1⟩
      | succ j =>
        obtain ⟨z, hz, hd⟩ := RpAll.at (j := j) h2 (by simpa using e)
        exact ⟨z, by simpa using hz, hd⟩
theorem RpAll.app : ∀ {ds es : List PyData} {vs us : List V}, RpAll K H vs ds → RpAll K H us es → RpAll K H (vs ++ us) (ds ++ es)
  | [], _, _, _, h, g => by cases h; exact g
  | d :: ds, _, _, _, h, g => by
    cases h with
    | cons h1 h2 => exact .cons h1 (RpAll.app h2 g)
theorem RpAll.drop : ∀ {ds : List PyData} {vs : List V} (n : Nat), RpAll K H vs ds → RpAll K H (vs.drop n) (ds.drop n)
  | _, _, 0, h => h
  | [], _, n + 1, h => by cases h; exact .nil
  | d :: ds, _, n + 1, h => by
    cases h with
    | cons h1 h2 => exact RpAll.drop n h2
theorem RpAll.take : ∀ {ds : List PyData} {vs : List V} (n : Nat), RpAll K H vs ds → RpAll K H (vs.take n) (ds.take n)
  | _, _, 0, h => .nil
  | [], _, n + 1, h => by cases h; exact .nil
  | d :: ds, _, n + 1, h => by
    cases h with
    | cons h1 h2 => exact .cons h1 (RpAll.take n h2)
mutual
def flatD : PyData → Bool
  | .list ds => flatAll ds
  | .tuple ds => flatAll ds
  | .dict _ => false
  | _ => true
def flatAll : List PyData → Bool
  | [] => true
  | d :: ds => flatD d && flatAll ds
end
mutual
theorem Rp.dp : ∀ (d : PyData) (v : V), flatD d = true → Rp K H v d → Dp K H v d
  | .none, _, _, h => by cases h; exact .non
  | .bool _, _, _, h => by cases h; exact .bl _
  | .int _, _, _, h => by cases h; exact .int _
  | .str _, _, _, h => by cases h; exact .str _
  | .list ds, _, f, h => by
    cases h with
    | lst hs ha => exact .lst (.inl (.inl hs)) (RpAll.dp ds _ (by simpa only [flatD] using f) ha)
  | .tuple ds, _, f, h => by
    cases h with
    | tup hs ha _ => exact .tup hs (RpAll.dp ds _ (by simpa only [flatD] using f) ha)
  | .dict ds, _, f, h => by simp only [flatD] at f; cases f
theorem RpAll.dp : ∀ (ds : List PyData) (vs : List V), flatAll ds = true → RpAll K H vs ds → DpAll K H vs ds
  | [], _, _, h => by cases h; exact .nil
  | d :: ds, _, f, h => by
    cases h with
    | cons h1 h2 =>
      simp only [flatAll, Bool.and_eq_true] at f
      exact .cons (Rp.dp d _ f.1 h1) (RpAll.dp ds _ f.2 h2)
end
end
def hid (O : Addr → Bool) (H : Hp) : Hp := fun b => if O b = true then none else H b
theorem hid_le {O : Addr → Bool} {H : Hp} : Same (hid O H) H := fun b o h => by
  unfold hid at h
  by_cases c : O b = true
  · rw [if_pos c] at h
    cases h
  · rw [if_neg c] at h
    exact h
theorem hid_at {O : Addr → Bool} {H : Hp} {b : Addr} {o : HO} (n : O b = false) (h : H b = some o) : hid O H b = some o := by
  unfold hid
  rw [if_neg (by rw [n]; decide)]
  exact h
theorem hid_out {O : Addr → Bool} {H : Hp} {b : Addr} {o : HO} (h : hid O H b = some o) : O b = false := by
  unfold hid at h
  by_cases c : O b = true
  · rw [if_pos c] at h
    cases h
  · exact Bool.eq_false_iff.mpr c
theorem hid_upd {O : Addr → Bool} {H : Hp} {p : Addr} {o : HO} (h : O p = true) : hid O (upd H p o) = hid O H := by
  funext b
  unfold hid
  by_cases c : O b = true
  · rw [if_pos c, if_pos c]
  · rw [if_neg c, if_neg c, upd_ne (fun e => c (by rw [e]; exact h))]
def add (O : Addr → Bool) (p : Addr) : Addr → Bool := fun b => O b || decide (b = p)
theorem add_self {O : Addr → Bool} {p : Addr} : add O p p = true := by
  unfold add
  rw [decide_eq_true rfl, Bool.or_true]
theorem add_of {O : Addr → Bool} {p b : Addr} (h : O b = true) : add O p b = true := by
  unfold add
  rw [h, Bool.true_or]
theorem add_or {O : Addr → Bool} {p b : Addr} (h : add O p b = true) : O b = true ∨ b = p := by
  unfold add at h
  rw [Bool.or_eq_true] at h
  exact h.imp id of_decide_eq_true
theorem hid_add {O : Addr → Bool} {H : Hp} {p : Addr} {o : HO} (n : H p = none) : hid (add O p) (upd H p o) = hid O H := by
  funext b
  unfold hid
  by_cases c : b = p
  · rw [if_pos (by rw [c]; exact add_self), c, n]
    by_cases d : O p = true
    · rw [if_pos d]
    · rw [if_neg d]
  · rw [upd_ne c]
    by_cases d : O b = true
    · rw [if_pos d, if_pos (add_of d)]
    · rw [if_neg d, if_neg fun z => (add_or z).elim d c]
def NoTup (b : Addr) (o : HO) : Prop := (∀ xs, o ≠ .tup xs) ∧ (∀ b u, o ≠ .frz b u) ∧ ∀ q, o ≠ LamX.CodeO b q
theorem nt_lst {b : Addr} {us : List V} : NoTup b (.lst us) := ⟨fun _ e => (nomatch e), fun _ _ e => (nomatch e), fun _ e => (nomatch e)⟩
theorem nt_tbl {b : Addr} {ps : Array Value} : NoTup b (.tbl ps) := ⟨fun _ e => (nomatch e), fun _ _ e => (nomatch e), fun _ e => (nomatch e)⟩
theorem heap_of_size : ∀ n : Nat, ∃ h : Heap, h.objs.size = n
  | 0 => ⟨{}, rfl⟩
  | n + 1 => by
    obtain ⟨h, e⟩ := heap_of_size n
    exact ⟨h.push { cls := .none, data := .fields #[] }, by rw [Heap.size_push, e]⟩
theorem nt_ext {b : Addr} {f : Heap → Prop} (h : ∀ (g : Heap) (o : Obj) (vs : Array Value), g.get? b = some o → o.data = .fields vs → ¬ f g) : NoTup b (.ext f) := by
  refine ⟨fun _ e => (nomatch e), fun _ _ e => (nomatch e), fun q e => ?_⟩
  obtain ⟨g, eg⟩ := heap_of_size b
  have hg : (g.push { cls := .none, data := .fields #[.none, .str q 0] }).get? b = some { cls := .none, data := .fields #[.none, .str q 0] } := by
    rw [← eg]
    exact Heap.get?_push_size _ rfl
  have ef : f (g.push { cls := .none, data := .fields #[.none, .str q 0] }) = _ := congrFun (HO.ext.inj e) _
  exact h _ _ _ hg rfl (ef.mpr ⟨_, #[.none, .str q 0], 0, hg, rfl, rfl⟩)
def Dom (O : Addr → Bool) (H : Hp) : Prop := ∀ b, O b = true → ∃ o, H b = some o ∧ NoTup b o
theorem Dom.ne {O : Addr → Bool} {H : Hp} {b : Addr} (d : Dom O H) (h : O b = true) : H b ≠ none := fun z => by
  obtain ⟨o, e, _⟩ := d b h
  rw [z] at e
  cases e
theorem Dom.new {O : Addr → Bool} {H : Hp} {p : Addr} (d : Dom O H) (n : H p = none) : O p = false := Bool.eq_false_iff.mpr fun z => d.ne z n
theorem Dom.tup {O : Addr → Bool} {H : Hp} {p : Addr} {xs : List V} (d : Dom O H) (n : H p = some (.tup xs)) : O p = false := Bool.eq_false_iff.mpr fun z => by
  obtain ⟨o, e, t⟩ := d p z
  rw [n] at e
  exact t.1 xs (Option.some.inj e).symm
theorem Dom.same {O : Addr → Bool} {H H' : Hp} (d : Dom O H) (s : Same H H') : Dom O H' := fun b h => by
  obtain ⟨o, e, t⟩ := d b h
  exact ⟨o, s b o e, t⟩
theorem hid_same {O : Addr → Bool} {H H' : Hp} (s : Same H H') : Same (hid O H) (hid O H') := fun b o h => hid_at (hid_out h) (s b o (hid_le b o h))
theorem hid_new {O : Addr → Bool} {H : Hp} {p : Addr} {o : HO} (d : Dom O H) (n : H p = none) : hid O (upd H p o) p = some o := hid_at (d.new n) upd_same
def keyTk (ks : List Str) : NestedKey := .tup (ks.map NestedKey.text)
abbrev TkE := NestedKey × Addr × Addr
def DicN (w : World) (a : Addr) (L : List TkE) : HO := .ext fun h => ∃ o es ep, h.get? a = some o ∧ o.ExactDict ∧ o.data = .dict es ep ∧ es.toList = L.map fun q => (⟨q.1.hash w, .ref q.2.1, .ref q.2.2⟩ : DictEntry)
def RpTk (K : PySem.W.Frag) (H : Hp) (L : List TkE) (kvs : List (List Str × PyData)) : Prop := Paired (fun (q : TkE) (p : List Str × PyData) => q.1 = keyTk p.1 ∧ Rp K H (.ref q.2.1) (.tuple (p.1.map PyData.str)) ∧ Rp K H (.ref q.2.2) p.2) L kvs
theorem RpTk.same {K : PySem.W.Frag} {H H' : Hp} {L : List TkE} {kvs : List (List Str × PyData)} (e : Same H H') (h : RpTk K H L kvs) : RpTk K H' L kvs := Paired.mapP h fun _ _ ⟨h1, h2, h3⟩ => ⟨h1, Rp.same e _ _ h2, Rp.same e _ _ h3⟩
theorem dicN_no {D : Addr} {w : World} {L : List TkE} {φ : Heap → Prop} (e : some (HO.ext φ) = some (DicN w D L)) (h : ∀ g : Heap, φ g → ∃ o es ep t, g.get? D = some o ∧ o.data = .set es ep t) : False := by
  obtain ⟨g, eg⟩ := heap_of_size D
  let es : Array DictEntry := (L.map fun q => (⟨q.1.hash w, .ref q.2.1, .ref q.2.2⟩ : DictEntry)).toArray
  have hg : (g.push { cls := .type "dict", data := .dict es 0 }).get? D = some { cls := .type "dict", data := .dict es 0 } := by
    rw [← eg]
    exact Heap.get?_push_size _ rfl
  have ef := congrFun (HO.ext.inj (Option.some.inj e)) (g.push { cls := .type "dict", data := .dict es 0 })
  obtain ⟨o, _, _, _, ho, hd⟩ := h _ (ef.mpr ⟨_, es, 0, hg, ⟨rfl, rfl, rfl⟩, rfl, rfl⟩)
  rw [hg] at ho
  cases ho
  cases hd
class TbC where
  T : List (Addr × Str)
  uq : ∀ p ∈ T, ∀ q ∈ T, p.1 = q.1 → p.2 = q.2
  w : World
structure DkI where
  d : Addr
  l : Addr
  ns : List Int
def DkO (dk : Option DkI) (n : Nat) (H : Hp) : Prop := match dk with
  | none => True
  | some D => Deck H D.d D.l D.ns n ∧ D.ns.length ≤ 63
section
variable [TbC]
def tA (b : Addr) : Prop := ∃ q, (b, q) ∈ TbC.T
abbrev TbOk (H : Hp) : Prop := LamX.Tabs TbC.T H
def DkOk (dk : Option DkI) (n : Nat) (H : Hp) : Prop := DkO dk n H ∧ TbOk H
def dkA (dk : Option DkI) (b : Addr) : Prop := (∃ D, dk = some D ∧ b = D.d) ∨ tA b
def NotDk (dk : Option DkI) (p : Addr) : Prop := (∀ D, dk = some D → p ≠ D.d ∧ p ≠ D.l) ∧ ¬ tA p
theorem NotDk.nA {dk : Option DkI} {p : Addr} (h : NotDk dk p) : ¬ dkA dk p := fun z => z.elim (fun ⟨E, e1, e2⟩ => (h.1 E e1).1 e2) h.2
theorem TbOk.at {H : Hp} (t : TbOk H) {b : Addr} (h : tA b) : ∃ ps, H b = some (.tbl ps) := by
  obtain ⟨q, m⟩ := h
  obtain ⟨ps, e, _⟩ := t _ m
  exact ⟨ps, e⟩
theorem TbOk.no {H : Hp} (t : TbOk H) {b : Addr} {o : HO} (h : H b = some o) (n : ∀ ps, o ≠ .tbl ps) : ¬ tA b := fun z => by
  obtain ⟨ps, e⟩ := t.at z
  rw [h] at e
  exact n ps (Option.some.inj e)
theorem TbOk.nn {H : Hp} (t : TbOk H) {b : Addr} (h : H b = none) : ¬ tA b := fun z => by
  obtain ⟨ps, e⟩ := t.at z
  rw [h] at e
  cases e
def FrD (dk : Option DkI) (H H' : Hp) : Prop := ∀ b o, ¬ dkA dk b → H b = some o → H' b = some o
theorem FrD.refl {dk : Option DkI} (H : Hp) : FrD dk H H := fun _ _ _ h => h
theorem FrD.trans {dk : Option DkI} {H H1 H2 : Hp} (a : FrD dk H H1) (b : FrD dk H1 H2) : FrD dk H H2 := fun c o n h => b c o n (a c o n h)
theorem FrD.of {dk : Option DkI} {H H' : Hp} (s : Same H H') : FrD dk H H' := fun b o _ h => s b o h
theorem FrD.up {dk : Option DkI} {H H' : Hp} (f : FrD none H H') : FrD dk H H' := fun b o n h => f b o (fun z => n (.inr (z.resolve_left fun ⟨_, e, _⟩ => by cases e))) h
theorem FrD.at {H H' : Hp} (f : FrD none H H') (t : TbOk H) {b : Addr} {o : HO} (h : H b = some o) (n : ∀ ps, o ≠ .tbl ps) : H' b = some o := f b o (fun z => t.no h n (z.resolve_left fun ⟨_, e, _⟩ => by cases e)) h
theorem DkO.fr {dk : Option DkI} {n : Nat} {H H' : Hp} (d : DkO dk n H) (s : ∀ b o, H b = some o → (∀ ps, o ≠ .tbl ps) → H' b = some o) : DkO dk n H' := by
  cases dk with
  | none => trivial
  | some D =>
    obtain ⟨⟨⟨i, r, m, e, z⟩, c⟩, l⟩ := d
    exact ⟨⟨⟨i, r, m, s _ _ e fun _ => nofun, z⟩, s _ _ c fun _ => nofun⟩, l⟩
theorem DkOk.same {dk : Option DkI} {n : Nat} {H H' : Hp} (d : DkOk dk n H) (s : Same H H') : DkOk dk n H' := ⟨d.1.fr fun b o h _ => s b o h, d.2.ext s⟩
theorem DkOk.tab {dk : Option DkI} {n : Nat} {H H' : Hp} (d : DkOk dk n H) (f : FrD none H H') (t : TbOk H') : DkOk dk n H' := ⟨d.1.fr fun _ _ h m => f.at d.2 h m, t⟩
theorem DkOk.mono {dk : Option DkI} {n m : Nat} {H : Hp} (d : DkOk dk n H) (h : n ≤ m) : DkOk dk m H := by
  refine ⟨?_, d.2⟩
  cases dk with
  | none => trivial
  | some D => exact ⟨d.1.1.mono h, d.1.2⟩
theorem TbOk.upd {H : Hp} {p : Addr} {o : HO} (t : TbOk H) (h : ¬ tA p) (hx : ∃ o, H p = some o ∧ NoTup p o) : TbOk (upd H p o) := fun q hq => by
  obtain ⟨ps, e, tr, c⟩ := t q hq
  refine ⟨ps, by rw [upd_ne (fun z => h (by rw [← z]; exact ⟨_, hq⟩))]; exact e, tr, fun pos cv hc => ?_⟩
  obtain ⟨c', e1, e2⟩ := c pos cv hc
  refine ⟨c', e1, ?_⟩
  obtain ⟨o', eo, nt⟩ := hx
  rw [upd_ne (fun z => by rw [z, eo] at e2; exact nt.2.2 _ (Option.some.inj e2))]
  exact e2
theorem DkOk.upd {dk : Option DkI} {n : Nat} {H : Hp} {p : Addr} {o : HO} (d : DkOk dk n H) (h : NotDk dk p) (hx : ∃ o, H p = some o ∧ NoTup p o) : DkOk dk n (upd H p o) := by
  refine ⟨?_, d.2.upd h.2 hx⟩
  cases dk with
  | none => trivial
  | some D => exact ⟨d.1.1.upd (h.1 D rfl).1 (h.1 D rfl).2, d.1.2⟩
theorem DkOk.new {dk : Option DkI} {n : Nat} {H : Hp} {p : Addr} (d : DkOk dk n H) (h : H p = none) : NotDk dk p := by
  refine ⟨?_, d.2.nn h⟩
  cases dk with
  | none => exact fun D e => by cases e
  | some D =>
    intro D' e
    cases e
    exact d.1.1.nd h
theorem DkOk.domT {dk : Option DkI} {n : Nat} {H : Hp} {b : Addr} (d : DkOk dk n H) (h : dkA dk b) : ∃ o, H b = some o ∧ NoTup b o := by
  rcases h with ⟨D, rfl, rfl⟩ | h
  · obtain ⟨⟨⟨_, _, _, e, _⟩, _⟩, _⟩ := d.1
    exact ⟨_, e, nt_lst⟩
  · obtain ⟨ps, e⟩ := d.2.at h
    exact ⟨_, e, nt_tbl⟩
theorem DkOk.dom {dk : Option DkI} {n : Nat} {H : Hp} {b : Addr} (d : DkOk dk n H) (h : dkA dk b) : H b ≠ none := fun z => by
  obtain ⟨o, e, _⟩ := d.domT h
  rw [z] at e
  cases e
end
inductive Sv where
  | d (x : PyData)
  | l (xs : List PyData) | k (kvs : List (PyData × PyData))
  | t (kvs : List (List Str × PyData))
  | dk
def Sv.own : Sv → Bool
  | .l _ => true
  | .k _ => true
  | .t _ => true
  | _ => false
abbrev DEnv := List (Option Sv)
section
variable [TbC] (K : PySem.W.Frag) (dk : Option DkI) (OB : Addr → Bool) (H0 : Hp) (O : Addr → Bool) (H : Hp)
def SlR : V → Sv → Prop
  | v, .d x => Rp K (hid O H) v x
  | v, .l xs => ∃ p vs, v = .ref p ∧ O p = true ∧ H0 p = none ∧ NotDk dk p ∧ H p = some (.lst vs) ∧ RpAll K (hid O H) vs xs
  | v, .k kvs => ∃ p kv, v = .ref p ∧ O p = true ∧ H0 p = none ∧ NotDk dk p ∧ H p = some (.dK kv) ∧ RpKvs K (hid O H) kv kvs
  | v, .t kvs => ∃ p L, v = .ref p ∧ O p = true ∧ H0 p = none ∧ NotDk dk p ∧ H p = some (DicN TbC.w p L) ∧ RpTk K (hid O H) L kvs ∧ (kvs.map (·.1)).Nodup ∧ (p == sysModules) = false
  | v, .dk => ∃ D, dk = some D ∧ v = .ref D.d
structure StR (σ : L2.St) (ρ : DEnv) (n : Nat) : Prop where
  len : σ.length = ρ.length
  ob : ∀ b, OB b = true → O b = true
  od : Dom OB H0
  dom : Dom O H
  dkO : ∀ b, dkA dk b → OB b = true
  fr : FrD dk H0 H
  dok : DkOk dk n H
  sl : ∀ (i : Nat) (s : Sv), ρ[i]? = some (some s) → ∃ v, σ[i]? = some (some v) ∧ SlR K dk H0 O H v s
  dis : ∀ (i j : Nat) (p : Addr) (s s' : Sv), i ≠ j → ρ[i]? = some (some s) → ρ[j]? = some (some s') → s.own = true → s'.own = true → σ[i]? = some (some (.ref p)) → σ[j]? = some (some (.ref p)) → False
end
section
variable [TbC] {K : PySem.W.Frag} {dk : Option DkI} {OB : Addr → Bool} {H0 : Hp} {O : Addr → Bool} {H H' : Hp} {σ : L2.St} {ρ : DEnv} {n n' : Nat}
theorem hid_fr (hO : ∀ b, dkA dk b → O b = true) (f : FrD dk H H') : Same (hid O H) (hid O H') := fun b o h => by
  have z := hid_out h
  refine hid_at z (f b o (fun d => ?_) (hid_le b o h))
  rw [hO b d] at z
  cases z
theorem SlR.step {v : V} {s : Sv} (hO : ∀ b, dkA dk b → O b = true) (f : FrD dk H H') (h : SlR K dk H0 O H v s) : SlR K dk H0 O H' v s := by
  have nd : ∀ p, NotDk dk p → ¬ dkA dk p := fun p z => z.nA
  cases s with
  | d x => exact Rp.same (hid_fr hO f) _ _ h
  | l xs =>
    obtain ⟨p, vs, e, h1, h2, h3, h4, h5⟩ := h
    exact ⟨p, vs, e, h1, h2, h3, f _ _ (nd p h3) h4, RpAll.same (hid_fr hO f) _ _ h5⟩
  | k kvs =>
    obtain ⟨p, vs, e, h1, h2, h3, h4, h5⟩ := h
    exact ⟨p, vs, e, h1, h2, h3, f _ _ (nd p h3) h4, RpKvs.same (hid_fr hO f) _ _ h5⟩
  | t kvs =>
    obtain ⟨p, vs, e, h1, h2, h3, h4, h5, h6⟩ := h
    exact ⟨p, vs, e, h1, h2, h3, f _ _ (nd p h3) h4, RpTk.same (hid_fr hO f) h5, h6⟩
  | dk => exact h
theorem StR.dO (s : StR K dk OB H0 O H σ ρ n) : ∀ b, dkA dk b → O b = true := fun b h => s.ob b (s.dkO b h)
theorem StR.hid (s : StR K dk OB H0 O H σ ρ n) (f : FrD dk H H') : Same (My.hid O H) (My.hid O H') := hid_fr s.dO f
theorem StR.step (s : StR K dk OB H0 O H σ ρ n) (f : FrD dk H H') (d : DkOk dk n' H') : StR K dk OB H0 O H' σ ρ n' where
  len := s.len
  ob := s.ob
  od := s.od
  dom := fun b h => by
    by_cases c : dkA dk b
    · exact d.domT c
    · obtain ⟨o, e, t⟩ := s.dom b h
      exact ⟨o, f b o c e, t⟩
  dkO := s.dkO
  fr := s.fr.trans f
  dok := d
  sl := fun i x h => by
    obtain ⟨v, h1, h2⟩ := s.sl i x h
    exact ⟨v, h1, h2.step s.dO f⟩
  dis := s.dis
theorem StR.set (s : StR K dk OB H0 O H σ ρ n) {i : Nat} {v : V} {x : PyData} (h : Rp K (My.hid O H) v x) : StR K dk OB H0 O H (σ.set i (some v)) (ρ.set i (some (.d x))) n where
  len := by rw [List.length_set, List.length_set, s.len]
  ob := s.ob
  od := s.od
  dom := s.dom
  dkO := s.dkO
  fr := s.fr
  dok := s.dok
  sl := fun j y e => by
    by_cases c : i = j
    · subst c
      by_cases l : i < ρ.length
      · rw [List.getElem?_set_self l] at e
        cases e
        exact ⟨v, List.getElem?_set_self (by rw [s.len]; exact l), h⟩
      · rw [List.getElem?_eq_none (by rw [List.length_set]; omega)] at e
        cases e
    · rw [List.getElem?_set_ne c] at e ⊢
      exact s.sl j y e
  dis := fun a b p u w ne e1 e2 o1 o2 f1 f2 => by
    have z : ∀ {j : Nat} {y : Sv}, (ρ.set i (some (.d x)))[j]? = some (some y) → y.own = true → i ≠ j ∧ ρ[j]? = some (some y) := fun {j y} e o => by
      by_cases c : i = j
      · subst c
        by_cases l : i < ρ.length
        · rw [List.getElem?_set_self l] at e
          cases e
          cases o
        · rw [List.getElem?_eq_none (by rw [List.length_set]; omega)] at e
          cases e
      · rw [List.getElem?_set_ne c] at e
        exact ⟨c, e⟩
    obtain ⟨c1, g1⟩ := z e1 o1
    obtain ⟨c2, g2⟩ := z e2 o2
    rw [List.getElem?_set_ne c1] at f1
    rw [List.getElem?_set_ne c2] at f2
    exact s.dis a b p u w ne g1 g2 o1 o2 f1 f2
def wipeD (ρ : DEnv) : List Nat → DEnv
  | [] => ρ
  | v :: vs => (wipeD ρ vs).set v none
theorem StR.unset (s : StR K dk OB H0 O H σ ρ n) (i : Nat) : StR K dk OB H0 O H (σ.set i none) (ρ.set i none) n where
  len := by rw [List.length_set, List.length_set, s.len]
  ob := s.ob
  od := s.od
  dom := s.dom
  dkO := s.dkO
  fr := s.fr
  dok := s.dok
  sl := fun j y e => by
    by_cases c : i = j
    · subst c
      by_cases l : i < ρ.length
      · rw [List.getElem?_set_self l] at e
        cases e
      · rw [List.getElem?_eq_none (by rw [List.length_set]; omega)] at e
        cases e
    · rw [List.getElem?_set_ne c] at e ⊢
      exact s.sl j y e
  dis := fun a b p u w ne e1 e2 o1 o2 f1 f2 => by
    have z : ∀ {j : Nat} {y : Sv}, (ρ.set i none)[j]? = some (some y) → i ≠ j ∧ ρ[j]? = some (some y) := fun {j y} e => by
      by_cases c : i = j
      · subst c
        by_cases l : i < ρ.length
        · rw [List.getElem?_set_self l] at e
          cases e
        · rw [List.getElem?_eq_none (by rw [List.length_set]; omega)] at e
          cases e
      · rw [List.getElem?_set_ne c] at e
        exact ⟨c, e⟩
    obtain ⟨c1, g1⟩ := z e1
    obtain ⟨c2, g2⟩ := z e2
    rw [List.getElem?_set_ne c1] at f1
    rw [List.getElem?_set_ne c2] at f2
    exact s.dis a b p u w ne g1 g2 o1 o2 f1 f2
theorem StR.wipe (s : StR K dk OB H0 O H σ ρ n) : ∀ vs : List Nat, StR K dk OB H0 O H (L2.wipe σ vs) (wipeD ρ vs) n
  | [] => s
  | v :: vs => (s.wipe vs).unset v
end
end My
namespace My
open PySem PySem.Spec PyProof.Rows L2
variable [TbC]
abbrev M (α : Type) := Nat → (α → Nat → Prop) → Prop
abbrev ED := DEnv → M PyData
abbrev AD := DEnv → M (List PyData)
abbrev TD := DEnv → M Bool
def tW (K : PySem.W.Frag) (w : ED) : TE := fun σ H Q => ∃ dk OB H0 O ρ n Qd, StR K dk OB H0 O H σ ρ n ∧ w ρ n Qd ∧ ∀ v d H' n', FrD dk H H' → DkOk dk n' H' → Rp K (hid O H') v d → Qd d n' → Q v H'
def tWA (K : PySem.W.Frag) (w : AD) : TA := fun σ H Q => ∃ dk OB H0 O ρ n Qd, StR K dk OB H0 O H σ ρ n ∧ w ρ n Qd ∧ ∀ vs ds H' n', FrD dk H H' → DkOk dk n' H' → RpAll K (hid O H') vs ds → Qd ds n' → Q vs H'
def tWT (K : PySem.W.Frag) (w : TD) : TT := fun σ H Q => ∃ dk OB H0 O ρ n Qd, StR K dk OB H0 O H σ ρ n ∧ w ρ n Qd ∧ ∀ b H' n', FrD dk H H' → DkOk dk n' H' → Qd b n' → Q b H'
abbrev PD (X : Cx) (e : Expr) (w : ED) : Prop := PE X e (tW X.K w)
abbrev PDA (X : Cx) (es : List Expr) (w : AD) : Prop := PA X es (tWA X.K w)
abbrev PDT (X : Cx) (e : Expr) (w : TD) : Prop := PT X e (tWT X.K w)
abbrev PDW (X : Cx) (e : Expr) (w : TD) : Prop := PW X e (tWT X.K w)
def RdE (K : PySem.W.Frag) (t : TE) (w : ED) : Prop := ∀ {dk OB H0 O H σ ρ n} {Q : VK} {Qd}, StR K dk OB H0 O H σ ρ n → w ρ n Qd → (∀ v d H' n', FrD dk H H' → DkOk dk n' H' → Rp K (hid O H') v d → Qd d n' → Q v H') → t σ H Q
def RdA (K : PySem.W.Frag) (t : TA) (w : AD) : Prop := ∀ {dk OB H0 O H σ ρ n} {Q : List V → Hp → Prop} {Qd}, StR K dk OB H0 O H σ ρ n → w ρ n Qd → (∀ vs ds H' n', FrD dk H H' → DkOk dk n' H' → RpAll K (hid O H') vs ds → Qd ds n' → Q vs H') → t σ H Q
def RdT (K : PySem.W.Frag) (t : TT) (w : TD) : Prop := ∀ {dk OB H0 O H σ ρ n} {Q : Bool → Hp → Prop} {Qd}, StR K dk OB H0 O H σ ρ n → w ρ n Qd → (∀ b H' n', FrD dk H H' → DkOk dk n' H' → Qd b n' → Q b H') → t σ H Q
section
variable {X : Cx} {K : PySem.W.Frag}
theorem qd_mk {e : Expr} {t : TE} {w : ED} (h : PE X e t) (r : RdE X.K t w) : PD X e w := ⟨fun pins s σ H Q I ⟨_, _, _, _, _, _, _, S, hw, k⟩ => h.run pins s σ H Q I (r S hw k)⟩
theorem qda_mk {es : List Expr} {t : TA} {w : AD} (h : PA X es t) (r : RdA X.K t w) : PDA X es w := ⟨fun pos pins s σ H Q I ⟨_, _, _, _, _, _, _, S, hw, k⟩ => h.run pos pins s σ H Q I (r S hw k)⟩
theorem qdt_mk {e : Expr} {t : TT} {w : TD} (h : PT X e t) (r : RdT X.K t w) : PDT X e w := ⟨fun pins s σ H Q I ⟨_, _, _, _, _, _, _, S, hw, k⟩ => h.run pins s σ H Q I (r S hw k)⟩
theorem qdw_mk {e : Expr} {t : TT} {w : TD} (h : PW X e t) (r : RdT X.K t w) : PDW X e w := ⟨fun wh pins s σ H Q I ⟨_, _, _, _, _, _, _, S, hw, k⟩ => h.run wh pins s σ H Q I (r S hw k)⟩
def eC (x : PyData) : ED := fun _ n Q => Q x n
theorem rd_c {v : V} {x : PyData} (h : ∀ H, Rp K H v x) : RdE K (tC v) (eC x) := fun {_ _ _ _ H _ _ n _ _} S hw k => k _ _ H n (FrD.refl H) S.dok (h _) hw
theorem qd_int {i j pos} : PD X (.Constant (.int i) j pos) (eC (.int i)) := qd_mk pe_int (rd_c fun _ => .int i)
theorem qd_bl {b j pos} : PD X (.Constant (.bool b) j pos) (eC (.bool b)) := qd_mk pe_bl (rd_c fun _ => .bl b)
theorem qd_non {j pos} : PD X (.Constant .none j pos) (eC .none) := qd_mk pe_non (rd_c fun _ => .non)
theorem qd_str {x j pos} : PD X (.Constant (.str x) j pos) (eC (.str x)) := qd_mk pe_str (rd_c fun _ => .str x)
theorem qd_glob {x : Str} {z : Str} {td : Tok} {pos : Pos} (hg : Gl X x) (hm : X.mg x = some (.str z td)) (hd : (x == ("__debug__" : Str)) = false := by decide) : PD X (.Name x pos) (eC (.str z)) := qd_mk (pe_glob (v := .str z) hg hm ⟨td, rfl⟩ hd) (rd_c fun _ => .str z)
def eV (i : Nat) : ED := fun ρ n Q => ∃ x, ρ[i]? = some (some (.d x)) ∧ Q x n
theorem rd_v (i : Nat) : RdE K (tVar i) (eV i) := fun {_ _ _ _ H _ _ n _ _} S hw k => by
  obtain ⟨x, e, q⟩ := hw
  obtain ⟨v, e1, e2⟩ := S.sl _ _ e
  exact ⟨v, e1, k _ _ H n (FrD.refl H) S.dok e2 q⟩
theorem qdv (i : Nat) {x : Str} {pos : Pos} (hN : X.N[i]? = some x := by rfl) (hv : Vis X.env.scope x := by first | exact Or.inl rfl | exact Or.inr (Or.inl rfl) | exact Or.inr (Or.inr rfl)) (hd : (x == ("__debug__" : Str)) = false := by decide)
    (hcd : (x == ("__classdict__" : Str)) = false := by decide) : PD X (.Name x pos) (eV i) := qd_mk (pv i hN hv hd hcd) (rd_v i)
def aN : AD := fun _ n Q => Q [] n
def aC (w : ED) (ws : AD) : AD := fun ρ n Q => w ρ n fun x n1 => ws ρ n1 fun xs n2 => Q (x :: xs) n2
theorem rda_nil : RdA K tNil aN := fun {_ _ _ _ H _ _ n _ _} S hw k => k [] [] H n (FrD.refl H) S.dok .nil hw
theorem rd_W {w : ED} : RdE K (tW K w) w := fun S hw k => ⟨_, _, _, _, _, _, _, S, hw, k⟩
theorem rda_W {w : AD} : RdA K (tWA K w) w := fun S hw k => ⟨_, _, _, _, _, _, _, S, hw, k⟩
theorem rdt_W {w : TD} : RdT K (tWT K w) w := fun S hw k => ⟨_, _, _, _, _, _, _, S, hw, k⟩
theorem rda_cons {t : TE} {w : ED} {ts : TA} {ws : AD} (h : RdE K t w) (hs : RdA K ts ws) : RdA K (tCons t ts) (aC w ws) := fun S hw k =>
  h S hw fun v d H1 n1 f1 d1 r1 q1 => hs (S.step f1 d1) q1 fun vs ds H2 n2 f2 d2 r2 q2 => k _ _ H2 n2 (f1.trans f2) d2 (.cons (Rp.same (hid_fr S.dO f2) _ _ r1) r2) q2
theorem qda_nil : PDA X [] aN := qda_mk pa_nil rda_nil
theorem qda_cons {e : Expr} {es : List Expr} {w : ED} {ws : AD} (ha : PD X e w) (hr : PDA X es ws) (hs : starEach (e :: es) X.env = (false, eval e X.env) :: starEach es X.env := by rfl) : PDA X (e :: es) (aC w ws) := qda_mk (pa_cons ha hr hs) (rda_cons rd_W rda_W)
def lim : Nat := 1000000
omit [TbC] in
theorem lim_le : lim ≤ sizeLine := by
  rw [sizeLine_eq]
  decide
inductive ALen : AD → Nat → Prop
  | nil : ALen aN 0
  | cons {w : ED} {ws : AD} {k : Nat} : ALen ws k → ALen (aC w ws) (k + 1)
def eTup (ws : AD) : ED := fun ρ n Q => ws ρ n fun xs n1 => xs.length ≤ lim ∧ Q (.tuple xs) n1
def eLst (ws : AD) : ED := fun ρ n Q => ws ρ n fun xs n1 => xs.length ≤ lim ∧ Q (.list xs) n1
theorem new_rp {dk : Option DkI} {OB : Addr → Bool} {H0 : Hp} {O : Addr → Bool} {H1 : Hp} {σ : L2.St} {ρ : DEnv} {n : Nat} (S : StR K dk OB H0 O H1 σ ρ n) {p : Addr} {o : HO} (np : H1 p = none) : hid O (upd H1 p o) p = some o ∧ Same (hid O H1) (hid O (upd H1 p o)) ∧ FrD dk H1 (upd H1 p o) ∧ DkOk dk n (upd H1 p o) :=
  ⟨hid_new S.dom np, hid_same (same_new np), FrD.of (same_new np), S.dok.same (same_new np)⟩
theorem qd_tup {es : List Expr} {x1 pos} {ws : AD} (h : PDA X es ws) : PD X (.Tuple es x1 pos) (eTup ws) := qd_mk (pe_tupK h) fun S hw k => rda_W S hw fun vs ds H1 n1 f1 d1 r1 ⟨l, q⟩ => by
  refine ⟨by rw [r1.len]; exact Nat.le_trans l lim_le, fun p o np kt => ?_⟩
  obtain ⟨a, b, c, e⟩ := new_rp (S.step f1 d1) (o := o) np
  exact k _ _ _ n1 (f1.trans c) e (.tup (kt.rd a) (RpAll.same b _ _ r1) fun _ => kt.pl a) q
theorem qd_lst {es : List Expr} {pos} {ws : AD} (h : PDA X es ws) : PD X (.List es pos) (eLst ws) := qd_mk (pe_lst h) fun S hw k => rda_W S hw fun vs ds H1 n1 f1 d1 r1 ⟨l, q⟩ => by
  refine ⟨by rw [r1.len]; exact Nat.le_trans l lim_le, fun p np => ?_⟩
  obtain ⟨a, b, c, e⟩ := new_rp (S.step f1 d1) (o := .lst vs) np
  exact k _ _ _ n1 (f1.trans c) e (.lst a (RpAll.same b _ _ r1)) q
def Pu2 (K : PySem.W.Frag) (r : R2) (f : PyData → PyData → Option PyData) : Prop := ∀ {O H x y dx dy dz} {Q : VK}, Dom O H → Rp K (hid O H) x dx → Rp K (hid O H) y dy → f dx dy = some dz → (∀ v H', Same H H' → Rp K (hid O H') v dz → Q v H') → r x y H Q
def PuN (K : PySem.W.Frag) (r : List V → Hp → VK → Prop) (f : List PyData → Option PyData) : Prop := ∀ {O H xs ds dz} {Q : VK}, Dom O H → RpAll K (hid O H) xs ds → f ds = some dz → (∀ v H', Same H H' → Rp K (hid O H') v dz → Q v H') → r xs H Q
def eOp (f : PyData → PyData → Option PyData) (a b : ED) : ED := fun ρ n Q => a ρ n fun x n1 => b ρ n1 fun y n2 => ∃ z, f x y = some z ∧ Q z n2
def eCall (f : List PyData → Option PyData) (ws : AD) : ED := fun ρ n Q => ws ρ n fun xs n1 => ∃ z, f xs = some z ∧ Q z n1
theorem rd_op {r : R2} {f : PyData → PyData → Option PyData} {a b : ED} (h : Pu2 K r f) : RdE K (tOp r (tW K a) (tW K b)) (eOp f a b) := fun S hw k =>
  rd_W S hw fun v d H1 n1 f1 d1 r1 q1 => rd_W (S.step f1 d1) q1 fun u e H2 n2 f2 d2 r2 ⟨z, ez, q2⟩ =>
    h (S.step (f1.trans f2) d2).dom (Rp.same (hid_fr S.dO f2) _ _ r1) r2 ez fun v' H' s r => k _ _ H' n2 ((f1.trans f2).trans (FrD.of s)) (d2.same s) r q2
theorem qd_op {op : Operator} {r : R2} {f : PyData → PyData → Option PyData} {a b : Expr} {wa wb : ED} {pos : Pos} (ho : OpR X (binaryOp op) r) (h : Pu2 X.K r f) (ha : PD X a wa) (hb : PD X b wb) : PD X (.BinOp a op b pos) (eOp f wa wb) := qd_mk (pe_op ho ha hb) (rd_op h)
theorem qd_cmp {op : CmpOp} {r : R2} {f : PyData → PyData → Option PyData} {a b : Expr} {wa wb : ED} {pos : Pos} (ho : OpR X (compareOp op) r) (h : Pu2 X.K r f) (ha : PD X a wa) (hb : PD X b wb) (hm : behindInMarks op b = false) : PD X (.Compare a [op] [b] pos) (eOp f wa wb) := qd_mk (pe_cmpR ho ha hb hm) (rd_op h)
theorem qd_ix {r : R2} {f : PyData → PyData → Option PyData} {a b : Expr} {wa wb : ED} {pos : Pos} (ho : IxR X r) (h : Pu2 X.K r f) (ha : PD X a wa) (hb : PD X b wb) (hs : PlainIx b := by exact fun _ _ => rfl) : PD X (.Subscript a b pos) (eOp f wa wb) := qd_mk (pe_ix ho ha hb hs) (rd_op h)
theorem rd_cb {r : List V → Hp → VK → Prop} {f : List PyData → Option PyData} {ws : AD} (h : PuN K r f) : RdE K (tCB r (tWA K ws)) (eCall f ws) := fun S hw k =>
  rda_W S hw fun vs ds H1 n1 f1 d1 r1 ⟨z, ez, q⟩ => h (S.step f1 d1).dom r1 ez fun v' H' s r => k _ _ H' n1 (f1.trans (FrD.of s)) (d1.same s) r q
theorem qd_callB {id : String} {r : List V → Hp → VK → Prop} {f : List PyData → Option PyData} {x : Str} {e : Expr} {es : List Expr} {ws : AD} {p pos : Pos} (hc : CallR X (.builtin id) r) (h : PuN X.K r f) (hg : Gl X x) (hm : X.mg x = none) (hv : bootBuiltins x = some (.builtin id)) (ha : PDA X (e :: es) ws)
    (hn : x ≠ "__name__" := by decide) (hdb : (x == ("__debug__" : Str)) = false := by decide)
    (he : starEach (e :: es) X.env = (false, eval e X.env) :: starEach es X.env := by rfl) (hpl : (backTo pos (starEach es X.env)).any (·.1) = false := by rfl) : PD X (.Call (.Name x p) (e :: es) [] pos) (eCall f ws) := qd_mk (pe_callB hc hg hm hv ha hn hdb he hpl) (rd_cb h)
theorem qd_callTy {T : String} {r : List V → Hp → VK → Prop} {f : List PyData → Option PyData} {x : Str} {e : Expr} {es : List Expr} {ws : AD} {p pos : Pos} (hc : CallR X (.type T) r) (h : PuN X.K r f) (hg : Gl X x) (hm : X.mg x = none) (hv : bootBuiltins x = some (.type T)) (ha : PDA X (e :: es) ws)
    (hn : x ≠ "__name__" := by decide) (hdb : (x == ("__debug__" : Str)) = false := by decide)
    (he : starEach (e :: es) X.env = (false, eval e X.env) :: starEach es X.env := by rfl) (hpl : (backTo pos (starEach es X.env)).any (·.1) = false := by rfl) : PD X (.Call (.Name x p) (e :: es) [] pos) (eCall f ws) := qd_mk (pe_callTy hc hg hm hv ha hn hdb he hpl) (rd_cb h)
def bT (w : ED) : TD := fun ρ n Q => w ρ n fun x n1 => ∃ b, x = .bool b ∧ Q b n1
theorem rdt_B {w : ED} : RdT K (tB (tW K w)) (bT w) := fun S hw k => rd_W S hw fun v d H1 n1 f1 d1 r1 ⟨b, e, q⟩ => by
  subst e
  cases r1
  exact ⟨b, rfl, k b H1 n1 f1 d1 q⟩
theorem qdt_val {e : Expr} {w : ED} (h : PD X e w) (he : ∀ whole, isTrue e X.env whole = (do let v ← whole; standAt e.pos; holding [v] (truthy v)) := by intro _; rfl) : PDT X e (bT w) := qdt_mk (pt_val h he) rdt_B
theorem qdt_cmp {op : CmpOp} {r : R2} {f : PyData → PyData → Option PyData} {a b : Expr} {wa wb : ED} {pos : Pos} (ho : OpR X (compareOp op) r) (h : Pu2 X.K r f) (ha : PD X a wa) (hb : PD X b wb) (hm : behindInMarks op b = false) : PDT X (.Compare a [op] [b] pos) (bT (eOp f wa wb)) :=
  qdt_mk (pt_cmpR ho ha hb hm) fun S hw k => rd_op h S hw fun v d H1 n1 f1 d1 r1 ⟨b, e, q⟩ => by
    subst e
    cases r1
    exact ⟨b, rfl, k b H1 n1 f1 d1 q⟩
def bNot (w : TD) : TD := fun ρ n Q => w ρ n fun b n1 => Q (!b) n1
def bAnd (u w : TD) : TD := fun ρ n Q => u ρ n fun b n1 => if b = true then w ρ n1 Q else Q false n1
def bOr (u w : TD) : TD := fun ρ n Q => u ρ n fun b n1 => if b = true then Q true n1 else w ρ n1 Q
theorem qdt_not {a : Expr} {w : TD} {pos : Pos} (ha : PDT X a w) : PDT X (.UnaryOp .Not a pos) (bNot w) := qdt_mk (pt_not ha) fun S hw k => rdt_W S hw fun b H1 n1 f1 d1 q => k _ H1 n1 f1 d1 q
theorem qdw_and1 {a : Expr} {w : TD} {pos : Pos} (ha : PDT X a w) : PDW X (.BoolOp .And [a] pos) w := pw_and1 ha
theorem qdw_or1 {a : Expr} {w : TD} {pos : Pos} (ha : PDT X a w) : PDW X (.BoolOp .Or [a] pos) w := pw_or1 ha
theorem qdw_and {a b : Expr} {rest : List Expr} {u w : TD} {pos : Pos} (ha : PDT X a u) (hb : PDW X (.BoolOp .And (b :: rest) pos) w) : PDW X (.BoolOp .And (a :: b :: rest) pos) (bAnd u w) := qdw_mk (pw_and ha hb) fun S hw k => rdt_W S hw fun b H1 n1 f1 d1 q => by
  cases b with
  | true => exact (if_pos rfl).mpr (rdt_W (S.step f1 d1) ((if_pos rfl).mp q) fun b H2 n2 f2 d2 q2 => k b H2 n2 (f1.trans f2) d2 q2)
  | false => exact (if_neg Bool.false_ne_true).mpr (k false H1 n1 f1 d1 ((if_neg Bool.false_ne_true).mp q))
theorem qdw_or {a b : Expr} {rest : List Expr} {u w : TD} {pos : Pos} (ha : PDT X a u) (hb : PDW X (.BoolOp .Or (b :: rest) pos) w) : PDW X (.BoolOp .Or (a :: b :: rest) pos) (bOr u w) := qdw_mk (pw_or ha hb) fun S hw k => rdt_W S hw fun b H1 n1 f1 d1 q => by
  cases b with
  | true => exact (if_pos rfl).mpr (k true H1 n1 f1 d1 ((if_pos rfl).mp q))
  | false => exact (if_neg Bool.false_ne_true).mpr (rdt_W (S.step f1 d1) ((if_neg Bool.false_ne_true).mp q) fun b H2 n2 f2 d2 q2 => k b H2 n2 (f1.trans f2) d2 q2)
theorem qdt_W {e : Expr} {w : TD} (h : PDW X e w) : PDT X e w := PW.pt h
def eAnd (a b : ED) : ED := fun ρ n Q => a ρ n fun x n1 => ∃ c, x = .bool c ∧ if c = true then b ρ n1 Q else Q (.bool false) n1
def eOr (a b : ED) : ED := fun ρ n Q => a ρ n fun x n1 => ∃ c, x = .bool c ∧ if c = true then Q (.bool true) n1 else b ρ n1 Q
def eNot (a : ED) : ED := fun ρ n Q => a ρ n fun x n1 => ∃ c, x = .bool c ∧ Q (.bool (!c)) n1
def eIf (c : TD) (a b : ED) : ED := fun ρ n Q => c ρ n fun x n1 => if x = true then a ρ n1 Q else b ρ n1 Q
theorem qd_one {op} {a : Expr} {w : ED} {pos : Pos} (h : PD X a w) : PD X (.BoolOp op [a] pos) w := pe_one h
theorem qd_and {a b : Expr} {rest : List Expr} {u w : ED} {pos : Pos} (ha : PD X a u) (hb : PD X (.BoolOp .And (b :: rest) pos) w) : PD X (.BoolOp .And (a :: b :: rest) pos) (eAnd u w) := qd_mk (pe_and ha hb) fun S hw k => rd_W S hw fun v d H1 n1 f1 d1 r1 ⟨c, e, q⟩ => by
  subst e
  cases r1
  cases c with
  | true => exact ⟨true, rfl, (if_pos rfl).mpr (rd_W (S.step f1 d1) ((if_pos rfl).mp q) fun v d H2 n2 f2 d2 r2 q2 => k v d H2 n2 (f1.trans f2) d2 r2 q2)⟩
  | false => exact ⟨false, rfl, (if_neg Bool.false_ne_true).mpr (k _ _ H1 n1 f1 d1 (.bl false) ((if_neg Bool.false_ne_true).mp q))⟩
theorem qd_or {a b : Expr} {rest : List Expr} {u w : ED} {pos : Pos} (ha : PD X a u) (hb : PD X (.BoolOp .Or (b :: rest) pos) w) : PD X (.BoolOp .Or (a :: b :: rest) pos) (eOr u w) := qd_mk (pe_or ha hb) fun S hw k => rd_W S hw fun v d H1 n1 f1 d1 r1 ⟨c, e, q⟩ => by
  subst e
  cases r1
  cases c with
  | true => exact ⟨true, rfl, (if_pos rfl).mpr (k _ _ H1 n1 f1 d1 (.bl true) ((if_pos rfl).mp q))⟩
  | false => exact ⟨false, rfl, (if_neg Bool.false_ne_true).mpr (rd_W (S.step f1 d1) ((if_neg Bool.false_ne_true).mp q) fun v d H2 n2 f2 d2 r2 q2 => k v d H2 n2 (f1.trans f2) d2 r2 q2)⟩
theorem qd_if {c a b : Expr} {wc : TD} {u w : ED} {pos : Pos} (hc : PDT X c wc) (ha : PD X a u) (hb : PD X b w) : PD X (.IfExp c a b pos) (eIf wc u w) := qd_mk (pe_ifExp hc ha hb) fun S hw k => rdt_W S hw fun b H1 n1 f1 d1 q => by
  cases b with
  | true => exact (if_pos rfl).mpr (rd_W (S.step f1 d1) ((if_pos rfl).mp q) fun v d H2 n2 f2 d2 r2 q2 => k v d H2 n2 (f1.trans f2) d2 r2 q2)
  | false => exact (if_neg Bool.false_ne_true).mpr (rd_W (S.step f1 d1) ((if_neg Bool.false_ne_true).mp q) fun v d H2 n2 f2 d2 r2 q2 => k v d H2 n2 (f1.trans f2) d2 r2 q2)
def PuS (K : PySem.W.Frag) (r : V → Option Int → Option Int → Hp → VK → Prop) (f : PyData → Option Int → Option Int → Option PyData) : Prop := ∀ {O H x dx lo hi dz} {Q : VK}, Dom O H → Rp K (hid O H) x dx → f dx lo hi = some dz → (∀ v H', Same H H' → Rp K (hid O H') v dz → Q v H') → r x lo hi H Q
def tWO (K : PySem.W.Frag) (w : DEnv → M (Option Int)) : TO := fun σ H Q => ∃ dk OB H0 O ρ n Qd, StR K dk OB H0 O H σ ρ n ∧ w ρ n Qd ∧ ∀ b H' n', FrD dk H H' → DkOk dk n' H' → Qd b n' → Q b H'
abbrev PDO (X : Cx) (e : Option Expr) (w : DEnv → M (Option Int)) : Prop := PO X e (tWO X.K w)
def oN : DEnv → M (Option Int) := fun _ n Q => Q none n
def oS (w : ED) : DEnv → M (Option Int) := fun ρ n Q => w ρ n fun x n1 => ∃ i, x = .int i ∧ Q (some i) n1
theorem qdo_none : PDO X none oN := ⟨fun pins s σ H Q I ⟨_, _, _, _, _, _, _, S, hw, k⟩ => po_none.run pins s σ H Q I (k _ H _ (FrD.refl H) S.dok hw)⟩
theorem qdo_some {e : Expr} {w : ED} (h : PD X e w) : PDO X (some e) (oS w) := ⟨fun pins s σ H Q I ⟨_, _, _, _, _, _, _, S, hw, k⟩ => (po_some h).run pins s σ H Q I (rd_W S hw fun v d H1 n1 f1 d1 r1 ⟨i, e, q⟩ => by
  subst e
  cases r1
  exact ⟨i, rfl, k _ H1 n1 f1 d1 q⟩)⟩
def eSl (f : PyData → Option Int → Option Int → Option PyData) (a : ED) (lo hi : DEnv → M (Option Int)) : ED := fun ρ n Q => a ρ n fun x n1 => lo ρ n1 fun l n2 => hi ρ n2 fun h n3 => ∃ z, f x l h = some z ∧ Q z n3
theorem qd_sl {r : V → Option Int → Option Int → Hp → VK → Prop} {f : PyData → Option Int → Option Int → Option PyData} {e : Expr} {lo hi : Option Expr} {a : ED} {l h : DEnv → M (Option Int)} {p2 pos : Pos} (hr : L2.SlR X r) (hp : PuS X.K r f) (he : PD X e a) (hl : PDO X lo l) (hh : PDO X hi h) :
    PD X (.Subscript e (.Slice lo hi none p2) pos) (eSl f a l h) := qd_mk (pe_slice hr he hl hh) fun S hw k => rd_W S hw fun v d H1 n1 f1 d1 r1 q1 => ⟨_, _, _, _, _, _, _, S.step f1 d1, q1, fun b H2 n2 f2 d2 q2 => ⟨_, _, _, _, _, _, _, S.step (f1.trans f2) d2, q2, fun c H3 n3 f3 d3 ⟨z, ez, q3⟩ =>
      hp (S.step ((f1.trans f2).trans f3) d3).dom (Rp.same (hid_fr S.dO (f2.trans f3)) _ _ r1) ez fun v' H' s r => k _ _ H' n3 (((f1.trans f2).trans f3).trans (FrD.of s)) (d3.same s) r q3⟩⟩
end
end My
namespace My
open PySem PySem.Spec PyProof.Rows L2
variable [TbC]
section
variable {K : PySem.W.Frag} {dk : Option DkI} {OB : Addr → Bool} {H0 : Hp} {O : Addr → Bool} {H H' : Hp} {σ : L2.St} {ρ : DEnv} {n n' : Nat}
theorem StR.fresh (S : StR K dk OB H0 O H σ ρ n) {p : Addr} (np : H p = none) : H0 p = none := by
  cases e : H0 p with
  | none => rfl
  | some o =>
    have z := S.fr p o (fun d => S.dok.dom d np) e
    rw [np] at z
    cases z
omit [TbC] in
theorem hid_sub {O O' : Addr → Bool} (h : ∀ b, O' b = true → O b = true) : Same (hid O H) (hid O' H) := fun b o e => by
  refine hid_at ?_ (hid_le b o e)
  have z := hid_out e
  cases c : O' b with
  | false => rfl
  | true =>
    rw [h b c] at z
    cases z
theorem StR.mut (S : StR K dk OB H0 O H σ ρ n) {i : Nat} {p : Addr} {s s' : Sv} {o : HO} (hr : ρ[i]? = some (some s)) (ho : s.own = true) (ho' : s'.own = true) (hs : σ[i]? = some (some (.ref p))) (hO : O p = true) (h0 : H0 p = none) (hd : NotDk dk p) (nt : NoTup p o)
    (new : SlR K dk H0 O (upd H p o) (.ref p) s') : StR K dk OB H0 O (upd H p o) σ (ρ.set i (some s')) n where
  len := by rw [List.length_set, S.len]
  ob := S.ob
  od := S.od
  dom := fun b h => by
    by_cases c : b = p
    · rw [c]
      exact ⟨o, upd_same, nt⟩
    · rw [upd_ne c]
      exact S.dom b h
  dkO := S.dkO
  fr := fun b u h e => by
    rw [upd_ne (fun z => by rw [z, h0] at e; cases e)]
    exact S.fr b u h e
  dok := S.dok.upd hd (S.dom p hO)
  sl := fun j y e => by
    have li : i < ρ.length := (List.getElem?_eq_some_iff.mp hr).1
    by_cases c : i = j
    · subst c
      rw [List.getElem?_set_self li] at e
      cases e
      exact ⟨_, hs, new⟩
    · rw [List.getElem?_set_ne c] at e
      obtain ⟨v, e1, e2⟩ := S.sl j y e
      refine ⟨v, e1, ?_⟩
      cases y with
      | d x =>
        show Rp K (My.hid O (upd H p o)) v x
        rw [hid_upd hO]
        exact e2
      | l xs =>
        obtain ⟨q, vs, rfl, h1, h2, h3, h4, h5⟩ := e2
        refine ⟨q, vs, rfl, h1, h2, h3, ?_, by rw [hid_upd hO]; exact h5⟩
        rw [upd_ne (fun z => S.dis i j p s (.l xs) c hr e ho rfl hs (by rw [← z]; exact e1))]
        exact h4
      | k xs =>
        obtain ⟨q, vs, rfl, h1, h2, h3, h4, h5⟩ := e2
        refine ⟨q, vs, rfl, h1, h2, h3, ?_, by rw [hid_upd hO]; exact h5⟩
        rw [upd_ne (fun z => S.dis i j p s (.k xs) c hr e ho rfl hs (by rw [← z]; exact e1))]
        exact h4
      | t xs =>
        obtain ⟨q, vs, rfl, h1, h2, h3, h4, h5⟩ := e2
        refine ⟨q, vs, rfl, h1, h2, h3, ?_, by rw [hid_upd hO]; exact h5⟩
        rw [upd_ne (fun z => S.dis i j p s (.t xs) c hr e ho rfl hs (by rw [← z]; exact e1))]
        exact h4
      | dk => exact e2
  dis := fun a b q u w ne e1 e2 o1 o2 f1 f2 => by
    have li : i < ρ.length := (List.getElem?_eq_some_iff.mp hr).1
    have z : ∀ {j : Nat} {y : Sv}, (ρ.set i (some s'))[j]? = some (some y) → y.own = true → ∃ y', ρ[j]? = some (some y') ∧ y'.own = true := fun {j y} e o => by
      by_cases c : i = j
      · subst c
        exact ⟨s, hr, ho⟩
      · rw [List.getElem?_set_ne c] at e
        exact ⟨y, e, o⟩
    obtain ⟨u', g1, k1⟩ := z e1 o1
    obtain ⟨w', g2, k2⟩ := z e2 o2
    exact S.dis a b q u' w' ne g1 g2 k1 k2 f1 f2
theorem StR.new (S : StR K dk OB H0 O H σ ρ n) {i : Nat} {p : Addr} {s : Sv} {o : HO} (np : H p = none) (ho : s.own = true) (nt : NoTup p o) (new : SlR K dk H0 (add O p) (upd H p o) (.ref p) s) : StR K dk OB H0 (add O p) (upd H p o) (σ.set i (some (.ref p))) (ρ.set i (some s)) n where
  len := by rw [List.length_set, List.length_set, S.len]
  ob := fun b h => add_of (S.ob b h)
  od := S.od
  dom := fun b h => by
    by_cases c : b = p
    · rw [c]
      exact ⟨o, upd_same, nt⟩
    · rw [upd_ne c]
      exact (add_or h).elim (fun h => S.dom b h) fun z => absurd z c
  dkO := S.dkO
  fr := fun b u h e => same_new np _ _ (S.fr b u h e)
  dok := S.dok.same (same_new np)
  sl := fun j y e => by
    by_cases c : i = j
    · subst c
      by_cases li : i < ρ.length
      · rw [List.getElem?_set_self li] at e
        cases e
        exact ⟨_, List.getElem?_set_self (by rw [S.len]; exact li), new⟩
      · rw [List.getElem?_eq_none (by rw [List.length_set]; omega)] at e
        cases e
    · rw [List.getElem?_set_ne c] at e ⊢
      obtain ⟨v, e1, e2⟩ := S.sl j y e
      refine ⟨v, e1, ?_⟩
      cases y with
      | d x =>
        show Rp K (My.hid (add O p) (upd H p o)) v x
        rw [hid_add np]
        exact e2
      | l xs =>
        obtain ⟨q, vs, rfl, h1, h2, h3, h4, h5⟩ := e2
        exact ⟨q, vs, rfl, add_of h1, h2, h3, same_new np _ _ h4, by rw [hid_add np]; exact h5⟩
      | k xs =>
        obtain ⟨q, vs, rfl, h1, h2, h3, h4, h5⟩ := e2
        exact ⟨q, vs, rfl, add_of h1, h2, h3, same_new np _ _ h4, by rw [hid_add np]; exact h5⟩
      | t xs =>
        obtain ⟨q, vs, rfl, h1, h2, h3, h4, h5⟩ := e2
        exact ⟨q, vs, rfl, add_of h1, h2, h3, same_new np _ _ h4, by rw [hid_add np]; exact h5⟩
      | dk => exact e2
  dis := fun a b q u w ne e1 e2 o1 o2 f1 f2 => by
    have old : ∀ {j : Nat} {y : Sv}, ρ[j]? = some (some y) → y.own = true → σ[j]? = some (some (.ref p)) → False := fun {j y} e oy es => by
      obtain ⟨v, z1, z2⟩ := S.sl j y e
      rw [es] at z1
      cases z1
      cases y with
      | d x => cases oy
      | l xs =>
        obtain ⟨q, vs, z, h1, h2, h3, h4, h5⟩ := z2
        cases z
        rw [np] at h4
        cases h4
      | k xs =>
        obtain ⟨q, vs, z, h1, h2, h3, h4, h5⟩ := z2
        cases z
        rw [np] at h4
        cases h4
      | t xs =>
        obtain ⟨q, vs, z, h1, h2, h3, h4, h5⟩ := z2
        cases z
        rw [np] at h4
        cases h4
      | dk => cases oy
    have at_ : ∀ {j : Nat} {y : Sv}, i = j → (ρ.set i (some s))[j]? = some (some y) → (σ.set i (some (V.ref p)))[j]? = some (some (.ref q)) → q = p := fun {j y} c e f => by
      subst c
      by_cases li : i < ρ.length
      · rw [List.getElem?_set_self (by rw [S.len]; exact li)] at f
        cases f
        rfl
      · rw [List.getElem?_eq_none (by rw [List.length_set]; omega)] at e
        cases e
    by_cases ca : i = a
    · have hq := at_ ca e1 f1
      have cb : i ≠ b := fun z => ne (ca.symm.trans z)
      rw [List.getElem?_set_ne cb] at e2 f2
      rw [hq] at f2
      exact old e2 o2 f2
    · by_cases cb : i = b
      · have hq := at_ cb e2 f2
        rw [List.getElem?_set_ne ca] at e1 f1
        rw [hq] at f1
        exact old e1 o1 f1
      · rw [List.getElem?_set_ne ca] at e1 f1
        rw [List.getElem?_set_ne cb] at e2 f2
        exact S.dis a b q u w ne e1 e2 o1 o2 f1 f2
theorem StR.acc (S : StR K dk OB H0 O H σ ρ n) {p : Addr} {o : HO} (np : H p = none) (nt : NoTup p o) : StR K dk OB H0 (add O p) (upd H p o) σ ρ n where
  len := S.len
  ob := fun b h => add_of (S.ob b h)
  od := S.od
  dom := fun b h => by
    by_cases c : b = p
    · rw [c]
      exact ⟨o, upd_same, nt⟩
    · rw [upd_ne c]
      exact (add_or h).elim (fun h => S.dom b h) fun z => absurd z c
  dkO := S.dkO
  fr := fun b u h e => same_new np _ _ (S.fr b u h e)
  dok := S.dok.same (same_new np)
  sl := fun j y e => by
    obtain ⟨v, e1, e2⟩ := S.sl j y e
    refine ⟨v, e1, ?_⟩
    cases y with
    | d x =>
      show Rp K (My.hid (add O p) (upd H p o)) v x
      rw [hid_add np]
      exact e2
    | l xs =>
      obtain ⟨q, vs, rfl, h1, h2, h3, h4, h5⟩ := e2
      exact ⟨q, vs, rfl, add_of h1, h2, h3, same_new np _ _ h4, by rw [hid_add np]; exact h5⟩
    | k xs =>
      obtain ⟨q, vs, rfl, h1, h2, h3, h4, h5⟩ := e2
      exact ⟨q, vs, rfl, add_of h1, h2, h3, same_new np _ _ h4, by rw [hid_add np]; exact h5⟩
    | t xs =>
      obtain ⟨q, vs, rfl, h1, h2, h3, h4, h5⟩ := e2
      exact ⟨q, vs, rfl, add_of h1, h2, h3, same_new np _ _ h4, by rw [hid_add np]; exact h5⟩
    | dk => exact e2
  dis := S.dis
end
abbrev GD := PyData → DEnv → Option DEnv
abbrev GDs := List PyData → DEnv → Option DEnv
def But (vs : List Nat) (σ σ' : L2.St) : Prop := σ'.length = σ.length ∧ ∀ j, j ∉ vs → σ'[j]? = σ[j]?
def tWG (K : PySem.W.Frag) (vs : List Nat) (w : GD) : TG := fun v σ H Q => ∃ dk OB H0 O ρ n x ρ', StR K dk OB H0 O H σ ρ n ∧ Rp K (hid O H) v x ∧ w x ρ = some ρ' ∧ ∀ σ', But vs σ σ' → StR K dk OB H0 O H σ' ρ' n → Q σ' H
def tWGs (K : PySem.W.Frag) (vs : List Nat) (w : GDs) : TGs := fun us σ H Q => ∃ dk OB H0 O ρ n xs ρ', StR K dk OB H0 O H σ ρ n ∧ RpAll K (hid O H) us xs ∧ w xs ρ = some ρ' ∧ ∀ σ', But vs σ σ' → StR K dk OB H0 O H σ' ρ' n → Q σ' H
abbrev PDG (X : Cx) (tg : Expr) (vs : List Nat) (w : GD) : Prop := PG X tg (tWG X.K vs w)
abbrev PDGs (X : Cx) (tgs : List Expr) (vs : List Nat) (w : GDs) : Prop := PGs X tgs (tWGs X.K vs w)
section
variable {X : Cx}
omit [TbC] in
theorem But.refl {σ : L2.St} : But [] σ σ := ⟨rfl, fun _ _ => rfl⟩
omit [TbC] in
theorem But.trans {a b : List Nat} {σ σ1 σ2 : L2.St} (h : But a σ σ1) (g : But b σ1 σ2) : But (a ++ b) σ σ2 := ⟨g.1.trans h.1, fun j z => (g.2 j fun m => z (List.mem_append_right _ m)).trans (h.2 j fun m => z (List.mem_append_left _ m))⟩
def gN (i : Nat) : GD := fun x ρ => some (ρ.set i (some (.d x)))
theorem qdg_name {i : Nat} {x : Str} {pos : Pos} (hN : X.N.Nodup) (hi : X.N[i]? = some x) (hx : Loc X.env.scope x) (hf : X.fn x = true ∨ X.env.scope.names.lookup x = some .local := by first | exact .inl rfl | exact .inr rfl | assumption) : PDG X (.Name x pos) [i] (gN i) :=
  ⟨fun pins s σ H v u Q I r ⟨_, _, _, _, _, _, _, _, S, rx, e, k⟩ => (pg_name hN hi hx hf).run pins s σ H v u Q I r (by
    cases e
    exact k _ ⟨List.length_set .., fun j z => List.getElem?_set_ne (fun c => z (by rw [c]; exact List.mem_singleton_self _))⟩ (S.set rx))⟩
def gsN : GDs := fun xs ρ => match xs with
  | [] => some ρ
  | _ => none
def gsC (g : GD) (gs : GDs) : GDs := fun xs ρ => match xs with
  | [] => none
  | x :: r => (g x ρ).bind (gs r)
theorem qdgs_nil : PDGs X [] [] gsN := ⟨fun pins s σ H vs us Q I r ⟨_, _, _, _, _, _, xs, _, S, rx, e, k⟩ => pgs_nil.run pins s σ H vs us Q I r (by
  cases rx with
  | nil =>
    cases e
    exact ⟨rfl, k σ But.refl S⟩
  | cons a b => cases e)⟩
theorem qdgs_cons {e : Expr} {es : List Expr} {a b : List Nat} {g : GD} {gs : GDs} (h1 : PDG X e a g) (h2 : PDGs X es b gs) (hs : (assignEach (e :: es) X.env).map (·.2) = assign e X.env :: (assignEach es X.env).map (·.2) := by rfl) : PDGs X (e :: es) (a ++ b) (gsC g gs) :=
  ⟨fun pins s σ H vs us Q I r ⟨_, _, _, _, _, _, xs, ρ', S, rx, e, k⟩ => (pgs_cons h1 h2 hs).run pins s σ H vs us Q I r (by
    cases rx with
    | nil => cases e
    | @cons v0 r0 x0 xr ra rb =>
      obtain ⟨ρ1, e1, e2⟩ := Option.bind_eq_some_iff.mp e
      exact ⟨_, _, rfl, _, _, _, _, _, _, _, _, S, ra, e1, fun σ1 b1 S1 => ⟨_, _, _, _, _, _, _, _, S1, rb, e2, fun σ2 b2 S2 => k σ2 (b1.trans b2) S2⟩⟩)⟩
def gT (n : Nat) (gs : GDs) : GD := fun x ρ => match x with
  | .tuple xs => if xs.length = n then gs xs ρ else none
  | _ => none
theorem qdg_tup {es : List Expr} {k : Nat} {vs : List Nat} {gs : GDs} {n : Nat} {pos : Pos} (hc : X.calm = true) (h : PDGs X es vs gs) (hn : (assignEach es X.env).length = n := by rfl) (hst : (assignEach es X.env).findIdx? (·.1) = none := by rfl) : PDG X (.Tuple es k pos) vs (gT n gs) :=
  ⟨fun pins s σ H v u Q I r ⟨_, _, _, _, _, _, x, ρ', S, rx, e, kk⟩ => (pg_tup hc h hn hst).run pins s σ H v u Q I r (by
    cases x with
    | tuple xs =>
      cases rx with
      | @tup a us _ hs ha _ =>
        have e' : (if xs.length = n then gs xs _ else none) = some ρ' := e
        by_cases c : xs.length = n
        · rw [if_pos c] at e'
          exact ⟨_, us, rfl, same_seqT hid_le hs, by rw [ha.len]; exact c, _, _, _, _, _, _, _, _, S, ha, e', kk⟩
        · rw [if_neg c] at e'
          cases e'
    | _ => cases e)⟩
end
omit [TbC] in
theorem wipe_get (σ : L2.St) : ∀ (vs : List Nat) (j : Nat), (wipe σ vs)[j]? = if j ∈ vs ∧ j < σ.length then some none else σ[j]?
  | [], j => by
    rw [if_neg (fun h => by simp at h)]
    rfl
  | v :: vs, j => by
    unfold wipe
    by_cases c : v = j
    · subst c
      by_cases l : v < σ.length
      · rw [List.getElem?_set_self (by rw [wipe_length]; exact l), if_pos ⟨List.mem_cons_self, l⟩]
      · rw [List.getElem?_eq_none (by rw [List.length_set, wipe_length]; omega), if_neg (fun h => l h.2), List.getElem?_eq_none (by omega)]
    · rw [List.getElem?_set_ne c, wipe_get σ vs j]
      have e : (j ∈ v :: vs ∧ j < σ.length) ↔ (j ∈ vs ∧ j < σ.length) := by
        rw [List.mem_cons]
        exact ⟨fun h => ⟨h.1.resolve_left (fun z => c z.symm), h.2⟩, fun h => ⟨.inr h.1, h.2⟩⟩
      by_cases d : j ∈ vs ∧ j < σ.length
      · rw [if_pos d, if_pos (e.mpr d)]
      · rw [if_neg d, if_neg fun z => d (e.mp z)]
omit [TbC] in
theorem wipe_but {own vs : List Nat} {σ σ2 : L2.St} (h : ∀ i ∈ vs, i ∈ own) (b : But vs (wipe σ own) σ2) : wipe σ2 own = wipe σ own := by
  have l2 : σ2.length = σ.length := b.1.trans (wipe_length σ own)
  refine List.ext_getElem? fun j => ?_
  rw [wipe_get, wipe_get, l2]
  by_cases c : j ∈ own ∧ j < σ.length
  · rw [if_pos c, if_pos c]
  · rw [if_neg c, if_neg c]
    by_cases d : j ∈ own
    · have nl : ¬ j < σ.length := fun l => c ⟨d, l⟩
      rw [List.getElem?_eq_none (by omega), List.getElem?_eq_none (by omega)]
    · rw [b.2 j (fun m => d (h j m)), wipe_get, if_neg c]
def ItOk (K : PySem.W.Frag) (O : Addr → Bool) (H1 : Hp) (J : It) (xs : List PyData) : Prop := ∀ (i : Nat) (O' : Addr → Bool) (H' : Hp), Same (hid O H1) (hid O' H') → Dom O' H' →
  (i < xs.length → J.go i H' ∧ ∀ x H'', J.yld i H' x H'' → ∃ d, xs[i]? = some d ∧ Same H' H'' ∧ Rp K (hid O' H'') x d) ∧ (xs.length ≤ i → J.stop i H')
def tWI (K : PySem.W.Frag) (w : AD) : TI := fun σ H R => ∃ dk OB H0 O ρ n Qd, StR K dk OB H0 O H σ ρ n ∧ w ρ n Qd ∧ ∀ J H1 n1 xs, FrD dk H H1 → DkOk dk n1 H1 → ItOk K O H1 J xs → Qd xs n1 → R J H1
abbrev PDI (X : Cx) (tg iter : Expr) (w : AD) : Prop := PI X tg iter (tWI X.K w)
def itemsD : PyData → Option (List PyData)
  | .list xs => some xs
  | .tuple xs => some xs
  | .str z => some (z.cps.toList.map fun c => .str ⟨#[c]⟩)
  | _ => none
def iV (w : ED) : AD := fun ρ n Q => w ρ n fun x n1 => ∃ xs, itemsD x = some xs ∧ Q xs n1
section
variable {X : Cx} {K : PySem.W.Frag} {tg : Expr}
omit [TbC] in
theorem it_list {O : Addr → Bool} {H1 : Hp} {a : Addr} {us : List V} {xs : List PyData} (hd : hid O H1 a = some (.lst us)) (h : RpAll K (hid O H1) us xs) : ItOk K O H1 (Itl K a) xs := fun i O' H' s _ => by
  have q : SqL K H' a us := .inl (.inl (hid_le _ _ (s _ _ hd)))
  refine ⟨fun l => ?_, fun l => ⟨us, q, by rw [h.len]; exact l⟩⟩
  have l' : i < us.length := by rw [h.len]; exact l
  refine ⟨⟨us, us[i], q, List.getElem?_eq_getElem l'⟩, fun x H'' ⟨e, y⟩ => ?_⟩
  subst e
  obtain ⟨d, e1, e2⟩ := h.get (y us q)
  exact ⟨d, e1, Same.refl _, Rp.same s _ _ e2⟩
omit [TbC] in
theorem it_tup {O : Addr → Bool} {H1 : Hp} {a : Addr} {us : List V} {xs : List PyData} (hd : SqT K (hid O H1) a us) (h : RpAll K (hid O H1) us xs) : ItOk K O H1 (Itt K a) xs := fun i O' H' s _ => by
  have q : SqT K H' a us := same_seqT hid_le (same_seqT s hd)
  refine ⟨fun l => ?_, fun l => ⟨us, q, by rw [h.len]; exact l⟩⟩
  have l' : i < us.length := by rw [h.len]; exact l
  refine ⟨⟨us, us[i], q, List.getElem?_eq_getElem l'⟩, fun x H'' ⟨e, y⟩ => ?_⟩
  subst e
  obtain ⟨d, e1, e2⟩ := h.get (y us q)
  exact ⟨d, e1, Same.refl _, Rp.same s _ _ e2⟩
omit [TbC] in
theorem it_str {O : Addr → Bool} {H1 : Hp} {z : Str} : ItOk K O H1 (Its z) (z.cps.toList.map fun c => .str ⟨#[c]⟩) := fun i O' H' s _ => by
  rw [List.length_map, Array.length_toList]
  refine ⟨fun l => ⟨l, fun x H'' ⟨e, c, e1, e2⟩ => ?_⟩, fun l => l⟩
  subst e e2
  exact ⟨.str ⟨#[c]⟩, by rw [List.getElem?_map, Array.getElem?_toList, e1]; rfl, Same.refl _, .str _⟩
omit [TbC] in
theorem it_rng {O : Addr → Bool} {H1 : Hp} {lo : Int} {m : Nat} : ItOk K O H1 (Itr lo m) ((List.range m).map fun (j : Nat) => .int (lo + (j : Int))) := fun i O' H' s _ => by
  rw [List.length_map, List.length_range]
  refine ⟨fun l => ⟨l, fun x H'' ⟨e, e2⟩ => ?_⟩, fun l => l⟩
  subst e e2
  exact ⟨.int (lo + i), by rw [List.getElem?_map, List.getElem?_range l]; rfl, Same.refl _, .int _⟩
def iSeq (K : PySem.W.Frag) (tl : TE) : TI := fun σ H R => tl σ H fun x H1 => (∃ a, x = .ref a ∧ (∃ xs, SqL K H1 a xs) ∧ R (Itl K a) H1) ∨ (∃ a, x = .ref a ∧ (∃ xs, SqT K H1 a xs) ∧ R (Itt K a) H1) ∨ ∃ z, x = .str z ∧ R (Its z) H1
omit [TbC] in
theorem pi_seq {l : Expr} {tl : TE} (hl : PE X l tl) : PI X tg l (iSeq X.K tl) := by
  refine ⟨fun pins s σ H R I h => ?_⟩
  refine thn (hl.run pins s σ H _ I h) fun v s1 ⟨x, H1, I1, r1, q1⟩ => ?_
  rcases q1 with ⟨a, e, ⟨xs, hq⟩, q⟩ | ⟨a, e, ⟨xs, hq⟩, q⟩ | ⟨z, e, q⟩
  · subst e
    cases r1
    obtain ⟨its, rv, p, hz⟩ := I1.list hq
    refine wpAny_pyIter_list p.isList ?_
    refine ⟨s1.heap.objs.size, [s1.heap.objs.size], _, _, H1, rfl, I1.kept (t' := s1.toks) fun b o e => Heap.get?_push_of_some _ e, turn_list a _, ⟨_, Heap.get?_push_size _ rfl, rfl, rfl⟩, fun b hb => ?_, q⟩
    have e : b = s1.heap.objs.size := by simpa using hb
    subst e
    exact I1.fpOk (Nat.le_refl _) (I1.hok.fresh (Nat.le_refl _))
  · subst e
    cases r1
    obtain ⟨its, rv, p, hz⟩ := I1.tuple hq
    refine wpAny_pyIter_tuple (show s1.heap.IsTuple a its.toArray from p) ?_
    refine ⟨s1.heap.objs.size, [s1.heap.objs.size], _, _, H1, rfl, I1.kept (t' := s1.toks) fun b o e => Heap.get?_push_of_some _ e, turn_tuple a _, ⟨_, Heap.get?_push_size _ rfl, rfl, rfl⟩, fun b hb => ?_, q⟩
    have e : b = s1.heap.objs.size := by simpa using hb
    subst e
    exact I1.fpOk (Nat.le_refl _) (I1.hok.fresh (Nat.le_refl _))
  · subst e
    obtain ⟨t, rfl⟩ := r1
    cases ha : z.cps.all (· < 128)
    · exact wpAny_pyIter_wide ha (pi_one (tk := s1.toks) I1 _ (turn_str _ z t "str_iterator" (.inr rfl)) ⟨_, Heap.get?_push_size _ rfl, rfl, rfl⟩ q)
    · exact wpAny_pyIter_ascii ha (pi_one (tk := s1.toks) I1 _ (turn_str _ z t "str_ascii_iterator" (.inl rfl)) ⟨_, Heap.get?_push_size _ rfl, rfl, rfl⟩ q)
theorem qdi_mk {iter : Expr} {wi : TI} {w : AD} (h : PI X tg iter wi) (r : ∀ {dk OB H0 O H σ ρ n} {R : It → Hp → Prop} {Qd}, StR X.K dk OB H0 O H σ ρ n → w ρ n Qd → (∀ J H1 n1 xs, FrD dk H H1 → DkOk dk n1 H1 → ItOk X.K O H1 J xs → Qd xs n1 → R J H1) → wi σ H R) : PDI X tg iter w :=
  ⟨fun pins s σ H R I ⟨_, _, _, _, _, _, _, S, hw, k⟩ => h.run pins s σ H R I (r S hw k)⟩
theorem qdi_val {e : Expr} {w : ED} (h : PD X e w) : PDI X tg e (iV w) := qdi_mk (pi_seq h) fun S hw k => rd_W S hw fun v d H1 n1 f1 d1 r1 ⟨xs, e, q⟩ => by
  cases d with
  | list ds =>
    cases e
    cases r1 with
    | lst hs ha => exact .inl ⟨_, rfl, ⟨_, .inl (.inl (hid_le _ _ hs))⟩, k _ H1 n1 _ f1 d1 (it_list hs ha) q⟩
  | tuple ds =>
    cases e
    cases r1 with
    | tup hs ha _ => exact .inr (.inl ⟨_, rfl, ⟨_, same_seqT hid_le hs⟩, k _ H1 n1 _ f1 d1 (it_tup hs ha) q⟩)
  | str z =>
    cases e
    cases r1
    exact .inr (.inr ⟨z, rfl, k _ H1 n1 _ f1 d1 it_str q⟩)
  | _ => cases e
def rangeD (m : Int) : List PyData := (List.range m.toNat).map fun (j : Nat) => .int (0 + (j : Int))
def iR (w : AD) : AD := fun ρ n Q => w ρ n fun xs n1 => ∃ m : Int, xs = [.int m] ∧ -(2 ^ 62) ≤ m ∧ m < 2 ^ 62 ∧ Q (rangeD m) n1
theorem qdi_range {a : Expr} {w : AD} {p pos : Pos} (hg : Gl X "range") (hm : X.mg "range" = none) (ha : PDA X [a] w) (hs : starEach [a] X.env = [(false, eval a X.env)] := by rfl) : PDI X tg (.Call (.Name "range" p) [a] [] pos) (iR w) := qdi_mk (pi_range1 hg hm ha hs) fun S hw k => rda_W S hw fun vs ds H1 n1 f1 d1 r1 ⟨m, e, l1, l2, q⟩ => by
  subst e
  cases r1 with
  | cons a b =>
    cases a
    cases b
    exact ⟨m, rfl, l1, l2, k _ H1 n1 _ f1 d1 it_rng q⟩
end
end My
namespace My
open PySem PySem.Spec PyProof.Rows L2
variable [TbC]
section
variable {K : PySem.W.Frag} {dk : Option DkI} {OB : Addr → Bool} {H0 : Hp} {O : Addr → Bool} {H H' : Hp} {σ : L2.St} {ρ : DEnv} {n n' : Nat}
theorem StR.nohold (S : StR K dk OB H0 O H σ ρ n) {p : Addr} (np : H p = none) : ∀ (j : Nat) (y : Sv), ρ[j]? = some (some y) → y.own = true → σ[j]? ≠ some (some (.ref p)) := fun j y e oy es => by
  obtain ⟨v, z1, z2⟩ := S.sl j y e
  rw [es] at z1
  cases z1
  cases y with
  | d x => cases oy
  | l xs =>
    obtain ⟨q, vs, z, h1, h2, h3, h4, h5⟩ := z2
    cases z
    rw [np] at h4
    cases h4
  | k xs =>
    obtain ⟨q, vs, z, h1, h2, h3, h4, h5⟩ := z2
    cases z
    rw [np] at h4
    cases h4
  | t xs =>
    obtain ⟨q, vs, z, h1, h2, h3, h4, h5⟩ := z2
    cases z
    rw [np] at h4
    cases h4
  | dk => cases oy
theorem StR.touch (S : StR K dk OB H0 O H σ ρ n) {p : Addr} {o : HO} (hO : O p = true) (h0 : H0 p = none) (hd : NotDk dk p) (nt : NoTup p o) (free : ∀ (j : Nat) (y : Sv), ρ[j]? = some (some y) → y.own = true → σ[j]? ≠ some (some (.ref p))) : StR K dk OB H0 O (upd H p o) σ ρ n where
  len := S.len
  ob := S.ob
  od := S.od
  dom := fun b h => by
    by_cases c : b = p
    · rw [c]
      exact ⟨o, upd_same, nt⟩
    · rw [upd_ne c]
      exact S.dom b h
  dkO := S.dkO
  fr := fun b u h e => by
    rw [upd_ne (fun z => by rw [z, h0] at e; cases e)]
    exact S.fr b u h e
  dok := S.dok.upd hd (S.dom p hO)
  sl := fun j y e => by
    obtain ⟨v, e1, e2⟩ := S.sl j y e
    refine ⟨v, e1, ?_⟩
    cases y with
    | d x =>
      show Rp K (My.hid O (upd H p o)) v x
      rw [hid_upd hO]
      exact e2
    | l xs =>
      obtain ⟨q, vs, rfl, h1, h2, h3, h4, h5⟩ := e2
      refine ⟨q, vs, rfl, h1, h2, h3, ?_, by rw [hid_upd hO]; exact h5⟩
      rw [upd_ne (fun z => free j (.l xs) e rfl (by rw [← z]; exact e1))]
      exact h4
    | k xs =>
      obtain ⟨q, vs, rfl, h1, h2, h3, h4, h5⟩ := e2
      refine ⟨q, vs, rfl, h1, h2, h3, ?_, by rw [hid_upd hO]; exact h5⟩
      rw [upd_ne (fun z => free j (.k xs) e rfl (by rw [← z]; exact e1))]
      exact h4
    | t xs =>
      obtain ⟨q, vs, rfl, h1, h2, h3, h4, h5⟩ := e2
      refine ⟨q, vs, rfl, h1, h2, h3, ?_, by rw [hid_upd hO]; exact h5⟩
      rw [upd_ne (fun z => free j (.t xs) e rfl (by rw [← z]; exact e1))]
      exact h4
    | dk => exact e2
  dis := S.dis
def rem (O : Addr → Bool) (p : Addr) : Addr → Bool := fun b => O b && !decide (b = p)
omit [TbC] in
theorem rem_of {O : Addr → Bool} {p b : Addr} (h : rem O p b = true) : O b = true := by
  unfold rem at h
  rw [Bool.and_eq_true] at h
  exact h.1
omit [TbC] in
theorem rem_ne {O : Addr → Bool} {p b : Addr} (h : O b = true) (n : b ≠ p) : rem O p b = true := by
  unfold rem
  rw [h, decide_eq_false n]
  rfl
omit [TbC] in
theorem rem_self {O : Addr → Bool} {p : Addr} : rem O p p = false := by
  unfold rem
  rw [decide_eq_true rfl]
  simp
theorem StR.give (S : StR K dk OB H0 O H σ ρ n) {i : Nat} {p : Addr} {s : Sv} {x : PyData} (hr : ρ[i]? = some (some s)) (ho : s.own = true) (hs : σ[i]? = some (some (.ref p))) (h0 : H0 p = none) (new : Rp K (My.hid (rem O p) H) (.ref p) x) : StR K dk OB H0 (rem O p) H σ (ρ.set i (some (.d x))) n where
  len := by rw [List.length_set, S.len]
  ob := fun b h => rem_ne (S.ob b h) fun e => S.od.ne h (by rw [e]; exact h0)
  od := S.od
  dom := fun b h => S.dom b (rem_of h)
  dkO := S.dkO
  fr := S.fr
  dok := S.dok
  sl := fun j y e => by
    have li : i < ρ.length := (List.getElem?_eq_some_iff.mp hr).1
    by_cases c : i = j
    · subst c
      rw [List.getElem?_set_self li] at e
      cases e
      exact ⟨_, hs, new⟩
    · rw [List.getElem?_set_ne c] at e
      obtain ⟨v, e1, e2⟩ := S.sl j y e
      have sm : Same (My.hid O H) (My.hid (rem O p) H) := hid_sub fun b h => rem_of h
      refine ⟨v, e1, ?_⟩
      cases y with
      | d x => exact Rp.same sm _ _ e2
      | l xs =>
        obtain ⟨q, vs, rfl, h1, h2, h3, h4, h5⟩ := e2
        exact ⟨q, vs, rfl, rem_ne h1 fun z => S.dis i j p s (.l xs) c hr e ho rfl hs (by rw [← z]; exact e1), h2, h3, h4, RpAll.same sm _ _ h5⟩
      | k xs =>
        obtain ⟨q, vs, rfl, h1, h2, h3, h4, h5⟩ := e2
        exact ⟨q, vs, rfl, rem_ne h1 fun z => S.dis i j p s (.k xs) c hr e ho rfl hs (by rw [← z]; exact e1), h2, h3, h4, RpKvs.same sm _ _ h5⟩
      | t xs =>
        obtain ⟨q, vs, rfl, h1, h2, h3, h4, h5⟩ := e2
        exact ⟨q, vs, rfl, rem_ne h1 fun z => S.dis i j p s (.t xs) c hr e ho rfl hs (by rw [← z]; exact e1), h2, h3, h4, ⟨RpTk.same sm h5.1, h5.2⟩⟩
      | dk => exact e2
  dis := fun a b q u w ne e1 e2 o1 o2 f1 f2 => by
    have li : i < ρ.length := (List.getElem?_eq_some_iff.mp hr).1
    have z : ∀ {j : Nat} {y : Sv}, (ρ.set i (some (.d x)))[j]? = some (some y) → y.own = true → ρ[j]? = some (some y) := fun {j y} e o => by
      by_cases c : i = j
      · subst c
        rw [List.getElem?_set_self li] at e
        cases e
        cases o
      · rw [List.getElem?_set_ne c] at e
        exact e
    exact S.dis a b q u w ne (z e1 o1) (z e2 o2) o1 o2 f1 f2
end
def lcD (g : GD) (p : TD) (e : ED) (ρ0 : DEnv) : List PyData → List PyData → M (List PyData)
  | [], acc => fun n Q => Q acc n
  | x :: xs, acc => fun n Q => ∃ ρ', g x ρ0 = some ρ' ∧ p ρ' n fun b n1 => if b = true then e ρ' n1 fun y n2 => lcD g p e ρ0 xs (acc ++ [y]) n2 Q else lcD g p e ρ0 xs acc n1 Q
def eLc (it : AD) (g : GD) (p : TD) (e : ED) (own : List Nat) : ED := fun ρ n Q => it ρ n fun xs n1 => xs.length ≤ lim ∧ lcD g p e (wipeD ρ own) xs [] n1 fun ys n2 => Q (.list ys) n2
def bYes : TD := fun _ n Q => Q true n
section
variable {X : Cx}
theorem qts_nil : PTs X [] (tWT X.K bYes) := ⟨fun pins s σ H Q I ⟨_, _, _, _, _, _, _, S, hw, k⟩ => pts_nil.run pins s σ H Q I (k _ H _ (FrD.refl H) S.dok hw)⟩
theorem qts_one {c : Expr} {w : TD} (h : PDT X c w) : PTs X [c] (tWT X.K w) := pts_one h
theorem rd_lc {K : PySem.W.Frag} {it : AD} {g : GD} {p : TD} {e : ED} {own vs : List Nat} (hvs : ∀ i ∈ vs, i ∈ own) : RdE K (tLc (tWI K it) (tWG K vs g) (tWT K p) (tW K e) own) (eLc it g p e own) := by
  intro dk OB H0 O H σ ρ n Q Qd S hw k
  refine ⟨dk, OB, H0, O, ρ, n, _, S, hw, fun J H1 n1 xs f1 d1 io hq D nD => ?_⟩
  obtain ⟨ll, q1⟩ := hq
  have S1 := S.step f1 d1
  have SA := S1.acc (o := .lst []) nD nt_lst
  have nd : NotDk dk D := d1.new nD
  have nA : ¬ dkA dk D := nd.nA
  have h0 := S1.fresh nD
  have free := S1.nohold nD
  have oD : add O D D = true := add_self
  let Wt : Nat → Hp → Prop := fun i H2 => ∃ us acc n2, H2 D = some (.lst us) ∧ RpAll K (hid (add O D) H2) us acc ∧ acc.length ≤ i ∧ StR K dk OB H0 (add O D) H2 σ ρ n2 ∧ Same (hid O H1) (hid (add O D) H2) ∧ FrD dk H1 H2 ∧ lcD g p e (wipeD ρ own) (xs.drop i) acc n2 fun ys n2 => Qd (.list ys) n2
  refine ⟨fun i m H2 => m = xs.length - i ∧ i ≤ xs.length ∧ Wt i H2, ⟨xs.length, by simp, Nat.zero_le _, [], [], n1, upd_same, .nil, Nat.le_refl _, SA, by rw [hid_add nD]; exact Same.refl _, FrD.of (same_new nD), q1⟩, ?_⟩
  rintro i m H2 ⟨rfl, hi, us, acc, n2, hD, rA, la, S2, s2, f2, q2⟩
  have itr := io i (add O D) H2 s2 S2.dom
  by_cases hlt : i < xs.length
  · obtain ⟨go, yl⟩ := itr.1 hlt
    refine .inr ⟨go, Wt (i + 1), fun H' w => ⟨xs.length - (i + 1), by omega, rfl, hlt, w⟩, fun x H3 y => ?_⟩
    obtain ⟨d, ed, s3, rx⟩ := yl x H3 y
    have ex : xs.drop i = d :: xs.drop (i + 1) := by
      rw [List.drop_eq_getElem_cons hlt]
      congr 1
      rw [List.getElem?_eq_getElem hlt] at ed
      exact Option.some.inj ed
    rw [ex] at q2
    obtain ⟨ρ', eg, q3⟩ := q2
    have S3 := S2.step (FrD.of s3) (S2.dok.same s3)
    refine ⟨dk, OB, H0, add O D, wipeD ρ own, n2, d, ρ', S3.wipe own, rx, eg, fun σ2 b2 S4 => ⟨wipe_but hvs b2, dk, OB, H0, add O D, ρ', n2, _, S4, q3, fun b H4 n3 f4 d4 q4 => ?_⟩⟩
    cases b with
    | true =>
      refine (if_pos rfl).mpr ⟨dk, OB, H0, add O D, ρ', n3, _, S4.step f4 d4, (if_pos rfl).mp q4, fun y' dy H5 n4 f5 d5 r5 q5 => ?_⟩
      have f25 : FrD dk H2 H5 := ((FrD.of s3).trans f4).trans f5
      have hD5 := f25 _ _ nA hD
      have S5 := S2.step f25 d5
      have s25 := hid_fr S2.dO f25
      refine ⟨us, hD5, ?_, us ++ [y'], acc ++ [dy], n4, upd_same, ?_, by rw [List.length_append]; exact Nat.succ_le_succ la, S5.touch oD h0 nd nt_lst free, ?_, ?_, q5⟩
      · have z := lim_le
        rw [rA.len]
        omega
      · rw [hid_upd oD]
        exact RpAll.app (RpAll.same s25 _ _ rA) (.cons r5 .nil)
      · rw [hid_upd oD]
        exact s2.trans s25
      · exact fun b o h z => by
          rw [upd_ne (ne_of_none z nD)]
          exact f25 _ _ h (f2 _ _ h z)
    | false =>
      have f24 : FrD dk H2 H4 := (FrD.of s3).trans f4
      have s24 := hid_fr S2.dO f24
      exact (if_neg Bool.false_ne_true).mpr ⟨us, acc, n3, f24 _ _ nA hD, RpAll.same s24 _ _ rA, by omega, S2.step f24 d4, s2.trans s24, f2.trans f24, (if_neg Bool.false_ne_true).mp q4⟩
  · have e : i = xs.length := by omega
    subst e
    rw [List.drop_length] at q2
    exact .inl ⟨itr.2 (Nat.le_refl _), k _ _ H2 n2 (f1.trans f2) S2.dok (.lst (hid_at (S1.dom.new nD) hD) (RpAll.same (hid_sub fun b h => add_of h) _ _ rA)) q2⟩
theorem qd_lc {elt tg iter : Expr} {ifs : List Expr} {scope : Scope} {own : List (Str × Nat)} {pos : Pos} {it : AD} {g : GD} {p : TD} {e : ED} {vs : List Nat} (hc : X.calm = true) (hN : X.N.Nodup) (hi : PDI X tg iter it) (ok : BlkOk X.N X.env.scope scope own) (hvs : ∀ i ∈ vs, i ∈ own.map (·.2))
    (hg : ∀ (s : Shared) (H : Hp) (C : Addr) (cl : List (Str × Addr)) (fp : List Addr), PDG (X.blk s H scope (compEnvC scope cl C X.env) fp) tg vs g) (ht : ∀ (s : Shared) (H : Hp) (C : Addr) (cl : List (Str × Addr)) (fp : List Addr), PTs (X.blk s H scope (compEnvC scope cl C X.env) fp) ifs (tWT X.K p))
    (he : ∀ (s : Shared) (H : Hp) (C : Addr) (cl : List (Str × Addr)) (fp : List Addr), PD (X.blk s H scope (compEnvC scope cl C X.env) fp) elt e) (hs : ∀ x, foldedSetIterable iter X.env x = pure x := by intro _; rfl) :
    PD X (.ListComp elt [⟨tg, iter, ifs, 0⟩] scope pos) (eLc it g p e (own.map (·.2))) := qd_mk (pe_lc hc hN hi ok hg ht he hs) (rd_lc hvs)
end
structure EndsD where
  nx : DEnv → Nat → Prop
  rt : PyData → Nat → Prop
  bk : DEnv → Nat → Prop
  ct : DEnv → Nat → Prop
abbrev SD := DEnv → Nat → EndsD → Prop
structure EndOk (K : PySem.W.Frag) (dk : Option DkI) (OB : Addr → Bool) (H0 : Hp) (O : Addr → Bool) (H : Hp) (E : EndsD) (D : Ends) : Prop where
  nx : ∀ O' H' σ' ρ' n', StR K dk OB H0 O' H' σ' ρ' n' → Same (hid O H) (hid O' H') → E.nx ρ' n' → D.nx σ' H'
  rt : ∀ v d H' n', FrD dk H0 H' → DkOk dk n' H' → Rp K (hid OB H') v d → E.rt d n' → D.rt v H'
  bk : ∀ O' H' σ' ρ' n', StR K dk OB H0 O' H' σ' ρ' n' → Same (hid O H) (hid O' H') → E.bk ρ' n' → D.bk σ' H'
  ct : ∀ O' H' σ' ρ' n', StR K dk OB H0 O' H' σ' ρ' n' → Same (hid O H) (hid O' H') → E.ct ρ' n' → D.ct σ' H'
theorem EndOk.mono {K : PySem.W.Frag} {dk : Option DkI} {OB : Addr → Bool} {H0 : Hp} {O O1 : Addr → Bool} {H H1 : Hp} {E : EndsD} {D : Ends} (h : EndOk K dk OB H0 O H E D) (s : Same (hid O H) (hid O1 H1)) : EndOk K dk OB H0 O1 H1 E D :=
  ⟨fun O' H' σ' ρ' n' S s' q => h.nx O' H' σ' ρ' n' S (s.trans s') q, h.rt, fun O' H' σ' ρ' n' S s' q => h.bk O' H' σ' ρ' n' S (s.trans s') q, fun O' H' σ' ρ' n' S s' q => h.ct O' H' σ' ρ' n' S (s.trans s') q⟩
def tWS (K : PySem.W.Frag) (w : SD) : TS := fun D σ H => ∃ dk OB H0 O ρ n E, StR K dk OB H0 O H σ ρ n ∧ w ρ n E ∧ EndOk K dk OB H0 O H E D
abbrev PSD (X : Cx) (st : Stmt) (w : SD) : Prop := PS X st (tWS X.K w)
abbrev PSDs (X : Cx) (sts : List Stmt) (w : SD) : Prop := PSs X sts (tWS X.K w)
section
variable {X : Cx}
theorem qs_mk {st : Stmt} {t : TS} {w : SD} (h : PS X st t) (r : ∀ {dk OB H0 O H σ ρ n E D}, StR X.K dk OB H0 O H σ ρ n → w ρ n E → EndOk X.K dk OB H0 O H E D → t D σ H) : PSD X st w := ⟨fun pins s σ H D I ⟨_, _, _, _, _, _, _, S, hw, k⟩ => h.run pins s σ H D I (r S hw k)⟩
theorem qss_mk {sts : List Stmt} {t : TS} {w : SD} (h : PSs X sts t) (r : ∀ {dk OB H0 O H σ ρ n E D}, StR X.K dk OB H0 O H σ ρ n → w ρ n E → EndOk X.K dk OB H0 O H E D → t D σ H) : PSDs X sts w := ⟨fun pins s σ H D I ⟨_, _, _, _, _, _, _, S, hw, k⟩ => h.run pins s σ H D I (r S hw k)⟩
def sNil : SD := fun ρ n E => E.nx ρ n
def sSeq (a b : SD) : SD := fun ρ n E => a ρ n { E with nx := fun ρ' n' => b ρ' n' E }
theorem qss_nil : PSDs X [] sNil := qss_mk pss_nil fun S hw k => k.nx _ _ _ _ _ S (Same.refl _) hw
theorem qss_cons {st : Stmt} {rest : List Stmt} {a b : SD} (h1 : PSD X st a) (h2 : PSDs X rest b) : PSDs X (st :: rest) (sSeq a b) := qss_mk (pss_cons h1 h2) fun S hw k =>
  ⟨_, _, _, _, _, _, _, S, hw, fun O' H' σ' ρ' n' S' s q => ⟨_, _, _, _, _, _, _, S', q, k.mono s⟩, k.rt, k.bk, k.ct⟩
theorem qss_one {st : Stmt} {a : SD} (h : PSD X st a) : PSDs X [st] a := qss_mk (pss_one h) fun S hw k => ⟨_, _, _, _, _, _, _, S, hw, k⟩
def sSet (i : Nat) (e : ED) : SD := fun ρ n E => e ρ n fun x n1 => E.nx (ρ.set i (some (.d x))) n1
theorem qs_set {i : Nat} {x : Str} {e : Expr} {w : ED} {pos pos' : Pos} (hN : X.N.Nodup) (hi : X.N[i]? = some x) (hx : Loc X.env.scope x) (he : PD X e w) (hs : swapsWith e (some (.Name x pos')) pos.line X.env = pure false := by rfl)
    (hf : X.fn x = true ∨ X.env.scope.names.lookup x = some .local := by first | exact .inl rfl | exact .inr rfl | assumption) : PSD X (.Assign [.Name x pos'] e pos) (sSet i w) := qs_mk (ps_set hN hi hx he hs hf) fun S hw k => rd_W S hw fun v d H1 n1 f1 d1 r1 q1 =>
  k.nx _ _ _ _ _ ((S.step f1 d1).set r1) (S.hid f1) q1
theorem qs_setLc {i : Nat} {y : Str} {py : Pos} {elt tg iter : Expr} {ifs : List Expr} {scope : Scope} {own : List (Str × Nat)} {pos spos : Pos} {it : AD} {g : GD} {p : TD} {e : ED} {vs : List Nat} (hc : X.calm = true) (hN : X.N.Nodup) (hy : X.N[i]? = some y) (hyl : X.env.scope.names.lookup y = some .local)
    (hsw : swapsWith (.ListComp elt [⟨tg, iter, ifs, 0⟩] scope pos) (some (.Name y py)) spos.line X.env = pure true) (hi : PDI X tg iter it) (ok : BlkOk X.N X.env.scope scope own) (hvs : ∀ i ∈ vs, i ∈ own.map (·.2))
    (hg : ∀ (s : Shared) (H : Hp) (C : Addr) (cl : List (Str × Addr)) (fp : List Addr), PDG (X.blk s H scope (compEnvC scope cl C X.env) fp) tg vs g) (ht : ∀ (s : Shared) (H : Hp) (C : Addr) (cl : List (Str × Addr)) (fp : List Addr), PTs (X.blk s H scope (compEnvC scope cl C X.env) fp) ifs (tWT X.K p))
    (he : ∀ (s : Shared) (H : Hp) (C : Addr) (cl : List (Str × Addr)) (fp : List Addr), PD (X.blk s H scope (compEnvC scope cl C X.env) fp) elt e) (hs : ∀ x, foldedSetIterable iter X.env x = pure x := by intro _; rfl) :
    PSD X (.Assign [.Name y py] (.ListComp elt [⟨tg, iter, ifs, 0⟩] scope pos) spos) (sSet i (eLc it g p e (own.map (·.2)))) := qs_mk (ps_setLc hc hN hy hyl hsw hi ok hg ht he hs) fun S hw k => rd_lc hvs S hw fun v d H1 n1 f1 d1 r1 q1 =>
  k.nx _ _ _ _ _ ((S.step f1 d1).set r1) (S.hid f1) q1
def sAsg (e : ED) (g : GD) : SD := fun ρ n E => e ρ n fun x n1 => ∃ ρ', g x ρ = some ρ' ∧ E.nx ρ' n1
theorem qs_asg {tg e : Expr} {w : ED} {g : GD} {vs : List Nat} {pos : Pos} (he : PD X e w) (hg : PDG X tg vs g) (hs : swapsWithSole [tg] e pos.line X.env = pure false := by rfl) (hw : swappedStores [tg] e X.env = pure none := by rfl)
    (h1 : (assignEach [tg] X.env).map (·.2) = [assign tg X.env] := by rfl) : PSD X (.Assign [tg] e pos) (sAsg w g) := qs_mk (ps_asg he hg hs hw h1) fun S hw k => rd_W S hw fun v d H1 n1 f1 d1 r1 ⟨ρ', eg, q1⟩ =>
  ⟨_, _, _, _, _, _, _, _, S.step f1 d1, r1, eg, fun σ' _ S' => k.nx _ _ _ _ _ S' (S.hid f1) q1⟩
def sRet (e : ED) : SD := fun ρ n E => e ρ n E.rt
theorem qs_ret {e : Expr} {w : ED} {pos : Pos} (he : PD X e w) : PSD X (.Return (some e) pos) (sRet w) := qs_mk (ps_ret he) fun S hw k => rd_W S hw fun v d H1 n1 f1 d1 r1 q1 => k.rt v d H1 n1 (S.fr.trans f1) d1 (Rp.same (hid_sub S.ob) _ _ r1) q1
def sIf (c : TD) (a b : SD) : SD := fun ρ n E => c ρ n fun x n1 => if x = true then a ρ n1 E else b ρ n1 E
theorem qs_if {c : Expr} {a b : List Stmt} {wc : TD} {wa wb : SD} {pos : Pos} (hc : PDT X c wc) (ha : PSDs X a wa) (hb : PSDs X b wb) : PSD X (.If c a b pos) (sIf wc wa wb) := qs_mk (ps_if hc ha hb) fun S hw k => rdt_W S hw fun b H1 n1 f1 d1 q1 => by
  cases b with
  | true => exact (if_pos rfl).mpr ⟨_, _, _, _, _, _, _, S.step f1 d1, (if_pos rfl).mp q1, k.mono (S.hid f1)⟩
  | false => exact (if_neg Bool.false_ne_true).mpr ⟨_, _, _, _, _, _, _, S.step f1 d1, (if_neg Bool.false_ne_true).mp q1, k.mono (S.hid f1)⟩
def sFor1 (g : GD) (b : SD) : List PyData → SD
  | [] => fun ρ n E => E.nx ρ n
  | x :: xs => fun ρ n E => ∃ ρ', g x ρ = some ρ' ∧ b ρ' n { E with nx := fun ρ2 n2 => sFor1 g b xs ρ2 n2 E, ct := fun ρ2 n2 => sFor1 g b xs ρ2 n2 E, bk := E.nx }
def sFor (it : AD) (g : GD) (b : SD) : SD := fun ρ n E => it ρ n fun xs n1 => sFor1 g b xs ρ n1 E
theorem qs_for {tg iter : Expr} {body : List Stmt} {it : AD} {g : GD} {vs : List Nat} {b : SD} {pos : Pos} (hp : PassesOwn (model X.prog X.w) X.A X.env X.xe) (hc : X.calm = true) (hi : PDI X tg iter it) (hg : PDG X tg vs g) (hb : PSDs X body b)
    (hs : ∀ x, foldedSetIterable iter X.env x = pure x := by intro _; rfl) : PSD X (.For tg iter body [] pos) (sFor it g b) := qs_mk (ps_for hp hc hi hg hb hs) (by
  intro dk OB H0 O H σ ρ n E D S hw k
  refine ⟨dk, OB, H0, O, ρ, n, _, S, hw, fun J H1 n1 xs f1 d1 io q1 => ?_⟩
  have k1 := k.mono (S.hid f1)
  let Wt : Nat → L2.St → Hp → Prop := fun i σ2 H2 => ∃ O2 ρ2 n2, StR X.K dk OB H0 O2 H2 σ2 ρ2 n2 ∧ Same (hid O H1) (hid O2 H2) ∧ sFor1 g b (xs.drop i) ρ2 n2 E
  refine ⟨fun i m σ2 H2 => m = xs.length - i ∧ i ≤ xs.length ∧ Wt i σ2 H2, ⟨xs.length, by simp, Nat.zero_le _, O, ρ, n1, S.step f1 d1, Same.refl _, q1⟩, ?_⟩
  rintro i m σ2 H2 ⟨rfl, hi, O2, ρ2, n2, S2, s2, q2⟩
  have itr := io i O2 H2 s2 S2.dom
  by_cases hlt : i < xs.length
  · obtain ⟨go, yl⟩ := itr.1 hlt
    refine .inr ⟨go, Wt (i + 1), fun σ' H' w => ⟨xs.length - (i + 1), by omega, rfl, hlt, w⟩, fun x H3 y => ?_⟩
    obtain ⟨d, ed, s3, rx⟩ := yl x H3 y
    have ex : xs.drop i = d :: xs.drop (i + 1) := by
      rw [List.drop_eq_getElem_cons hlt]
      congr 1
      rw [List.getElem?_eq_getElem hlt] at ed
      exact Option.some.inj ed
    rw [ex] at q2
    obtain ⟨ρ', eg, q3⟩ := q2
    have S3 := S2.step (FrD.of s3) (S2.dok.same s3)
    have s23 := hid_same (O := O2) s3
    refine ⟨dk, OB, H0, O2, ρ2, n2, d, ρ', S3, rx, eg, fun σ4 b4 S4 => ⟨dk, OB, H0, O2, ρ', n2, _, S4, q3, ?_, k.rt, ?_, ?_⟩⟩
    · exact fun O' H' σ' ρ'' n' S' s' q => ⟨O', ρ'', n', S', (s2.trans s23).trans s', q⟩
    · exact fun O' H' σ' ρ'' n' S' s' q => k1.nx O' H' σ' ρ'' n' S' ((s2.trans s23).trans s') q
    · exact fun O' H' σ' ρ'' n' S' s' q => ⟨O', ρ'', n', S', (s2.trans s23).trans s', q⟩
  · have e : i = xs.length := by omega
    subst e
    rw [List.drop_length] at q2
    exact .inl ⟨itr.2 (Nat.le_refl _), k1.nx O2 H2 σ2 ρ2 n2 S2 s2 q2⟩)
def sNewL (i : Nat) : SD := fun ρ n E => E.nx (ρ.set i (some (.l []))) n
theorem qs_newL {i : Nat} {x : Str} {pos pos' p1 : Pos} (hN : X.N.Nodup) (hi : X.N[i]? = some x) (hx : Loc X.env.scope x) (hs : swapsWith (.List [] p1) (some (.Name x pos')) pos.line X.env = pure false := by rfl)
    (hf : X.fn x = true ∨ X.env.scope.names.lookup x = some .local := by first | exact .inl rfl | exact .inr rfl | assumption) : PSD X (.Assign [.Name x pos'] (.List [] p1) pos) (sNewL i) := qs_mk (ps_set hN hi hx (pe_lst pa_nil) hs hf) fun {dk OB H0 O H σ ρ n E D} S hw k => by
  refine ⟨Nat.zero_le _, fun p np => ?_⟩
  refine k.nx (add O p) _ _ _ n (S.new np (s := .l []) rfl nt_lst ⟨p, [], rfl, add_self, S.fresh np, S.dok.new np, upd_same, .nil⟩) ?_ hw
  rw [hid_add np]
  exact Same.refl _
def sApp (i : Nat) (e : ED) : SD := fun ρ n E => ∃ xs, ρ[i]? = some (some (.l xs)) ∧ e ρ n fun x n1 => xs.length < lim ∧ E.nx (ρ.set i (some (.l (xs ++ [x])))) n1
def sGive (i : Nat) (b : SD) : SD := fun ρ n E => ∃ xs, ρ[i]? = some (some (.l xs)) ∧ b (ρ.set i (some (.d (.list xs)))) n E
theorem qss_give {sts : List Stmt} {b : SD} (i : Nat) (h : PSDs X sts b) : PSDs X sts (sGive i b) := qss_mk h fun {dk OB H0 O H σ ρ n E D} S hw k => by
  obtain ⟨xs, e1, q⟩ := hw
  obtain ⟨v, z1, p, us, rfl, h1, h2, h3, h4, h5⟩ := S.sl _ _ e1
  have sm : Same (My.hid O H) (My.hid (rem O p) H) := hid_sub fun b h => rem_of h
  exact ⟨_, _, _, rem O p, _, n, E, S.give e1 rfl z1 h2 (.lst (hid_at rem_self h4) (RpAll.same sm _ _ h5)), q, k.mono sm⟩
end
structure Car (O : Addr → Bool) (H : Hp) : Prop where
  dom : Dom O H
  own : ∀ b, tA b → O b = true
  tab : TbOk H
def spP (K : PySem.W.Frag) (F : List PyData → Option PyData) : Sp := fun vs H Q _ => ∃ (O : Addr → Bool) (ds : List PyData) (d : PyData), Car O H ∧ RpAll K (hid O H) vs ds ∧ F ds = some d ∧ ∀ v H', FrD none H H' → TbOk H' → Rp K (hid O H') v d → Q v H'
theorem StR.car {K : PySem.W.Frag} {dk : Option DkI} {OB : Addr → Bool} {H0 : Hp} {O : Addr → Bool} {H : Hp} {σ : L2.St} {ρ : DEnv} {n : Nat} (S : StR K dk OB H0 O H σ ρ n) : Car O H := ⟨S.dom, fun b h => S.dO b (.inr h), S.dok.2⟩
theorem pu_fn {K : PySem.W.Frag} {F : List PyData → Option PyData} {ts : TA} {ws : AD} {E : XK} (hs : RdA K ts ws) : RdE K (tCall (spP K F) [] E ts) (eCall F ws) := fun {dk OB H0 O H σ ρ n Q Qd} S hw k =>
  hs S hw fun vs ds H1 n1 f1 d1 r1 ⟨z, ez, q⟩ => ⟨O, ds, z, (S.step f1 d1).car, by rw [List.append_nil]; exact r1, ez, fun v H' f t r => k v z H' n1 (f1.trans f.up) (d1.tab f t) r q⟩
theorem qd_call {X : Cx} {CX : CXT} {k : Nat} {f : Addr} {fd : FuncData} {ps : List Str} {F : List PyData → Option PyData} {x : Str} {e : Expr} {es : List Expr} {ws : AD} {p pos : Pos} {E : XK} (G : FnOk X.prog X.w X.K X.mg X.base CX k f fd ps (spP X.K F)) (hr : Room k X.A) (hg : Gl X x) (hm : X.mg x = some (.ref f))
    (hk : PySem.W.keepIn X.K (.ref f) = true) (hb : Binds X.K fd ps []) (hx : Passes CX X E) (ha : PDA X (e :: es) ws) (hdb : (x == ("__debug__" : Str)) = false := by decide) (he : starEach (e :: es) X.env = (false, eval e X.env) :: starEach es X.env := by rfl) (hpl : (backTo pos (starEach es X.env)).any (·.1) = false := by rfl) :
    PD X (.Call (.Name x p) (e :: es) [] pos) (eCall F ws) := qd_mk (pe_call G hr hg hm hk hb .nil hx ha hdb he hpl) (pu_fn rda_W)
def startD (N : List Str) (ds : List PyData) : DEnv := ds.map (fun d => some (.d d)) ++ List.replicate (N.length - ds.length) none
theorem str_start {K : PySem.W.Frag} {O : Addr → Bool} {H : Hp} {vs : List V} {ds : List PyData} (N : List Str) (d : Car O H) (r : RpAll K (hid O H) vs ds) : StR K none O H O H (L2.start N vs) (startD N ds) 0 where
  len := by
    unfold L2.start startD
    rw [List.length_append, List.length_append, List.length_map, List.length_map, List.length_replicate, List.length_replicate, r.len]
  ob := fun _ h => h
  od := d.dom
  dom := d.dom
  dkO := fun b h => d.own b (h.resolve_left fun ⟨D, e, _⟩ => by cases e)
  fr := FrD.refl H
  dok := ⟨trivial, d.tab⟩
  sl := fun i s e => by
    unfold startD at e
    unfold L2.start
    by_cases l : i < ds.length
    · rw [List.getElem?_append_left (by rw [List.length_map]; exact l), List.getElem?_map] at e
      obtain ⟨x, e1, e2⟩ := Option.map_eq_some_iff.mp e
      cases e2
      obtain ⟨v, z1, z2⟩ := r.at e1
      exact ⟨v, by rw [List.getElem?_append_left (by rw [List.length_map, r.len]; exact l), List.getElem?_map, z1]; rfl, z2⟩
    · rw [List.getElem?_append_right (by rw [List.length_map]; omega), List.getElem?_replicate] at e
      split at e
      · cases e
      · cases e
  dis := fun i j p s s' ne e1 e2 o1 o2 => by
    have z : ∀ {i : Nat} {s : Sv}, (startD N ds)[i]? = some (some s) → s.own = true → False := fun {i s} e o => by
      unfold startD at e
      by_cases l : i < ds.length
      · rw [List.getElem?_append_left (by rw [List.length_map]; exact l), List.getElem?_map] at e
        obtain ⟨x, e1, e2⟩ := Option.map_eq_some_iff.mp e
        cases e2
        cases o
      · rw [List.getElem?_append_right (by rw [List.length_map]; omega), List.getElem?_replicate] at e
        split at e
        · cases e
        · cases e
    exact (z e1 o1).elim
def endD (d : PyData) : EndsD := ⟨fun _ _ => d = .none, fun x _ => x = d, fun _ _ => False, fun _ _ => False⟩
theorem fn_ok {P : Program} {w : World} {K : PySem.W.Frag} {mg : Str → Option Value} {base : Heap} {x qual : Str} {st : Stmt} {f : Addr} {fd : FuncData} {N ps : List Str} {k : Nat} {Fd : List PyData → Option PyData} {W : SD} (F : Fun K x qual st f fd) (S : FnScope N ps (defScope st))
    (hw : ∀ (cdv : Value) (A : Around) (outer : List Env) (s : Shared) (H : Hp) (E : XK), Room k (A.deeper (envOfC qual (defScope st) s.heap.objs.size f cdv)) → PSDs (cxOf CX0 P w K mg base N qual (defScope st) f cdv A outer s H E).nox (defBody st) W)
    (hF : ∀ ds d, Fd ds = some d → ds.length = ps.length ∧ W (startD N ds) 0 (endD d)) : FnOk P w K mg base CX0 (k + 1) f fd ps (spP K Fd) := by
  refine F.ok S (fun vs H Q E h => ?_) (fun cdv A outer s H vs Q E hr h => ?_)
  · obtain ⟨O, ds, d, _, r, e, _⟩ := h
    rw [r.len]
    exact (hF ds d e).1
  · obtain ⟨O, ds, d, dm, r, e, q⟩ := h
    refine ⟨_, hw cdv A outer s H E hr, none, O, H, O, _, 0, endD d, str_start N dm r, (hF ds d e).2, ?_⟩
    refine ⟨fun O' H' σ' ρ' n' S' s' z => ?_, fun v d' H' n' f1 d1 r1 z => ?_, fun _ _ _ _ _ _ _ z => z.elim, fun _ _ _ _ _ _ _ z => z.elim⟩
    · have z' : d = .none := z
      exact q .non H' S'.fr S'.dok.2 (by rw [z']; exact .non)
    · have z' : d' = d := z
      exact q v H' f1 d1.2 (by rw [← z']; exact r1)
end My
namespace My
open PySem PySem.Spec PyProof.Rows L2
variable [TbC]
section
variable {K : PySem.W.Frag}
def addD : PyData → PyData → Option PyData
  | .int i, .int j => some (.int (i + j))
  | .str a, .str b => if a.length + b.length ≤ lim then some (.str (a ++ b)) else none
  | .list xs, .list ys => if xs.length + ys.length ≤ lim then some (.list (xs ++ ys)) else none
  | .tuple xs, .tuple ys => if xs.length + ys.length ≤ lim then some (.tuple (xs ++ ys)) else none
  | _, _ => none
abbrev rAddU (K : PySem.W.Frag) : R2 := fun x y H Q => rI0 (fun i j => .int (i + j)) x y H Q ∨ (∃ i j, x = .str i ∧ y = .str j ∧ i.length + j.length ≤ sizeLine ∧ Q (.str (i ++ j)) H) ∨ rCat x y H Q ∨ rCatK K x y H Q
omit [TbC] in
theorem op_addU {X : Cx} : OpR X (binaryOp .Add) (rAddU X.K) := op_add.or (op_add_str.or (op_cat.or op_catK))
omit [TbC] in
theorem ite_some {α : Type} {c : Prop} [Decidable c] {a b : α} (h : (if c then some a else none) = some b) : c ∧ a = b := by
  by_cases k : c
  · rw [if_pos k] at h
    exact ⟨k, Option.some.inj h⟩
  · rw [if_neg k] at h
    cases h
omit [TbC] in
theorem pu_add : Pu2 K (rAddU K) addD := by
  intro O H x y dx dy dz Q dm rx ry e k
  cases dx with
  | int i =>
    cases dy with
    | int j =>
      cases rx
      cases ry
      cases e
      exact .inl ⟨i, j, rfl, rfl, k _ H (Same.refl H) (.int _)⟩
    | _ => cases e
  | str a =>
    cases dy with
    | str b =>
      cases rx
      cases ry
      obtain ⟨c, e⟩ := ite_some e
      subst e
      exact .inr (.inl ⟨a, b, rfl, rfl, Nat.le_trans c lim_le, k _ H (Same.refl H) (.str _)⟩)
    | _ => cases e
  | list xs =>
    cases dy with
    | list ys =>
      obtain ⟨c, e⟩ := ite_some e
      subst e
      cases rx with
      | lst h1 a1 =>
      cases ry with
      | lst h2 a2 =>
      refine .inr (.inr (.inl ⟨_, _, _, _, rfl, rfl, hid_le _ _ h1, hid_le _ _ h2, by rw [a1.len, a2.len]; exact Nat.le_trans c lim_le, fun p np => ?_⟩))
      exact k _ _ (same_new np) (.lst (hid_new dm np) (RpAll.same (hid_same (same_new np)) _ _ (RpAll.app a1 a2)))
    | _ => cases e
  | tuple xs =>
    cases dy with
    | tuple ys =>
      obtain ⟨c, e⟩ := ite_some e
      subst e
      have rx' := rx
      have ry' := ry
      cases rx with
      | @tup ax us _ h1 a1 _ =>
      cases ry with
      | @tup ay ws _ h2 a2 _ =>
      refine .inr (.inr (.inr ⟨_, _, us, ws, rfl, rfl, same_seqT hid_le h1, same_seqT hid_le h2, by rw [a1.len, a2.len]; exact Nat.le_trans c lim_le, fun z => ?_, fun _ z => ?_, fun _ _ p o np kt => ?_⟩))
      · subst z
        cases a1
        exact k _ H (Same.refl H) ry'
      · subst z
        cases a2
        rw [List.append_nil] at k
        exact k _ H (Same.refl H) rx'
      · exact k _ _ (same_new np) (.tup (kt.rd (hid_new dm np)) (RpAll.same (hid_same (same_new np)) _ _ (RpAll.app a1 a2)) fun _ => kt.pl (hid_new dm np))
    | _ => cases e
  | _ => cases e
def subD : PyData → PyData → Option PyData
  | .int i, .int j => some (.int (i - j))
  | _, _ => none
omit [TbC] in
theorem pu_int {g : Int → Int → V} {f : PyData → PyData → Option PyData} (h : ∀ dx dy dz, f dx dy = some dz → ∃ i j, dx = .int i ∧ dy = .int j ∧ ∀ H, Rp K H (g i j) dz) : Pu2 K (rI0 g) f := by
  intro O H x y dx dy dz Q dm rx ry e k
  obtain ⟨i, j, rfl, rfl, hr⟩ := h _ _ _ e
  cases rx
  cases ry
  exact ⟨i, j, rfl, rfl, k _ H (Same.refl H) (hr _)⟩
def modD : PyData → PyData → Option PyData
  | .int i, .int j => if 0 < j then some (.int (i % j)) else none
  | _, _ => none
omit [TbC] in
theorem pu_mod : Pu2 K (rI (fun _ j => 0 < j) fun i j => .int (i % j)) modD := by
  intro O H x y dx dy dz Q dm rx ry e k
  cases dx <;> cases dy <;> try cases e
  obtain ⟨c, e⟩ := ite_some e
  subst e
  cases rx
  cases ry
  exact ⟨_, _, rfl, rfl, c, k _ H (Same.refl H) (.int _)⟩
def fdivD : PyData → PyData → Option PyData
  | .int i, .int j => if 0 < j ∧ j < 1073741824 then some (.int (i / j)) else none
  | _, _ => none
omit [TbC] in
theorem pu_fdiv : Pu2 K (rI CDiv fun i j => .int (i / j)) fdivD := by
  intro O H x y dx dy dz Q dm rx ry e k
  cases dx <;> cases dy <;> try cases e
  obtain ⟨c, e⟩ := ite_some e
  subst e
  cases rx
  cases ry
  exact ⟨_, _, rfl, rfl, c, k _ H (Same.refl H) (.int _)⟩
def ltD (p : Int → Int → Bool) : PyData → PyData → Option PyData
  | .int i, .int j => some (.bool (p i j))
  | _, _ => none
omit [TbC] in
theorem pu_cmp {p : Int → Int → Bool} : Pu2 K (rI0 fun i j => .bl (p i j)) (ltD p) := pu_int fun dx dy dz e => by
  cases dx <;> cases dy <;> cases e
  exact ⟨_, _, rfl, rfl, fun _ => .bl _⟩
def notB : PyData → PyData
  | .bool b => .bool (!b)
  | x => x
def eqD (x y : PyData) : Option PyData := match x, y with
  | .str a, .str b => some (.bool (decide (a = b)))
  | .int a, .int b => some (.bool (decide (a = b)))
  | .bool a, .bool b => some (.bool (decide (a = b)))
  | .none, .none => some (.bool true)
  | x, y => if flatD x = true ∧ flatD y = true ∧ SeqAt.shaped x = true ∧ SeqAt.shaped y = true then some (.bool (PyData.eqv x y)) else none
def neD (x y : PyData) : Option PyData := (eqD x y).map notB
abbrev rEqU (K : PySem.W.Frag) : R2 := fun x y H Q => rEq x y H Q ∨ rEqD K x y H Q
abbrev rNeU (K : PySem.W.Frag) : R2 := fun x y H Q => rNe x y H Q ∨ rNeD K x y H Q
omit [TbC] in
theorem op_eqU {X : Cx} (hu : X.A.units + 64 < cLine) : OpR X (compareOp .Eq) (rEqU X.K) := op_eq.or (op_eqD hu)
omit [TbC] in
theorem op_neU {X : Cx} (hu : X.A.units + 64 < cLine) : OpR X (compareOp .NotEq) (rNeU X.K) := op_ne.or (op_neD hu)
omit [TbC] in
theorem eq_cases {O : Addr → Bool} {H : Hp} {x y : V} {dx dy dz : PyData} (rx : Rp K (hid O H) x dx) (ry : Rp K (hid O H) y dy) (e : eqD dx dy = some dz) :
    (∃ b, dz = .bool b ∧ scal x y = true ∧ decide (x = y) = b) ∨ (∃ b, dz = .bool b ∧ Dp K H x dx ∧ Dp K H y dy ∧ SeqAt.shaped dx = true ∧ SeqAt.shaped dy = true ∧ PyData.eqv dx dy = b) := by
  have gen : (if flatD dx = true ∧ flatD dy = true ∧ SeqAt.shaped dx = true ∧ SeqAt.shaped dy = true then some (PyData.bool (PyData.eqv dx dy)) else none) = some dz → ∃ b, dz = .bool b ∧ Dp K H x dx ∧ Dp K H y dy ∧ SeqAt.shaped dx = true ∧ SeqAt.shaped dy = true ∧ PyData.eqv dx dy = b := fun z => by
    obtain ⟨⟨c1, c2, c3, c4⟩, z⟩ := ite_some z
    exact ⟨_, z.symm, Rp.dp _ _ c1 (Rp.same hid_le _ _ rx), Rp.dp _ _ c2 (Rp.same hid_le _ _ ry), c3, c4, rfl⟩
  cases dx <;> cases dy <;> first
    | exact .inr (gen e)
    | (cases rx; cases ry; cases e; refine .inl ⟨_, rfl, rfl, ?_⟩; first | rfl | simp)
omit [TbC] in
theorem pu_eq : Pu2 K (rEqU K) eqD := by
  intro O H x y dx dy dz Q dm rx ry e k
  rcases eq_cases rx ry e with ⟨b, rfl, s, z⟩ | ⟨b, rfl, h1, h2, h3, h4, z⟩
  · refine .inl ⟨s, ?_⟩
    rw [z]
    exact k _ H (Same.refl H) (.bl b)
  · refine .inr ⟨dx, dy, h1, h2, h3, h4, ?_⟩
    rw [z]
    exact k _ H (Same.refl H) (.bl b)
omit [TbC] in
theorem pu_ne : Pu2 K (rNeU K) neD := by
  intro O H x y dx dy dz Q dm rx ry e k
  obtain ⟨dw, ew, e⟩ := Option.map_eq_some_iff.mp e
  subst e
  rcases eq_cases rx ry ew with ⟨b, rfl, s, z⟩ | ⟨b, rfl, h1, h2, h3, h4, z⟩
  · refine .inl ⟨s, ?_⟩
    rw [z]
    exact k _ H (Same.refl H) (.bl _)
  · refine .inr ⟨dx, dy, h1, h2, h3, h4, ?_⟩
    rw [z]
    exact k _ H (Same.refl H) (.bl _)
def isNoneD : PyData → Bool
  | .none => true
  | _ => false
def isND (neg : Bool) (x y : PyData) : Option PyData := match y with
  | .none => some (.bool (if neg then !isNoneD x else isNoneD x))
  | _ => none
omit [TbC] in
theorem rp_non {H : Hp} {x : V} {d : PyData} (h : Rp K H x d) : decide (x = .non) = isNoneD d := by
  cases h <;> first | rfl | (exact decide_eq_false (fun z => by cases z))
omit [TbC] in
theorem pu_notN : Pu2 K (fun x y H Q => y = .non ∧ Q (.bl (!decide (x = .non))) H) (isND true) := by
  intro O H x y dx dy dz Q dm rx ry e k
  cases dy <;> cases e
  cases ry
  refine ⟨rfl, ?_⟩
  rw [rp_non rx]
  exact k _ H (Same.refl H) (.bl _)
def scalD : PyData → Bool
  | .none => true
  | .bool _ => true
  | .int _ => true
  | .str _ => true
  | _ => false
def eqS : PyData → PyData → Bool
  | .none, .none => true
  | .bool a, .bool b => a == b
  | .bool a, .int b => (if a then 1 else 0) == b
  | .int a, .bool b => a == (if b then 1 else 0)
  | .int a, .int b => a == b
  | .str a, .str b => a == b
  | _, _ => false
def deepD (x y : PyData) : Bool := flatD x && flatD y && SeqAt.shaped x && SeqAt.shaped y
def inDs (neg : Bool) (x : PyData) (ys : List PyData) (y : PyData) : Option PyData := if scalD x = true ∧ ys.all scalD = true then some (.bool (if neg then !ys.any (fun z => eqS z x) else ys.any (fun z => eqS z x))) else
      if deepD x y = true then some (.bool (if neg then !ys.any (fun z => PyData.eqv z x) else ys.any fun z => PyData.eqv z x)) else none
def inD (neg : Bool) (x y : PyData) : Option PyData := match y with
  | .list ys => inDs neg x ys (.list ys)
  | .tuple ys => inDs neg x ys (.tuple ys)
  | .str z => match x with
    | .str a => if a.cps.size = 1 then some (.bool (if neg then !decide (a.cps.getD 0 0 ∈ z.cps.toList) else decide (a.cps.getD 0 0 ∈ z.cps.toList))) else none
    | _ => none
  | _ => none
omit [TbC] in
theorem rp_flat {H : Hp} {x : V} {d : PyData} (h : Rp K H x d) : flatV x = scalD d := by cases h <;> rfl
omit [TbC] in
theorem rps_flat {H : Hp} : ∀ {xs : List V} {ds : List PyData}, RpAll K H xs ds → xs.all flatV = ds.all scalD
  | _, _, .nil => rfl
  | _, _, .cons h t => by rw [List.all_cons, List.all_cons, rp_flat h, rps_flat t]
omit [TbC] in
theorem rp_eqV {H : Hp} {x y : V} {d e : PyData} (h : Rp K H x d) (g : Rp K H y e) : eqV x y = eqS d e := by
  cases h <;> cases g <;> rfl
omit [TbC] in
theorem rps_in {H : Hp} {x : V} {d : PyData} (h : Rp K H x d) : ∀ {xs : List V} {ds : List PyData}, RpAll K H xs ds → inV x xs = ds.any fun z => eqS z d
  | _, _, .nil => rfl
  | _, _, .cons g t => by
    have ih := rps_in h t
    unfold inV at ih ⊢
    rw [List.any_cons, List.any_cons, rp_eqV g h, ih]
def rDp (K : PySem.W.Frag) (neg : Bool) : R2 := fun x y H Q => ∃ d e ds, (e = .list ds ∨ e = .tuple ds) ∧ Dp K H x d ∧ Dp K H y e ∧ SeqAt.shaped d = true ∧ SeqAt.shaped e = true ∧ Q (.bl (if neg then !ds.any (fun z => PyData.eqv z d) else ds.any fun z => PyData.eqv z d)) H
abbrev rInU (K : PySem.W.Frag) : R2 := fun x y H Q => rIn K false x y H Q ∨ (∃ (c : Nat) (z : Str), x = .str ⟨#[c]⟩ ∧ y = .str z ∧ Q (.bl (decide (c ∈ z.cps.toList))) H) ∨ rDp K false x y H Q
abbrev rNotInU (K : PySem.W.Frag) : R2 := fun x y H Q => rIn K true x y H Q ∨ (∃ (c : Nat) (z : Str), x = .str ⟨#[c]⟩ ∧ y = .str z ∧ Q (.bl (!decide (c ∈ z.cps.toList))) H) ∨ rDp K true x y H Q
omit [TbC] in
theorem str_one {a : Str} (h : a.cps.size = 1) : a = ⟨#[a.cps.getD 0 0]⟩ := by
  obtain ⟨c⟩ := a
  obtain ⟨l⟩ := c
  match l, h with
  | [c], _ => rfl
omit [TbC] in
theorem seq_in {O : Addr → Bool} {H : Hp} {a : Addr} {us : List V} {ys : List PyData} {x : V} {dx : PyData} {neg : Bool} {Q : VK} (hs : SqL K H a us ∨ SqT K H a us) (ha : RpAll K (hid O H) us ys) (rx : Rp K (hid O H) x dx) (c : scalD dx = true ∧ ys.all scalD = true)
    (k : Q (.bl (if neg then !ys.any (fun z => eqS z dx) else ys.any (fun z => eqS z dx))) H) : rIn K neg x (.ref a) H Q := by
  refine ⟨a, us, rfl, hs, by rw [rp_flat rx]; exact c.1, by rw [rps_flat ha]; exact c.2, ?_⟩
  rw [rps_in rx ha]
  exact k
end
section
variable {X : Cx} {K : PySem.W.Frag}
omit [TbC] in
theorem op_inU (hu : X.A.units + 65 < cLine) : OpR X (compareOp .In) (rInU X.K) := op_in_seq.or (op_in_sign.or (by
  intro pins s σ H x y v u Q I rx ry h
  obtain ⟨d, e, ds, ee, hd, he, sd, se, q⟩ := h
  obtain ⟨as, r1⟩ := Dp.reads I d x v hd rx
  rcases ee with rfl | rfl
  · obtain ⟨bs, r2⟩ := Dp.reads I (.list ds) y u he ry
    exact SeqAt.in_list_reads r2 r1 (SeqAt.canLay_of_shaped se) (SeqAt.canLay_of_shaped sd) (room_in_shaped sd hu) ⟨.bl _, H, I, rfl, q⟩
  · obtain ⟨bs, r2⟩ := Dp.reads I (.tuple ds) y u he ry
    exact SeqAt.in_tuple_reads r2 r1 (SeqAt.canLay_of_shaped se) (SeqAt.canLay_of_shaped sd) (room_in_shaped sd hu) ⟨.bl _, H, I, rfl, q⟩))
omit [TbC] in
theorem op_notInU (hu : X.A.units + 65 < cLine) : OpR X (compareOp .NotIn) (rNotInU X.K) := op_notIn_seq.or (op_notIn_sign.or (by
  intro pins s σ H x y v u Q I rx ry h
  obtain ⟨d, e, ds, ee, hd, he, sd, se, q⟩ := h
  obtain ⟨as, r1⟩ := Dp.reads I d x v hd rx
  rcases ee with rfl | rfl
  · obtain ⟨bs, r2⟩ := Dp.reads I (.list ds) y u he ry
    exact SeqAt.notIn_list_reads r2 r1 (SeqAt.canLay_of_shaped se) (SeqAt.canLay_of_shaped sd) (room_in_shaped sd hu) ⟨.bl _, H, I, rfl, q⟩
  · obtain ⟨bs, r2⟩ := Dp.reads I (.tuple ds) y u he ry
    exact SeqAt.notIn_tuple_reads r2 r1 (SeqAt.canLay_of_shaped se) (SeqAt.canLay_of_shaped sd) (room_in_shaped sd hu) ⟨.bl _, H, I, rfl, q⟩))
omit [TbC] in
theorem deep_is {x y : PyData} (h : deepD x y = true) : flatD x = true ∧ flatD y = true ∧ SeqAt.shaped x = true ∧ SeqAt.shaped y = true := by
  unfold deepD at h
  simp only [Bool.and_eq_true] at h
  exact ⟨h.1.1.1, h.1.1.2, h.1.2, h.2⟩
omit [TbC] in
theorem inDs_is {neg : Bool} {O : Addr → Bool} {H : Hp} {x y : V} {dx dy dz : PyData} {ys : List PyData} {a : Addr} {us : List V} {Q : VK} (ey : y = .ref a) (ed : dy = .list ys ∨ dy = .tuple ys) (hs : SqL K H a us ∨ SqT K H a us) (ha : RpAll K (hid O H) us ys) (rx : Rp K (hid O H) x dx) (ry : Rp K (hid O H) y dy)
    (e : inDs neg dx ys dy = some dz) (k : ∀ v H', Same H H' → Rp K (hid O H') v dz → Q v H') : rIn K neg x y H Q ∨ rDp K neg x y H Q := by
  subst ey
  unfold inDs at e
  by_cases c : scalD dx = true ∧ ys.all scalD = true
  · rw [if_pos c] at e
    cases e
    exact .inl (seq_in hs ha rx c (k _ H (Same.refl H) (.bl _)))
  · rw [if_neg c] at e
    obtain ⟨c, e⟩ := ite_some e
    subst e
    obtain ⟨c2, c3, c4, c5⟩ := deep_is c
    exact .inr ⟨dx, dy, ys, ed, Rp.dp _ _ c2 (Rp.same hid_le _ _ rx), Rp.dp _ _ c3 (Rp.same hid_le _ _ ry), c4, c5, k _ H (Same.refl H) (.bl _)⟩
omit [TbC] in
theorem pu_in : Pu2 K (rInU K) (inD false) := by
  intro O H x y dx dy dz Q dm rx ry e k
  cases dy with
  | list ys =>
    have ry' := ry
    cases ry with
    | lst h1 a1 => exact (inDs_is rfl (.inl rfl) (.inl (.inl (.inl (hid_le _ _ h1)))) a1 rx ry' e k).imp id .inr
  | tuple ys =>
    have ry' := ry
    cases ry with
    | tup h1 a1 _ => exact (inDs_is rfl (.inr rfl) (.inr (same_seqT hid_le h1)) a1 rx ry' e k).imp id .inr
  | str z =>
    cases dx with
    | str a =>
      cases rx
      cases ry
      obtain ⟨c, e⟩ := ite_some e
      subst e
      exact .inr (.inl ⟨a.cps.getD 0 0, z, by rw [← str_one c], rfl, k _ H (Same.refl H) (.bl _)⟩)
    | _ => cases e
  | _ => cases e
omit [TbC] in
theorem pu_notIn : Pu2 K (rNotInU K) (inD true) := by
  intro O H x y dx dy dz Q dm rx ry e k
  cases dy with
  | list ys =>
    have ry' := ry
    cases ry with
    | lst h1 a1 => exact (inDs_is rfl (.inl rfl) (.inl (.inl (.inl (hid_le _ _ h1)))) a1 rx ry' e k).imp id .inr
  | tuple ys =>
    have ry' := ry
    cases ry with
    | tup h1 a1 _ => exact (inDs_is rfl (.inr rfl) (.inr (same_seqT hid_le h1)) a1 rx ry' e k).imp id .inr
  | str z =>
    cases dx with
    | str a =>
      cases rx
      cases ry
      obtain ⟨c, e⟩ := ite_some e
      subst e
      exact .inr (.inl ⟨a.cps.getD 0 0, z, by rw [← str_one c], rfl, k _ H (Same.refl H) (.bl _)⟩)
    | _ => cases e
  | _ => cases e
def ixD (x y : PyData) : Option PyData := match y with
  | .int i => match x with
    | .list xs => atI xs i
    | .tuple xs => atI xs i
    | .str z => if z.length ≤ lim then (atI z.cps.toList i).map fun c => .str ⟨#[c]⟩ else none
    | _ => none
  | _ => none
omit [TbC] in
theorem rps_atI {H : Hp} {us : List V} {xs : List PyData} {i : Int} {d : PyData} (h : RpAll K H us xs) (e : atI xs i = some d) : ∃ v, atI us i = some v ∧ Rp K H v d := by
  unfold atI at e ⊢
  obtain ⟨j, e1, e2⟩ := Option.bind_eq_some_iff.mp e
  obtain ⟨v, z1, z2⟩ := h.at e2
  exact ⟨v, by rw [h.len, e1]; exact z1, z2⟩
omit [TbC] in
theorem pu_ix : Pu2 K (rIx K) ixD := by
  intro O H x y dx dy dz Q dm rx ry e k
  cases dy with
  | int i =>
    cases ry
    cases dx with
    | list xs =>
      cases rx with
      | lst h1 a1 =>
      obtain ⟨v, z1, z2⟩ := rps_atI a1 e
      exact .inl ⟨_, _, i, v, rfl, rfl, .inl (.inl (hid_le _ _ h1)), z1, k v H (Same.refl H) z2⟩
    | tuple xs =>
      cases rx with
      | tup h1 a1 _ =>
      obtain ⟨v, z1, z2⟩ := rps_atI a1 e
      exact .inr (.inl ⟨_, _, i, v, rfl, rfl, same_seqT hid_le h1, z1, k v H (Same.refl H) z2⟩)
    | str z =>
      cases rx
      have e' : (if z.length ≤ lim then (atI z.cps.toList i).map fun c => PyData.str ⟨#[c]⟩ else none) = some dz := e
      by_cases c : z.length ≤ lim
      · rw [if_pos c] at e'
        obtain ⟨c0, e1, e2⟩ := Option.map_eq_some_iff.mp e'
        subst e2
        exact .inr (.inr ⟨z, i, c0, rfl, rfl, Nat.le_trans c lim_le, e1, k _ H (Same.refl H) (.str _)⟩)
      · rw [if_neg c] at e'
        cases e'
    | _ => cases e
  | _ => cases e
def cutD (xs : List PyData) (lo hi : Option Int) : List PyData := (xs.drop (HT.sIx xs.length 0 lo)).take (HT.sIx xs.length xs.length hi - HT.sIx xs.length 0 lo)
def slD (x : PyData) (lo hi : Option Int) : Option PyData := match x with
  | .list xs => some (.list (cutD xs lo hi))
  | .tuple xs => some (.tuple (cutD xs lo hi))
  | .str z => if z.length ≤ lim then some (.str (cutS z lo hi)) else none
  | _ => none
omit [TbC] in
theorem rps_cut {H : Hp} {us : List V} {xs : List PyData} (h : RpAll K H us xs) (lo hi : Option Int) : RpAll K H (cutV us lo hi) (cutD xs lo hi) := by
  unfold cutV cutD
  rw [h.len]
  exact (h.drop _).take _
abbrev rSlU (K : PySem.W.Frag) : V → Option Int → Option Int → Hp → VK → Prop := fun x lo hi H Q => rSlL K x lo hi H Q ∨ rSlK K x lo hi H Q ∨ rSlS x lo hi H Q
theorem sl_U : L2.SlR X (rSlU X.K) := sl_list.or (sl_tupK.or sl_str)
omit [TbC] in
theorem pu_sl : PuS K (rSlU K) slD := by
  intro O H x dx lo hi dz Q dm rx e k
  cases dx with
  | list xs =>
    cases e
    cases rx with
    | lst h1 a1 =>
    exact .inl ⟨_, _, rfl, .inl (.inl (hid_le _ _ h1)), fun p np => k _ _ (same_new np) (.lst (hid_new dm np) (RpAll.same (hid_same (same_new np)) _ _ (rps_cut a1 lo hi)))⟩
  | tuple xs =>
    cases e
    have rx' := rx
    cases rx with
    | @tup a us _ h1 a1 _ =>
    refine .inr (.inl ⟨_, us, rfl, same_seqT hid_le h1, fun c => ?_, fun _ p o np kt => k _ _ (same_new np) (.tup (kt.rd (hid_new dm np)) (RpAll.same (hid_same (same_new np)) _ _ (rps_cut a1 lo hi)) fun _ => kt.pl (hid_new dm np))⟩)
    have e : cutD xs lo hi = xs := by
      unfold cutD
      rw [← a1.len, c.1, c.2, a1.len, List.drop_zero, Nat.sub_zero, List.take_length]
    rw [e] at k
    exact k _ H (Same.refl H) rx'
  | str z =>
    cases rx
    obtain ⟨c, e⟩ := ite_some e
    subst e
    exact .inr (.inr ⟨z, rfl, Nat.le_trans c lim_le, k _ H (Same.refl H) (.str _)⟩)
  | _ => cases e
def lenD : List PyData → Option PyData
  | [.list xs] => some (.int xs.length)
  | [.tuple xs] => some (.int xs.length)
  | [.str z] => if z.length ≤ lim then some (.int z.length) else none
  | _ => none
abbrev rLenU (K : PySem.W.Frag) : List V → Hp → VK → Prop := fun xs H Q => (∃ p ys, xs = [.ref p] ∧ (SqL K H p ys ∨ SqT K H p ys) ∧ Q (.int ys.length) H) ∨ ∃ z, xs = [.str z] ∧ z.length ≤ sizeLine ∧ Q (.int z.length) H
omit [TbC] in
theorem CallR.or {f : Value} {r r' : List V → Hp → VK → Prop} (h : CallR X f r) (h' : CallR X f r') : CallR X f (fun xs H Q => r xs H Q ∨ r' xs H Q) := by
  intro pins s σ H xs us Q I rx q
  rcases q with q | q
  · exact h pins s σ H xs us Q I rx q
  · exact h' pins s σ H xs us Q I rx q
omit [TbC] in
theorem cr_lenU : CallR X (.builtin "len") (rLenU X.K) := CallR.or call_len_seq call_len_str
omit [TbC] in
theorem rps1 {H : Hp} {us : List V} {d : PyData} (h : RpAll K H us [d]) : ∃ v, us = [v] ∧ Rp K H v d := by
  cases h with
  | cons a b =>
    cases b
    exact ⟨_, rfl, a⟩
omit [TbC] in
theorem pu_len : PuN K (rLenU K) lenD := by
  intro O H xs ds dz Q dm r e k
  match ds, e with
  | [.list ys], e =>
    cases e
    obtain ⟨v, rfl, r1⟩ := rps1 r
    cases r1 with
    | lst h1 a1 => exact .inl ⟨_, _, rfl, .inl (.inl (.inl (hid_le _ _ h1))), by rw [a1.len]; exact k _ H (Same.refl H) (.int _)⟩
  | [.tuple ys], e =>
    cases e
    obtain ⟨v, rfl, r1⟩ := rps1 r
    cases r1 with
    | tup h1 a1 _ => exact .inl ⟨_, _, rfl, .inr (same_seqT hid_le h1), by rw [a1.len]; exact k _ H (Same.refl H) (.int _)⟩
  | [.str z], e =>
    obtain ⟨c, e⟩ := ite_some e
    subst e
    obtain ⟨v, rfl, r1⟩ := rps1 r
    cases r1
    exact .inr ⟨z, rfl, Nat.le_trans c lim_le, k _ H (Same.refl H) (.int _)⟩
def tupD1 : List PyData → Option PyData
  | [.list xs] => some (.tuple xs)
  | [.tuple xs] => some (.tuple xs)
  | _ => none
omit [TbC] in
theorem cr_tupU {X : Cx} : CallR X (.type "tuple") (rTupU X.K) := CallR.or call_tupK call_tupleT
omit [TbC] in
theorem pu_tuple : PuN K (rTupU K) tupD1 := by
  intro O H xs ds dz Q dm r e k
  match ds, e with
  | [.list ys], e =>
    cases e
    obtain ⟨v, rfl, r1⟩ := rps1 r
    cases r1 with
    | lst h1 a1 => exact .inl ⟨_, _, rfl, .inl (.inl (hid_le _ _ h1)), fun p o np kt => k _ _ (same_new np) (.tup (kt.rd (hid_new dm np)) (RpAll.same (hid_same (same_new np)) _ _ a1) fun _ => kt.pl (hid_new dm np))⟩
  | [.tuple ys], e =>
    cases e
    obtain ⟨v, rfl, r1⟩ := rps1 r
    have r2 := r1
    cases r1 with
    | tup h1 a1 _ => exact .inr ⟨_, _, rfl, same_seqT hid_le h1, k _ H (Same.refl H) r2⟩
def lstD1 : List PyData → Option PyData
  | [.list xs] => some (.list xs)
  | [.tuple xs] => some (.list xs)
  | _ => none
omit [TbC] in
theorem pu_list : PuN K (fun xs H Q => ∃ p ys, xs = [.ref p] ∧ (SqL K H p ys ∨ SqT K H p ys) ∧ ∀ l, H l = none → Q (.ref l) (upd H l (.lst ys))) lstD1 := by
  intro O H xs ds dz Q dm r e k
  match ds, e with
  | [.list ys], e =>
    cases e
    obtain ⟨v, rfl, r1⟩ := rps1 r
    cases r1 with
    | lst h1 a1 => exact ⟨_, _, rfl, .inl (.inl (.inl (hid_le _ _ h1))), fun p np => k _ _ (same_new np) (.lst (hid_new dm np) (RpAll.same (hid_same (same_new np)) _ _ a1))⟩
  | [.tuple ys], e =>
    cases e
    obtain ⟨v, rfl, r1⟩ := rps1 r
    cases r1 with
    | tup h1 a1 _ => exact ⟨_, _, rfl, .inr (same_seqT hid_le h1), fun p np => k _ _ (same_new np) (.lst (hid_new dm np) (RpAll.same (hid_same (same_new np)) _ _ a1))⟩
def boolsD : List PyData → Option (List Bool)
  | [] => some []
  | .bool b :: r => (boolsD r).map (b :: ·)
  | _ => none
omit [TbC] in
theorem rps_bools {H : Hp} : ∀ {us : List V} {ds : List PyData} {bs : List Bool}, RpAll K H us ds → boolsD ds = some bs → us = bs.map V.bl
  | _, _, _, .nil, e => by cases e; rfl
  | _, _, _, .cons (d := d) h t, e => by
    cases d with
    | bool b =>
      obtain ⟨r, e1, e2⟩ := Option.map_eq_some_iff.mp e
      subst e2
      cases h
      rw [rps_bools t e1, List.map_cons]
    | _ => cases e
def allD : List PyData → Option PyData
  | [.list xs] => (boolsD xs).map fun bs => .bool (bs.all id)
  | _ => none
omit [TbC] in
theorem pu_all : PuN K (rAll K) allD := by
  intro O H xs ds dz Q dm r e k
  match ds, e with
  | [.list ys], e =>
    obtain ⟨bs, e1, e2⟩ := Option.map_eq_some_iff.mp e
    subst e2
    obtain ⟨v, rfl, r1⟩ := rps1 r
    cases r1 with
    | lst h1 a1 => exact ⟨_, bs, rfl, .inl (.inl (by rw [← rps_bools a1 e1]; exact hid_le _ _ h1)), k _ H (Same.refl H) (.bl _)⟩
def tyS : PyData → String
  | .none => "NoneType"
  | .bool _ => "bool"
  | .int _ => "int"
  | .str _ => "str"
  | .list _ => "list"
  | .tuple _ => "tuple"
  | .dict _ => "dict"
omit [TbC] in
theorem tyS_of {H : Hp} {v : V} {d : PyData} (nd : (match d with | .dict _ => false | _ => true) = true) (h : Rp K H v d) : TyX K H v (.type (tyS d)) := by
  cases h with
  | non => exact .base .non
  | bl b => exact .base (.bl b)
  | int i => exact .base (.int i)
  | str x => exact .base (.str x)
  | lst hs _ => exact .base (.lst hs)
  | tup hs _ _ =>
    rcases hs with (hs | ⟨o, hs⟩) | ⟨o, its, n, hk, hc, _⟩
    · exact .base (.tup hs)
    · exact .fTuple hs
    · exact .kTuple hk hc
  | dic hs _ => exact absurd nd Bool.false_ne_true
structure IsT (K : PySem.W.Frag) (T : String) (c : String → Bool) : Prop where
  h0 : PySem.W.kitOne K (.type "NoneType") (.type T) = some (c "NoneType")
  h1 : PySem.W.kitOne K (.type "bool") (.type T) = some (c "bool")
  h2 : PySem.W.kitOne K (.type "int") (.type T) = some (c "int")
  h3 : PySem.W.kitOne K (.type "str") (.type T) = some (c "str")
  h4 : PySem.W.kitOne K (.type "list") (.type T) = some (c "list")
  h5 : PySem.W.kitOne K (.type "tuple") (.type T) = some (c "tuple")
def noDict : PyData → Bool
  | .dict _ => false
  | _ => true
def eIsi (c : String → Bool) (w : ED) : ED := fun ρ n Q => w ρ n fun x n1 => noDict x = true ∧ Q (.bool (c (tyS x))) n1
theorem qd_isi {T : String} {c : String → Bool} {e : Expr} {w : ED} {x : Str} {p p2 pos : Pos} (k : IsT X.K T c) (hg : Gl X "isinstance") (hm : X.mg "isinstance" = none) (he : PD X e w) (hgT : Gl X x) (hmT : X.mg x = none) (hvT : bootBuiltins x = some (.type T)) (hn : x ≠ "__name__" := by decide) (hd : (x == ("__debug__" : Str)) = false := by decide)
    (h1 : starEach [e, .Name x p2] X.env = (false, eval e X.env) :: starEach [.Name x p2] X.env := by rfl) (h2 : starEach [.Name x p2] X.env = (false, eval (.Name x p2) X.env) :: starEach [] X.env := by rfl)
    (hpl : (backTo pos (starEach [.Name x p2] X.env)).any (·.1) = false := by rfl) : PD X (.Call (.Name "isinstance" p) [e, .Name x p2] [] pos) (eIsi c w) :=
  qd_mk (pe_callB call_isi hg hm PyProof.Rows.boot_isinstance (pa_cons he (pa_cons (pe_bltn (v := .ty T) hgT hmT hvT rfl hn hd) pa_nil h2) h1) (he := h1) (hpl := hpl)) fun S hw kk => rd_W S hw fun v d H1 n1 f1 d1 r1 ⟨nd, q⟩ => by
    refine ⟨v, .ty T, .type (tyS d), .type T, c (tyS d), rfl, .ty _, tyS_of (by cases d <;> first | rfl | exact nd) (Rp.same hid_le _ _ r1), ?_, kk _ _ H1 n1 f1 d1 (.bl _) q⟩
    cases d with
    | none => exact k.h0
    | bool _ => exact k.h1
    | int _ => exact k.h2
    | str _ => exact k.h3
    | list _ => exact k.h4
    | tuple _ => exact k.h5
    | dict _ => cases nd
end
end My
namespace My
open PySem PySem.Spec PyProof.Rows L2
variable [TbC]
omit [TbC] in
theorem Room.u65 {k : Nat} {A : Around} (r : Room k A) : A.units + 65 < cLine := by
  have := r.un
  omega
def eChain (f g : PyData → PyData → Option PyData) (a b c : ED) : ED := fun ρ n Q => a ρ n fun x n1 => b ρ n1 fun y n2 => ∃ k, f x y = some (.bool k) ∧ if k = true then c ρ n2 fun w n3 => ∃ z, g y w = some z ∧ Q z n3 else Q (.bool false) n2
section
variable {X : Cx} {K : PySem.W.Frag}
theorem rd_chain {r r' : R2} {f g : PyData → PyData → Option PyData} {a b c : ED} (h : Pu2 K r f) (h' : Pu2 K r' g) : RdE K (tChain r r' (tW K a) (tW K b) (tW K c)) (eChain f g a b c) := fun S hw k =>
  rd_W S hw fun v d H1 n1 f1 d1 r1 q1 => rd_W (S.step f1 d1) q1 fun u e H2 n2 f2 d2 r2 ⟨kb, ek, q2⟩ =>
    h (S.step (f1.trans f2) d2).dom (Rp.same (hid_fr S.dO f2) _ _ r1) r2 ek fun z H3 s3 rz => by
      cases rz
      refine ⟨kb, rfl, ?_⟩
      have f3 := (f1.trans f2).trans (FrD.of (dk := _) s3)
      have d3 := d2.same s3
      cases kb with
      | true => exact (if_pos rfl).mpr (rd_W (S.step f3 d3) ((if_pos rfl).mp q2) fun w e4 H4 n4 f4 d4 r4 ⟨z, ez, q4⟩ =>
          h' (S.step (f3.trans f4) d4).dom (Rp.same (hid_fr S.dO ((FrD.of s3).trans f4)) _ _ r2) r4 ez fun v' H' s r => k _ _ H' n4 ((f3.trans f4).trans (FrD.of s)) (d4.same s) r q4)
      | false => exact (if_neg Bool.false_ne_true).mpr (k _ _ H3 n2 f3 d3 (.bl false) ((if_neg Bool.false_ne_true).mp q2))
theorem qd_chain {op op' : CmpOp} {r r' : R2} {f g : PyData → PyData → Option PyData} {a b c : Expr} {wa wb wc : ED} {pos : Pos} (ho : OpR X (compareOp op) r) (h : Pu2 X.K r f) (ho' : OpR X (compareOp op') r') (h' : Pu2 X.K r' g) (ha : PD X a wa) (hb : PD X b wb) (hc : PD X c wc)
    (hm : lastMarks [op, op'] [b, c] = false := by with_unfolding_all rfl) : PD X (.Compare a [op, op'] [b, c] pos) (eChain f g wa wb wc) := qd_mk (pe_chain ho ho' ha hb hc hm) (rd_chain h h')
theorem qdt_chain {op op' : CmpOp} {r r' : R2} {f g : PyData → PyData → Option PyData} {a b c : Expr} {wa wb wc : ED} {pos : Pos} (ho : OpR X (compareOp op) r) (h : Pu2 X.K r f) (ho' : OpR X (compareOp op') r') (h' : Pu2 X.K r' g) (ha : PD X a wa) (hb : PD X b wb) (hc : PD X c wc)
    (hm : lastMarks [op, op'] [b, c] = false := by with_unfolding_all rfl) : PDT X (.Compare a [op, op'] [b, c] pos) (bT (eChain f g wa wb wc)) := qdt_mk (pt_chain ho ho' ha hb hc hm) fun S hw k => rd_chain h h' S hw fun v d H1 n1 f1 d1 r1 ⟨b, e, q⟩ => by
  subst e
  cases r1
  exact ⟨b, rfl, k b H1 n1 f1 d1 q⟩
theorem qs_app' {i : Nat} {w : ED} {st : Stmt} (hst : PS X st (tDrop (tBM X.K "list" rAppend (tVar i) (tCons (tW X.K w) tNil)))) : PSD X st (sApp i w) := qs_mk hst fun {dk OB H0 O H σ ρ n E D} S hw k => by
  obtain ⟨xs, e1, q⟩ := hw
  obtain ⟨v, z1, p, us, rfl, h1, h2, h3, h4, h5⟩ := S.sl _ _ e1
  refine ⟨_, z1, .inl ⟨rfl, _, .inl (.inl h4)⟩, rd_W S q fun v d H1 n1 f1 d1 r1 ⟨ll, q1⟩ => ?_⟩
  have nA : ¬ dkA dk p := h3.nA
  have h4' := f1 _ _ nA h4
  have S1 := S.step f1 d1
  have s1 := S.hid f1
  refine ⟨p, us, v, rfl, rfl, h4', by have z := lim_le; rw [h5.len]; omega, ?_⟩
  refine k.nx O _ _ _ n1 (S1.mut e1 rfl rfl z1 h1 h2 h3 nt_lst (s' := .l (xs ++ [d])) ⟨p, _, rfl, h1, h2, h3, upd_same, ?_⟩) ?_ q1
  · rw [hid_upd h1]
    exact RpAll.app (RpAll.same s1 _ _ h5) (.cons r1 .nil)
  · rw [hid_upd h1]
    exact s1
def sExt (i : Nat) (e : ED) : SD := fun ρ n E => ∃ xs, ρ[i]? = some (some (.l xs)) ∧ e ρ n fun x n1 => ∃ ys, x = .list ys ∧ xs.length + ys.length ≤ lim ∧ E.nx (ρ.set i (some (.l (xs ++ ys)))) n1
theorem qs_ext' {i : Nat} {w : ED} {st : Stmt} (hst : PS X st (tDrop (tBM X.K "list" rExtend (tVar i) (tCons (tW X.K w) tNil)))) : PSD X st (sExt i w) := qs_mk hst fun {dk OB H0 O H σ ρ n E D} S hw k => by
  obtain ⟨xs, e1, q⟩ := hw
  obtain ⟨v, z1, p, us, rfl, h1, h2, h3, h4, h5⟩ := S.sl _ _ e1
  refine ⟨_, z1, .inl ⟨rfl, _, .inl (.inl h4)⟩, rd_W S q fun v d H1 n1 f1 d1 r1 ⟨ys, ey, ll, q1⟩ => ?_⟩
  subst ey
  cases r1 with
  | @lst a ws _ ha hb =>
  have nA : ¬ dkA dk p := h3.nA
  have h4' := f1 _ _ nA h4
  have S1 := S.step f1 d1
  have s1 := S.hid f1
  refine ⟨p, a, us, ws, rfl, rfl, h4', hid_le _ _ ha, by have z := lim_le; rw [h5.len, hb.len]; omega, ?_⟩
  refine k.nx O _ _ _ n1 (S1.mut e1 rfl rfl z1 h1 h2 h3 nt_lst (s' := .l (xs ++ ys)) ⟨p, _, rfl, h1, h2, h3, upd_same, ?_⟩) ?_ q1
  · rw [hid_upd h1]
    exact RpAll.app (RpAll.same s1 _ _ h5) hb
  · rw [hid_upd h1]
    exact s1
end
end My
namespace My
open PySem PySem.Spec PyProof.Rows L2
mutual
def okD : PyData → Bool
  | .str z => decide (z.length ≤ lim)
  | .list xs => decide (xs.length ≤ lim) && okAll xs
  | .tuple xs => decide (xs.length ≤ lim) && okAll xs
  | .dict _ => false
  | _ => true
def okAll : List PyData → Bool
  | [] => true
  | d :: ds => okD d && okAll ds
end
theorem okAll_mem : ∀ {ds : List PyData}, okAll ds = true → ∀ d ∈ ds, okD d = true
  | [], _, d, h => by cases h
  | e :: ds, h, d, m => by
    simp only [okAll, Bool.and_eq_true] at h
    rcases List.mem_cons.mp m with rfl | m
    · exact h.1
    · exact okAll_mem h.2 d m
theorem okD_str {z : Str} (h : okD (.str z) = true) : z.length ≤ lim := by
  simpa only [okD, decide_eq_true_eq] using h
theorem okD_tup {xs : List PyData} (h : okD (.tuple xs) = true) : xs.length ≤ lim ∧ ∀ d ∈ xs, okD d = true := by
  simp only [okD, Bool.and_eq_true, decide_eq_true_eq] at h
  exact ⟨h.1, okAll_mem h.2⟩
def F1 (f : PyData → PyData) : List PyData → Option PyData := fun ds => match ds with
  | [d] => if okD d = true then some (f d) else none
  | _ => none
theorem boolsD_map {α : Type} {f : α → Bool} : ∀ {xs : List α}, boolsD (xs.map fun x => PyData.bool (f x)) = some (xs.map f)
  | [] => rfl
  | x :: xs => by
    rw [List.map_cons]
    show (boolsD _).map _ = _
    rw [boolsD_map]
    rfl
theorem cps_len (z : Str) : z.cps.toList.length = z.length := by
  rw [Array.length_toList]
  rfl
theorem lenD_str {z : Str} (h : z.length ≤ lim) : lenD [.str z] = some (.int z.length) := if_pos h
theorem lenD_tup {xs : List PyData} : lenD [.tuple xs] = some (.int xs.length) := rfl
theorem lenD_lst {xs : List PyData} : lenD [.list xs] = some (.int xs.length) := rfl
theorem ltD_int {p : Int → Int → Bool} {i j : Int} : ltD p (.int i) (.int j) = some (.bool (p i j)) := rfl
theorem items_tup {xs : List PyData} : itemsD (.tuple xs) = some xs := rfl
theorem items_lst {xs : List PyData} : itemsD (.list xs) = some xs := rfl
theorem items_str {z : Str} : itemsD (.str z) = some (z.cps.toList.map fun c => .str ⟨#[c]⟩) := rfl
theorem eqD_str {a b : Str} : eqD (.str a) (.str b) = some (.bool (decide (a = b))) := rfl
theorem eqD_int {a b : Int} : eqD (.int a) (.int b) = some (.bool (decide (a = b))) := rfl
theorem neD_str {a b : Str} : neD (.str a) (.str b) = some (.bool (!decide (a = b))) := rfl
theorem neD_int {a b : Int} : neD (.int a) (.int b) = some (.bool (!decide (a = b))) := rfl
theorem addD_int {a b : Int} : addD (.int a) (.int b) = some (.int (a + b)) := rfl
theorem subD_int {a b : Int} : subD (.int a) (.int b) = some (.int (a - b)) := rfl
theorem addD_tup {xs ys : List PyData} (h : xs.length + ys.length ≤ lim) : addD (.tuple xs) (.tuple ys) = some (.tuple (xs ++ ys)) := if_pos h
theorem ixD_lst {xs : List PyData} {i : Int} : ixD (.list xs) (.int i) = atI xs i := rfl
theorem slD_tup {xs : List PyData} {lo hi : Option Int} : slD (.tuple xs) lo hi = some (.tuple (cutD xs lo hi)) := rfl
theorem slD_lst {xs : List PyData} {lo hi : Option Int} : slD (.list xs) lo hi = some (.list (cutD xs lo hi)) := rfl
theorem tuple_lst {xs : List PyData} : tupD1 [.list xs] = some (.tuple xs) := rfl
theorem tuple_tup {xs : List PyData} : tupD1 [.tuple xs] = some (.tuple xs) := rfl
theorem list_lst {xs : List PyData} : lstD1 [.list xs] = some (.list xs) := rfl
theorem list_tup {xs : List PyData} : lstD1 [.tuple xs] = some (.list xs) := rfl
theorem inD_sign {neg : Bool} {c : Nat} {z : Str} : inD neg (.str ⟨#[c]⟩) (.str z) = some (.bool (if neg then !decide (c ∈ z.cps.toList) else decide (c ∈ z.cps.toList))) := rfl
theorem allD_map {α : Type} {f : α → Bool} {xs : List α} : allD [.list (xs.map fun x => PyData.bool (f x))] = some (.bool (xs.all f)) := by
  show (boolsD _).map _ = _
  rw [boolsD_map, Option.map_some, List.all_map]
  rfl
theorem cut_drop1 (xs : List PyData) : cutD xs (some 1) none = xs.drop 1 := by
  unfold cutD
  rw [HT.sIx_none, show HT.sIx xs.length 0 (some 1) = min 1 xs.length from HT.sIx_nat xs.length 0 1]
  cases xs with
  | nil => rfl
  | cons x r =>
    rw [List.length_cons, Nat.min_eq_left (by omega)]
    exact List.take_of_length_le (by simp)
theorem tyS_str {z : Str} : tyS (.str z) = "str" := rfl
theorem tyS_tup {z : List PyData} : tyS (.tuple z) = "tuple" := rfl
end My
namespace My
open PySem PySem.Spec PyProof.Rows L2
theorem ofA_scan {v : Value} (h : v.scannable = true) (n : Nat) : ofAClassStatement n v = pure false := by
  cases v with
  | ref a => cases h
  | _ => cases n <;> rfl
theorem hbv_scan {v : Value} (h : v.scannable = true) (n : Nat) : ∃ b, hashByValue n v = pure b := by
  cases v with
  | ref a => cases h
  | none => exact ⟨_, by cases n <;> rfl⟩
  | bool b => exact ⟨_, by cases n <;> rfl⟩
  | int i t => exact ⟨_, by cases n <;> rfl⟩
  | str x t => exact ⟨_, by cases n <;> rfl⟩
  | bytes x t => exact ⟨_, by cases n <;> rfl⟩
  | _ => cases h
def Scan {P : Program} {w : World} {K : Type} [DecidableEq K] (knd : KeyKind P w K) : Prop := ∀ k v, knd.is k v = true → v.scannable = true
theorem scan_str (P : Program) (w : World) : Scan (strKind P w) := fun k v h => by
  obtain ⟨t, rfl⟩ := Value.isStrOf_shape (x := k) (v := v) h
  rfl
section
variable {P : Program} {w : World} {K : Type} [DecidableEq K] {knd : KeyKind P w K} {A : Around} {E : Value → Shared → Prop} {s : Shared}
theorem items_scan (S : Scan knd) : ∀ {k : List K} {vs : List Value}, ItemsAre knd k vs → ∀ v ∈ vs, v.scannable = true
  | _, _, .nil, _, hv => nomatch hv
  | _, _, .cons h1 t, v, hv => (List.mem_cons.mp hv).elim (fun e => e ▸ S _ _ h1) fun hv => items_scan S t v hv
theorem ofA_tup (S : Scan knd) {k : List K} {b : Addr} {Q : Bool → Shared → Prop} (hk : IsTupleKey knd s.heap k b) (h : Q false s) : wpAny (model P w) A (ofAClassStatement 8 (.ref b)) Q E s := by
  have ty := hk.typeIs
  obtain ⟨o, its, n, ho, _, hd, hi⟩ := hk
  unfold ofAClassStatement
  refine wpAny_bind (wpAny_typeOf ty ?_)
  dsimp only
  have e : (("tuple" : String) == "tuple") = true := by decide
  simp only [e, if_true, Bool.not_true, Bool.false_eq_true, if_false]
  try refine wpAny_bind (wpAny_pure ?_)
  try simp only [Bool.not_true, Bool.false_eq_true, if_false]
  refine wpAny_bind (m := seqItems? (.ref b)) (wpAny_seqItems ho hd ?_)
  dsimp only
  refine wpAny_bind ?_
  rw [← Array.forIn_toList]
  refine wpAny_forIn_list _ (fun left r z => z = s ∧ r.1 = none ∧ ∀ v ∈ left, v.scannable = true) _ ?_ ?_ _ _ ⟨rfl, rfl, items_scan S hi⟩
  · rintro v left r z ⟨rfl, hr, hall⟩
    rw [ofA_scan (hall v List.mem_cons_self)]
    refine wpAny_bind (wpAny_pure ?_)
    simp only [Bool.false_eq_true, if_false]
    exact wpAny_pure ⟨rfl, rfl, fun u hu => hall u (List.mem_cons_of_mem _ hu)⟩
  · rintro ⟨r, _⟩ z ⟨rfl, hr, _⟩
    obtain rfl : r = none := hr
    exact wpAny_pure h
theorem hbv_tup (S : Scan knd) {k : List K} {b : Addr} {Q : Bool → Shared → Prop} (hk : IsTupleKey knd s.heap k b) (h : ∀ c, Q c s) : wpAny (model P w) A (hashByValue 8 (.ref b)) Q E s := by
  have ty := hk.typeIs
  obtain ⟨o, its, n, ho, _, hd, hi⟩ := hk
  unfold hashByValue
  refine wpAny_bind (wpAny_specialOf ty F.slot_tuple_hash.lookup ?_)
  refine wpAny_bind (m := seqItems? (.ref b)) (wpAny_seqItems ho hd ?_)
  refine wpAny_bind ?_
  show wpAny _ _ (forIn its _ _) _ _ s
  rw [← Array.forIn_toList]
  refine wpAny_forIn_list _ (fun left r z => z = s ∧ (r.1 = none ∨ ∃ c, r.1 = some c) ∧ ∀ v ∈ left, v.scannable = true) _ ?_ ?_ _ _ ⟨rfl, .inl rfl, items_scan S hi⟩
  · rintro v left r z ⟨rfl, _, hall⟩
    obtain ⟨c, e⟩ := hbv_scan (hall v List.mem_cons_self) 7
    rw [e]
    refine wpAny_bind (wpAny_pure ?_)
    cases c with
    | true =>
      simp only [Bool.not_true, Bool.false_eq_true, if_false]
      exact wpAny_pure ⟨rfl, .inl rfl, fun u hu => hall u (List.mem_cons_of_mem _ hu)⟩
    | false =>
      simp only [Bool.not_false, if_true]
      exact wpAny_pure (wpAny_pure (h _))
  · rintro ⟨r, _⟩ z ⟨rfl, hr, _⟩
    rcases hr with hr | ⟨c, hr⟩
    · obtain rfl : r = none := hr
      exact wpAny_pure (h _)
    · obtain rfl : r = some c := hr
      exact wpAny_pure (h _)
theorem unseen (S : Scan knd) {k : List K} {b : Addr} {Q : Bool → Shared → Prop} (hk : IsTupleKey knd s.heap k b) {ys : List Value} (hy : ∀ y ∈ ys, ∃ k' c, y = Value.ref c ∧ IsTupleKey knd s.heap k' c) (h : Q false s) :
    wpAny (model P w) A (searchCouldBeSeen (.ref b) ys) Q E s := by
  unfold searchCouldBeSeen
  refine wpAny_bind (wpAny_forIn_list _ (fun left r z => z = s ∧ r.1 = none ∧ ∀ y ∈ left, ∃ k' c, y = Value.ref c ∧ IsTupleKey knd s.heap k' c) _ ?_ ?_ _ _ ⟨rfl, rfl, hy⟩)
  · rintro v left r z ⟨rfl, _, hall⟩
    obtain ⟨k', c, rfl, hc⟩ := hall v List.mem_cons_self
    have next : ∀ y ∈ left, ∃ k' c, y = Value.ref c ∧ IsTupleKey knd z.heap k' c := fun u hu => hall u (List.mem_cons_of_mem _ hu)
    dsimp only
    by_cases hv : (b == c || (carriedByValue (.ref b) && carriedByValue (.ref c))) = true
    · exact wp_if_pos hv (wpAny_pure ⟨rfl, rfl, next⟩)
    · refine wp_if_neg hv (wpAny_bind (wpAny_eqIsQuiet_tuple hk ?_))
      simp only [Bool.not_true, Bool.false_eq_true, if_false]
      refine wpAny_bind (wpAny_eqIsQuiet_tuple hc ?_)
      simp only [Bool.not_true, Bool.false_eq_true, if_false]
      refine wpAny_bind (ofA_tup S hk ?_)
      simp only [Bool.false_eq_true, if_false]
      refine wpAny_bind (ofA_tup S hc ?_)
      simp only [Bool.false_eq_true, if_false]
      exact wpAny_pure ⟨rfl, rfl, next⟩
  · rintro ⟨r, _⟩ z ⟨rfl, hr, _⟩
    obtain rfl : r = none := hr
    exact wpAny_pure h
theorem step_dummy (m : Nat) : ∀ (n : Nat) (p : SetTable.Probe), (nth m p n).dummy = p.dummy
  | 0, _ => rfl
  | n + 1, p => (step_dummy m n (adv m p)).trans (by unfold adv; split <;> rfl)
abbrev stn (m : Nat) (h : Int) (n : Nat) : SetTable.Probe := nth m (runAt m (SetTable.bits h % (m + 1)) (SetTable.bits h)) n
theorem probe_says {t : SetTable} {hs : List Int} (T : TabOk t hs) {g : Nat → Int} {h : Int} {c K : Nat} (hc : c ≤ K) (hf : K < 10 * SetTable.turns t.mask) (hK : way t.mask h K ∉ t.place.toList)
    (hin : ∀ q, q < K → way t.mask h q ∈ t.place.toList) :
    (∃ q i, c ≤ q ∧ q < K ∧ t.place.toList[i]? = some (way t.mask h q) ∧ g i = h ∧ (∀ q' i', c ≤ q' → q' < q → t.place.toList[i']? = some (way t.mask h q') → g i' ≠ h) ∧
      t.probe g h (stn t.mask h c) = some (.candidate (way t.mask h q) i (stn t.mask h (q + 1)))) ∨
    ((∀ q' i', c ≤ q' → q' < K → t.place.toList[i']? = some (way t.mask h q') → g i' ≠ h) ∧ t.probe g h (stn t.mask h c) = some (.empty (way t.mask h K) none)) := by
  have sh : ∀ q, nth t.mask (stn t.mask h c) q = stn t.mask h (c + q) := fun q => (nth_add t.mask c _ q).symm
  have shj : ∀ q, (nth t.mask (stn t.mask h c) q).j = way t.mask h (c + q) := fun q => congrArg SetTable.Probe.j (sh q)
  have cK : c + (K - c) = K := by omega
  have fwd : ∀ {q' : Nat}, c ≤ q' → way t.mask h q' = (nth t.mask (stn t.mask h c) (q' - c)).j := fun {q'} l => by rw [shj, show c + (q' - c) = q' by omega]
  rcases go_spec t T.ris T.dm g h (10 * SetTable.turns t.mask) (K - c) (stn t.mask h c) (step_dummy _ _ _) (by omega) (fun q hq => by rw [shj]; exact hin _ (by omega)) (by rw [shj, cK]; exact hK) with ⟨q, i, hq, hi, hg, hno, e⟩ | ⟨hno, e⟩
  · refine .inl ⟨c + q, i, by omega, by omega, by rw [← shj]; exact hi, hg, fun q' i' l1 l2 hp => hno (q' - c) i' (by omega) (by rw [← fwd l1]; exact hp), ?_⟩
    rw [← shj, show c + q + 1 = c + (q + 1) by omega, ← sh]
    exact e
  · refine .inr ⟨fun q' i' l1 l2 hp => hno (q' - c) i' (by omega) (by rw [← fwd l1]; exact hp), ?_⟩
    have ek : way t.mask h K = (nth t.mask (stn t.mask h c) (K - c)).j := fwd hc
    rw [ek]
    exact e
def rows (knd : KeyKind P w K) (L : List (Addr × List K)) : List (Int × Value) := L.map fun p => (tupleKeyHash knd p.2, .ref p.1)
structure Tab (knd : KeyKind P w K) (h : Heap) (a : Addr) (L : List (Addr × List K)) (es : Array (Int × Value)) (ep : Nat) (t : SetTable) : Prop where
  ob : ∃ o, h.get? a = some o ∧ o.ExactSet ∧ o.data = .set es ep t
  rw_ : es.toList = rows knd L
  tab : TabOk t (L.map fun p => tupleKeyHash knd p.2)
  nd : (L.map (·.2)).Nodup
  led : w.params.followText "set-order" = true ∨ t.led = true
  room : L.length * 5 < t.mask * 3
  few : L.length < 64
variable {a : Addr} {L : List (Addr × List K)} {es : Array (Int × Value)} {ep : Nat} {t : SetTable}
theorem Tab.count {h : Heap} (R : Tab knd h a L es ep t) : es.size = L.length := by
  rw [← Array.length_toList, R.rw_]
  exact List.length_map ..
theorem Tab.slots {h : Heap} (R : Tab knd h a L es ep t) : t.place.toList.length = L.length := by
  rw [Array.length_toList, R.tab.sz, List.length_map]
theorem Tab.fits {h : Heap} (R : Tab knd h a L es ep t) : t.fits es.size = true := by
  have h1 := R.slots
  rw [Array.length_toList] at h1
  have h2 := R.count
  have h3 := R.room
  unfold SetTable.fits SetTable.fill
  rw [R.tab.dm]
  simp
  omega
theorem Tab.odd {h : Heap} (R : Tab knd h a L es ep t) : ¬ t.gaveWay = true := by
  unfold SetTable.gaveWay
  rw [mask_odd R.tab.mok]
  decide
theorem Tab.at_ {h : Heap} (R : Tab knd h a L es ep t) {i : Nat} {p : Addr × List K} (e : L[i]? = some p) : es[i]? = some (tupleKeyHash knd p.2, .ref p.1) := by
  rw [← Array.getElem?_toList, R.rw_]
  show (L.map _)[i]? = _
  rw [List.getElem?_map, e]
  rfl
def Ans (knd : KeyKind P w K) (L : List (Addr × List K)) (t : SetTable) (k : List K) (Q : SetFound → Shared → Prop) (s : Shared) : Prop :=
  (k ∈ L.map (·.2) → Q (.there none) s) ∧
  (k ∉ L.map (·.2) → ∀ n, way t.mask (tupleKeyHash knd k) n ∉ t.place.toList → (∀ q, q < n → way t.mask (tupleKeyHash knd k) q ∈ t.place.toList) → Q (.free (way t.mask (tupleKeyHash knd k) n) false) s)
theorem search_go (S : Scan knd) (R : Tab knd s.heap a L es ep t) (tup : ∀ p ∈ L, IsTupleKey knd s.heap p.2 p.1) {x : Addr} {k : List K} (hx : IsTupleKey knd s.heap k x) (hu : A.units < cLine) {n : Nat} (hf : n < 10 * SetTable.turns t.mask)
    (hK : way t.mask (tupleKeyHash knd k) n ∉ t.place.toList) (hin : ∀ q, q < n → way t.mask (tupleKeyHash knd k) q ∈ t.place.toList) {Q : SetFound → Shared → Prop} (hQ : Ans knd L t k Q s) :
    ∀ (f c : Nat) (st : Option SetTable.Probe), st.getD (t.probeStart (tupleKeyHash knd k)) = stn t.mask (tupleKeyHash knd k) c → c ≤ n → n - c < f →
      (∀ (i : Nat) p, L[i]? = some p → p.2 = k → ∃ q, c ≤ q ∧ q < n ∧ t.place.toList[i]? = some (way t.mask (tupleKeyHash knd k) q)) →
      wpAny (model P w) A (setSearchFrom a (.ref x) (tupleKeyHash knd k) true f st) Q E s
  | 0, _, _, _, _, hlt, _ => absurd hlt (Nat.not_lt_zero _)
  | f + 1, c, st, hst, hc, hlt, hre => by
    obtain ⟨o, ho, hex, hd⟩ := R.ob
    have hash_at : ∀ (i : Nat) (p : Addr × List K), L[i]? = some p → (es[i]?.map fun e : Int × Value => e.1).getD 0 = tupleKeyHash knd p.2 := fun i p e => by
      rw [R.at_ e]
      rfl
    have same_hash : ∀ {i0 : Nat} {p0 : Addr × List K}, L[i0]? = some p0 → p0.2 = k → (es[i0]?.map fun e : Int × Value => e.1).getD 0 = tupleKeyHash knd k := fun h0 e0 => by rw [hash_at _ _ h0, e0]
    rw [setSearchFrom_succ]
    refine wpAny_bind (wpAny_setState_of ho hd R.fits ?_)
    dsimp only
    refine wp_if_neg R.odd ?_
    try refine wpAny_bind (wpAny_pure ?_)
    rw [hst]
    rcases probe_says (g := fun i => (es[i]?.map fun e : Int × Value => e.1).getD 0) R.tab hc hf hK hin with ⟨q, i, l1, l2, hi, hg, hno, e⟩ | ⟨hno, e⟩
    · rw [e]
      dsimp only
      have il : i < L.length := by
        rw [← R.slots]
        exact (List.getElem?_eq_some_iff.mp hi).1
      obtain ⟨p, hp⟩ : ∃ p, L[i]? = some p := ⟨L[i], List.getElem?_eq_getElem il⟩
      have pm : p ∈ L := List.mem_of_getElem? hp
      have live : t.slot (way t.mask (tupleKeyHash knd k) q) = .live i := slot_live R.tab.ris hi
      have on : wpAny (model P w) A (searchRest a (.ref x) (tupleKeyHash knd k) true f es t (way t.mask (tupleKeyHash knd k) q) i (stn t.mask (tupleKeyHash knd k) (q + 1))) Q E s := by
        unfold searchRest
        rw [R.at_ hp]
        dsimp only
        refine wpAny_bind (wpAny_holding (wpAny_eqBool_tuple hu (tup p pm) hx (wpAny_bind (wpAny_setState_of ho hd R.fits ?_))))
        dsimp only
        by_cases pk : p.2 = k
        · exact wp_if_pos (by rw [decide_eq_true pk]; rfl) (wpAny_pure (hQ.1 (List.mem_map.mpr ⟨p, pm, pk⟩)))
        · refine wp_if_neg (by rw [decide_eq_false pk]; decide) ?_
          try refine wpAny_bind (wpAny_pure ?_)
          rw [sameMem]
          dsimp only
          simp only [if_true, live, R.at_ hp]
          refine wpAny_bind (wpAny_isSame_ref_self (wpAny_bind (wpAny_pure ?_)))
          simp only [if_true]
          refine wp_if_neg (by rw [decide_eq_false pk]; decide) (search_go S R tup hx hu hf hK hin hQ f (q + 1) _ rfl (by omega) (by omega) fun i0 p0 h0 e0 => ?_)
          obtain ⟨q0, m1, m2, m3⟩ := hre i0 p0 h0 e0
          refine ⟨q0, Nat.lt_of_not_le fun le => ?_, m2, m3⟩
          rcases Nat.lt_or_eq_of_le le with lt | rfl
          · exact hno q0 i0 m1 lt m3 (same_hash h0 e0)
          · have two := (slot_live R.tab.ris m3).symm.trans live
            injection two with two
            rw [two, hp] at h0
            exact pk ((congrArg Prod.snd (Option.some.inj h0)).trans e0)
      by_cases ld : t.led = true
      · refine wp_if_neg (by rw [ld]; decide) ?_
        try refine wpAny_bind (wpAny_pure ?_)
        exact on
      · refine wp_if_pos (by simp [ld]) (wpAny_bind (unseen S hx (fun y hy => ?_) ?_))
        · obtain ⟨r, hr, rfl⟩ := List.mem_map.mp hy
          have hr2 : r ∈ es.toList := by
            have : r ∈ es ∧ r.1 = tupleKeyHash knd k := by simpa using hr
            simpa using this.1
          rw [R.rw_] at hr2
          obtain ⟨p2, m2, rfl⟩ := List.mem_map.mp hr2
          exact ⟨p2.2, p2.1, rfl, tup p2 m2⟩
        · refine wp_if_neg (by decide) ?_
          try refine wpAny_bind (wpAny_pure ?_)
          exact on
    · rw [e]
      dsimp only
      refine wpAny_pure (hQ.2 (fun hm => ?_) n hK hin)
      obtain ⟨p0, h0, e0⟩ := List.mem_map.mp hm
      obtain ⟨i0, hi0⟩ := List.getElem?_of_mem h0
      obtain ⟨q0, m1, m2, m3⟩ := hre i0 p0 hi0 e0
      exact hno q0 i0 m1 m2 m3 (same_hash hi0 e0)
theorem search_all (S : Scan knd) (R : Tab knd s.heap a L es ep t) (tup : ∀ p ∈ L, IsTupleKey knd s.heap p.2 p.1) {x : Addr} {k : List K} (hx : IsTupleKey knd s.heap k x) (hu : A.units < cLine) {Q : SetFound → Shared → Prop} (hQ : Ans knd L t k Q s) :
    wpAny (model P w) A (setSearch a (.ref x) (tupleKeyHash knd k) true) Q E s := by
  have rm := R.room
  obtain ⟨n, hf, hK, hin⟩ := R.tab.first (by rw [List.length_map]; omega) (tupleKeyHash knd k)
  have far : 10 * SetTable.turns t.mask ≤ 1420 := by
    unfold SetTable.turns
    rcases R.tab.mok with e | e | e <;> omega
  unfold setSearch
  refine search_go S R tup hx hu hf hK hin hQ 100000 0 none rfl (Nat.zero_le _) (by omega) fun i p hp e => ?_
  have hi : (L.map fun p => tupleKeyHash knd p.2)[i]? = some (tupleKeyHash knd k) := by
    rw [List.getElem?_map, hp, ← e]
    rfl
  have il : i < t.place.toList.length := by
    rw [R.slots]
    exact (List.getElem?_eq_some_iff.mp hp).1
  obtain ⟨q, hq, eq⟩ := R.tab.before hK hi (List.getElem?_eq_getElem il)
  exact ⟨q, Nat.zero_le _, hq, by rw [List.getElem?_eq_getElem il, eq]⟩
theorem rows_at {es : Array (Int × Value)} (hr : es.toList = rows knd L) (i : Nat) : es[i]? = (L[i]?).map fun p => (tupleKeyHash knd p.2, Value.ref p.1) := by
  rw [← Array.getElem?_toList, hr]
  exact List.getElem?_map ..
theorem range_back {α : Type} (l : List α) : ∀ n, n ≤ l.length → (List.range n).filterMap (fun i => l[i]?) = l.take n
  | 0, _ => by simp
  | n + 1, h => by
    have hn : n < l.length := h
    rw [List.range_succ, List.filterMap_append, range_back l n (Nat.le_of_lt hn), List.take_add_one, List.getElem?_eq_getElem hn]
    simp [List.getElem?_eq_getElem hn]
theorem by_order {es : Array (Int × Value)} (hr : es.toList = rows knd L) {order : Array Nat} (hp : order.toList.Perm (List.range L.length)) :
    ∃ L2 : List (Addr × List K), (order.filterMap (es[·]?)).toList = rows knd L2 ∧ L2.Perm L ∧ L2.map (fun p => tupleKeyHash knd p.2) = order.toList.map fun i => (es.map fun e : Int × Value => e.1).getD i 0 := by
  refine ⟨order.toList.filterMap (fun i => L[i]?), ?_, ?_, ?_⟩
  · have e : (fun i : Nat => es[i]?) = fun i : Nat => (L[i]?).map fun p : Addr × List K => (tupleKeyHash knd p.2, Value.ref p.1) := funext (rows_at hr)
    rw [Array.toList_filterMap, e]
    unfold rows
    rw [List.map_filterMap]
  · have h1 := hp.filterMap fun i => L[i]?
    rw [range_back L L.length (Nat.le_refl _), List.take_length] at h1
    exact h1
  · have each : ∀ l : List Nat, (∀ i ∈ l, i < L.length) → (l.filterMap fun i => L[i]?).map (fun p => tupleKeyHash knd p.2) = l.map fun i => (es.map fun e : Int × Value => e.1).getD i 0 := by
      intro l
      induction l with
      | nil => intro _; rfl
      | cons i l ih =>
        intro h
        have hi := h i List.mem_cons_self
        rw [List.filterMap_cons_some (List.getElem?_eq_getElem hi), List.map_cons, List.map_cons, ih fun j hj => h j (List.mem_cons_of_mem _ hj)]
        have q := rows_at hr i
        rw [List.getElem?_eq_getElem hi] at q
        congr 1
        simp [Array.getD_eq_getD_getElem?, q]
    exact each _ fun i hi => List.mem_range.mp (hp.mem_iff.mp hi)
theorem relay_tab {o : Obj} (ho : s.heap.get? a = some o) (hex : o.ExactSet) (hd : o.data = .set es ep t) (hr : es.toList = rows knd L) (hsz : t.place.size = es.size) (hdm : t.dummies = #[]) (hfl : es.size ≤ t.mask)
    (nd : (L.map (·.2)).Nodup) (led : w.params.followText "set-order" = true ∨ t.led = true) (few : L.length < 64) {wanted M : Nat} (hw : SetTable.sizeAbove wanted - 1 = M) (hM : MaskOk M) (hw2 : SetTable.sizeAbove wanted ≤ 128)
    (hn : L.length * 5 < M * 3) {Q : Unit → Shared → Prop} (hQ : ∀ h' L' es' ep' t', Heap.SameBut a s.heap h' → Tab knd h' a L' es' ep' t' → L'.Perm L → Q () { s with heap := h' }) : wpAny (model P w) A (setRelay a wanted) Q E s := by
  have cnt : es.size = L.length := by
    rw [← Array.length_toList, hr]
    exact List.length_map ..
  have fit : t.fits es.size = true := by
    unfold SetTable.fits SetTable.fill
    rw [hdm]
    simp
    omega
  obtain ⟨t', order, e, hp, T, em, el, _, _⟩ := relaid_ok t (hs := es.map fun e : Int × Value => e.1) (wanted := wanted) hw hM (by rw [Array.size_map]; omega)
  rw [Array.size_map, cnt] at hp
  obtain ⟨L2, r1, r2, r3⟩ := by_order hr hp
  rw [← r3] at T
  have cnt2 : (order.filterMap (es[·]?)).size = es.size := by
    rw [← Array.length_toList, r1, cnt, ← r2.length_eq]
    exact List.length_map ..
  rw [setRelay_eq]
  refine wpAny_bind (wpAny_setState_of ho hd fit ?_)
  dsimp only
  refine wp_if_neg (by rw [sizeLine_eq]; omega) ?_
  try refine wpAny_bind (wpAny_pure ?_)
  rw [e]
  dsimp only
  refine wpAny_bind (wp_if_neg (by rw [cnt2]; simp) ?_)
  try refine wpAny_bind (wpAny_pure ?_)
  refine wpAny_pure ?_
  dsimp only
  refine wpAny_storeSet_of ho hd ?_ (by rw [cnt2, cnt, sizeLine_eq]; omega)
  exact hQ _ L2 _ _ t' (Heap.SameBut.update ..) ⟨⟨_, store_at ho hd, ⟨hex.1, hex.2.1, hex.2.2⟩, rfl⟩, r1, T, (r2.map (·.2)).nodup_iff.mpr nd, by rw [el]; exact led, by rw [r2.length_eq, em]; exact hn, by rw [r2.length_eq]; exact few⟩ r2
theorem TabOk.off {t : SetTable} {hs : List Int} (T : TabOk t hs) : TabOk { t with plain := false } hs := ⟨T.ris, T.dm, T.sz, T.mok, T.bd, T.reach⟩
def Put (knd : KeyKind P w K) (h h' : Heap) (a : Addr) (L : List (Addr × List K)) (x : Addr) (k : List K) (L' : List (Addr × List K)) : Prop :=
  Heap.SameBut a h h' ∧ (∃ es ep t, Tab knd h' a L' es ep t) ∧ (k ∈ L.map (·.2) → L' = L) ∧ (k ∉ L.map (·.2) → L'.Perm ((x, k) :: L))
theorem add_tab (S : Scan knd) (R : Tab knd s.heap a L es ep t) (tup : ∀ p ∈ L, IsTupleKey knd s.heap p.2 p.1) {x : Addr} {k : List K} (hx : IsTupleKey knd s.heap k x) (hu : A.units < cLine) (room : L.length + 1 < 64) {Q : Bool → Shared → Prop}
    (hQ : ∀ b h' L', Put knd s.heap h' a L x k L' → Q b { s with heap := h' }) : wpAny (model P w) A (setAddHashed a (.ref x) (tupleKeyHash knd k)) Q E s := by
  obtain ⟨o, ho, hex, hd⟩ := R.ob
  have cnt := R.count
  have rm := R.room
  unfold setAddHashed
  refine wpAny_holding ?_
  rw [show (100000 : Nat) = 99999 + 1 from rfl, setAddHashedIn_succ]
  refine wpAny_bind (wpAny_setState_of ho hd R.fits ?_)
  dsimp only
  refine wp_if_neg (by simp [byScan, Value.scannable]) ?_
  try refine wpAny_bind (wpAny_pure ?_)
  refine wpAny_bind (search_all S R tup hx hu ⟨fun hm => ?_, fun hm n hK hin => ?_⟩)
  · exact wpAny_pure (hQ false s.heap L ⟨Heap.SameBut.refl a s.heap, ⟨es, ep, t, R⟩, fun _ => rfl, fun z => absurd hm z⟩)
  · dsimp only
    refine wpAny_bind (wpAny_setState_of ho hd R.fits ?_)
    dsimp only
    obtain ⟨q1, q2, q3, q4, q5, q6, q7, q8, q9⟩ := R.tab.put hK hin
    obtain ⟨i, ei⟩ : ∃ i, i = SetTable.below t.place (way t.mask (tupleKeyHash knd k) n) := ⟨_, rfl⟩
    obtain ⟨L1, e1⟩ : ∃ L1, L1 = L.take i ++ (x, k) :: L.drop i := ⟨_, rfl⟩
    have pm : L1.Perm ((x, k) :: L) := by
      have z : (L.take i ++ (x, k) :: L.drop i).Perm ((x, k) :: (L.take i ++ L.drop i)) := List.perm_middle
      rw [List.take_append_drop] at z
      rw [e1]
      exact z
    have len1 : L1.length = L.length + 1 := pm.length_eq
    have hin1 : (SetTable.insertAt es (t.put (way t.mask (tupleKeyHash knd k) n)).snd (tupleKeyHash knd k, Value.ref x)).toList = rows knd L1 := by
      rw [q1, ← ei, SetTable.toList_insertAt, R.rw_, e1]
      unfold rows
      rw [List.map_append, List.map_cons, List.map_take, List.map_drop]
    have hs1 : L1.map (fun p => tupleKeyHash knd p.2) = (L.map fun p => tupleKeyHash knd p.2).take i ++ tupleKeyHash knd k :: (L.map fun p => tupleKeyHash knd p.2).drop i := by
      rw [e1, List.map_append, List.map_cons, List.map_take, List.map_drop]
    rw [← ei, ← hs1] at q3
    rw [List.length_map] at q9
    have nd1 : (L1.map (·.2)).Nodup := (pm.map (·.2)).nodup_iff.mpr (List.nodup_cons.mpr ⟨hm, R.nd⟩)
    generalize SetTable.insertAt es (t.put (way t.mask (tupleKeyHash knd k) n)).snd (tupleKeyHash knd k, Value.ref x) = es1 at hin1 ⊢
    have cnt1 : es1.size = L.length + 1 := by
      rw [← Array.length_toList, hin1, ← len1]
      exact List.length_map ..
    have tail : ∀ t1 : SetTable, TabOk t1 (L1.map fun p => tupleKeyHash knd p.2) → t1.mask = t.mask → t1.led = t.led → t1.fill = L.length + 1 →
        wpAny (model P w) A (do
          storeSet a es1 t1
          if (!false && t1.tooFull) = true then do
            setRelay a (SetTable.grown (es.size + 1))
            pure true
          else pure true) Q E s := by
      intro t1 T1 m1 l1 f1
      refine wpAny_bind (wpAny_storeSet_of ho hd ?_ (by rw [cnt1, sizeLine_eq]; omega))
      have ho1 := store_at (es' := es1) (t' := t1) ho hd
      have sb : Heap.SameBut a s.heap (s.heap.update a (Obj.putSet es1 t1)) := Heap.SameBut.update ..
      have led1 : w.params.followText "set-order" = true ∨ t1.led = true := by rw [l1]; exact R.led
      by_cases full : t1.tooFull = true
      · refine wp_if_pos (by rw [full]; rfl) ?_
        have big : (L.length + 1) * 5 ≥ t1.mask * 3 := by
          have z := full
          unfold SetTable.tooFull at z
          rw [decide_eq_true_eq, f1] at z
          exact z
        have two : (t.mask = 7 ∧ L.length = 4) ∨ (t.mask = 31 ∧ L.length = 18) := by
          rcases R.tab.mok with e | e | e
          · rw [m1, e] at big; rw [e] at rm; exact .inl ⟨e, by omega⟩
          · rw [m1, e] at big; rw [e] at rm; exact .inr ⟨e, by omega⟩
          · rw [m1, e] at big; omega
        have sz1 : t1.place.size = es1.size := by rw [T1.sz, List.length_map, len1, cnt1]
        have go : ∀ M, SetTable.sizeAbove (SetTable.grown (L.length + 1)) = M + 1 → MaskOk M → M ≤ 127 → (L.length + 1) * 5 < M * 3 → wpAny (model P w) A (setRelay a (SetTable.grown (es.size + 1)))
            (fun _ z => wpAny (model P w) A (pure true) Q E z) E { s with heap := s.heap.update a (Obj.putSet es1 t1) } := fun M g1 g2 g3 g4 => by
          rw [cnt]
          refine relay_tab (s := { s with heap := s.heap.update a (Obj.putSet es1 t1) }) ho1 ⟨hex.1, hex.2.1, hex.2.2⟩ rfl hin1 sz1 T1.dm (by rw [cnt1, m1]; omega) nd1 led1 (by rw [len1]; exact room) (M := M) (by omega) g2 (by omega) (by rw [len1]; exact g4) fun h2 L2 es2 ep2 t2 sb2 R2 pm2 => ?_
          exact wpAny_pure (hQ true h2 L2 ⟨sb.trans sb2, ⟨es2, ep2, t2, R2⟩, fun z => absurd z hm, fun _ => pm2.trans pm⟩)
        refine wpAny_bind ?_
        rcases two with ⟨_, e2⟩ | ⟨_, e2⟩
        · exact go 31 (by rw [e2]; exact size_20) (.inr (.inl rfl)) (by decide) (by omega)
        · exact go 127 (by rw [e2]; exact size_76) (.inr (.inr rfl)) (by decide) (by omega)
      · refine wp_if_neg (by simp [full]) (wpAny_pure (hQ true _ L1 ⟨sb, ⟨es1, _, t1, ⟨_, ho1, ⟨hex.1, hex.2.1, hex.2.2⟩, rfl⟩, hin1, T1, nd1, led1, ?_, by rw [len1]; exact room⟩, fun z => absurd z hm, fun _ => pm⟩))
        have z := full
        unfold SetTable.tooFull at z
        rw [decide_eq_true_eq, f1] at z
        rw [len1]
        omega
    generalize (t.put (way t.mask (tupleKeyHash knd k) n)).fst = t1 at q3 q4 q5 q6 q9 ⊢
    by_cases pl : t1.plain = true
    · refine wp_if_pos pl (wpAny_bind (hbv_tup S hx fun c => ?_))
      cases c with
      | true =>
        simp only [if_true]
        exact tail t1 q3 q4 q5 q9
      | false =>
        simp only [Bool.false_eq_true, if_false]
        exact tail _ (TabOk.off q3) q4 q5 q9
    · refine wp_if_neg pl (wpAny_bind (wpAny_pure ?_))
      simp only [if_true]
      exact tail t1 q3 q4 q5 q9
end
end My
namespace My
open PySem PySem.Spec PyProof.Rows L2
structure Tot {α : Type} (lt : α → α → Bool) : Prop where
  irr : ∀ x, lt x x = false
  tri : ∀ x y, lt x y = false → lt y x = false → x = y
  trans : ∀ x y z, lt x y = true → lt y z = true → lt x z = true
theorem Tot.asym {α : Type} {lt : α → α → Bool} (T : Tot lt) {x y : α} (h : lt x y = true) : lt y x = false := by
  cases q : lt y x with
  | false => rfl
  | true =>
    have z := T.trans x y x h q
    rw [T.irr] at z
    cases z
theorem Tot.swo {α : Type} {lt : α → α → Bool} (T : Tot lt) : SrtO.Swo lt := ⟨fun x y h => T.asym h, fun x y z h1 h2 => by
  cases q : lt z x with
  | false => rfl
  | true =>
    cases r : lt y z with
    | true =>
      have c := T.trans y z x r q
      rw [h1] at c
      cases c
    | false =>
      obtain rfl := T.tri y z r h2
      rw [q] at h1
      cases h1⟩
theorem Tot.of_inj {α β : Type} {lt : β → β → Bool} (T : Tot lt) (f : α → β) (inj : ∀ x y, f x = f y → x = y) : Tot fun x y => lt (f x) (f y) :=
  ⟨fun x => T.irr _, fun x y h1 h2 => inj _ _ (T.tri _ _ h1 h2), fun x y z => T.trans _ _ _⟩
def lexL {α : Type} [DecidableEq α] (lt : α → α → Bool) : List α → List α → Bool
  | [], [] => false
  | [], _ :: _ => true
  | _ :: _, [] => false
  | x :: xs, y :: ys => if x = y then lexL lt xs ys else lt x y
theorem Tot.lex {α : Type} [DecidableEq α] {lt : α → α → Bool} (T : Tot lt) : Tot (lexL lt) := by
  refine ⟨fun x => ?_, fun x => ?_, fun x => ?_⟩
  · induction x with
    | nil => rfl
    | cons a x ih => unfold lexL; rw [if_pos rfl]; exact ih
  · induction x with
    | nil =>
      intro y h1 h2
      cases y with
      | nil => rfl
      | cons b y => cases h1
    | cons a x ih =>
      intro y h1 h2
      cases y with
      | nil => cases h2
      | cons b y =>
        unfold lexL at h1 h2
        by_cases e : a = b
        · subst e
          rw [if_pos rfl] at h1 h2
          rw [ih y h1 h2]
        · rw [if_neg e] at h1
          rw [if_neg (fun z => e z.symm)] at h2
          exact absurd (T.tri a b h1 h2) e
  · induction x with
    | nil =>
      intro y z h1 h2
      cases y with
      | nil => cases h1
      | cons b y =>
        cases z with
        | nil => cases h2
        | cons c z => rfl
    | cons a x ih =>
      intro y z h1 h2
      cases y with
      | nil => cases h1
      | cons b y =>
        cases z with
        | nil => cases h2
        | cons c z =>
          unfold lexL at h1 h2 ⊢
          by_cases e1 : a = b
          · subst e1
            rw [if_pos rfl] at h1
            by_cases e2 : a = c
            · subst e2
              rw [if_pos rfl] at h2 ⊢
              exact ih y z h1 h2
            · rw [if_neg e2] at h2 ⊢
              exact h2
          · rw [if_neg e1] at h1
            by_cases e2 : b = c
            · subst e2
              rw [if_neg e1]
              exact h1
            · rw [if_neg e2] at h2
              have h3 := T.trans a b c h1 h2
              have e3 : ¬ a = c := fun q => by
                subst q
                rw [T.irr] at h3
                cases h3
              rw [if_neg e3]
              exact h3
theorem tot_nat : Tot fun x y : Nat => decide (x < y) := ⟨fun x => by simp, fun x y h1 h2 => by simp at h1 h2; omega, fun x y z h1 h2 => by simp at h1 h2 ⊢; omega⟩
def ltS (x y : Str) : Bool := lexL (fun a b : Nat => decide (a < b)) x.cps.toList y.cps.toList
theorem tot_str : Tot ltS := tot_nat.lex.of_inj (fun x : Str => x.cps.toList) fun x y h => by
  obtain ⟨⟨x⟩⟩ := x
  obtain ⟨⟨y⟩⟩ := y
  simp at h
  rw [h]
def ltK (x y : List Str) : Bool := lexL ltS x y
theorem tot_key : Tot ltK := tot_str.lex
theorem lt_list : ∀ x y : List Nat, decide (x < y) = lexL (fun a b : Nat => decide (a < b)) x y
  | [], [] => by simp [lexL]
  | [], b :: y => by simp [lexL]
  | a :: x, [] => by simp [lexL]
  | a :: x, b :: y => by
    unfold lexL
    by_cases e : a = b
    · subst e
      rw [if_pos rfl, ← lt_list x y]
      simp [List.cons_lt_cons_iff]
    · rw [if_neg e]
      simp [List.cons_lt_cons_iff, e]
theorem ltS_eq (x y : Str) : decide (x.cps.toList < y.cps.toList) = ltS x y := lt_list _ _
def Asc {α : Type} (lt : α → α → Bool) (l : List α) : Prop := l.Pairwise fun x y => lt x y = true
theorem asc_uniq {α : Type} {lt : α → α → Bool} (T : Tot lt) : ∀ {l m : List α}, Asc lt l → Asc lt m → (∀ x, x ∈ l ↔ x ∈ m) → l = m
  | [], [], _, _, _ => rfl
  | [], y :: m, _, _, h => absurd ((h y).mpr List.mem_cons_self) (by simp)
  | x :: l, [], _, _, h => absurd ((h x).mp List.mem_cons_self) (by simp)
  | x :: l, y :: m, hl, hm, h => by
    have hl' := List.pairwise_cons.mp hl
    have hm' := List.pairwise_cons.mp hm
    have e : x = y := by
      rcases List.mem_cons.mp ((h x).mp List.mem_cons_self) with e | hx
      · exact e
      · rcases List.mem_cons.mp ((h y).mpr List.mem_cons_self) with e | hy
        · exact e.symm
        · have a := T.asym (hl'.1 y hy)
          rw [hm'.1 x hx] at a
          cases a
    subst e
    rw [asc_uniq T hl'.2 hm'.2 fun z => ⟨fun hz => ?_, fun hz => ?_⟩]
    · rcases List.mem_cons.mp ((h z).mp (List.mem_cons_of_mem _ hz)) with q | q
      · subst q
        have a := hl'.1 z hz
        rw [T.irr] at a
        cases a
      · exact q
    · rcases List.mem_cons.mp ((h z).mpr (List.mem_cons_of_mem _ hz)) with q | q
      · subst q
        have a := hm'.1 z hz
        rw [T.irr] at a
        cases a
      · exact q
theorem asc_of {α : Type} {lt : α → α → Bool} (T : Tot lt) {l : List α} (hs : l.Pairwise fun x y => lt y x = false) (nd : l.Nodup) : Asc lt l := by
  have h := List.pairwise_and_iff.mpr ⟨hs, nd⟩
  refine List.Pairwise.imp (fun {x y} q => ?_) h
  cases z : lt x y with
  | true => rfl
  | false => exact absurd (T.tri x y z q.1) q.2
end My
namespace My
open PySem PySem.Spec PyProof.Rows L2
def sOf : Value → Str
  | .str x _ => x
  | _ => Str.empty
section
variable {P : Program} {w : World} {A : Around} {E : Value → Shared → Prop} {s : Shared}
theorem one_str (c : Bool) {x y : Str} {t u : Tok} {Q : Bool → Shared → Prop} (h : Q (ltS x y) s) : wpAny (model P w) A (oneLt' c (.str x t) (.str y u)) Q E s := by
  rw [← ltS_eq] at h
  cases c with
  | true => exact oneLt_str h
  | false => exact PySem.W.kat_one _ _ (PySem.P.lt_str (Q := PySem.W.BoolBack Q) h)
theorem sortable_strs {a : Addr} {vs : List Value} (h2 : 2 ≤ vs.length) (hv : ∀ v ∈ vs, ∃ x t, v = Value.str x t) : SrtO.SortableO P w A s a vs fun v u => ltS (sOf v) (sOf u) := by
  intro h' _
  refine ⟨oneType', fun Q E hq => PySem.W.kas_kind (T := .type "str") h2 (fun v hm => ?_) (by rfl) (by rfl) hq, fun p q hp hq => ?_⟩
  · obtain ⟨x, t, rfl⟩ := hv v hm
    exact PySem.W.Looks.now
  · obtain ⟨x, t, e1⟩ := hv _ hp
    obtain ⟨y, u, e2⟩ := hv _ hq
    rw [keyLt'_oneType, e1, e2]
    refine one_str true ⟨rfl, ?_⟩
    show _ = ltS (sOf p.1) (sOf q.1)
    rw [e1, e2]
    rfl
theorem lex_strs {b fin : Bool} {Q : Bool → Shared → Prop} : ∀ {xs ys : List Value} {ns ms : List Str} (i : Nat), StrsAre xs ns → StrsAre ys ms → fin = decide (xs.length < ys.length) → Q (ltK ns ms) s → PySem.W.KatLex P w A b fin Q (xs.zip ys) i s
  | [], [], _, _, _, .nil, .nil, hf, h => by
    rw [hf]
    exact h
  | [], _ :: _, _, _, _, .nil, .cons _ _ _, hf, h => by
    rw [hf]
    exact h
  | _ :: _, [], _, _, _, .cons _ _ _, .nil, hf, h => by
    rw [hf]
    exact h
  | _ :: xs, _ :: ys, _, _, i, .cons x t hx, .cons y u hy, hf, h => by
    refine PySem.W.kat_cons (wpAny_eqBool_str ?_)
    refine PySem.W.kat_go (fun e => ?_) (fun e => ?_)
    · have exy := of_decide_eq_true e
      subst exy
      refine PySem.W.kat_yes (lex_strs (i + 1) hx hy (by rw [hf]; simp) ?_)
      unfold ltK lexL at h
      rw [if_pos rfl] at h
      exact h
    · have exy := of_decide_eq_false e
      refine PySem.W.kat_no (one_str _ ?_)
      unfold ltK lexL at h
      rw [if_neg exy] at h
      exact h
def TupK (h : Heap) (v : Value) (k : List Str) : Prop := ∃ a o its n, v = Value.ref a ∧ h.get? a = some o ∧ o.cls = .type "tuple" ∧ o.data = .seq its n ∧ StrsAre its.toList k
theorem TupK.keeps {h h' : Heap} {v : Value} {k : List Str} (x : TupK h v k) (kp : ∀ b o, h.get? b = some o → o.cls = .type "tuple" → h'.get? b = some o) : TupK h' v k := by
  obtain ⟨a, o, its, n, e, ho, hc, r⟩ := x
  exact ⟨a, o, its, n, e, kp _ _ ho hc, hc, r⟩
theorem firsts_str {h : Heap} {k : Value → List Str} : ∀ {vs : List Value}, (∀ v ∈ vs, TupK h v (k v) ∧ k v ≠ []) → ∃ fs : List Value, PySem.W.KatTups h vs fs ∧ fs.length = vs.length ∧ ∀ f ∈ fs, ∃ x t, f = Value.str x t
  | [], _ => ⟨[], PySem.W.KatTups.nil, rfl, fun _ m => nomatch m⟩
  | v :: vs, hp => by
    obtain ⟨fs, h1, h2, h3⟩ := firsts_str fun u m => hp u (List.mem_cons_of_mem _ m)
    obtain ⟨⟨a, o, its, n, rfl, ho, hc, hd, hS⟩, ne⟩ := hp v List.mem_cons_self
    obtain ⟨l⟩ := its
    cases hk : k (.ref a) with
    | nil => exact absurd hk ne
    | cons x ks =>
      rw [hk] at hS
      cases hS with
      | cons y t r => exact ⟨.str x t :: fs, PySem.W.KatTups.cons ho hc hd rfl h1, by rw [List.length_cons, List.length_cons, h2], fun f m => (List.mem_cons.mp m).elim (fun e => ⟨_, _, e⟩) (h3 f)⟩
theorem sortable_tups {a : Addr} {vs : List Value} {k : Value → List Str} (h0 : 0 < vs.length) (hp : ∀ v ∈ vs, TupK s.heap v (k v) ∧ k v ≠ []) (ha : ∀ o, s.heap.get? a = some o → o.cls ≠ .type "tuple") :
    SrtO.SortableO P w A s a vs fun v u => ltK (k v) (k u) := by
  intro h' keep
  have hp' : ∀ v ∈ vs, TupK h' v (k v) ∧ k v ≠ [] := fun v hm => ⟨(hp v hm).1.keeps fun b o e c => keep b o (fun z => ha o (by rw [← z]; exact e) c) e, (hp v hm).2⟩
  obtain ⟨fs, h1, h2, h3⟩ := firsts_str hp'
  refine ⟨tuples' true, fun Q E hq => ?_, fun p q hm hm' => ?_⟩
  · refine PySem.W.kat_kind (T := .type "str") h1 (by omega) (fun f hm => ?_) (by rfl) ?_
    · obtain ⟨x, t, rfl⟩ := h3 f hm
      exact PySem.W.Looks.now
    · have e : (Value.type "str" != Value.type "tuple") = true := by decide +kernel
      rw [e]
      exact hq
  · obtain ⟨a1, o1, i1, n1, e1, g1, c1, d1, S1⟩ := (hp' _ hm).1
    obtain ⟨a2, o2, i2, n2, e2, g2, c2, d2, S2⟩ := (hp' _ hm').1
    show wpAny (model P w) A (keyLt' (tuples' true) p.1 q.1) (fun r s' => s' = _ ∧ r = ltK (k p.1) (k q.1)) _ _
    generalize k p.1 = k1 at S1 ⊢
    generalize k q.1 = k2 at S2 ⊢
    rw [e1, e2]
    exact PySem.W.kat_lt g1 d1 g2 d2 (lex_strs 0 S1 S2 (by simp) ⟨rfl, rfl⟩)
end
end My
namespace My
open PySem PySem.Spec PyProof.Rows L2
def eS (e : Int × Value) : Str := sOf e.2
def GoodS (w : World) (e : Int × Value) : Prop := ∃ x tk, e = (hashStr w x, Value.str x tk)
structure TabS (w : World) (h : Heap) (a : Addr) (xs : List Str) (es : Array (Int × Value)) (ep : Nat) (t : SetTable) : Prop where
  ob : ∃ o, h.get? a = some o ∧ o.ExactSet ∧ o.data = .set es ep t
  good : ∀ e ∈ es.toList, GoodS w e
  eq : es.toList.map eS = xs
  nd : xs.Nodup
  fit : t.fits es.size = true
  ris : Ris t.place.toList
  led : w.params.followText "set-order" = true ∨ t.led = true
  few : xs.length < 64
section
variable {P : Program} {w : World} {A : Around} {E : Value → Shared → Prop} {s : Shared} {a : Addr} {xs : List Str} {es : Array (Int × Value)} {ep : Nat} {t : SetTable}
theorem goodS_elems {l : List (Int × Value)} (g : ∀ e ∈ l, GoodS w e) : ElemsOf (PySem.strKind P w) l := fun e he => by
  obtain ⟨x, tk, rfl⟩ := g e he
  exact ⟨⟨x, strKind_is P w x tk, rfl⟩, rfl⟩
theorem goodS_is {e : Int × Value} (g : GoodS w e) (k : Str) : (PySem.strKind P w).is k e.2 = true ↔ eS e = k := by
  obtain ⟨x, tk, rfl⟩ := g
  show Value.isStrOf k (.str x tk) = true ↔ x = k
  simp [Value.isStrOf]
theorem TabS.count {h : Heap} (R : TabS w h a xs es ep t) : es.size = xs.length := by
  rw [← R.eq, List.length_map, Array.length_toList]
def PutS (w : World) (h h' : Heap) (a : Addr) (xs : List Str) (k : Str) (xs' : List Str) : Prop :=
  Heap.SameBut a h h' ∧ (∃ es ep t, TabS w h' a xs' es ep t) ∧ (k ∈ xs → xs' = xs) ∧ (k ∉ xs → xs'.Perm (k :: xs))
theorem store_strs {g : Bool → Sem Unit} (hg : ∀ (b : Bool) (z : Shared) (Q' : Unit → Shared → Prop), Q' () z → wpAny (model P w) A (g b) Q' E z) {o : Obj} (ho : s.heap.get? a = some o) (hex : o.ExactSet) (hd : o.data = .set es ep t)
    {es1 : Array (Int × Value)} {t1 : SetTable} (good : ∀ e ∈ es1.toList, GoodS w e) (nd : (es1.toList.map eS).Nodup) (few : es1.size < 64) (fit : t1.fits es1.size = true) (ris : Ris t1.place.toList)
    (led : w.params.followText "set-order" = true ∨ t1.led = true) {dummy : Bool} {R : Option Bool → Shared → Prop}
    (hR : ∀ h' xs', Heap.SameBut a s.heap h' → (∃ es ep t, TabS w h' a xs' es ep t) → xs'.Perm (es1.toList.map eS) → R (some true) { s with heap := h' }) :
    wpAny (model P w) A (do
      storeSet a es1 t1
      if (!dummy && t1.tooFull) = true then do
        g (relayAll t1 es1 (SetTable.grown es1.size)).2.2
        storeSet a (relayAll t1 es1 (SetTable.grown es1.size)).1 (relayAll t1 es1 (SetTable.grown es1.size)).2.1
        pure (some true)
      else pure (some true)) R E s := by
  have few' : es1.size < scanBound := by unfold scanBound; omega
  refine wpAny_bind (wpAny_storeSet_of ho hd ?_ (fits_of_scanBound few'))
  have ho1 := store_at (es' := es1) (t' := t1) ho hd
  have sb := Heap.SameBut.update s.heap a (Obj.putSet es1 t1)
  split
  · have pm := relayAll_perm t1 es1 (SetTable.grown es1.size)
    have f2 := relayAll_fits t1 es1 (SetTable.grown es1.size)
    have r2 := relayAll_ris t1 es1 (SetTable.grown es1.size)
    have l2 := relayAll_led t1 es1 (SetTable.grown es1.size)
    generalize relayAll t1 es1 (SetTable.grown es1.size) = Z at pm f2 r2 l2 ⊢
    obtain ⟨es2, t2, gave⟩ := Z
    dsimp only at pm f2 r2 l2 ⊢
    have cnt : es2.size = es1.size := by rw [← Array.length_toList, pm.length_eq, Array.length_toList]
    refine wpAny_bind (hg _ _ _ (wpAny_bind (wpAny_storeSet_of ho1 rfl ?_ (fits_of_scanBound (by rw [cnt]; exact few')))))
    refine wpAny_pure (hR _ _ (sb.trans (Heap.SameBut.update _ a _)) ⟨es2, _, t2, ⟨_, store_at ho1 rfl, hex, rfl⟩, fun e he => good e (pm.mem_iff.mp he), rfl, (pm.map eS).nodup_iff.mpr nd, f2, r2, by rw [l2]; exact led, ?_⟩ (pm.map eS))
    rw [List.length_map, Array.length_toList, cnt]
    exact few
  · refine wpAny_pure (hR _ _ sb ⟨es1, _, t1, ⟨_, ho1, hex, rfl⟩, good, rfl, nd, fit, ris, led, ?_⟩ (List.Perm.refl _))
    rw [List.length_map, Array.length_toList]
    exact few
theorem add_str (R : TabS w s.heap a xs es ep t) (room : xs.length + 1 < 64) {k : Str} {tk : Tok} {Q : Bool → Shared → Prop} (hQ : ∀ b h' xs', PutS w s.heap h' a xs k xs' → Q b { s with heap := h' }) :
    wpAny (model P w) A (setAddHashed a (.str k tk) (hashStr w k)) Q E s := by
  obtain ⟨o, ho, hex, hd⟩ := R.ob
  have cnt := R.count
  have el : ElemsOf (PySem.strKind P w) es.toList := goodS_elems R.good
  have hkey : (PySem.strKind P w).is k (.str k tk) = true := strKind_is P w k tk
  have hsc : (Value.str k tk).scannable = true := rfl
  have small : es.size < scanBound := by unfold scanBound; omega
  have quiet : ∀ (b : Bool) (z : Shared) (Q' : Unit → Shared → Prop), Q' () z → wpAny (model P w) A (match b with | true => rule "set.scan.the-table-gave-way" | false => pure ()) Q' E z :=
    fun b z Q' q => by cases b <;> first | exact wpAny_pure q | exact wpAny_rule q
  unfold setAddHashed setAddHashedIn
  refine wpAny_holding (wpAny_bind (wpAny_setState_of ho hd R.fit ?_))
  dsimp only
  rw [byScan_of hsc small el]
  simp only [↓reduceIte]
  unfold setAddByScan
  refine wpAny_bind (wpAny_bind (wpAny_rule (wpAny_bind (wpAny_setScan_of hkey ho hd R.fit el ?_))))
  cases hfi : List.findIdx? (fun e => (PySem.strKind P w).is k e.2) es.toList with
  | some j =>
    dsimp only
    obtain ⟨hj, pj, _⟩ := List.findIdx?_eq_some_iff_getElem.mp hfi
    have mem : k ∈ xs := by
      rw [← R.eq]
      exact List.mem_map.mpr ⟨es.toList[j], List.getElem_mem hj, (goodS_is (P := P) (R.good _ (List.getElem_mem hj)) k).mp pj⟩
    exact wpAny_pure (wpAny_pure (hQ _ s.heap xs ⟨Heap.SameBut.refl a s.heap, ⟨es, ep, t, R⟩, fun _ => rfl, fun z => absurd mem z⟩))
  | none =>
    dsimp only
    have nm : k ∉ xs := fun z => by
      rw [← R.eq] at z
      obtain ⟨e, he, q⟩ := List.mem_map.mp z
      have c := List.findIdx?_eq_none_iff.mp hfi e he
      rw [(goodS_is (P := P) (R.good e he) k).mpr q] at c
      cases c
    have pm := layNew_perm t es (hashStr w k) (.str k tk)
    have f1 := layNew_fits t es (hashStr w k) (.str k tk)
    have r1 := layNew_ris t es (hashStr w k) (.str k tk) R.ris
    have l1 := layNew_led t es (hashStr w k) (.str k tk)
    generalize layNew t es (hashStr w k) (.str k tk) = Z at pm f1 r1 l1 ⊢
    obtain ⟨es1, t1, dummy, gave⟩ := Z
    dsimp only at pm f1 r1 l1 ⊢
    rw [Array.toList_push] at pm
    have pc : es1.toList.Perm ((hashStr w k, Value.str k tk) :: es.toList) := pm.trans (List.perm_append_singleton _ _)
    have pk : (es1.toList.map eS).Perm (k :: xs) := by
      have z := pc.map eS
      rw [List.map_cons, R.eq] at z
      exact z
    have good : ∀ e ∈ es1.toList, GoodS w e := fun e he => (List.mem_cons.mp (pc.mem_iff.mp he)).elim (fun z => ⟨k, tk, z⟩) (R.good e)
    have nd : (es1.toList.map eS).Nodup := pk.nodup_iff.mpr (List.nodup_cons.mpr ⟨nm, R.nd⟩)
    have few : es1.size < 64 := by
      have z := pc.length_eq
      rw [Array.length_toList, List.length_cons, Array.length_toList] at z
      omega
    have led : w.params.followText "set-order" = true ∨ t1.led = true := R.led.imp id fun z => by rw [l1]; exact z
    have fin : ∀ h' xs', Heap.SameBut a s.heap h' → (∃ es ep t, TabS w h' a xs' es ep t) → xs'.Perm (es1.toList.map eS) → Q true { s with heap := h' } := fun h' xs' sb r p => hQ true h' xs' ⟨sb, r, fun z => absurd z nm, fun _ => p.trans pk⟩
    refine wpAny_bind (quiet _ _ _ ?_)
    split
    · refine wpAny_bind ?_
      rw [hashByValue_scannable 8 hsc]
      refine wpAny_pure (store_strs quiet ho hex hd good nd few ?_ ?_ ?_ fun h' xs' sb r p => wpAny_pure (fin h' xs' sb r p))
      · first | (split <;> first | exact f1 | exact SetTable.fits_plain_off f1) | exact f1
      · first | (split <;> exact r1) | exact r1
      · first | (split <;> exact led) | exact led
    · refine wpAny_bind (wpAny_pure ?_)
      simp only [↓reduceIte]
      exact store_strs quiet ho hex hd good nd few f1 r1 led fun h' xs' sb r p => wpAny_pure (fin h' xs' sb r p)
end
end My
namespace My
open PySem PySem.Spec PyProof.Rows L2
def SetS (w : World) (a : Addr) (xs : List Str) : HO := .ext fun h => ∃ es ep t, TabS w h a xs es ep t
def SetT (P : Program) (w : World) (a : Addr) (L : List (Addr × List Str)) : HO := .ext fun h => ∃ es ep t, Tab (PySem.strKind P w) h a L es ep t
def SetM (P : Program) (w : World) (a : Addr) (L : List (Addr × List Key)) : HO := .ext fun h => ∃ es ep t, Tab (mixKind P w) h a L es ep t
section
variable {P : Program} {w : World} {A : Around} {E : Value → Shared → Prop} {s : Shared} {h h' : Heap} {H : Hp} {a : Addr} {xs : List Str} {L : List (Addr × List Str)} {es : Array (Int × Value)} {ep : Nat} {t : SetTable}
theorem TabS.at_ (R : TabS w h a xs es ep t) (k : ∀ o, h.get? a = some o → h'.get? a = some o) : TabS w h' a xs es ep t := by
  obtain ⟨o, ho, r⟩ := R.ob
  exact ⟨⟨o, k o ho, r⟩, R.good, R.eq, R.nd, R.fit, R.ris, R.led, R.few⟩
theorem Tab.to (R : Tab (PySem.strKind P w) h a L es ep t) (k : ∀ o, h.get? a = some o → h'.get? a = some o) : Tab (PySem.strKind P w) h' a L es ep t := by
  obtain ⟨o, ho, r⟩ := R.ob
  exact ⟨⟨o, k o ho, r⟩, R.rw_, R.tab, R.nd, R.led, R.room, R.few⟩
theorem Tab.toM {L : List (Addr × List Key)} (R : Tab (mixKind P w) h a L es ep t) (k : ∀ o, h.get? a = some o → h'.get? a = some o) : Tab (mixKind P w) h' a L es ep t := by
  obtain ⟨o, ho, r⟩ := R.ob
  exact ⟨⟨o, k o ho, r⟩, R.rw_, R.tab, R.nd, R.led, R.room, R.few⟩
theorem setM_ok {L : List (Addr × List Key)} (R : ∃ es ep t, Tab (mixKind P w) h a L es ep t) : ObjOk P w H h a (SetM P w a L) := by
  refine ⟨R, ?_, fun h1 h2 ⟨es, ep, t, q⟩ k => ⟨es, ep, t, q.toM k⟩⟩
  obtain ⟨_, _, _, q⟩ := R
  obtain ⟨o, ho, _⟩ := q.ob
  exact ⟨o, ho⟩
theorem setM_at {L : List (Addr × List Key)} (ok : HOk P w H h) (e : H a = some (SetM P w a L)) : ∃ es ep t, Tab (mixKind P w) h a L es ep t := (ok a _ e).1
theorem tabM_new (ho : h.get? a = some { cls := .type "set", dict := none, data := .set #[] 0 (.fresh 0 0 (!w.params.followText "set-order")) }) : Tab (mixKind P w) h a [] #[] 0 (.fresh 0 0 (!w.params.followText "set-order")) where
  ob := ⟨_, ho, ⟨rfl, rfl, rfl⟩, rfl⟩
  rw_ := rfl
  tab := ⟨List.Pairwise.nil, rfl, rfl, .inl rfl, (fun x z => nomatch z), fun i h j z => nomatch z⟩
  nd := List.nodup_nil
  led := by
    show _ ∨ (!w.params.followText "set-order") = true
    cases w.params.followText "set-order" <;> simp
  room := by
    show 0 * 5 < 7 * 3
    decide
  few := by decide
theorem setS_ok (R : ∃ es ep t, TabS w h a xs es ep t) : ObjOk P w H h a (SetS w a xs) := by
  refine ⟨R, ?_, fun h1 h2 ⟨es, ep, t, q⟩ k => ⟨es, ep, t, q.at_ k⟩⟩
  obtain ⟨_, _, _, q⟩ := R
  obtain ⟨o, ho, _⟩ := q.ob
  exact ⟨o, ho⟩
theorem setT_ok (R : ∃ es ep t, Tab (PySem.strKind P w) h a L es ep t) : ObjOk P w H h a (SetT P w a L) := by
  refine ⟨R, ?_, fun h1 h2 ⟨es, ep, t, q⟩ k => ⟨es, ep, t, q.to k⟩⟩
  obtain ⟨_, _, _, q⟩ := R
  obtain ⟨o, ho, _⟩ := q.ob
  exact ⟨o, ho⟩
theorem setS_at (ok : HOk P w H h) (e : H a = some (SetS w a xs)) : ∃ es ep t, TabS w h a xs es ep t := (ok a _ e).1
theorem setT_at (ok : HOk P w H h) (e : H a = some (SetT P w a L)) : ∃ es ep t, Tab (PySem.strKind P w) h a L es ep t := (ok a _ e).1
theorem tabS_new (ho : h.get? a = some { cls := .type "set", dict := none, data := .set #[] 0 (.fresh 0 0 (!w.params.followText "set-order")) }) : TabS w h a [] #[] 0 (.fresh 0 0 (!w.params.followText "set-order")) where
  ob := ⟨_, ho, ⟨rfl, rfl, rfl⟩, rfl⟩
  good := fun e z => by simp at z
  eq := rfl
  nd := List.nodup_nil
  fit := rfl
  ris := List.Pairwise.nil
  led := by
    show _ ∨ (!w.params.followText "set-order") = true
    cases w.params.followText "set-order" <;> simp
  few := by decide
theorem tabT_new (ho : h.get? a = some { cls := .type "set", dict := none, data := .set #[] 0 (.fresh 0 0 (!w.params.followText "set-order")) }) : Tab (PySem.strKind P w) h a [] #[] 0 (.fresh 0 0 (!w.params.followText "set-order")) where
  ob := ⟨_, ho, ⟨rfl, rfl, rfl⟩, rfl⟩
  rw_ := rfl
  tab := ⟨List.Pairwise.nil, rfl, rfl, .inl rfl, (fun x z => nomatch z), fun i h j z => nomatch z⟩
  nd := List.nodup_nil
  led := by
    show _ ∨ (!w.params.followText "set-order") = true
    cases w.params.followText "set-order" <;> simp
  room := by
    show 0 * 5 < 7 * 3
    decide
  few := by decide
theorem sorted_set_by {ltv : Value → Value → Bool} (O : SrtO.Swo ltv) (hh : A.handled = none) (ha : SetAt s.heap a es ep t) (hf : t.fits es.size = true) (few : es.size < 64) (r : Ris t.place.toList) (hl : w.params.followText "set-order" = true ∨ t.led = true)
    (hS : ∀ (vs : List Value) (z : Shared) (l : Addr), vs.Perm (es.toList.map (·.2)) → (∀ b o, s.heap.get? b = some o → b ≠ l ∧ z.heap.get? b = some o) → z.heap.get? l = some (seqObj "list" vs.toArray 0) → 2 ≤ vs.length → SrtO.SortableO P w A.in1.in1 z l vs ltv) {Q : Value → Shared → Prop}
    (hQ : ∀ z p (out : List Value) (c : Nat), (∀ b o, s.heap.get? b = some o → z.heap.get? b = some o) → z.gens = s.gens → z.os = s.os → s.heap.objs.size ≤ p → z.heap.get? p = some (seqObj "list" out.toArray c) → SrtO.Srtd ltv out → out.Perm (es.toList.map (·.2)) → Q (.ref p) z) :
    wpAny (model P w) A (call (.builtin "sorted") [.ref a]) Q E s := by
  refine Calls.call_function_entry kind_sorted plain_sorted entry_sorted (args_sorted1 _) ?_
  unfold Builtin.«sorted»
  refine wpAny_bind (m := checkCount "sorted" 1 1 _) (wpAny_pure (wpAny_bind (collect_set (A := A.in1) hh ha hf (by unfold scanBound; omega) r hl fun z vs kp hz g1 o1 pm => ?_)))
  have cnt : vs.length = es.size := by rw [pm.length_eq, List.length_map, Array.length_toList]
  refine wpAny_bind (wpAny_newList ?_ (by rw [sizeLine_eq]; omega))
  have at_ : (z.heap.push (seqObj "list" vs.toArray 0)).get? z.heap.objs.size = some (seqObj "list" vs.toArray 0) := Heap.get?_push_size _ rfl
  have keep : ∀ b o, s.heap.get? b = some o → b ≠ z.heap.objs.size ∧ (z.heap.push (seqObj "list" vs.toArray 0)).get? b = some o := fun b o e => ⟨Nat.ne_of_lt (Heap.lt_size (kp b o e)), Heap.get?_push_of_some _ (kp b o e)⟩
  refine wpAny_bind (wpAny_holding (wpAny_call_entry slot_list_sort ⟨_, at_, rfl⟩ entry_list_sort
    (SrtO.list_sort_ord (s := { z with heap := z.heap.push (seqObj "list" vs.toArray 0) }) O at_ (by rw [sizeLine_eq]; omega) (fun h2 => hS vs { z with heap := z.heap.push (seqObj "list" vs.toArray 0) } z.heap.objs.size pm keep at_ h2) fun out hs hb => ⟨_, rfl, ?_⟩) (args_list_sort _)))
  obtain ⟨c, hc⟩ := sortedHeap_at (vs := vs) (out := out.toArray) at_
  refine wpAny_pure ⟨_, rfl, hQ _ z.heap.objs.size out c (fun b o e => ?_) g1 o1 hz hc hs (hb.perm.trans pm)⟩
  have lt := Heap.lt_size (kp b o e)
  show (sortedHeap (z.heap.push (seqObj "list" vs.toArray 0)) z.heap.objs.size vs out.toArray).get? b = some o
  rw [sortedHeap_old (Nat.ne_of_lt lt) (by rw [size_push']; exact Nat.lt_succ_of_lt lt)]
  exact (keep b o e).2
end
def rSortS (w : World) : List V → Hp → VK → Prop := fun vs H Q => ∃ (a : Addr) (ts : List Str), vs = [V.ref a] ∧ H a = some (SetS w a ts) ∧
  ∀ (ys : List Str) (p : Addr), Asc ltS ys → ys.Perm ts → H p = none → Q (.ref p) (upd H p (.lst (ys.map V.str)))
def rSortT (K : PySem.W.Frag) (P : Program) (w : World) : List V → Hp → VK → Prop := fun vs H Q => ∃ (a : Addr) (L : List (Addr × List Str)), vs = [V.ref a] ∧ H a = some (SetT P w a L) ∧ (∀ q ∈ L, SqT K H q.1 (q.2.map V.str) ∧ q.2 ≠ []) ∧
  ∀ (L' : List (Addr × List Str)) (p : Addr), L'.Perm L → Asc ltK (L'.map (·.2)) → H p = none → Q (.ref p) (upd H p (.lst (L'.map fun q => V.ref q.1)))
section
variable {X : Cx}
theorem vals_strs : ∀ {us : List Value}, (∀ u ∈ us, ∃ x t, u = Value.str x t) → Vals (us.map fun u => V.str (sOf u)) us
  | [], _ => .nil
  | u :: us, h => by
    obtain ⟨x, t, rfl⟩ := h u List.mem_cons_self
    exact .cons ⟨t, rfl⟩ (vals_strs fun v m => h v (List.mem_cons_of_mem _ m))
theorem cr_sortS (hc : X.calm = true) : CallR X (.builtin "sorted") (rSortS X.w) := by
  intro pins s σ H vs us Q I r h
  obtain ⟨a, ts, rfl, ha, q⟩ := h
  obtain ⟨u, rfl, ru⟩ := vals1 r
  cases (show u = Value.ref a from ru)
  obtain ⟨es, ep, t, R⟩ := setS_at I.hok ha
  obtain ⟨o, ho, hex, hd⟩ := R.ob
  have cnt := R.count
  have few := R.few
  have texts : ∀ vs : List Value, vs.Perm (es.toList.map (·.2)) → ∀ v ∈ vs, ∃ x t, v = Value.str x t := fun vs pm v hv => by
    obtain ⟨e, he, rfl⟩ := List.mem_map.mp (pm.mem_iff.mp hv)
    obtain ⟨x, tk, rfl⟩ := R.good e he
    exact ⟨x, tk, rfl⟩
  refine sorted_set_by (ltv := fun v u => ltS (sOf v) (sOf u)) ⟨fun x y => tot_str.swo.asym _ _, fun x y z => tot_str.swo.tr _ _ _⟩ (I.ok.hd hc) ⟨o, ho, hex.1, hd⟩ R.fit (by omega) R.ris R.led (fun vs z l pm kp hl h2 => sortable_strs h2 (texts vs pm)) fun z p out c kp hg hos hp hat hs pm => ?_
  have hn : H p = none := I.hok.fresh hp
  have pS : (out.map sOf).Perm ts := by
    have z := pm.map sOf
    rw [List.map_map] at z
    rw [← R.eq]
    exact z
  have len : out.length ≤ sizeLine := by
    have z := pS.length_eq
    rw [List.length_map] at z
    rw [sizeLine_eq]
    omega
  have hz : z.heap.get? p = some { cls := .type "list", data := .seq out.toArray c } := hat
  have str : ∀ v ∈ out, ∃ x t, v = Value.str x t := texts out pm
  have new : ObjOk X.prog X.w (upd H p (.lst ((out.map sOf).map V.str))) z.heap p (.lst ((out.map sOf).map V.str)) := ⟨by rw [List.length_map, List.length_map]; exact len, out, c, by rw [List.map_map]; exact vals_strs str, hz⟩
  have I3 : Inv X pins σ (upd H p (.lst ((out.map sOf).map V.str))) z := I.call' (ch := []) hos (Un.laid kp hp hn) (I.hok.laid kp hp new) (by rw [hg]; exact I.bare) fun _ m => nomatch m
  exact ⟨.ref p, _, I3, rfl, q (out.map sOf) p (asc_of tot_str (List.pairwise_map.mpr hs) (pS.nodup_iff.mpr R.nd)) pS hn⟩
theorem tup_at {pins : List (Addr × Obj)} {σ : L2.St} {H : Hp} {s : Shared} (I : Inv X pins σ H s) {b : Addr} {k : List Str} (h : SqT X.K H b (k.map V.str)) : TupK s.heap (.ref b) k ∧ IsTupleKey (PySem.strKind X.prog X.w) s.heap k b := by
  obtain ⟨its, rv, ⟨o, ho, hc, n, hd⟩, _⟩ := I.tuple h
  have S := strsAre_of rv
  refine ⟨⟨b, o, _, n, rfl, ho, hc, hd, by simpa using S⟩, o, _, n, ho, hc, hd, ?_⟩
  have go : ∀ {vs : List Value} {ks : List Str}, StrsAre vs ks → PySem.ItemsAre (PySem.strKind X.prog X.w) ks vs := by
    intro vs ks q
    induction q with
    | nil => exact .nil
    | cons y t _ ih => exact .cons (strKind_is X.prog X.w y t) ih
  exact go (by simpa using S)
theorem tupM_at {pins : List (Addr × Obj)} {σ : L2.St} {H : Hp} {s : Shared} (I : Inv X pins σ H s) {b : Addr} {k : List Key} (h : SqT X.K H b (k.map kV)) : IsTupleKey (mixKind X.prog X.w) s.heap k b := by
  obtain ⟨its, rv, ⟨o, ho, hc, n, hd⟩, _⟩ := I.tuple h
  exact ⟨o, _, n, ho, hc, hd, by simpa using items_are rv⟩
theorem map_str_inj : ∀ {k m : List Str}, k.map V.str = m.map V.str → k = m
  | [], [], _ => rfl
  | [], _ :: _, h => by simp at h
  | _ :: _, [], h => by simp at h
  | x :: k, y :: m, h => by
    rw [List.map_cons, List.map_cons] at h
    obtain ⟨h1, h2⟩ := List.cons.inj h
    rw [V.str.inj h1, map_str_inj h2]
def kOf (L : List (Addr × List Str)) (v : Value) : List Str := match v with
  | .ref b => ((L.find? fun q => q.1 == b).map (·.2)).getD []
  | _ => []
def pOf (L : List (Addr × List Str)) (v : Value) : Addr × List Str := (match v with | .ref b => b | _ => 0, kOf L v)
theorem kOf_at {L : List (Addr × List Str)} (one : ∀ p ∈ L, ∀ q ∈ L, p.1 = q.1 → p.2 = q.2) {q : Addr × List Str} (hq : q ∈ L) : kOf L (.ref q.1) = q.2 := by
  show ((L.find? fun p => p.1 == q.1).map (·.2)).getD [] = q.2
  cases e : L.find? fun p => p.1 == q.1 with
  | none => exact absurd (List.find?_eq_none.mp e q hq) (by simp)
  | some p =>
    have h1 : p.1 = q.1 := by simpa using List.find?_some e
    exact one p (List.mem_of_find?_eq_some e) q hq h1
theorem cr_sortT (hc : X.calm = true) : CallR X (.builtin "sorted") (rSortT X.K X.prog X.w) := by
  intro pins s σ H vs us Q I r h
  obtain ⟨a, L, rfl, ha, ht, q⟩ := h
  obtain ⟨u, rfl, ru⟩ := vals1 r
  cases (show u = Value.ref a from ru)
  obtain ⟨es, ep, t, R⟩ := setT_at I.hok ha
  obtain ⟨o, ho, hex, hd⟩ := R.ob
  have cnt := R.count
  have few := R.few
  have one : ∀ p ∈ L, ∀ q ∈ L, p.1 = q.1 → p.2 = q.2 := fun p hp q hq e => by
    have h1 := (ht p hp).1
    rw [e] at h1
    exact map_str_inj (I.tuple_inj h1 (ht q hq).1)
  have vals : es.toList.map (·.2) = L.map fun p => Value.ref p.1 := by
    rw [R.rw_]
    unfold rows
    rw [List.map_map]
    rfl
  have each : ∀ vs : List Value, vs.Perm (es.toList.map (·.2)) → ∀ v ∈ vs, ∃ p ∈ L, v = Value.ref p.1 ∧ kOf L v = p.2 := fun vs pm v hv => by
    rw [vals] at pm
    obtain ⟨p, hp, rfl⟩ := List.mem_map.mp (pm.mem_iff.mp hv)
    exact ⟨p, hp, rfl, kOf_at one hp⟩
  refine sorted_set_by (ltv := fun v u => ltK (kOf L v) (kOf L u)) ⟨fun x y => tot_key.swo.asym _ _, fun x y z => tot_key.swo.tr _ _ _⟩ (I.ok.hd hc) ⟨o, ho, hex.1, hd⟩ R.fits (by omega) R.tab.ris R.led (fun vs z l pm kp hl h2 => ?_) fun z p out c kp hg hos hp hat hs pm => ?_
  · refine sortable_tups (by omega) (fun v hv => ?_) fun o' e' c' => ?_
    · obtain ⟨p, hp, rfl, e⟩ := each vs pm v hv
      rw [e]
      exact ⟨(tup_at I (ht p hp).1).1.keeps fun b o e _ => (kp b o e).2, (ht p hp).2⟩
    · rw [hl] at e'
      cases e'
      exact absurd (Value.type.inj c') (by decide)
  · have hn : H p = none := I.hok.fresh hp
    have refs : ∀ v ∈ out, v = Value.ref (pOf L v).1 := fun v hv => by
      obtain ⟨p, _, rfl, _⟩ := each out pm v hv
      rfl
    have back : (es.toList.map (·.2)).map (pOf L) = L := by
      rw [vals, List.map_map]
      refine (List.map_congr_left fun p hp => ?_).trans (List.map_id L)
      exact Prod.ext rfl (kOf_at one hp)
    have pL : (out.map (pOf L)).Perm L := by
      have z := pm.map (pOf L)
      rw [back] at z
      exact z
    have len : out.length ≤ sizeLine := by
      have z := pL.length_eq
      rw [List.length_map] at z
      rw [sizeLine_eq]
      omega
    have asc : Asc ltK ((out.map (pOf L)).map (·.2)) := asc_of tot_key (by
      rw [List.map_map]
      exact List.pairwise_map.mpr hs) ((pL.map (·.2)).nodup_iff.mpr R.nd)
    have rel : ∀ l : List Value, (∀ v ∈ l, v = Value.ref (pOf L v).1) → Vals ((l.map (pOf L)).map fun q => V.ref q.1) l := by
      intro l
      induction l with
      | nil => intro _; exact .nil
      | cons v l ih => intro h; exact .cons (h v List.mem_cons_self) (ih fun u hu => h u (List.mem_cons_of_mem _ hu))
    have hz : z.heap.get? p = some { cls := .type "list", data := .seq out.toArray c } := hat
    have new : ObjOk X.prog X.w (upd H p (.lst ((out.map (pOf L)).map fun q => V.ref q.1))) z.heap p (.lst ((out.map (pOf L)).map fun q => V.ref q.1)) := ⟨by rw [List.length_map, List.length_map]; exact len, out, c, rel out refs, hz⟩
    exact ⟨.ref p, _, I.call' (ch := []) hos (Un.laid kp hp hn) (I.hok.laid kp hp new) (by rw [hg]; exact I.bare) (fun _ m => nomatch m), rfl, q _ p pL asc hn⟩
end
end My
namespace My
open PySem PySem.Spec PyProof.Rows L2
abbrev set0 (w : World) : Obj := { cls := .type "set", dict := none, data := .set #[] 0 (.fresh 0 0 (!w.params.followText "set-order")) }
structure Fill (P : Program) (w : World) (A : Around) (h0 : Heap) (a : Addr) (items : Array Value) (C : Type) (F : Heap → C → Prop) (J : Nat → C → Prop) : Prop where
  moves : ∀ h h' c, F h c → (∀ o, h.get? a = some o → h'.get? a = some o) → F h' c
  add : ∀ (A' : Around) (i : Nat) (v : Value) (c : C) (z : Shared) (Q : Bool → Shared → Prop) (E : Value → Shared → Prop), A'.units ≤ A.units + 8 → items[i]? = some v → F z.heap c → J i c → (∀ b o, h0.get? b = some o → z.heap.get? b = some o) →
    (∀ b h' tk c', Heap.SameBut a z.heap h' → z.toks ≤ tk → F h' c' → J (i + 1) c' → Q b { z with heap := h', toks := tk }) → wpAny (model P w) A' (setAdd a v) Q E z
section
variable {P : Program} {w : World} {A B : Around} {E : Value → Shared → Prop} {h0 : Heap} {a : Addr} {items : Array Value} {C : Type} {F : Heap → C → Prop} {J : Nat → C → Prop}
theorem fill_loop (K : Fill P w B h0 a items C F J) (hu : A.units + 1 ≤ B.units + 8) {I : Addr} {fp wr : List Addr} {G : Array GenState → Array GenState → Prop} {Pv : Nat → Value → Prop} {St : Nat → Shared → Prop} {R : Result → Shared → Prop}
    (W : WalksS P w A.in1 I fp wr G items.size Pv St) (hf : a ∉ fp) (hv : ∀ i v, Pv i v → items[i]? = some v) (ha : h0.get? a = none) (hw : ∀ b ∈ wr, h0.get? b = none) :
    ∀ (k i : Nat) (s : Shared) (c : C), items.size - i = k → i ≤ items.size → St i s → (∀ b o, h0.get? b = some o → s.heap.get? b = some o) → F s.heap c → J i c →
      (∀ s' c', Moved (a :: wr) G s s' → F s'.heap c' → J items.size c' → (∀ b o, h0.get? b = some o → s'.heap.get? b = some o) → R (.ok (.ret .none)) s') →
      codeAny (model P w) A (.builtin "set.update.loop" ⟨[.ref a, .ref I], []⟩) R s := by
  have aw : a ∉ wr := fun z => hf (W.sub _ z)
  have up : ∀ b ∈ wr, b ∈ a :: wr := fun b z => List.mem_cons_of_mem _ z
  have kept : ∀ {s s' : Shared}, Moved wr G s s' → (∀ b o, h0.get? b = some o → s.heap.get? b = some o) → ∀ b o, h0.get? b = some o → s'.heap.get? b = some o := fun m k b o e =>
    m.heap b o (fun z => by rw [hw b z] at e; cases e) (k b o e)
  intro k
  induction k with
  | zero =>
    intro i s c hk hi st kp hF hJ hR
    obtain rfl : i = items.size := by omega
    refine codeAny_builtin PyProof.Rows.F.entry_set_update_loop ?_
    rw [Around.under_plainId PyProof.Rows.F.plain_set_update_loop _]
    show wpAny _ A.in1 (pyNext (.ref I) >>= _) _ _ s
    refine wpAny_bind (W.done s _ _ st fun s' m => ?_)
    exact wpAny_pure (hR s' c (m.mono up) (K.moves _ _ _ hF fun o e => m.heap a o aw e) hJ (kept m kp))
  | succ k ih =>
    intro i s c hk hi st kp hF hJ hR
    have lt : i < items.size := by omega
    refine codeAny_builtin PyProof.Rows.F.entry_set_update_loop ?_
    rw [Around.under_plainId PyProof.Rows.F.plain_set_update_loop _]
    show wpAny _ A.in1 (pyNext (.ref I) >>= _) _ _ s
    refine wpAny_bind (W.item i s _ _ lt st fun v s1 pv st1 m => ?_)
    show wpAny _ A.in1 (holding [v] (setAdd a v) >>= _) _ _ s1
    refine wpAny_bind (wpAny_holding (K.add A.in1 i v c s1 _ _ hu (hv i v pv) (K.moves _ _ _ hF fun o e => m.heap a o aw e) hJ (kept m kp) fun b h2 tk c2 sb lk hF2 hJ2 => ?_))
    have kp2 : ∀ b o, h0.get? b = some o → h2.get? b = some o := fun b o e => (sb.2 b (fun z => by rw [z, ha] at e; cases e)).trans (kept m kp b o e)
    refine wpAny_pure ⟨plainId_quiet PyProof.Rows.F.plain_set_update_loop _, ih (i + 1) _ c2 (by omega) lt (W.frame _ s1 _ _ st1 lk fun b hb o e => ?_) kp2 hF2 hJ2 fun s3 c3 m3 hF3 hJ3 kp3 => ?_⟩
    · rw [sb.2 b (fun z => hf (by rw [← z]; exact hb))]
      exact e
    · refine hR s3 c3 (Moved.trans W.gtrans ((m.mono up).then_heap lk fun b o hb e => ?_) m3) hF3 hJ3 kp3
      rw [sb.2 b (fun z => hb (by rw [z]; exact List.mem_cons_self))]
      exact e
set_option maxHeartbeats 4000000 in
theorem set_of {s : Shared} {l : Addr} {Q : Value → Shared → Prop} (hh : A.handled = none) (hl : s.heap.IsList l items ∨ s.heap.IsTuple l items) (K : Fill P w A s.heap s.heap.objs.size items C F J) {c0 : C}
    (hF : ∀ h, h.get? s.heap.objs.size = some (set0 w) → F h c0) (hJ : J 0 c0)
    (h : ∀ (h' : Heap) (tk : Nat) (c : C), F h' c → J items.size c → (∀ b o, s.heap.get? b = some o → h'.get? b = some o) → Q (.ref s.heap.objs.size) { s with heap := h', toks := tk }) :
    wpAny (model P w) A (call (.type "set") [.ref l]) Q E s := by
  obtain ⟨c1, tl, hmro⟩ := PySem.F.called_set.mro
  have hmade := PySem.F.called_set.made
  have hsub := PySem.F.called_set.sub
  refine wpAny_call (codeAny_of_tree ?_)
  show wpAny _ _ (callAny (.type "set") _) _ _ _
  refine wpAny_pure ⟨Code.quiet_builtin _ (by decide +kernel), codeAny_builtin PySem.F.entry_type_call ?_⟩
  rw [Around.under_plain (weight_type_call_type "set" [.ref l] []) rfl]
  have h1 := PySem.F.called_set.notType
  have h2 := PySem.F.called_set.canCreate
  have hct := PySem.F.typeCall_set_1 (.ref l)
  repeat (any_goals (first | assumption | wp_step))
  refine codeAny_mono (code_set_led1 (.ref l) (E := E) (Q₁ := fun v z => v = .ref s.heap.objs.size ∧ z = { s with heap := s.heap.push (set0 w) }) ⟨rfl, rfl⟩) fun r z hr => ?_
  cases r with
  | error e => exact hr
  | ok fl =>
    cases fl with
    | ret v =>
      obtain ⟨rfl, rfl⟩ := hr
      have hS : (s.heap.push (set0 w)).get? s.heap.objs.size = some (set0 w) := Heap.get?_push_size _ rfl
      have hT : Shared.TypeIs { s with heap := s.heap.push (set0 w) } (.ref s.heap.objs.size) "set" := ⟨_, hS, rfl⟩
      have hli := PySem.F.called_set.init.lookup
      have hbi := PySem.F.called_set.init.bind (.ref s.heap.objs.size)
      repeat (any_goals (first | assumption | wp_step))
      refine codeAny_mono (codeAny_call_builtin (R := wants (fun r z => r = .none ∧ ∃ h' tk c, z = { s with heap := h', toks := tk } ∧ F h' c ∧ J items.size c ∧ (∀ b o, s.heap.get? b = some o → h'.get? b = some o)) E)
        PySem.F.called_set.init.plain PySem.F.entry_set_init (check_set_init_1 hT ?_)) fun r z hr => ?_
      · have gone : ∀ b, s.heap.objs.size ≤ b → s.heap.get? b = none := fun b hb => by
          cases q : s.heap.get? b with
          | none => rfl
          | some o => exact absurd (Nat.lt_of_lt_of_le (Heap.lt_size q) hb) (Nat.lt_irrefl _)
        have h3 : A.in1.in1.in1.handled = none := by simp [hh]
        have z1 : (s.heap.push (set0 w)).objs.size = s.heap.objs.size + 1 := Heap.size_push ..
        have run : ∀ (ob : Obj) (Pv : Nat → Value → Prop) (St : Nat → Shared → Prop), l < s.heap.objs.size →
            WalksS P w A.in1.in1.in1 (s.heap.push (set0 w)).objs.size [(s.heap.push (set0 w)).objs.size, l] [(s.heap.push (set0 w)).objs.size] (fun a b => b = a) items.size Pv St → (∀ i v, Pv i v → items[i]? = some v) →
            St 0 { s with heap := (s.heap.push (set0 w)).push ob } →
            ∀ (R : Result → Shared → Prop), (∀ h' tk c, F h' c → J items.size c → (∀ b o, s.heap.get? b = some o → h'.get? b = some o) → R (.ok (.ret .none)) { s with heap := h', toks := tk }) →
            codeAny (model P w) A.in1.in1 (.builtin "set.update.loop" ⟨[.ref s.heap.objs.size, .ref (s.heap.push (set0 w)).objs.size], []⟩) R { s with heap := (s.heap.push (set0 w)).push ob } := by
          intro ob Pv St ll W hv st R hR
          have hget : ((s.heap.push (set0 w)).push ob).get? s.heap.objs.size = some (set0 w) := Heap.get?_push_of_some _ hS
          refine fill_loop K (by show A.units + 1 + 1 + 1 ≤ _; omega) W ?_ hv (gone _ (Nat.le_refl _)) (fun b hb => gone b ?_) (items.size - 0) 0 _ c0 rfl (Nat.zero_le _) st (fun b o e => Heap.get?_push_of_some _ (Heap.get?_push_of_some _ e)) (hF _ hget) hJ fun s' c m hF' hJ' kp => ?_
          · rw [z1]
            simp only [List.mem_cons, List.not_mem_nil, or_false, not_or]
            exact ⟨Nat.ne_of_lt (Nat.lt_succ_self _), Nat.ne_of_gt ll⟩
          · rw [List.mem_singleton.mp hb, z1]
            exact Nat.le_succ _
          · obtain ⟨hp, gn, dr, tk, os⟩ := s'
            have eg := m.gens
            have ed := m.drawn
            have eo := m.os
            dsimp only at eg ed eo
            subst eg ed eo
            exact hR hp tk c hF' hJ' kp
        rcases hl with hl | hl
        · obtain ⟨ol, hol, hcl, nl, hdl⟩ := hl
          obtain ⟨oc, od, oda, osl⟩ := ol
          simp only at hcl hdl
          subst hcl hdl
          have ll := Heap.lt_size hol
          have hne2 : l ≠ (s.heap.push (set0 w)).objs.size := by
            rw [z1]
            exact Nat.ne_of_lt (Nat.lt_succ_of_lt ll)
          have hol' : (s.heap.push (set0 w)).get? l = some { cls := .type "list", dict := od, data := .seq items nl, slots := osl } := Heap.get?_push_of_some _ hol
          have hsls := PySem.F.sub_list_set
          have hslf := PySem.F.sub_list_frozenset
          have hne : (Value.type "list" == Value.type "dict") = false := by decide
          have hl1 : (s.heap.push (set0 w)).IsList l items := ⟨_, hol', rfl, nl, rfl⟩
          unfold Builtin.«set.__init__» noKeywords Builtin.Frozenset.updateFrom
          generalize hPI : pyIter = PI
          wp_walk
          subst hPI
          refine wpAny_pyIter_list hl1 (wpAny_bind (wpAny_runValue ?_))
          refine run _ _ _ ll ((Walks.list h3 _ l hne2 items).toS) (fun i v e => e) ⟨⟨_, Heap.get?_push_size _ rfl, rfl, rfl⟩, hl1.push _⟩ _ fun h' tk c hF' hJ' kp => ?_
          refine wpAny_pure ?_
          exact wpAny_pure ⟨rfl, h', tk, c, rfl, hF', hJ', kp⟩
        · obtain ⟨ol, hol, hcl, nl, hdl⟩ := hl
          obtain ⟨oc, od, oda, osl⟩ := ol
          simp only at hcl hdl
          subst hcl hdl
          have ll := Heap.lt_size hol
          have hne2 : l ≠ (s.heap.push (set0 w)).objs.size := by
            rw [z1]
            exact Nat.ne_of_lt (Nat.lt_succ_of_lt ll)
          have hol' : (s.heap.push (set0 w)).get? l = some { cls := .type "tuple", dict := od, data := .seq items nl, slots := osl } := Heap.get?_push_of_some _ hol
          have hsls := PySem.F.sub_tuple_set
          have hslf := PySem.F.sub_tuple_frozenset
          have hne : (Value.type "tuple" == Value.type "dict") = false := by decide
          have hl1 : (s.heap.push (set0 w)).IsTuple l items := ⟨_, hol', rfl, nl, rfl⟩
          unfold Builtin.«set.__init__» noKeywords Builtin.Frozenset.updateFrom
          generalize hPI : pyIter = PI
          wp_walk
          subst hPI
          refine wpAny_pyIter_tuple hl1 (wpAny_bind (wpAny_runValue ?_))
          refine run _ _ _ ll ((Walks.tuple h3 _ l hne2 items).toS) (fun i v e => e) ⟨⟨_, Heap.get?_push_size _ rfl, rfl, rfl⟩, hl1.push _⟩ _ fun h' tk c hF' hJ' kp => ?_
          refine wpAny_pure ?_
          exact wpAny_pure ⟨rfl, h', tk, c, rfl, hF', hJ', kp⟩
      · cases r with
        | error e => exact hr
        | ok fl2 =>
          cases fl2 with
          | ret r =>
            obtain ⟨rfl, h', tk, c, rfl, hF', hJ', kp⟩ := hr
            repeat (any_goals (first | assumption | wp_step))
            exact h _ _ _ hF' hJ' kp
          | _ => exact hr.elim
    | _ => exact hr.elim
end
end My
namespace My
open PySem PySem.Spec PyProof.Rows L2
def AddS (xs : List Str) (k : Str) (xs' : List Str) : Prop := (k ∈ xs → xs' = xs) ∧ (k ∉ xs → xs'.Perm (k :: xs))
def AddT (L : List (Addr × List Str)) (b : Addr) (k : List Str) (L' : List (Addr × List Str)) : Prop := (k ∈ L.map (·.2) → L' = L) ∧ (k ∉ L.map (·.2) → L'.Perm ((b, k) :: L))
def AddM (L : List (Addr × List Key)) (b : Addr) (k : List Key) (L' : List (Addr × List Key)) : Prop := (k ∈ L.map (·.2) → L' = L) ∧ (k ∉ L.map (·.2) → L'.Perm ((b, k) :: L))
theorem AddM.keys {L L' : List (Addr × List Key)} {b : Addr} {k : List Key} (h : AddM L b k L') (x : List Key) : x ∈ L'.map (·.2) ↔ x = k ∨ x ∈ L.map (·.2) := by
  by_cases c : k ∈ L.map (·.2)
  · rw [h.1 c]
    exact ⟨.inr, fun z => z.elim (fun e => by rw [e]; exact c) id⟩
  · rw [((h.2 c).map (·.2)).mem_iff, List.map_cons, List.mem_cons]
theorem AddM.len {L L' : List (Addr × List Key)} {b : Addr} {k : List Key} (h : AddM L b k L') : L'.length ≤ L.length + 1 := by
  by_cases c : k ∈ L.map (·.2)
  · rw [h.1 c]
    omega
  · rw [(h.2 c).length_eq]
    exact Nat.le_refl _
theorem AddM.sub {L L' : List (Addr × List Key)} {b : Addr} {k : List Key} (h : AddM L b k L') {p : Addr × List Key} (hp : p ∈ L') : p = (b, k) ∨ p ∈ L := by
  by_cases c : k ∈ L.map (·.2)
  · rw [h.1 c] at hp
    exact .inr hp
  · exact List.mem_cons.mp ((h.2 c).mem_iff.mp hp)
theorem scan_mix (P : Program) (w : World) : Scan (mixKind P w) := fun k v h => by
  rw [mixKind_is] at h
  cases k with
  | inr x =>
    obtain ⟨t, rfl⟩ := Value.isStrOf_shape (x := x) (v := v) h
    rfl
  | inl i =>
    cases v with
    | int j t => rfl
    | _ => exact absurd h (by simp [keyIs, Value.isInt])
theorem AddS.mem {xs xs' : List Str} {k : Str} (h : AddS xs k xs') (x : Str) : x ∈ xs' ↔ x = k ∨ x ∈ xs := by
  by_cases c : k ∈ xs
  · rw [h.1 c]
    exact ⟨.inr, fun z => z.elim (fun e => e ▸ c) id⟩
  · rw [(h.2 c).mem_iff]
    exact List.mem_cons
theorem AddS.len {xs xs' : List Str} {k : Str} (h : AddS xs k xs') : xs'.length ≤ xs.length + 1 := by
  by_cases c : k ∈ xs
  · rw [h.1 c]
    omega
  · rw [(h.2 c).length_eq]
    exact Nat.le_refl _
theorem AddT.keys {L L' : List (Addr × List Str)} {b : Addr} {k : List Str} (h : AddT L b k L') (x : List Str) : x ∈ L'.map (·.2) ↔ x = k ∨ x ∈ L.map (·.2) := by
  by_cases c : k ∈ L.map (·.2)
  · rw [h.1 c]
    exact ⟨.inr, fun z => z.elim (fun e => e ▸ c) id⟩
  · rw [((h.2 c).map (·.2)).mem_iff]
    exact List.mem_cons
theorem AddT.sub {L L' : List (Addr × List Str)} {b : Addr} {k : List Str} (h : AddT L b k L') {p : Addr × List Str} (hp : p ∈ L') : p = (b, k) ∨ p ∈ L := by
  by_cases c : k ∈ L.map (·.2)
  · rw [h.1 c] at hp
    exact .inr hp
  · exact List.mem_cons.mp ((h.2 c).mem_iff.mp hp)
theorem AddT.len {L L' : List (Addr × List Str)} {b : Addr} {k : List Str} (h : AddT L b k L') : L'.length ≤ L.length + 1 := by
  by_cases c : k ∈ L.map (·.2)
  · rw [h.1 c]
    omega
  · rw [(h.2 c).length_eq]
    exact Nat.le_refl _
section
variable {P : Program} {w : World} {A : Around} {E : Value → Shared → Prop} {s : Shared} {a : Addr}
theorem setAdd_str {xs : List Str} {es : Array (Int × Value)} {ep : Nat} {t : SetTable} (R : TabS w s.heap a xs es ep t) (room : xs.length + 1 < 64) {k : Str} {tk : Tok} {Q : Bool → Shared → Prop}
    (hQ : ∀ b h' tk xs', s.toks ≤ tk → PutS w s.heap h' a xs k xs' → Q b { s with heap := h', toks := tk }) : wpAny (model P w) A (setAdd a (.str k tk)) Q E s := by
  unfold setAdd
  refine wpAny_holding (wpAny_bind ((PySem.strKind P w).pyHash (strKind_is P w k tk) ?_))
  exact add_str (s := { s with toks := s.toks + 1 }) R room fun b h' xs' p => hQ b h' _ xs' (Nat.le_succ _) p
theorem setAdd_tup {L : List (Addr × List Str)} {es : Array (Int × Value)} {ep : Nat} {t : SetTable} (R : Tab (PySem.strKind P w) s.heap a L es ep t) (tup : ∀ p ∈ L, IsTupleKey (PySem.strKind P w) s.heap p.2 p.1) (room : L.length + 1 < 64) {b : Addr} {k : List Str}
    (hb : IsTupleKey (PySem.strKind P w) s.heap k b) (hu : A.units < cLine) {Q : Bool → Shared → Prop} (hQ : ∀ c h' tk L', s.toks ≤ tk → Put (PySem.strKind P w) s.heap h' a L b k L' → Q c { s with heap := h', toks := tk }) :
    wpAny (model P w) A (setAdd a (.ref b)) Q E s := by
  unfold setAdd
  refine wpAny_holding (wpAny_bind (wpAny_pyHash_tuple hu hb ?_))
  exact add_tab (s := { s with toks := s.toks + (k.length + 1) }) (scan_str P w) R tup hb hu room fun c h' L' p => hQ c h' _ L' (Nat.le_add_right _ _) p
end
section
variable {P : Program} {w : World} {A : Around} {E : Value → Shared → Prop} {s : Shared} {a : Addr}
theorem setAdd_tupM {L : List (Addr × List Key)} {es : Array (Int × Value)} {ep : Nat} {t : SetTable} (R : Tab (mixKind P w) s.heap a L es ep t) (tup : ∀ p ∈ L, IsTupleKey (mixKind P w) s.heap p.2 p.1) (room : L.length + 1 < 64) {b : Addr} {k : List Key}
    (hb : IsTupleKey (mixKind P w) s.heap k b) (hu : A.units < cLine) {Q : Bool → Shared → Prop} (hQ : ∀ c h' tk L', s.toks ≤ tk → Put (mixKind P w) s.heap h' a L b k L' → Q c { s with heap := h', toks := tk }) :
    wpAny (model P w) A (setAdd a (.ref b)) Q E s := by
  unfold setAdd
  refine wpAny_holding (wpAny_bind (wpAny_pyHash_tuple hu hb ?_))
  exact add_tab (s := { s with toks := s.toks + (k.length + 1) }) (scan_mix P w) R tup hb hu room fun c h' L' p => hQ c h' _ L' (Nat.le_add_right _ _) p
end
section
variable {X : Cx}
theorem seq_at {pins : List (Addr × Obj)} {σ : L2.St} {H : Hp} {s : Shared} (I : Inv X pins σ H s) {l : Addr} {vs : List V} (h : SqL X.K H l vs ∨ SqT X.K H l vs) : ∃ its : List Value, Vals vs its ∧ (s.heap.IsList l its.toArray ∨ s.heap.IsTuple l its.toArray) := by
  rcases h with h | h
  · obtain ⟨its, rv, hl, _⟩ := I.list h
    exact ⟨its, rv, .inl hl.isList⟩
  · obtain ⟨its, rv, ⟨o, ho, hc, n, hd⟩, _⟩ := I.tuple h
    exact ⟨its, rv, .inr ⟨o, ho, hc, n, hd⟩⟩
theorem take_mem {α : Type} {l : List α} {i : Nat} {x : α} (h : l[i]? = some x) (y : α) : y ∈ l.take (i + 1) ↔ y = x ∨ y ∈ l.take i := by
  rw [List.take_add_one, h]
  simp [or_comm]
end
end My
namespace SrtO
open PySem PySem.Spec PyProof.Rows
end SrtO
namespace My
open PySem PySem.Spec PyProof.Rows L2
theorem nd_le {α : Type} [DecidableEq α] : ∀ {l D : List α}, l.Nodup → (∀ x ∈ l, x ∈ D) → l.length ≤ D.length
  | [], _, _, _ => Nat.zero_le _
  | x :: l, D, hn, hs => by
    obtain ⟨h1, h2⟩ := List.nodup_cons.mp hn
    have hx : x ∈ D := hs x List.mem_cons_self
    have ih := nd_le (D := D.erase x) h2 fun y hy => (List.mem_erase_of_ne fun e => h1 (by rw [← e]; exact hy)).2 (hs y (List.mem_cons_of_mem _ hy))
    have e := List.length_erase_of_mem hx
    have hp : 0 < D.length := List.length_pos_of_mem hx
    rw [List.length_cons]
    omega
def rSetOfS2 (K : PySem.W.Frag) (w : World) : List V → Hp → VK → Prop := fun vs H Q => ∃ (l : Addr) (zs : List Str), vs = [V.ref l] ∧ (SqL K H l (zs.map V.str) ∨ SqT K H l (zs.map V.str)) ∧ (∀ ys : List Str, ys.Nodup → (∀ y ∈ ys, y ∈ zs) → ys.length < 63) ∧
  ∀ (a : Addr) (xs : List Str), (∀ x, x ∈ xs ↔ x ∈ zs) → H a = none → Q (.ref a) (upd H a (SetS w a xs))
def rSetOfT2 (K : PySem.W.Frag) (P : Program) (w : World) : List V → Hp → VK → Prop := fun vs H Q => ∃ (l : Addr) (ks : List (Addr × List Str)), vs = [V.ref l] ∧ (SqL K H l (ks.map fun p => V.ref p.1) ∨ SqT K H l (ks.map fun p => V.ref p.1)) ∧ (∀ ys : List (List Str), ys.Nodup → (∀ y ∈ ys, y ∈ ks.map (·.2)) → ys.length < 63) ∧
  (∀ p ∈ ks, SqT K H p.1 (p.2.map V.str)) ∧
  ∀ (a : Addr) (L : List (Addr × List Str)), (∀ p ∈ L, p ∈ ks) → (∀ k, k ∈ L.map (·.2) ↔ k ∈ ks.map (·.2)) → H a = none → Q (.ref a) (upd H a (SetT P w a L))
section
variable {X : Cx}
theorem cr_setS2 (hc : X.calm = true) : CallR X (.type "set") (rSetOfS2 X.K X.w) := by
  intro pins s σ H vs us Q I r h
  obtain ⟨l, zs, rfl, hl, few, q⟩ := h
  obtain ⟨u, rfl, ru⟩ := vals1 r
  cases (show u = Value.ref l from ru)
  obtain ⟨its, rv, hl⟩ := seq_at I hl
  have cnt : its.toArray.size = zs.length := by
    have z := rv.length
    rw [List.length_map] at z
    simp [← z]
  refine set_of (C := List Str) (F := fun h xs => ∃ es ep t, TabS X.w h s.heap.objs.size xs es ep t) (J := fun i xs => ∀ x, x ∈ xs ↔ x ∈ zs.take i) (I.ok.hd hc) hl ⟨fun h h' c ⟨es, ep, t, R⟩ k => ⟨es, ep, t, R.at_ k⟩, fun A' i v c z Q' E' hu hv ⟨es, ep, t, R⟩ hJ kp hQ => ?_⟩
    (c0 := []) (fun h e => ⟨_, _, _, tabS_new e⟩) (fun x => by simp) fun h' tk c hF hJ kp => ?_
  · have hv' : its[i]? = some v := by simpa using hv
    have hi : i < zs.length := by
      rw [← cnt]
      exact (Array.getElem?_eq_some_iff.mp hv).1
    obtain ⟨u, hu', ru⟩ := rv.get (i := i) (x := V.str zs[i]) (by rw [List.getElem?_map, List.getElem?_eq_getElem hi]; rfl)
    rw [hv'] at hu'
    cases hu'
    obtain ⟨tk, rfl⟩ := ru
    have room := few c R.nd fun y hy => List.mem_of_mem_take ((hJ y).mp hy)
    refine setAdd_str R (by omega) fun b h' tk xs' lk ⟨sb, R', p1, p2⟩ => hQ b h' tk xs' sb lk R' fun x => ?_
    rw [AddS.mem (xs := c) (k := zs[i]) ⟨p1, p2⟩ x, take_mem (List.getElem?_eq_getElem hi), hJ x]
  · have hn : H s.heap.objs.size = none := I.hok.fresh (Nat.le_refl _)
    rw [cnt] at hJ
    exact ⟨.ref _, _, I.laid (t' := tk) kp (Nat.le_refl _) (setS_ok hF), rfl, q _ c (fun x => by rw [hJ x, List.take_length]) hn⟩
theorem cr_setT2 (hc : X.calm = true) (hu : X.A.units + 64 < cLine) : CallR X (.type "set") (rSetOfT2 X.K X.prog X.w) := by
  intro pins s σ H vs us Q I r h
  obtain ⟨l, ks, rfl, hl, few, hk, q⟩ := h
  obtain ⟨u, rfl, ru⟩ := vals1 r
  cases (show u = Value.ref l from ru)
  obtain ⟨its, rv, hl⟩ := seq_at I hl
  have cnt : its.toArray.size = ks.length := by
    have z := rv.length
    rw [List.length_map] at z
    simp [← z]
  have tup : ∀ p ∈ ks, IsTupleKey (PySem.strKind X.prog X.w) s.heap p.2 p.1 := fun p hp => (tup_at I (hk p hp)).2
  have carry : ∀ {z : Shared} {p : Addr × List Str}, (∀ b o, s.heap.get? b = some o → z.heap.get? b = some o) → IsTupleKey (PySem.strKind X.prog X.w) s.heap p.2 p.1 → IsTupleKey (PySem.strKind X.prog X.w) z.heap p.2 p.1 := fun kp ⟨o, its, n, ho, r⟩ => ⟨o, its, n, kp _ _ ho, r⟩
  refine set_of (C := List (Addr × List Str)) (F := fun h L => ∃ es ep t, Tab (PySem.strKind X.prog X.w) h s.heap.objs.size L es ep t) (J := fun i L => (∀ p ∈ L, p ∈ ks) ∧ (∀ k, k ∈ L.map (·.2) ↔ k ∈ (ks.take i).map (·.2))) (I.ok.hd hc) hl
    ⟨fun h h' c ⟨es, ep, t, R⟩ k => ⟨es, ep, t, R.to k⟩, fun A' i v c z Q' E' hu' hv ⟨es, ep, t, R⟩ ⟨j1, j2⟩ kp hQ => ?_⟩ (c0 := []) (fun h e => ⟨_, _, _, tabT_new e⟩) ⟨fun p z => (nomatch z), fun k => by simp⟩ fun h' tk c hF ⟨j1, j2⟩ kp => ?_
  · have hv' : its[i]? = some v := by simpa using hv
    have hi : i < ks.length := by
      rw [← cnt]
      exact (Array.getElem?_eq_some_iff.mp hv).1
    obtain ⟨u, hu2, ru⟩ := rv.get (i := i) (x := V.ref ks[i].1) (by rw [List.getElem?_map, List.getElem?_eq_getElem hi]; rfl)
    rw [hv'] at hu2
    cases hu2
    cases (show v = Value.ref ks[i].1 from ru)
    have mk : ks[i] ∈ ks := List.getElem_mem hi
    have room := few (c.map (·.2)) R.nd fun y hy => by
      obtain ⟨q, hq, e⟩ := List.mem_map.mp hy
      exact List.mem_map.mpr ⟨q, j1 q hq, e⟩
    rw [List.length_map] at room
    refine setAdd_tup R (fun p hp => carry kp (tup p (j1 p hp))) (by omega) (k := ks[i].2) (carry kp (tup _ mk)) (by omega) fun b h' tk L' lk ⟨sb, R', p1, p2⟩ => hQ b h' tk L' sb lk R' ⟨fun p hp => ?_, fun k => ?_⟩
    · rcases AddT.sub (L := c) ⟨p1, p2⟩ hp with e | e
      · rw [e]
        exact mk
      · exact j1 p e
    · rw [AddT.keys (L := c) (b := ks[i].1) ⟨p1, p2⟩ k, j2 k, List.map_take, List.map_take, take_mem (l := ks.map (·.2)) (x := ks[i].2) (by rw [List.getElem?_map, List.getElem?_eq_getElem hi]; rfl)]
  · have hn : H s.heap.objs.size = none := I.hok.fresh (Nat.le_refl _)
    rw [cnt] at j2
    exact ⟨.ref _, _, I.laid (t' := tk) kp (Nat.le_refl _) (setT_ok hF), rfl, q _ c j1 (fun k => by rw [j2 k, List.take_length]) hn⟩
end
end My
namespace My
open PySem PySem.Spec PyProof.Rows L2
def marks (m : Nat) : Nat → Nat → Nat → Nat
  | 0, _, M => M
  | k + 1, x, M => marks m k ((x * 5 + 1) % (m + 1)) (M ||| 1 <<< x)
theorem lcgI_next (m x : Nat) : ∀ k, lcgI m ((x * 5 + 1) % (m + 1)) k = lcgI m x (k + 1)
  | 0 => rfl
  | k + 1 => congrArg (fun z => (z * 5 + 1) % (m + 1)) (lcgI_next m x k)
theorem bit_one {x j : Nat} : (1 <<< x).testBit j = decide (x = j) := by
  rw [Nat.one_shiftLeft]
  exact Nat.testBit_two_pow
theorem marks_bit {m j : Nat} : ∀ (k x M : Nat), (marks m k x M).testBit j = true → M.testBit j = true ∨ ∃ i, i < k ∧ lcgI m x i = j
  | 0, _, _, h => .inl h
  | k + 1, x, M, h => by
    rcases marks_bit k _ _ h with c | ⟨i, l, e⟩
    · rw [Nat.testBit_or, Bool.or_eq_true, bit_one, decide_eq_true_iff] at c
      rcases c with c | c
      · exact .inl c
      · exact .inr ⟨0, Nat.succ_pos k, c⟩
    · exact .inr ⟨i + 1, Nat.succ_lt_succ l, by rw [← lcgI_next]; exact e⟩
theorem lcgI_plus (m x a : Nat) : ∀ k, lcgI m (lcgI m x a) k = lcgI m x (a + k)
  | 0 => rfl
  | k + 1 => congrArg (fun z => (z * 5 + 1) % (m + 1)) (lcgI_plus m x a k)
structure MaskW (m : Nat) : Prop where
  odd : m % 2 = 1
  far : m ≤ 9000
  meets : ∀ (h : Int) (j : Nat), j ≤ m → ∃ n, n ≤ m + 12 ∧ runI m (SetTable.bits h) n = j
theorem maskW_of {m : Nat} (odd : m % 2 = 1) (far : m ≤ 9000) (all : marks m (m + 1) 0 0 = 2 ^ (m + 1) - 1) (per : lcgI m 0 (m + 1) = 0) : MaskW m := by
  have hit : ∀ j, j ≤ m → ∃ i, i ≤ m ∧ lcgI m 0 i = j := fun j hj => by
    have b : (marks m (m + 1) 0 0).testBit j = true := by
      rw [all, Nat.testBit_two_pow_sub_one]
      exact decide_eq_true (Nat.lt_succ_of_le hj)
    rcases marks_bit _ _ _ b with c | ⟨i, l, e⟩
    · rw [Nat.zero_testBit] at c
      cases c
    · exact ⟨i, Nat.le_of_lt_succ l, e⟩
  have again : ∀ k, lcgI m 0 (m + 1 + k) = lcgI m 0 k := fun k => by
    rw [← lcgI_plus, per]
  refine ⟨odd, far, fun h j hj => ?_⟩
  obtain ⟨a, ha, ea⟩ := hit _ (runI_le m (SetTable.bits h) 12)
  obtain ⟨b, hb, eb⟩ := hit j hj
  have go : ∀ k, runI m (SetTable.bits h) (12 + k) = lcgI m 0 (a + k) := fun k => by
    rw [runI_tail (bits_lt h), ← ea, lcgI_plus]
  by_cases c : a ≤ b
  · refine ⟨12 + (b - a), by omega, ?_⟩
    rw [go, show a + (b - a) = b by omega]
    exact eb
  · refine ⟨12 + (m + 1 + b - a), by omega, ?_⟩
    rw [go, show a + (m + 1 + b - a) = m + 1 + b by omega, again]
    exact eb
theorem mw7 : MaskW 7 := maskW_of rfl (by decide) (by decide +kernel) (by decide +kernel)
theorem mw31 : MaskW 31 := maskW_of rfl (by decide) (by decide +kernel) (by decide +kernel)
theorem mw127 : MaskW 127 := maskW_of rfl (by decide) (by decide +kernel) (by decide +kernel)
theorem mw511 : MaskW 511 := maskW_of rfl (by decide) (by decide +kernel) (by decide +kernel)
theorem mw2047 : MaskW 2047 := maskW_of rfl (by decide) (by decide +kernel) (by decide +kernel)
theorem mw8191 : MaskW 8191 := maskW_of rfl (by decide) (by decide +kernel) (by decide +kernel)
theorem slot_met {m : Nat} (W : MaskW m) (h : Int) {j : Nat} (hj : j ≤ m) : ∃ k, k < 10 * SetTable.turns m ∧ way m h k = j := by
  obtain ⟨n, hn, e⟩ := W.meets h j hj
  obtain ⟨k, hk, e2⟩ := run_nth m (SetTable.bits h) n
  refine ⟨k, by unfold SetTable.turns; omega, ?_⟩
  show (nth m _ k).j = j
  rw [e2]
  exact e
theorem way_in (m : Nat) (h : Int) (k : Nat) : way m h k ≤ m := by
  have i : SetTable.bits h % (m + 1) ≤ m := Nat.le_of_lt_succ (Nat.mod_lt _ (Nat.succ_pos m))
  have r := (runEnd_bd i).1
  have g := (runEnd_bd i).2.1
  have z := nth_in (m := m) k (runAt m (SetTable.bits h % (m + 1)) (SetTable.bits h)) (show SetTable.bits h % (m + 1) + (SetTable.runEnd m (SetTable.bits h % (m + 1)) - SetTable.bits h % (m + 1)) ≤ m by omega)
  exact Nat.le_trans (Nat.le_add_right _ _) z
structure TabW (t : SetTable) (hs : List Int) : Prop where
  mw : MaskW t.mask
  ris : Ris t.place.toList
  dm : t.dummies = #[]
  sz : t.place.size = hs.length
  bd : ∀ x ∈ t.place.toList, x ≤ t.mask
  reach : ∀ (i : Nat) (h : Int) (j : Nat), hs[i]? = some h → t.place.toList[i]? = some j → ∃ k, way t.mask h k = j ∧ ∀ k', k' < k → way t.mask h k' ∈ t.place.toList
theorem way_first {p : Nat → Prop} {k : Nat} (hk : p k) : ∃ K, K ≤ k ∧ p K ∧ ∀ k', k' < K → ¬ p k' := st_least k hk
theorem TabW.first {t : SetTable} {hs : List Int} (T : TabW t hs) (l : hs.length ≤ t.mask) (h : Int) : ∃ K, K < 10 * SetTable.turns t.mask ∧ way t.mask h K ∉ t.place.toList ∧ ∀ k, k < K → way t.mask h k ∈ t.place.toList := by
  obtain ⟨j, lj, nj⟩ := st_missing t.place.toList (t.mask + 1) (by
    rw [Array.length_toList, T.sz]
    omega)
  obtain ⟨k, lk, e⟩ := slot_met T.mw h (Nat.le_of_lt_succ lj)
  obtain ⟨K, a, b, c⟩ := way_first (p := fun k => way t.mask h k ∉ t.place.toList) (k := k) (by rw [e]; exact nj)
  exact ⟨K, Nat.lt_of_le_of_lt a lk, b, fun k' l' => Classical.byContradiction (c k' l')⟩
theorem TabW.before {t : SetTable} {hs : List Int} (T : TabW t hs) {h : Int} {K i j : Nat} (hK : way t.mask h K ∉ t.place.toList) (hi : hs[i]? = some h) (hj : t.place.toList[i]? = some j) : ∃ k, k < K ∧ way t.mask h k = j := by
  obtain ⟨k, e, up⟩ := T.reach i h j hi hj
  refine ⟨k, Nat.lt_of_not_le fun le => ?_, e⟩
  rcases Nat.lt_or_eq_of_le le with c | c
  · exact hK (up K c)
  · exact hK (by rw [c, e]; exact List.mem_of_getElem? hj)
theorem TabW.off {t : SetTable} {hs : List Int} (T : TabW t hs) : TabW { t with plain := false } hs := ⟨T.mw, T.ris, T.dm, T.sz, T.bd, T.reach⟩
theorem TabW.put {t : SetTable} {hs : List Int} (T : TabW t hs) {h : Int} {j K : Nat} (ej : way t.mask h K = j) (nj : j ∉ t.place.toList) (up : ∀ k, k < K → way t.mask h k ∈ t.place.toList) :
    (t.put j).2 = SetTable.below t.place j ∧ SetTable.below t.place j ≤ hs.length ∧ TabW (t.put j).1 (hs.take (SetTable.below t.place j) ++ h :: hs.drop (SetTable.below t.place j)) ∧ (t.put j).1.mask = t.mask ∧ (t.put j).1.led = t.led ∧ (t.put j).1.fill = hs.length + 1 := by
  have cut := (below_cut T.ris j).1
  have l1 : SetTable.below t.place j ≤ t.place.toList.length := cut
  have l2 : SetTable.below t.place j ≤ hs.length := by
    rw [← T.sz]
    exact cut
  have pl := put_place t j
  have sz : (t.put j).1.place.size = hs.length + 1 := by
    rw [← Array.length_toList, pl, len_ins _ l1, Array.length_toList, T.sz]
  have more : ∀ x ∈ t.place.toList, x ∈ (t.put j).1.place.toList := fun x hx => by
    rw [pl]
    exact mem_ins.mpr (.inr hx)
  have wider : ∀ {h' : Int} {j' : Nat}, (∃ k, way t.mask h' k = j' ∧ ∀ k', k' < k → way t.mask h' k' ∈ t.place.toList) → ∃ k, way t.mask h' k = j' ∧ ∀ k', k' < k → way t.mask h' k' ∈ (t.put j).1.place.toList := fun ⟨k, e, z⟩ => ⟨k, e, fun k' l => more _ (z k' l)⟩
  refine ⟨rfl, l2, ⟨T.mw, ris_insert T.ris fun e => nj (List.mem_of_getElem? ((Array.getElem?_toList).trans e)), put_dm T.dm j, ?_, fun x hx => ?_, fun i h' j' e1 e2 => ?_⟩, rfl, rfl, ?_⟩
  · rw [len_ins _ l2, sz]
  · rw [pl] at hx
    rcases mem_ins.mp hx with rfl | hx
    · rw [← ej]
      exact way_in _ _ _
    · exact T.bd x hx
  · rw [tins_get hs l2] at e1
    rw [pl, tins_get _ l1] at e2
    rcases Nat.lt_trichotomy i (SetTable.below t.place j) with c | c | c
    · rw [if_pos c] at e1 e2
      exact wider (T.reach i h' j' e1 e2)
    · rw [if_neg (by omega), if_pos c] at e1 e2
      cases e1
      cases e2
      exact wider ⟨K, ej, up⟩
    · rw [if_neg (by omega), if_neg (by omega)] at e1 e2
      exact wider (T.reach (i - 1) h' j' e1 e2)
  · show (t.put j).1.place.size + (t.put j).1.dummies.size = hs.length + 1
    rw [sz, put_dm T.dm j]
    rfl
theorem own_step {m : Nat} (W : MaskW m) {done : List Int} {owner : Array (Option Nat)} (O : Own m done owner) (l : done.length ≤ m) (h : Int) :
    ∃ j, stepF m (some (owner, done.length)) h = some (owner.setIfInBounds j (some done.length), done.length + 1) ∧ Own m (done ++ [h]) (owner.setIfInBounds j (some done.length)) := by
  obtain ⟨ps, lp, cover⟩ := O.ps
  obtain ⟨f, lf, nf⟩ := st_missing ps (m + 1) (by omega)
  have ff : oAt owner f = none := Classical.byContradiction fun c => nf (cover f (Nat.le_of_lt_succ lf) c)
  obtain ⟨n, ln, en⟩ := W.meets h f (Nat.le_of_lt_succ lf)
  have at_ : way m h (L2.off m (SetTable.bits h % (m + 1)) (SetTable.bits h) n) = f := by
    show (nth m _ _).j = f
    rw [nth_off, itL_run]
    exact en
  obtain ⟨K, lK, eK, bK⟩ := way_first (p := fun k => oAt owner (way m h k) = none) (k := L2.off m (SetTable.bits h % (m + 1)) (SetTable.bits h) n) (by rw [at_]; exact ff)
  have found := free_spec m owner (SetTable.turns m) n (SetTable.bits h % (m + 1)) (SetTable.bits h) K (by unfold SetTable.turns; omega) lK (fun k lk => by
    cases c : oAt owner (nth m (runAt m (SetTable.bits h % (m + 1)) (SetTable.bits h)) k).j with
    | none => exact absurd c (bK k lk)
    | some _ => rfl) (by rw [show oAt owner (nth m (runAt m (SetTable.bits h % (m + 1)) (SetTable.bits h)) K).j = none from eK]; rfl)
  have inM := way_in m h K
  generalize hj : way m h K = j at inM eK
  rw [show (nth m (runAt m (SetTable.bits h % (m + 1)) (SetTable.bits h)) K).j = j from hj] at found
  have js : j < owner.size := by
    rw [O.sz]
    exact Nat.lt_succ_of_le inM
  have self := oAt_set_self (some done.length) js
  have stays : ∀ {i : Nat}, oAt owner i ≠ none → oAt (owner.setIfInBounds j (some done.length)) i = oAt owner i := fun {i} hi => oAt_set_ne _ fun e => hi (by rw [e]; exact eK)
  have full : ∀ {i : Nat}, oAt owner i ≠ none → oAt (owner.setIfInBounds j (some done.length)) i ≠ none := fun {i} hi => by
    rw [stays hi]
    exact hi
  refine ⟨j, stepF_some found, ⟨by rw [Array.size_setIfInBounds]; exact O.sz, fun i k hi e => ?_, fun k hk => ?_, ⟨j :: ps, by simp [lp], fun i hi e => ?_⟩⟩⟩
  · by_cases c : i = j
    · subst c
      rw [self] at e
      cases e
      exact ⟨h, K, by simp, hj, fun k' l' => full (bK k' l')⟩
    · rw [oAt_set_ne _ c] at e
      obtain ⟨h', K', a, b, d⟩ := O.at_ i k hi e
      exact ⟨h', K', (List.getElem?_append_left (List.getElem?_eq_some_iff.mp a).1).trans a, b, fun k' l' => full (d k' l')⟩
  · by_cases c : k < done.length
    · obtain ⟨i, hi, e⟩ := O.all k c
      exact ⟨i, hi, (stays (by rw [e]; exact Option.some_ne_none k)).trans e⟩
    · have ek : k = done.length := by
        rw [List.length_append, List.length_singleton] at hk
        omega
      exact ⟨j, inM, by rw [self, ek]⟩
  · by_cases c : i = j
    · exact List.mem_cons.mpr (.inl c)
    · rw [oAt_set_ne _ c] at e
      exact List.mem_cons_of_mem _ (cover i hi e)
theorem own_all {m : Nat} (W : MaskW m) : ∀ (rest done : List Int) (owner : Array (Option Nat)), Own m done owner → done.length + rest.length ≤ m → ∃ owner', rest.foldl (stepF m) (some (owner, done.length)) = some (owner', (done ++ rest).length) ∧ Own m (done ++ rest) owner'
  | [], done, owner, O, _ => ⟨owner, by rw [List.append_nil]; rfl, by rw [List.append_nil]; exact O⟩
  | h :: rest, done, owner, O, l => by
    rw [List.length_cons] at l
    obtain ⟨j, e, O1⟩ := own_step W O (by omega) h
    have e1 : done.length + 1 = (done ++ [h]).length := by simp
    obtain ⟨o2, f, O2⟩ := own_all W rest (done ++ [h]) _ O1 (by rw [← e1]; omega)
    rw [List.append_assoc] at f O2
    refine ⟨o2, ?_, O2⟩
    rw [List.foldl_cons, e, e1]
    exact f
theorem relaid_w (t : SetTable) {hs : Array Int} {wanted M : Nat} (hw : SetTable.sizeAbove wanted - 1 = M) (W : MaskW M) (l : hs.size ≤ M) :
    ∃ t' order, t.relaid hs wanted = some (t', order) ∧ order.toList.Perm (List.range hs.size) ∧ TabW t' (order.toList.map fun i => hs.getD i 0) ∧ t'.mask = M ∧ t'.led = t.led := by
  obtain ⟨owner, f, O⟩ := own_all W hs.toList [] _ (Own.init M) (by rw [List.length_nil, Array.length_toList, Nat.zero_add]; exact l)
  rw [List.nil_append] at f O
  have lay : SetTable.layClean M hs = some owner := by
    rw [layClean_eq]
    exact congrArg (Option.map (·.1)) f
  have ris := ris_live (fun j => owner.getD j none) (List.range (M + 1)) (by
    unfold Ris
    first | exact List.pairwise_lt_range | exact List.pairwise_lt_range _)
  have r1 : Ris ((liveOf M owner).map (·.1)) := ris.1
  have r2 : ∀ x ∈ (liveOf M owner).map (·.1), x ∈ List.range (M + 1) := ris.2
  obtain ⟨ps, lp, cover⟩ := O.ps
  have seat : ∀ k, k < hs.size → ∃ j, (j, k) ∈ liveOf M owner := fun k hk => by
    obtain ⟨j, a, b⟩ := O.all k (by rw [Array.length_toList]; exact hk)
    exact ⟨j, (mem_live O.sz).mpr ⟨a, b⟩⟩
  have nd : ((liveOf M owner).map (·.1)).Nodup := List.Pairwise.imp (fun h => Nat.ne_of_lt h) r1
  have len : (liveOf M owner).length = hs.size := by
    have hz : hs.toList.length = hs.size := Array.length_toList
    have up := nat_nodup_len ((liveOf M owner).map (·.1)) ps nd fun x hx => by
      obtain ⟨⟨y, k⟩, hq, e⟩ := List.mem_map.mp hx
      obtain ⟨a, b⟩ := (mem_live O.sz).mp hq
      rw [← e]
      exact cover y a (by rw [b]; exact Option.some_ne_none k)
    have dn := nat_nodup_len (List.range hs.size) ((liveOf M owner).map (·.2)) List.nodup_range fun k hk => by
      obtain ⟨j, m⟩ := seat k (List.mem_range.mp hk)
      exact List.mem_map.mpr ⟨(j, k), m, rfl⟩
    rw [List.length_map, lp] at up
    rw [List.length_map, List.length_range] at dn
    omega
  refine ⟨tabOf t M owner, ((liveOf M owner).map (·.2)).toArray, by rw [relaid_eq, hw, lay]; rfl, ?_, ⟨W, r1, rfl, ?_, fun x hx => Nat.le_of_lt_succ (List.mem_range.mp (r2 x hx)), fun i h j e1 e2 => ?_⟩, rfl, rfl⟩
  · refine perm_range hs.size _ (by show ((liveOf M owner).map (·.2)).length = _; rw [List.length_map]; exact len) fun k hk => ?_
    obtain ⟨j, m⟩ := seat k hk
    exact List.mem_map.mpr ⟨(j, k), m, rfl⟩
  · show ((liveOf M owner).map (·.1)).toArray.size = (((liveOf M owner).map (·.2)).map fun i => hs.getD i 0).length
    simp
  · have e1' : (((liveOf M owner).map (·.2)).map fun i => hs.getD i 0)[i]? = some h := e1
    have e2' : ((liveOf M owner).map (·.1))[i]? = some j := e2
    rw [List.map_map, List.getElem?_map] at e1'
    rw [List.getElem?_map] at e2'
    obtain ⟨⟨y, k⟩, hq, ey⟩ := Option.map_eq_some_iff.mp e2'
    rw [hq] at e1'
    cases ey
    have eh : hs.getD k 0 = h := Option.some.inj e1'
    obtain ⟨a, b⟩ := (mem_live O.sz).mp (List.mem_of_getElem? hq)
    obtain ⟨h0, K, c1, c2, c3⟩ := O.at_ y k a b
    have e0 : h0 = h := by
      rw [← eh, Array.getD_eq_getD_getElem?, ← Array.getElem?_toList, c1]
      rfl
    rw [e0] at c2 c3
    refine ⟨K, c2, fun k' l' => ?_⟩
    show way M h k' ∈ (liveOf M owner).map (·.1)
    obtain ⟨k2, e3⟩ := Option.ne_none_iff_exists'.mp (c3 k' l')
    exact List.mem_map.mpr ⟨(way M h k', k2), (mem_live O.sz).mpr ⟨way_in _ _ _, e3⟩, rfl⟩
end My
namespace My
open PySem PySem.Spec PyProof.Rows L2
def hN (w : World) (k : NestedKey) : Int := k.hash w
def IsN (h : Heap) (k : NestedKey) (b : Addr) : Prop := NestedIs h k (.ref b) ∧ k.depth ≤ 8
section
variable {P : Program} {w : World} {A : Around} {E : Value → Shared → Prop} {s : Shared}
def SizeW (m : Nat) : Prop := m = 7 ∨ m = 31 ∨ m = 127 ∨ m = 511 ∨ m = 2047 ∨ m = 8191
theorem SizeW.mw {m : Nat} (h : SizeW m) : MaskW m := by
  rcases h with e | e | e | e | e | e <;> subst e
  · exact mw7
  · exact mw31
  · exact mw127
  · exact mw511
  · exact mw2047
  · exact mw8191
theorem SizeW.le {m : Nat} (h : SizeW m) : m ≤ 8191 := by
  rcases h with e | e | e | e | e | e <;> omega
theorem size_308 : SetTable.sizeAbove (SetTable.grown 77) = 512 := by decide +kernel
theorem size_1228 : SetTable.sizeAbove (SetTable.grown 307) = 2048 := by decide +kernel
theorem size_4916 : SetTable.sizeAbove (SetTable.grown 1229) = 8192 := by decide +kernel
theorem probe_w {t : SetTable} {hs : List Int} (T : TabW t hs) {g : Nat → Int} {h : Int} {c K : Nat} (hc : c ≤ K) (hf : K < 10 * SetTable.turns t.mask) (hK : way t.mask h K ∉ t.place.toList)
    (hin : ∀ q, q < K → way t.mask h q ∈ t.place.toList) :
    (∃ q i, c ≤ q ∧ q < K ∧ t.place.toList[i]? = some (way t.mask h q) ∧ g i = h ∧ (∀ q' i', c ≤ q' → q' < q → t.place.toList[i']? = some (way t.mask h q') → g i' ≠ h) ∧
      t.probe g h (stn t.mask h c) = some (.candidate (way t.mask h q) i (stn t.mask h (q + 1)))) ∨
    ((∀ q' i', c ≤ q' → q' < K → t.place.toList[i']? = some (way t.mask h q') → g i' ≠ h) ∧ t.probe g h (stn t.mask h c) = some (.empty (way t.mask h K) none)) := by
  have sh : ∀ q, nth t.mask (stn t.mask h c) q = stn t.mask h (c + q) := fun q => (nth_add t.mask c _ q).symm
  have shj : ∀ q, (nth t.mask (stn t.mask h c) q).j = way t.mask h (c + q) := fun q => congrArg SetTable.Probe.j (sh q)
  have cK : c + (K - c) = K := by omega
  have fwd : ∀ {q' : Nat}, c ≤ q' → way t.mask h q' = (nth t.mask (stn t.mask h c) (q' - c)).j := fun {q'} l => by rw [shj, show c + (q' - c) = q' by omega]
  rcases go_spec t T.ris T.dm g h (10 * SetTable.turns t.mask) (K - c) (stn t.mask h c) (step_dummy _ _ _) (by omega) (fun q hq => by rw [shj]; exact hin _ (by omega)) (by rw [shj, cK]; exact hK) with ⟨q, i, hq, hi, hg, hno, e⟩ | ⟨hno, e⟩
  · refine .inl ⟨c + q, i, by omega, by omega, by rw [← shj]; exact hi, hg, fun q' i' l1 l2 hp => hno (q' - c) i' (by omega) (by rw [← fwd l1]; exact hp), ?_⟩
    rw [← shj, show c + q + 1 = c + (q + 1) by omega, ← sh]
    exact e
  · refine .inr ⟨fun q' i' l1 l2 hp => hno (q' - c) i' (by omega) (by rw [← fwd l1]; exact hp), ?_⟩
    have ek : way t.mask h K = (nth t.mask (stn t.mask h c) (K - c)).j := fwd hc
    rw [ek]
    exact e
theorem quiet_n {k : NestedKey} {a : Addr} {Q : Bool → Shared → Prop} (hk : IsN s.heap k a) (h : Q true s) : wpAny (model P w) A (eqIsQuiet 8 (.ref a)) Q E s := quiet_key k _ 8 s hk.1 hk.2 A E Q h
theorem eqBool_n {x y : NestedKey} {a b : Addr} {Q : Bool → Shared → Prop} (hu : A.units + 8 < cLine) (hx : IsN s.heap x a) (hy : IsN s.heap y b) (h : Q (decide (x = y)) s) : wpAny (model P w) A (eqBool (.ref a) (.ref b)) Q E s :=
  (nestedKind P w).eqBool hu hx hy h
def OfAat (P : Program) (w : World) (n : Nat) (s : Shared) (v : Value) : Prop := ∀ (A : Around) (E : Value → Shared → Prop) (Q : Bool → Shared → Prop), Q false s → wpAny (model P w) A (ofAClassStatement n v) Q E s
def Hbvat (P : Program) (w : World) (n : Nat) (s : Shared) (v : Value) : Prop := ∀ (A : Around) (E : Value → Shared → Prop) (Q : Bool → Shared → Prop), (∀ c, Q c s) → wpAny (model P w) A (hashByValue n v) Q E s
theorem OfAat.scan {n : Nat} {v : Value} (h : v.scannable = true) : OfAat P w n s v := fun A E Q q => by
  rw [ofA_scan h]
  exact wpAny_pure q
theorem Hbvat.scan {n : Nat} {v : Value} (h : v.scannable = true) : Hbvat P w n s v := fun A E Q q => by
  obtain ⟨b, e⟩ := hbv_scan h n
  rw [e]
  exact wpAny_pure (q b)
theorem OfAat.tuple {n : Nat} {a : Addr} {o : Obj} {vs : Array Value} {m : Nat} (ho : s.heap.get? a = some o) (hc : o.cls = .type "tuple") (hd : o.data = .seq vs m) (hq : ∀ v ∈ vs.toList, OfAat P w n s v) : OfAat P w (n + 1) s (.ref a) := fun A E Q h => by
  have ty : s.TypeIs (.ref a) "tuple" := ⟨o, ho, hc⟩
  unfold ofAClassStatement
  refine wpAny_bind (wpAny_typeOf ty ?_)
  dsimp only
  have e : (("tuple" : String) == "tuple") = true := by decide
  simp only [e, if_true, Bool.not_true, Bool.false_eq_true, if_false]
  try refine wpAny_bind (wpAny_pure ?_)
  try simp only [Bool.not_true, Bool.false_eq_true, if_false]
  refine wpAny_bind (m := seqItems? (.ref a)) (wpAny_seqItems ho hd ?_)
  dsimp only
  refine wpAny_bind ?_
  rw [← Array.forIn_toList]
  refine wpAny_forIn_list _ (fun left r z => z = s ∧ r.1 = none ∧ ∀ v ∈ left, OfAat P w n s v) _ ?_ ?_ _ _ ⟨rfl, rfl, hq⟩
  · rintro v left r z ⟨rfl, hr, hall⟩
    refine wpAny_bind (hall v List.mem_cons_self _ _ _ ?_)
    simp only [Bool.false_eq_true, if_false]
    exact wpAny_pure ⟨rfl, rfl, fun u hu => hall u (List.mem_cons_of_mem _ hu)⟩
  · rintro ⟨r, _⟩ z ⟨rfl, hr, _⟩
    obtain rfl : r = none := hr
    exact wpAny_pure h
theorem Hbvat.tuple {n : Nat} {a : Addr} {o : Obj} {vs : Array Value} {m : Nat} (ho : s.heap.get? a = some o) (hc : o.cls = .type "tuple") (hd : o.data = .seq vs m) (hq : ∀ v ∈ vs.toList, Hbvat P w n s v) : Hbvat P w (n + 1) s (.ref a) := fun A E Q h => by
  have ty : s.TypeIs (.ref a) "tuple" := ⟨o, ho, hc⟩
  unfold hashByValue
  refine wpAny_bind (wpAny_specialOf ty F.slot_tuple_hash.lookup ?_)
  refine wpAny_bind (m := seqItems? (.ref a)) (wpAny_seqItems ho hd ?_)
  refine wpAny_bind ?_
  show wpAny _ _ (forIn vs _ _) _ _ s
  rw [← Array.forIn_toList]
  refine wpAny_forIn_list _ (fun left r z => z = s ∧ (r.1 = none ∨ ∃ c, r.1 = some c) ∧ ∀ v ∈ left, Hbvat P w n s v) _ ?_ ?_ _ _ ⟨rfl, .inl rfl, hq⟩
  · rintro v left r z ⟨rfl, _, hall⟩
    refine wpAny_bind (hall v List.mem_cons_self _ _ _ fun c => ?_)
    cases c with
    | true =>
      simp only [Bool.not_true, Bool.false_eq_true, if_false]
      exact wpAny_pure ⟨rfl, .inl rfl, fun u hu => hall u (List.mem_cons_of_mem _ hu)⟩
    | false =>
      simp only [Bool.not_false, if_true]
      exact wpAny_pure (wpAny_pure (h _))
  · rintro ⟨r, _⟩ z ⟨rfl, hr, _⟩
    rcases hr with hr | ⟨c, hr⟩
    · obtain rfl : r = none := hr
      exact wpAny_pure (h _)
    · obtain rfl : r = some c := hr
      exact wpAny_pure (h _)
mutual
theorem ofA_key : ∀ (k : NestedKey) (v : Value) (n : Nat), NestedIs s.heap k v → k.depth ≤ n → OfAat P w n s v
  | .none, _, n, x, _ => by cases x; exact .scan rfl
  | .num i, _, n, x, _ => by cases x <;> exact .scan rfl
  | .text y, _, n, x, _ => by cases x; exact .scan rfl
  | .tup ks, _, n, x, hn => by
    cases x with
    | tup hg hc hd hk =>
      simp only [NestedKey.depth] at hn
      cases n with
      | zero => omega
      | succ n => exact .tuple hg hc hd (ofA_keys ks _ n hk (by omega))
theorem ofA_keys : ∀ (ks : List NestedKey) (vs : List Value) (n : Nat), NestedAll s.heap ks vs → NestedKey.depthAll ks ≤ n → ∀ v ∈ vs, OfAat P w n s v
  | [], _, n, x, _, v, hv => by cases x; cases hv
  | k :: ks, _, n, x, hn, v, hv => by
    cases x with
    | cons x1 x2 =>
      simp only [NestedKey.depthAll] at hn
      rcases List.mem_cons.mp hv with e | hv
      · rw [e]; exact ofA_key k _ n x1 (by omega)
      · exact ofA_keys ks _ n x2 (by omega) v hv
end
mutual
theorem hbv_key : ∀ (k : NestedKey) (v : Value) (n : Nat), NestedIs s.heap k v → k.depth ≤ n → Hbvat P w n s v
  | .none, _, n, x, _ => by cases x; exact .scan rfl
  | .num i, _, n, x, _ => by cases x <;> exact .scan rfl
  | .text y, _, n, x, _ => by cases x; exact .scan rfl
  | .tup ks, _, n, x, hn => by
    cases x with
    | tup hg hc hd hk =>
      simp only [NestedKey.depth] at hn
      cases n with
      | zero => omega
      | succ n => exact .tuple hg hc hd (hbv_keys ks _ n hk (by omega))
theorem hbv_keys : ∀ (ks : List NestedKey) (vs : List Value) (n : Nat), NestedAll s.heap ks vs → NestedKey.depthAll ks ≤ n → ∀ v ∈ vs, Hbvat P w n s v
  | [], _, n, x, _, v, hv => by cases x; cases hv
  | k :: ks, _, n, x, hn, v, hv => by
    cases x with
    | cons x1 x2 =>
      simp only [NestedKey.depthAll] at hn
      rcases List.mem_cons.mp hv with e | hv
      · rw [e]; exact hbv_key k _ n x1 (by omega)
      · exact hbv_keys ks _ n x2 (by omega) v hv
end
theorem ofA_n {k : NestedKey} {b : Addr} {Q : Bool → Shared → Prop} (hk : IsN s.heap k b) (h : Q false s) : wpAny (model P w) A (ofAClassStatement 8 (.ref b)) Q E s := ofA_key k _ 8 hk.1 hk.2 A E Q h
theorem hbv_n {k : NestedKey} {b : Addr} {Q : Bool → Shared → Prop} (hk : IsN s.heap k b) (h : ∀ c, Q c s) : wpAny (model P w) A (hashByValue 8 (.ref b)) Q E s := hbv_key k _ 8 hk.1 hk.2 A E Q h
theorem unseenN {k : NestedKey} {b : Addr} {Q : Bool → Shared → Prop} (hk : IsN s.heap k b) {ys : List Value} (hy : ∀ y ∈ ys, ∃ k' c, y = Value.ref c ∧ IsN s.heap k' c) (h : Q false s) :
    wpAny (model P w) A (searchCouldBeSeen (.ref b) ys) Q E s := by
  unfold searchCouldBeSeen
  refine wpAny_bind (wpAny_forIn_list _ (fun left r z => z = s ∧ r.1 = none ∧ ∀ y ∈ left, ∃ k' c, y = Value.ref c ∧ IsN s.heap k' c) _ ?_ ?_ _ _ ⟨rfl, rfl, hy⟩)
  · rintro v left r z ⟨rfl, _, hall⟩
    obtain ⟨k', c, rfl, hc⟩ := hall v List.mem_cons_self
    have next : ∀ y ∈ left, ∃ k' c, y = Value.ref c ∧ IsN z.heap k' c := fun u hu => hall u (List.mem_cons_of_mem _ hu)
    dsimp only
    by_cases hv : (b == c || (carriedByValue (.ref b) && carriedByValue (.ref c))) = true
    · exact wp_if_pos hv (wpAny_pure ⟨rfl, rfl, next⟩)
    · refine wp_if_neg hv (wpAny_bind (quiet_n hk ?_))
      simp only [Bool.not_true, Bool.false_eq_true, if_false]
      refine wpAny_bind (quiet_n hc ?_)
      simp only [Bool.not_true, Bool.false_eq_true, if_false]
      refine wpAny_bind (ofA_n hk ?_)
      simp only [Bool.false_eq_true, if_false]
      refine wpAny_bind (ofA_n hc ?_)
      simp only [Bool.false_eq_true, if_false]
      exact wpAny_pure ⟨rfl, rfl, next⟩
  · rintro ⟨r, _⟩ z ⟨rfl, hr, _⟩
    obtain rfl : r = none := hr
    exact wpAny_pure h
def rowsN (w : World) (L : List (Addr × NestedKey)) : List (Int × Value) := L.map fun p => (hN w p.2, .ref p.1)
structure TabN (w : World) (h : Heap) (a : Addr) (L : List (Addr × NestedKey)) (es : Array (Int × Value)) (ep : Nat) (t : SetTable) : Prop where
  ob : ∃ o, h.get? a = some o ∧ o.ExactSet ∧ o.data = .set es ep t
  rw_ : es.toList = rowsN w L
  msk : SizeW t.mask
  tab : TabW t (L.map fun p => hN w p.2)
  nd : (L.map (·.2)).Nodup
  led : w.params.followText "set-order" = true ∨ t.led = true
  room : L.length * 5 < t.mask * 3
  few : L.length < 4000
variable {a : Addr} {L : List (Addr × NestedKey)} {es : Array (Int × Value)} {ep : Nat} {t : SetTable}
theorem TabN.count {h : Heap} (R : TabN w h a L es ep t) : es.size = L.length := by
  rw [← Array.length_toList, R.rw_]
  exact List.length_map ..
theorem TabN.slots {h : Heap} (R : TabN w h a L es ep t) : t.place.toList.length = L.length := by
  rw [Array.length_toList, R.tab.sz, List.length_map]
theorem TabN.fits {h : Heap} (R : TabN w h a L es ep t) : t.fits es.size = true := by
  have h1 := R.slots
  rw [Array.length_toList] at h1
  have h2 := R.count
  have h3 := R.room
  unfold SetTable.fits SetTable.fill
  rw [R.tab.dm]
  simp
  omega
theorem TabN.odd {h : Heap} (R : TabN w h a L es ep t) : ¬ t.gaveWay = true := by
  unfold SetTable.gaveWay
  rw [R.tab.mw.odd]
  decide
theorem TabN.at_ {h : Heap} (R : TabN w h a L es ep t) {i : Nat} {p : Addr × NestedKey} (e : L[i]? = some p) : es[i]? = some (hN w p.2, .ref p.1) := by
  rw [← Array.getElem?_toList, R.rw_]
  show (L.map _)[i]? = _
  rw [List.getElem?_map, e]
  rfl
def AnsN (w : World) (L : List (Addr × NestedKey)) (t : SetTable) (k : NestedKey) (Q : SetFound → Shared → Prop) (s : Shared) : Prop :=
  (k ∈ L.map (·.2) → Q (.there none) s) ∧
  (k ∉ L.map (·.2) → ∀ n, way t.mask (hN w k) n ∉ t.place.toList → (∀ q, q < n → way t.mask (hN w k) q ∈ t.place.toList) → Q (.free (way t.mask (hN w k) n) false) s)
theorem search_goN (R : TabN w s.heap a L es ep t) (tup : ∀ p ∈ L, IsN s.heap p.2 p.1) {x : Addr} {k : NestedKey} (hx : IsN s.heap k x) (hu : A.units + 8 < cLine) {n : Nat} (hf : n < 10 * SetTable.turns t.mask)
    (hK : way t.mask (hN w k) n ∉ t.place.toList) (hin : ∀ q, q < n → way t.mask (hN w k) q ∈ t.place.toList) {Q : SetFound → Shared → Prop} (hQ : AnsN w L t k Q s) :
    ∀ (f c : Nat) (st : Option SetTable.Probe), st.getD (t.probeStart (hN w k)) = stn t.mask (hN w k) c → c ≤ n → n - c < f →
      (∀ (i : Nat) p, L[i]? = some p → p.2 = k → ∃ q, c ≤ q ∧ q < n ∧ t.place.toList[i]? = some (way t.mask (hN w k) q)) →
      wpAny (model P w) A (setSearchFrom a (.ref x) (hN w k) true f st) Q E s
  | 0, _, _, _, _, hlt, _ => absurd hlt (Nat.not_lt_zero _)
  | f + 1, c, st, hst, hc, hlt, hre => by
    obtain ⟨o, ho, hex, hd⟩ := R.ob
    have hash_at : ∀ (i : Nat) (p : Addr × NestedKey), L[i]? = some p → (es[i]?.map fun e : Int × Value => e.1).getD 0 = hN w p.2 := fun i p e => by
      rw [R.at_ e]
      rfl
    have same_hash : ∀ {i0 : Nat} {p0 : Addr × NestedKey}, L[i0]? = some p0 → p0.2 = k → (es[i0]?.map fun e : Int × Value => e.1).getD 0 = hN w k := fun h0 e0 => by rw [hash_at _ _ h0, e0]
    rw [setSearchFrom_succ]
    refine wpAny_bind (wpAny_setState_of ho hd R.fits ?_)
    dsimp only
    refine wp_if_neg R.odd ?_
    try refine wpAny_bind (wpAny_pure ?_)
    rw [hst]
    rcases probe_w (g := fun i => (es[i]?.map fun e : Int × Value => e.1).getD 0) R.tab hc hf hK hin with ⟨q, i, l1, l2, hi, hg, hno, e⟩ | ⟨hno, e⟩
    · rw [e]
      dsimp only
      have il : i < L.length := by
        rw [← R.slots]
        exact (List.getElem?_eq_some_iff.mp hi).1
      obtain ⟨p, hp⟩ : ∃ p, L[i]? = some p := ⟨L[i], List.getElem?_eq_getElem il⟩
      have pm : p ∈ L := List.mem_of_getElem? hp
      have live : t.slot (way t.mask (hN w k) q) = .live i := slot_live R.tab.ris hi
      have on : wpAny (model P w) A (searchRest a (.ref x) (hN w k) true f es t (way t.mask (hN w k) q) i (stn t.mask (hN w k) (q + 1))) Q E s := by
        unfold searchRest
        rw [R.at_ hp]
        dsimp only
        refine wpAny_bind (wpAny_holding (eqBool_n hu (tup p pm) hx (wpAny_bind (wpAny_setState_of ho hd R.fits ?_))))
        dsimp only
        by_cases pk : p.2 = k
        · exact wp_if_pos (by rw [decide_eq_true pk]; rfl) (wpAny_pure (hQ.1 (List.mem_map.mpr ⟨p, pm, pk⟩)))
        · refine wp_if_neg (by rw [decide_eq_false pk]; decide) ?_
          try refine wpAny_bind (wpAny_pure ?_)
          rw [sameMem]
          dsimp only
          simp only [if_true, live, R.at_ hp]
          refine wpAny_bind (wpAny_isSame_ref_self (wpAny_bind (wpAny_pure ?_)))
          simp only [if_true]
          refine wp_if_neg (by rw [decide_eq_false pk]; decide) (search_goN R tup hx hu hf hK hin hQ f (q + 1) _ rfl (by omega) (by omega) fun i0 p0 h0 e0 => ?_)
          obtain ⟨q0, m1, m2, m3⟩ := hre i0 p0 h0 e0
          refine ⟨q0, Nat.lt_of_not_le fun le => ?_, m2, m3⟩
          rcases Nat.lt_or_eq_of_le le with lt | rfl
          · exact hno q0 i0 m1 lt m3 (same_hash h0 e0)
          · have two := (slot_live R.tab.ris m3).symm.trans live
            injection two with two
            rw [two, hp] at h0
            exact pk ((congrArg Prod.snd (Option.some.inj h0)).trans e0)
      by_cases ld : t.led = true
      · refine wp_if_neg (by rw [ld]; decide) ?_
        try refine wpAny_bind (wpAny_pure ?_)
        exact on
      · refine wp_if_pos (by simp [ld]) (wpAny_bind (unseenN hx (fun y hy => ?_) ?_))
        · obtain ⟨r, hr, rfl⟩ := List.mem_map.mp hy
          have hr2 : r ∈ es.toList := by
            have : r ∈ es ∧ r.1 = hN w k := by simpa using hr
            simpa using this.1
          rw [R.rw_] at hr2
          obtain ⟨p2, m2, rfl⟩ := List.mem_map.mp hr2
          exact ⟨p2.2, p2.1, rfl, tup p2 m2⟩
        · refine wp_if_neg (by decide) ?_
          try refine wpAny_bind (wpAny_pure ?_)
          exact on
    · rw [e]
      dsimp only
      refine wpAny_pure (hQ.2 (fun hm => ?_) n hK hin)
      obtain ⟨p0, h0, e0⟩ := List.mem_map.mp hm
      obtain ⟨i0, hi0⟩ := List.getElem?_of_mem h0
      obtain ⟨q0, m1, m2, m3⟩ := hre i0 p0 hi0 e0
      exact hno q0 i0 m1 m2 m3 (same_hash hi0 e0)
theorem search_allN (R : TabN w s.heap a L es ep t) (tup : ∀ p ∈ L, IsN s.heap p.2 p.1) {x : Addr} {k : NestedKey} (hx : IsN s.heap k x) (hu : A.units + 8 < cLine) {Q : SetFound → Shared → Prop} (hQ : AnsN w L t k Q s) :
    wpAny (model P w) A (setSearch a (.ref x) (hN w k) true) Q E s := by
  have rm := R.room
  obtain ⟨n, hf, hK, hin⟩ := R.tab.first (by rw [List.length_map]; omega) (hN w k)
  have far : 10 * SetTable.turns t.mask ≤ 90150 := by
    have z := R.tab.mw.far
    unfold SetTable.turns
    omega
  unfold setSearch
  refine search_goN R tup hx hu hf hK hin hQ 100000 0 none rfl (Nat.zero_le _) (by omega) fun i p hp e => ?_
  have hi : (L.map fun p => hN w p.2)[i]? = some (hN w k) := by
    rw [List.getElem?_map, hp, ← e]
    rfl
  have il : i < t.place.toList.length := by
    rw [R.slots]
    exact (List.getElem?_eq_some_iff.mp hp).1
  obtain ⟨q, hq, eq⟩ := R.tab.before hK hi (List.getElem?_eq_getElem il)
  exact ⟨q, Nat.zero_le _, hq, by rw [List.getElem?_eq_getElem il, eq]⟩
theorem rowsN_at {es : Array (Int × Value)} (hr : es.toList = rowsN w L) (i : Nat) : es[i]? = (L[i]?).map fun p => (hN w p.2, Value.ref p.1) := by
  rw [← Array.getElem?_toList, hr]
  exact List.getElem?_map ..
theorem by_orderN {es : Array (Int × Value)} (hr : es.toList = rowsN w L) {order : Array Nat} (hp : order.toList.Perm (List.range L.length)) :
    ∃ L2 : List (Addr × NestedKey), (order.filterMap (es[·]?)).toList = rowsN w L2 ∧ L2.Perm L ∧ L2.map (fun p => hN w p.2) = order.toList.map fun i => (es.map fun e : Int × Value => e.1).getD i 0 := by
  refine ⟨order.toList.filterMap (fun i => L[i]?), ?_, ?_, ?_⟩
  · have e : (fun i : Nat => es[i]?) = fun i : Nat => (L[i]?).map fun p : Addr × NestedKey => (hN w p.2, Value.ref p.1) := funext (rowsN_at hr)
    rw [Array.toList_filterMap, e]
    unfold rowsN
    rw [List.map_filterMap]
  · have h1 := hp.filterMap fun i => L[i]?
    rw [range_back L L.length (Nat.le_refl _), List.take_length] at h1
    exact h1
  · have each : ∀ l : List Nat, (∀ i ∈ l, i < L.length) → (l.filterMap fun i => L[i]?).map (fun p => hN w p.2) = l.map fun i => (es.map fun e : Int × Value => e.1).getD i 0 := by
      intro l
      induction l with
      | nil => intro _; rfl
      | cons i l ih =>
        intro h
        have hi := h i List.mem_cons_self
        rw [List.filterMap_cons_some (List.getElem?_eq_getElem hi), List.map_cons, List.map_cons, ih fun j hj => h j (List.mem_cons_of_mem _ hj)]
        have q := rowsN_at hr i
        rw [List.getElem?_eq_getElem hi] at q
        congr 1
        simp [Array.getD_eq_getD_getElem?, q]
    exact each _ fun i hi => List.mem_range.mp (hp.mem_iff.mp hi)
theorem relay_tabN {o : Obj} (ho : s.heap.get? a = some o) (hex : o.ExactSet) (hd : o.data = .set es ep t) (hr : es.toList = rowsN w L) (hsz : t.place.size = es.size) (hdm : t.dummies = #[]) (hfl : es.size ≤ t.mask)
    (nd : (L.map (·.2)).Nodup) (led : w.params.followText "set-order" = true ∨ t.led = true) (few : L.length < 4000) {wanted M : Nat} (hw : SetTable.sizeAbove wanted - 1 = M) (hM : SizeW M) (hw2 : SetTable.sizeAbove wanted ≤ 8192)
    (hn : L.length * 5 < M * 3) {Q : Unit → Shared → Prop} (hQ : ∀ h' L' es' ep' t', Heap.SameBut a s.heap h' → TabN w h' a L' es' ep' t' → L'.Perm L → Q () { s with heap := h' }) : wpAny (model P w) A (setRelay a wanted) Q E s := by
  have cnt : es.size = L.length := by
    rw [← Array.length_toList, hr]
    exact List.length_map ..
  have fit : t.fits es.size = true := by
    unfold SetTable.fits SetTable.fill
    rw [hdm]
    simp
    omega
  obtain ⟨t', order, e, hp, T, em, el⟩ := relaid_w t (hs := es.map fun e : Int × Value => e.1) (wanted := wanted) hw hM.mw (by rw [Array.size_map]; omega)
  rw [Array.size_map, cnt] at hp
  obtain ⟨L2, r1, r2, r3⟩ := by_orderN hr hp
  rw [← r3] at T
  have cnt2 : (order.filterMap (es[·]?)).size = es.size := by
    rw [← Array.length_toList, r1, cnt, ← r2.length_eq]
    exact List.length_map ..
  rw [setRelay_eq]
  refine wpAny_bind (wpAny_setState_of ho hd fit ?_)
  dsimp only
  refine wp_if_neg (by rw [sizeLine_eq]; omega) ?_
  try refine wpAny_bind (wpAny_pure ?_)
  rw [e]
  dsimp only
  refine wpAny_bind (wp_if_neg (by rw [cnt2]; simp) ?_)
  try refine wpAny_bind (wpAny_pure ?_)
  refine wpAny_pure ?_
  dsimp only
  refine wpAny_storeSet_of ho hd ?_ (by rw [cnt2, cnt, sizeLine_eq]; omega)
  exact hQ _ L2 _ _ t' (Heap.SameBut.update ..) ⟨⟨_, store_at ho hd, ⟨hex.1, hex.2.1, hex.2.2⟩, rfl⟩, r1, by rw [em]; exact hM, T, (r2.map (·.2)).nodup_iff.mpr nd, by rw [el]; exact led, by rw [r2.length_eq, em]; exact hn, by rw [r2.length_eq]; exact few⟩ r2
def PutN (w : World) (h h' : Heap) (a : Addr) (L : List (Addr × NestedKey)) (x : Addr) (k : NestedKey) (L' : List (Addr × NestedKey)) : Prop :=
  Heap.SameBut a h h' ∧ (∃ es ep t, TabN w h' a L' es ep t) ∧ (k ∈ L.map (·.2) → L' = L) ∧ (k ∉ L.map (·.2) → L'.Perm ((x, k) :: L))
theorem add_tabN (R : TabN w s.heap a L es ep t) (tup : ∀ p ∈ L, IsN s.heap p.2 p.1) {x : Addr} {k : NestedKey} (hx : IsN s.heap k x) (hu : A.units + 8 < cLine) (room : L.length + 1 < 4000) {Q : Bool → Shared → Prop}
    (hQ : ∀ b h' L', PutN w s.heap h' a L x k L' → Q b { s with heap := h' }) : wpAny (model P w) A (setAddHashed a (.ref x) (hN w k)) Q E s := by
  obtain ⟨o, ho, hex, hd⟩ := R.ob
  have cnt := R.count
  have rm := R.room
  unfold setAddHashed
  refine wpAny_holding ?_
  rw [show (100000 : Nat) = 99999 + 1 from rfl, setAddHashedIn_succ]
  refine wpAny_bind (wpAny_setState_of ho hd R.fits ?_)
  dsimp only
  refine wp_if_neg (by simp [byScan, Value.scannable]) ?_
  try refine wpAny_bind (wpAny_pure ?_)
  refine wpAny_bind (search_allN R tup hx hu ⟨fun hm => ?_, fun hm n hK hin => ?_⟩)
  · exact wpAny_pure (hQ false s.heap L ⟨Heap.SameBut.refl a s.heap, ⟨es, ep, t, R⟩, fun _ => rfl, fun z => absurd hm z⟩)
  · dsimp only
    refine wpAny_bind (wpAny_setState_of ho hd R.fits ?_)
    dsimp only
    obtain ⟨q1, q2, q3, q4, q5, q9⟩ := R.tab.put (h := hN w k) (K := n) rfl hK hin
    obtain ⟨i, ei⟩ : ∃ i, i = SetTable.below t.place (way t.mask (hN w k) n) := ⟨_, rfl⟩
    obtain ⟨L1, e1⟩ : ∃ L1, L1 = L.take i ++ (x, k) :: L.drop i := ⟨_, rfl⟩
    have pm : L1.Perm ((x, k) :: L) := by
      have z : (L.take i ++ (x, k) :: L.drop i).Perm ((x, k) :: (L.take i ++ L.drop i)) := List.perm_middle
      rw [List.take_append_drop] at z
      rw [e1]
      exact z
    have len1 : L1.length = L.length + 1 := pm.length_eq
    have hin1 : (SetTable.insertAt es (t.put (way t.mask (hN w k) n)).snd (hN w k, Value.ref x)).toList = rowsN w L1 := by
      rw [q1, ← ei, SetTable.toList_insertAt, R.rw_, e1]
      unfold rowsN
      rw [List.map_append, List.map_cons, List.map_take, List.map_drop]
    have hs1 : L1.map (fun p => hN w p.2) = (L.map fun p => hN w p.2).take i ++ hN w k :: (L.map fun p => hN w p.2).drop i := by
      rw [e1, List.map_append, List.map_cons, List.map_take, List.map_drop]
    rw [← ei, ← hs1] at q3
    rw [List.length_map] at q9
    have nd1 : (L1.map (·.2)).Nodup := (pm.map (·.2)).nodup_iff.mpr (List.nodup_cons.mpr ⟨hm, R.nd⟩)
    generalize SetTable.insertAt es (t.put (way t.mask (hN w k) n)).snd (hN w k, Value.ref x) = es1 at hin1 ⊢
    have cnt1 : es1.size = L.length + 1 := by
      rw [← Array.length_toList, hin1, ← len1]
      exact List.length_map ..
    have tail : ∀ t1 : SetTable, TabW t1 (L1.map fun p => hN w p.2) → t1.mask = t.mask → t1.led = t.led → t1.fill = L.length + 1 →
        wpAny (model P w) A (do
          storeSet a es1 t1
          if (!false && t1.tooFull) = true then do
            setRelay a (SetTable.grown (es.size + 1))
            pure true
          else pure true) Q E s := by
      intro t1 T1 m1 l1 f1
      refine wpAny_bind (wpAny_storeSet_of ho hd ?_ (by rw [cnt1, sizeLine_eq]; omega))
      have ho1 := store_at (es' := es1) (t' := t1) ho hd
      have sb : Heap.SameBut a s.heap (s.heap.update a (Obj.putSet es1 t1)) := Heap.SameBut.update ..
      have led1 : w.params.followText "set-order" = true ∨ t1.led = true := by rw [l1]; exact R.led
      by_cases full : t1.tooFull = true
      · refine wp_if_pos (by rw [full]; rfl) ?_
        have big : (L.length + 1) * 5 ≥ t1.mask * 3 := by
          have z := full
          unfold SetTable.tooFull at z
          rw [decide_eq_true_eq, f1] at z
          exact z
        have five : (t.mask = 7 ∧ L.length = 4) ∨ (t.mask = 31 ∧ L.length = 18) ∨ (t.mask = 127 ∧ L.length = 76) ∨ (t.mask = 511 ∧ L.length = 306) ∨ (t.mask = 2047 ∧ L.length = 1228) := by
          rcases R.msk with e | e | e | e | e | e <;> rw [m1, e] at big <;> rw [e] at rm
          · exact .inl ⟨e, by omega⟩
          · exact .inr (.inl ⟨e, by omega⟩)
          · exact .inr (.inr (.inl ⟨e, by omega⟩))
          · exact .inr (.inr (.inr (.inl ⟨e, by omega⟩)))
          · exact .inr (.inr (.inr (.inr ⟨e, by omega⟩)))
          · omega
        have sz1 : t1.place.size = es1.size := by rw [T1.sz, List.length_map, len1, cnt1]
        have go : ∀ M, SetTable.sizeAbove (SetTable.grown (L.length + 1)) = M + 1 → SizeW M → M ≤ 8191 → (L.length + 1) * 5 < M * 3 → wpAny (model P w) A (setRelay a (SetTable.grown (es.size + 1)))
            (fun _ z => wpAny (model P w) A (pure true) Q E z) E { s with heap := s.heap.update a (Obj.putSet es1 t1) } := fun M g1 g2 g3 g4 => by
          rw [cnt]
          refine relay_tabN (s := { s with heap := s.heap.update a (Obj.putSet es1 t1) }) ho1 ⟨hex.1, hex.2.1, hex.2.2⟩ rfl hin1 sz1 T1.dm (by rw [cnt1, m1]; omega) nd1 led1 (by rw [len1]; exact room) (M := M) (by omega) g2 (by omega) (by rw [len1]; exact g4) fun h2 L2 es2 ep2 t2 sb2 R2 pm2 => ?_
          exact wpAny_pure (hQ true h2 L2 ⟨sb.trans sb2, ⟨es2, ep2, t2, R2⟩, fun z => absurd z hm, fun _ => pm2.trans pm⟩)
        refine wpAny_bind ?_
        rcases five with ⟨_, e2⟩ | ⟨_, e2⟩ | ⟨_, e2⟩ | ⟨_, e2⟩ | ⟨_, e2⟩
        · exact go 31 (by rw [e2]; exact size_20) (.inr (.inl rfl)) (by decide) (by omega)
        · exact go 127 (by rw [e2]; exact size_76) (.inr (.inr (.inl rfl))) (by decide) (by omega)
        · exact go 511 (by rw [e2]; exact size_308) (.inr (.inr (.inr (.inl rfl)))) (by decide) (by omega)
        · exact go 2047 (by rw [e2]; exact size_1228) (.inr (.inr (.inr (.inr (.inl rfl))))) (by decide) (by omega)
        · exact go 8191 (by rw [e2]; exact size_4916) (.inr (.inr (.inr (.inr (.inr rfl))))) (by decide) (by omega)
      · refine wp_if_neg (by simp [full]) (wpAny_pure (hQ true _ L1 ⟨sb, ⟨es1, _, t1, ⟨_, ho1, ⟨hex.1, hex.2.1, hex.2.2⟩, rfl⟩, hin1, by rw [m1]; exact R.msk, T1, nd1, led1, ?_, by rw [len1]; exact room⟩, fun z => absurd z hm, fun _ => pm⟩))
        have z := full
        unfold SetTable.tooFull at z
        rw [decide_eq_true_eq, f1] at z
        rw [len1]
        omega
    generalize (t.put (way t.mask (hN w k) n)).fst = t1 at q3 q4 q5 q9 ⊢
    by_cases pl : t1.plain = true
    · refine wp_if_pos pl (wpAny_bind (hbv_n hx fun c => ?_))
      cases c with
      | true =>
        simp only [if_true]
        exact tail t1 q3 q4 q5 q9
      | false =>
        simp only [Bool.false_eq_true, if_false]
        exact tail _ (TabW.off q3) q4 q5 q9
    · refine wp_if_neg pl (wpAny_bind (wpAny_pure ?_))
      simp only [if_true]
      exact tail t1 q3 q4 q5 q9
end
end My
namespace My
open PySem PySem.Spec PyProof.Rows L2
open PySem.W (alike alikeAll dataLt keyToks keyToksAll dataLt_tuple dataLt_str dataLt_all_yes dataLt_all_no SortsAt AllAlike Sortable EachIs dataKind dataKind_some dataLe sortLe_total)
section
variable {h : Heap}
mutual
theorem reads_key : ∀ (k : NestedKey) (v : Value) (as : List Addr), Reads h v k.data as → as = [] ∧ NestedIs h k v
  | .none, _, _, x => by
    simp only [NestedKey.data] at x
    cases x
    exact ⟨rfl, .none⟩
  | .num i, _, _, x => by
    simp only [NestedKey.data] at x
    cases x
    exact ⟨rfl, .int _ _⟩
  | .text y, _, _, x => by
    simp only [NestedKey.data] at x
    cases x
    exact ⟨rfl, .text _ _⟩
  | .tup ks, _, _, x => by
    simp only [NestedKey.data] at x
    cases x with
    | tuple h1 h2 h3 h4 =>
      obtain ⟨e, n⟩ := reads_keys ks _ _ h4
      exact ⟨e, .tup h1 h2 h3 n⟩
theorem reads_keys : ∀ (ks : List NestedKey) (vs : List Value) (as : List Addr), ReadsAll h vs (NestedKey.datas ks) as → as = [] ∧ NestedAll h ks vs
  | [], _, _, x => by
    simp only [NestedKey.datas] at x
    cases x
    exact ⟨rfl, .nil⟩
  | k :: ks, _, _, x => by
    simp only [NestedKey.datas] at x
    cases x with
    | cons x1 x2 =>
      obtain ⟨e1, n1⟩ := reads_key k _ _ x1
      obtain ⟨e2, n2⟩ := reads_keys ks _ _ x2
      exact ⟨by rw [e1, e2]; rfl, .cons n1 n2⟩
end
end
structure EnN {α : Type} [DecidableEq α] (enc : α → PyData) (lt : α → α → Bool) : Prop where
  al : ∀ x y, alike (enc x) (enc y) = true
  eq : ∀ x y, PyData.eqv (enc x) (enc y) = decide (x = y)
  lt : ∀ x y, dataLt (enc x) (enc y) = lt x y
section
variable {α : Type} [DecidableEq α] {enc : α → PyData} {lt : α → α → Bool}
theorem EnN.toks (E : EnN enc lt) : ∀ xs ys : List α, PyProof.Rows.lexLt itemOrd (keyToksAll (xs.map enc)) (keyToksAll (ys.map enc)) = lexL lt xs ys
  | [], [] => by
    simp only [List.map_nil, keyToksAll]
    rfl
  | [], y :: ys => by
    simp only [List.map_nil, List.map_cons, keyToksAll]
    rfl
  | x :: xs, [] => by
    simp only [List.map_nil, List.map_cons, keyToksAll]
    rfl
  | x :: xs, y :: ys => by
    rw [List.map_cons, List.map_cons]
    have e := E.eq x y
    by_cases c : x = y
    · rw [decide_eq_true c] at e
      rw [dataLt_all_yes (E.al x y) e, E.toks xs ys]
      unfold lexL
      rw [if_pos c]
      cases xs <;> cases ys <;> rfl
    · rw [decide_eq_false c] at e
      rw [dataLt_all_no (E.al x y) e, E.lt]
      unfold lexL
      rw [if_neg c]
theorem EnN.alAll (E : EnN enc lt) : ∀ xs ys : List α, alikeAll (xs.map enc) (ys.map enc) = true
  | [], _ => by simp [alikeAll]
  | x :: xs, [] => by simp [alikeAll]
  | x :: xs, y :: ys => by
    rw [List.map_cons, List.map_cons]
    simp only [alikeAll, E.al x y, E.alAll xs ys, Bool.and_self]
theorem EnN.eqAll (E : EnN enc lt) : ∀ xs ys : List α, PyData.eqvAll (xs.map enc) (ys.map enc) = decide (xs = ys)
  | [], [] => by simp [PyData.eqvAll]
  | [], y :: ys => by simp [PyData.eqvAll]
  | x :: xs, [] => by simp [PyData.eqvAll]
  | x :: xs, y :: ys => by
    rw [List.map_cons, List.map_cons]
    simp only [PyData.eqvAll, E.eq x y, E.eqAll xs ys, List.cons.injEq, Bool.decide_and]
theorem EnN.tup (E : EnN enc lt) : EnN (fun xs : List α => PyData.tuple (xs.map enc)) (lexL lt) where
  al := fun xs ys => by
    simp only [alike]
    exact E.alAll xs ys
  eq := fun xs ys => by
    simp only [PyData.eqv]
    exact E.eqAll xs ys
  lt := fun xs ys => by
    rw [dataLt_tuple]
    exact E.toks xs ys
end
abbrev AK := Addr × NestedKey
def SetN (w : World) (a : Addr) (L : List AK) : HO := .ext fun h => ∃ es ep t, TabN w h a L es ep t
def AddN (L : List AK) (b : Addr) (k : NestedKey) (L' : List AK) : Prop := (k ∈ L.map (·.2) → L' = L) ∧ (k ∉ L.map (·.2) → L'.Perm ((b, k) :: L))
theorem AddN.keys {L L' : List AK} {b : Addr} {k : NestedKey} (h : AddN L b k L') (x : NestedKey) : x ∈ L'.map (·.2) ↔ x = k ∨ x ∈ L.map (·.2) := by
  by_cases c : k ∈ L.map (·.2)
  · rw [h.1 c]
    exact ⟨.inr, fun z => z.elim (fun e => e ▸ c) id⟩
  · rw [((h.2 c).map (·.2)).mem_iff]
    exact List.mem_cons
theorem AddN.sub {L L' : List AK} {b : Addr} {k : NestedKey} (h : AddN L b k L') {p : AK} (hp : p ∈ L') : p = (b, k) ∨ p ∈ L := by
  by_cases c : k ∈ L.map (·.2)
  · rw [h.1 c] at hp
    exact .inr hp
  · exact List.mem_cons.mp ((h.2 c).mem_iff.mp hp)
theorem AddN.len {L L' : List AK} {b : Addr} {k : NestedKey} (h : AddN L b k L') : L'.length ≤ L.length + 1 := by
  by_cases c : k ∈ L.map (·.2)
  · rw [h.1 c]
    omega
  · rw [(h.2 c).length_eq]
    exact Nat.le_refl _
section
variable {P : Program} {w : World} {A : Around} {E : Value → Shared → Prop} {s : Shared} {h h' : Heap} {H : Hp} {a : Addr} {L : List AK} {es : Array (Int × Value)} {ep : Nat} {t : SetTable}
theorem TabN.to (R : TabN w h a L es ep t) (k : ∀ o, h.get? a = some o → h'.get? a = some o) : TabN w h' a L es ep t := by
  obtain ⟨o, ho, r⟩ := R.ob
  exact ⟨⟨o, k o ho, r⟩, R.rw_, R.msk, R.tab, R.nd, R.led, R.room, R.few⟩
theorem setN_ok (R : ∃ es ep t, TabN w h a L es ep t) : ObjOk P w H h a (SetN w a L) := by
  refine ⟨R, ?_, fun h1 h2 ⟨es, ep, t, q⟩ k => ⟨es, ep, t, q.to k⟩⟩
  obtain ⟨_, _, _, q⟩ := R
  obtain ⟨o, ho, _⟩ := q.ob
  exact ⟨o, ho⟩
theorem setN_at (ok : HOk P w H h) (e : H a = some (SetN w a L)) : ∃ es ep t, TabN w h a L es ep t := (ok a _ e).1
theorem tabN_new (ho : h.get? a = some { cls := .type "set", dict := none, data := .set #[] 0 (.fresh 0 0 (!w.params.followText "set-order")) }) : TabN w h a [] #[] 0 (.fresh 0 0 (!w.params.followText "set-order")) where
  ob := ⟨_, ho, ⟨rfl, rfl, rfl⟩, rfl⟩
  rw_ := rfl
  msk := .inl rfl
  tab := ⟨mw7, List.Pairwise.nil, rfl, rfl, (fun x z => nomatch z), fun i h j z => nomatch z⟩
  nd := List.nodup_nil
  led := by
    show _ ∨ (!w.params.followText "set-order") = true
    cases w.params.followText "set-order" <;> simp
  room := by
    show 0 * 5 < 7 * 3
    decide
  few := by decide
theorem setAdd_N (R : TabN w s.heap a L es ep t) (tup : ∀ p ∈ L, IsN s.heap p.2 p.1) (room : L.length + 1 < 4000) {b : Addr} {k : NestedKey} (hb : IsN s.heap k b) (hu : A.units + 9 < cLine) {Q : Bool → Shared → Prop}
    (hQ : ∀ c h' tk L', s.toks ≤ tk → Heap.SameBut a s.heap h' → (∃ es ep t, TabN w h' a L' es ep t) → AddN L b k L' → Q c { s with heap := h', toks := tk }) :
    wpAny (model P w) A (setAdd a (.ref b)) Q E s := by
  unfold setAdd
  refine wpAny_holding (wpAny_bind ((nestedKind P w).pyHash (k := k) (show A.units + 8 < cLine by omega) hb ?_))
  exact add_tabN (s := { s with toks := s.toks + k.draws }) (k := k) R tup hb (by omega) room fun c h' L1 p => hQ c h' _ L1 (Nat.le_add_right _ _) p.1 p.2.1 p.2.2
end
section
variable {X : Cx}
theorem dpN_at {pins : List (Addr × Obj)} {σ : L2.St} {H : Hp} {s : Shared} (I : Inv X pins σ H s) {b : Addr} {k : NestedKey} (h : Dp X.K H (.ref b) k.data) (d : k.depth ≤ 8) : Reads s.heap (.ref b) k.data [] ∧ IsN s.heap k b := by
  obtain ⟨as, r⟩ := Dp.reads I _ _ (.ref b) h rfl
  obtain ⟨e, n⟩ := reads_key _ _ _ r
  rw [e] at r
  exact ⟨r, n, d⟩
end
end My
namespace My
open PySem PySem.Spec PyProof.Rows L2
def New0 (P : Program) (w : World) (D : Addr) (o : HO) : Prop := o = SetS w D [] ∨ o = SetT P w D [] ∨ o = SetM P w D [] ∨ o = SetN w D []
def AddO (K : PySem.W.Frag) (P : Program) (w : World) (D : Addr) (y : V) (H : Hp) (N : Hp → Prop) : Prop :=
  (∃ (k : Str) (xs : List Str), y = .str k ∧ H D = some (SetS w D xs) ∧ xs.length + 1 < 64 ∧ ∀ xs', AddS xs k xs' → N (upd H D (SetS w D xs'))) ∨
  (∃ (b : Addr) (k : List Str) (L : List (Addr × List Str)), y = .ref b ∧ SqT K H b (k.map V.str) ∧ H D = some (SetT P w D L) ∧ (∀ p ∈ L, SqT K H p.1 (p.2.map V.str)) ∧ L.length + 1 < 64 ∧ ∀ L', AddT L b k L' → N (upd H D (SetT P w D L'))) ∨
  (∃ (b : Addr) (k : List Key) (L : List (Addr × List Key)), y = .ref b ∧ SqT K H b (k.map kV) ∧ H D = some (SetM P w D L) ∧ (∀ p ∈ L, SqT K H p.1 (p.2.map kV)) ∧ L.length + 1 < 64 ∧ ∀ L', AddM L b k L' → N (upd H D (SetM P w D L'))) ∨
  (∃ (b : Addr) (k : NestedKey) (L : List AK), y = .ref b ∧ Dp K H (.ref b) k.data ∧ k.depth ≤ 8 ∧ H D = some (SetN w D L) ∧ (∀ p ∈ L, Dp K H (.ref p.1) p.2.data ∧ p.2.depth ≤ 8) ∧ L.length + 1 < 4000 ∧ ∀ L', AddN L b k L' → N (upd H D (SetN w D L')))
section
variable {X : Cx}
theorem set_add_by {P : Program} {w : World} {A : Around} {E : Value → Shared → Prop} {z : Shared} {D : Addr} {u : Value} {Q : Value → Shared → Prop} (hT : z.TypeIs (.ref D) "set") (h : wpAny (model P w) A.in1 (setAdd D u) (fun _ z' => Q .none z') E z) :
    wpAny (model P w) A (call (.builtin "set.add") [.ref D, u]) Q E z := by
  refine wpAny_call_entry F.slot_set_add hT F.entry_set_add ?_ (F.args_set_add_2 _ _)
  unfold Builtin.«set.add» Builtin.Frozenset.oneOther
  simp only [List.isEmpty_nil, bind_assoc]
  unfold Builtin.Frozenset.addrOf
  refine wpAny_bind (wpAny_pure ?_)
  try dsimp only
  refine wpAny_bind (wpAny_pure ?_)
  try dsimp only
  refine wpAny_bind ?_
  refine wpAny_mono h (fun b z' hz => ?_) fun _ _ e => e
  exact wpAny_pure ⟨_, rfl, hz⟩
theorem add_ok {pins : List (Addr × Obj)} {σ : L2.St} {H : Hp} {s : Shared} {E : Value → Shared → Prop} {D : Addr} {y : V} {u : Value} {N : Hp → Prop} {Q : Value → Shared → Prop} (I : Inv X pins σ H s) (hu : X.A.units + 64 < cLine)
    (h : AddO X.K X.prog X.w D y H N) (r : RelV y u) (hQ : ∀ s' H', Inv X pins σ H' s' → N H' → Q .none s') : wpAny (model X.prog X.w) X.A (call (.builtin "set.add") [.ref D, u]) Q E s := by
  rcases h with ⟨k, xs, rfl, hD, few, n⟩ | ⟨b, k, L, rfl, hb, hD, hk, few, n⟩ | ⟨b, k, L, rfl, hb, hD, hk, few, n⟩ | ⟨b, k, L, rfl, hb, dep, hD, hk, few, n⟩
  · obtain ⟨tk, rfl⟩ := r
    obtain ⟨es, ep, t, R⟩ := setS_at I.hok hD
    obtain ⟨o, ho, hex, _⟩ := R.ob
    refine set_add_by ⟨o, ho, hex.1⟩ (setAdd_str R few fun c h' tk' xs' lk ⟨sb, R', p⟩ => ?_)
    have ex : ∃ u, h'.get? D = some u := by
      obtain ⟨_, _, _, q⟩ := R'
      obtain ⟨o', ho', _⟩ := q.ob
      exact ⟨o', ho'⟩
    exact hQ _ _ (I.write (x := D) (e := D) (t' := tk') (by rw [hD]; trivial) (.inl rfl) (fun c u hc hh => (sb.2 c hc).trans hh) ex (setS_ok R')) (n xs' p)
  · cases (show u = Value.ref b from r)
    obtain ⟨es, ep, t, R⟩ := setT_at I.hok hD
    obtain ⟨o, ho, hex, _⟩ := R.ob
    refine set_add_by ⟨o, ho, hex.1⟩ (setAdd_tup R (fun p hp => (tup_at I (hk p hp)).2) few (tup_at I hb).2 (by show X.A.units + 1 < cLine; omega) fun c h' tk' L' lk ⟨sb, R', p⟩ => ?_)
    have ex : ∃ u, h'.get? D = some u := by
      obtain ⟨_, _, _, q⟩ := R'
      obtain ⟨o', ho', _⟩ := q.ob
      exact ⟨o', ho'⟩
    exact hQ _ _ (I.write (x := D) (e := D) (t' := tk') (by rw [hD]; trivial) (.inl rfl) (fun c u hc hh => (sb.2 c hc).trans hh) ex (setT_ok R')) (n L' p)
  · cases (show u = Value.ref b from r)
    obtain ⟨es, ep, t, R⟩ := setM_at I.hok hD
    obtain ⟨o, ho, hex, _⟩ := R.ob
    refine set_add_by ⟨o, ho, hex.1⟩ (setAdd_tupM R (fun p hp => tupM_at I (hk p hp)) few (tupM_at I hb) (by show X.A.units + 1 < cLine; omega) fun c h' tk' L' lk ⟨sb, R', p⟩ => ?_)
    have ex : ∃ u, h'.get? D = some u := by
      obtain ⟨_, _, _, q⟩ := R'
      obtain ⟨o', ho', _⟩ := q.ob
      exact ⟨o', ho'⟩
    exact hQ _ _ (I.write (x := D) (e := D) (t' := tk') (by rw [hD]; trivial) (.inl rfl) (fun c u hc hh => (sb.2 c hc).trans hh) ex (setM_ok R')) (n L' p)
  · cases (show u = Value.ref b from r)
    obtain ⟨es, ep, t, R⟩ := setN_at I.hok hD
    obtain ⟨o, ho, hex, _⟩ := R.ob
    refine set_add_by ⟨o, ho, hex.1⟩ (setAdd_N R (fun p hp => (dpN_at I (hk p hp).1 (hk p hp).2).2) few (dpN_at I hb dep).2 (by show X.A.units + 1 + 9 < cLine; omega) fun c h' tk' L' lk sb R' p => ?_)
    have ex : ∃ u, h'.get? D = some u := by
      obtain ⟨_, _, _, q⟩ := R'
      obtain ⟨o', ho', _⟩ := q.ob
      exact ⟨o', ho'⟩
    exact hQ _ _ (I.write (x := D) (e := D) (t' := tk') (by rw [hD]; trivial) (.inl rfl) (fun c u hc hh => (sb.2 c hc).trans hh) ex (setN_ok R')) (n L' p)
end
end My
namespace My
open PySem PySem.Spec PyProof.Rows L2
def turnOf (p : Pos) (tg : Expr) (ifs : List Expr) (inner : Sem Unit) (c : Code) (it : Value) (env : Env) : Sem Fin := do
  standAt p
  match ← pyNext it with
  | none => pure (.done .next)
  | some v =>
    letOwnedTupleGo tg it v
    assign tg env v
    let mut ok := true
    for c in ifs do
      if ok then ok ← isTrue c env (eval c env)
    if ok then inner
    again c
abbrev testsIn (ifs : List Expr) (env : Env) : Sem Bool := forIn ifs true fun c r => if r = true then do let ok ← isTrue c env (eval c env); pure (ForInStep.yield ok) else pure (ForInStep.yield r)
abbrev No : Value → Shared → Prop := fun _ _ => False
section
variable {P : Program} {w : World} {A : Around} {R : Result → Shared → Prop} {s : Shared}
theorem no_any {α : Type} {t : Sem α} {Q Q' : α → Shared → Prop} {E : Value → Shared → Prop} (h : wpAny (model P w) A t Q No s) (f : ∀ a z, Q a z → Q' a z) : wpAny (model P w) A t Q' E s := wpAny_mono h f fun _ _ z => z.elim
theorem loop_by {e tg : Expr} {k : Nat} {it acc : Value} {env : Env} {p : Pos} {ifs : List Expr} {inner : Sem Unit} (ht : compTurn e k it acc env = turnOf p tg ifs inner (.compLoop e k it acc env) it env)
    (hv : A.under (.compLoop e k it acc env) = A) (hd : (model P w).den (.compLoop e k it acc env) = (compTurn e k it acc env).onRaise fun x => do noteFrame x env; theTreesLotGoes x) (I : Nat → Shared → Prop)
    (turn : ∀ n z, I n z → wpAny (model P w) A (pyNext it) (fun r z1 => match r with
      | none => R (.ok .next) z1
      | some v => wpAny (model P w) A (letOwnedTupleGo tg it v) (fun _ z2 => wpAny (model P w) A (assign tg env v) (fun _ z3 => wpAny (model P w) A (testsIn ifs env) (fun ok z4 =>
          if ok = true then wpAny (model P w) A inner (fun _ z5 => ∃ m, m < n ∧ I m z5) No z4 else ∃ m, m < n ∧ I m z4) No z3) No z2) No z1) No z) (n : Nat) (h : I n s) :
    codeAny (model P w) A (.compLoop e k it acc env) R s := by
  refine codeAny_loop rfl I (fun n z hI => ?_) n h
  rw [hv, hd]
  refine wpAny_noted ?_
  rw [ht]
  unfold turnOf
  refine wpAny_bind (wpAny_standAt (wpAny_bind (no_any (turn n z hI) fun r z1 h1 => ?_)))
  cases r with
  | none => exact wpAny_pure h1
  | some v =>
    refine wpAny_bind (no_any h1 fun _ z2 h2 => wpAny_bind (no_any h2 fun _ z3 h3 => wpAny_bind (no_any h3 fun ok z4 h4 => ?_)))
    cases ok with
    | false => exact wpAny_pure ⟨rfl, h4⟩
    | true => exact wpAny_bind (no_any h4 fun _ z5 h5 => wpAny_pure ⟨rfl, h5⟩)
end
abbrev TIn := L2.St → Hp → (Hp → Prop) → Prop
def InnerOk (B : Cx) (vs : List Nat) (inner : Sem Unit) (ti : TIn) : Prop :=
  ∀ (pins : List (Addr × Obj)) (σ : L2.St) (H : Hp) (z : Shared) (N : Hp → Prop), Inv B pins σ H z → ti σ H N →
    wpAny (model B.prog B.w) B.A inner (fun _ z' => ∃ σ' H', Inv B pins σ' H' z' ∧ σ'.length = σ.length ∧ (∀ (j : Nat) (v : V), j ∉ vs → σ[j]? = some (some v) → σ'[j]? = some (some v)) ∧ N H') No z
def Turns (J : It) (g : TG) (tt : TT) (ti : TIn) (vs : List Nat) (σ : L2.St) (W : Nat → Nat → Hp → Prop) (Last : Hp → Prop) : Prop :=
  ∀ i m H, W i m H → (J.stop i H ∧ Last H) ∨ (J.go i H ∧ ∃ Nx : Hp → Prop, (∀ H', Nx H' → ∃ m', m' < m ∧ W (i + 1) m' H') ∧
    ∀ x H', J.yld i H x H' → g x (wipe σ vs) H' fun σ2 H2 => wipe σ2 vs = wipe σ vs ∧ tt σ2 H2 fun b H3 => if b = true then ti σ2 H3 Nx else Nx H3)
theorem block_walk {B : Cx} {tg e : Expr} {J : It} {fp : List Addr} {it : Addr} {tn : Nat → Heap → Prop} {g : TG} {tt : TT} {ti : TIn} {vs : List Nat} {ifs : List Expr} {inner : Sem Unit} {p : Pos} {k m0 : Nat} {acc : Value} {W : Nat → Nat → Hp → Prop} {Last : Hp → Prop}
    {pins : List (Addr × Obj)} {σ : L2.St} {H : Hp} {s : Shared} (hx : B.xe = No) (hc : B.calm = true) (T : Turn B.prog B.w B.K tg J fp it tn) (pg : PG B tg g) (pt : PTs B ifs tt) (pin : InnerOk B vs inner ti)
    (ht : compTurn e k (.ref it) acc B.env = turnOf p tg ifs inner (.compLoop e k (.ref it) acc B.env) (.ref it) B.env)
    (hv : B.A.under (.compLoop e k (.ref it) acc B.env) = B.A) (hd : (model B.prog B.w).den (.compLoop e k (.ref it) acc B.env) = (compTurn e k (.ref it) acc B.env).onRaise fun x => do noteFrame x B.env; theTreesLotGoes x)
    (stat : ∀ {σ' : L2.St} {H' : Hp} {z : Shared}, Inv B pins σ' H' z → (∀ b ∈ fp, H' b = none) → ∀ b ∈ fp, FpOk B pins H' b)
    (I0 : Inv B pins (wipe σ vs) H s) (st0 : tn 0 s.heap) (n0 : ∀ b ∈ fp, H b = none) (w0 : W 0 m0 H) (tu : Turns J g tt ti vs σ W Last) :
    codeAny (model B.prog B.w) B.A (.compLoop e k (.ref it) acc B.env) (fun r z => r = .ok .next ∧ ∃ H', Inv B pins (wipe σ vs) H' z ∧ Last H') s := by
  refine loop_by ht hv hd (fun n z => ∃ i G, Inv B pins (wipe σ vs) G z ∧ tn i z.heap ∧ (∀ b ∈ fp, G b = none) ∧ W i n G) ?_ m0 ⟨0, H, I0, st0, n0, w0⟩
  rintro n z ⟨i, G, IG, st, nf, hw⟩
  rcases tu i n G hw with ⟨stop, fin⟩ | ⟨go, Nx, hNx, step⟩
  · refine no_any (T.done B rfl rfl rfl hc i pins z _ G No IG (stat IG nf) st stop) fun r z1 ⟨hr, I1⟩ => ?_
    rw [hr]
    exact ⟨rfl, G, I1, fin⟩
  · refine no_any (T.item B rfl rfl rfl hc i pins z _ G No IG (stat IG nf) st go) fun r z1 ⟨u, hr, h1⟩ => ?_
    subst hr
    refine no_any h1 fun _ z2 ⟨x, G2, I2, r2, y2, st2, nf2⟩ => ?_
    have run1 := pg.run _ z2 _ G2 x u _ (I2.pinned (stat I2 nf2) (T.obj _ _ st2)) r2 (step x G2 y2)
    rw [hx] at run1
    refine no_any run1 fun _ z3 ⟨σ3, G3, I3, e3, q3⟩ => ?_
    have run2 := pt.run _ z3 σ3 G3 _ I3 q3
    rw [hx] at run2
    refine no_any run2 fun b z4 ⟨G4, I4, q4⟩ => ?_
    have back : ∀ {σ' : L2.St} {G' : Hp} {z' : Shared}, Inv B (pins ++ pinsAt fp z2.heap) σ' G' z' → σ'.length = σ3.length → (∀ (j : Nat) (v : V), j ∉ vs → σ3[j]? = some (some v) → σ'[j]? = some (some v)) → Nx G' →
        ∃ m, m < n ∧ ∃ i G, Inv B pins (wipe σ vs) G z' ∧ tn i z'.heap ∧ (∀ b ∈ fp, G b = none) ∧ W i m G := by
      intro σ' G' z' I' hl hk nx
      obtain ⟨m', hm, w'⟩ := hNx G' nx
      have held : ∀ b ∈ fp, ∀ o, z2.heap.get? b = some o → z'.heap.get? b = some o ∧ G' b = none := fun b hb o eo =>
        have q := I'.pin (b, o) (List.mem_append_right _ (List.mem_append_right _ (mem_pinsAt hb eo)))
        ⟨q.1, q.2.1⟩
      refine ⟨m', hm, i + 1, G', I'.unpinned.weak ?_ (fun j v ev => ?_), T.keep _ _ _ st2 fun b hb o eo => (held b hb o eo).1, fun b hb => ?_, w'⟩
      · rw [hl, ← e3, wipe_length]
      · rw [← e3] at ev
        obtain ⟨e1, e2⟩ := wipe_some ev
        exact hk j v e2 e1
      · obtain ⟨o, eo, _⟩ := T.obj _ _ st2 b hb
        exact (held b hb o eo).2
    cases b with
    | false =>
      rw [if_neg Bool.false_ne_true] at q4 ⊢
      exact back I4 rfl (fun j v _ e => e) q4
    | true =>
      rw [if_pos rfl] at q4 ⊢
      exact no_any (pin _ σ3 G4 z4 Nx I4 q4) fun _ z5 ⟨σ5, G5, I5, l5, k5, n5⟩ => back I5 l5 k5 n5
end My
namespace My
open PySem PySem.Spec PyProof.Rows L2
def tSet (P : Program) (w : World) (wi : TI) (g : TG) (tt : TT) (ti : Addr → TIn) (vs : List Nat) : TE := fun σ H Q =>
  wi σ H fun J H1 => ∀ D, H1 D = none → ∃ o0, New0 P w D o0 ∧ ∃ (W : Nat → Nat → Hp → Prop) (m0 : Nat), W 0 m0 (upd H1 D o0) ∧ Turns J g tt (ti D) vs σ W fun H' => Q (.ref D) H'
section
variable {X : Cx}
abbrev InBlk (X : Cx) (scope : Scope) (F : Cx → Prop) : Prop := ∀ (s : Shared) (H : Hp) (C : Addr) (cl : List (Str × Addr)) (fp : List Addr), F (X.blk s H scope (compEnvC scope cl C X.env) fp)
theorem pe_set_of {elt tg iter : Expr} {ifs : List Expr} {rest : List Comprehension} {scope : Scope} {own : List (Str × Nat)} {pos : Pos} {wi : TI} {g : TG} {tt : TT} {ti : Addr → TIn} {inner : Value → Env → Sem Unit} (hc : X.calm = true) (hN : X.N.Nodup)
    (ht : ∀ it acc env, compTurn (.SetComp elt (⟨tg, iter, ifs, 0⟩ :: rest) scope pos) 0 it acc env = turnOf iter.pos tg ifs (inner acc env) (.compLoop (.SetComp elt (⟨tg, iter, ifs, 0⟩ :: rest) scope pos) 0 it acc env) it env)
    (hi : PI X tg iter wi) (ok : BlkOk X.N X.env.scope scope own) (hg : InBlk X scope fun B => PG B tg g) (htt : InBlk X scope fun B => PTs B ifs tt) (hin : InBlk X scope fun B => ∀ D : Addr, InnerOk B (own.map (·.2)) (inner (.ref D) B.env) (ti D))
    (hs : ∀ x, foldedSetIterable iter X.env x = pure x := by intro _; rfl) : PE X (.SetComp elt (⟨tg, iter, ifs, 0⟩ :: rest) scope pos) (tSet X.prog X.w wi g tt ti (own.map (·.2))) := by
  refine ⟨fun pins s σ H Q I h => ?_⟩
  rw [PpSet.eval_SetComp]
  have free : ∀ y ∈ scope.names, y.2 = .free → ∃ c, X.env.cells.lookup y.1 = some c := fun y hy e => I.ok.has _ (by
    rcases ok.free y hy e with k | k
    · exact .inl k
    · exact .inr k)
  refine wpAny_comprehension_free (use := none) rfl hs (closure_ok free) ok.kind (fun y hy e => by rw [ok.uniq y hy, e]) (thn (hi.run pins s σ H _ I h) fun xv z1 h1 => thn h1 fun itv z2 h2 => ?_)
  obtain ⟨it, fp, tn, J, H2, rfl, I2, T, st2, f2, q⟩ := h2
  refine PpSet.newSet_ok (newEnv_comp ?_)
  have hDn : H2 z2.heap.objs.size = none := I2.hok.fresh (Nat.le_refl _)
  obtain ⟨o0, hnew, W, m0, w0, tu⟩ := q _ hDn
  generalize hz3 : ({ z2 with heap := z2.heap.push { cls := .type "set", dict := none, data := .set #[] 0 (.fresh 0 0 (!X.w.params.followText "set-order")) } } : Shared) = z3
  have e3 : z3.heap = z2.heap.push (set0 X.w) := by rw [← hz3]
  have at3 : z3.heap.get? z2.heap.objs.size = some (set0 X.w) := by
    rw [e3]
    exact Heap.get?_push_size _ rfl
  have new : ObjOk X.prog X.w (upd H2 z2.heap.objs.size o0) z3.heap z2.heap.objs.size o0 := by
    rcases hnew with rfl | rfl | rfl | rfl
    · exact setS_ok ⟨_, _, _, tabS_new at3⟩
    · exact setT_ok ⟨_, _, _, tabT_new at3⟩
    · exact setM_ok ⟨_, _, _, tabM_new at3⟩
    · exact setN_ok ⟨_, _, _, tabN_new at3⟩
  have I3 : Inv X pins σ (upd H2 z2.heap.objs.size o0) z3 := by
    rw [← hz3] at new ⊢
    exact I2.laid (t' := z2.toks) (fun b o e => Heap.get?_push_of_some _ e) (Nat.le_refl _) new
  have f3 : ∀ b ∈ fp, FpOk X pins (upd H2 z2.heap.objs.size o0) b ∧ b < z3.heap.objs.size := fun b hb => by
    obtain ⟨o, eo, _⟩ := T.obj _ _ st2 b hb
    have lt := Heap.lt_size eo
    refine ⟨⟨?_, (f2 b hb).2⟩, ?_⟩
    · rw [upd_ne (Nat.ne_of_lt lt)]
      exact (f2 b hb).1
    · rw [e3, Heap.size_push]
      exact Nat.lt_succ_of_lt lt
  generalize z2.heap.objs.size = D at *
  have I4 := block_start I3 ok hN f3
  show codeAny _ _ (.compStart (.SetComp elt (⟨tg, iter, ifs, 0⟩ :: rest) scope pos) 0 (.ref it) (.ref D) (compEnvC scope (cellsFrom (z3.heap.objs.size + 1) scope.names (cloFrom X.env.cells scope.names [])) z3.heap.objs.size X.env)) (compPost (model X.prog X.w) X.A X.xe none (EP X pins σ Q) (.ref D) z3.heap.objs.size) { z3 with heap := pushCells (z3.heap.push { cls := .type "dict", data := .dict #[] }) scope.names }
  have qg := hg z3 (upd H2 D o0) z3.heap.objs.size (cellsFrom (z3.heap.objs.size + 1) scope.names (cloFrom X.env.cells scope.names [])) fp
  have qt := htt z3 (upd H2 D o0) z3.heap.objs.size (cellsFrom (z3.heap.objs.size + 1) scope.names (cloFrom X.env.cells scope.names [])) fp
  have qi := hin z3 (upd H2 D o0) z3.heap.objs.size (cellsFrom (z3.heap.objs.size + 1) scope.names (cloFrom X.env.cells scope.names [])) fp D
  dsimp only at qi
  generalize hce : compEnvC scope (cellsFrom (z3.heap.objs.size + 1) scope.names (cloFrom X.env.cells scope.names [])) z3.heap.objs.size X.env = ce at I4 qg qt qi ⊢
  have cL : ce.locals = z3.heap.objs.size := by
    rw [← hce]
    rfl
  generalize hz4 : ({ z3 with heap := pushCells (z3.heap.push { cls := .type "dict", data := .dict #[] }) scope.names } : Shared) = z4 at I4 ⊢
  have st4 : tn 0 z4.heap := T.keep _ _ _ st2 fun b _ o e => by
    rw [← hz4]
    refine pushCells_keeps _ _ _ _ (Heap.get?_push_of_some _ ?_)
    rw [e3]
    exact Heap.get?_push_of_some _ e
  have walk := block_walk (B := X.blk z3 (upd H2 D o0) scope ce fp) (k := 0) (acc := .ref D) rfl hc T qg qt qi (ht _ _ _) rfl rfl
    (fun {σ' H' z} I' hn b hb => ⟨hn b hb, (I'.ok.exf b hb).1, I'.ok.exfs b hb, .inl hb, fun x c e => (I'.ok.exf b hb).2 x c e, fun p hp => absurd (show p ∈ ([] : List (Addr × Obj)) ++ [] from hp) (by simp)⟩) I4 st4 (fun b hb => (f3 b hb).1.1) w0 tu
  have loop : codeAny (model X.prog X.w) X.A (.compLoop (.SetComp elt (⟨tg, iter, ifs, 0⟩ :: rest) scope pos) 0 (.ref it) (.ref D) ce) (compPost (model X.prog X.w) X.A X.xe none (EP X pins σ Q) (.ref D) z3.heap.objs.size) z4 := by
    refine codeAny_mono walk fun r z ⟨hr, G, IG, qG⟩ => ?_
    rw [hr]
    have IX : Inv X pins σ G z := I3.call' (ch := fp) IG.os IG.base IG.hok IG.bare fun b hb => ⟨(f3 b hb).1.2.2.2.1, (f3 b hb).1.2.1, (f3 b hb).1.2.2.2.2.1, (f3 b hb).1.2.2.2.2.2⟩
    have nC : G z3.heap.objs.size = none := by
      rw [← cL]
      exact IG.free
    obtain ⟨m, hn, _⟩ := IG.loc
    have hn : z.heap.Ns ce.locals m := hn
    rw [cL] at hn
    obtain ⟨k0, k1, k2, k3, k4, k5⟩ := I3.fpOk (Nat.le_refl _) nC
    exact ⟨m, hn, fun h' sb => ⟨.ref D, G, IX.turned (t' := z.toks) (fun b o hb e => (sb.2 b hb).trans e) k0 k1 k3 k4 k5, rfl, qG⟩⟩
  exact PpSet.codeAny_compStart_set loop (T.self X.A 0 _ _ _ st4 loop)
end
end My
namespace My
open PySem PySem.Spec PyProof.Rows L2
section
variable {X : Cx}
def inAdd (elt : Expr) (acc : Value) (env : Env) : Sem Unit := do
  let v ← eval elt env
  standAt elt.pos
  let _ ← call (.builtin "set.add") [acc, v]
def tiAdd (K : PySem.W.Frag) (P : Program) (w : World) (te : TE) (D : Addr) : TIn := fun σ H N => te σ H fun y H4 => AddO K P w D y H4 N
theorem in_add {B : Cx} {elt : Expr} {te : TE} {D : Addr} {vs : List Nat} (hx : B.xe = No) (hu : B.A.units + 64 < cLine) (he : PE B elt te) : InnerOk B vs (inAdd elt (.ref D) B.env) (tiAdd B.K B.prog B.w te D) := by
  intro pins σ H z N I h
  unfold inAdd
  have run1 := he.run pins z σ H _ I h
  rw [hx] at run1
  refine wpAny_bind (no_any run1 fun u z1 ⟨y, H1, I1, r1, q1⟩ => wpAny_bind (wpAny_standAt ?_))
  exact wpAny_bind (add_ok I1 hu q1 r1 fun z2 H2 I2 n2 => wpAny_pure ⟨σ, H2, I2, rfl, fun _ _ _ e => e, n2⟩)
def inTwo (elt t0 i0 t1 i1 : Expr) (ifs0 ifs1 : List Expr) (scope : Scope) (pos : Pos) (acc : Value) (env : Env) : Sem Unit := do
  let x ← eval i1 env
  standAt i1.pos
  let x ← foldedSetIterable i1 env x
  let _ ← runOwn (.compStart (.SetComp elt [⟨t0, i0, ifs0, 0⟩, ⟨t1, i1, ifs1, 0⟩] scope pos) 1 (← holding [x] (pyIter x)) acc env) env
def tiTwo (wi1 : TI) (g1 : TG) (tt1 : TT) (ti1 : Addr → TIn) (vs1 : List Nat) (D : Addr) : TIn := fun σ H N =>
  wi1 σ H fun J1 H4 => ∃ (W1 : Nat → Nat → Hp → Prop) (m1 : Nat), W1 0 m1 H4 ∧ Turns J1 g1 tt1 (ti1 D) vs1 σ W1 N
theorem turn_two (elt t0 i0 t1 i1 : Expr) (ifs0 ifs1 : List Expr) (scope : Scope) (pos : Pos) (it acc : Value) (env : Env) :
    compTurn (.SetComp elt [⟨t0, i0, ifs0, 0⟩, ⟨t1, i1, ifs1, 0⟩] scope pos) 0 it acc env = turnOf i0.pos t0 ifs0 (inTwo elt t0 i0 t1 i1 ifs0 ifs1 scope pos acc env) (.compLoop (.SetComp elt [⟨t0, i0, ifs0, 0⟩, ⟨t1, i1, ifs1, 0⟩] scope pos) 0 it acc env) it env := by
  unfold turnOf inTwo
  simp only [bind_assoc]
  rfl
theorem turn_two1 (elt t0 i0 t1 i1 : Expr) (ifs0 ifs1 : List Expr) (scope : Scope) (pos : Pos) (it acc : Value) (env : Env) :
    compTurn (.SetComp elt [⟨t0, i0, ifs0, 0⟩, ⟨t1, i1, ifs1, 0⟩] scope pos) 1 it acc env = turnOf i1.pos t1 ifs1 (inAdd elt acc env) (.compLoop (.SetComp elt [⟨t0, i0, ifs0, 0⟩, ⟨t1, i1, ifs1, 0⟩] scope pos) 1 it acc env) it env := rfl
theorem start_two {P : Program} {w : World} {A : Around} {R : Result → Shared → Prop} {s : Shared} {elt t0 i0 t1 i1 : Expr} {ifs0 ifs1 : List Expr} {scope : Scope} {pos : Pos} {it acc : Value} {env : Env}
    (h : codeAny (model P w) A (.compLoop (.SetComp elt [⟨t0, i0, ifs0, 0⟩, ⟨t1, i1, ifs1, 0⟩] scope pos) 1 it acc env) R s)
    (again : ∀ E, wpAny (model P w) A (pyIter it) (fun it' z => codeAny (model P w) A (.compLoop (.SetComp elt [⟨t0, i0, ifs0, 0⟩, ⟨t1, i1, ifs1, 0⟩] scope pos) 1 it' acc env) R z) E s) :
    codeAny (model P w) A (.compStart (.SetComp elt [⟨t0, i0, ifs0, 0⟩, ⟨t1, i1, ifs1, 0⟩] scope pos) 1 it acc env) R s := by
  refine codeAny_of_tree ?_
  show wpAny _ _ ((compStart (.SetComp elt [⟨t0, i0, ifs0, 0⟩, ⟨t1, i1, ifs1, 0⟩] scope pos) 1 it acc env).onRaise (fun x => do noteFrame x env; standAt theWindowsPlace)) _ _ s
  refine wpAny_notedAt ?_
  unfold compStart
  show wpAny _ _ (ask >>= _) _ _ s
  refine wpAny_bind (wpAny_askSetting (wpAny_ite ?_))
  split
  · first
      | exact wpAny_pure (And.intro rfl h)
      | exact wpAny_bind (wpAny_pure (wpAny_pure (And.intro rfl h)))
  · refine wpAny_bind (wpAny_rule ?_)
    first
      | exact wpAny_bind (wpAny_standAt (wpAny_bind (wpAny_mono (again _) (fun _ _ q => wpAny_pure (And.intro rfl q)) fun _ _ e => e)))
      | (show wpAny _ _ (standAt i1.pos >>= _) _ _ s
         exact wpAny_bind (wpAny_standAt (wpAny_bind (wpAny_mono (again _) (fun _ _ q => wpAny_pure (And.intro rfl q)) fun _ _ e => e))))
theorem in_two {B : Cx} {elt t0 i0 t1 i1 : Expr} {ifs0 ifs1 : List Expr} {scope : Scope} {pos : Pos} {te : TE} {D : Addr} {vs vs1 : List Nat} {wi1 : TI} {g1 : TG} {tt1 : TT} (hx : B.xe = No) (hc : B.calm = true) (hu : B.A.units + 64 < cLine) (hv : ∀ i ∈ vs1, i ∈ vs)
    (hi1 : PI B t1 i1 wi1) (hg1 : PG B t1 g1) (ht1 : PTs B ifs1 tt1) (he : PE B elt te) (hs1 : ∀ env x, foldedSetIterable i1 env x = pure x) :
    InnerOk B vs (inTwo elt t0 i0 t1 i1 ifs0 ifs1 scope pos (.ref D) B.env) (tiTwo wi1 g1 tt1 (tiAdd B.K B.prog B.w te) vs1 D) := by
  intro pins σ H z N I h
  unfold inTwo
  have run1 := hi1.run pins z σ H _ I h
  rw [hx] at run1
  refine wpAny_bind (no_any run1 fun u z1 h1 => wpAny_bind (wpAny_standAt (wpAny_bind (wpAny_of_eq (hs1 B.env u) (wpAny_bind (wpAny_holding (no_any h1 fun itv z2 h2 => ?_)))))))
  obtain ⟨it, fp, tn, J, H2, rfl, I2, T, st2, f2, W1, m1, w1, tu⟩ := h2
  refine wpAny_bind (wpAny_runOwn ?_ (by intro x; cases x))
  rw [Around.mark_none]
  have walk := block_walk (B := B) (k := 1) (acc := .ref D) (vs := vs1) (e := .SetComp elt [⟨t0, i0, ifs0, 0⟩, ⟨t1, i1, ifs1, 0⟩] scope pos) hx hc T hg1 ht1 (in_add hx hu he) (turn_two1 _ _ _ _ _ _ _ _ _ _ _ _) rfl rfl
    (fun {σ' H' z'} _ hn b hb => ⟨hn b hb, (f2 b hb).2⟩) (I2.weak (wipe_length σ vs1) fun j v e => (wipe_some e).1) st2 (fun b hb => (f2 b hb).1) w1 tu
  have walk' := codeAny_mono walk (R' := fun r z' => match r with
    | .ok f => wpAny (model B.prog B.w) B.A (pure () : Sem Unit) (fun _ z' => ∃ σ' H', Inv B pins σ' H' z' ∧ σ'.length = σ.length ∧ (∀ (j : Nat) (v : V), j ∉ vs → σ[j]? = some (some v) → σ'[j]? = some (some v)) ∧ N H') No z'
    | .error e => cameBackBy (model B.prog B.w) B.A B.env No e z') fun r z3 ⟨hr, G, IG, nG⟩ => by
      rw [hr]
      exact wpAny_pure ⟨_, G, IG, wipe_length σ vs1, fun j v hj e => by rw [wipe_out fun m => hj (hv j m)]; exact e, nG⟩
  exact start_two walk' fun E => T.self B.A 0 _ _ _ st2 walk'
theorem pe_sq2 {elt t0 i0 t1 i1 : Expr} {ifs0 ifs1 : List Expr} {scope : Scope} {own : List (Str × Nat)} {vs1 : List Nat} {pos : Pos} {wi wi1 : TI} {g g1 : TG} {tt tt1 : TT} {te : TE} (hc : X.calm = true) (hN : X.N.Nodup) (hu : X.A.units + 64 < cLine)
    (hi : PI X t0 i0 wi) (ok : BlkOk X.N X.env.scope scope own) (hv : ∀ i ∈ vs1, i ∈ own.map (·.2)) (hg : ∀ (s : Shared) (H : Hp) (C : Addr) (cl : List (Str × Addr)) (fp : List Addr), PG (X.blk s H scope (compEnvC scope cl C X.env) fp) t0 g) (ht : ∀ (s : Shared) (H : Hp) (C : Addr) (cl : List (Str × Addr)) (fp : List Addr), PTs (X.blk s H scope (compEnvC scope cl C X.env) fp) ifs0 tt)
    (hi1 : ∀ (s : Shared) (H : Hp) (C : Addr) (cl : List (Str × Addr)) (fp : List Addr), PI (X.blk s H scope (compEnvC scope cl C X.env) fp) t1 i1 wi1) (hg1 : ∀ (s : Shared) (H : Hp) (C : Addr) (cl : List (Str × Addr)) (fp : List Addr), PG (X.blk s H scope (compEnvC scope cl C X.env) fp) t1 g1) (ht1 : ∀ (s : Shared) (H : Hp) (C : Addr) (cl : List (Str × Addr)) (fp : List Addr), PTs (X.blk s H scope (compEnvC scope cl C X.env) fp) ifs1 tt1) (he : ∀ (s : Shared) (H : Hp) (C : Addr) (cl : List (Str × Addr)) (fp : List Addr), PE (X.blk s H scope (compEnvC scope cl C X.env) fp) elt te)
    (hs : ∀ x, foldedSetIterable i0 X.env x = pure x := by intro _; rfl) (hs1 : ∀ env x, foldedSetIterable i1 env x = pure x := by intro _ _; rfl) :
    PE X (.SetComp elt [⟨t0, i0, ifs0, 0⟩, ⟨t1, i1, ifs1, 0⟩] scope pos) (tSet X.prog X.w wi g tt (tiTwo wi1 g1 tt1 (tiAdd X.K X.prog X.w te) vs1) (own.map (·.2))) :=
  pe_set_of (inner := inTwo elt t0 i0 t1 i1 ifs0 ifs1 scope pos) hc hN (fun it acc env => turn_two _ _ _ _ _ _ _ _ _ _ _ _) hi ok hg ht
    (fun s H C cl fp D => in_two rfl hc hu hv (hi1 s H C cl fp) (hg1 s H C cl fp) (ht1 s H C cl fp) (he s H C cl fp) hs1) hs
end
end My
namespace My
open PySem PySem.Spec PyProof.Rows L2
variable [TbC]
def insU {α : Type} (lt : α → α → Bool) (x : α) : List α → List α
  | [] => [x]
  | y :: ys => if lt y x = true then y :: insU lt x ys else x :: y :: ys
def sortU {α : Type} (lt : α → α → Bool) : List α → List α
  | [] => []
  | x :: r => insU lt x (sortU lt r)
omit [TbC] in
theorem insU_perm {α : Type} {lt : α → α → Bool} {x : α} : ∀ l : List α, (insU lt x l).Perm (x :: l)
  | [] => List.Perm.refl _
  | y :: ys => by
    unfold insU
    split
    · exact ((insU_perm ys).cons y).trans (List.Perm.swap x y ys)
    · exact List.Perm.refl _
omit [TbC] in
theorem sortU_perm {α : Type} {lt : α → α → Bool} : ∀ l : List α, (sortU lt l).Perm l
  | [] => List.Perm.refl _
  | x :: r => (insU_perm _).trans ((sortU_perm r).cons x)
omit [TbC] in
theorem ntrans {α : Type} {lt : α → α → Bool} (T : Tot lt) {a b c : α} (h1 : lt b a = false) (h2 : lt c b = false) : lt c a = false := by
  cases h : lt c a with
  | false => rfl
  | true =>
    cases k : lt a b with
    | true =>
      rw [T.trans _ _ _ h k] at h2
      cases h2
    | false =>
      have e := T.tri _ _ k h1
      subst e
      rw [h] at h2
      cases h2
omit [TbC] in
theorem insU_pw {α : Type} {lt : α → α → Bool} (T : Tot lt) {x : α} : ∀ {l : List α}, l.Pairwise (fun x y => lt y x = false) → (insU lt x l).Pairwise (fun x y => lt y x = false)
  | [], _ => List.pairwise_singleton _ _
  | y :: ys, h => by
    rw [List.pairwise_cons] at h
    unfold insU
    split
    · rename_i c
      refine List.pairwise_cons.mpr ⟨fun z hz => ?_, insU_pw T h.2⟩
      rcases List.mem_cons.mp ((insU_perm ys).mem_iff.mp hz) with e | hz
      · rw [e]
        exact T.asym c
      · exact h.1 z hz
    · rename_i c
      have c' : lt y x = false := Bool.eq_false_iff.mpr c
      refine List.pairwise_cons.mpr ⟨fun z hz => ?_, List.pairwise_cons.mpr h⟩
      rcases List.mem_cons.mp hz with e | hz
      · rw [e]
        exact c'
      · exact ntrans T c' (h.1 z hz)
omit [TbC] in
theorem sortU_srt {α : Type} {lt : α → α → Bool} (T : Tot lt) : ∀ l : List α, (sortU lt l).Pairwise (fun x y => lt y x = false)
  | [] => List.Pairwise.nil
  | x :: r => insU_pw T (sortU_srt T r)
omit [TbC] in
theorem sortU_asc {α : Type} {lt : α → α → Bool} (T : Tot lt) {l : List α} (nd : l.Nodup) : Asc lt (sortU lt l) :=
  asc_of T (sortU_srt T l) ((sortU_perm l).nodup_iff.mpr nd)
omit [TbC] in
theorem sortU_is {α : Type} [DecidableEq α] {lt : α → α → Bool} (T : Tot lt) {l ys : List α} (nd : l.Nodup) (asc : Asc lt ys) (mem : ∀ x, x ∈ ys ↔ x ∈ l) : ys = sortU lt l :=
  asc_uniq T asc (sortU_asc T nd) fun x => (mem x).trans (sortU_perm l).mem_iff.symm
def addU {α : Type} [DecidableEq α] (acc : List α) (k : α) : List α := if k ∈ acc then acc else acc ++ [k]
omit [TbC] in
theorem addU_mem {α : Type} [DecidableEq α] {acc : List α} {k x : α} : x ∈ addU acc k ↔ x = k ∨ x ∈ acc := by
  unfold addU
  split
  · exact ⟨.inr, fun h => h.elim (fun e => by rw [e]; assumption) id⟩
  · rw [List.mem_append, List.mem_singleton]
    exact Or.comm
omit [TbC] in
theorem addU_nd {α : Type} [DecidableEq α] {acc : List α} {k : α} (h : acc.Nodup) : (addU acc k).Nodup := by
  unfold addU
  split
  · exact h
  · rename_i c
    exact List.nodup_append.mpr ⟨h, by simp, fun a ha b hb e => c (by rw [List.mem_singleton] at hb; rw [← hb, ← e]; exact ha)⟩
omit [TbC] in
theorem addU_len {α : Type} [DecidableEq α] {acc : List α} {k : α} : (addU acc k).length ≤ acc.length + 1 := by
  unfold addU
  split
  · omega
  · rw [List.length_append]
    exact Nat.le_refl _
omit [TbC] in
theorem addU_grow {α : Type} [DecidableEq α] {acc : List α} {k : α} : acc.length ≤ (addU acc k).length := by
  unfold addU
  split
  · exact Nat.le_refl _
  · rw [List.length_append]
    omega
def ddU {α : Type} [DecidableEq α] (l : List α) : List α := l.foldl addU []
omit [TbC] in
theorem ddU_from {α : Type} [DecidableEq α] : ∀ (l acc : List α), acc.Nodup → (l.foldl addU acc).Nodup ∧ ∀ x, x ∈ l.foldl addU acc ↔ x ∈ acc ∨ x ∈ l
  | [], acc, h => ⟨h, fun x => by simp⟩
  | k :: l, acc, h => by
    obtain ⟨a, b⟩ := ddU_from l (addU acc k) (addU_nd h)
    refine ⟨a, fun x => ?_⟩
    rw [List.foldl_cons, b x, addU_mem, List.mem_cons]
    constructor
    · rintro ((h | h) | h)
      · exact .inr (.inl h)
      · exact .inl h
      · exact .inr (.inr h)
    · rintro (h | h | h)
      · exact .inl (.inr h)
      · exact .inl (.inl h)
      · exact .inr h
omit [TbC] in
theorem ddU_nd {α : Type} [DecidableEq α] (l : List α) : (ddU l).Nodup := (ddU_from l [] List.nodup_nil).1
omit [TbC] in
theorem ddU_mem {α : Type} [DecidableEq α] {l : List α} {x : α} : x ∈ ddU l ↔ x ∈ l := by
  rw [ddU, (ddU_from l [] List.nodup_nil).2 x]
  simp
def vS : PyData → Option Str
  | .str x => some x
  | _ => none
def strsD : List PyData → Option (List Str)
  | [] => some []
  | .str x :: r => (strsD r).map (x :: ·)
  | _ => none
def vT : PyData → Option (List Str)
  | .tuple xs => match strsD xs with
    | some (k :: ks) => some (k :: ks)
    | _ => none
  | _ => none
def bS (x : Str) : PyData := .str x
def bT' (k : List Str) : PyData := .tuple (k.map PyData.str)
omit [TbC] in
theorem rps_strs {K : PySem.W.Frag} {H : Hp} : ∀ {us : List V} {ds : List PyData} {ks : List Str}, RpAll K H us ds → strsD ds = some ks → us = ks.map V.str ∧ ds = ks.map PyData.str
  | _, _, _, .nil, e => by cases e; exact ⟨rfl, rfl⟩
  | _, _, _, .cons (d := d) h t, e => by
    cases d with
    | str b =>
      obtain ⟨r, e1, e2⟩ := Option.map_eq_some_iff.mp e
      subst e2
      cases h
      obtain ⟨a, b⟩ := rps_strs t e1
      exact ⟨by rw [a, List.map_cons], by rw [List.map_cons, ← b]⟩
    | _ => cases e
omit [TbC] in
theorem rp_T {K : PySem.W.Frag} {H : Hp} {v : V} {d : PyData} {k : List Str} (h : Rp K H v d) (e : vT d = some k) : ∃ a, v = .ref a ∧ SqT K H a (k.map V.str) ∧ k ≠ [] ∧ d = bT' k := by
  cases d with
  | tuple xs =>
    cases h with
    | tup hs ha =>
      cases c : strsD xs with
      | none => simp [vT, c] at e
      | some ks =>
        cases ks with
        | nil => simp [vT, c] at e
        | cons x r =>
          simp [vT, c] at e
          subst e
          obtain ⟨a, b⟩ := rps_strs ha c
          refine ⟨_, rfl, by rw [← a]; exact hs, List.cons_ne_nil _ _, by rw [b]; rfl⟩
  | _ => cases e
omit [TbC] in
theorem rps_back {K : PySem.W.Frag} {H : Hp} : ∀ ks : List Str, RpAll K H (ks.map V.str) (ks.map PyData.str)
  | [] => .nil
  | x :: r => .cons (.str x) (rps_back r)
structure SB (P : Program) (w : World) (K : PySem.W.Frag) (α : Type) [DecidableEq α] where
  view : PyData → Option α
  Acc : (Addr → Bool) → Addr → List α → Hp → Prop
  noL : ∀ {O D acc H}, Acc O D acc H → (∀ us, H D ≠ some (.lst us)) ∧ (∀ us, H D ≠ some (.dK us)) ∧ ∀ w L, H D ≠ some (DicN w D L)
  use : ∀ {O D acc H}, Acc O D acc H → ∃ o, H D = some o ∧ NoTup D o
  new : ∀ {O H D}, H D = none → ∃ o0, New0 P w D o0 ∧ Acc (add O D) D [] (upd H D o0)
  keep : ∀ {O D acc H H'}, Acc O D acc H → H' D = H D → Same (hid O H) (hid O H') → Acc O D acc H'
  put : ∀ {O D acc H y dy k} {N : Hp → Prop}, Acc O D acc H → O D = true → Rp K (hid O H) y dy → view dy = some k → acc.length < 62 → (∀ o, Acc O D (addU acc k) (upd H D o) → N (upd H D o)) → AddO K P w D y H N
structure SK (P : Program) (w : World) (K : PySem.W.Frag) (α : Type) [DecidableEq α] extends SB P w K α where
  back : α → PyData
  lt : α → α → Bool
  tot : Tot lt
  srt : ∀ {O D acc H} {Q : VK}, Acc O D acc H → acc.Nodup → (∀ p vs, H p = none → RpAll K (hid O H) vs ((sortU lt acc).map back) → Q (.ref p) (upd H p (.lst vs))) → rSortS w [.ref D] H Q ∨ rSortT K P w [.ref D] H Q
def skS (P : Program) (w : World) (K : PySem.W.Frag) : SK P w K Str where
  view := vS
  back := bS
  lt := ltS
  tot := tot_str
  Acc := fun _ D acc H => ∃ xs, H D = some (SetS w D xs) ∧ (∀ x, x ∈ xs ↔ x ∈ acc) ∧ xs.length ≤ acc.length
  noL := fun ⟨xs, h, _⟩ => ⟨fun us e => (by rw [h] at e; cases e), fun us e => (by rw [h] at e; cases e), fun w L' e => dicN_no (h.symm.trans e) fun g ⟨es, ep, t, R⟩ => (by obtain ⟨o', ho, _, hd'⟩ := R.ob; exact ⟨o', _, _, _, ho, hd'⟩)⟩
  use := fun ⟨xs, h, _⟩ => ⟨_, h, nt_ext fun g o vs hg hd ⟨es, ep, t, R⟩ => by
    obtain ⟨o', ho, _, hd'⟩ := R.ob
    rw [hg] at ho
    cases ho
    rw [hd] at hd'
    cases hd'⟩
  new := fun {O H D} _ => ⟨_, .inl rfl, [], upd_same, fun _ => Iff.rfl, Nat.le_refl _⟩
  keep := fun ⟨xs, h, r⟩ e _ => ⟨xs, e.trans h, r⟩
  put := fun {O D acc H y dy k N} ⟨xs, h, m, l⟩ _ r e few n => by
    cases dy with
    | str x =>
      cases e
      cases r
      refine .inl ⟨_, xs, rfl, h, by omega, fun xs' a => n _ ⟨xs', upd_same, fun z => ?_, ?_⟩⟩
      · rw [a.mem, addU_mem, m]
      · by_cases c : k ∈ acc
        · rw [a.1 ((m k).mpr c)]
          exact Nat.le_trans l addU_grow
        · have z := a.len
          unfold addU
          rw [if_neg c, List.length_append]
          show _ ≤ acc.length + 1
          omega
    | _ => cases e
  srt := fun {O D acc H Q} ⟨xs, h, m, l⟩ nd q => .inl ⟨D, xs, rfl, h, fun ys p asc pm np => q p _ np (by
    rw [← sortU_is tot_str nd asc fun x => pm.mem_iff.trans (m x)]
    exact rps_back ys)⟩
omit [TbC] in
theorem strs_nd {ks : List Str} (h : ks ≠ []) {P : Prop} (e : dictable (ks.map PyData.str) = true) : P := by
  cases ks with
  | nil => exact absurd rfl h
  | cons x r => cases e
omit [TbC] in
theorem rps_keys {K : PySem.W.Frag} {H : Hp} : ∀ {L : List (Addr × List Str)}, (∀ q ∈ L, SqT K H q.1 (q.2.map V.str) ∧ q.2 ≠ []) → RpAll K H (L.map fun q => V.ref q.1) ((L.map (·.2)).map bT')
  | [], _ => .nil
  | q :: r, h => .cons (.tup (h q List.mem_cons_self).1 (rps_back q.2) fun e => strs_nd (h q List.mem_cons_self).2 e) (rps_keys fun z m => h z (List.mem_cons_of_mem _ m))
def loopD {α : Type} (g : GD) (p : TD) (body : DEnv → α → M α) (ρ0 : DEnv) : List PyData → α → M α
  | [], a => fun n Q => Q a n
  | x :: xs, a => fun n Q => ∃ ρ', g x ρ0 = some ρ' ∧ p ρ' n fun b n1 => if b = true then body ρ' a n1 fun a' n2 => loopD g p body ρ0 xs a' n2 Q else loopD g p body ρ0 xs a n1 Q
def putW {α : Type} [DecidableEq α] (view : PyData → Option α) (e : ED) : DEnv → List α → M (List α) := fun ρ acc n Q => e ρ n fun y n1 => ∃ k, view y = some k ∧ acc.length < 62 ∧ Q (addU acc k) n1
section
variable {X : Cx} {α : Type} [DecidableEq α]
def InW (kd : SB X.prog X.w X.K α) (ti : Addr → TIn) (b : DEnv → List α → M (List α)) : Prop := ∀ {dk OB H0 O H D σ ρ n acc} {N : Hp → Prop} {Qd},
  StR X.K dk OB H0 O H σ ρ n → O D = true → NotDk dk D → H0 D = none → kd.Acc O D acc H → acc.Nodup → b ρ acc n Qd →
  (∀ acc' H' n', Same (hid O H) (hid O H') → (∀ b o, b ≠ D → ¬ dkA dk b → H b = some o → H' b = some o) → DkOk dk n' H' → kd.Acc O D acc' H' → acc'.Nodup → Qd acc' n' → N H') → ti D σ H N
theorem inW_put {kd : SB X.prog X.w X.K α} {e : ED} : InW kd (tiAdd X.K X.prog X.w (tW X.K e)) (putW kd.view e) := by
  intro dk OB H0 O H D σ ρ n acc N Qd S hO nd h0 A nda hb q
  refine rd_W S hb fun y dy H1 n1 f1 d1 r1 ⟨k, ek, few, q1⟩ => ?_
  have nA : ¬ dkA dk D := nd.nA
  have s1 := S.hid f1
  have hD : H1 D = H D := by
    cases c : H D with
    | none => exact absurd c (S.dom.ne hO)
    | some o => exact f1 _ _ nA c
  refine kd.put (kd.keep A hD s1) hO r1 ek few fun o A' => q (addU acc k) _ n1 ?_ ?_ (d1.upd nd ((S.step f1 d1).dom _ hO)) A' (addU_nd nda) q1
  · rw [hid_upd hO]
    exact s1
  · exact fun b o nb na h => by
      rw [upd_ne nb]
      exact f1 _ _ na h
theorem turns_D {kd : SB X.prog X.w X.K α} {g : GD} {p : TD} {body : DEnv → List α → M (List α)} {vs own : List Nat} {ti : Addr → TIn} (hvs : ∀ i ∈ vs, i ∈ own) (hb : InW kd ti body)
    {dk : Option DkI} {OB : Addr → Bool} {H0 : Hp} {O : Addr → Bool} {H1 : Hp} {D : Addr} {σ : L2.St} {ρ : DEnv} {n1 : Nat} {acc : List α} {xs : List PyData} {J : It} {Last : Hp → Prop} {Qd : List α → Nat → Prop}
    (S : StR X.K dk OB H0 O H1 σ ρ n1) (hO : O D = true) (nd : NotDk dk D) (h0 : H0 D = none) (A : kd.Acc O D acc H1) (nda : acc.Nodup) (io : ItOk X.K O H1 J xs)
    (q : loopD g p body (wipeD ρ own) xs acc n1 Qd)
    (last : ∀ acc' H' n', Same (hid O H1) (hid O H') → (∀ b o, b ≠ D → ¬ dkA dk b → H1 b = some o → H' b = some o) → DkOk dk n' H' → kd.Acc O D acc' H' → acc'.Nodup → Qd acc' n' → Last H') :
    ∃ (W : Nat → Nat → Hp → Prop) (m0 : Nat), W 0 m0 H1 ∧ Turns J (tWG X.K vs g) (tWT X.K p) (ti D) own σ W Last := by
  have nA : ¬ dkA dk D := nd.nA
  have free : ∀ (j : Nat) (y : Sv), ρ[j]? = some (some y) → y.own = true → σ[j]? ≠ some (some (.ref D)) := fun j y e oy es => by
    obtain ⟨v, z1, z2⟩ := S.sl j y e
    rw [es] at z1
    cases z1
    cases y with
    | d x => cases oy
    | l xs =>
      obtain ⟨r, us, z, k1, k2, k3, k4, k5⟩ := z2
      cases z
      exact (kd.noL A).1 us k4
    | k xs =>
      obtain ⟨r, us, z, k1, k2, k3, k4, k5⟩ := z2
      cases z
      exact (kd.noL A).2.1 us k4
    | t xs =>
      obtain ⟨r, us, z, k1, k2, k3, k4, k5⟩ := z2
      cases z
      exact (kd.noL A).2.2 _ us k4
    | dk => cases oy
  have keepS : ∀ {H' n'}, Same (hid O H1) (hid O H') → (∀ b o, b ≠ D → ¬ dkA dk b → H1 b = some o → H' b = some o) → DkOk dk n' H' → (∃ o, H' D = some o ∧ NoTup D o) → StR X.K dk OB H0 O H' σ ρ n' := fun {H' n'} s f d hd => by
    refine ⟨S.len, S.ob, S.od, fun b h => ?_, S.dkO, fun b o h e => ?_, d, fun j y e => ?_, S.dis⟩
    · by_cases c : b = D
      · rw [c]
        exact hd
      · by_cases c2 : dkA dk b
        · exact d.domT c2
        · obtain ⟨o, e, t⟩ := S.dom b h
          exact ⟨o, f b o c c2 e, t⟩
    · have bD : b ≠ D := fun z => by rw [z, h0] at e; cases e
      exact f b o bD h (S.fr b o h e)
    · obtain ⟨v, e1, e2⟩ := S.sl j y e
      refine ⟨v, e1, ?_⟩
      have np : ∀ p, NotDk dk p → ¬ dkA dk p := fun p z => z.nA
      cases y with
      | d x => exact Rp.same s _ _ e2
      | l xs =>
        obtain ⟨r, us, rfl, k1, k2, k3, k4, k5⟩ := e2
        exact ⟨r, us, rfl, k1, k2, k3, f _ _ (fun z => free j (.l xs) e rfl (by rw [← z]; exact e1)) (np r k3) k4, RpAll.same s _ _ k5⟩
      | k xs =>
        obtain ⟨r, us, rfl, k1, k2, k3, k4, k5⟩ := e2
        exact ⟨r, us, rfl, k1, k2, k3, f _ _ (fun z => free j (.k xs) e rfl (by rw [← z]; exact e1)) (np r k3) k4, RpKvs.same s _ _ k5⟩
      | t xs =>
        obtain ⟨r, us, rfl, k1, k2, k3, k4, k5⟩ := e2
        exact ⟨r, us, rfl, k1, k2, k3, f _ _ (fun z => free j (.t xs) e rfl (by rw [← z]; exact e1)) (np r k3) k4, ⟨RpTk.same s k5.1, k5.2⟩⟩
      | dk => exact e2
  let Wt : Nat → Hp → Prop := fun i H2 => ∃ acc2 n2, Same (hid O H1) (hid O H2) ∧ (∀ b o, b ≠ D → ¬ dkA dk b → H1 b = some o → H2 b = some o) ∧ DkOk dk n2 H2 ∧ kd.Acc O D acc2 H2 ∧ acc2.Nodup ∧ loopD g p body (wipeD ρ own) (xs.drop i) acc2 n2 Qd
  refine ⟨fun i m H2 => m = xs.length - i ∧ i ≤ xs.length ∧ Wt i H2, xs.length, ⟨by simp, Nat.zero_le _, acc, n1, Same.refl _, fun b o _ _ h => h, S.dok, A, nda, q⟩, ?_⟩
  rintro i m H2 ⟨rfl, hi, acc2, n2, s2, f2, d2, A2, nd2, q2⟩
  have hD2 : H2 D ≠ none := by
    obtain ⟨o, e, _⟩ := kd.use A2
    rw [e]
    exact fun z => nomatch z
  have S2 := keepS s2 f2 d2 (kd.use A2)
  have itr := io i O H2 s2 S2.dom
  by_cases hlt : i < xs.length
  · obtain ⟨go, yl⟩ := itr.1 hlt
    refine .inr ⟨go, Wt (i + 1), fun H' w => ⟨xs.length - (i + 1), by omega, rfl, hlt, w⟩, fun x H3 y => ?_⟩
    obtain ⟨d, ed, s3, rx⟩ := yl x H3 y
    have ex : xs.drop i = d :: xs.drop (i + 1) := by
      rw [List.drop_eq_getElem_cons hlt]
      congr 1
      rw [List.getElem?_eq_getElem hlt] at ed
      exact Option.some.inj ed
    rw [ex] at q2
    obtain ⟨ρ', eg, q3⟩ := q2
    have S3 := S2.step (FrD.of s3) (S2.dok.same s3)
    refine ⟨dk, OB, H0, O, wipeD ρ own, n2, d, ρ', S3.wipe own, rx, eg, fun σ2 b2 S4 => ⟨wipe_but hvs b2, dk, OB, H0, O, ρ', n2, _, S4, q3, fun b H4 n3 f4 d4 q4 => ?_⟩⟩
    have f24 : FrD dk H2 H4 := (FrD.of s3).trans f4
    have s24 := hid_fr S2.dO f24
    have hD4 : H4 D = H2 D := by
      cases c : H2 D with
      | none => exact absurd c hD2
      | some o => exact f24 _ _ nA c
    have A4 := kd.keep A2 hD4 s24
    cases b with
    | true =>
      exact (if_pos rfl).mpr (hb (S4.step f4 d4) hO nd h0 A4 nd2 ((if_pos rfl).mp q4) fun acc5 H5 n5 s5 f5 d5 A5 nd5 q5 => ⟨acc5, n5, (s2.trans s24).trans s5, fun b o k1 k2 k3 => f5 b o k1 k2 (f24 b o k2 (f2 b o k1 k2 k3)), d5, A5, nd5, q5⟩)
    | false => exact (if_neg Bool.false_ne_true).mpr ⟨acc2, n3, s2.trans s24, fun b o k1 k2 k3 => f24 b o k2 (f2 b o k1 k2 k3), d4, A4, nd2, (if_neg Bool.false_ne_true).mp q4⟩
  · have e : i = xs.length := by omega
    subst e
    rw [List.drop_length] at q2
    exact .inl ⟨itr.2 (Nat.le_refl _), last acc2 H2 n2 s2 f2 d2 A2 nd2 q2⟩
def twoW {α : Type} (it1 : AD) (g1 : GD) (p1 : TD) (body : DEnv → α → M α) (vs1 : List Nat) : DEnv → α → M α := fun ρ acc n Q => it1 ρ n fun ys n1 => loopD g1 p1 body (wipeD ρ vs1) ys acc n1 Q
theorem inW_two {kd : SB X.prog X.w X.K α} {it1 : AD} {g1 : GD} {p1 : TD} {body : DEnv → List α → M (List α)} {ti : Addr → TIn} {vs vs1 : List Nat} (hvs : ∀ i ∈ vs, i ∈ vs1) (hb : InW kd ti body) : InW kd (tiTwo (tWI X.K it1) (tWG X.K vs g1) (tWT X.K p1) ti vs1) (twoW it1 g1 p1 body vs1) := by
  intro dk OB H0 O H D σ ρ n acc N Qd S hO nd h0 A nda hq q
  refine ⟨dk, OB, H0, O, ρ, n, _, S, hq, fun J H1 n1 xs f1 d1 io q1 => ?_⟩
  have nA : ¬ dkA dk D := nd.nA
  have s1 := S.hid f1
  have hD : H1 D = H D := by
    cases c : H D with
    | none => exact absurd c (S.dom.ne hO)
    | some o => exact f1 _ _ nA c
  exact turns_D hvs hb (S.step f1 d1) hO nd h0 (kd.keep A hD s1) nda io q1 fun acc' H' n' s' f' d' A' nd' q' => q acc' H' n' (s1.trans s') (fun b o k1 k2 k3 => f' b o k1 k2 (f1 b o k2 k3)) d' A' nd' q'
def eSort {α : Type} (kd_back : α → PyData) (lt : α → α → Bool) (it : AD) (g : GD) (p : TD) (body : DEnv → List α → M (List α)) (own : List Nat) : ED := fun ρ n Q => it ρ n fun xs n1 => loopD g p body (wipeD ρ own) xs [] n1 fun acc n2 => Q (.list ((sortU lt acc).map kd_back)) n2
abbrev rSortU (K : PySem.W.Frag) (P : Program) (w : World) : List V → Hp → VK → Prop := fun xs H Q => rSortS w xs H Q ∨ rSortT K P w xs H Q
omit [TbC] in
theorem cr_sortU (hc : X.calm = true) : CallR X (.builtin "sorted") (rSortU X.K X.prog X.w) := CallR.or (cr_sortS hc) (cr_sortT hc)
theorem rd_sort {kd : SK X.prog X.w X.K α} {it : AD} {g : GD} {p : TD} {body : DEnv → List α → M (List α)} {vs own : List Nat} {ti : Addr → TIn} (hvs : ∀ i ∈ vs, i ∈ own) (hb : InW kd.toSB ti body) :
    RdE X.K (tCB (rSortU X.K X.prog X.w) (tCons (tSet X.prog X.w (tWI X.K it) (tWG X.K vs g) (tWT X.K p) ti own) tNil)) (eSort kd.back kd.lt it g p body own) := by
  intro dk OB H0 O H σ ρ n Q Qd S hw k
  refine ⟨dk, OB, H0, O, ρ, n, _, S, hw, fun J H1 n1 xs f1 d1 io hq D nD => ?_⟩
  obtain ⟨o0, hnew, A0⟩ := kd.new (O := O) nD
  have S1 := S.step f1 d1
  have SA := S1.acc (o := o0) nD (by
    obtain ⟨o, e, t⟩ := kd.use A0
    rw [upd_same] at e
    rw [Option.some.inj e]
    exact t)
  have e0 : Same (hid O H1) (hid (add O D) (upd H1 D o0)) := by
    rw [hid_add nD]
    exact Same.refl _
  have io' : ItOk X.K (add O D) (upd H1 D o0) J xs := fun i O' H' s dm => io i O' H' (e0.trans s) dm
  have tu := turns_D (own := own) hvs hb SA add_self (d1.new nD) (S1.fresh nD) A0 List.nodup_nil io' hq (Last := fun H' => (rSortU X.K X.prog X.w) [.ref D] H' Q) fun acc' H' n' s' f' d' A' nd' q' => ?_
  · obtain ⟨W, m0, w0, t⟩ := tu
    exact ⟨o0, hnew, W, m0, w0, t⟩
  · refine kd.srt A' nd' fun q vs nq r => ?_
    have f12 : FrD dk H1 H' := fun b o h1 h2 => f' b o (ne_of_none h2 nD) h1 (same_new nD _ _ h2)
    have dm : Dom O H' := (S1.step f12 d').dom
    have r' : RpAll X.K (hid O H') vs ((sortU kd.lt acc').map kd.back) := RpAll.same (hid_sub fun b h => add_of h) _ _ r
    exact k _ _ _ n' ((f1.trans f12).trans (FrD.of (same_new nq))) (d'.same (same_new nq)) (.lst (hid_new dm nq) (RpAll.same (hid_same (same_new nq)) _ _ r')) q'
end
end My
namespace My
open PySem PySem.Spec PyProof.Rows L2
variable [TbC]
def appW (e : ED) : DEnv → List PyData → M (List PyData) := fun ρ acc n Q => e ρ n fun y n1 => acc.length < lim ∧ Q (acc ++ [y]) n1
section
variable {K : PySem.W.Frag}
def eLc2 (it : AD) (g : GD) (p : TD) (it1 : AD) (g1 : GD) (p1 : TD) (e : ED) (own vs1 : List Nat) : ED := fun ρ n Q => it ρ n fun xs n1 =>
  loopD g p (twoW it1 g1 p1 (appW e) vs1) (wipeD ρ own) xs [] n1 fun ys n2 => Q (.list ys) n2
end
section
variable {X : Cx}
section
variable {α : Type} [DecidableEq α]
theorem qd_sort2 (kd : SK X.prog X.w X.K α) {elt tg iter tg1 iter1 : Expr} {ifs ifs1 : List Expr} {scope : Scope} {own : List (Str × Nat)} {vs1 : List Nat} {q1 pos pos2 : Pos} {it it1 : AD} {g g1 : GD} {p p1 : TD} {e : ED} {vs w1 : List Nat} (hg0 : Gl X "sorted") (hm0 : X.mg "sorted" = none) (hc : X.calm = true) (hN : X.N.Nodup) (hu : X.A.units + 64 < cLine) (hi : PDI X tg iter it) (ok : BlkOk X.N X.env.scope scope own)
    (hv : ∀ i ∈ vs1, i ∈ own.map (·.2)) (hvs : ∀ i ∈ vs, i ∈ own.map (·.2)) (hw1 : ∀ i ∈ w1, i ∈ vs1)
    (hg : ∀ (s : Shared) (H : Hp) (C : Addr) (cl : List (Str × Addr)) (fp : List Addr), PDG (X.blk s H scope (compEnvC scope cl C X.env) fp) tg vs g) (ht : ∀ (s : Shared) (H : Hp) (C : Addr) (cl : List (Str × Addr)) (fp : List Addr), PTs (X.blk s H scope (compEnvC scope cl C X.env) fp) ifs (tWT X.K p))
    (hi1 : ∀ (s : Shared) (H : Hp) (C : Addr) (cl : List (Str × Addr)) (fp : List Addr), PDI (X.blk s H scope (compEnvC scope cl C X.env) fp) tg1 iter1 it1)
    (hg1 : ∀ (s : Shared) (H : Hp) (C : Addr) (cl : List (Str × Addr)) (fp : List Addr), PDG (X.blk s H scope (compEnvC scope cl C X.env) fp) tg1 w1 g1) (ht1 : ∀ (s : Shared) (H : Hp) (C : Addr) (cl : List (Str × Addr)) (fp : List Addr), PTs (X.blk s H scope (compEnvC scope cl C X.env) fp) ifs1 (tWT X.K p1))
    (he : ∀ (s : Shared) (H : Hp) (C : Addr) (cl : List (Str × Addr)) (fp : List Addr), PD (X.blk s H scope (compEnvC scope cl C X.env) fp) elt e) (hs : ∀ x, foldedSetIterable iter X.env x = pure x := by intro _; rfl) (hs1 : ∀ env x, foldedSetIterable iter1 env x = pure x := by intro _ _; rfl)
    (h1 : starEach [.SetComp elt [⟨tg, iter, ifs, 0⟩, ⟨tg1, iter1, ifs1, 0⟩] scope pos] X.env = (false, eval (.SetComp elt [⟨tg, iter, ifs, 0⟩, ⟨tg1, iter1, ifs1, 0⟩] scope pos) X.env) :: starEach [] X.env := by rfl) :
    PD X (.Call (.Name "sorted" q1) [.SetComp elt [⟨tg, iter, ifs, 0⟩, ⟨tg1, iter1, ifs1, 0⟩] scope pos] [] pos2) (eSort kd.back kd.lt it g p (twoW it1 g1 p1 (putW kd.view e) vs1) (own.map (·.2))) :=
  qd_mk (pe_callB (cr_sortU hc) hg0 hm0 PyProof.Rows.boot_sorted (pa_cons (pe_sq2 hc hN hu hi ok hv hg ht hi1 hg1 ht1 he hs hs1) pa_nil h1) (he := h1)) (rd_sort hvs (inW_two hw1 inW_put))
def viewAll (view : PyData → Option α) : List PyData → Option (List α)
  | [] => some []
  | d :: ds => (view d).bind fun k => (viewAll view ds).map (k :: ·)
def eSortSet (kd_view : PyData → Option α) (kd_back : α → PyData) (lt : α → α → Bool) (e : ED) : ED := fun ρ n Q => e ρ n fun x n1 => ∃ xs ks, (x = .list xs ∨ x = .tuple xs) ∧ viewAll kd_view xs = some ks ∧ (ddU ks).length < 63 ∧ Q (.list ((sortU lt (ddU ks)).map kd_back)) n1
end
omit [TbC] in
theorem rps_viewS {K : PySem.W.Frag} {H : Hp} : ∀ {us : List V} {ds : List PyData} {ks : List Str}, RpAll K H us ds → viewAll vS ds = some ks → us = ks.map V.str
  | _, _, _, .nil, e => by cases e; rfl
  | _, _, _, .cons (d := d) h t, e => by
    obtain ⟨k, e1, e2⟩ := Option.bind_eq_some_iff.mp e
    obtain ⟨r, e3, e4⟩ := Option.map_eq_some_iff.mp e2
    subst e4
    cases d with
    | str b =>
      cases e1
      cases h
      rw [rps_viewS t e3, List.map_cons]
    | _ => cases e1
omit [TbC] in
theorem rps_viewT {K : PySem.W.Frag} {H : Hp} : ∀ {us : List V} {ds : List PyData} {ks : List (List Str)}, RpAll K H us ds → viewAll vT ds = some ks → ∃ L : List (Addr × List Str), us = L.map (fun q => V.ref q.1) ∧ L.map (·.2) = ks ∧ ∀ q ∈ L, SqT K H q.1 (q.2.map V.str) ∧ q.2 ≠ []
  | _, _, _, .nil, e => by
    cases e
    exact ⟨[], rfl, rfl, fun q h => nomatch h⟩
  | _, _, _, .cons (d := d) h t, e => by
    obtain ⟨k, e1, e2⟩ := Option.bind_eq_some_iff.mp e
    obtain ⟨r, e3, e4⟩ := Option.map_eq_some_iff.mp e2
    subst e4
    obtain ⟨a, rfl, hs, ne, _⟩ := rp_T h e1
    obtain ⟨L, z1, z2, z3⟩ := rps_viewT t e3
    refine ⟨(a, k) :: L, by rw [z1, List.map_cons], by rw [List.map_cons, z2], fun q hq => ?_⟩
    rcases List.mem_cons.mp hq with rfl | hq
    · exact ⟨hs, ne⟩
    · exact z3 q hq
theorem qd_sortsetS {e : Expr} {w : ED} {p1 p2 q1 q2 : Pos} (hu : X.A.units + 64 < cLine) (hc : X.calm = true) (hg0 : Gl X "sorted") (hm0 : X.mg "sorted" = none) (hg1 : Gl X "set") (hm1 : X.mg "set" = none) (he : PD X e w)
    (h1 : starEach [e] X.env = (false, eval e X.env) :: starEach [] X.env := by rfl) (h2 : starEach [.Call (.Name "set" p1) [e] [] p2] X.env = (false, eval (.Call (.Name "set" p1) [e] [] p2) X.env) :: starEach [] X.env := by rfl) :
    PD X (.Call (.Name "sorted" q1) [.Call (.Name "set" p1) [e] [] p2] [] q2) (eSortSet vS bS ltS w) :=
  qd_mk (pe_callB (cr_sortU hc) hg0 hm0 PyProof.Rows.boot_sorted (pa_cons (pe_callTy (cr_setS2 hc) hg1 hm1 PyProof.Rows.boot_set (pa_cons he pa_nil h1) (he := h1)) pa_nil h2) (he := h2)) fun {dk OB H0 O H σ ρ n Q Qd} S hw k => rd_W S hw fun v d H1 n1 f1 d1 r1 ⟨xs, ks, ex, ek, few, q⟩ => by
    have dm := (S.step f1 d1).dom
    obtain ⟨a, us, rfl, hs, ha⟩ : ∃ a us, v = .ref a ∧ (SqL X.K H1 a us ∨ SqT X.K H1 a us) ∧ RpAll X.K (hid O H1) us xs := by
      rcases ex with rfl | rfl
      · cases r1 with
        | lst hs ha => exact ⟨_, _, rfl, .inl (.inl (.inl (hid_le _ _ hs))), ha⟩
      · cases r1 with
        | tup hs ha => exact ⟨_, _, rfl, .inr (same_seqT hid_le hs), ha⟩
    have eu := rps_viewS ha ek
    subst eu
    refine ⟨a, ks, rfl, hs, (fun ys nd sub => Nat.lt_of_le_of_lt (nd_le nd fun y hy => ddU_mem.mpr (sub y hy)) few), fun b zs hz nb => .inl ⟨b, zs, rfl, upd_same, fun ys p asc pm np => ?_⟩⟩
    have e2 : ys = sortU ltS (ddU ks) := sortU_is tot_str (ddU_nd ks) asc fun x => (pm.mem_iff.trans (hz x)).trans ddU_mem.symm
    subst e2
    have s1 := (same_new (o := SetS X.w b zs) nb).trans (same_new (o := .lst ((sortU ltS (ddU ks)).map V.str)) np)
    refine k _ _ _ n1 (f1.trans (FrD.of s1)) (d1.same s1) (.lst (hid_at ?_ upd_same) ?_) q
    · exact (dm.same (same_new nb)).new np
    · rw [show (sortU ltS (ddU ks)).map bS = (sortU ltS (ddU ks)).map PyData.str from rfl]
      exact rps_back _
theorem qd_sortsetT {e : Expr} {w : ED} {p1 p2 q1 q2 : Pos} (hu : X.A.units + 64 < cLine) (hc : X.calm = true) (hg0 : Gl X "sorted") (hm0 : X.mg "sorted" = none) (hg1 : Gl X "set") (hm1 : X.mg "set" = none) (he : PD X e w)
    (h1 : starEach [e] X.env = (false, eval e X.env) :: starEach [] X.env := by rfl) (h2 : starEach [.Call (.Name "set" p1) [e] [] p2] X.env = (false, eval (.Call (.Name "set" p1) [e] [] p2) X.env) :: starEach [] X.env := by rfl) :
    PD X (.Call (.Name "sorted" q1) [.Call (.Name "set" p1) [e] [] p2] [] q2) (eSortSet vT bT' ltK w) :=
  qd_mk (pe_callB (cr_sortU hc) hg0 hm0 PyProof.Rows.boot_sorted (pa_cons (pe_callTy (cr_setT2 hc hu) hg1 hm1 PyProof.Rows.boot_set (pa_cons he pa_nil h1) (he := h1)) pa_nil h2) (he := h2)) fun {dk OB H0 O H σ ρ n Q Qd} S hw k => rd_W S hw fun v d H1 n1 f1 d1 r1 ⟨xs, ks, ex, ek, few, q⟩ => by
    have dm := (S.step f1 d1).dom
    obtain ⟨a, us, rfl, hs, ha⟩ : ∃ a us, v = .ref a ∧ (SqL X.K H1 a us ∨ SqT X.K H1 a us) ∧ RpAll X.K (hid O H1) us xs := by
      rcases ex with rfl | rfl
      · cases r1 with
        | lst hs ha => exact ⟨_, _, rfl, .inl (.inl (.inl (hid_le _ _ hs))), ha⟩
      · cases r1 with
        | tup hs ha => exact ⟨_, _, rfl, .inr (same_seqT hid_le hs), ha⟩
    obtain ⟨L, rfl, el, hl⟩ := rps_viewT ha ek
    have ll : L.length = ks.length := by
      have z := congrArg List.length el
      rw [List.length_map] at z
      exact z
    refine ⟨a, L, rfl, hs, (fun ys nd sub => Nat.lt_of_le_of_lt (nd_le nd fun y hy => ddU_mem.mpr (by rw [← el]; exact sub y hy)) few), fun p hp => same_seqT hid_le (hl p hp).1, fun b M hM hk nb => .inr ⟨b, M, rfl, upd_same, fun p hp => ?_, fun L' p pm asc np => ?_⟩⟩
    · exact ⟨same_seqT (same_new nb) (same_seqT hid_le (hl p (hM p hp)).1), (hl p (hM p hp)).2⟩
    have e2 : L'.map (·.2) = sortU ltK (ddU ks) := sortU_is tot_key (ddU_nd ks) asc fun x => (((pm.map (·.2)).mem_iff).trans (hk x)).trans (by rw [el]; exact ddU_mem.symm)
    have s1 := (same_new (o := SetT X.prog X.w b M) nb).trans (same_new (o := .lst (L'.map fun q => V.ref q.1)) np)
    refine k _ _ _ n1 (f1.trans (FrD.of s1)) (d1.same s1) (.lst (hid_at ?_ upd_same) ?_) q
    · exact (dm.same (same_new nb)).new np
    · rw [← e2]
      exact rps_keys fun z hz => ⟨same_seqT (hid_same s1) (hl z (hM z (pm.mem_iff.mp hz))).1, (hl z (hM z (pm.mem_iff.mp hz))).2⟩
end
end My
namespace My
open PySem PySem.Spec PyProof.Rows L2
variable [TbC]
open RZ (ItzT iZipA pi_zipA)
def spW (K : PySem.W.Frag) (W : List PyData → M PyData) : Sp := fun vs H Q _ => ∃ (D : DkI) (O : Addr → Bool) (n : Nat) (ds : List PyData) (vs' : List V) (Qd : PyData → Nat → Prop), vs = .ref D.d :: vs' ∧ Car O H ∧ O D.d = true ∧ DkOk (some D) n H ∧ RpAll K (hid O H) vs' ds ∧ W ds n Qd ∧
  ∀ v d H' n', FrD (some D) H H' → DkOk (some D) n' H' → Rp K (hid O H') v d → Qd d n' → Q v H'
def eCallW (i : Nat) (W : List PyData → M PyData) (ws : AD) : ED := fun ρ n Q => ρ[i]? = some (some .dk) ∧ ws ρ n fun xs n1 => W xs n1 Q
theorem rd_callW {K : PySem.W.Frag} {W : List PyData → M PyData} {i : Nat} {ts : TA} {ws : AD} {E : XK} (hs : RdA K ts ws) : RdE K (tCall (spW K W) [] E (tCons (tVar i) ts)) (eCallW i W ws) := fun {dk OB H0 O H σ ρ n Q Qd} S hw k => by
  obtain ⟨ei, hw⟩ := hw
  obtain ⟨v, e1, D, ed, ev⟩ := S.sl _ _ ei
  subst ed ev
  refine ⟨_, e1, hs S hw fun vs ds H1 n1 f1 d1 r1 q => ?_⟩
  refine ⟨D, O, n1, ds, vs, Qd, by rw [List.append_nil], (S.step f1 d1).car, S.dO _ (.inl ⟨D, rfl, rfl⟩), d1, r1, q, fun v d H' n' f d' r q' => k v d H' n' (f1.trans f) d' r q'⟩
theorem qd_callW {X : Cx} {CX : CXT} {k : Nat} {f : Addr} {fd : FuncData} {ps : List Str} {W : List PyData → M PyData} {i : Nat} {x : Str} {e : Expr} {es : List Expr} {ws : AD} {p pos : Pos} {E : XK} (G : FnOk X.prog X.w X.K X.mg X.base CX k f fd ps (spW X.K W)) (hr : Room k X.A) (hg : Gl X x) (hm : X.mg x = some (.ref f))
    (hk : PySem.W.keepIn X.K (.ref f) = true) (hb : Binds X.K fd ps []) (hx : Passes CX X E) (h0 : PE X e (tVar i)) (ha : PDA X es ws) (hdb : (x == ("__debug__" : Str)) = false := by decide) (he : starEach (e :: es) X.env = (false, eval e X.env) :: starEach es X.env := by rfl) (hpl : (backTo pos (starEach es X.env)).any (·.1) = false := by rfl) :
    PD X (.Call (.Name x p) (e :: es) [] pos) (eCallW i W ws) := qd_mk (pe_call G hr hg hm hk hb .nil hx (pa_cons h0 ha he) hdb he hpl) (rd_callW rda_W)
def startW (N : List Str) (ds : List PyData) : DEnv := some .dk :: (ds.map (fun d => some (.d d)) ++ List.replicate (N.length - (ds.length + 1)) none)
theorem str_startW {K : PySem.W.Frag} {D : DkI} {O : Addr → Bool} {H : Hp} {vs : List V} {ds : List PyData} {n : Nat} (N : List Str) (d : Car O H) (hd : O D.d = true) (dok : DkOk (some D) n H) (r : RpAll K (hid O H) vs ds) : StR K (some D) O H O H (L2.start N (.ref D.d :: vs)) (startW N ds) n where
  len := by
    unfold L2.start startW
    have z := r.len
    simp only [List.length_append, List.length_cons, List.length_map, List.length_replicate]
    omega
  ob := fun _ h => h
  od := d.dom
  dom := d.dom
  dkO := fun b h => by
    rcases h with ⟨E, e, e2⟩ | h
    · cases e
      rw [e2]
      exact hd
    · exact d.own b h
  fr := FrD.refl H
  dok := dok
  sl := fun i s e => by
    unfold startW at e
    unfold L2.start
    cases i with
    | zero =>
      cases e
      exact ⟨.ref D.d, rfl, D, rfl, rfl⟩
    | succ i =>
      rw [List.getElem?_cons_succ] at e
      rw [List.map_cons, List.cons_append, List.getElem?_cons_succ]
      by_cases l : i < ds.length
      · rw [List.getElem?_append_left (by rw [List.length_map]; exact l), List.getElem?_map] at e
        obtain ⟨x, e1, e2⟩ := Option.map_eq_some_iff.mp e
        cases e2
        obtain ⟨v, z1, z2⟩ := r.at e1
        exact ⟨v, by rw [List.getElem?_append_left (by rw [List.length_map, r.len]; exact l), List.getElem?_map, z1]; rfl, z2⟩
      · rw [List.getElem?_append_right (by rw [List.length_map]; omega), List.getElem?_replicate] at e
        split at e
        · cases e
        · cases e
  dis := fun i j p s s' ne e1 e2 o1 o2 => by
    have z : ∀ {i : Nat} {s : Sv}, (startW N ds)[i]? = some (some s) → s.own = true → False := fun {i s} e o => by
      unfold startW at e
      cases i with
      | zero => cases e; cases o
      | succ i =>
        rw [List.getElem?_cons_succ] at e
        by_cases l : i < ds.length
        · rw [List.getElem?_append_left (by rw [List.length_map]; exact l), List.getElem?_map] at e
          obtain ⟨x, e1, e2⟩ := Option.map_eq_some_iff.mp e
          cases e2
          cases o
        · rw [List.getElem?_append_right (by rw [List.length_map]; omega), List.getElem?_replicate] at e
          split at e
          · cases e
          · cases e
    exact (z e1 o1).elim
def endW (Qd : PyData → Nat → Prop) : EndsD := ⟨fun _ n => Qd .none n, Qd, fun _ _ => False, fun _ _ => False⟩
theorem fn_okW {P : Program} {w : World} {K : PySem.W.Frag} {mg : Str → Option Value} {base : Heap} {x qual : Str} {st : Stmt} {f : Addr} {fd : FuncData} {N ps : List Str} {k : Nat} {Wd : List PyData → M PyData} {W : SD} (F : Fun K x qual st f fd) (S : FnScope N ps (defScope st))
    (hw : ∀ (cdv : Value) (A : Around) (outer : List Env) (s : Shared) (H : Hp) (E : XK), Room k (A.deeper (envOfC qual (defScope st) s.heap.objs.size f cdv)) → PSDs (cxOf CX0 P w K mg base N qual (defScope st) f cdv A outer s H E).nox (defBody st) W)
    (hl : ∀ ds n Qd, Wd ds n Qd → ds.length + 1 = ps.length) (hF : ∀ ds n Qd, Wd ds n Qd → W (startW N ds) n (endW Qd)) : FnOk P w K mg base CX0 (k + 1) f fd ps (spW K Wd) := by
  refine F.ok S (fun vs H Q E h => ?_) (fun cdv A outer s H vs Q E hr h => ?_)
  · obtain ⟨D, O, n, ds, vs', Qd, rfl, _, _, _, r, q, _⟩ := h
    rw [List.length_cons, r.len]
    exact hl ds n Qd q
  · obtain ⟨D, O, n, ds, vs', Qd, rfl, dm, hd, dok, r, hq, q⟩ := h
    refine ⟨_, hw cdv A outer s H E hr, some D, O, H, O, _, n, endW Qd, str_startW N dm hd dok r, hF ds n Qd hq, ?_⟩
    refine ⟨fun O' H' σ' ρ' n' S' s' z => ?_, fun v d' H' n' f1 d1 r1 z => ?_, fun _ _ _ _ _ _ _ z => z.elim, fun _ _ _ _ _ _ _ z => z.elim⟩
    · exact q .non .none H' n' S'.fr S'.dok .non z
    · exact q v d' H' n' f1 d1 r1 z
def W_draw : List PyData → M PyData := fun ds n Q => ∃ m : Int, ds = [.int m] ∧ 0 < m ∧ m < 1073741824 ∧ n < 1073741824 ∧ ∀ v : Int, 0 ≤ v → v < m → Q (.int v) (n + 1)
def W_one : List PyData → M PyData := fun ds n Q => ∃ xs x, ds = [x] ∧ itemsD x = some xs ∧ noDict x = true ∧ xs ≠ [] ∧ xs.length ≤ lim ∧ n < 1073741824 ∧ ∀ y ∈ xs, Q y (n + 1)
def reprOk (x : PyData) : Prop := flatD x = true ∧ x.showable = true ∧ x.depth ≤ 60 ∧ x.shown.length ≤ sizeLine
def eRepr (w : ED) : ED := fun ρ n Q => w ρ n fun x n1 => reprOk x ∧ Q (.str x.shown) n1
theorem qd_repr {X : Cx} {e : Expr} {w : ED} {p pos : Pos} (hgu : X.A.guards = some []) (hu : X.A.units + 64 < cLine) (hg : Gl X "repr") (hm : X.mg "repr" = none) (he : PD X e w) (h1 : starEach [e] X.env = (false, eval e X.env) :: starEach [] X.env := by rfl) : PD X (.Call (.Name "repr" p) [e] [] pos) (eRepr w) :=
  qd_mk (pe_callB (cr_repr hgu hu) hg hm boot_repr (pa_cons he pa_nil h1) (he := h1)) fun S hw k => rd_W S hw fun v d H1 n1 f1 d1 r1 ⟨⟨a, b, c, e⟩, q⟩ => ⟨v, d, rfl, Rp.dp _ _ a (Rp.same hid_le _ _ r1), b, c, e, k _ _ H1 n1 f1 d1 (.str _) q⟩
def noPair (xs ys : List PyData) : Bool := (xs.zip ys).all fun p => !(pairLike p.1 && pairLike p.2)
def iZ (w : AD) : AD := fun ρ n Q => w ρ n fun ds n1 => ∃ xs ys, (ds = [.list xs, .list ys] ∨ ds = [.tuple xs, .tuple ys]) ∧ noPair xs ys = true ∧ Q ((xs.zip ys).map fun p => .tuple [p.1, p.2]) n1
end My
namespace My
open PySem PySem.Spec PyProof.Rows L2
variable [TbC]
def spLaw (K : PySem.W.Frag) : Sp := fun vs H Q _ => ∃ (a : Addr) (ns : List Int), vs = [.ref a] ∧ SqL K H a (ns.map V.int) ∧ ns.length ≤ 63 ∧ (∀ p ∈ TbC.T, H p.1 = some (.tbl #[])) ∧ ∀ H', Q (.bl true) H'
def spDk (K : PySem.W.Frag) : Sp := fun vs H Q _ => ∃ (a : Addr) (ns : List Int), vs = [.ref a] ∧ SqL K H a (ns.map V.int) ∧ ns.length ≤ 63 ∧ ∀ (d l : Addr) (ms : List Int) (H' : Hp), Deck H' d l ms 0 → H d = none → H l = none → ms.length ≤ 63 → Same H H' → Q (.ref d) H'
def startL (N : List Str) : DEnv := none :: some .dk :: List.replicate (N.length - 2) none
def endL : EndsD := ⟨fun _ _ => False, fun x _ => x = .bool true, fun _ _ => False, fun _ _ => False⟩
theorem law_ok {P : Program} {w : World} {K : PySem.W.Frag} {mg : Str → Option Value} {base : Heap} {st : Stmt} {f : Addr} {fd : FuncData} {N : List Str} {k : Nat} {W : SD} {E0' : XK} (hN : 2 ≤ N.length) (F : Fun K "law" "law" st f fd) (S : FnScope N ["_law_script"] (defScope st))
    (hw : ∀ (cdv : Value) (A : Around) (outer : List Env) (s : Shared) (H : Hp) (E : XK), A.guards = some [] → Room k (A.deeper (envOfC "law" (defScope st) s.heap.objs.size f cdv)) → ∃ st0 rest, defBody st = st0 :: rest ∧ PS (cxOf CX0 P w K mg base N "law" (defScope st) f cdv A outer s H E).nox st0 (tAsg (tCall (spDk K) [] E0' (tCons (tVar 0) tNil)) (gName 1)) ∧
      PSDs (cxOf CX0 P w K mg base N "law" (defScope st) f cdv A outer s H E).nox rest W)
    (hF : W (startL N) 0 endL) : RunG P w K mg base (k + 1) f fd ["_law_script"] (spLaw K) := by
  refine runG F S (fun vs H Q E h => ?_) (fun cdv A outer s H vs Q E hgu hr h => ?_)
  · obtain ⟨a, ns, rfl, _⟩ := h
    rfl
  · obtain ⟨a, ns, rfl, hS, hn, hT, q⟩ := h
    obtain ⟨st0, rest, eb, h0, h1⟩ := hw cdv A outer s H E hgu hr
    rw [eb]
    refine ⟨_, pss_cons h0 h1, ?_⟩
    refine ⟨.ref a, ?_, a, ns, rfl, hS, hn, fun d l ms H1 D1 nd nl hm s1 => ?_⟩
    · unfold L2.start
      rfl
    have tb : TbOk H1 := fun p hp => (LamX.TabS.nil (q := p.2) (hT p hp)).ext s1
    have ow : ∀ b, tA b → (decide (b = d) || decide (b ∈ (TbC.T.map fun p => p.1))) = true := fun b ⟨x, hx⟩ => by
      rw [decide_eq_true (List.mem_map.mpr ⟨_, hx, rfl⟩), Bool.or_true]
    refine ⟨some ⟨d, l, ms⟩, fun b => decide (b = d) || decide (b ∈ (TbC.T.map fun p => p.1)), H1, fun b => decide (b = d) || decide (b ∈ (TbC.T.map fun p => p.1)), startL N, 0, endL, ?_, hF, ?_⟩
    · have dm : Dom (fun b => decide (b = d) || decide (b ∈ (TbC.T.map fun p => p.1))) H1 := fun b e => by
        rcases Bool.or_eq_true_iff.mp e with e | e
        · rw [of_decide_eq_true e]
          obtain ⟨⟨_, _, _, z, _⟩, _⟩ := D1
          exact ⟨_, z, nt_lst⟩
        · obtain ⟨p, hp, rfl⟩ := List.mem_map.mp (of_decide_eq_true e)
          exact ⟨_, s1 _ _ (hT p hp), nt_tbl⟩
      refine ⟨?_, fun _ h => h, dm, dm, fun b h => ?_, FrD.refl H1, ⟨⟨D1, hm⟩, tb⟩, fun i s e => ?_, fun i j p s s' ne e1 e2 o1 o2 => ?_⟩
      · unfold L2.start startL
        simp only [List.length_set, List.length_append, List.length_cons, List.length_map, List.length_nil, List.length_replicate]
        omega
      · rcases h with ⟨E, e, e2⟩ | h
        · cases e
          show (decide (b = d) || _) = true
          rw [decide_eq_true e2, Bool.true_or]
        · exact ow b h
      · have z : ∀ {i : Nat} {s : Sv}, (startL N)[i]? = some (some s) → i = 1 ∧ s = .dk := fun {i s} e => by
          unfold startL at e
          match i, e with
          | 0, e => cases e
          | 1, e => cases e; exact ⟨rfl, rfl⟩
          | i + 2, e =>
            rw [List.getElem?_cons_succ, List.getElem?_cons_succ, List.getElem?_replicate] at e
            split at e <;> cases e
        obtain ⟨rfl, rfl⟩ := z e
        refine ⟨.ref d, ?_, ⟨d, l, ms⟩, rfl, rfl⟩
        rw [List.getElem?_set_self]
        unfold L2.start
        simp only [List.length_append, List.length_cons, List.length_map, List.length_nil, List.length_replicate]
        omega
      · have z : ∀ {i : Nat} {s : Sv}, (startL N)[i]? = some (some s) → s.own = true → False := fun {i s} e o => by
          unfold startL at e
          match i, e with
          | 0, e => cases e
          | 1, e => cases e; cases o
          | i + 2, e =>
            rw [List.getElem?_cons_succ, List.getElem?_cons_succ, List.getElem?_replicate] at e
            split at e <;> cases e
        exact (z e1 o1).elim
    · refine ⟨fun _ _ _ _ _ _ _ z => z.elim, fun v x H' n' f d r z => ?_, fun _ _ _ _ _ _ _ z => z.elim, fun _ _ _ _ _ _ _ z => z.elim⟩
      have z' : x = .bool true := z
      subst z'
      cases r
      exact q H'
end My
namespace My
open PySem PySem.Spec PyProof.Rows L2
def spDeck (K : PySem.W.Frag) : Sp := fun vs H Q _ => ∃ (a : Addr) (ns : List Int), vs = [.ref a] ∧ SqL K H a (ns.map V.int) ∧ ns.length ≤ 63 ∧ ∀ (d l : Addr) (ms : List Int) (H' : Hp), Deck H' d l ms 0 → H d = none → H l = none → ms.length ≤ 63 → Same H H' → Q (.ref d) H'
def spDraw : Sp := fun vs H Q _ => ∃ (d l : Addr) (ns : List Int) (k : Nat) (m : Int), vs = [.ref d, .int m] ∧ 0 < m ∧ m < 1073741824 ∧ Deck H d l ns k ∧ ns.length ≤ 63 ∧ k < 1073741824 ∧
  ∀ (v : Int) (H' : Hp), 0 ≤ v → v < m → Deck H' d l ns (k + 1) → Fr d H H' → Q (.int v) H'
def spOne (K : PySem.W.Frag) : Sp := fun vs H Q _ => ∃ (d l : Addr) (ns : List Int) (k : Nat) (x : V), vs = [.ref d, x] ∧ Deck H d l ns k ∧ ns.length ≤ 63 ∧ k < 1073741824 ∧
  ((∃ (p : Addr) (xs : List V), x = .ref p ∧ p ≠ d ∧ (SqL K (off d H) p xs ∨ SqT K (off d H) p xs) ∧ xs ≠ [] ∧ xs.length < 1000000 ∧
    ∀ (j : Nat) (v : V) (H' : Hp), xs[j]? = some v → Deck H' d l ns (k + 1) → Fr d H H' → Q v H') ∨
   (∃ z : Str, x = .str z ∧ 0 < z.length ∧ z.length < 1000000 ∧ ∀ (c : Nat) (H' : Hp), c ∈ z.cps.toList → Deck H' d l ns (k + 1) → Fr d H H' → Q (.str ⟨#[c]⟩) H'))
theorem dps_ints {K : PySem.W.Frag} {H : Hp} : ∀ ns : List Int, DpAll K H (ns.map V.int) (ns.map PyData.int)
  | [] => .nil
  | z :: zs => .cons (.int z) (dps_ints zs)
theorem ints_lay : ∀ ns : List Int, PyData.canLayAll0 (ns.map PyData.int) = true
  | [] => by simp [PyData.canLayAll0]
  | z :: zs => by
    have h := ints_lay zs
    simp [PyData.canLayAll0, PyData.canLay0, h]
theorem ints_depth : ∀ ns : List Int, PyData.depthAll (ns.map PyData.int) = 0
  | [] => by simp [PyData.depthAll]
  | z :: zs => by
    have h := ints_depth zs
    simp [PyData.depthAll, PyData.depth, h]
theorem ints_shaped (ns : List Int) : SeqAt.shaped (.list (ns.map PyData.int)) = true := by
  unfold SeqAt.shaped
  rw [Bool.and_eq_true]
  refine ⟨?_, decide_eq_true ?_⟩
  · simp only [PyData.canLay0]
    exact ints_lay ns
  · simp only [PyData.depth, ints_depth]
    omega
theorem place {i : Int} {n : Nat} (h : 0 < n) : ∃ j : Nat, i % (n : Int) = (j : Int) ∧ j < n := by
  have h1 : 0 ≤ i % (n : Int) := Int.emod_nonneg i (by omega)
  have h2 : i % (n : Int) < (n : Int) := Int.emod_lt_of_pos i (by omega)
  exact ⟨(i % (n : Int)).toNat, by omega, by omega⟩
theorem mix_ok {x1 n : Int} (m0 : 0 ≤ x1) (m1 : x1 < 2147483629) (h0 : 0 ≤ n) (h1 : n ≤ 1073741824) : (-(2 ^ 64) < x1 ∧ x1 < 2 ^ 64) ∧ (x1 * (2 * (n + 1) + 7) + 6151).natAbs < 2 ^ 64 := by
  have pr : x1 * (2 * (n + 1) + 7) ≤ (2147483629 : Int) * 4294967296 := Int.mul_le_mul (by omega) (by omega) (by omega) (by omega)
  have pr0 : 0 ≤ x1 * (2 * (n + 1) + 7) := Int.mul_nonneg m0 (by omega)
  refine ⟨by omega, ?_⟩
  generalize x1 * (2 * (n + 1) + 7) = z at pr pr0 ⊢
  omega
end My
namespace My
open PySem PySem.Spec PyProof.Rows L2
open TL (tl joinL join_eq tl_join)
def six : List Nat := [97, 98, 99, 109, 121, 122]
structure Wd0 (x : Str) : Prop where
  pos : 0 < (tl x).length
  few : (tl x).length ≤ 8
  of : ∀ c ∈ tl x, c ∈ six
structure Wd (x : Str) : Prop where
  pos : 0 < (tl x).length
  few : (tl x).length ≤ 8
  of : ∀ c ∈ tl x, c ∈ 113 :: six
theorem Wd0.wd {x : Str} (h : Wd0 x) : Wd x := ⟨h.pos, h.few, fun c m => List.mem_cons_of_mem _ (h.of c m)⟩
theorem joinL_ones : ∀ ps : List Nat, joinL [] (ps.map fun c => [c]) = ps
  | [] => rfl
  | [c] => rfl
  | c :: d :: r => by
    show [c] ++ ([] ++ joinL [] ((d :: r).map fun c => [c])) = _
    rw [joinL_ones (d :: r)]
    rfl
theorem tl_joined (ps : List Nat) : tl (Txt.join "" (ps.map fun c => ⟨#[c]⟩)) = ps := by
  rw [join_eq, tl_join, List.map_map]
  exact joinL_ones ps
def tq (x : Str) : Nat := ((tl x).reverse.takeWhile (· == 113)).length
theorem tq_zero {x : Str} (h : Wd0 x) : tq x = 0 := by
  unfold tq
  cases e : (tl x).reverse with
  | nil => rfl
  | cons c r =>
    have m : c ∈ tl x := List.mem_reverse.mp (by rw [e]; exact List.mem_cons_self)
    have n : (c == 113) = false := by
      have z := h.of c m
      cases q : c == 113 with
      | false => rfl
      | true =>
        rw [eq_of_beq q] at z
        exact absurd z (by decide)
    rw [List.takeWhile_cons, n]
    rfl
theorem tq_snoc {x y : Str} (h : tl y = tl x ++ [113]) : tq y = tq x + 1 := by
  unfold tq
  rw [h, List.reverse_append]
  rfl
theorem takeWhile_dropLast {p : Nat → Bool} : ∀ {l : List Nat}, (l.takeWhile p).length < l.length → (l.dropLast.takeWhile p) = l.takeWhile p
  | [], h => absurd h (by simp)
  | [c], h => by
    by_cases e : p c = true
    · simp [e] at h
    · simp [e]
  | c :: d :: r, h => by
    rw [List.dropLast_cons_of_ne_nil (List.cons_ne_nil _ _)]
    by_cases e : p c = true
    · rw [List.takeWhile_cons_of_pos e] at h
      rw [List.takeWhile_cons_of_pos e, List.takeWhile_cons_of_pos e, takeWhile_dropLast (by simpa using h)]
    · rw [List.takeWhile_cons_of_neg e, List.takeWhile_cons_of_neg e]
theorem tq_shift {x y : Str} (h : tl y = (tl x).drop 1 ++ [113]) (lt : tq x < (tl x).length) : tq y = tq x + 1 := by
  unfold tq at lt ⊢
  have e : (tl y).reverse = 113 :: (tl x).reverse.dropLast := by
    rw [h, List.reverse_append, List.dropLast_reverse, List.drop_one]
    rfl
  rw [e, List.takeWhile_cons_of_pos rfl, takeWhile_dropLast (by rw [List.length_reverse]; exact lt)]
  rfl
end My
namespace My
open PySem PySem.Spec PyProof.Rows L2
open TL (tl)
def spWord : Sp := fun vs H Q _ => ∃ (d l : Addr) (ns : List Int) (k : Nat), vs = [.ref d] ∧ Deck H d l ns k ∧ ns.length ≤ 63 ∧ k + 10 < 1073741824 ∧ ∀ (x : Str) (H' : Hp), Wd0 x → Deck H' d l ns (k + 9) → Fr d H H' → Q (.str x) H'
theorem ones_sum : ∀ cs : List Nat, ((cs.map fun c => (⟨#[c]⟩ : Str)).map (·.length)).sum = cs.length
  | [] => rfl
  | c :: r => by
    rw [List.map_cons, List.map_cons, List.sum_cons, ones_sum r, List.length_cons]
    show 1 + _ = _
    omega
theorem Fr.upd_new {d b : Addr} {H H2 H4 : Hp} {o : HO} (f2 : Fr d H H2) (f4 : Fr d H H4) (n : H2 b = none) (hd : b ≠ d) : Fr d H (upd H4 b o) := fun c u hc h => by
  have cb : c ≠ b := fun e => by
    have z := f2 b u hd (by rw [← e]; exact h)
    rw [n] at z
    cases z
  rw [upd_ne cb]
  exact f4 c u hc h
end My
namespace My
open PySem PySem.Spec PyProof.Rows L2
open TL (tl len_tl tl_append)
theorem inV_strs (x : Str) : ∀ xs : List Str, inV (.str x) (xs.map V.str) = decide (x ∈ xs)
  | [] => rfl
  | y :: r => by
    have ih := inV_strs x r
    unfold inV at ih ⊢
    rw [List.map_cons, List.any_cons, ih]
    show ((y == x) || _) = _
    by_cases e : y = x
    · subst e
      simp
    · have n : (y == x) = false := beq_eq_false_iff_ne.mpr e
      have n2 : ¬ x = y := fun z => e z.symm
      simp [n, n2]
theorem flat_strs (xs : List Str) : (xs.map V.str).all flatV = true := by
  rw [List.all_eq_true]
  intro v hv
  obtain ⟨x, _, rfl⟩ := List.mem_map.mp hv
  rfl
theorem tl_cut1 {x : Str} (h : 0 < (tl x).length) : tl (cutS x (some 1) none) = (tl x).drop 1 := by
  have e : x.length = (tl x).length := len_tl x
  unfold cutS
  rw [HT.sIx_none, show HT.sIx x.length 0 (some 1) = min 1 x.length from HT.sIx_nat x.length 0 1, e, Nat.min_eq_left h]
  show ((tl x).drop 1).take _ = _
  exact List.take_of_length_le (by rw [List.length_drop]; exact Nat.le_refl _)
theorem wd_cut {x y : Str} (h : Wd x) (e : tl y = (tl x).drop 1 ++ [113]) : Wd y := by
  have z := h.few
  have z2 := h.pos
  refine ⟨by rw [e, List.length_append]; exact Nat.succ_pos _, ?_, fun c m => ?_⟩
  · rw [e, List.length_append, List.length_drop]
    show _ + 1 ≤ 8
    omega
  · rw [e] at m
    rcases List.mem_append.mp m with m | m
    · exact h.of c (List.mem_of_mem_drop m)
    · rw [List.mem_singleton.mp m]
      exact List.mem_cons_self
theorem wd_snoc {x y : Str} (h : Wd x) (l : (tl x).length < 8) (e : tl y = tl x ++ [113]) : Wd y := by
  refine ⟨by rw [e, List.length_append]; exact Nat.succ_pos _, ?_, fun c m => ?_⟩
  · rw [e, List.length_append]
    exact l
  · rw [e] at m
    rcases List.mem_append.mp m with m | m
    · exact h.of c m
    · rw [List.mem_singleton.mp m]
      exact List.mem_cons_self
def over (i : Nat) (xs : List Str) : Nat := xs.countP fun x => decide (i ≤ tq x)
theorem over_lt {i : Nat} {x : Str} : ∀ {xs : List Str}, x ∈ xs → tq x = i → over (i + 1) xs + 1 ≤ over i xs
  | y :: r, m, e => by
    have le : over (i + 1) r ≤ over i r := List.countP_mono_left fun z _ h => by
      simp only [decide_eq_true_eq] at h ⊢
      omega
    unfold over at le ⊢
    rw [List.countP_cons, List.countP_cons]
    rcases List.mem_cons.mp m with rfl | m
    · have h1 : decide (i ≤ tq x) = true := decide_eq_true (by omega)
      have h2 : decide (i + 1 ≤ tq x) = false := decide_eq_false (by omega)
      rw [h1, h2]
      simp only [if_true, Bool.false_eq_true, if_false]
      omega
    · have ih := over_lt m e
      unfold over at ih
      by_cases h1 : i + 1 ≤ tq y
      · have h2 : i ≤ tq y := by omega
        simp only [h1, h2, decide_true, if_true]
        omega
      · simp only [h1, decide_false, Bool.false_eq_true, if_false]
        omega
def spPool : Sp := fun vs H Q _ => ∃ (d l : Addr) (ns : List Int) (k m : Nat), vs = [.ref d, .int (m : Int)] ∧ m < 8 ∧ Deck H d l ns k ∧ ns.length ≤ 63 ∧ k + 100 < 1073741824 ∧
  ∀ (p : Addr) (xs : List Str) (H' : Hp), xs.length = m → xs.Nodup → (∀ x ∈ xs, Wd x) → H p = none → H' p = some (.lst (xs.map V.str)) → Deck H' d l ns (k + 9 * m) → Fr d H H' → Q (.ref p) H'
end My
namespace My
open PySem PySem.Spec PyProof.Rows L2
open TL (tl len_tl tl_append)
def KindAt (H : Hp) (t : Addr × Str × Nat) : Prop := H t.1 = some (.tup [.str t.2.1, .int (t.2.2 : Int)]) ∧ Wd t.2.1 ∧ 0 < t.2.2 ∧ t.2.2 ≤ 4
theorem Fr.free {d b : Addr} {H H2 : Hp} (f : Fr d H H2) (n : H2 b = none) (hd : b ≠ d) : H b = none := by
  cases e : H b with
  | none => rfl
  | some o =>
    rw [f b o hd e] at n
    cases n
theorem KindAt.fr {d : Addr} {H H2 : Hp} {t : Addr × Str × Nat} (h : KindAt H t) (f : Fr d H H2) (hd : t.1 ≠ d) : KindAt H2 t := ⟨f _ _ hd h.1, h.2⟩
structure Blt2 (mg : Str → Option Value) : Prop where
  tuple : mg "tuple" = none
  sorted : mg "sorted" = none
  set : mg "set" = none
  dict : mg "dict" = none
  isi : mg "isinstance" = none
  str : mg "str" = none
  all : mg "all" = none
end My
namespace My
open PySem PySem.Spec PyProof.Rows L2
open TL (tl len_tl tl_append)
def eight : List Str := ["?1", "?2", "?3", "?9", "?10", "?21", "?500", "?99999"]
def spUnks : Sp := fun vs H Q _ => ∃ (d l : Addr) (ns : List Int) (k m : Nat), vs = [.ref d, .int (m : Int)] ∧ m ≤ 8 ∧ Deck H d l ns k ∧ ns.length ≤ 63 ∧ k + 100 < 1073741824 ∧
  ∀ (p : Addr) (xs : List Str) (H' : Hp), xs.length = m → xs.Nodup → (∀ x ∈ xs, x ∈ eight) → H p = none → H' p = some (.lst (xs.map V.str)) → Deck H' d l ns (k + m) → Fr d H H' → Q (.ref p) H'
def spKinds : Sp := fun vs H Q _ => ∃ (d l : Addr) (ns : List Int) (k : Nat), vs = [.ref d] ∧ Deck H d l ns k ∧ ns.length ≤ 63 ∧ k + 200 < 1073741824 ∧
  ∀ (p : Addr) (ks : List (Addr × Str × Nat)) (H' : Hp), 2 ≤ ks.length → ks.length ≤ 3 → (ks.map (·.2.1)).Nodup → (∀ t ∈ ks, KindAt H' t) → H p = none → H' p = some (.lst (ks.map fun t => V.ref t.1)) → Deck H' d l ns (k + 40) → Fr d H H' → Q (.ref p) H'
theorem erase_perm {α : Type} : ∀ {l : List α} {j : Nat} (h : j < l.length), (l[j] :: l.eraseIdx j).Perm l
  | x :: r, 0, _ => List.Perm.refl _
  | x :: r, j + 1, h => by
    have h' : j < r.length := Nat.lt_of_succ_lt_succ h
    show (r[j] :: x :: r.eraseIdx j).Perm (x :: r)
    exact (List.Perm.swap _ _ _).trans ((erase_perm h').cons x)
theorem map_erase {α β : Type} (f : α → β) : ∀ (l : List α) (j : Nat), (l.map f).eraseIdx j = (l.eraseIdx j).map f
  | [], _ => rfl
  | x :: r, 0 => rfl
  | x :: r, j + 1 => congrArg (f x :: ·) (map_erase f r j)
end My
namespace My
open PySem PySem.Spec PyProof.Rows L2
variable [TbC]
def truthD : PyData → Option Bool
  | .none => some false
  | .bool b => some b
  | .int i => some (i != 0)
  | .str z => if z.length ≤ lim then some ((z.length : Int) != 0) else none
  | .list xs => some (!xs.isEmpty)
  | .tuple xs => some (!xs.isEmpty)
  | .dict _ => none
def bTr (w : ED) : TD := fun ρ n Q => w ρ n fun x n1 => ∃ b, truthD x = some b ∧ Q b n1
theorem frd_fr {D : DkI} {H H' : Hp} (f : Fr D.d H H') : FrD (some D) H H' := fun b o n h => f b o (fun e => n (.inl ⟨D, rfl, e⟩)) h
theorem TbOk.fr1 {D : DkI} {n : Nat} {H H' : Hp} (d : DkOk (some D) n H) (f : Fr D.d H H') : TbOk H' := fun p hp => by
  obtain ⟨⟨_, _, _, e, _⟩, _⟩ := d.1.1
  obtain ⟨ps, e1, tr, c⟩ := d.2 p hp
  refine ⟨ps, f _ _ (fun z => ?_) e1, tr, fun pos cv hc => ?_⟩
  · rw [z, e] at e1
    cases e1
  · obtain ⟨c', h1, h2⟩ := c pos cv hc
    refine ⟨c', h1, f _ _ (fun z => ?_) h2⟩
    rw [z, e] at h2
    cases h2
theorem dom_fr {D : DkI} {O : Addr → Bool} {n : Nat} {H H' : Hp} (d : Dom O H) (f : FrD (some D) H H') (k : DkOk (some D) n H') : Dom O H' := fun b h => by
  by_cases c : dkA (some D) b
  · exact k.domT c
  · obtain ⟨o, e, t⟩ := d b h
    exact ⟨o, f b o c e, t⟩
def W_pool : List PyData → M PyData := fun ds n Q => ∃ m : Nat, ds = [.int (m : Int)] ∧ m < 8 ∧ n + 100 < 1073741824 ∧ ∀ xs : List Str, xs.length = m → xs.Nodup → (∀ x ∈ xs, Wd x) → Q (.list (xs.map PyData.str)) (n + 9 * m)
def W_unks : List PyData → M PyData := fun ds n Q => ∃ m : Nat, ds = [.int (m : Int)] ∧ m ≤ 8 ∧ n + 100 < 1073741824 ∧ ∀ xs : List Str, xs.length = m → xs.Nodup → (∀ x ∈ xs, x ∈ eight) → Q (.list (xs.map PyData.str)) (n + m)
abbrev Kd := Str × Nat
def kdD (t : Kd) : PyData := .tuple [.str t.1, .int (t.2 : Int)]
def W_kinds : List PyData → M PyData := fun ds n Q => ds = [] ∧ n + 200 < 1073741824 ∧ ∀ ks : List Kd, 2 ≤ ks.length → ks.length ≤ 3 → (ks.map (·.1)).Nodup → (∀ t ∈ ks, Wd t.1 ∧ 0 < t.2 ∧ t.2 ≤ 4) → Q (.list (ks.map kdD)) (n + 40)
def FcOk (ks : List Kd) (vals : List Str) (k : List Str) : Prop := ∃ (x : Str) (ws : List Str), k = x :: ws ∧ (∃ t ∈ ks, x = t.1 ∧ ws.length = t.2) ∧ ∀ y ∈ ws, y ∈ vals
def stD (L : List (List Str)) : PyData := .tuple (L.map bT')
section
variable {P : Program} {w : World} {K : PySem.W.Frag} {mg : Str → Option Value} {base : Heap} {f : Addr} {fd : FuncData} {ps : List Str} {k : Nat}
theorem as_draw (G : FnOk P w K mg base CX0 k f fd ps spDraw) : FnOk P w K mg base CX0 k f fd ps (spW K W_draw) := G.imp fun vs H Q E ⟨D, O, n, ds, vs', Qd, e, dm, hd, dok, r, ⟨m, ed, h1, h2, h3, q⟩, k⟩ => by
  subst e ed
  cases r with
  | cons a b =>
  cases a
  cases b
  exact ⟨D.d, D.l, D.ns, n, m, rfl, h1, h2, dok.1.1, dok.1.2, h3, fun v H' v0 v1 D' f => k _ _ H' (n + 1) (frd_fr f) ⟨⟨D', dok.1.2⟩, TbOk.fr1 dok f⟩ (.int v) (q v v0 v1)⟩
theorem as_pool (G : FnOk P w K mg base CX0 k f fd ps spPool) : FnOk P w K mg base CX0 k f fd ps (spW K W_pool) := G.imp fun vs H Q E ⟨D, O, n, ds, vs', Qd, e, dm, hd, dok, r, ⟨m, ed, h1, h2, q⟩, k⟩ => by
  subst e ed
  cases r with
  | cons a b =>
  cases a
  cases b
  exact ⟨D.d, D.l, D.ns, n, m, rfl, h1, dok.1.1, dok.1.2, h2, fun p xs H' a1 a2 a3 np hp D' f => k _ _ H' (n + 9 * m) (frd_fr f) ⟨⟨D', dok.1.2⟩, TbOk.fr1 dok f⟩ (.lst (hid_at (dm.dom.new np) hp) (rps_back xs)) (q xs a1 a2 a3)⟩
theorem as_unks (G : FnOk P w K mg base CX0 k f fd ps spUnks) : FnOk P w K mg base CX0 k f fd ps (spW K W_unks) := G.imp fun vs H Q E ⟨D, O, n, ds, vs', Qd, e, dm, hd, dok, r, ⟨m, ed, h1, h2, q⟩, k⟩ => by
  subst e ed
  cases r with
  | cons a b =>
  cases a
  cases b
  exact ⟨D.d, D.l, D.ns, n, m, rfl, h1, dok.1.1, dok.1.2, h2, fun p xs H' a1 a2 a3 np hp D' f => k _ _ H' (n + m) (frd_fr f) ⟨⟨D', dok.1.2⟩, TbOk.fr1 dok f⟩ (.lst (hid_at (dm.dom.new np) hp) (rps_back xs)) (q xs a1 a2 a3)⟩
omit [TbC] in
theorem rps_kinds {O : Addr → Bool} {H : Hp} (dm : Dom O H) : ∀ {ks : List (Addr × Str × Nat)}, (∀ t ∈ ks, KindAt H t) → RpAll K (hid O H) (ks.map fun t => V.ref t.1) ((ks.map (·.2)).map kdD)
  | [], _ => .nil
  | t :: r, h => .cons (.tup (.inl (.inl (hid_at (dm.tup (h t List.mem_cons_self).1) (h t List.mem_cons_self).1))) (.cons (.str _) (.cons (.int _) .nil)) fun c => by cases c) (rps_kinds dm fun z m => h z (List.mem_cons_of_mem _ m))
theorem as_kinds (G : FnOk P w K mg base CX0 k f fd ps spKinds) : FnOk P w K mg base CX0 k f fd ps (spW K W_kinds) := G.imp fun vs H Q E ⟨D, O, n, ds, vs', Qd, e, dm, hd, dok, r, ⟨ed, h2, q⟩, k⟩ => by
  subst e ed
  cases r
  refine ⟨D.d, D.l, D.ns, n, rfl, dok.1.1, dok.1.2, h2, fun p ks H' a1 a2 a3 a4 np hp D' f => ?_⟩
  have dok' : DkOk (some D) (n + 40) H' := ⟨⟨D', dok.1.2⟩, TbOk.fr1 dok f⟩
  have dm' := dom_fr dm.dom (frd_fr f) dok'
  refine k _ _ H' (n + 40) (frd_fr f) dok' (.lst (hid_at (dm.dom.new np) hp) (rps_kinds dm' a4)) (q (ks.map (·.2)) (by rw [List.length_map]; exact a1) (by rw [List.length_map]; exact a2) (by rw [List.map_map]; exact a3) fun t ht => ?_)
  obtain ⟨z, hz, rfl⟩ := List.mem_map.mp ht
  exact (a4 z hz).2
end
end My
namespace My
open PySem PySem.Spec PyProof.Rows L2
variable [TbC]
omit [TbC] in
theorem for_inv {g : GD} {b : SD} {E : EndsD} (xs : List PyData) (I : Nat → DEnv → Nat → Prop)
    (step : ∀ (i : Nat) (x : PyData) (ρ : DEnv) (n : Nat) (E' : EndsD), xs[i]? = some x → I i ρ n → (∀ ρ' n', I (i + 1) ρ' n' → E'.nx ρ' n') → (∀ ρ' n', I (i + 1) ρ' n' → E'.ct ρ' n') → E'.rt = E.rt → E'.bk = E.nx → ∃ ρ', g x ρ = some ρ' ∧ b ρ' n E')
    (last : ∀ ρ n, I xs.length ρ n → E.nx ρ n) {ρ : DEnv} {n : Nat} (h0 : I 0 ρ n) : sFor1 g b xs ρ n E := by
  have main : ∀ (k i : Nat) (ρ : DEnv) (n : Nat), xs.length = i + k → I i ρ n → sFor1 g b (xs.drop i) ρ n E := by
    intro k
    induction k with
    | zero =>
      intro i ρ n e h
      rw [List.drop_eq_nil_of_le (by omega)]
      exact last ρ n (by rw [e]; exact h)
    | succ k ih =>
      intro i ρ n e h
      have l : i < xs.length := by omega
      rw [List.drop_eq_getElem_cons l]
      exact step i xs[i] ρ n _ (List.getElem?_eq_getElem l) h (fun ρ' n' h' => ih (i + 1) ρ' n' (by omega) h') (fun ρ' n' h' => ih (i + 1) ρ' n' (by omega) h') rfl rfl
  exact main xs.length 0 ρ n (by omega) h0
omit [TbC] in
theorem lc_inv {g : GD} {p : TD} {e : ED} {ρ0 : DEnv} {Q : List PyData → Nat → Prop} (xs : List PyData) (I : Nat → List PyData → Nat → Prop)
    (step : ∀ (i : Nat) (x : PyData) (acc : List PyData) (n : Nat) (K : List PyData → Nat → Prop), xs[i]? = some x → I i acc n → (∀ acc' n', I (i + 1) acc' n' → K acc' n') → ∃ ρ', g x ρ0 = some ρ' ∧ p ρ' n fun b n1 => if b = true then e ρ' n1 fun y n2 => K (acc ++ [y]) n2 else K acc n1)
    (last : ∀ acc n, I xs.length acc n → Q acc n) {acc : List PyData} {n : Nat} (h0 : I 0 acc n) : lcD g p e ρ0 xs acc n Q := by
  have main : ∀ (k i : Nat) (acc : List PyData) (n : Nat), xs.length = i + k → I i acc n → lcD g p e ρ0 (xs.drop i) acc n Q := by
    intro k
    induction k with
    | zero =>
      intro i acc n e h
      rw [List.drop_eq_nil_of_le (by omega)]
      exact last acc n (by rw [e]; exact h)
    | succ k ih =>
      intro i acc n e h
      have l : i < xs.length := by omega
      rw [List.drop_eq_getElem_cons l]
      exact step i xs[i] acc n (fun a m => lcD g p _ ρ0 (xs.drop (i + 1)) a m Q) (List.getElem?_eq_getElem l) h fun acc' n' h' => ih (i + 1) acc' n' (by omega) h'
  exact main xs.length 0 acc n (by omega) h0
section
variable {X : Cx}
theorem qd_sort2S {elt tg iter tg1 iter1 : Expr} {ifs ifs1 : List Expr} {scope : Scope} {own : List (Str × Nat)} {vs1 : List Nat} {q1 pos pos2 : Pos} {it it1 : AD} {g g1 : GD} {p p1 : TD} {e : ED} {vs w1 : List Nat} (hg0 : Gl X "sorted") (hm0 : X.mg "sorted" = none) (hc : X.calm = true) (hN : X.N.Nodup) (hu : X.A.units + 64 < cLine) (hi : PDI X tg iter it) (ok : BlkOk X.N X.env.scope scope own)
    (hv : ∀ i ∈ vs1, i ∈ own.map (·.2)) (hvs : ∀ i ∈ vs, i ∈ own.map (·.2)) (hw1 : ∀ i ∈ w1, i ∈ vs1)
    (hg : ∀ (s : Shared) (H : Hp) (C : Addr) (cl : List (Str × Addr)) (fp : List Addr), PDG (X.blk s H scope (compEnvC scope cl C X.env) fp) tg vs g) (ht : ∀ (s : Shared) (H : Hp) (C : Addr) (cl : List (Str × Addr)) (fp : List Addr), PTs (X.blk s H scope (compEnvC scope cl C X.env) fp) ifs (tWT X.K p))
    (hi1 : ∀ (s : Shared) (H : Hp) (C : Addr) (cl : List (Str × Addr)) (fp : List Addr), PDI (X.blk s H scope (compEnvC scope cl C X.env) fp) tg1 iter1 it1)
    (hg1 : ∀ (s : Shared) (H : Hp) (C : Addr) (cl : List (Str × Addr)) (fp : List Addr), PDG (X.blk s H scope (compEnvC scope cl C X.env) fp) tg1 w1 g1) (ht1 : ∀ (s : Shared) (H : Hp) (C : Addr) (cl : List (Str × Addr)) (fp : List Addr), PTs (X.blk s H scope (compEnvC scope cl C X.env) fp) ifs1 (tWT X.K p1))
    (he : ∀ (s : Shared) (H : Hp) (C : Addr) (cl : List (Str × Addr)) (fp : List Addr), PD (X.blk s H scope (compEnvC scope cl C X.env) fp) elt e) (hs : ∀ x, foldedSetIterable iter X.env x = pure x := by intro _; rfl) (hs1 : ∀ env x, foldedSetIterable iter1 env x = pure x := by intro _ _; rfl)
    (h1 : starEach [.SetComp elt [⟨tg, iter, ifs, 0⟩, ⟨tg1, iter1, ifs1, 0⟩] scope pos] X.env = (false, eval (.SetComp elt [⟨tg, iter, ifs, 0⟩, ⟨tg1, iter1, ifs1, 0⟩] scope pos) X.env) :: starEach [] X.env := by rfl) :
    PD X (.Call (.Name "sorted" q1) [.SetComp elt [⟨tg, iter, ifs, 0⟩, ⟨tg1, iter1, ifs1, 0⟩] scope pos] [] pos2) (eSort bS ltS it g p (twoW it1 g1 p1 (putW vS e) vs1) (own.map (·.2))) :=
  qd_sort2 (skS X.prog X.w X.K) hg0 hm0 hc hN hu hi ok hv hvs hw1 hg ht hi1 hg1 ht1 he hs hs1 h1
end
end My
namespace My
open PySem PySem.Spec PyProof.Rows L2
variable [TbC]
abbrev DKv := List (PyData × PyData)
def keyOf : PyData → Option Key
  | .int i => some (.inl i)
  | .str x => some (.inr x)
  | _ => none
def hasK (p : PyData × PyData) (k : Key) : Bool := decide (keyOf p.1 = some k)
def valD (ds : DKv) (k : Key) : Option PyData := (ds.find? fun p => hasK p k).map (·.2)
def putD (ds : DKv) (k : Key) (x : PyData) : DKv := if (ds.any fun p => hasK p k) = true then ds.map (fun p => if hasK p k = true then (p.1, x) else p) else ds ++ [(kD k, x)]
def mergeD (ds more : DKv) : DKv := more.foldl (fun acc p => match keyOf p.1 with
  | some k => putD acc k p.2
  | none => acc) ds
omit [TbC] in
theorem keyOf_kD (k : Key) : keyOf (kD k) = some k := by cases k <;> rfl
end My
namespace My
open PySem PySem.Spec PyProof.Rows L2
variable [TbC]
section
variable {K : PySem.W.Frag} {H : Hp}
def pairD : PyData → Option (PyData × PyData)
  | .tuple [x, y] => (keyOf x).map fun _ => (x, y)
  | _ => none
def pairsD : List PyData → Option DKv
  | [] => some []
  | d :: ds => (pairD d).bind fun p => (pairsD ds).map (p :: ·)
end
section
variable {X : Cx}
def dictD1 : List PyData → Option PyData
  | [.list xs] => (pairsD xs).map fun kvs => .dict (mergeD [] kvs)
  | [.tuple xs] => (pairsD xs).map fun kvs => .dict (mergeD [] kvs)
  | [.dict ds] => some (.dict ds)
  | _ => none
def sNewK (i : Nat) : SD := fun ρ n E => E.nx (ρ.set i (some (.k []))) n
def sMakeK (i : Nat) (w : AD) : SD := fun ρ n E => w ρ n fun xs n1 => ∃ ds, dictD1 xs = some (.dict ds) ∧ E.nx (ρ.set i (some (.k ds))) n1
def sPutK (i : Nat) (wk wv : ED) : SD := fun ρ n E => ∃ ds, ρ[i]? = some (some (.k ds)) ∧ wv ρ n fun x n1 => wk ρ n1 fun y n2 => ∃ key, keyOf y = some key ∧ ds.length < lim ∧ E.nx (ρ.set i (some (.k (putD ds key x)))) n2
def sGiveK (i : Nat) (b : SD) : SD := fun ρ n E => ∃ ds, ρ[i]? = some (some (.k ds)) ∧ b (ρ.set i (some (.d (.dict ds)))) n E
end
end My
namespace My
open PySem PySem.Spec PyProof.Rows L2
variable [TbC]
open RZ (ItzT pyNext_zipT_item call_zipT)
def ItzK (K : PySem.W.Frag) (a b : Addr) : It := { ItzT K a b with yld := fun i H v H' => ∃ (T : Addr) (x y : V) (o : HO), v = .ref T ∧ H T = none ∧ KTup T [x, y] o ∧ H' = upd H T o ∧ (∀ xs, SqT K H a xs → xs[i]? = some x) ∧ ∀ ys, SqT K H b ys → ys[i]? = some y }
omit [TbC] in
theorem turn_zipK {P : Program} {w : World} {K : PySem.W.Frag} {elts : List Expr} {kk : Nat} {tpos : Pos} {a b z TI TO i1 i2 : Addr} (D : ZipApart z TI TO i1 i2 a b) :
    Turn P w K (.Tuple elts kk tpos) (ItzK K a b) [z, TI, TO, i1, i2] z (fun i h => IsZip h z TI TO .none ∧ IsPair h TI (.ref i1) (.ref i2) ∧ (∃ x y, IsPair h TO x y) ∧ h.IsTupleIter i1 a i ∧ h.IsTupleIter i2 b i) where
  mem := (RZ.turn_zipT (P := P) (w := w) (K := K) (elts := elts) (kk := kk) (tpos := tpos) D).mem
  obj := (RZ.turn_zipT (P := P) (w := w) (K := K) (elts := elts) (kk := kk) (tpos := tpos) D).obj
  keep := (RZ.turn_zipT (P := P) (w := w) (K := K) (elts := elts) (kk := kk) (tpos := tpos) D).keep
  done := (RZ.turn_zipT (P := P) (w := w) (K := K) (elts := elts) (kk := kk) (tpos := tpos) D).done
  self := (RZ.turn_zipT (P := P) (w := w) (K := K) (elts := elts) (kk := kk) (tpos := tpos) D).self
  item := by
    intro X hP hw hK _ i pins s σ H E I hf st ⟨xs, ys, x, y, qx, qy, hx, hy⟩
    subst hP hw hK
    obtain ⟨hz, hTI, ⟨_, _, hTO⟩, h1, h2⟩ := st
    obtain ⟨its, rv, p, _⟩ := I.tuple qx
    obtain ⟨its2, rv2, p2, _⟩ := I.tuple qy
    obtain ⟨u, hu, ru⟩ := rv.get hx
    obtain ⟨u2, hu2, ru2⟩ := rv2.get hy
    have five : ∀ {c : Addr}, c ∉ [z, TI, TO, i1, i2] → c ≠ z ∧ c ≠ TI ∧ c ≠ TO ∧ c ≠ i1 ∧ c ≠ i2 := fun {c} h => by simpa using h
    have below : ∀ c ∈ [z, TI, TO, i1, i2], c < s.heap.objs.size := fun c hc => by
      obtain ⟨o1, e1, _⟩ := h1
      obtain ⟨o2, e2, _⟩ := h2
      simp only [List.mem_cons, List.not_mem_nil, or_false] at hc
      rcases hc with rfl | rfl | rfl | rfl | rfl
      · exact Heap.lt_size hz
      · exact Heap.lt_size hTI
      · exact Heap.lt_size hTO
      · exact Heap.lt_size e1
      · exact Heap.lt_size e2
    refine pyNext_zipT_item D hz hTI hTO h1 h2 p p2 (x := u) (y := u2) (by simpa using hu) (by simpa using hu2) fun h' z' TO' h1' h2' hT _ hk => ⟨_, rfl, wpAny_letOwnedTupleGo_zip (s := { s with heap := h' }) z' fun h'' z'' sb => ?_⟩
    have nz : s.heap.objs.size ≠ z := Nat.ne_of_gt (below z (by simp))
    have new : ObjOk X.prog X.w (upd H s.heap.objs.size (.frz { cls := .type "tuple", data := .seq [u, u2].toArray } (.tup [x, y]))) h'' s.heap.objs.size (.frz { cls := .type "tuple", data := .seq [u, u2].toArray } (.tup [x, y])) :=
      ktup_new (show 2 ≤ sizeLine by decide) (.cons ru (.cons ru2 .nil)) ((sb.2 _ nz).trans hT)
    refine ⟨.ref s.heap.objs.size, _, I.turnedNew (t' := s.toks) (ch := [z, TI, TO, i1, i2]) (fun c o hb q => ?_) hf (Nat.le_refl _) new, rfl, ⟨_, x, y, _, rfl, I.hok.fresh (Nat.le_refl _), ⟨_, _, rfl⟩, rfl, fun l hl => by rw [I.tuple_inj hl qx]; exact hx, fun l hl => by rw [I.tuple_inj hl qy]; exact hy⟩, ⟨z'', (sb.2 _ D.TIz).trans (hk _ _ D.TIz D.TITO D.TIi1 D.TIi2 hTI), ⟨u, u2, (sb.2 _ D.TOz).trans TO'⟩, h1'.at fun o q => (sb.2 _ D.i1z).trans q, h2'.at fun o q => (sb.2 _ D.i2z).trans q⟩, fun c hc => ?_⟩
    · obtain ⟨n1, n2, n3, n4, n5⟩ := five hb
      exact (sb.2 c n1).trans (hk c o n1 n3 n4 n5 q)
    · rw [upd_ne (Nat.ne_of_lt (below c hc))]
      exact (hf c hc).1
def iZipK (K : PySem.W.Frag) (ta : TA) : TI := fun σ H R => ta σ H fun vs H1 => ∃ a b xs ys, vs = [.ref a, .ref b] ∧ SqT K H1 a xs ∧ SqT K H1 b ys ∧ R (ItzK K a b) H1
omit [TbC] in
theorem pi_zipK {X : Cx} {e e2 : Expr} {ta : TA} {p pos tpos : Pos} {elts : List Expr} {kk : Nat} (hg : Gl X "zip") (hm : X.mg "zip" = none) (ha : PA X [e, e2] ta)
    (hs : starEach [e, e2] X.env = (false, eval e X.env) :: starEach [e2] X.env := by rfl) (hpl : (backTo pos (starEach [e2] X.env)).any (·.1) = false := by rfl) : PI X (.Tuple elts kk tpos) (.Call (.Name "zip" p) [e, e2] [] pos) (iZipK X.K ta) := ⟨fun pins s σ H R I h => by
  refine Call_ (ld_blt I hg hm PyProof.Rows.boot_zip (PyProof.Rows.callWith_type1 (thn (ha.run pos pins s σ H _ I h) fun us s1 ⟨vs, H1, I1, r1, a, b, xs, ys, ex, qx, qy, q⟩ => ?_) hs hpl))
  subst ex
  cases r1 with
  | cons r rr =>
  cases rr with
  | cons r' rr =>
  cases rr
  cases r
  cases r'
  obtain ⟨its, rv, p1, _⟩ := I1.tuple qx
  obtain ⟨its2, rv2, p2, _⟩ := I1.tuple qy
  obtain ⟨o1, ho1, _⟩ := id p1
  obtain ⟨o2, ho2, _⟩ := id p2
  refine call_zipT (show s1.heap.IsTuple a its.toArray from p1) (show s1.heap.IsTuple b its2.toArray from p2) fun h' hz hTI hTO h1 h2 _ hk => wpAny_pyIter_zip hz ?_
  refine ⟨_, [s1.heap.objs.size + 4, s1.heap.objs.size + 2, s1.heap.objs.size + 3, s1.heap.objs.size, s1.heap.objs.size + 1], _, _, H1, rfl, I1.kept (t' := s1.toks) hk, turn_zipK (PySem.W.ktu_apart s1.heap.objs.size a b (Heap.lt_size ho1) (Heap.lt_size ho2)), ⟨hz, hTI, ⟨_, _, hTO⟩, h1, h2⟩, fun c hc => ?_, q⟩
  have hle : s1.heap.objs.size ≤ c := by
    have hc' : c = s1.heap.objs.size + 4 ∨ c = s1.heap.objs.size + 2 ∨ c = s1.heap.objs.size + 3 ∨ c = s1.heap.objs.size ∨ c = s1.heap.objs.size + 1 := by simpa using hc
    rcases hc' with z | z | z | z | z <;> rw [z] <;> first | exact Nat.le_refl _ | exact Nat.le_add_right _ _
  exact I1.fpOk hle (I1.hok.fresh hle)⟩
omit [TbC] in
theorem it_zipK {K : PySem.W.Frag} {O : Addr → Bool} {H1 : Hp} {a b : Addr} {us ws : List V} {xs ys : List PyData} (h1 : SqT K (hid O H1) a us) (r1 : RpAll K (hid O H1) us xs) (h2 : SqT K (hid O H1) b ws) (r2 : RpAll K (hid O H1) ws ys) :
    ItOk K O H1 (ItzK K a b) ((xs.zip ys).map fun p => .tuple [p.1, p.2]) := fun i O' H' s dm => by
  have q1 : SqT K H' a us := same_seqT hid_le (same_seqT s h1)
  have q2 : SqT K H' b ws := same_seqT hid_le (same_seqT s h2)
  rw [List.length_map, List.length_zip]
  refine ⟨fun l => ?_, fun l => ⟨us, ws, q1, q2, by rw [r1.len, r2.len]; omega⟩⟩
  have l1 : i < us.length := by rw [r1.len]; omega
  have l2 : i < ws.length := by rw [r2.len]; omega
  refine ⟨⟨us, ws, us[i], ws[i], q1, q2, List.getElem?_eq_getElem l1, List.getElem?_eq_getElem l2⟩, fun x H'' ⟨T, x1, y1, o, e, nT, kt, eH, g1, g2⟩ => ?_⟩
  subst e eH
  obtain ⟨d1, e1, z1⟩ := r1.get (g1 us q1)
  obtain ⟨d2, e2, z2⟩ := r2.get (g2 ws q2)
  have st := same_new (o := o) nT
  have s' := s.trans (hid_same (O := O') st)
  have at_ := hid_new (o := o) dm nT
  refine ⟨.tuple [d1, d2], ?_, st, .tup (kt.rd at_) (.cons (Rp.same s' _ _ z1) (.cons (Rp.same s' _ _ z2) .nil)) fun _ => kt.pl at_⟩
  rw [List.getElem?_map, (List.getElem?_zip_eq_some (z := (d1, d2))).mpr ⟨e1, e2⟩]
  rfl
def iZk (w : AD) : AD := fun ρ n Q => w ρ n fun ds n1 => ∃ xs ys, ds = [.tuple xs, .tuple ys] ∧ Q ((xs.zip ys).map fun p => .tuple [p.1, p.2]) n1
theorem qdi_zipK {X : Cx} {e e2 : Expr} {w : AD} {p pos tpos : Pos} {elts : List Expr} {kk : Nat} (hg : Gl X "zip") (hm : X.mg "zip" = none) (ha : PDA X [e, e2] w) (hs : starEach [e, e2] X.env = (false, eval e X.env) :: starEach [e2] X.env := by rfl) (hpl : (backTo pos (starEach [e2] X.env)).any (·.1) = false := by rfl) :
    PDI X (.Tuple elts kk tpos) (.Call (.Name "zip" p) [e, e2] [] pos) (iZk w) := qdi_mk (pi_zipK hg hm ha hs hpl) fun S hw k => rda_W S hw fun vs ds H1 n1 f1 d1 r1 ⟨xs, ys, ed, q⟩ => by
  subst ed
  cases r1 with
  | cons a r2 =>
  cases r2 with
  | cons b r3 =>
  cases r3
  cases a with
  | tup h1 a1 _ =>
  cases b with
  | tup h2 a2 _ =>
  exact ⟨_, _, _, _, rfl, same_seqT hid_le h1, same_seqT hid_le h2, k _ H1 n1 _ f1 d1 (it_zipK h1 a1 h2 a2) q⟩
end My
namespace My
open PySem PySem.Spec PyProof.Rows L2
abbrev EF := DEnv → Option PyData
abbrev AF := DEnv → Option (List PyData)
abbrev TF := DEnv → Option Bool
abbrev OF := DEnv → Option (Option Int)
def IsE (w : ED) (f : EF) : Prop := ∀ (ρ : DEnv) (n : Nat) (Q : PyData → Nat → Prop) (d : PyData), f ρ = some d → Q d n → w ρ n Q
def IsA (w : AD) (f : AF) : Prop := ∀ (ρ : DEnv) (n : Nat) (Q : List PyData → Nat → Prop) (d : List PyData), f ρ = some d → Q d n → w ρ n Q
def IsB (w : TD) (f : TF) : Prop := ∀ (ρ : DEnv) (n : Nat) (Q : Bool → Nat → Prop) (d : Bool), f ρ = some d → Q d n → w ρ n Q
def IsO (w : DEnv → M (Option Int)) (f : OF) : Prop := ∀ (ρ : DEnv) (n : Nat) (Q : Option Int → Nat → Prop) (d : Option Int), f ρ = some d → Q d n → w ρ n Q
theorem bind_is {α β : Type} {x : Option α} {f : α → Option β} {b : β} (h : x.bind f = some b) : ∃ a, x = some a ∧ f a = some b := Option.bind_eq_some_iff.mp h
theorem map_is {α β : Type} {x : Option α} {f : α → β} {b : β} (h : x.map f = some b) : ∃ a, x = some a ∧ f a = b := Option.map_eq_some_iff.mp h
theorem ite_is {α : Type} {c : Prop} [Decidable c] {x : Option α} {b : α} (h : (if c then x else none) = some b) : c ∧ x = some b := by
  by_cases k : c
  · rw [if_pos k] at h
    exact ⟨k, h⟩
  · rw [if_neg k] at h
    cases h
def fC (d : PyData) : EF := fun _ => some d
theorem is_c {d : PyData} : IsE (eC d) (fC d) := fun ρ n Q x e q => by
  cases e
  exact q
def getF (o : Option (Option Sv)) : Option PyData := match o with
  | some (some (.d x)) => some x
  | _ => none
def fV (i : Nat) : EF := fun ρ => getF ρ[i]?
theorem getF_is {o : Option (Option Sv)} {x : PyData} (h : getF o = some x) : o = some (some (.d x)) := by
  match o, h with
  | some (some (.d y)), h =>
    cases h
    rfl
theorem is_v {i : Nat} : IsE (eV i) (fV i) := fun ρ n Q x e q => ⟨x, getF_is e, q⟩
def fN : AF := fun _ => some []
def fCo (f : EF) (g : AF) : AF := fun ρ => (f ρ).bind fun x => (g ρ).map (x :: ·)
theorem is_n : IsA aN fN := fun ρ n Q x e q => by
  cases e
  exact q
theorem is_co {w : ED} {ws : AD} {f : EF} {g : AF} (h : IsE w f) (k : IsA ws g) : IsA (aC w ws) (fCo f g) := fun ρ n Q d e q => by
  obtain ⟨x, e1, e2⟩ := bind_is e
  obtain ⟨xs, e3, rfl⟩ := map_is e2
  exact h ρ n _ x e1 (k ρ n _ xs e3 q)
def fTup (a : AF) : EF := fun ρ => (a ρ).bind fun xs => if xs.length ≤ lim then some (.tuple xs) else none
def fLst (a : AF) : EF := fun ρ => (a ρ).bind fun xs => if xs.length ≤ lim then some (.list xs) else none
theorem is_tup {ws : AD} {g : AF} (k : IsA ws g) : IsE (eTup ws) (fTup g) := fun ρ n Q d e q => by
  obtain ⟨xs, e1, e2⟩ := bind_is e
  obtain ⟨c, e3⟩ := ite_is e2
  cases e3
  exact k ρ n _ xs e1 ⟨c, q⟩
theorem is_lst {ws : AD} {g : AF} (k : IsA ws g) : IsE (eLst ws) (fLst g) := fun ρ n Q d e q => by
  obtain ⟨xs, e1, e2⟩ := bind_is e
  obtain ⟨c, e3⟩ := ite_is e2
  cases e3
  exact k ρ n _ xs e1 ⟨c, q⟩
def fOp (F : PyData → PyData → Option PyData) (a b : EF) : EF := fun ρ => (a ρ).bind fun x => (b ρ).bind fun y => F x y
theorem is_op {F : PyData → PyData → Option PyData} {a b : ED} {f g : EF} (h : IsE a f) (k : IsE b g) : IsE (eOp F a b) (fOp F f g) := fun ρ n Q d e q => by
  obtain ⟨x, e1, e2⟩ := bind_is e
  obtain ⟨y, e3, e4⟩ := bind_is e2
  exact h ρ n _ x e1 (k ρ n _ y e3 ⟨d, e4, q⟩)
def fCall (F : List PyData → Option PyData) (a : AF) : EF := fun ρ => (a ρ).bind F
theorem is_call {F : List PyData → Option PyData} {ws : AD} {g : AF} (k : IsA ws g) : IsE (eCall F ws) (fCall F g) := fun ρ n Q d e q => by
  obtain ⟨x, e1, e2⟩ := bind_is e
  exact k ρ n _ x e1 ⟨d, e2, q⟩
def asB : PyData → Option Bool
  | .bool b => some b
  | _ => none
theorem asB_is {d : PyData} {b : Bool} (h : asB d = some b) : d = .bool b := by
  cases d with
  | bool c => cases h; rfl
  | _ => cases h
def tfE (f : EF) : TF := fun ρ => (f ρ).bind asB
theorem is_tfE {w : ED} {f : EF} (h : IsE w f) : IsB (bT w) (tfE f) := fun ρ n Q b e q => by
  obtain ⟨x, e1, e2⟩ := bind_is e
  exact h ρ n _ x e1 ⟨b, asB_is e2, q⟩
def tfTr (f : EF) : TF := fun ρ => (f ρ).bind truthD
def tfYes : TF := fun _ => some true
theorem is_tfYes : IsB bYes tfYes := fun ρ n Q b e q => by
  cases e
  exact q
def tfNot (f : TF) : TF := fun ρ => (f ρ).map (!·)
theorem is_tfNot {w : TD} {f : TF} (h : IsB w f) : IsB (bNot w) (tfNot f) := fun ρ n Q b e q => by
  obtain ⟨x, e1, e2⟩ := map_is e
  subst e2
  exact h ρ n _ x e1 q
def tfAnd (f g : TF) : TF := fun ρ => (f ρ).bind fun b => if b = true then g ρ else some false
def tfOr (f g : TF) : TF := fun ρ => (f ρ).bind fun b => if b = true then some true else g ρ
theorem is_tfAnd {u w : TD} {f g : TF} (h : IsB u f) (k : IsB w g) : IsB (bAnd u w) (tfAnd f g) := fun ρ n Q b e q => by
  obtain ⟨x, e1, e2⟩ := bind_is e
  refine h ρ n _ x e1 ?_
  cases x with
  | true => exact k ρ n _ b e2 q
  | false =>
    cases e2
    exact q
theorem is_tfOr {u w : TD} {f g : TF} (h : IsB u f) (k : IsB w g) : IsB (bOr u w) (tfOr f g) := fun ρ n Q b e q => by
  obtain ⟨x, e1, e2⟩ := bind_is e
  refine h ρ n _ x e1 ?_
  cases x with
  | true =>
    cases e2
    exact q
  | false => exact k ρ n _ b e2 q
def fAnd (f g : EF) : EF := fun ρ => ((f ρ).bind asB).bind fun b => if b = true then g ρ else some (.bool false)
def fOr (f g : EF) : EF := fun ρ => ((f ρ).bind asB).bind fun b => if b = true then some (.bool true) else g ρ
def fNot (f : EF) : EF := fun ρ => ((f ρ).bind asB).map fun b => .bool (!b)
theorem asB2 {o : Option PyData} {b : Bool} (h : o.bind asB = some b) : o = some (.bool b) := by
  obtain ⟨x, e1, e2⟩ := bind_is h
  rw [e1, asB_is e2]
theorem is_and {u w : ED} {f g : EF} (h : IsE u f) (k : IsE w g) : IsE (eAnd u w) (fAnd f g) := fun ρ n Q d e q => by
  obtain ⟨x, e1, e2⟩ := bind_is e
  refine h ρ n _ _ (asB2 e1) ⟨x, rfl, ?_⟩
  cases x with
  | true => exact k ρ n _ d e2 q
  | false =>
    cases e2
    exact q
theorem is_or {u w : ED} {f g : EF} (h : IsE u f) (k : IsE w g) : IsE (eOr u w) (fOr f g) := fun ρ n Q d e q => by
  obtain ⟨x, e1, e2⟩ := bind_is e
  refine h ρ n _ _ (asB2 e1) ⟨x, rfl, ?_⟩
  cases x with
  | true =>
    cases e2
    exact q
  | false => exact k ρ n _ d e2 q
def fIf (c : TF) (f g : EF) : EF := fun ρ => (c ρ).bind fun b => if b = true then f ρ else g ρ
theorem is_if {c : TD} {u w : ED} {t : TF} {f g : EF} (h0 : IsB c t) (h : IsE u f) (k : IsE w g) : IsE (eIf c u w) (fIf t f g) := fun ρ n Q d e q => by
  obtain ⟨x, e1, e2⟩ := bind_is e
  refine h0 ρ n _ x e1 ?_
  cases x with
  | true => exact h ρ n _ d e2 q
  | false => exact k ρ n _ d e2 q
def ofN : OF := fun _ => some none
def ofS (f : EF) : OF := fun ρ => (f ρ).bind fun x => match x with
  | .int i => some (some i)
  | _ => none
theorem is_ofN : IsO oN ofN := fun ρ n Q d e q => by
  cases e
  exact q
theorem is_ofS {w : ED} {f : EF} (h : IsE w f) : IsO (oS w) (ofS f) := fun ρ n Q d e q => by
  obtain ⟨x, e1, e2⟩ := bind_is e
  cases x with
  | int i =>
    cases e2
    exact h ρ n _ _ e1 ⟨i, rfl, q⟩
  | _ => cases e2
def fSl (F : PyData → Option Int → Option Int → Option PyData) (a : EF) (lo hi : OF) : EF := fun ρ => (a ρ).bind fun x => (lo ρ).bind fun l => (hi ρ).bind fun h => F x l h
theorem is_sl {F : PyData → Option Int → Option Int → Option PyData} {a : ED} {lo hi : DEnv → M (Option Int)} {f : EF} {g k : OF} (h1 : IsE a f) (h2 : IsO lo g) (h3 : IsO hi k) : IsE (eSl F a lo hi) (fSl F f g k) := fun ρ n Q d e q => by
  obtain ⟨x, e1, e⟩ := bind_is e
  obtain ⟨y, e2, e⟩ := bind_is e
  obtain ⟨z, e3, e⟩ := bind_is e
  exact h1 ρ n _ x e1 (h2 ρ n _ y e2 (h3 ρ n _ z e3 ⟨d, e, q⟩))
def fChain (F G : PyData → PyData → Option PyData) (a b c : EF) : EF := fun ρ => (a ρ).bind fun x => (b ρ).bind fun y => ((F x y).bind asB).bind fun k => if k = true then (c ρ).bind fun z => G y z else some (.bool false)
theorem is_chain {F G : PyData → PyData → Option PyData} {a b c : ED} {f g h : EF} (h1 : IsE a f) (h2 : IsE b g) (h3 : IsE c h) : IsE (eChain F G a b c) (fChain F G f g h) := fun ρ n Q d e q => by
  obtain ⟨x, e1, e⟩ := bind_is e
  obtain ⟨y, e2, e⟩ := bind_is e
  obtain ⟨k, e3, e⟩ := bind_is e
  refine h1 ρ n _ x e1 (h2 ρ n _ y e2 ⟨k, asB2 e3, ?_⟩)
  cases k with
  | true =>
    obtain ⟨z, e4, e5⟩ := bind_is e
    exact h3 ρ n _ z e4 ⟨d, e5, q⟩
  | false =>
    cases e
    exact q
def fIsi (c : String → Bool) (f : EF) : EF := fun ρ => (f ρ).bind fun x => if noDict x = true then some (.bool (c (tyS x))) else none
theorem is_isi {c : String → Bool} {w : ED} {f : EF} (h : IsE w f) : IsE (eIsi c w) (fIsi c f) := fun ρ n Q d e q => by
  obtain ⟨x, e1, e2⟩ := bind_is e
  obtain ⟨k, e3⟩ := ite_is e2
  cases e3
  exact h ρ n _ x e1 ⟨k, q⟩
def afV (f : EF) : AF := fun ρ => (f ρ).bind itemsD
theorem is_afV {w : ED} {f : EF} (h : IsE w f) : IsA (iV w) (afV f) := fun ρ n Q d e q => by
  obtain ⟨x, e1, e2⟩ := bind_is e
  exact h ρ n _ x e1 ⟨d, e2, q⟩
def rngF : List PyData → Option (List PyData)
  | [.int m] => if -(2 ^ 62) ≤ m ∧ m < 2 ^ 62 then some (rangeD m) else none
  | _ => none
def afR (f : AF) : AF := fun ρ => (f ρ).bind rngF
theorem is_afR {w : AD} {f : AF} (h : IsA w f) : IsA (iR w) (afR f) := fun ρ n Q d e q => by
  obtain ⟨x, e1, e2⟩ := bind_is e
  match x, e2 with
  | [.int m], e2 =>
    obtain ⟨c, e3⟩ := ite_is e2
    cases e3
    exact h ρ n _ _ e1 ⟨m, rfl, c.1, c.2, q⟩
def zipF : List PyData → Option (List PyData)
  | [.list xs, .list ys] => if noPair xs ys = true then some ((xs.zip ys).map fun p => .tuple [p.1, p.2]) else none
  | [.tuple xs, .tuple ys] => if noPair xs ys = true then some ((xs.zip ys).map fun p => .tuple [p.1, p.2]) else none
  | _ => none
def afZ (f : AF) : AF := fun ρ => (f ρ).bind zipF
def zipKF : List PyData → Option (List PyData)
  | [.tuple xs, .tuple ys] => some ((xs.zip ys).map fun p => .tuple [p.1, p.2])
  | _ => none
def afZk (f : AF) : AF := fun ρ => (f ρ).bind zipKF
theorem is_afZk {w : AD} {f : AF} (h : IsA w f) : IsA (iZk w) (afZk f) := fun ρ n Q d e q => by
  obtain ⟨x, e1, e2⟩ := bind_is e
  match x, e2 with
  | [.tuple xs, .tuple ys], e2 =>
    cases e2
    exact h ρ n _ _ e1 ⟨xs, ys, rfl, q⟩
def lcF (st : PyData → Option (Option PyData)) : List PyData → Option (List PyData)
  | [] => some []
  | x :: xs => (st x).bind fun o => (lcF st xs).map fun r => match o with
    | some y => y :: r
    | none => r
def stF (g : GD) (p : TF) (e : EF) (ρ0 : DEnv) : PyData → Option (Option PyData) := fun x => (g x ρ0).bind fun ρ' => (p ρ').bind fun b => if b = true then (e ρ').map some else some none
theorem is_lcD {g : GD} {p : TD} {e : ED} {pf : TF} {ef : EF} (hp : IsB p pf) (he : IsE e ef) {ρ0 : DEnv} {n : Nat} {Q : List PyData → Nat → Prop} : ∀ {xs acc r : List PyData}, lcF (stF g pf ef ρ0) xs = some r → Q (acc ++ r) n → lcD g p e ρ0 xs acc n Q
  | [], acc, r, h, q => by
    cases h
    rw [List.append_nil] at q
    exact q
  | x :: xs, acc, r, h, q => by
    obtain ⟨o, e1, h⟩ := bind_is h
    obtain ⟨r1, e2, e3⟩ := map_is h
    obtain ⟨ρ', e4, e1⟩ := bind_is e1
    obtain ⟨b, e5, e1⟩ := bind_is e1
    refine ⟨ρ', e4, hp ρ' n _ b e5 ?_⟩
    cases b with
    | true =>
      obtain ⟨y, e6, e7⟩ := map_is e1
      subst e7
      have e3' : y :: r1 = r := e3
      refine he ρ' n _ y e6 (is_lcD hp he (acc := acc ++ [y]) e2 ?_)
      rw [List.append_assoc]
      show Q (acc ++ (y :: r1)) n
      rw [e3']
      exact q
    | false =>
      cases e1
      have e3' : r1 = r := e3
      exact is_lcD hp he e2 (by rw [e3']; exact q)
def fLc (it : AF) (g : GD) (p : TF) (e : EF) (own : List Nat) : EF := fun ρ => (it ρ).bind fun xs => if xs.length ≤ lim then (lcF (stF g p e (wipeD ρ own)) xs).map .list else none
theorem is_lc {it : AD} {g : GD} {p : TD} {e : ED} {own : List Nat} {itf : AF} {pf : TF} {ef : EF} (hi : IsA it itf) (hp : IsB p pf) (he : IsE e ef) : IsE (eLc it g p e own) (fLc itf g pf ef own) := fun ρ n Q d h q => by
  obtain ⟨xs, e1, h⟩ := bind_is h
  obtain ⟨c, h⟩ := ite_is h
  obtain ⟨r, e2, rfl⟩ := map_is h
  exact hi ρ n _ xs e1 ⟨c, is_lcD hp he e2 q⟩
def flF (st : PyData → Option (List PyData)) : List PyData → Option (List PyData)
  | [] => some []
  | x :: xs => (st x).bind fun o => (flF st xs).map fun r => o ++ r
def stB (g : GD) (p : TF) (fb : DEnv → Option (List PyData)) (ρ0 : DEnv) : PyData → Option (List PyData) := fun x => (g x ρ0).bind fun ρ' => (p ρ').bind fun b => if b = true then fb ρ' else some []
structure Gath (α : Type) where
  put : α → List PyData → α
  ok : α → List PyData → Prop
  put0 : ∀ a, put a [] = a
  putA : ∀ a xs ys, ok a (xs ++ ys) → put a (xs ++ ys) = put (put a xs) ys
  okA : ∀ a xs ys, ok a (xs ++ ys) → ok a xs ∧ ok (put a xs) ys
def IsBd {α : Type} (G : Gath α) (body : DEnv → α → M α) (fb : DEnv → Option (List PyData)) : Prop := ∀ (ρ : DEnv) (a : α) (n : Nat) (Q : α → Nat → Prop) (ys : List PyData), fb ρ = some ys → G.ok a ys → Q (G.put a ys) n → body ρ a n Q
theorem is_loop {α : Type} {G : Gath α} {g : GD} {p : TD} {pf : TF} {body : DEnv → α → M α} {fb : DEnv → Option (List PyData)} (hp : IsB p pf) (hb : IsBd G body fb) {ρ0 : DEnv} {n : Nat} {Q : α → Nat → Prop} :
    ∀ {xs : List PyData} {a : α} {ys : List PyData}, flF (stB g pf fb ρ0) xs = some ys → G.ok a ys → Q (G.put a ys) n → loopD g p body ρ0 xs a n Q
  | [], a, ys, h, _, q => by
    cases h
    rw [G.put0] at q
    exact q
  | x :: xs, a, ys, h, ok, q => by
    obtain ⟨o, e1, h⟩ := bind_is h
    obtain ⟨r, e2, rfl⟩ := map_is h
    obtain ⟨ρ', e4, e1⟩ := bind_is e1
    obtain ⟨b, e5, e1⟩ := bind_is e1
    obtain ⟨ok1, ok2⟩ := G.okA _ _ _ ok
    rw [G.putA _ _ _ ok] at q
    refine ⟨ρ', e4, hp ρ' n _ b e5 ?_⟩
    cases b with
    | true => exact hb ρ' a n _ o e1 ok1 (is_loop hp hb e2 ok2 q)
    | false =>
      cases e1
      rw [G.put0] at ok2 q
      exact is_loop hp hb e2 ok2 q
def fTwo (it1 : AF) (g1 : GD) (p1 : TF) (fb : DEnv → Option (List PyData)) (vs1 : List Nat) : DEnv → Option (List PyData) := fun ρ => (it1 ρ).bind fun ys => flF (stB g1 p1 fb (wipeD ρ vs1)) ys
theorem is_two {α : Type} {G : Gath α} {it1 : AD} {g1 : GD} {p1 : TD} {itf : AF} {pf : TF} {body : DEnv → α → M α} {fb : DEnv → Option (List PyData)} {vs1 : List Nat} (hi : IsA it1 itf) (hp : IsB p1 pf) (hb : IsBd G body fb) : IsBd G (twoW it1 g1 p1 body vs1) (fTwo itf g1 pf fb vs1) := fun ρ a n Q ys h ok q => by
  obtain ⟨xs, e1, e2⟩ := bind_is h
  exact hi ρ n _ xs e1 (is_loop hp hb e2 ok q)
def fOne (e : EF) : DEnv → Option (List PyData) := fun ρ => (e ρ).map fun y => [y]
def fLc2 (it : AF) (g : GD) (p : TF) (fb : DEnv → Option (List PyData)) (own : List Nat) : EF := fun ρ => (it ρ).bind fun xs => (flF (stB g p fb (wipeD ρ own)) xs).bind fun ys => if ys.length ≤ lim then some (.list ys) else none
theorem fold_grow {α : Type} [DecidableEq α] : ∀ (ks acc : List α), acc.length ≤ (ks.foldl addU acc).length
  | [], acc => Nat.le_refl _
  | k :: ks, acc => Nat.le_trans addU_grow (fold_grow ks (addU acc k))
theorem viewAll_app {α : Type} {view : PyData → Option α} : ∀ {xs ys : List PyData} {ks : List α}, viewAll view (xs ++ ys) = some ks → ∃ k1 k2, viewAll view xs = some k1 ∧ viewAll view ys = some k2 ∧ ks = k1 ++ k2
  | [], ys, ks, h => ⟨[], ks, rfl, h, rfl⟩
  | x :: xs, ys, ks, h => by
    obtain ⟨k, e1, h⟩ := bind_is h
    obtain ⟨r, e2, rfl⟩ := map_is h
    obtain ⟨k1, k2, e3, e4, rfl⟩ := viewAll_app (xs := xs) e2
    exact ⟨k :: k1, k2, by show (view x).bind _ = _; rw [e1, e3]; rfl, e4, rfl⟩
def gaS {α : Type} [DecidableEq α] (view : PyData → Option α) : Gath (List α) where
  put := fun a ys => ((viewAll view ys).getD []).foldl addU a
  ok := fun a ys => ∃ ks, viewAll view ys = some ks ∧ (ks.foldl addU a).length < 62
  put0 := fun a => rfl
  putA := fun a xs ys ⟨ks, e, l⟩ => by
    obtain ⟨k1, k2, e1, e2, rfl⟩ := viewAll_app e
    rw [e, e1, e2]
    exact List.foldl_append ..
  okA := fun a xs ys ⟨ks, e, l⟩ => by
    obtain ⟨k1, k2, e1, e2, rfl⟩ := viewAll_app e
    rw [List.foldl_append] at l
    exact ⟨⟨k1, e1, Nat.lt_of_le_of_lt (fold_grow _ _) l⟩, k2, e2, by rw [e1]; exact l⟩
theorem is_put {α : Type} [DecidableEq α] {view : PyData → Option α} {e : ED} {ef : EF} (he : IsE e ef) : IsBd (gaS view) (putW view e) (fOne ef) := fun ρ a n Q ys h ok q => by
  obtain ⟨y, e1, rfl⟩ := map_is h
  obtain ⟨ks, e2, l⟩ := ok
  obtain ⟨k, e3, e4⟩ := bind_is e2
  cases e4
  have q' : Q (((viewAll view [y]).getD []).foldl addU a) n := q
  rw [e2] at q'
  exact he ρ n _ y e1 ⟨k, e3, Nat.lt_of_le_of_lt addU_grow l, q'⟩
def srtF {α : Type} [DecidableEq α] (view : PyData → Option α) (back : α → PyData) (lt : α → α → Bool) (ys : List PyData) : Option PyData := (viewAll view ys).bind fun ks => if (ddU ks).length < 62 then some (.list ((sortU lt (ddU ks)).map back)) else none
def fSort {α : Type} [DecidableEq α] (view : PyData → Option α) (back : α → PyData) (lt : α → α → Bool) (it : AF) (g : GD) (p : TF) (fb : DEnv → Option (List PyData)) (own : List Nat) : EF := fun ρ => (it ρ).bind fun xs => (flF (stB g p fb (wipeD ρ own)) xs).bind (srtF view back lt)
theorem is_sort {α : Type} [DecidableEq α] {view : PyData → Option α} {back : α → PyData} {lt : α → α → Bool} {it : AD} {g : GD} {p : TD} {body : DEnv → List α → M (List α)} {own : List Nat} {itf : AF} {pf : TF} {fb : DEnv → Option (List PyData)} (hi : IsA it itf) (hp : IsB p pf) (hb : IsBd (gaS view) body fb) :
    IsE (eSort back lt it g p body own) (fSort view back lt itf g pf fb own) := fun ρ n Q d h q => by
  obtain ⟨xs, e1, h⟩ := bind_is h
  obtain ⟨ys, e2, h⟩ := bind_is h
  obtain ⟨ks, e3, h⟩ := bind_is h
  obtain ⟨c, h⟩ := ite_is h
  cases h
  refine hi ρ n _ xs e1 (is_loop (G := gaS view) hp hb e2 ⟨ks, e3, c⟩ ?_)
  show Q (.list ((sortU lt (((viewAll view ys).getD []).foldl addU [])).map back)) n
  rw [e3]
  exact q
def setsF {α : Type} [DecidableEq α] (view : PyData → Option α) (back : α → PyData) (lt : α → α → Bool) : PyData → Option PyData
  | .list xs => (viewAll view xs).bind fun ks => if (ddU ks).length < 63 then some (.list ((sortU lt (ddU ks)).map back)) else none
  | .tuple xs => (viewAll view xs).bind fun ks => if (ddU ks).length < 63 then some (.list ((sortU lt (ddU ks)).map back)) else none
  | _ => none
def fSortSet {α : Type} [DecidableEq α] (view : PyData → Option α) (back : α → PyData) (lt : α → α → Bool) (f : EF) : EF := fun ρ => (f ρ).bind (setsF view back lt)
theorem is_sortSet {α : Type} [DecidableEq α] {view : PyData → Option α} {back : α → PyData} {lt : α → α → Bool} {e : ED} {f : EF} (he : IsE e f) : IsE (eSortSet view back lt e) (fSortSet view back lt f) := fun ρ n Q d h q => by
  obtain ⟨x, e1, h⟩ := bind_is h
  match x, h with
  | .list xs, h =>
    obtain ⟨ks, e3, h⟩ := bind_is h
    obtain ⟨c, h⟩ := ite_is h
    cases h
    exact he ρ n _ _ e1 ⟨xs, ks, .inl rfl, e3, c, q⟩
  | .tuple xs, h =>
    obtain ⟨ks, e3, h⟩ := bind_is h
    obtain ⟨c, h⟩ := ite_is h
    cases h
    exact he ρ n _ _ e1 ⟨xs, ks, .inr rfl, e3, c, q⟩
def getKF (ds : DKv) (y z : PyData) : Option PyData := (keyOf y).map fun k => (valD ds k).getD z
def asK : PyData → Option DKv
  | .dict ds => some ds
  | _ => none
def fGet (o a b : EF) : EF := fun ρ => ((o ρ).bind asK).bind fun ds => (a ρ).bind fun y => (b ρ).bind fun z => getKF ds y z
def ownK (o : Option (Option Sv)) : Option DKv := match o with
  | some (some (.k ds)) => some ds
  | _ => none
def ownL (o : Option (Option Sv)) : Option (List PyData) := match o with
  | some (some (.l ds)) => some ds
  | _ => none
theorem ownL_is {o : Option (Option Sv)} {ds : List PyData} (h : ownL o = some ds) : o = some (some (.l ds)) := by
  match o, h with
  | some (some (.l y)), h =>
    cases h
    rfl
def inKF (neg : Bool) (ds : DKv) (y : PyData) : Option PyData := (keyOf y).map fun k => .bool (if neg = true then !(valD ds k).isSome else (valD ds k).isSome)
def fOIn (neg : Bool) (i : Nat) (a : EF) : EF := fun ρ => (ownK ρ[i]?).bind fun ds => (a ρ).bind fun y => inKF neg ds y
def fOGet (i : Nat) (a b : EF) : EF := fun ρ => (ownK ρ[i]?).bind fun ds => (a ρ).bind fun y => (b ρ).bind fun z => getKF ds y z
def fOLen (i : Nat) : EF := fun ρ => (ownK ρ[i]?).map fun ds => .int (ds.length : Int)
def fOIx (i : Nat) (a : EF) : EF := fun ρ => (ownK ρ[i]?).bind fun ds => (a ρ).bind fun y => (keyOf y).bind (valD ds)
instance reprDec (x : PyData) : Decidable (reprOk x) := by unfold reprOk; exact inferInstance
def fRepr (f : EF) : EF := fun ρ => (f ρ).bind fun x => if reprOk x then some (.str x.shown) else none
theorem is_repr {w : ED} {f : EF} (h : IsE w f) : IsE (eRepr w) (fRepr f) := fun ρ n Q d e q => by
  obtain ⟨x, e1, e2⟩ := bind_is e
  obtain ⟨c, e3⟩ := ite_is e2
  cases e3
  exact h ρ n _ x e1 ⟨c, q⟩
inductive Fl where
  | nx (ρ : DEnv) | rt (d : PyData) | bk (ρ : DEnv) | ct (ρ : DEnv)
abbrev SF := DEnv → Option Fl
def Fl.ends (E : EndsD) (n : Nat) : Fl → Prop
  | .nx ρ => E.nx ρ n
  | .rt d => E.rt d n
  | .bk ρ => E.bk ρ n
  | .ct ρ => E.ct ρ n
def IsS (w : SD) (f : SF) : Prop := ∀ (ρ : DEnv) (n : Nat) (E : EndsD) (r : Fl), f ρ = some r → r.ends E n → w ρ n E
def fNil : SF := fun ρ => some (.nx ρ)
theorem is_nil : IsS sNil fNil := fun ρ n E r e q => by
  cases e
  exact q
def fSeq (a b : SF) : SF := fun ρ => (a ρ).bind fun r => match r with
  | .nx ρ' => b ρ'
  | .rt d => some (.rt d)
  | .bk ρ' => some (.bk ρ')
  | .ct ρ' => some (.ct ρ')
theorem is_seq {a b : SD} {f g : SF} (h : IsS a f) (k : IsS b g) : IsS (sSeq a b) (fSeq f g) := fun ρ n E r e q => by
  obtain ⟨x, e1, e2⟩ := bind_is e
  refine h ρ n _ x e1 ?_
  cases x with
  | nx ρ' => exact k ρ' n E r e2 q
  | rt d => cases e2; exact q
  | bk d => cases e2; exact q
  | ct d => cases e2; exact q
def fSet (i : Nat) (e : EF) : SF := fun ρ => (e ρ).map fun x => .nx (ρ.set i (some (.d x)))
theorem is_set {i : Nat} {e : ED} {f : EF} (h : IsE e f) : IsS (sSet i e) (fSet i f) := fun ρ n E r e q => by
  obtain ⟨x, e1, rfl⟩ := map_is e
  exact h ρ n _ x e1 q
def fAsg (e : EF) (g : GD) : SF := fun ρ => (e ρ).bind fun x => (g x ρ).map .nx
def fRet (e : EF) : SF := fun ρ => (e ρ).map .rt
theorem is_ret {e : ED} {f : EF} (h : IsE e f) : IsS (sRet e) (fRet f) := fun ρ n E r e q => by
  obtain ⟨x, e1, rfl⟩ := map_is e
  exact h ρ n _ x e1 q
def fIfS (c : TF) (a b : SF) : SF := fun ρ => (c ρ).bind fun x => if x = true then a ρ else b ρ
theorem is_ifS {c : TD} {a b : SD} {t : TF} {f g : SF} (h0 : IsB c t) (h : IsS a f) (k : IsS b g) : IsS (sIf c a b) (fIfS t f g) := fun ρ n E r e q => by
  obtain ⟨x, e1, e2⟩ := bind_is e
  refine h0 ρ n _ x e1 ?_
  cases x with
  | true => exact h ρ n E r e2 q
  | false => exact k ρ n E r e2 q
def forF (g : GD) (b : SF) : List PyData → SF
  | [] => fun ρ => some (.nx ρ)
  | x :: xs => fun ρ => (g x ρ).bind fun ρ1 => (b ρ1).bind fun r => match r with
    | .nx ρ2 => forF g b xs ρ2
    | .ct ρ2 => forF g b xs ρ2
    | .bk ρ2 => some (.nx ρ2)
    | .rt d => some (.rt d)
theorem is_for1 {g : GD} {b : SD} {f : SF} (h : IsS b f) : ∀ xs : List PyData, IsS (sFor1 g b xs) (forF g f xs)
  | [] => fun ρ n E r e q => by
    cases e
    exact q
  | x :: xs => fun ρ n E r e q => by
    obtain ⟨ρ1, e1, e⟩ := bind_is e
    obtain ⟨y, e2, e⟩ := bind_is e
    refine ⟨ρ1, e1, h ρ1 n _ y e2 ?_⟩
    cases y with
    | nx ρ2 => exact is_for1 h xs ρ2 n E r e q
    | ct ρ2 => exact is_for1 h xs ρ2 n E r e q
    | bk ρ2 => cases e; exact q
    | rt d => cases e; exact q
def fFor (it : AF) (g : GD) (b : SF) : SF := fun ρ => (it ρ).bind fun xs => forF g b xs ρ
theorem is_for {it : AD} {g : GD} {b : SD} {itf : AF} {f : SF} (hi : IsA it itf) (h : IsS b f) : IsS (sFor it g b) (fFor itf g f) := fun ρ n E r e q => by
  obtain ⟨xs, e1, e2⟩ := bind_is e
  exact hi ρ n _ xs e1 (is_for1 h xs ρ n E r e2 q)
def fNewL (i : Nat) : SF := fun ρ => some (.nx (ρ.set i (some (.l []))))
theorem is_newL {i : Nat} : IsS (sNewL i) (fNewL i) := fun ρ n E r e q => by
  cases e
  exact q
def fApp (i : Nat) (e : EF) : SF := fun ρ => (ownL ρ[i]?).bind fun xs => (e ρ).bind fun x => if xs.length < lim then some (.nx (ρ.set i (some (.l (xs ++ [x]))))) else none
theorem is_apps {i : Nat} {e : ED} {f : EF} (h : IsE e f) : IsS (sApp i e) (fApp i f) := fun ρ n E r e q => by
  obtain ⟨xs, e1, e⟩ := bind_is e
  obtain ⟨x, e2, e⟩ := bind_is e
  obtain ⟨c, e⟩ := ite_is e
  cases e
  exact ⟨xs, ownL_is e1, h ρ n _ x e2 ⟨c, q⟩⟩
def asL : PyData → Option (List PyData)
  | .list ds => some ds
  | _ => none
theorem asL_is {d : PyData} {ds : List PyData} (h : asL d = some ds) : d = .list ds := by
  cases d with
  | list c => cases h; rfl
  | _ => cases h
def fExt (i : Nat) (e : EF) : SF := fun ρ => (ownL ρ[i]?).bind fun xs => ((e ρ).bind asL).bind fun ys => if xs.length + ys.length ≤ lim then some (.nx (ρ.set i (some (.l (xs ++ ys))))) else none
theorem is_ext {i : Nat} {e : ED} {f : EF} (h : IsE e f) : IsS (sExt i e) (fExt i f) := fun ρ n E r e q => by
  obtain ⟨xs, e1, e⟩ := bind_is e
  obtain ⟨ys, e2, e⟩ := bind_is e
  obtain ⟨x, e0, e2⟩ := bind_is e2
  rw [asL_is e2] at e0
  obtain ⟨c, e⟩ := ite_is e
  cases e
  exact ⟨xs, ownL_is e1, h ρ n _ _ e0 ⟨ys, rfl, c, q⟩⟩
def fGive (i : Nat) (b : SF) : SF := fun ρ => (ownL ρ[i]?).bind fun xs => b (ρ.set i (some (.d (.list xs))))
theorem is_give {i : Nat} {b : SD} {f : SF} (h : IsS b f) : IsS (sGive i b) (fGive i f) := fun ρ n E r e q => by
  obtain ⟨xs, e1, e⟩ := bind_is e
  exact ⟨xs, ownL_is e1, h _ n E r e q⟩
def fNewK (i : Nat) : SF := fun ρ => some (.nx (ρ.set i (some (.k []))))
def fMakeK (i : Nat) (a : AF) : SF := fun ρ => (a ρ).bind fun xs => ((dictD1 xs).bind asK).map fun ds => .nx (ρ.set i (some (.k ds)))
def fPutK (i : Nat) (k v : EF) : SF := fun ρ => (ownK ρ[i]?).bind fun ds => (v ρ).bind fun x => (k ρ).bind fun y => (keyOf y).bind fun key => if ds.length < lim then some (.nx (ρ.set i (some (.k (putD ds key x))))) else none
def fGiveK (i : Nat) (b : SF) : SF := fun ρ => (ownK ρ[i]?).bind fun xs => b (ρ.set i (some (.d (.dict xs))))
def outF : Fl → Option PyData
  | .rt d => some d
  | .nx _ => some .none
  | _ => none
def envF (N : Nat) (ds : List PyData) : DEnv := ds.map (fun d => some (.d d)) ++ List.replicate (N - ds.length) none
def fnF (k N : Nat) (S : SF) : List PyData → Option PyData := fun ds => if ds.length = k then (S (envF N ds)).bind outF else none
theorem fn_okF [TbC] {P : Program} {w : World} {K : PySem.W.Frag} {mg : Str → Option Value} {base : Heap} {x qual : Str} {st : Stmt} {f : Addr} {fd : FuncData} {N ps : List Str} {k : Nat} {S : SF} {W : SD} (a b : Nat) (F : Fun K x qual st f fd) (Sc : FnScope N ps (defScope st)) (ha : ps.length = a) (hb : N.length = b)
    (hw : ∀ (cdv : Value) (A : Around) (outer : List Env) (s : Shared) (H : Hp) (E : XK), Room k (A.deeper (envOfC qual (defScope st) s.heap.objs.size f cdv)) → PSDs (cxOf CX0 P w K mg base N qual (defScope st) f cdv A outer s H E).nox (defBody st) W)
    (hp : IsS W S) : FnOk P w K mg base CX0 (k + 1) f fd ps (spP K (fnF a b S)) := fn_ok F Sc hw fun ds d e => by
  obtain ⟨l, e⟩ := ite_is e
  obtain ⟨r, e1, e2⟩ := bind_is e
  refine ⟨by rw [ha]; exact l, ?_⟩
  have e1' : S (startD N ds) = some r := by
    unfold startD
    rw [hb]
    exact e1
  refine hp (startD N ds) 0 (endD d) r e1' ?_
  cases r with
  | nx ρ => cases e2; rfl
  | rt x => cases e2; rfl
  | bk ρ => cases e2
  | ct ρ => cases e2
end My
namespace My
open PySem PySem.Spec PyProof.Rows L2
variable [TbC]
def isC (T S : String) : Bool := decide (S = T) || (decide (T = "int") && decide (S = "bool"))
section
variable {X : Cx}
def revD : PyData → Option PyData
  | .tuple xs => some (.tuple xs.reverse)
  | _ => none
def eRev (w : ED) : ED := fun ρ n Q => w ρ n fun x n1 => ∃ z, revD x = some z ∧ Q z n1
def fRev (f : EF) : EF := fun ρ => (f ρ).bind revD
end
section
variable {X : Cx}
def PuM (K : PySem.W.Frag) (r : V → List V → Hp → VK → Prop) (f : Str → List PyData → Option PyData) : Prop := ∀ {O H z xs ds dz} {Q : VK}, Dom O H → RpAll K (hid O H) xs ds → f z ds = some dz → (∀ v H', Same H H' → Rp K (hid O H') v dz → Q v H') → r (.str z) xs H Q
def eMeth (f : Str → List PyData → Option PyData) (wo : ED) (ws : AD) : ED := fun ρ n Q => wo ρ n fun x n1 => ∃ z, x = .str z ∧ ws ρ n1 fun xs n2 => ∃ d, f z xs = some d ∧ Q d n2
theorem rd_meth {K : PySem.W.Frag} {r : V → List V → Hp → VK → Prop} {f : Str → List PyData → Option PyData} {wo : ED} {ws : AD} (h : PuM K r f) : RdE K (tBM K "str" r (tW K wo) (tWA K ws)) (eMeth f wo ws) := fun S hw k => rd_W S hw fun v d H1 n1 f1 d1 r1 ⟨z, e, q⟩ => by
  subst e
  cases r1
  refine ⟨rfl, rda_W (S.step f1 d1) q fun vs ds H2 n2 f2 d2 r2 ⟨dz, ez, q2⟩ => ?_⟩
  exact h (S.step (f1.trans f2) d2).dom r2 ez fun v' H' s r => k _ _ H' n2 ((f1.trans f2).trans (FrD.of s)) (d2.same s) r q2
def startsD (z : Str) : List PyData → Option PyData
  | [.str b] => some (.bool (Txt.startswith z b))
  | _ => none
def endsD (z : Str) : List PyData → Option PyData
  | [.str b] => some (.bool (Txt.endswith z b))
  | _ => none
def joinSz (a : Str) (ys : List Str) : Bool := decide ((ys.map (·.length)).sum + ys.length * a.length ≤ 1000000)
def joinD (z : Str) : List PyData → Option PyData
  | [.list xs] => (strsD xs).bind fun ys => if joinSz z ys = true then some (.str (Txt.join z ys)) else none
  | [.tuple xs] => (strsD xs).bind fun ys => if joinSz z ys = true then some (.str (Txt.join z ys)) else none
  | _ => none
def splitD (z : Str) : List PyData → Option PyData
  | [.str b] => if (b.length == 0) = false ∧ z.length ≤ lim then some (.list ((Txt.split z b).map PyData.str)) else none
  | _ => none
omit [TbC] in
theorem pu_starts {K : PySem.W.Frag} : PuM K (fun x xs H Q => ∃ a b, x = .str a ∧ xs = [.str b] ∧ Q (.bl (Txt.startswith a b)) H) startsD := fun {O H z xs ds dz Q} dm r e k => by
  match ds, e with
  | [.str b], e =>
    cases e
    obtain ⟨v, rfl, r1⟩ := rps1 r
    cases r1
    exact ⟨z, b, rfl, rfl, k _ H (Same.refl H) (.bl _)⟩
end
section
variable {K : PySem.W.Frag}
omit [TbC] in
theorem pu_ends : PuM K (fun x xs H Q => ∃ a b, x = .str a ∧ xs = [.str b] ∧ Q (.bl (Txt.endswith a b)) H) endsD := fun {O H z xs ds dz Q} dm r e k => by
  match ds, e with
  | [.str b], e =>
    cases e
    obtain ⟨v, rfl, r1⟩ := rps1 r
    cases r1
    exact ⟨z, b, rfl, rfl, k _ H (Same.refl H) (.bl _)⟩
omit [TbC] in
theorem join_sz {a : Str} {ys : List Str} (h : joinSz a ys = true) : (ys.map (·.length)).sum + ys.length * a.length ≤ 16777216 := by
  have z := of_decide_eq_true h
  omega
omit [TbC] in
theorem pu_join : PuM K (fun x xs H Q => ∃ a p, ∃ ys : List Str, x = .str a ∧ xs = [.ref p] ∧ (SqL K H p (ys.map V.str) ∨ SqT K H p (ys.map V.str)) ∧ (ys.map (·.length)).sum + ys.length * a.length ≤ 16777216 ∧ Q (.str (Txt.join a ys)) H) joinD := fun {O H z xs ds dz Q} dm r e k => by
  match ds, e with
  | [.list xs], e =>
    obtain ⟨ys, e1, e⟩ := bind_is e
    obtain ⟨c, e⟩ := ite_is e
    cases e
    obtain ⟨v, rfl, r1⟩ := rps1 r
    cases r1 with
    | lst h1 a1 =>
    obtain ⟨rfl, _⟩ := rps_strs a1 e1
    exact ⟨z, _, ys, rfl, rfl, .inl (.inl (.inl (hid_le _ _ h1))), join_sz c, k _ H (Same.refl H) (.str _)⟩
  | [.tuple xs], e =>
    obtain ⟨ys, e1, e⟩ := bind_is e
    obtain ⟨c, e⟩ := ite_is e
    cases e
    obtain ⟨v, rfl, r1⟩ := rps1 r
    cases r1 with
    | tup h1 a1 _ =>
    obtain ⟨rfl, _⟩ := rps_strs a1 e1
    exact ⟨z, _, ys, rfl, rfl, .inr (same_seqT hid_le h1), join_sz c, k _ H (Same.refl H) (.str _)⟩
omit [TbC] in
theorem pu_split : PuM K (fun x xs H Q => ∃ a b, x = .str a ∧ xs = [.str b] ∧ (b.length == 0) = false ∧ a.length + 2 ≤ sizeLine ∧ rNewStrs (Txt.split a b) H Q) splitD := fun {O H z xs ds dz Q} dm r e k => by
  match ds, e with
  | [.str b], e =>
    obtain ⟨c, e⟩ := ite_is e
    cases e
    obtain ⟨v, rfl, r1⟩ := rps1 r
    cases r1
    refine ⟨z, b, rfl, rfl, c.1, ?_, fun p np => k _ _ (same_new np) (.lst (hid_new dm np) (rps_back _))⟩
    have h1 := c.2
    have h2 : lim + 2 ≤ sizeLine := by
      rw [sizeLine_eq]
      decide
    omega
end
def asS : PyData → Option Str
  | .str z => some z
  | _ => none
omit [TbC] in
theorem asS_is {d : PyData} {b : Str} (h : asS d = some b) : d = .str b := by
  cases d with
  | str c => cases h; rfl
  | _ => cases h
def fMeth (f : Str → List PyData → Option PyData) (o : EF) (a : AF) : EF := fun ρ => ((o ρ).bind asS).bind fun z => (a ρ).bind fun xs => f z xs
omit [TbC] in
theorem is_meth {f : Str → List PyData → Option PyData} {wo : ED} {ws : AD} {o : EF} {a : AF} (h : IsE wo o) (k : IsA ws a) : IsE (eMeth f wo ws) (fMeth f o a) := fun ρ n Q d e q => by
  obtain ⟨z, e1, e⟩ := bind_is e
  obtain ⟨x, e0, e1⟩ := bind_is e1
  rw [asS_is e1] at e0
  obtain ⟨xs, e2, e⟩ := bind_is e
  exact h ρ n _ _ e0 ⟨z, rfl, k ρ n _ xs e2 ⟨d, e, q⟩⟩
end My
namespace My
open PySem PySem.Spec PyProof.Rows L2
variable [TbC]
def pur (f : EF) : ED := fun ρ n Q => ∃ d, f ρ = some d ∧ Q d n
def purA (f : AF) : AD := fun ρ n Q => ∃ d, f ρ = some d ∧ Q d n
def purT (f : TF) : TD := fun ρ n Q => ∃ d, f ρ = some d ∧ Q d n
def purS (f : SF) : SD := fun ρ n E => ∃ r, f ρ = some r ∧ r.ends E n
section
variable {X : Cx}
theorem PD.weak {e : Expr} {w w' : ED} (h : PD X e w) (k : ∀ ρ n Q, w' ρ n Q → w ρ n Q) : PD X e w' := qd_mk h fun S hw kk => rd_W S (k _ _ _ hw) kk
theorem qd_pur {e : Expr} {w : ED} {f : EF} (h : PD X e w) (k : IsE w f) : PD X e (pur f) := PD.weak h fun ρ n Q ⟨d, e, q⟩ => k ρ n Q d e q
theorem qdt_pur {e : Expr} {w : TD} {f : TF} (h : PDT X e w) (k : IsB w f) : PDT X e (purT f) := qdt_mk h fun S ⟨d, e, q⟩ kk => rdt_W S (k _ _ _ d e q) kk
theorem qdi_pur {tg iter : Expr} {w : AD} {f : AF} (h : PDI X tg iter w) (k : IsA w f) : PDI X tg iter (purA f) := qdi_mk h fun S ⟨d, e, q⟩ kk => ⟨_, _, _, _, _, _, _, S, k _ _ _ d e q, kk⟩
theorem qs_pur {st : Stmt} {w : SD} {f : SF} (h : PSD X st w) (k : IsS w f) : PSD X st (purS f) := qs_mk h fun S ⟨d, e, q⟩ kk => ⟨_, _, _, _, _, _, _, S, k _ _ _ d e q, kk⟩
def negF : PyData → Option PyData
  | .int i => some (.int (-i))
  | _ => none
def eNeg (w : ED) : ED := fun ρ n Q => w ρ n fun x n1 => ∃ z, negF x = some z ∧ Q z n1
theorem qd_neg {e : Expr} {w : ED} {pos : Pos} (h : PD X e w) : PD X (.UnaryOp .USub e pos) (eNeg w) := qd_mk (pe_un un_neg h) fun S hw k => rd_W S hw fun v d H1 n1 f1 d1 r1 ⟨z, e, q⟩ => by
  cases d with
  | int i =>
    cases e
    cases r1
    exact ⟨i, rfl, k _ _ H1 n1 f1 d1 (.int _) q⟩
  | _ => cases e
def fNeg (f : EF) : EF := fun ρ => (f ρ).bind negF
omit [TbC] in
theorem is_neg {w : ED} {f : EF} (h : IsE w f) : IsE (eNeg w) (fNeg f) := fun ρ n Q d e q => by
  obtain ⟨x, e1, e2⟩ := bind_is e
  exact h ρ n _ x e1 ⟨d, e2, q⟩
def aK (ds : List PyData) : AD := fun _ n Q => Q ds n
theorem qdk_nil : PDA X [] (aK []) := qda_nil
theorem qdk_cons {e : Expr} {es : List Expr} {d : PyData} {ds : List PyData} (h : PD X e (eC d)) (hs : PDA X es (aK ds)) (h1 : starEach (e :: es) X.env = (false, eval e X.env) :: starEach es X.env := by rfl) : PDA X (e :: es) (aK (d :: ds)) := qda_mk (qda_cons h hs h1) fun S hw k => rda_W S (w := aC (eC d) (aK ds)) hw k
theorem qdk_lst {es : List Expr} {ds : List PyData} {pos : Pos} (h : PDA X es (aK ds)) (l : ds.length ≤ lim := by decide) : PD X (.List es pos) (eC (.list ds)) := PD.weak (qd_lst h) fun ρ n Q q => ⟨l, q⟩
end
end My
namespace My
open PySem PySem.Spec PyProof.Rows L2
section
open PySem.SeqAt
open PySem.AutoSeq1 (wpAny_loadPart')
open PySem.MeetsSeq PySem.MeetsSeq2 PySem.MeetsSeq3
theorem ltK_cons (x y : Str) (xs ys : List Str) : ltK (x :: xs) (y :: ys) = if x = y then ltK xs ys else ltS x y := rfl
theorem ltK_ends : ∀ {xs ys : List Str}, xs.zip ys = [] → ltK xs ys = decide (xs.length < ys.length)
  | [], [], _ => rfl
  | [], y :: r, _ => by
    rw [decide_eq_true (by simp)]
    rfl
  | x :: r, [], _ => by
    rw [decide_eq_false (by simp)]
    rfl
  | x :: r, y :: t, h => by cases h
theorem tuple_lt_texts (a b : Addr) (I1 I2 : Array Value) (n1 n2 : Nat) (d1 d2 : Option Addr) (s1 s2 : Array (Option Value)) (ks ms : List Str) (h1 : StrsAre I1.toList ks) (h2 : StrsAre I2.toList ms) :
    Meets (Builtin.«tuple.__lt__» ⟨[.ref a, .ref b], []⟩)
      (fun _ R z => z.heap.get? a = some { cls := .type "tuple", dict := d1, data := .seq I1 n1, slots := s1 } ∧ z.heap.get? b = some { cls := .type "tuple", dict := d2, data := .seq I2 n2, slots := s2 } ∧ R (.ok (.ret (.bool (ltK ks ms)))) z) :=
  .of_wp fun P w A R z hz => by
    obtain ⟨hp, gs, dr, tk, os⟩ := z
    obtain ⟨ha, hb, hR⟩ := hz
    have sub := AutoSeq1.sub_tuple_tuple
    have l1 : I1.size = ks.length := by rw [← h1.length]; simp
    have l2 : I2.size = ms.length := by rw [← h2.length]; simp
    wp_walk using wpAny_loadPart' ha, wpAny_loadPart' hb, wpAny_forIn_list _ (fun rest c z' => c.1 = none ∧ z' = ⟨hp, gs, dr, tk, os⟩ ∧ ∃ (vs us : List Value) (k' m' : List Str), rest = vs.zip us ∧
      StrsAre vs k' ∧ StrsAre us m' ∧ k'.length + I2.size = m'.length + I1.size ∧ R (.ok (.ret (.bool (ltK k' m')))) ⟨hp, gs, dr, tk, os⟩) _
    case turn =>
      rintro ⟨v, u⟩ rest c z' ⟨hc, rfl, vs, us, k', m', er, hv, hu, len, hR⟩
      cases hv with
      | nil =>
        rw [List.zip_nil_left] at er
        cases er
      | cons x t hv' =>
        cases hu with
        | nil =>
          rw [List.zip_nil_right] at er
          cases er
        | cons y t' hu' =>
          rw [List.zip_cons_cons] at er
          obtain ⟨e1, er'⟩ := List.cons.inj er
          obtain ⟨rfl, rfl⟩ := Prod.mk.inj e1
          rw [ltK_cons] at hR
          simp only [List.length_cons] at len
          have eq : SeqAt.EqAt A.in1 ⟨hp, gs, dr, tk, os⟩ (.str x t) (.str y t') (decide (x = y)) := eqAt_V (y := .str x) (x := .str y) ⟨t, rfl⟩ ⟨t', rfl⟩ rfl rfl |> fun q => by
            have e : eqV (.str x) (.str y) = decide (x = y) := by
              show (x == y) = _
              rw [Bool.eq_iff_iff, beq_iff_eq, decide_eq_true_eq]
            rw [← e]
            exact q
          refine wpAny_bind (eq P w _ _ ?_)
          by_cases exy : x = y
          · rw [if_pos exy] at hR
            rw [decide_eq_true exy]
            wp_walk
            exact ⟨rfl, rfl, _, _, _, _, er', hv', hu', by omega, hR⟩
          · rw [if_neg exy, ← ltS_eq] at hR
            rw [decide_eq_false exy]
            have lt : ∀ (E' : Value → Shared → Prop) (Q : Value → Shared → Prop), Q (.bool (decide (x.cps.toList < y.cps.toList))) ⟨hp, gs, dr, tk, os⟩ → wpAny (model P w) A.in1 (richCompare .Lt (.str x t) (.str y t')) Q E' ⟨hp, gs, dr, tk, os⟩ := fun E' Q q => (PyProof.Rows.lt_str q : wpAny (model P w) A.in1 (compareOp .Lt (.str x t) (.str y t')) Q E' _)
            wp_walk using lt
            exact ⟨_, rfl, by simpa using hR⟩
    case fin =>
      rintro ⟨c1, c2⟩ z' ⟨hc, rfl, vs, us, k', m', er, hv, hu, len, hR⟩
      simp only at hc
      subst hc
      have ez : k'.zip m' = [] := by
        cases hv with
        | nil => exact List.zip_nil_left
        | cons x t _ =>
          cases hu with
          | nil => exact List.zip_nil_right
          | cons y t' _ =>
            rw [List.zip_cons_cons] at er
            cases er
      rw [ltK_ends ez, show decide (k'.length < m'.length) = decide (I1.size < I2.size) from decide_eq_decide.mpr ⟨fun h => by omega, fun h => by omega⟩] at hR
      wp_walk
      exact ⟨_, rfl, by simpa [Builtin.Tuple.tupleCompareSizes] using hR⟩
    case h => exact ⟨rfl, rfl, I1.toList, I2.toList, ks, ms, rfl, h1, h2, by omega, hR⟩
end
def rLtK (K : PySem.W.Frag) : R2 := fun x y H Q => ∃ (a b : Addr) (ks ms : List Str), x = .ref a ∧ y = .ref b ∧ SqT K H a (ks.map V.str) ∧ SqT K H b (ms.map V.str) ∧ Q (.bl (ltK ks ms)) H
theorem op_ltK {X : Cx} (hu : X.A.units < cLine) : OpR X (compareOp .Lt) (rLtK X.K) := by
  intro pins s σ H x y v u Q I rx ry h
  obtain ⟨a, b, ks, ms, rfl, rfl, ha, hb, q⟩ := h
  cases (show v = Value.ref a from rx)
  cases (show u = Value.ref b from ry)
  obtain ⟨is1, r1, ⟨⟨c1, d1, dt1, sl1⟩, o1, e1, n1, f1⟩, _⟩ := I.tuple ha
  obtain ⟨is2, r2, ⟨⟨c2, d2, dt2, sl2⟩, o2, e2, n2, f2⟩, _⟩ := I.tuple hb
  simp only at e1 e2 f1 f2
  subst e1 e2 f1 f2
  refine richCompare_meets_room (op := .Lt) ⟨_, o1, rfl⟩ ⟨_, o2, rfl⟩ PySem.F.slot_tuple_lt PySem.F.entry_tuple_lt (PySem.F.args_tuple_lt_2 _ _) (tuple_lt_texts a b is1.toArray is2.toArray n1 n2 d1 d2 sl1 sl2 ks ms (by simpa using strsAre_of r1) (by simpa using strsAre_of r2)) ⟨o1, o2, ?_⟩ hu
  exact ⟨(fun z => nomatch z), .bl (ltK ks ms), H, I, rfl, q⟩
end My
namespace My
open PySem PySem.Spec PyProof.Rows L2
theorem tuple_mulW1 (l : Addr) (items : Array Value) (n : Nat) (dd : Option Addr) (sl : Array (Option Value)) (x : Int) (u : Tok) (c0 : (decide (x < -(2 ^ 63)) || decide (x ≥ 2 ^ 63)) = false) (c1 : (items.isEmpty || x == 1) = true) :
    Meets (Builtin.«tuple.__mul__» ⟨[.ref l, .int x u], []⟩) (fun _ R s => s.heap.get? l = some { cls := .type "tuple", dict := dd, data := .seq items n, slots := sl } ∧
      R (.ok (.ret (Value.ref l))) s) :=
  .of_wp fun prog w A R s h => by
    obtain ⟨hp, g, d, tk, os⟩ := s
    obtain ⟨hl, h⟩ := h
    have f1 := AutoSeq1.idx_int
    wp_walk using wpAny_loadPart' hl
    repeat (first
      | (refine wpAny_ite_false (decide_eq_false (by rw [c0]; exact Bool.false_ne_true)) ?_; wp_walk using wpAny_loadPart' hl)
      | (refine wpAny_ite_true (decide_eq_true c1) ?_; wp_walk using wpAny_loadPart' hl))
    exact ⟨_, rfl, h⟩
def rRepT1 (K : PySem.W.Frag) : R2 := fun x y H Q => ∃ l xs, x = .ref l ∧ y = .int 1 ∧ SqT K H l xs ∧ Q (.ref l) H
section
variable {X : Cx}
theorem op_repT1 : OpR X (binaryOp .Mult) (rRepT1 X.K) := by
  intro pins s σ H x y v u Q I rx ry h
  obtain ⟨l, xs, rfl, rfl, hT, q⟩ := h
  cases rx
  obtain ⟨t, rfl⟩ := ry
  obtain ⟨its, r, ⟨⟨cls, dd, data, sl⟩, ho, hc, n, hd⟩, hs⟩ := I.tuple hT
  simp only at hc hd
  subst hc hd
  have c0 : (decide ((1 : Int) < -(2 ^ 63)) || decide ((1 : Int) ≥ 2 ^ 63)) = false := by decide
  have c1 : (its.toArray.isEmpty || (1 : Int) == 1) = true := by
    rw [show ((1 : Int) == 1) = true from rfl, Bool.or_true]
  exact wpAny_binaryOp_repeat_ref (T := "tuple") (U := "int") (by decide) ⟨_, ho, rfl⟩ (fun s' => typeIs_int s' 1 t) noFill_tuple_mul F.fills_int_mul F.slot_int_rmul repeat_tuple F.slot_int_index.lookup
    (call_meets F.slot_int_rmul (typeIs_int s 1 t) F.entry_int_rmul (F.args_int_rmul_2 _ _) (int_rmul_tuple 1 t l its.toArray n dd sl)
      ⟨ho, rfl, ⟨_, ho, rfl⟩, call_meets F.slot_tuple_mul ⟨_, ho, rfl⟩ F.entry_tuple_mul (F.args_tuple_mul_2 _ _) (tuple_mulW1 l its.toArray n dd sl 1 t c0 c1) ⟨ho, ⟨.ref l, H, I, rfl, q⟩⟩⟩)
def rRepT0 (K : PySem.W.Frag) : R2 := fun x y H Q => ∃ l k, x = .ref l ∧ y = .int k ∧ SqT K H l [] ∧ 1 ≤ k ∧ k ≤ 1000 ∧ Q (.ref l) H
theorem op_repT0 : OpR X (binaryOp .Mult) (rRepT0 X.K) := by
  intro pins s σ H x y v u Q I rx ry h
  obtain ⟨a, m, rfl, rfl, hT, h1, h2, q⟩ := h
  cases rx
  obtain ⟨t, rfl⟩ := ry
  obtain ⟨us, r, ⟨⟨oc, od, dat, os⟩, ho, hc, n, hd⟩, _⟩ := I.tuple hT
  simp only at hc hd
  subst hc hd
  cases r
  have c0 : (decide (m < -(2 ^ 63)) || decide (m ≥ 2 ^ 63)) = false := by
    rw [decide_eq_false (by omega), decide_eq_false (by omega)] <;> rfl
  have c1 : ((([] : List Value).toArray).isEmpty || m == 1) = true := rfl
  exact wpAny_binaryOp_repeat_ref (T := "tuple") (U := "int") (by decide) ⟨_, ho, rfl⟩ (fun s2 => typeIs_int s2 m t) noFill_tuple_mul F.fills_int_mul F.slot_int_rmul repeat_tuple F.slot_int_index.lookup
    (call_meets F.slot_int_rmul (typeIs_int s m t) F.entry_int_rmul (F.args_int_rmul_2 _ _) (int_rmul_tuple m t a _ n od os)
      ⟨ho, rfl, ⟨_, ho, rfl⟩, call_meets F.slot_tuple_mul ⟨_, ho, rfl⟩ F.entry_tuple_mul (F.args_tuple_mul_2 _ _) (tuple_mulW1 a _ n od os m t c0 c1) ⟨ho, ⟨.ref a, H, I, rfl, q⟩⟩⟩)
def rRepTK (K : PySem.W.Frag) : R2 := fun x y H Q => ∃ l k xs, x = .ref l ∧ y = .int k ∧ SqT K H l xs ∧ xs ≠ [] ∧ 2 ≤ k ∧ k ≤ 1000 ∧ xs.length ≤ 1000 ∧ ∀ (p : Addr) (o : HO), H p = none → KTup p (List.replicate k.toNat xs).flatten o → Q (.ref p) (upd H p o)
theorem op_repTK : OpR X (binaryOp .Mult) (rRepTK X.K) := by
  intro pins s σ H x y v u Q I rx ry h
  obtain ⟨a, m, ys, rfl, rfl, hT, hne, h1, h2, hz, q⟩ := h
  cases rx
  obtain ⟨t, rfl⟩ := ry
  obtain ⟨us, r, ⟨⟨oc, od, dat, os⟩, ho, hc, n, hd⟩, _⟩ := I.tuple hT
  simp only at hc hd
  subst hc hd
  have le : us.length = ys.length := r.length.symm
  have l0 : 0 < ys.length := List.length_pos_iff.mpr hne
  have em : us.toArray.isEmpty = false := by
    cases us with
    | nil => simp only [List.length_nil] at le; omega
    | cons a b => rfl
  have sz : us.toArray.size = ys.length := by rw [List.size_toArray, le]
  have big : ((us.toArray.size : Nat) : Int) * m ≤ 1000000 := by
    rw [sz]
    have z : ((ys.length : Nat) : Int) * m ≤ 1000 * m := Int.mul_le_mul_of_nonneg_right (by omega) (by omega)
    omega
  have fl : (List.replicate m.toNat us).flatten.length ≤ sizeLine := by
    rw [PyProof.Rows.lm_len_rep_flat, le, sizeLine_eq]
    have z : m.toNat * ys.length ≤ 1000 * 1000 := Nat.mul_le_mul (by omega) hz
    omega
  have flv : (List.replicate m.toNat ys).flatten.length ≤ sizeLine := by
    rw [PyProof.Rows.lm_len_rep_flat, sizeLine_eq]
    have z : m.toNat * ys.length ≤ 1000 * 1000 := Nat.mul_le_mul (by omega) hz
    omega
  have c0 : (decide (m < -(2 ^ 63)) || decide (m ≥ 2 ^ 63)) = false := by
    rw [decide_eq_false (by omega), decide_eq_false (by omega)] <;> rfl
  have c1 : (us.toArray.isEmpty || m == 1) = false := by
    rw [em, Bool.false_or]
    exact beq_eq_false_iff_ne.mpr (by omega)
  have c2 : (decide (m ≤ 0) || us.toArray.isEmpty) = false := by
    rw [em, Bool.or_false]
    exact decide_eq_false (by omega)
  have c4 : Builtin.Tuple.tupleTooMany (((us.toArray.size : Nat) : Int) * m) = false := by
    unfold Builtin.Tuple.tupleTooMany
    rw [sizeLine_eq]
    exact decide_eq_false (by omega)
  refine wpAny_binaryOp_repeat_ref (T := "tuple") (U := "int") (by decide) ⟨_, ho, rfl⟩ (fun s2 => typeIs_int s2 m t) noFill_tuple_mul F.fills_int_mul F.slot_int_rmul repeat_tuple F.slot_int_index.lookup
    (call_meets F.slot_int_rmul (typeIs_int s m t) F.entry_int_rmul (F.args_int_rmul_2 _ _) (int_rmul_tuple m t a us.toArray n od os)
      ⟨ho, rfl, ⟨_, ho, rfl⟩, call_meets F.slot_tuple_mul ⟨_, ho, rfl⟩ F.entry_tuple_mul (F.args_tuple_mul_2 _ _) (tuple_mulW a us.toArray n od os m t c0 c1 c2 (by omega) c4 (by rw [size_rep, List.size_toArray]; exact fl)) ⟨ho, ?_⟩⟩)
  rw [size_rep]
  exact ⟨.ref s.heap.objs.size, _, I.laid (t' := s.toks) (fun b ob q => Heap.get?_push_of_some _ q) (Nat.le_refl _) (ktup_new (n := 0) flv (r.rep m.toNat) (Heap.get?_push_size _ rfl)), rfl, q _ _ (I.hok.fresh (Nat.le_refl _)) ⟨_, _, rfl⟩⟩
def repS (x : Str) (k : Nat) : Str := ⟨(List.replicate k x.cps).foldl (· ++ ·) #[]⟩
def rRepS : R2 := fun x y H Q => ∃ (z : Str) (k : Int), x = .str z ∧ y = .int k ∧ 1 ≤ k ∧ k ≤ 1000 ∧ 0 < z.length ∧ z.length ≤ 1000 ∧ (repS z k.toNat).length ≤ sizeLine ∧ Q (.str (repS z k.toNat)) H
theorem op_repS : OpR X (binaryOp .Mult) rRepS := by
  intro pins s σ H x y v u Q I rx ry h
  obtain ⟨z, k, rfl, rfl, h1, h2, z0, z1, z2, q⟩ := h
  obtain ⟨t, rfl⟩ := rx
  obtain ⟨t', rfl⟩ := ry
  have hm : (z.length : Int) * k ≤ 1000000 := by
    have a1 : (z.length : Int) * k ≤ 1000 * k := Int.mul_le_mul_of_nonneg_right (by omega) (by omega)
    omega
  have hm2 : z.length * k.toNat ≤ 1000000 := by
    have a1 : z.length * k.toNat ≤ 1000 * 1000 := Nat.mul_le_mul z1 (by omega)
    omega
  refine PySem.P.mul_str ?_ (fun _ _ => ?_) (fun _ _ => ?_) ?_
  · rw [decide_eq_false (by omega), decide_eq_false (by omega)]
    rfl
  · intro hc
    have e : (2 ^ 63 - 1 : Int) / 1000 ≤ (2 ^ 63 - 1) / k := by
      rw [Int.le_ediv_iff_mul_le (by omega)]
      omega
    omega
  · unfold Builtin.Str.tooLong
    exact decide_eq_false (by rw [sizeLine_eq]; omega)
  · rw [if_neg (by omega)]
    by_cases e : k = 1
    · subst e
      rw [if_pos (by rfl)]
      have e2 : repS z (1 : Int).toNat = z := by
        show (⟨(List.replicate 1 z.cps).foldl (· ++ ·) #[]⟩ : Str) = z
        simp
      rw [e2] at q
      exact ⟨.str z, H, I, ⟨t, rfl⟩, q⟩
    · rw [if_neg (by
        rw [Bool.or_eq_true]
        rintro (h | h)
        · exact e (eq_of_beq h)
        · have := eq_of_beq h
          omega)]
      exact ⟨z2, .str _, H, I.tok _, ⟨_, rfl⟩, q⟩
end
end My
namespace My
open PySem PySem.Spec PyProof.Rows L2
variable [TbC]
omit [TbC] in
theorem lt0 {a c : Nat} (h : a + 64 < c) : a < c := by omega
omit [TbC] in
theorem OpR.or {X : Cx} {f : Value → Value → Sem Value} {r r' : R2} (h : OpR X f r) (h' : OpR X f r') : OpR X f (fun x y H Q => r x y H Q ∨ r' x y H Q) := by
  intro pins s σ H x y v u Q I rx ry q
  rcases q with q | q
  · exact h pins s σ H x y v u Q I rx ry q
  · exact h' pins s σ H x y v u Q I rx ry q
def ltX : PyData → PyData → Option PyData
  | .int i, .int j => some (.bool (decide (i < j)))
  | .tuple xs, .tuple ys => (strsD xs).bind fun ks => (strsD ys).map fun ms => .bool (ltK ks ms)
  | _, _ => none
section
variable {K : PySem.W.Frag}
def rLtX (K : PySem.W.Frag) : R2 := fun x y H Q => (rI0 fun i j => .bl (decide (i < j))) x y H Q ∨ rLtK K x y H Q
omit [TbC] in
theorem op_ltX {X : Cx} (hu : X.A.units < cLine) : OpR X (compareOp .Lt) (rLtX X.K) := OpR.or op_lt (op_ltK hu)
omit [TbC] in
theorem pu_ltX : Pu2 K (rLtX K) ltX := by
  intro O H x y dx dy dz Q dm rx ry e k
  match dx, dy, e with
  | .int i, .int j, e =>
    exact .inl (pu_cmp (p := fun i j => decide (i < j)) dm rx ry e k)
  | .tuple xs, .tuple ys, e =>
    obtain ⟨ks, e1, e⟩ := Option.bind_eq_some_iff.mp e
    obtain ⟨ms, e2, rfl⟩ := Option.map_eq_some_iff.mp e
    cases rx with
    | tup h1 a1 _ =>
    cases ry with
    | tup h2 a2 _ =>
    refine .inr ⟨_, _, ks, ms, rfl, rfl, ?_, ?_, k _ H (Same.refl H) (.bl _)⟩
    · rw [← (rps_strs a1 e1).1]
      exact same_seqT hid_le h1
    · rw [← (rps_strs a2 e2).1]
      exact same_seqT hid_le h2
def mulX : PyData → PyData → Option PyData
  | .int i, .int j => if i.natAbs < 2 ^ 32 ∧ j.natAbs < 2 ^ 32 then some (.int (i * j)) else none
  | .list xs, .int k => if 0 ≤ k ∧ k ≤ 1000 ∧ xs.length * k.toNat ≤ lim then some (.list (List.replicate k.toNat xs).flatten) else none
  | .tuple xs, .int k => if 1 ≤ k ∧ k ≤ 1000 ∧ xs.length ≤ 1000 then some (.tuple (List.replicate k.toNat xs).flatten) else none
  | .str z, .int k => if 1 ≤ k ∧ k ≤ 1000 ∧ 0 < z.length ∧ z.length ≤ 1000 ∧ (repS z k.toNat).length ≤ lim then some (.str (repS z k.toNat)) else none
  | _, _ => none
def rMulX (K : PySem.W.Frag) : R2 := fun x y H Q => ((rI CMulW fun i j => .int (i * j)) x y H Q ∨ rRep x y H Q) ∨ (rRepTK K x y H Q ∨ rRepT1 K x y H Q) ∨ rRepS x y H Q ∨ rRepT0 K x y H Q
omit [TbC] in
theorem op_mulX' {X : Cx} : OpR X (binaryOp .Mult) (rMulX X.K) := OpR.or (OpR.or op_mulW op_rep) (OpR.or (OpR.or op_repTK op_repT1) (OpR.or op_repS op_repT0))
omit [TbC] in
theorem rps_rep {H : Hp} {vs : List V} {ds : List PyData} (h : RpAll K H vs ds) : ∀ m : Nat, RpAll K H (List.replicate m vs).flatten (List.replicate m ds).flatten
  | 0 => .nil
  | m + 1 => by
    rw [List.replicate_succ, List.replicate_succ, List.flatten_cons, List.flatten_cons]
    exact RpAll.app h (rps_rep h m)
omit [TbC] in
theorem pu_mulX : Pu2 K (rMulX K) mulX := by
  intro O H x y dx dy dz Q dm rx ry e k
  match dx, dy, e with
  | .int i, .int j, e =>
    obtain ⟨c, e⟩ := ite_some e
    subst e
    cases rx
    cases ry
    exact .inl (.inl ⟨_, _, rfl, rfl, wide_mul c.1 c.2 (by decide) (by decide) (by decide), k _ H (Same.refl H) (.int _)⟩)
  | .list xs, .int j, e =>
    obtain ⟨c, e⟩ := ite_some e
    subst e
    cases ry
    cases rx with
    | @lst a us _ h1 a1 =>
    have z := lim_le
    refine .inl (.inr ⟨a, j, us, rfl, rfl, hid_le _ _ h1, by omega, by omega, by rw [a1.len]; omega, fun p np => ?_⟩)
    have st := same_new (o := .lst (List.replicate j.toNat us).flatten) np
    exact k _ _ st (.lst (hid_new dm np) (RpAll.same (hid_same st) _ _ (rps_rep a1 _)))
  | .tuple xs, .int j, e =>
    obtain ⟨c, e⟩ := ite_some e
    subst e
    cases ry
    cases rx with
    | @tup a us _ h1 a1 hp =>
    by_cases one : j = 1
    · subst one
      refine .inr (.inl (.inr ⟨a, us, rfl, rfl, same_seqT hid_le h1, k _ H (Same.refl H) ?_⟩))
      rw [show (List.replicate (1 : Int).toNat xs).flatten = xs by simp]
      exact .tup h1 a1 hp
    · by_cases hx : xs = []
      · subst hx
        cases a1
        refine .inr (.inr (.inr ⟨a, j, rfl, rfl, same_seqT hid_le h1, c.1, c.2.1, k _ H (Same.refl H) ?_⟩))
        rw [show (List.replicate j.toNat ([] : List PyData)).flatten = [] by simp]
        exact .tup h1 .nil hp
      · refine .inr (.inl (.inl ⟨a, j, us, rfl, rfl, same_seqT hid_le h1, fun e => hx (by rw [e] at a1; cases a1; rfl), by omega, c.2.1, by rw [a1.len]; exact c.2.2, fun p o np kt => ?_⟩))
        have st := same_new (o := o) np
        exact k _ _ st (.tup (kt.rd (hid_new dm np)) (RpAll.same (hid_same st) _ _ (rps_rep a1 _)) fun _ => kt.pl (hid_new dm np))
  | .str z, .int j, e =>
    obtain ⟨c, e⟩ := ite_some e
    subst e
    cases rx
    cases ry
    have w := lim_le
    exact .inr (.inr (.inl ⟨z, j, rfl, rfl, c.1, c.2.1, c.2.2.1, c.2.2.2.1, by omega, k _ H (Same.refl H) (.str _)⟩))
end
end My
namespace My
open PySem PySem.Spec PyProof.Rows L2
theorem callWith_kwT {M : Model} {A : Around} {E : Value → Shared → Prop} {s : Shared} {env : Env} {pos : Pos} {T : String} {e : Expr} {kws : List Keyword} {Q : Value → Shared → Prop}
    (h : wpAny M A (spliced (backTo pos (starEach [e] env))) (fun vs s₁ => wpAny M A (evalAll (List.map (fun x => x.snd) (backToKw pos (keywordEach kws env)))) (fun kvs s₂ => wpAny M A (call (Value.type T) vs ((List.filterMap (fun x => x.fst) (backToKw pos (keywordEach kws env))).zip kvs)) Q E s₂) E s₁) E s)
    (h1 : ∃ m, backTo pos (starEach [e] env) = [(false, m)])
    (h3 : ((backToKw pos (keywordEach kws env)).all fun x => x.fst.isSome) = true)
    (h4 : ((backToKw pos (keywordEach kws env)).any fun x => x.fst.isNone) = false) :
    wpAny M A (callWith pos (Value.type T) [] (backTo pos (starEach [e] env)) (backToKw pos (keywordEach kws env))) Q E s := by
  obtain ⟨m, h1⟩ := h1
  unfold callWith
  refine wpAny_bind (wpAny_holding ?_)
  unfold evalArgs
  rw [h1]
  rw [h1] at h
  generalize backToKw pos (keywordEach kws env) = ks at h h3 h4
  refine wpAny_bind (thn h fun vs s1 h => ?_)
  refine wpAny_holding ?_
  dsimp only
  rw [if_pos h3]
  refine wpAny_bind (thn h fun kvs s2 h => ?_)
  refine wpAny_bind (wpAny_pure ?_)
  refine wpAny_pure ?_
  refine wpAny_bind (wpAny_standAt ?_)
  refine wpAny_bind (wpAny_pure (a := Keeper.machine) ?_)
  rw [h4]
  show wpAny M A ((call (Value.type T) vs ((List.filterMap (fun x => x.fst) ks).zip kvs)) >>= fun r => holding [r] point >>= fun _ => pure r) Q E s2
  refine wpAny_bind (thn h fun r s3 h => ?_)
  exact wpAny_bind (wpAny_holding (wpAny_point (wpAny_pure h)))
def IteT (K : PySem.W.Frag) (a : Addr) (k : Int) (n : Nat) : It :=
  { go := fun i H => ∃ xs x, SqT K H a xs ∧ xs[i]? = some x ∧ xs.length = n
    yld := fun i H v H' => ∃ T x, v = V.ref T ∧ H T = none ∧ H' = upd H T (HO.tup [V.int (k + (i : Int)), x]) ∧ ∀ xs, SqT K H a xs → xs[i]? = some x
    stop := fun i H => ∃ xs, SqT K H a xs ∧ xs.length ≤ i ∧ xs.length = n }
theorem turn_enumT {P : Program} {w : World} {K : PySem.W.Frag} {elts : List Expr} {kk : Nat} {tpos : Pos} {a e it : Addr} {k : Int} {n : Nat} (ei : e ≠ it) (ea : e ≠ a) (ia : a ≠ it) :
    Turn P w K (.Tuple elts kk tpos) (IteT K a k n) [e, it] e (fun i h => i ≤ n ∧ (∃ old, IsEnum h e it (k + (i : Int)) old) ∧ h.IsTupleIter it a i) where
  mem := by simp
  obj := fun i h ⟨_, ⟨old, h1⟩, o, h2, _, h3⟩ b hb => by
    rcases List.mem_cons.mp hb with rfl | hb
    · exact ⟨_, h1, fun v => by simp⟩
    · rw [List.mem_singleton.mp hb]
      exact ⟨o, h2, fun v => by rw [h3]; simp⟩
  keep := fun i h h' ⟨l, ⟨old, h1⟩, o, h2, h3⟩ f => ⟨l, ⟨old, f e (by simp) _ h1⟩, o, f it (by simp) _ h2, h3⟩
  self := fun A i s Q E ⟨_, ⟨old, h1⟩, _⟩ q => wpAny_pyIter_enum h1 q
  done := by
    intro X hP hw hK hc i pins s σ H E I hf ⟨ln, s1, s2⟩ ⟨xs, hx, hl, en⟩
    subst hP hw hK
    obtain ⟨its, rv, p, _⟩ := I.tuple hx
    have hcalm := I.ok.hd hc
    have G := GoesN.enumFrom (prog := X.prog) (w := X.w) (A := X.A) (elts := elts) (x1 := kk) (pos := tpos) k (Draws.tuple (prog := X.prog) (w := X.w) (A := X.A.in1) hcalm it a ia its.toArray) e ei (by simp [ei, ea]) (by simp)
    have ein : i = its.toArray.size := by
      have z := rv.length
      rw [List.size_toArray]
      omega
    subst ein
    refine G.stops s (fun s1 => L2.Inv X pins σ H s1) E ⟨s1, s2, p⟩ fun h' tk fr ht => ?_
    exact I.turnedL fr hf
  item := by
    intro X hP hw hK hc i pins s σ H E I hf ⟨ln, s1, s2⟩ ⟨xs, x, hx, e1, en⟩
    subst hP hw hK
    obtain ⟨its, rv, p, _⟩ := I.tuple hx
    have hcalm := I.ok.hd hc
    have G := GoesN.enumFrom (prog := X.prog) (w := X.w) (A := X.A) (elts := elts) (x1 := kk) (pos := tpos) k (Draws.tuple (prog := X.prog) (w := X.w) (A := X.A.in1) hcalm it a ia its.toArray) e ei (by simp [ei, ea]) (by simp)
    obtain ⟨u, hu, ru⟩ := rv.get e1
    have il : i < its.toArray.size := by
      rw [List.size_toArray]
      exact (List.getElem?_eq_some_iff.mp hu).1
    have inn : i < n := by
      have z := rv.length
      rw [List.size_toArray] at il
      omega
    refine G.goes i s (fun u s2 => ∃ x H', L2.Inv X pins σ H' s2 ∧ L2.RelV x u ∧ (IteT X.K a k n).yld i H x H' ∧ (i + 1 ≤ n ∧ (∃ old, IsEnum s2.heap e it (k + ((i + 1 : Nat) : Int)) old) ∧ s2.heap.IsTupleIter it a (i + 1)) ∧ ∀ b ∈ [e, it], H' b = none) E il ⟨s1, s2, p⟩ fun v h' tk ⟨T, t, y, ev, hT, ey, tT⟩ ⟨st1, st2, _⟩ fr _ => ?_
    have eyu : y = u := by
      have z : its[i]? = some y := by simpa using ey
      rw [hu] at z
      exact (Option.some.inj z).symm
    subst eyu
    subst ev
    have new : ObjOk X.prog X.w (upd H T (.tup [V.int (k + (i : Int)), x])) h' T (.tup [V.int (k + (i : Int)), x]) := by
      exact ⟨(show 2 ≤ sizeLine by decide), [.int (k + (i : Int)) t, y], .cons ⟨t, rfl⟩ (.cons ru .nil), tT⟩
    have lt : ∀ b ∈ [e, it], b < s.heap.objs.size := fun b hb => by
      obtain ⟨old, h1⟩ := s1
      obtain ⟨o, h2, _⟩ := s2
      rcases List.mem_cons.mp hb with rfl | hb
      · exact Heap.lt_size h1
      · rw [List.mem_singleton.mp hb]
        exact Heap.lt_size h2
    refine ⟨.ref T, _, I.turnedNew (t' := tk) (ch := [e, it]) fr hf hT new, rfl, ⟨T, x, rfl, I.hok.fresh hT, rfl, fun l hl => by rw [I.tuple_inj hl hx]; exact e1⟩, ⟨inn, st1, st2⟩, fun b hb => ?_⟩
    rw [upd_ne (Nat.ne_of_lt (Nat.lt_of_lt_of_le (lt b hb) hT))]
    exact (hf b hb).1
def iEnumS (K : PySem.W.Frag) (ta tk : TA) : TI := fun σ H R => ta σ H fun vs H1 => tk σ H1 fun ks H2 => ∃ a k xs, vs = [V.ref a] ∧ ks = [V.int k] ∧ SqT K H2 a xs ∧ -2 ^ 63 ≤ k ∧ k < 2 ^ 63 ∧ R (IteT K a k xs.length) H2
theorem pi_enumS {X : Cx} {e ke : Expr} {ta tk : TA} {p pos tpos kpos : Pos} {elts : List Expr} {kk : Nat} (hg : Gl X "enumerate") (hm : X.mg "enumerate" = none) (ha : PA X [e] ta) (hk : PK X [⟨some "start", ke, kpos⟩] tk)
    (he : eval (.Call (.Name "enumerate" p) [e] [⟨some "start", ke, kpos⟩] pos) X.env = (do
      let f ← eval (.Name "enumerate" p) X.env
      callWith pos f [] (backTo pos (starEach [e] X.env)) (backToKw pos (keywordEach [⟨some "start", ke, kpos⟩] X.env))) := by rfl)
    (h1 : ∃ m, backTo pos (starEach [e] X.env) = [(false, m)] := by exact ⟨_, rfl⟩) : PI X (.Tuple elts kk tpos) (.Call (.Name "enumerate" p) [e] [⟨some "start", ke, kpos⟩] pos) (iEnumS X.K ta tk) := ⟨fun pins s σ H R I h => by
  rw [he]
  refine wpAny_bind (ld_blt I hg hm PyProof.Rows.boot_enumerate (callWith_kwT (thn (ha.run pos pins s σ H _ I h) fun us s1 ⟨vs, H1, I1, r1, q⟩ => thn (hk.run pos pins s1 σ H1 _ I1 q) fun kvs s2 ⟨ks, H2, I2, r2, a, k, xs, e1, e2, hx, k1, k2, hR⟩ => ?_) h1 rfl rfl))
  subst e1
  subst e2
  cases r1 with
  | cons r rr =>
  cases rr
  cases r
  cases r2 with
  | cons r rr =>
  cases rr
  obtain ⟨t, rfl⟩ := r
  obtain ⟨its, rv, p1, _⟩ := I2.tuple hx
  obtain ⟨o1, ho1, _⟩ := id p1
  have la := Heap.lt_size ho1
  show wpAny _ _ (call (Value.type "enumerate") [.ref a] [("start", .int k t)]) _ _ s2
  refine enum_begins_start (begins_tuple a its.toArray) p1 k1 k2 fun h' hE hI hs fr => wpAny_pyIter_enum hE ?_
  refine ⟨_, [s2.heap.objs.size + 1, s2.heap.objs.size], _, _, H2, rfl, I2.kept (t' := s2.toks) fr, turn_enumT (Nat.succ_ne_self _) (Nat.ne_of_gt (Nat.lt_succ_of_lt la)) (Nat.ne_of_lt la), ⟨Nat.zero_le _, ⟨_, by simpa using hE⟩, ⟨_, hI, rfl, rfl⟩⟩, fun c hc => ?_, hR⟩
  have hle : s2.heap.objs.size ≤ c := by
    have hc' : c = s2.heap.objs.size + 1 ∨ c = s2.heap.objs.size := by simpa using hc
    rcases hc' with z | z <;> rw [z] <;> first | exact Nat.le_refl _ | exact Nat.le_add_right _ _
  exact I2.fpOk hle (I2.hok.fresh hle)⟩
end My
namespace My
open PySem PySem.Spec PyProof.Rows L2
variable [TbC]
def enumD : Int → List PyData → List PyData
  | _, [] => []
  | k, x :: xs => .tuple [.int k, x] :: enumD (k + 1) xs
omit [TbC] in
theorem enumD_len : ∀ (xs : List PyData) (k : Int), (enumD k xs).length = xs.length
  | [], _ => rfl
  | x :: xs, k => by rw [enumD, List.length_cons, List.length_cons, enumD_len xs]
omit [TbC] in
theorem enumD_at : ∀ (xs : List PyData) (k : Int) (i : Nat), (enumD k xs)[i]? = xs[i]?.map fun x => .tuple [.int (k + (i : Int)), x]
  | [], _, _ => rfl
  | x :: xs, k, 0 => by
    rw [enumD, List.getElem?_cons_zero, List.getElem?_cons_zero]
    show some _ = some _
    rw [show k + ((0 : Nat) : Int) = k by omega]
  | x :: xs, k, i + 1 => by
    rw [enumD, List.getElem?_cons_succ, List.getElem?_cons_succ, enumD_at xs (k + 1) i, show k + 1 + (i : Int) = k + ((i + 1 : Nat) : Int) by omega]
omit [TbC] in
theorem not_dic {i : Int} {x : PyData} {P : Prop} (c : dictable [.int i, x] = true) : P := by
  have z : (pairLike (.int i) && dictable [x]) = true := c
  cases z
section
variable {K : PySem.W.Frag} {O : Addr → Bool} {H1 : Hp}
omit [TbC] in
theorem it_enumT {a : Addr} {us : List V} {xs : List PyData} {k : Int} (h1 : SqT K (hid O H1) a us) (r1 : RpAll K (hid O H1) us xs) : ItOk K O H1 (IteT K a k us.length) (enumD k xs) := fun i O' H' s dm => by
  have q1 : SqT K H' a us := same_seqT hid_le (same_seqT s h1)
  rw [enumD_len]
  refine ⟨fun l => ?_, fun l => ⟨us, q1, by rw [r1.len]; exact l, rfl⟩⟩
  have l1 : i < us.length := by rw [r1.len]; omega
  refine ⟨⟨us, us[i], q1, List.getElem?_eq_getElem l1, rfl⟩, fun x H'' ⟨T, x1, e, nT, eH, g1⟩ => ?_⟩
  subst e eH
  obtain ⟨d1, e1, z1⟩ := r1.get (g1 us q1)
  have st := same_new (o := .tup [V.int (k + (i : Int)), x1]) nT
  have s' := s.trans (hid_same (O := O') st)
  refine ⟨.tuple [.int (k + (i : Int)), d1], ?_, st, .tup (.inl (.inl (hid_new dm nT))) (.cons (.int _) (.cons (Rp.same s' _ _ z1) .nil)) fun c => not_dic c⟩
  rw [enumD_at, e1]
  rfl
omit [TbC] in
theorem it_enumL {a : Addr} {us : List V} {xs : List PyData} (h1 : hid O H1 a = some (.lst us)) (r1 : RpAll K (hid O H1) us xs) : ItOk K O H1 (Ite K a) (enumD 0 xs) := fun i O' H' s dm => by
  have q1 : SqL K H' a us := .inl (.inl (hid_le _ _ (s _ _ h1)))
  rw [enumD_len]
  refine ⟨fun l => ?_, fun l => ⟨us, q1, by rw [r1.len]; exact l⟩⟩
  have l1 : i < us.length := by rw [r1.len]; omega
  refine ⟨⟨us, us[i], q1, List.getElem?_eq_getElem l1⟩, fun x H'' ⟨T, x1, e, nT, eH, g1⟩ => ?_⟩
  subst e eH
  obtain ⟨d1, e1, z1⟩ := r1.get (g1 us q1)
  have st := same_new (o := .tup [V.int (i : Int), x1]) nT
  have s' := s.trans (hid_same (O := O') st)
  refine ⟨.tuple [.int (i : Int), d1], ?_, st, .tup (.inl (.inl (hid_new dm nT))) (.cons (.int _) (.cons (Rp.same s' _ _ z1) .nil)) fun c => not_dic c⟩
  rw [enumD_at, e1]
  show some (PyData.tuple [.int (0 + (i : Int)), d1]) = _
  rw [Int.zero_add]
end
def iEnS (k : Int) (w : ED) : AD := fun ρ n Q => w ρ n fun d n1 => ∃ xs, d = .tuple xs ∧ -2 ^ 63 ≤ k ∧ k < 2 ^ 63 ∧ Q (enumD k xs) n1
def iEnL (w : ED) : AD := fun ρ n Q => w ρ n fun d n1 => ∃ xs, d = .list xs ∧ Q (enumD 0 xs) n1
section
variable {X : Cx}
theorem qdi_enumS {e ke : Expr} {w : ED} {k : Int} {p pos tpos kpos : Pos} {elts : List Expr} {kk : Nat} (hg : Gl X "enumerate") (hm : X.mg "enumerate" = none) (he : PD X e w) (hk : PE X ke (tC (.int k)))
    (h0 : eval (.Call (.Name "enumerate" p) [e] [⟨some "start", ke, kpos⟩] pos) X.env = (do
      let f ← eval (.Name "enumerate" p) X.env
      callWith pos f [] (backTo pos (starEach [e] X.env)) (backToKw pos (keywordEach [⟨some "start", ke, kpos⟩] X.env))) := by rfl)
    (h1 : ∃ m, backTo pos (starEach [e] X.env) = [(false, m)] := by exact ⟨_, rfl⟩) (h2 : starEach [e] X.env = (false, eval e X.env) :: starEach [] X.env := by rfl) : PDI X (.Tuple elts kk tpos) (.Call (.Name "enumerate" p) [e] [⟨some "start", ke, kpos⟩] pos) (iEnS k w) :=
  qdi_mk (pi_enumS hg hm (pa_cons he pa_nil h2) (pk_cons hk pk_nil) h0 h1) fun S hw kq => rd_W S hw fun v d H1 n1 f1 d1 r1 ⟨xs, ed, k1, k2, q⟩ => by
    subst ed
    cases r1 with
    | tup hs ha _ =>
    exact ⟨_, k, _, rfl, rfl, same_seqT hid_le hs, k1, k2, kq _ H1 n1 _ f1 d1 (it_enumT hs ha) q⟩
theorem qdi_enumL {e : Expr} {w : ED} {p pos tpos : Pos} {elts : List Expr} {kk : Nat} (hg : Gl X "enumerate") (hm : X.mg "enumerate" = none) (he : PD X e w) (h2 : starEach [e] X.env = (false, eval e X.env) :: starEach [] X.env := by rfl) : PDI X (.Tuple elts kk tpos) (.Call (.Name "enumerate" p) [e] [] pos) (iEnL w) :=
  qdi_mk (pi_enum hg hm (pa_cons he pa_nil h2) h2) fun S hw kq => rd_W S hw fun v d H1 n1 f1 d1 r1 ⟨xs, ed, q⟩ => by
    subst ed
    cases r1 with
    | lst hs ha =>
    exact ⟨_, _, rfl, .inl (.inl (hid_le _ _ hs)), kq _ H1 n1 _ f1 d1 (it_enumL hs ha) q⟩
theorem qd_globI {x : Str} {i : Int} {td : Tok} {pos : Pos} (hg : Gl X x) (hm : X.mg x = some (.int i td)) (hd : (x == ("__debug__" : Str)) = false := by decide) : PD X (.Name x pos) (eC (.int i)) := qd_mk (pe_glob (v := .int i) hg hm ⟨td, rfl⟩ hd) (rd_c fun _ => .int i)
end
def enS (k : Int) : PyData → Option (List PyData)
  | .tuple xs => if -2 ^ 63 ≤ k ∧ k < 2 ^ 63 then some (enumD k xs) else none
  | _ => none
def enL : PyData → Option (List PyData)
  | .list xs => some (enumD 0 xs)
  | _ => none
def afEnS (k : Int) (f : EF) : AF := fun ρ => (f ρ).bind (enS k)
def afEnL (f : EF) : AF := fun ρ => (f ρ).bind enL
omit [TbC] in
theorem is_afEnS {k : Int} {w : ED} {f : EF} (h : IsE w f) : IsA (iEnS k w) (afEnS k f) := fun ρ n Q d e q => by
  obtain ⟨x, e1, e2⟩ := bind_is e
  match x, e2 with
  | .tuple xs, e2 =>
    obtain ⟨c, e3⟩ := ite_is e2
    cases e3
    exact h ρ n _ _ e1 ⟨xs, rfl, c.1, c.2, q⟩
omit [TbC] in
theorem is_afEnL {w : ED} {f : EF} (h : IsE w f) : IsA (iEnL w) (afEnL f) := fun ρ n Q d e q => by
  obtain ⟨x, e1, e2⟩ := bind_is e
  match x, e2 with
  | .list xs, e2 =>
    cases e2
    exact h ρ n _ _ e1 ⟨xs, rfl, q⟩
end My
namespace My
open PySem PySem.Spec PyProof.Rows L2
variable [TbC]
section
variable {X : Cx}
def sPar2 (i j : Nat) (ws : AD) : SD := fun ρ n E => ws ρ n fun xs n1 => ∃ x y, xs = [x, y] ∧ E.nx ((ρ.set i (some (.d x))).set j (some (.d y))) n1
theorem qs_par2 {i j : Nat} {x y : Str} {a b : Expr} {ws : AD} {px py pt pos : Pos} {kt k2 pt2} (hc : X.calm = true) (hN : X.N.Nodup) (hi : X.N[i]? = some x) (hj : X.N[j]? = some y) (hij : i ≠ j)
    (hx : X.env.scope.names.lookup x = some .local) (hy : X.env.scope.names.lookup y = some .local) (ha : PDA X [a, b] ws)
    (hw : swappedStores [.Tuple [.Name x px, .Name y py] kt pt] (.Tuple [a, b] k2 pt2) X.env = pure (some [x, y]))
    (hs : swapsWithSole [.Tuple [.Name x px, .Name y py] kt pt] (.Tuple [a, b] k2 pt2) pos.line X.env = pure false := by rfl) :
    PSD X (.Assign [.Tuple [.Name x px, .Name y py] kt pt] (.Tuple [a, b] k2 pt2) pos) (sPar2 i j ws) := qs_mk (ps_par hc hN hi hj hij hx hy ha hw hs) fun {dk OB H0 O H σ ρ n E D} S hq k => rda_W S hq fun vs ds H1 n1 f1 d1 r1 ⟨dx, dy, e, q1⟩ => by
  subst e
  cases r1 with
  | cons r1 r2 =>
  cases r2 with
  | cons r2 r3 =>
  cases r3
  exact ⟨_, _, rfl, k.nx _ _ _ _ _ (((S.step f1 d1).set r1).set r2) (S.hid f1) q1⟩
end
end My
namespace My
open PySem PySem.Spec PyProof.Rows L2
variable [TbC]
theorem StR.take {K : PySem.W.Frag} {dk : Option DkI} {OB : Addr → Bool} {H0 : Hp} {O : Addr → Bool} {H : Hp} {σ : L2.St} {ρ : DEnv} {n : Nat} (S : StR K dk OB H0 O H σ ρ n) {i : Nat} {p : Addr} {s : Sv} (ho : s.own = true) (free : ∀ (j : Nat) (y : Sv), ρ[j]? = some (some y) → y.own = true → σ[j]? ≠ some (some (.ref p))) (new : SlR K dk H0 O H (.ref p) s) : StR K dk OB H0 O H (σ.set i (some (.ref p))) (ρ.set i (some s)) n where
  len := by rw [List.length_set, List.length_set, S.len]
  ob := S.ob
  od := S.od
  dom := S.dom
  dkO := S.dkO
  fr := S.fr
  dok := S.dok
  sl := fun j y e => by
    by_cases c : i = j
    · subst c
      by_cases li : i < ρ.length
      · rw [List.getElem?_set_self li] at e
        cases e
        exact ⟨_, List.getElem?_set_self (by rw [S.len]; exact li), new⟩
      · rw [List.getElem?_eq_none (by rw [List.length_set]; omega)] at e
        cases e
    · rw [List.getElem?_set_ne c] at e ⊢
      exact S.sl j y e
  dis := fun a b q u w ne e1 e2 o1 o2 f1 f2 => by
    have at_ : ∀ {j : Nat} {y : Sv}, i = j → (ρ.set i (some s))[j]? = some (some y) → (σ.set i (some (V.ref p)))[j]? = some (some (.ref q)) → q = p := fun {j y} c e f => by
      subst c
      by_cases li : i < ρ.length
      · rw [List.getElem?_set_self (by rw [S.len]; exact li)] at f
        cases f
        rfl
      · rw [List.getElem?_eq_none (by rw [List.length_set]; omega)] at e
        cases e
    by_cases ca : i = a
    · have hq := at_ ca e1 f1
      have cb : i ≠ b := fun z => ne (ca.symm.trans z)
      rw [List.getElem?_set_ne cb] at e2 f2
      rw [hq] at f2
      exact free b _ e2 o2 f2
    · by_cases cb : i = b
      · have hq := at_ cb e2 f2
        rw [List.getElem?_set_ne ca] at e1 f1
        rw [hq] at f1
        exact free a _ e1 o1 f1
      · rw [List.getElem?_set_ne ca] at e1 f1
        rw [List.getElem?_set_ne cb] at e2 f2
        exact S.dis a b q u w ne e1 e2 o1 o2 f1 f2
end My
namespace My
open PySem PySem.Spec PyProof.Rows L2
open TL (tl len_tl tl_append)
structure Sm (d : PyData) (dep wt : Nat) : Prop where
  sh : d.showable = true
  lf : d.leavesShort 8 = true
  dp : d.depth ≤ dep
  wt : d.weight ≤ wt
theorem Sm.mono {d : PyData} {a b c e : Nat} (h : Sm d a b) (h1 : a ≤ c) (h2 : b ≤ e) : Sm d c e := ⟨h.sh, h.lf, Nat.le_trans h.dp h1, Nat.le_trans h.wt h2⟩
theorem Sm.len {d : PyData} {dep wt : Nat} (h : Sm d dep wt) (hw : wt ≤ 100000) : d.shown.length ≤ sizeLine := by
  have z := PyData.shown_le 8 (Nat.le_refl _) d h.lf
  have z2 := h.wt
  rw [sizeLine_eq]
  omega
structure Vl (x : Str) : Prop where
  pos : 0 < (tl x).length
  few : (tl x).length ≤ 8
  low : ∀ c ∈ tl x, c < 200
theorem Wd.vl {x : Str} (h : Wd x) : Vl x := ⟨h.pos, h.few, fun c m => by
  have z := h.of c m
  revert z
  exact fun z => (show ∀ c ∈ 113 :: six, c < 200 by decide) c z⟩
def fD (k : List Str) : PyData := .tuple (k.map PyData.str)
end My
namespace My
open PySem PySem.Spec PyProof.Rows L2
def posF (c : Nat) : Nat → List Nat → List Nat
  | _, [] => []
  | k, x :: xs => if x = c then k :: posF c (k + 1) xs else posF c (k + 1) xs
theorem posF_app (c : Nat) : ∀ (l m : List Nat) (k : Nat), posF c k (l ++ m) = posF c k l ++ posF c (k + l.length) m
  | [], m, k => rfl
  | x :: l, m, k => by
    rw [List.cons_append, posF, posF, posF_app c l m (k + 1), List.length_cons, Nat.add_right_comm, Nat.add_assoc]
    split <;> simp
theorem posF_len (c : Nat) : ∀ (l : List Nat) (k : Nat), (posF c k l).length ≤ l.length
  | [], _ => Nat.le_refl _
  | x :: l, k => by
    have z := posF_len c l (k + 1)
    rw [posF]
    split
    · rw [List.length_cons, List.length_cons]
      omega
    · rw [List.length_cons]
      omega
def occStep (s sub : Str) (hi limit : Nat) (a : Array Nat × Nat) (i : Nat) : Array Nat × Nat := if (decide (a.1.size < limit) && decide (a.2 ≤ i) && decide (i + sub.length ≤ hi) && Builtin.Str.subAt s sub i) = true then (a.1.push i, i + sub.length) else a
theorem forIn_fold {α β : Type} {f : β → α → β} {g : α → β → Id (ForInStep β)} (h : ∀ a b, g a b = pure (.yield (f b a))) : ∀ (l : List α) (init : β), (forIn l init g : Id β) = pure (l.foldl f init)
  | [], init => rfl
  | x :: l, init => by
    rw [List.forIn_cons, h]
    show forIn l (f init x) g = _
    exact forIn_fold h l _
theorem occ_fold (s sub : Str) (lo hi limit : Nat) : Builtin.Str.occurrences s sub lo hi limit = ((List.range' lo (hi + 1 - lo) 1).foldl (occStep s sub hi limit) (#[], lo)).1.toList := by
  unfold Builtin.Str.occurrences
  simp only [Std.Legacy.Range.forIn_eq_forIn_range']
  rw [forIn_fold (f := occStep s sub hi limit) (fun i a => by unfold occStep; split <;> rfl)]
  have e : [lo:hi + 1].size = hi + 1 - lo := by simp [Std.Legacy.Range.size]
  rw [e]
  rfl
theorem occ_one (s : Str) (c : Nat) : Builtin.Str.occurrences s ⟨#[c]⟩ 0 s.length (s.length + 1) = posF c 0 s.cps.toList := by
  rw [occ_fold]
  have l := cps_len s
  have main : ∀ k, k ≤ s.length → ∃ fr, (List.range' 0 k 1).foldl (occStep s ⟨#[c]⟩ s.length (s.length + 1)) (#[], 0) = ((posF c 0 (s.cps.toList.take k)).toArray, fr) ∧ fr ≤ k := by
    intro k
    induction k with
    | zero => exact fun _ => ⟨0, rfl, Nat.le_refl _⟩
    | succ k ih =>
      intro hk
      obtain ⟨fr, e, hf⟩ := ih (by omega)
      have r1 : List.range' 0 (k + 1) 1 = List.range' 0 k 1 ++ [k] := by
        rw [List.range'_concat]
        simp
      have kl : k < s.cps.toList.length := by omega
      have tk : s.cps.toList.take (k + 1) = s.cps.toList.take k ++ [s.cps.toList[k]] := by
        rw [List.take_add_one, List.getElem?_eq_getElem kl]
        rfl
      have pl := posF_len c (s.cps.toList.take k) 0
      rw [List.length_take] at pl
      rw [r1, List.foldl_append, e, tk, posF_app]
      have ltk : (s.cps.toList.take k).length = k := by rw [List.length_take]; omega
      rw [ltk, Nat.zero_add]
      have sub := StrLaws.subAt_one s c k
      have len1 : (⟨#[c]⟩ : Str).length = 1 := rfl
      show ∃ fr', occStep s ⟨#[c]⟩ s.length (s.length + 1) ((posF c 0 (s.cps.toList.take k)).toArray, fr) k = _ ∧ _
      unfold occStep
      by_cases h : s.cps.toList[k] = c
      · have sa := sub.mpr (by rw [List.getElem?_eq_getElem kl, h])
        rw [if_pos]
        · refine ⟨k + 1, ?_, Nat.le_refl _⟩
          rw [len1]
          show ((posF c 0 (s.cps.toList.take k)).toArray.push k, k + 1) = _
          rw [posF, if_pos h, posF]
          simp
        · simp only [Bool.and_eq_true, decide_eq_true_eq]
          exact ⟨⟨⟨by show (posF c 0 (s.cps.toList.take k)).toArray.size < s.length + 1; rw [List.size_toArray]; omega, hf⟩, sa.1⟩, sa.2⟩
      · rw [if_neg]
        · refine ⟨fr, ?_, by omega⟩
          rw [posF, if_neg h, posF, List.append_nil]
        · simp only [Bool.and_eq_true, decide_eq_true_eq]
          rintro ⟨⟨_, h1⟩, h2⟩
          have z := sub.mp ⟨h1, h2⟩
          rw [List.getElem?_eq_getElem kl] at z
          exact h (Option.some.inj z)
  obtain ⟨fr, e, _⟩ := main s.length (Nat.le_refl _)
  have r1 : List.range' 0 (s.length + 1 - 0) 1 = List.range' 0 s.length 1 ++ [s.length] := by
    rw [Nat.sub_zero, List.range'_concat]
    simp
  rw [r1, List.foldl_append, e]
  show (occStep s ⟨#[c]⟩ s.length (s.length + 1) ((posF c 0 (s.cps.toList.take s.length)).toArray, fr) s.length).1.toList = _
  unfold occStep
  rw [if_neg]
  · rw [List.take_of_length_le (by omega)]
  · simp only [Bool.and_eq_true, decide_eq_true_eq]
    rintro ⟨⟨_, h1⟩, _⟩
    have len1 : (⟨#[c]⟩ : Str).length = 1 := rfl
    omega
def splitL (c : Nat) : List Nat → List (List Nat)
  | [] => [[]]
  | x :: xs => if x = c then [] :: splitL c xs else match splitL c xs with
    | h :: t => (x :: h) :: t
    | [] => [[x]]
theorem splitL_ne (c : Nat) : ∀ l : List Nat, ∃ h t, splitL c l = h :: t
  | [] => ⟨[], [], rfl⟩
  | x :: xs => by
    rw [splitL]
    split
    · exact ⟨_, _, rfl⟩
    · obtain ⟨h, t, e⟩ := splitL_ne c xs
      rw [e]
      exact ⟨_, _, rfl⟩
theorem parts_is (c : Nat) (s : List Nat) : ∀ (rest pre : List Nat) (a : Nat) (h : List Nat) (t : List (List Nat)), s = pre ++ rest → a ≤ pre.length → splitL c rest = h :: t →
    ((a :: (posF c pre.length rest).map (· + 1)).zip (posF c pre.length rest ++ [s.length])).map (fun p => (s.drop p.1).take (p.2 - p.1)) = (pre.drop a ++ h) :: t
  | [], pre, a, h, t, es, ha, e => by
    rw [splitL] at e
    cases e
    rw [List.append_nil] at es
    subst es
    show [(s.drop a).take (s.length - a)] = _
    rw [List.append_nil, List.take_of_length_le (by rw [List.length_drop]; exact Nat.le_refl _)]
  | x :: xs, pre, a, h, t, es, ha, e => by
    rw [splitL] at e
    have es' : s = (pre ++ [x]) ++ xs := by rw [es, List.append_assoc]; rfl
    have lp : (pre ++ [x]).length = pre.length + 1 := by rw [List.length_append]; rfl
    rw [posF]
    by_cases cx : x = c
    · rw [if_pos cx] at e ⊢
      cases e
      obtain ⟨h', t', e'⟩ := splitL_ne c xs
      have ih := parts_is c s xs (pre ++ [x]) (pre.length + 1) h' t' es' (by omega) e'
      rw [lp] at ih
      rw [List.map_cons, List.cons_append, List.zip_cons_cons, List.map_cons, ih, e']
      congr 1
      · show (s.drop a).take (pre.length - a) = _
        rw [List.append_nil, es, List.drop_append_of_le_length ha, List.take_append_of_le_length (by rw [List.length_drop]; exact Nat.le_refl _), List.take_of_length_le (by rw [List.length_drop]; exact Nat.le_refl _)]
      · rw [List.drop_of_length_le (by omega), List.nil_append]
    · rw [if_neg cx] at e ⊢
      obtain ⟨h', t', e'⟩ := splitL_ne c xs
      rw [e'] at e
      cases e
      have ih := parts_is c s xs (pre ++ [x]) a h' t es' (by omega) e'
      rw [lp] at ih
      rw [ih, List.drop_append_of_le_length ha, List.append_assoc]
      rfl
theorem strSub_is (s : Str) (i j : Nat) : Builtin.Str.strSub s i j = ⟨((s.cps.toList.drop i).take (j - i)).toArray⟩ := by
  unfold Builtin.Str.strSub
  congr 1
  apply Array.toList_inj.mp
  simp [Array.toList_extract]
theorem str_back (s : Str) : (⟨s.cps.toList.toArray⟩ : Str) = s := by
  obtain ⟨a⟩ := s
  rfl
theorem posF_nil {c : Nat} : ∀ {l : List Nat} {k : Nat}, posF c k l = [] → c ∉ l
  | [], _, _ => List.not_mem_nil
  | x :: l, k, h => by
    rw [posF] at h
    by_cases e : x = c
    · rw [if_pos e] at h
      cases h
    · rw [if_neg e] at h
      intro m
      rcases List.mem_cons.mp m with z | z
      · exact e z.symm
      · exact posF_nil h z
theorem splitL_end {c : Nat} : ∀ {seg : List Nat}, c ∉ seg → splitL c seg = [seg]
  | [], _ => rfl
  | x :: seg, h => by
    rw [splitL, if_neg (fun e => h (by rw [e]; exact List.mem_cons_self)), splitL_end fun k => h (List.mem_cons_of_mem _ k)]
theorem split_one (s : Str) (c : Nat) (hc : c < 256) : Txt.split s ⟨#[c]⟩ = (splitL c s.cps.toList).map fun l => ⟨l.toArray⟩ := by
  unfold Txt.split
  rw [occ_one]
  have l := cps_len s
  have k1 : Builtin.Str.strKind ⟨#[c]⟩ = 1 := by
    unfold Builtin.Str.strKind
    rw [if_pos (by simpa using hc)]
  have k2 : ¬ Builtin.Str.strKind s < Builtin.Str.strKind ⟨#[c]⟩ := by
    rw [k1]
    unfold Builtin.Str.strKind
    split
    · omega
    · split <;> omega
  rw [decide_eq_false k2, Bool.or_false]
  by_cases h0 : s.length < (⟨#[c]⟩ : Str).length
  · rw [if_pos (decide_eq_true h0)]
    have z : s.length = 0 := by
      have e : (⟨#[c]⟩ : Str).length = 1 := rfl
      omega
    have e : s.cps.toList = [] := List.length_eq_zero_iff.mp (by omega)
    rw [e]
    show [s] = [⟨[].toArray⟩]
    rw [← e, str_back]
  · rw [if_neg (by rw [decide_eq_false h0]; decide)]
    by_cases h1 : posF c 0 s.cps.toList = []
    · rw [h1, if_pos (show ([] : List Nat).isEmpty = true from rfl), splitL_end (posF_nil h1)]
      show [s] = [(⟨s.cps.toList.toArray⟩ : Str)]
      rw [str_back]
    · rw [if_neg (by rw [List.isEmpty_iff]; exact h1)]
      obtain ⟨h, t, e⟩ := splitL_ne c s.cps.toList
      have z := parts_is c s.cps.toList s.cps.toList [] 0 h t rfl (Nat.zero_le _) e
      unfold Builtin.Str.partsBetween
      have e1 : (⟨#[c]⟩ : Str).length = 1 := rfl
      rw [e1, e]
      rw [List.drop_nil, List.nil_append] at z
      rw [← z, List.map_map, l]
      refine List.map_congr_left fun p _ => ?_
      exact strSub_is s p.1 p.2
end My
namespace My
open PySem PySem.Spec PyProof.Rows L2
variable [TbC]
def tWF (K : PySem.W.Frag) (w : AD) : TE := fun σ H Q => ∃ dk OB H0 O ρ n Qd, StR K dk OB H0 O H σ ρ n ∧ w ρ n Qd ∧ ∀ (p : Addr) (us : List V) (ds : List PyData) (H' : Hp) (n' : Nat), H p = none → FrD dk H H' → StR K dk OB H0 (add O p) H' σ ρ n' → H0 p = none → NotDk dk p → (∀ (j : Nat) (y : Sv), ρ[j]? = some (some y) → y.own = true → σ[j]? ≠ some (some (.ref p))) → H' p = some (.lst us) → RpAll K (hid (add O p) H') us ds → Same (hid O H) (hid (add O p) H') → Qd ds n' → Q (.ref p) H'
abbrev PDF (X : Cx) (e : Expr) (w : AD) : Prop := PE X e (tWF X.K w)
def eL (w : ED) : AD := fun ρ n Q => w ρ n fun d n1 => ∃ ys, d = .list ys ∧ Q ys n1
theorem none_fr {dk : Option DkI} {H H' : Hp} {p : Addr} (f : FrD dk H H') (nA : ¬ dkA dk p) (h : H' p = none) : H p = none := by
  cases e : H p with
  | none => rfl
  | some o =>
    have z := f p o nA e
    rw [h] at z
    cases z
section
variable {X : Cx}
def sSetFl (i : Nat) (w : AD) : SD := fun ρ n E => w ρ n fun xs n1 => E.nx (ρ.set i (some (.l xs))) n1
theorem qs_setFl {i : Nat} {x : Str} {e : Expr} {w : AD} {pos pos' : Pos} (hN : X.N.Nodup) (hi : X.N[i]? = some x) (hx : Loc X.env.scope x) (he : PDF X e w) (hs : swapsWith e (some (.Name x pos')) pos.line X.env = pure false := by rfl)
    (hf : X.fn x = true ∨ X.env.scope.names.lookup x = some .local := by first | exact .inl rfl | exact .inr rfl | assumption) : PSD X (.Assign [.Name x pos'] e pos) (sSetFl i w) := qs_mk (ps_set hN hi hx he hs hf) fun {dk OB H0 O H σ ρ n E D} S hw k =>
  ⟨dk, OB, H0, O, ρ, n, _, S, hw, fun p us ds H' n' np0 ff S' h0 nd fr hp rA sm q => k.nx (add O p) H' _ _ n' (StR.take S' (i := i) (s := .l ds) rfl fr ⟨p, us, rfl, add_self, h0, nd, hp, rA⟩) sm q⟩
def sPar3F (i j l : Nat) (w ws : AD) : SD := fun ρ n E => w ρ n fun xs n1 => ws ρ n1 fun ys n2 => ∃ y z, ys = [y, z] ∧ E.nx (((ρ.set i (some (.l xs))).set j (some (.d y))).set l (some (.d z))) n2
theorem qs_par3F {i j l : Nat} {x y z : Str} {a b c : Expr} {w ws : AD} {px py pz pt pos : Pos} {kt k2 pt2} (hc : X.calm = true) (hN : X.N.Nodup) (hi : X.N[i]? = some x) (hj : X.N[j]? = some y) (hl : X.N[l]? = some z) (hij : i ≠ j) (hil : i ≠ l) (hjl : j ≠ l)
    (hx : X.env.scope.names.lookup x = some .local) (hy : X.env.scope.names.lookup y = some .local) (hz : X.env.scope.names.lookup z = some .local) (he : PDF X a w) (ha : PDA X [b, c] ws)
    (hw : swappedStores [.Tuple [.Name x px, .Name y py, .Name z pz] kt pt] (.Tuple [a, b, c] k2 pt2) X.env = pure (some [x, y, z]))
    (hs : swapsWithSole [.Tuple [.Name x px, .Name y py, .Name z pz] kt pt] (.Tuple [a, b, c] k2 pt2) pos.line X.env = pure false := by rfl)
    (h1 : starEach (a :: [b, c]) X.env = (false, eval a X.env) :: starEach [b, c] X.env := by rfl) :
    PSD X (.Assign [.Tuple [.Name x px, .Name y py, .Name z pz] kt pt] (.Tuple [a, b, c] k2 pt2) pos) (sPar3F i j l w ws) := qs_mk (ps_par3 hc hN hi hj hl hij hil hjl hx hy hz (pa_cons he ha h1) hw hs) fun {dk OB H0 O H σ ρ n E D} S hq k =>
  ⟨dk, OB, H0, O, ρ, n, _, S, hq, fun p us ds H' n' np0 ff S' h0 nd fr hp rA sm q => rda_W S' q fun vs es H1 n1 f1 d1 r1 ⟨dy, dz, e, q1⟩ => by
    subst e
    cases r1 with
    | cons r1 r2 =>
    cases r2 with
    | cons r2 r3 =>
    cases r3
    have nA : ¬ dkA dk p := nd.nA
    exact ⟨_, _, _, rfl, k.nx (add O p) _ _ _ _ (((StR.take (S'.step f1 d1) (i := i) (s := .l ds) rfl fr ⟨p, us, rfl, add_self, h0, nd, f1 _ _ nA hp, RpAll.same (S'.hid f1) _ _ rA⟩).set r1).set r2) (sm.trans (S'.hid f1)) q1⟩⟩
theorem rd_lcF {K : PySem.W.Frag} {it : AD} {g : GD} {p : TD} {e : ED} {own vs : List Nat} (hvs : ∀ i ∈ vs, i ∈ own) {σ : L2.St} {H : Hp} {Q : VK} (h : tWF K (eL (eLc it g p e own)) σ H Q) : tLc (tWI K it) (tWG K vs g) (tWT K p) (tW K e) own σ H Q := by
  obtain ⟨dk, OB, H0, O, ρ, n, Qd, S, hw, k⟩ := h
  refine ⟨dk, OB, H0, O, ρ, n, _, S, hw, fun J H1 n1 xs f1 d1 io hq D nD => ?_⟩
  obtain ⟨ll, q1⟩ := hq
  have S1 := S.step f1 d1
  have SA := S1.acc (o := .lst []) nD nt_lst
  have nd : NotDk dk D := d1.new nD
  have nA : ¬ dkA dk D := nd.nA
  have h0 := S1.fresh nD
  have free := S1.nohold nD
  have oD : add O D D = true := add_self
  let Wt : Nat → Hp → Prop := fun i H2 => ∃ us acc n2, H2 D = some (.lst us) ∧ RpAll K (hid (add O D) H2) us acc ∧ acc.length ≤ i ∧ StR K dk OB H0 (add O D) H2 σ ρ n2 ∧ Same (hid O H1) (hid (add O D) H2) ∧ FrD dk H1 H2 ∧ lcD g p e (wipeD ρ own) (xs.drop i) acc n2 fun ys n2 => ∃ zs, PyData.list ys = .list zs ∧ Qd zs n2
  refine ⟨fun i m H2 => m = xs.length - i ∧ i ≤ xs.length ∧ Wt i H2, ⟨xs.length, by simp, Nat.zero_le _, [], [], n1, upd_same, .nil, Nat.le_refl _, SA, by rw [hid_add nD]; exact Same.refl _, FrD.of (same_new nD), q1⟩, ?_⟩
  rintro i m H2 ⟨rfl, hi, us, acc, n2, hD, rA, la, S2, s2, f2, q2⟩
  have itr := io i (add O D) H2 s2 S2.dom
  by_cases hlt : i < xs.length
  · obtain ⟨go, yl⟩ := itr.1 hlt
    refine .inr ⟨go, Wt (i + 1), fun H' w => ⟨xs.length - (i + 1), by omega, rfl, hlt, w⟩, fun x H3 y => ?_⟩
    obtain ⟨d, ed, s3, rx⟩ := yl x H3 y
    have ex : xs.drop i = d :: xs.drop (i + 1) := by
      rw [List.drop_eq_getElem_cons hlt]
      congr 1
      rw [List.getElem?_eq_getElem hlt] at ed
      exact Option.some.inj ed
    rw [ex] at q2
    obtain ⟨ρ', eg, q3⟩ := q2
    have S3 := S2.step (FrD.of s3) (S2.dok.same s3)
    refine ⟨dk, OB, H0, add O D, wipeD ρ own, n2, d, ρ', S3.wipe own, rx, eg, fun σ2 b2 S4 => ⟨wipe_but hvs b2, dk, OB, H0, add O D, ρ', n2, _, S4, q3, fun b H4 n3 f4 d4 q4 => ?_⟩⟩
    cases b with
    | true =>
      refine (if_pos rfl).mpr ⟨dk, OB, H0, add O D, ρ', n3, _, S4.step f4 d4, (if_pos rfl).mp q4, fun y' dy H5 n4 f5 d5 r5 q5 => ?_⟩
      have f25 : FrD dk H2 H5 := ((FrD.of s3).trans f4).trans f5
      have hD5 := f25 _ _ nA hD
      have S5 := S2.step f25 d5
      have s25 := hid_fr S2.dO f25
      refine ⟨us, hD5, ?_, us ++ [y'], acc ++ [dy], n4, upd_same, ?_, by rw [List.length_append]; exact Nat.succ_le_succ la, S5.touch oD h0 nd nt_lst free, ?_, ?_, q5⟩
      · have z := lim_le
        rw [rA.len]
        omega
      · rw [hid_upd oD]
        exact RpAll.app (RpAll.same s25 _ _ rA) (.cons r5 .nil)
      · rw [hid_upd oD]
        exact s2.trans s25
      · exact fun b o h z => by
          rw [upd_ne (ne_of_none z nD)]
          exact f25 _ _ h (f2 _ _ h z)
    | false =>
      have f24 : FrD dk H2 H4 := (FrD.of s3).trans f4
      have s24 := hid_fr S2.dO f24
      exact (if_neg Bool.false_ne_true).mpr ⟨us, acc, n3, f24 _ _ nA hD, RpAll.same s24 _ _ rA, by omega, S2.step f24 d4, s2.trans s24, f2.trans f24, (if_neg Bool.false_ne_true).mp q4⟩
  · have e : i = xs.length := by omega
    subst e
    rw [List.drop_length] at q2
    obtain ⟨zs, ez, q2⟩ := q2
    cases ez
    exact .inl ⟨itr.2 (Nat.le_refl _), k D us acc H2 n2 (none_fr f1 nA nD) (f1.trans f2) S2 h0 nd free hD rA ((S.hid f1).trans s2) q2⟩
theorem qd_lcF {elt tg iter : Expr} {ifs : List Expr} {scope : Scope} {own : List (Str × Nat)} {pos : Pos} {it : AD} {g : GD} {p : TD} {e : ED} {vs : List Nat} (hc : X.calm = true) (hN : X.N.Nodup) (hi : PDI X tg iter it) (ok : BlkOk X.N X.env.scope scope own) (hvs : ∀ i ∈ vs, i ∈ own.map (·.2))
    (hg : ∀ (s : Shared) (H : Hp) (C : Addr) (cl : List (Str × Addr)) (fp : List Addr), PDG (X.blk s H scope (compEnvC scope cl C X.env) fp) tg vs g) (ht : ∀ (s : Shared) (H : Hp) (C : Addr) (cl : List (Str × Addr)) (fp : List Addr), PTs (X.blk s H scope (compEnvC scope cl C X.env) fp) ifs (tWT X.K p))
    (he : ∀ (s : Shared) (H : Hp) (C : Addr) (cl : List (Str × Addr)) (fp : List Addr), PD (X.blk s H scope (compEnvC scope cl C X.env) fp) elt e) (hs : ∀ x, foldedSetIterable iter X.env x = pure x := by intro _; rfl) :
    PDF X (.ListComp elt [⟨tg, iter, ifs, 0⟩] scope pos) (eL (eLc it g p e (own.map (·.2)))) := ⟨fun pins s σ H Q I h => (pe_lc hc hN hi ok hg ht he hs).run pins s σ H Q I (rd_lcF hvs h)⟩
theorem qd_addF {a b : Expr} {wa wb : ED} {pos : Pos} (ha : PD X a wa) (hb : PD X b wb) : PDF X (.BinOp a .Add b pos) (eL (eOp addD wa wb)) := ⟨fun pins s σ H Q I ⟨dk, OB, H0, O, ρ, n, Qd, S, hw, k⟩ => (pe_op op_cat ha hb).run pins s σ H Q I (rd_W S hw fun v x H1 n1 f1 d1 r1 q1 => rd_W (S.step f1 d1) q1 fun u y H2 n2 f2 d2 r2 ⟨d, ed, ys, ey, q2⟩ => by
  subst ey
  cases x with
  | list xs =>
    cases y with
    | list zs =>
      obtain ⟨c, e⟩ := ite_some ed
      cases e
      have S2 := (S.step f1 d1).step f2 d2
      have rx := Rp.same ((S.step f1 d1).hid f2) _ _ r1
      cases rx with
      | @lst _ us1 _ h1 a1 =>
      cases r2 with
      | @lst _ us2 _ h2 a2 =>
      refine ⟨_, _, _, _, rfl, rfl, hid_le _ _ h1, hid_le _ _ h2, ?_, fun p np => ?_⟩
      · rw [a1.len, a2.len]
        exact Nat.le_trans c lim_le
      · have SA := S2.acc (o := .lst (us1 ++ us2)) np nt_lst
        have f12 := f1.trans f2
        refine k p _ _ _ n2 (none_fr f12 (d2.new np).nA np) (f12.trans (FrD.of (same_new np))) SA (S2.fresh np) (d2.new np) (S2.nohold np) upd_same ?_ ?_ q2
        · rw [hid_add np]
          exact RpAll.app a1 a2
        · rw [hid_add np]
          exact S.hid (f1.trans f2)
    | _ => cases ed
  | int i => cases y <;> cases ed
  | str i =>
    cases y with
    | str j => obtain ⟨c, e⟩ := ite_some ed; cases e
    | _ => cases ed
  | tuple xs =>
    cases y with
    | tuple zs => obtain ⟨c, e⟩ := ite_some ed; cases e
    | _ => cases ed
  | _ => cases ed)⟩
def eLIx (i : Nat) (w : ED) : ED := fun ρ n Q => ∃ xs, ρ[i]? = some (some (.l xs)) ∧ w ρ n fun y n1 => ∃ k d, y = .int k ∧ atI xs k = some d ∧ Q d n1
theorem qd_lix {i : Nat} {a b : Expr} {w : ED} {pos : Pos} (ha : PE X a (tVar i)) (hb : PD X b w) (hs : PlainIx b := by exact fun _ _ => rfl) : PD X (.Subscript a b pos) (eLIx i w) := qd_mk (pe_ix ix_list ha hb hs) fun {dk OB H0 O H σ ρ n Q Qd} S hw k => by
  obtain ⟨xs, e1, q⟩ := hw
  obtain ⟨v0, z1, p, us, rfl, h1, h2, h3, h4, h5⟩ := S.sl _ _ e1
  refine ⟨.ref p, z1, rd_W S q fun v x H1 n1 f1 d1 r1 ⟨j, d, ex, ed, q1⟩ => ?_⟩
  subst ex
  cases r1
  obtain ⟨u, eu, ru⟩ := rps_atI h5 ed
  have nA : ¬ dkA dk p := h3.nA
  exact ⟨p, us, j, u, rfl, rfl, .inl (.inl (f1 _ _ nA h4)), eu, k u d H1 n1 f1 d1 (Rp.same (S.hid f1) _ _ ru) q1⟩
def eLSl (i : Nat) (lo hi : DEnv → M (Option Int)) : ED := fun ρ n Q => ∃ xs, ρ[i]? = some (some (.l xs)) ∧ lo ρ n fun a n1 => hi ρ n1 fun b n2 => Q (.list (cutD xs a b)) n2
theorem qd_lsl {i : Nat} {a : Expr} {lo hi : Option Expr} {l h : DEnv → M (Option Int)} {p2 pos : Pos} (ha : PE X a (tVar i)) (hl : PDO X lo l) (hh : PDO X hi h) : PD X (.Subscript a (.Slice lo hi none p2) pos) (eLSl i l h) := qd_mk (pe_slice sl_list ha hl hh) fun {dk OB H0 O H σ ρ n Q Qd} S hw k => by
  obtain ⟨xs, e1, q⟩ := hw
  obtain ⟨v0, z1, p, us, rfl, h1, h2, h3, h4, h5⟩ := S.sl _ _ e1
  refine ⟨.ref p, z1, dk, OB, H0, O, ρ, n, _, S, q, fun b H2 n2 f2 d2 q2 => ⟨dk, OB, H0, O, ρ, n2, _, S.step f2 d2, q2, fun c H3 n3 f3 d3 q3 => ?_⟩⟩
  have nA : ¬ dkA dk p := h3.nA
  have f := f2.trans f3
  refine ⟨p, us, rfl, .inl (.inl (f _ _ nA h4)), fun t nt => ?_⟩
  have S3 := S.step f d3
  exact k _ _ _ n3 (f.trans (FrD.of (same_new nt))) (d3.same (same_new nt)) (.lst (hid_new S3.dom nt) (RpAll.same (hid_same (same_new nt)) _ _ (rps_cut (RpAll.same (S.hid f) _ _ h5) b c))) q3
end
def isFl : PyData → Bool
  | .none => true
  | .bool _ => true
  | .int _ => true
  | .str _ => true
  | _ => false
omit [TbC] in
theorem rp_fl {K : PySem.W.Frag} {H H' : Hp} {v : V} {d : PyData} (e : isFl d = true) (h : Rp K H v d) : Rp K H' v d := by
  cases d with
  | none => cases h; exact .non
  | bool b => cases h; exact .bl b
  | int i => cases h; exact .int i
  | str z => cases h; exact .str z
  | _ => cases e
omit [TbC] in
theorem rps_fl {K : PySem.W.Frag} {H H' : Hp} : ∀ {us : List V} {ds : List PyData}, ds.all isFl = true → RpAll K H us ds → RpAll K H' us ds
  | _, _, _, .nil => .nil
  | _, d :: ds, e, .cons a b => by
    rw [List.all_cons, Bool.and_eq_true] at e
    exact .cons (rp_fl e.1 a) (rps_fl e.2 b)
def vwT (i : Nat) (w : TD) : TD := fun ρ n Q => ∃ xs, ρ[i]? = some (some (.l xs)) ∧ w (ρ.set i (some (.d (.list xs)))) n Q
def vwL (i : Nat) (w : AD) : ED := fun ρ n Q => ∃ xs, ρ[i]? = some (some (.l xs)) ∧ w (ρ.set i (some (.d (.list xs)))) n fun ds n1 => ds.all isFl = true ∧ Q (.list ds) n1
theorem StR.view {K : PySem.W.Frag} {dk : Option DkI} {OB : Addr → Bool} {H0 : Hp} {O : Addr → Bool} {H : Hp} {σ : L2.St} {ρ : DEnv} {n : Nat} (S : StR K dk OB H0 O H σ ρ n) {i : Nat} {xs : List PyData} (e1 : ρ[i]? = some (some (.l xs))) : ∃ p, StR K dk OB H0 (rem O p) H σ (ρ.set i (some (.d (.list xs)))) n := by
  obtain ⟨v, z1, p, us, rfl, h1, h2, h3, h4, h5⟩ := S.sl _ _ e1
  have sm : Same (My.hid O H) (My.hid (rem O p) H) := hid_sub fun b h => rem_of h
  exact ⟨p, S.give e1 rfl z1 h2 (.lst (hid_at rem_self h4) (RpAll.same sm _ _ h5))⟩
theorem qdt_view {X : Cx} {e : Expr} {w : TD} (i : Nat) (h : PDT X e w) : PDT X e (vwT i w) := ⟨fun pins s σ H Q I ⟨dk, OB, H0, O, ρ, n, Qd, S, ⟨xs, e1, q⟩, k⟩ => by
  obtain ⟨p, S'⟩ := S.view e1
  exact h.run pins s σ H Q I ⟨dk, OB, H0, rem O p, _, n, Qd, S', q, k⟩⟩
theorem view_F {K : PySem.W.Frag} {i : Nat} {w : AD} {dk : Option DkI} {OB : Addr → Bool} {H0 : Hp} {O : Addr → Bool} {H : Hp} {σ : L2.St} {ρ : DEnv} {n : Nat} {Qd : PyData → Nat → Prop} {Q : VK} (S : StR K dk OB H0 O H σ ρ n) (hw : vwL i w ρ n Qd) (k : ∀ v d H' n', FrD dk H H' → DkOk dk n' H' → Rp K (hid O H') v d → Qd d n' → Q v H') : tWF K w σ H Q := by
  obtain ⟨xs, e1, q⟩ := hw
  obtain ⟨p, S'⟩ := S.view e1
  refine ⟨dk, OB, H0, rem O p, _, n, _, S', q, fun p' us ds H' n' np ff S2 h0 nd fr hp rA sm ⟨fl, q1⟩ => ?_⟩
  exact k (.ref p') (.list ds) H' n' ff S2.dok (.lst (hid_at (S.dom.new np) hp) (rps_fl fl rA)) q1
theorem qs_setLcV {m i : Nat} {y : Str} {py : Pos} {elt tg iter : Expr} {ifs : List Expr} {scope : Scope} {own : List (Str × Nat)} {pos spos : Pos} {X : Cx} {it : AD} {g : GD} {p : TD} {e : ED} {vs : List Nat} (hc : X.calm = true) (hN : X.N.Nodup) (hy : X.N[i]? = some y) (hyl : X.env.scope.names.lookup y = some .local)
    (hsw : swapsWith (.ListComp elt [⟨tg, iter, ifs, 0⟩] scope pos) (some (.Name y py)) spos.line X.env = pure true) (hi : PDI X tg iter it) (ok : BlkOk X.N X.env.scope scope own) (hvs : ∀ i ∈ vs, i ∈ own.map (·.2))
    (hg : ∀ (s : Shared) (H : Hp) (C : Addr) (cl : List (Str × Addr)) (fp : List Addr), PDG (X.blk s H scope (compEnvC scope cl C X.env) fp) tg vs g) (ht : ∀ (s : Shared) (H : Hp) (C : Addr) (cl : List (Str × Addr)) (fp : List Addr), PTs (X.blk s H scope (compEnvC scope cl C X.env) fp) ifs (tWT X.K p))
    (he : ∀ (s : Shared) (H : Hp) (C : Addr) (cl : List (Str × Addr)) (fp : List Addr), PD (X.blk s H scope (compEnvC scope cl C X.env) fp) elt e) (hs : ∀ x, foldedSetIterable iter X.env x = pure x := by intro _; rfl) :
    PSD X (.Assign [.Name y py] (.ListComp elt [⟨tg, iter, ifs, 0⟩] scope pos) spos) (sSet i (vwL m (eL (eLc it g p e (own.map (·.2)))))) := qs_mk (ps_setLc hc hN hy hyl hsw hi ok hg ht he hs) fun S hw k => rd_lcF hvs (view_F S hw fun v d H1 n1 f1 d1 r1 q1 =>
  k.nx _ _ _ _ _ ((S.step f1 d1).set r1) (S.hid f1) q1)
omit [TbC]
def asLs : PyData → Option (List PyData)
  | .list xs => some xs
  | _ => none
def fL (f : EF) : AF := fun ρ => (f ρ).bind asLs
theorem is_L {w : ED} {f : EF} (h : IsE w f) : IsA (eL w) (fL f) := fun ρ n Q d e q => by
  obtain ⟨x, e1, e2⟩ := bind_is e
  cases x with
  | list xs => cases e2; exact h ρ n _ _ e1 ⟨_, rfl, q⟩
  | _ => cases e2
def fSetFl (i : Nat) (f : AF) : SF := fun ρ => (f ρ).map fun xs => .nx (ρ.set i (some (.l xs)))
theorem is_setFl {i : Nat} {w : AD} {f : AF} (h : IsA w f) : IsS (sSetFl i w) (fSetFl i f) := fun ρ n E r e q => by
  obtain ⟨xs, e1, rfl⟩ := map_is e
  exact h ρ n _ _ e1 q
def fLIx (i : Nat) (f : EF) : EF := fun ρ => (ownL ρ[i]?).bind fun xs => (f ρ).bind fun y => match y with
  | .int k => atI xs k
  | _ => none
theorem is_lix {i : Nat} {w : ED} {f : EF} (h : IsE w f) : IsE (eLIx i w) (fLIx i f) := fun ρ n Q d e q => by
  obtain ⟨xs, e1, e⟩ := bind_is e
  obtain ⟨y, e2, e⟩ := bind_is e
  cases y with
  | int k => exact ⟨xs, ownL_is e1, h ρ n _ _ e2 ⟨k, d, rfl, e, q⟩⟩
  | _ => cases e
def fLSl (i : Nat) (lo hi : OF) : EF := fun ρ => (ownL ρ[i]?).bind fun xs => (lo ρ).bind fun a => (hi ρ).map fun b => .list (cutD xs a b)
theorem is_lsl {i : Nat} {lo hi : DEnv → M (Option Int)} {f g : OF} (h : IsO lo f) (k : IsO hi g) : IsE (eLSl i lo hi) (fLSl i f g) := fun ρ n Q d e q => by
  obtain ⟨xs, e1, e⟩ := bind_is e
  obtain ⟨a, e2, e⟩ := bind_is e
  obtain ⟨b, e3, rfl⟩ := map_is e
  exact ⟨xs, ownL_is e1, h ρ n _ _ e2 (k ρ n _ _ e3 q)⟩
def fVT (i : Nat) (f : TF) : TF := fun ρ => (ownL ρ[i]?).bind fun xs => f (ρ.set i (some (.d (.list xs))))
theorem is_vT {i : Nat} {w : TD} {f : TF} (h : IsB w f) : IsB (vwT i w) (fVT i f) := fun ρ n Q b e q => by
  obtain ⟨xs, e1, e⟩ := bind_is e
  exact ⟨xs, ownL_is e1, h _ n Q b e q⟩
def fVL (i : Nat) (f : AF) : EF := fun ρ => (ownL ρ[i]?).bind fun xs => (f (ρ.set i (some (.d (.list xs))))).bind fun ds => if ds.all isFl = true then some (.list ds) else none
theorem is_vL {i : Nat} {w : AD} {f : AF} (h : IsA w f) : IsE (vwL i w) (fVL i f) := fun ρ n Q d e q => by
  obtain ⟨xs, e1, e⟩ := bind_is e
  obtain ⟨ds, e2, e⟩ := bind_is e
  obtain ⟨c, e⟩ := ite_is e
  cases e
  exact ⟨xs, ownL_is e1, h _ n _ ds e2 ⟨c, q⟩⟩
end My
namespace My
open PySem PySem.Spec PyProof.Rows L2
def purL (f : AF) : AD := fun ρ n Q => ∃ xs, f ρ = some xs ∧ Q xs n
theorem qdF_pur [TbC] {X : Cx} {e : Expr} {w : AD} {f : AF} (h : PDF X e w) (k : IsA w f) : PDF X e (purL f) := ⟨fun pins s σ H Q I ⟨dk, OB, H0, O, ρ, n, Qd, S, ⟨xs, e1, q⟩, c⟩ => h.run pins s σ H Q I ⟨dk, OB, H0, O, ρ, n, Qd, S, k ρ n _ xs e1 q, c⟩⟩
end My
namespace My
open PySem PySem.Spec PyProof.Rows L2
theorem rpa_set {K : PySem.W.Frag} {H : Hp} {v : V} {d : PyData} (h : Rp K H v d) : ∀ {us : List V} {ds : List PyData} {j : Nat}, RpAll K H us ds → RpAll K H (us.set j v) (ds.set j d)
  | _, _, _, .nil => .nil
  | _, _, 0, .cons a b => .cons h b
  | _, _, j + 1, .cons a b => .cons a (rpa_set h b)
section
variable [TbC] {X : Cx}
def sSetI (i : Nat) (wk wv : ED) : SD := fun ρ n E => ∃ xs, ρ[i]? = some (some (.l xs)) ∧ wv ρ n fun x n1 => wk ρ n1 fun y n2 => ∃ (k : Int) (j : Nat), y = .int k ∧ ixN xs.length k = some j ∧ E.nx (ρ.set i (some (.l (xs.set j x)))) n2
theorem qs_setI {i : Nat} {o e f : Expr} {wk wv : ED} {pos pos' : Pos} (h0 : PE X o (tVar i)) (hk : PD X f wk) (hv : PD X e wv)
    (hst : PS X (.Assign [.Subscript o f pos'] e pos) (tAsg (tW X.K wv) (gSub (tVar i) (tW X.K wk) rSetL)) := by first | exact ps_asg (by assumption) (pg_sub (by assumption) (by assumption) set_list)) : PSD X (.Assign [.Subscript o f pos'] e pos) (sSetI i wk wv) := qs_mk hst fun {dk OB H0 O H σ ρ n E D} S hw k => by
  obtain ⟨xs, e1, q⟩ := hw
  obtain ⟨v0, z1, p, us, rfl, h1, h2, h3, h4, h5⟩ := S.sl _ _ e1
  refine rd_W S q fun v x H1 n1 f1 d1 r1 q1 => ⟨.ref p, z1, rd_W (S.step f1 d1) q1 fun y dy H2 n2 f2 d2 r2 ⟨m, j, ey, ej, q2⟩ => ?_⟩
  subst ey
  cases r2
  have nA : ¬ dkA dk p := h3.nA
  have h4' := (f1.trans f2) _ _ nA h4
  have S2 := S.step (f1.trans f2) d2
  have s2 := S.hid (f1.trans f2)
  refine ⟨p, us, m, j, rfl, rfl, h4', by rw [h5.len]; exact ej, ?_⟩
  refine k.nx O _ _ _ n2 (S2.mut e1 rfl rfl z1 h1 h2 h3 nt_lst (s' := .l (xs.set j x)) ⟨p, _, rfl, h1, h2, h3, upd_same, ?_⟩) ?_ q2
  · rw [hid_upd h1]
    exact rpa_set (Rp.same (hid_fr S.dO f2) _ _ r1) (RpAll.same s2 _ _ h5)
  · rw [hid_upd h1]
    exact s2
end
def setIF (xs : List PyData) (x : PyData) : PyData → Option (List PyData)
  | .int k => (ixN xs.length k).map fun j => xs.set j x
  | _ => none
def fSetI (i : Nat) (fk fv : EF) : SF := fun ρ => (ownL ρ[i]?).bind fun xs => (fv ρ).bind fun x => (fk ρ).bind fun y => (setIF xs x y).map fun zs => .nx (ρ.set i (some (.l zs)))
theorem is_setI {i : Nat} {wk wv : ED} {fk fv : EF} (h : IsE wk fk) (k : IsE wv fv) : IsS (sSetI i wk wv) (fSetI i fk fv) := fun ρ n E r e q => by
  obtain ⟨xs, e1, e⟩ := bind_is e
  obtain ⟨x, e2, e⟩ := bind_is e
  obtain ⟨y, e3, e⟩ := bind_is e
  obtain ⟨zs, e4, rfl⟩ := Option.map_eq_some_iff.mp e
  refine ⟨xs, ownL_is e1, k ρ n _ x e2 (h ρ n _ y e3 ?_)⟩
  match y, e4 with
  | .int m, e4 =>
    obtain ⟨j, ej, rfl⟩ := Option.map_eq_some_iff.mp e4
    exact ⟨m, j, rfl, ej, q⟩
end My
namespace My
open PySem PySem.Spec PyProof.Rows L2
section
open PySem.SeqAt
open PySem.AutoSeq1 (wpAny_loadPart')
open PySem.MeetsSeq PySem.MeetsSeq2 PySem.MeetsSeq3
theorem tuple_ge_texts (a b : Addr) (I1 I2 : Array Value) (n1 n2 : Nat) (d1 d2 : Option Addr) (s1 s2 : Array (Option Value)) (ks ms : List Str) (h1 : StrsAre I1.toList ks) (h2 : StrsAre I2.toList ms) :
    Meets (Builtin.«tuple.__ge__» ⟨[.ref a, .ref b], []⟩)
      (fun _ R z => z.heap.get? a = some { cls := .type "tuple", dict := d1, data := .seq I1 n1, slots := s1 } ∧ z.heap.get? b = some { cls := .type "tuple", dict := d2, data := .seq I2 n2, slots := s2 } ∧ R (.ok (.ret (.bool (!ltK ks ms)))) z) :=
  .of_wp fun P w A R z hz => by
    obtain ⟨hp, gs, dr, tk, os⟩ := z
    obtain ⟨ha, hb, hR⟩ := hz
    have sub := AutoSeq1.sub_tuple_tuple
    have l1 : I1.size = ks.length := by rw [← h1.length]; simp
    have l2 : I2.size = ms.length := by rw [← h2.length]; simp
    wp_walk using wpAny_loadPart' ha, wpAny_loadPart' hb, wpAny_forIn_list _ (fun rest c z' => c.1 = none ∧ z' = ⟨hp, gs, dr, tk, os⟩ ∧ ∃ (vs us : List Value) (k' m' : List Str), rest = vs.zip us ∧
      StrsAre vs k' ∧ StrsAre us m' ∧ k'.length + I2.size = m'.length + I1.size ∧ R (.ok (.ret (.bool (!ltK k' m')))) ⟨hp, gs, dr, tk, os⟩) _
    case turn =>
      rintro ⟨v, u⟩ rest c z' ⟨hc, rfl, vs, us, k', m', er, hv, hu, len, hR⟩
      cases hv with
      | nil =>
        rw [List.zip_nil_left] at er
        cases er
      | cons x t hv' =>
        cases hu with
        | nil =>
          rw [List.zip_nil_right] at er
          cases er
        | cons y t' hu' =>
          rw [List.zip_cons_cons] at er
          obtain ⟨e1, er'⟩ := List.cons.inj er
          obtain ⟨rfl, rfl⟩ := Prod.mk.inj e1
          rw [ltK_cons] at hR
          simp only [List.length_cons] at len
          have eq : SeqAt.EqAt A.in1 ⟨hp, gs, dr, tk, os⟩ (.str x t) (.str y t') (decide (x = y)) := eqAt_V (y := .str x) (x := .str y) ⟨t, rfl⟩ ⟨t', rfl⟩ rfl rfl |> fun q => by
            have e : eqV (.str x) (.str y) = decide (x = y) := by
              show (x == y) = _
              rw [Bool.eq_iff_iff, beq_iff_eq, decide_eq_true_eq]
            rw [← e]
            exact q
          refine wpAny_bind (eq P w _ _ ?_)
          by_cases exy : x = y
          · rw [if_pos exy] at hR
            rw [decide_eq_true exy]
            wp_walk
            exact ⟨rfl, rfl, _, _, _, _, er', hv', hu', by omega, hR⟩
          · rw [if_neg exy, ← ltS_eq] at hR
            rw [decide_eq_false exy]
            have lt : ∀ (E' : Value → Shared → Prop) (Q : Value → Shared → Prop), Q (.bool (!decide (x.cps.toList < y.cps.toList))) ⟨hp, gs, dr, tk, os⟩ → wpAny (model P w) A.in1 (richCompare .GtE (.str x t) (.str y t')) Q E' ⟨hp, gs, dr, tk, os⟩ := fun E' Q q => (PySem.P.ge_str q : wpAny (model P w) A.in1 (compareOp .GtE (.str x t) (.str y t')) Q E' _)
            wp_walk using lt
            exact ⟨_, rfl, by simpa using hR⟩
    case fin =>
      rintro ⟨c1, c2⟩ z' ⟨hc, rfl, vs, us, k', m', er, hv, hu, len, hR⟩
      simp only at hc
      subst hc
      have ez : k'.zip m' = [] := by
        cases hv with
        | nil => exact List.zip_nil_left
        | cons x t _ =>
          cases hu with
          | nil => exact List.zip_nil_right
          | cons y t' _ =>
            rw [List.zip_cons_cons] at er
            cases er
      rw [ltK_ends ez, show (!decide (k'.length < m'.length)) = decide (I2.size ≤ I1.size) from by rw [← decide_not]; exact decide_eq_decide.mpr ⟨fun h => by omega, fun h => by omega⟩] at hR
      wp_walk
      exact ⟨_, rfl, by simpa [Builtin.Tuple.tupleCompareSizes] using hR⟩
    case h => exact ⟨rfl, rfl, I1.toList, I2.toList, ks, ms, rfl, h1, h2, by omega, hR⟩
end
def rGeK (K : PySem.W.Frag) : R2 := fun x y H Q => ∃ (a b : Addr) (ks ms : List Str), x = .ref a ∧ y = .ref b ∧ SqT K H a (ks.map V.str) ∧ SqT K H b (ms.map V.str) ∧ Q (.bl (!ltK ks ms)) H
theorem op_geK {X : Cx} (hu : X.A.units < cLine) : OpR X (compareOp .GtE) (rGeK X.K) := by
  intro pins s σ H x y v u Q I rx ry h
  obtain ⟨a, b, ks, ms, rfl, rfl, ha, hb, q⟩ := h
  cases (show v = Value.ref a from rx)
  cases (show u = Value.ref b from ry)
  obtain ⟨is1, r1, ⟨⟨c1, d1, dt1, sl1⟩, o1, e1, n1, f1⟩, _⟩ := I.tuple ha
  obtain ⟨is2, r2, ⟨⟨c2, d2, dt2, sl2⟩, o2, e2, n2, f2⟩, _⟩ := I.tuple hb
  simp only at e1 e2 f1 f2
  subst e1 e2 f1 f2
  refine richCompare_meets_room (op := .GtE) ⟨_, o1, rfl⟩ ⟨_, o2, rfl⟩ PySem.F.slot_tuple_ge PySem.F.entry_tuple_ge (PySem.F.args_tuple_ge_2 _ _) (tuple_ge_texts a b is1.toArray is2.toArray n1 n2 d1 d2 sl1 sl2 ks ms (by simpa using strsAre_of r1) (by simpa using strsAre_of r2)) ⟨o1, o2, ?_⟩ hu
  exact ⟨(fun z => nomatch z), .bl (!ltK ks ms), H, I, rfl, q⟩
def geX : PyData → PyData → Option PyData
  | .int i, .int j => some (.bool (decide (j ≤ i)))
  | .tuple xs, .tuple ys => (strsD xs).bind fun ks => (strsD ys).map fun ms => .bool (!ltK ks ms)
  | _, _ => none
section
variable {K : PySem.W.Frag}
def rGeX (K : PySem.W.Frag) : R2 := fun x y H Q => (rI0 fun i j => .bl (decide (j ≤ i))) x y H Q ∨ rGeK K x y H Q
theorem op_geX {X : Cx} (hu : X.A.units < cLine) : OpR X (compareOp .GtE) (rGeX X.K) := OpR.or op_ge (op_geK hu)
theorem pu_geX : Pu2 K (rGeX K) geX := by
  intro O H x y dx dy dz Q dm rx ry e k
  match dx, dy, e with
  | .int i, .int j, e =>
    exact .inl (pu_cmp (p := fun i j => decide (j ≤ i)) dm rx ry e k)
  | .tuple xs, .tuple ys, e =>
    obtain ⟨ks, e1, e⟩ := Option.bind_eq_some_iff.mp e
    obtain ⟨ms, e2, rfl⟩ := Option.map_eq_some_iff.mp e
    cases rx with
    | tup h1 a1 _ =>
    cases ry with
    | tup h2 a2 _ =>
    refine .inr ⟨_, _, ks, ms, rfl, rfl, ?_, ?_, k _ H (Same.refl H) (.bl _)⟩
    · rw [← (rps_strs a1 e1).1]
      exact same_seqT hid_le h1
    · rw [← (rps_strs a2 e2).1]
      exact same_seqT hid_le h2
end
end My
namespace My
open PySem PySem.Spec PyProof.Rows L2
section
variable [TbC] {X : Cx}
theorem rp_strs {K : PySem.W.Frag} {H : Hp} : ∀ xs : List Str, RpAll K H (xs.map V.str) (xs.map PyData.str)
  | [] => .nil
  | x :: xs => .cons (.str x) (rp_strs xs)
def sSplL (i : Nat) (wo : ED) (ws : AD) : SD := fun ρ n E => wo ρ n fun x n1 => ∃ z, x = .str z ∧ ws ρ n1 fun xs n2 => ∃ b, xs = [.str b] ∧ (b.length == 0) = false ∧ z.length + 2 ≤ sizeLine ∧ E.nx (ρ.set i (some (.l ((Txt.split z b).map PyData.str)))) n2
theorem qs_splL {i : Nat} {x : Str} {o e : Expr} {wo : ED} {ws : AD} {pos pos' p2 p3 : Pos} (hN : X.N.Nodup) (hi : X.N[i]? = some x) (hx : Loc X.env.scope x) (ho : PD X o wo) (ha : PDA X [e] ws)
    (hs : swapsWith (.Call (.Attribute o "split" p2) [e] [] p3) (some (.Name x pos')) pos.line X.env = pure false := by rfl)
    (hst : PE X (.Call (.Attribute o "split" p2) [e] [] p3) (tBM X.K "str" (fun x xs H Q => ∃ a b, x = .str a ∧ xs = [.str b] ∧ (b.length == 0) = false ∧ a.length + 2 ≤ sizeLine ∧ rNewStrs (Txt.split a b) H Q) (tW X.K wo) (tWA X.K ws)) := by first | exact pe_bm PySem.F.plainAttrs_str PySem.F.slot_str_split PySem.F.type_str_split mt_split (by assumption) (by assumption))
    (hf : X.fn x = true ∨ X.env.scope.names.lookup x = some .local := by first | exact .inl rfl | exact .inr rfl | assumption) : PSD X (.Assign [.Name x pos'] (.Call (.Attribute o "split" p2) [e] [] p3) pos) (sSplL i wo ws) :=
  qs_mk (ps_set hN hi hx hst hs hf) fun {dk OB H0 O H σ ρ n E D} S hw k => rd_W S hw fun v d H1 n1 f1 d1 r1 ⟨z, e, q⟩ => by
    subst e
    cases r1
    refine ⟨rfl, rda_W (S.step f1 d1) q fun vs ds H2 n2 f2 d2 r2 ⟨b, eb, ne, le, q2⟩ => ?_⟩
    subst eb
    cases r2 with
    | cons a c =>
    cases a
    cases c
    refine ⟨z, b, rfl, rfl, ne, le, fun p np => ?_⟩
    have S1 := S.step (f1.trans f2) d2
    refine k.nx (add O p) _ _ _ n2 (S1.new np (s := .l _) rfl nt_lst ⟨p, _, rfl, add_self, S1.fresh np, S1.dok.new np, upd_same, ?_⟩) ?_ q2
    · exact rp_strs _
    · rw [hid_add np]
      exact S.hid (f1.trans f2)
omit [TbC] in
theorem rpa_snoc {K : PySem.W.Frag} {H : Hp} : ∀ {xs : List PyData} {us : List V} {d : PyData}, RpAll K H us (xs ++ [d]) → ∃ us' y, us = us' ++ [y] ∧ RpAll K H us' xs ∧ Rp K H y d
  | [], _, d, .cons h .nil => ⟨[], _, rfl, .nil, h⟩
  | x :: xs, _, d, .cons h t => by
    obtain ⟨us', y, e, a, b⟩ := rpa_snoc t
    exact ⟨_ :: us', y, by rw [e]; rfl, .cons h a, b⟩
def sPop2VL (m i j : Nat) : SD := fun ρ n E => ∃ xs d, ρ[m]? = some (some (.l (xs ++ [d]))) ∧ E.nx (((ρ.set m (some (.l xs))).set i (some (.d d))).set j (some (.l []))) n
theorem qs_popR {m i j : Nat} {z x y : Str} {px py pt p1 p2 p3 p4 pos : Pos} {kt k2 pt2} (hc : X.calm = true) (hN : X.N.Nodup) (hi : X.N[i]? = some x) (hj : X.N[j]? = some y) (hij : i ≠ j)
    (hx : X.env.scope.names.lookup x = some .local) (hy : X.env.scope.names.lookup y = some .local)
    (hp : PE X (.Call (.Attribute (.Name z p2) "pop" p3) [] [] p4) (tBM0 X.K "list" rPop (tVar m)))
    (hw : swappedStores [.Tuple [.Name x px, .Name y py] kt pt] (.Tuple [.Call (.Attribute (.Name z p2) "pop" p3) [] [] p4, .List [] p1] k2 pt2) X.env = pure (some [x, y]))
    (hs : swapsWithSole [.Tuple [.Name x px, .Name y py] kt pt] (.Tuple [.Call (.Attribute (.Name z p2) "pop" p3) [] [] p4, .List [] p1] k2 pt2) pos.line X.env = pure false := by rfl)
    (h1 : starEach (.Call (.Attribute (.Name z p2) "pop" p3) [] [] p4 :: [.List [] p1]) X.env = (false, eval (.Call (.Attribute (.Name z p2) "pop" p3) [] [] p4) X.env) :: starEach [.List [] p1] X.env := by rfl)
    (h3 : starEach (.List [] p1 :: []) X.env = (false, eval (.List [] p1) X.env) :: starEach [] X.env := by rfl) :
    PSD X (.Assign [.Tuple [.Name x px, .Name y py] kt pt] (.Tuple [.Call (.Attribute (.Name z p2) "pop" p3) [] [] p4, .List [] p1] k2 pt2) pos) (sPop2VL m i j) := qs_mk (ps_par hc hN hi hj hij hx hy (pa_cons hp (pa_cons (pe_lst pa_nil) pa_nil h3) h1) hw hs) fun {dk OB H0 O H σ ρ n E D} S hq k => by
  obtain ⟨xs, d, e1, q⟩ := hq
  obtain ⟨v, z1, p, us, rfl, g1, g2, g3, g4, g5⟩ := S.sl _ _ e1
  obtain ⟨us', v, rfl, ra, rd⟩ := rpa_snoc g5
  refine ⟨_, z1, .inl ⟨rfl, _, .inl (.inl g4)⟩, ?_⟩
  refine ⟨p, us' ++ [v], v, rfl, rfl, g4, by rw [List.length_append]; simp, Nat.zero_le _, fun p2 np => ?_⟩
  rw [List.dropLast_concat] at np ⊢
  have sm : Same (hid O H) (hid O (upd H p (.lst us'))) := by
    rw [hid_upd g1]
    exact Same.refl _
  have S1 := S.mut e1 rfl rfl z1 g1 g2 g3 nt_lst (s' := .l xs) ⟨p, us', rfl, g1, g2, g3, upd_same, by rw [hid_upd g1]; exact ra⟩
  have nd : NotDk dk p2 := S1.dok.new np
  have SA := S1.acc (o := .lst []) np nt_lst
  have h0 := S1.fresh np
  have hs1 : Same (hid O (upd H p (.lst us'))) (hid (add O p2) (upd (upd H p (.lst us')) p2 (.lst []))) := by
    rw [hid_add np]
    exact Same.refl _
  refine ⟨_, _, rfl, ?_⟩
  have T1 := SA.set (i := i) (Rp.same (sm.trans hs1) _ _ rd)
  have T2 := StR.take T1 (i := j) (s := .l []) rfl (fun l y e o h => by
    by_cases c : i = l
    · subst c
      by_cases li : i < (ρ.set m (some (.l xs))).length
      · rw [List.getElem?_set_self li] at e
        cases e
        cases o
      · rw [List.getElem?_eq_none (by rw [List.length_set]; omega)] at e
        cases e
    · rw [List.getElem?_set_ne c] at e h
      exact S1.nohold np l y e o h) ⟨p2, [], rfl, add_self, h0, nd, upd_same, .nil⟩
  exact k.nx (add O p2) _ _ _ n T2 (sm.trans hs1) q
end
def fPop2VL (m i j : Nat) : SF := fun ρ => match ρ[m]? with
  | some (some (.l xs)) => xs.getLast?.map fun d => .nx (((ρ.set m (some (.l xs.dropLast))).set i (some (.d d))).set j (some (.l [])))
  | _ => none
theorem is_pop2VL {m i j : Nat} : IsS (sPop2VL m i j) (fPop2VL m i j) := fun ρ n E r e q => by
  unfold fPop2VL at e
  split at e
  · rename_i xs h
    obtain ⟨d, e1, rfl⟩ := Option.map_eq_some_iff.mp e
    obtain ⟨ys, rfl⟩ := List.getLast?_eq_some_iff.mp e1
    rw [List.dropLast_concat] at q
    exact ⟨ys, d, h, q⟩
  · cases e
def fSplL (i : Nat) (f : EF) (g : AF) : SF := fun ρ => (f ρ).bind fun x => (asS x).bind fun z => (g ρ).bind fun xs => match xs with
  | [.str b] => if (b.length == 0) = false ∧ z.length + 2 ≤ sizeLine then some (.nx (ρ.set i (some (.l ((Txt.split z b).map PyData.str))))) else none
  | _ => none
theorem is_splL {i : Nat} {wo : ED} {ws : AD} {f : EF} {g : AF} (h : IsE wo f) (k : IsA ws g) : IsS (sSplL i wo ws) (fSplL i f g) := fun ρ n E r e q => by
  obtain ⟨x, e1, e⟩ := bind_is e
  obtain ⟨z, e2, e⟩ := bind_is e
  obtain ⟨xs, e3, e⟩ := bind_is e
  split at e
  · rename_i b
    obtain ⟨c, e⟩ := ite_is e
    cases e
    refine h ρ n _ x e1 ⟨z, ?_, k ρ n _ _ e3 ⟨b, rfl, c.1, c.2, q⟩⟩
    cases x <;> first | (cases e2; rfl) | cases e2
  · cases e
end My
namespace My
open PySem PySem.Spec PyProof.Rows L2
def rangeD2 (i j : Int) : List PyData := (List.range (j - i).toNat).map fun (k : Nat) => .int (i + (k : Int))
def iR2 (w : AD) : AD := fun ρ n Q => w ρ n fun xs n1 => ∃ i j : Int, xs = [.int i, .int j] ∧ (-(2 ^ 62) ≤ i ∧ i < 2 ^ 62 ∧ -(2 ^ 62) ≤ j ∧ j < 2 ^ 62) ∧ Q (rangeD2 i j) n1
section
variable [TbC] {X : Cx} {tg : Expr}
theorem qdi_range2 {a b : Expr} {w : AD} {p pos : Pos} (hg : Gl X "range") (hm : X.mg "range" = none) (ha : PDA X [a, b] w) (hs : starEach [a, b] X.env = [(false, eval a X.env), (false, eval b X.env)] := by rfl) (hs2 : starEach [b] X.env = [(false, eval b X.env)] := by rfl) : PDI X tg (.Call (.Name "range" p) [a, b] [] pos) (iR2 w) := qdi_mk (pi_range2 hg hm ha hs hs2) fun S hw k => rda_W S hw fun vs ds H1 n1 f1 d1 r1 ⟨i, j, e, l, q⟩ => by
  subst e
  cases r1 with
  | cons a b =>
    cases a
    cases b with
    | cons c d =>
      cases c
      cases d
      exact ⟨i, j, rfl, l, k _ H1 n1 _ f1 d1 it_rng q⟩
end
def rngF2 : List PyData → Option (List PyData)
  | [.int i, .int j] => if -(2 ^ 62) ≤ i ∧ i < 2 ^ 62 ∧ -(2 ^ 62) ≤ j ∧ j < 2 ^ 62 then some (rangeD2 i j) else none
  | _ => none
def afR2 (f : AF) : AF := fun ρ => (f ρ).bind rngF2
theorem is_afR2 {w : AD} {f : AF} (h : IsA w f) : IsA (iR2 w) (afR2 f) := fun ρ n Q d e q => by
  obtain ⟨x, e1, e2⟩ := bind_is e
  match x, e2 with
  | [.int i, .int j], e2 =>
    obtain ⟨c, e3⟩ := ite_is e2
    cases e3
    exact h ρ n _ _ e1 ⟨i, j, rfl, c, q⟩
theorem afR2_is {f : AF} {ρ : DEnv} {i j : Int} (h : f ρ = some [.int i, .int j]) (l : -1000000 ≤ i ∧ i ≤ 1000000 ∧ -1000000 ≤ j ∧ j ≤ 1000000) : afR2 f ρ = some (rangeD2 i j) := by
  unfold afR2
  rw [h]
  show (if _ then _ else _) = _
  rw [if_pos (by omega)]
end My
namespace My
open PySem PySem.Spec PyProof.Rows L2
variable [TbC]
abbrev Fs := List (Str × Int)
def fsV (fs : Fs) : List (Str × V) := fs.map fun p => (p.1, V.int p.2)
abbrev SXf := DEnv → Nat → EndsD → (Fs → Nat → Prop) → Prop
abbrev EXDf := DEnv → Nat → (PyData → Nat → Prop) → (Fs → Nat → Prop) → Prop
abbrev AXDf := DEnv → Nat → (List PyData → Nat → Prop) → (Fs → Nat → Prop) → Prop
def ExOkf (dk : Option DkI) (H0 : Hp) (E₀ : XK) (C : Value) (c : Fs → Nat → Prop) : Prop := ∀ fs d H' n', c fs n' → FrD dk H0 H' → DkOk dk n' H' → H' d = some (.xd (fsV fs)) → E₀ C (some d) H'
theorem ExOkf.from {dk : Option DkI} {H0 H : Hp} {E₀ : XK} {C : Value} {c : Fs → Nat → Prop} (h : ExOkf dk H0 E₀ C c) (f : FrD dk H0 H) : ExOkf dk H E₀ C c := fun fs e H' n' z g d k => h fs e H' n' z (f.trans g) d k
def tWSXf (K : PySem.W.Frag) (E₀ : XK) (C : Value) (w : SXf) : TS := fun D σ H => ∃ dk OB H0 O ρ n E c, StR K dk OB H0 O H σ ρ n ∧ w ρ n E c ∧ EndOk K dk OB H0 O H E D ∧ ExOkf dk H0 E₀ C c
def tWEXf (K : PySem.W.Frag) (E₀ : XK) (C : Value) (w : EXDf) : TE := fun σ H Q => ∃ dk OB H0 O ρ n Qd c, StR K dk OB H0 O H σ ρ n ∧ w ρ n Qd c ∧ (∀ v d H' n', FrD dk H H' → DkOk dk n' H' → Rp K (hid O H') v d → Qd d n' → Q v H') ∧ ExOkf dk H E₀ C c
def tWAXf (K : PySem.W.Frag) (E₀ : XK) (C : Value) (w : AXDf) : TA := fun σ H Q => ∃ dk OB H0 O ρ n Qd c, StR K dk OB H0 O H σ ρ n ∧ w ρ n Qd c ∧ (∀ vs ds H' n', FrD dk H H' → DkOk dk n' H' → RpAll K (hid O H') vs ds → Qd ds n' → Q vs H') ∧ ExOkf dk H E₀ C c
abbrev PSXf (X : Cx) (E₀ : XK) (C : Value) (st : Stmt) (w : SXf) : Prop := PS X st (tWSXf X.K E₀ C w)
abbrev PSXsf (X : Cx) (E₀ : XK) (C : Value) (sts : List Stmt) (w : SXf) : Prop := PSs X sts (tWSXf X.K E₀ C w)
abbrev PEXf (X : Cx) (E₀ : XK) (C : Value) (e : Expr) (w : EXDf) : Prop := PE X e (tWEXf X.K E₀ C w)
abbrev PAXf (X : Cx) (E₀ : XK) (C : Value) (es : List Expr) (w : AXDf) : Prop := PA X es (tWAXf X.K E₀ C w)
def spXf (K : PySem.W.Frag) (C : Value) (F : List PyData → Option (PyData ⊕ Fs)) : Sp := fun vs H Q E => ∃ (O : Addr → Bool) (ds : List PyData) (o : PyData ⊕ Fs), Car O H ∧ RpAll K (hid O H) vs ds ∧ F ds = some o ∧ (∀ d, o = .inl d → ∀ v H', FrD none H H' → TbOk H' → Rp K (hid O H') v d → Q v H') ∧ (∀ fs, o = .inr fs → ∀ d H', FrD none H H' → TbOk H' → H' d = some (.xd (fsV fs)) → E C (some d) H')
section
variable {X : Cx} {E₀ : XK} {C : Value}
theorem qf_lift {st : Stmt} {w : SD} (h : PSD X st w) : PSXf X E₀ C st (fun ρ n E _ => w ρ n E) := ⟨fun pins s σ H D I ⟨_, _, _, _, _, _, _, _, S, hw, k, _⟩ => h.run pins s σ H D I ⟨_, _, _, _, _, _, _, S, hw, k⟩⟩
theorem qf_liftE {e : Expr} {w : ED} (h : PD X e w) : PEXf X E₀ C e (fun ρ n Qd _ => w ρ n Qd) := ⟨fun pins s σ H Q I ⟨_, _, _, _, _, _, _, _, S, hw, k, _⟩ => h.run pins s σ H Q I ⟨_, _, _, _, _, _, _, S, hw, k⟩⟩
theorem qf_nil : PSXsf X E₀ C [] (fun ρ n E _ => E.nx ρ n) := ⟨fun pins s σ H D I ⟨_, _, _, _, _, _, _, _, S, hw, k, _⟩ => qss_nil.run pins s σ H D I ⟨_, _, _, _, _, _, _, S, hw, k⟩⟩
def xSeqf (a b : SXf) : SXf := fun ρ n E c => a ρ n { E with nx := fun ρ' n' => b ρ' n' E c } c
theorem qf_cons {st : Stmt} {rest : List Stmt} {a b : SXf} (h1 : PSXf X E₀ C st a) (h2 : PSXsf X E₀ C rest b) : PSXsf X E₀ C (st :: rest) (xSeqf a b) := ⟨fun pins s σ H D I ⟨_, _, _, _, _, _, _, _, S, hw, k, x⟩ =>
  (pss_cons h1 h2).run pins s σ H D I ⟨_, _, _, _, _, _, _, _, S, hw, ⟨fun O' H' σ' ρ' n' S' s q => ⟨_, _, _, _, _, _, _, _, S', q, k.mono s, x⟩, k.rt, k.bk, k.ct⟩, x⟩⟩
theorem qf_one {st : Stmt} {a : SXf} (h : PSXf X E₀ C st a) : PSXsf X E₀ C [st] a := ⟨fun pins s σ H D I w => (pss_one h).run pins s σ H D I w⟩
def xIff (t : TD) (a b : SXf) : SXf := fun ρ n E c => t ρ n fun x n1 => if x = true then a ρ n1 E c else b ρ n1 E c
theorem qf_if {t : Expr} {a b : List Stmt} {wc : TD} {wa wb : SXf} {pos : Pos} (hc : PDT X t wc) (ha : PSXsf X E₀ C a wa) (hb : PSXsf X E₀ C b wb) : PSXf X E₀ C (.If t a b pos) (xIff wc wa wb) := ⟨fun pins s σ H D I ⟨_, _, _, _, _, _, _, _, S, hw, k, x⟩ =>
  (ps_if hc ha hb).run pins s σ H D I (rdt_W S hw fun b H1 n1 f1 d1 q1 => by
    cases b with
    | true => exact (if_pos rfl).mpr ⟨_, _, _, _, _, _, _, _, S.step f1 d1, (if_pos rfl).mp q1, k.mono (S.hid f1), x⟩
    | false => exact (if_neg Bool.false_ne_true).mpr ⟨_, _, _, _, _, _, _, _, S.step f1 d1, (if_neg Bool.false_ne_true).mp q1, k.mono (S.hid f1), x⟩)⟩
def xRetf (e : EXDf) : SXf := fun ρ n E c => e ρ n E.rt c
theorem qf_ret {e : Expr} {w : EXDf} {pos : Pos} (he : PEXf X E₀ C e w) : PSXf X E₀ C (.Return (some e) pos) (xRetf w) := ⟨fun pins s σ H D I ⟨_, _, _, _, _, _, _, _, S, hw, k, z⟩ =>
  (ps_ret he).run pins s σ H D I ⟨_, _, _, _, _, _, _, _, S, hw, fun v d H1 n1 f1 d1 r1 q1 => k.rt v d H1 n1 (S.fr.trans f1) d1 (Rp.same (hid_sub S.ob) _ _ r1) q1, z.from S.fr⟩⟩
def xCallf (F : List PyData → Option (PyData ⊕ Fs)) (ws : AXDf) : EXDf := fun ρ n Qd c => ws ρ n (fun xs n1 => ∃ o, F xs = some o ∧ (∀ d, o = .inl d → Qd d n1) ∧ (∀ fs, o = .inr fs → c fs n1)) c
section
variable {k : Nat} {f : Addr} {fd : FuncData} {ps : List Str} {x : Str} {e : Expr} {es : List Expr} {ws : AXDf} {p pos : Pos} {E : XK}
theorem qfa_lift {es : List Expr} {w : AD} (h : PDA X es w) : PAXf X E₀ C es (fun ρ n Qd _ => w ρ n Qd) := ⟨fun pos pins s σ H Q I ⟨_, _, _, _, _, _, _, _, S, hw, k, _⟩ => h.run pos pins s σ H Q I ⟨_, _, _, _, _, _, _, S, hw, k⟩⟩
def axCf (w : EXDf) (ws : AXDf) : AXDf := fun ρ n Qd c => w ρ n (fun x n1 => ws ρ n1 (fun xs n2 => Qd (x :: xs) n2) c) c
theorem qfa_cons {w : EXDf} (h : PEXf X E₀ C e w) (hr : PAXf X E₀ C es ws) (hs : starEach (e :: es) X.env = (false, eval e X.env) :: starEach es X.env := by rfl) : PAXf X E₀ C (e :: es) (axCf w ws) := ⟨fun pos pins s σ H Q I ⟨_, _, _, _, _, _, _, _, S, hw, k, z⟩ =>
  (pa_cons h hr hs).run pos pins s σ H Q I ⟨_, _, _, _, _, _, _, _, S, hw, fun v d H1 n1 f1 d1 r1 q1 => ⟨_, _, _, _, _, _, _, _, S.step f1 d1, q1, fun vs ds H2 n2 f2 d2 r2 q2 => k _ _ H2 n2 (f1.trans f2) d2 (.cons (Rp.same (hid_fr S.dO f2) _ _ r1) r2) q2, z.from f1⟩, z⟩⟩
theorem qf_call {F : List PyData → Option (PyData ⊕ Fs)} (G : FnOk X.prog X.w X.K X.mg X.base (L2.CX X.prog X.w) k f fd ps (spXf X.K C F)) (hr : Room k X.A) (hg : Gl X x) (hm : X.mg x = some (.ref f))
    (hk : PySem.W.keepIn X.K (.ref f) = true) (hb : Binds X.K fd ps []) (tk : Takes X (fun cls d _ H => E₀ cls d H)) (ha : PAXf X E₀ C (e :: es) ws) (hdb : (x == ("__debug__" : Str)) = false := by decide) (he : starEach (e :: es) X.env = (false, eval e X.env) :: starEach es X.env := by rfl) (hpl : (backTo pos (starEach es X.env)).any (·.1) = false := by rfl) :
    PEXf X E₀ C (.Call (.Name x p) (e :: es) [] pos) (xCallf F ws) := ⟨fun pins s σ H Q I ⟨dk, OB, H0, O, ρ, n, Qd, c, S, hw, k, z⟩ =>
  (pe_call (E := E₀) G hr hg hm hk hb .nil (passes_call tk fun _ _ _ _ h => h) ha hdb he hpl).run pins s σ H Q I ⟨dk, OB, H0, O, ρ, n, _, c, S, hw, fun vs ds H1 n1 f1 d1 r1 ⟨o, eo, q1, q2⟩ =>
    ⟨O, ds, o, (S.step f1 d1).car, by rw [List.append_nil]; exact r1, eo, fun d ed v H' f t r => k v d H' n1 (f1.trans f.up) (d1.tab f t) r (q1 d ed), fun fs en e H' f t k2 => z fs e H' n1 (q2 fs en) (f1.trans f.up) (d1.tab f t) k2⟩, z⟩⟩
end
end
def endXf (o : PyData ⊕ Fs) : EndsD := ⟨fun _ _ => o = .inl .none, fun x _ => o = .inl x, fun _ _ => False, fun _ _ => False⟩
theorem fn_okXf {P : Program} {w : World} {K : PySem.W.Frag} {mg : Str → Option Value} {base : Heap} {x qual : Str} {st : Stmt} {f A0 : Addr} {fd : FuncData} {N ps : List Str} {k : Nat} {Fd : List PyData → Option (PyData ⊕ Fs)} {W : SXf} (F : Fun K x qual st f fd) (S : FnScope N ps (defScope st))
    (hw : ∀ (cdv : Value) (A : Around) (outer : List Env) (s : Shared) (H : Hp) (E : XK), Room k (A.deeper (envOfC qual (defScope st) s.heap.objs.size f cdv)) → Takes (cxOf (L2.CX P w) P w K mg base N qual (defScope st) f cdv A outer s H E) (fun cls d _ H => E cls d H) →
      PSXsf (cxOf (L2.CX P w) P w K mg base N qual (defScope st) f cdv A outer s H E) E (.ref A0) (defBody st) W)
    (hF : ∀ ds o, Fd ds = some o → ds.length = ps.length ∧ W (startD N ds) 0 (endXf o) (fun fs _ => o = .inr fs)) : FnOk P w K mg base (L2.CX P w) (k + 1) f fd ps (spXf K (.ref A0) Fd) := by
  refine F.okX S (fun vs H Q E h => ?_) (fun cdv A outer s H vs Q E hr h => ?_)
  · obtain ⟨O, ds, o, _, r, e, _⟩ := h
    rw [r.len]
    exact (hF ds o e).1
  · obtain ⟨O, ds, o, dm, r, e, q1, q2⟩ := h
    refine ⟨_, hw cdv A outer s H E hr (takes_of rfl rfl rfl rfl), none, O, H, O, _, 0, endXf o, fun fs _ => o = .inr fs, str_start N dm r, (hF ds o e).2, ?_, fun fs e H' n' c f d k => q2 fs c e H' f d.2 k⟩
    exact ⟨fun O' H' σ' ρ' n' S' s' z => q1 .none z .non H' S'.fr S'.dok.2 .non, fun v d' H' n' f1 d1 r1 z => q1 d' z v H' f1 d1.2 r1, fun _ _ _ _ _ _ _ z => z.elim, fun _ _ _ _ _ _ _ z => z.elim⟩
def spIni (C : Addr) (x1 x2 : Str) : Sp := fun vs H Q _ => ∃ (a : Addr) (i j : Int), vs = [.ref a, .int i, .int j] ∧ H a = some (exo a C none) ∧
  ∀ dx, H dx = none → dx ≠ a → Q .non (upd (upd (upd H dx (exd dx [(x1, .int i)])) a (exo a C (some dx))) dx (exd dx [(x2, .int j), (x1, .int i)]))
def xRaiseF (x1 x2 : Str) (ws : AD) : SXf := fun ρ n _ c => ws ρ n fun xs n1 => ∃ i j : Int, xs = [.int i, .int j] ∧ c [(x2, j), (x1, i)] n1
theorem qf_raise {X : Cx} {E₀ : XK} {C fI : Addr} {x x1 x2 : Str} {e : Expr} {es : List Expr} {ws : AD} {p pos pos' : Pos} {k : Nat} {fd : FuncData} {ps : List Str} {CX : CXT} (hc : X.calm = true) (tk : Takes X (fun cls d _ H => E₀ cls d H)) (T : OexC X.K C) (iC : PySem.W.findIn X.K (.ref C) "__init__" = some (some (.ref fI))) (tI : PySem.W.typeIn X.K (.ref fI) = some (.type "function"))
    (F1 : FnOk X.prog X.w X.K X.mg X.base CX k fI fd ps (spIni C x1 x2)) (hr : Room (k + 1) X.A) (hb : Binds X.K fd ps []) (hx : Passes CX X (fun _ _ _ => False)) (hg : Gl X x) (hm : X.mg x = some (.ref C)) (ha : PDA X (e :: es) ws)
    (hdb : (x == ("__debug__" : Str)) = false := by decide) (he : starEach (e :: es) X.env = (false, eval e X.env) :: starEach es X.env := by rfl) (hpl : (backTo pos (starEach es X.env)).any (·.1) = false := by rfl) :
    PSXf X E₀ (.ref C) (.Raise (some (.Call (.Name x p) (e :: es) [] pos)) none pos') (xRaiseF x1 x2 ws) := ⟨fun pins s σ H D I ⟨dk, OB, H0, O, ρ, n, E, c, S, hw, k, z⟩ =>
  (ps_raise hc tk (pmk_oex (p := p) (pos := pos) T iC tI F1 hr hb .nil hx hg hm ha (hdb := hdb) (he := he) (hpl := hpl))).run pins s σ H D I (rda_W S hw fun vs ds H1 n1 f1 d1 r1 ⟨i, j, ed, hc⟩ => by
    subst ed
    cases r1 with
    | cons a b =>
    cases a
    cases b with
    | cons a b =>
    cases a
    cases b
    refine ⟨by show 2 ≤ 1000; decide, fun a na => ⟨a, i, j, rfl, upd_same, fun dx nd ne => ⟨rfl, dx, [(x2, .int j), (x1, .int i)], ?_, upd_same, ?_, ?_⟩⟩⟩
    · rw [upd_ne (Ne.symm ne)]
      exact upd_same
    · rw [upd_ne ne] at nd
      exact nd
    · rw [upd_ne ne] at nd
      have sm : Same H1 (upd (del (upd (upd (upd (upd H1 a (exo a C none)) dx (exd dx [(x1, .int i)])) a (exo a C (some dx))) dx (exd dx [(x2, .int j), (x1, .int i)])) a) dx (.xd [(x2, .int j), (x1, .int i)])) := fun b o e => by
        have ba : b ≠ a := fun c => by rw [c, na] at e; cases e
        have bd : b ≠ dx := fun c => by rw [c, nd] at e; cases e
        rw [upd_ne bd]
        unfold del
        rw [if_neg ba, upd_ne bd, upd_ne ba, upd_ne bd, upd_ne ba]
        exact e
      exact z _ dx _ n1 hc (S.fr.trans (f1.trans (FrD.of sm))) (d1.same sm) upd_same)⟩
def xExprf (e : EXDf) : SXf := fun ρ n E c => e ρ n (fun _ n1 => E.nx ρ n1) c
theorem qf_expr {X : Cx} {E₀ : XK} {C : Value} {e : Expr} {w : EXDf} {pos : Pos} (he : PEXf X E₀ C e w) (hs : swapsWith e none pos.line X.env = pure false := by rfl) : PSXf X E₀ C (.Expr e pos) (xExprf w) := ⟨fun pins s σ H D I ⟨_, _, _, _, _, _, _, _, S, hw, k, z⟩ =>
  (ps_expr he hs).run pins s σ H D I ⟨_, _, _, _, _, _, _, _, S, hw, fun v d H1 n1 f1 d1 r1 q1 => k.nx _ _ _ _ _ (S.step f1 d1) (S.hid f1) q1, z.from S.fr⟩⟩
structure ExCF (P : Program) (w : World) (K : PySem.W.Frag) (mg : Str → Option Value) (base : Heap) (x x1 x2 : Str) (C fI : Addr) (fd : FuncData) : Prop where
  g : mg x = some (.ref C)
  T : OexC K C
  i : PySem.W.findIn K (.ref C) "__init__" = some (some (.ref fI))
  t : PySem.W.typeIn K (.ref fI) = some (.type "function")
  f : FnOk P w K mg base (L2.CX P w) 1 fI fd ["self", x1, x2] (spIni C x1 x2)
  b : Binds K fd ["self", x1, x2] []
end My
namespace My
open PySem PySem.Spec PyProof.Rows L2
variable [TbC]
abbrev AXD := DEnv → Nat → (List PyData → Nat → Prop) → (Nat → Prop) → Prop
def ExOk (dk : Option DkI) (H0 : Hp) (E₀ : XK) (C : Value) (c : Nat → Prop) : Prop := ∀ H' n', c n' → FrD dk H0 H' → DkOk dk n' H' → E₀ C none H'
theorem ExOk.from {dk : Option DkI} {H0 H : Hp} {E₀ : XK} {C : Value} {c : Nat → Prop} (h : ExOk dk H0 E₀ C c) (f : FrD dk H0 H) : ExOk dk H E₀ C c := fun H' n' z g d => h H' n' z (f.trans g) d
section
variable {X : Cx} {E₀ : XK} {C : Value}
structure ExC0 (K : PySem.W.Frag) (mg : Str → Option Value) (x : Str) (C : Addr) : Prop where
  q : PySem.W.excIn K C [.type "ValueError", .type "Exception", .type "BaseException", .type "object"] "ValueError.__new__" = true
  g : mg x = some (.ref C)
  k : PySem.W.keepIn K (.ref C) = true
  s : PySem.W.subIn K (.ref C) (.type "BaseException") = some true
  t : PySem.W.typeIn K (.ref C) = some (.type "type")
  m : PySem.W.exmOne K (.ref C) (.ref C) = some true
end
omit [TbC]
end My
namespace My
open PySem PySem.Spec PyProof.Rows L2
abbrev SFXf := DEnv → Option (Fl ⊕ Fs)
abbrev EFXf := DEnv → Option (PyData ⊕ Fs)
abbrev AFXf := DEnv → Option (List PyData ⊕ Fs)
def IsSXf (w : SXf) (f : SFXf) : Prop := ∀ (ρ : DEnv) (n : Nat) (E : EndsD) (c : Fs → Nat → Prop) (r : Fl ⊕ Fs), f ρ = some r → (∀ l, r = .inl l → l.ends E n) → (∀ fs, r = .inr fs → c fs n) → w ρ n E c
def IsEXf (w : EXDf) (f : EFXf) : Prop := ∀ (ρ : DEnv) (n : Nat) (Q : PyData → Nat → Prop) (c : Fs → Nat → Prop) (r : PyData ⊕ Fs), f ρ = some r → (∀ d, r = .inl d → Q d n) → (∀ fs, r = .inr fs → c fs n) → w ρ n Q c
def IsAXf (w : AXDf) (f : AFXf) : Prop := ∀ (ρ : DEnv) (n : Nat) (Q : List PyData → Nat → Prop) (c : Fs → Nat → Prop) (r : (List PyData) ⊕ Fs), f ρ = some r → (∀ d, r = .inl d → Q d n) → (∀ fs, r = .inr fs → c fs n) → w ρ n Q c
def xxBf {α β : Type} (a : Option (α ⊕ Fs)) (f : α → Option (β ⊕ Fs)) : Option (β ⊕ Fs) := a.bind fun r => match r with
  | .inl x => f x
  | .inr fs => some (.inr fs)
theorem xxB_isf {α β : Type} {a : Option (α ⊕ Fs)} {f : α → Option (β ⊕ Fs)} {r : β ⊕ Fs} (h : xxBf a f = some r) : (∃ fs, a = some (.inr fs) ∧ r = .inr fs) ∨ ∃ x, a = some (.inl x) ∧ f x = some r := by
  unfold xxBf at h
  cases a with
  | none => cases h
  | some o =>
    cases o with
    | inr fs => cases h; exact .inl ⟨fs, rfl, rfl⟩
    | inl x => exact .inr ⟨x, rfl, h⟩
def xLiftf (f : SF) : SFXf := fun ρ => (f ρ).map .inl
theorem ixf_lift {w : SD} {f : SF} (h : IsS w f) : IsSXf (fun ρ n E _ => w ρ n E) (xLiftf f) := fun ρ n E c r e q _ => by
  obtain ⟨l, e1, rfl⟩ := map_is e
  exact h ρ n E l e1 (q l rfl)
def xLiftAf (f : AF) : AFXf := fun ρ => (f ρ).map .inl
theorem ixf_liftA {w : AD} {f : AF} (h : IsA w f) : IsAXf (fun ρ n Q _ => w ρ n Q) (xLiftAf f) := fun ρ n Q c r e q _ => by
  obtain ⟨d, e1, rfl⟩ := map_is e
  exact h ρ n Q d e1 (q d rfl)
def gxSeqf (a b : SFXf) : SFXf := fun ρ => xxBf (a ρ) fun l => match l with
  | .nx ρ' => b ρ'
  | .rt d => some (.inl (.rt d))
  | .bk ρ' => some (.inl (.bk ρ'))
  | .ct ρ' => some (.inl (.ct ρ'))
theorem ixf_seq {a b : SXf} {f g : SFXf} (h : IsSXf a f) (k : IsSXf b g) : IsSXf (xSeqf a b) (gxSeqf f g) := fun ρ n E c r e q z => by
  rcases xxB_isf e with ⟨fs, e1, rfl⟩ | ⟨l, e1, e2⟩
  · exact h ρ n _ c (.inr fs) e1 (fun _ h => nomatch h) fun fs q => z fs (congrArg Sum.inr (Sum.inr.inj q))
  · refine h ρ n _ c _ e1 (fun l' el => ?_) fun _ h => nomatch h
    cases el
    cases l with
    | nx ρ' => exact k ρ' n E c r e2 q z
    | rt d => cases e2; exact q _ rfl
    | bk ρ' => cases e2; exact q _ rfl
    | ct ρ' => cases e2; exact q _ rfl
def gxIff (t : TF) (a b : SFXf) : SFXf := fun ρ => (t ρ).bind fun x => if x = true then a ρ else b ρ
theorem ixf_if {c : TD} {a b : SXf} {t : TF} {f g : SFXf} (h0 : IsB c t) (h : IsSXf a f) (k : IsSXf b g) : IsSXf (xIff c a b) (gxIff t f g) := fun ρ n E x r e q z => by
  obtain ⟨b, e1, e2⟩ := bind_is e
  refine h0 ρ n _ b e1 ?_
  cases b with
  | true => exact (if_pos rfl).mpr (h ρ n E x r ((if_pos rfl).symm.trans e2) q z)
  | false => exact (if_neg Bool.false_ne_true).mpr (k ρ n E x r ((if_neg Bool.false_ne_true).symm.trans e2) q z)
def gxNilf : SFXf := fun ρ => some (.inl (.nx ρ))
theorem ixf_nil : IsSXf (fun ρ n E _ => E.nx ρ n) gxNilf := fun ρ n E c r e q _ => by
  cases e
  exact q _ rfl
def gxCallf (F : List PyData → Option (PyData ⊕ Fs)) (a : AFXf) : EFXf := fun ρ => xxBf (a ρ) F
theorem ixf_call {F : List PyData → Option (PyData ⊕ Fs)} {ws : AXDf} {g : AFXf} (k : IsAXf ws g) : IsEXf (xCallf F ws) (gxCallf F g) := fun ρ n Q c r e q z => by
  rcases xxB_isf e with ⟨fs, e1, rfl⟩ | ⟨l, e1, e2⟩
  · exact k ρ n _ c (.inr fs) e1 (fun _ h => nomatch h) fun fs q => z fs (congrArg Sum.inr (Sum.inr.inj q))
  · refine k ρ n _ c _ e1 (fun l' el => ?_) fun _ h => nomatch h
    cases el
    exact ⟨r, e2, q, z⟩
def fnXf (k N : Nat) (S : SFXf) : List PyData → Option (PyData ⊕ Fs) := fun ds => if ds.length = k then xxBf (S (envF N ds)) fun l => (outF l).map .inl else none
theorem fn_okXFf [TbC] {P : Program} {w : World} {K : PySem.W.Frag} {mg : Str → Option Value} {base : Heap} {x qual : Str} {st : Stmt} {f A0 : Addr} {fd : FuncData} {N ps : List Str} {k : Nat} {S : SFXf} {W : SXf} (a b : Nat) (F : Fun K x qual st f fd) (Sc : FnScope N ps (defScope st)) (ha : ps.length = a) (hb : N.length = b)
    (hw : ∀ (cdv : Value) (A : Around) (outer : List Env) (s : Shared) (H : Hp) (E : XK), Room k (A.deeper (envOfC qual (defScope st) s.heap.objs.size f cdv)) → Takes (cxOf (L2.CX P w) P w K mg base N qual (defScope st) f cdv A outer s H E) (fun cls d _ H => E cls d H) →
      PSXsf (cxOf (L2.CX P w) P w K mg base N qual (defScope st) f cdv A outer s H E) E (.ref A0) (defBody st) W)
    (hp : IsSXf W S) : FnOk P w K mg base (L2.CX P w) (k + 1) f fd ps (spXf K (.ref A0) (fnXf a b S)) := fn_okXf F Sc hw fun ds o e => by
  obtain ⟨l, e⟩ := ite_is e
  refine ⟨by rw [ha]; exact l, ?_⟩
  have en : startD N ds = envF b ds := by unfold startD envF; rw [hb]
  rw [en]
  rcases xxB_isf e with ⟨fs, e1, rfl⟩ | ⟨r, e1, e2⟩
  · exact hp _ 0 _ _ (.inr fs) e1 (fun _ h => nomatch h) fun fs q => congrArg Sum.inr (Sum.inr.inj q)
  · obtain ⟨d, e3, rfl⟩ := map_is e2
    refine hp _ 0 _ _ (.inl r) e1 (fun l' el => ?_) fun _ h => nomatch h
    cases el
    cases r with
    | nx ρ => cases e3; rfl
    | rt x => cases e3; rfl
    | bk ρ => cases e3
    | ct ρ => cases e3
def gfExpr (e : EFXf) : SFXf := fun ρ => xxBf (e ρ) fun _ => some (.inl (.nx ρ))
theorem ixf_expr {e : EXDf} {f : EFXf} (h : IsEXf e f) : IsSXf (xExprf e) (gfExpr f) := fun ρ n E c r e q z => by
  rcases xxB_isf e with ⟨fs, e1, rfl⟩ | ⟨l, e1, e2⟩
  · exact h ρ n _ c (.inr fs) e1 (fun _ h => nomatch h) fun fs q => z fs (congrArg Sum.inr (Sum.inr.inj q))
  · refine h ρ n _ c _ e1 (fun l' el => ?_) fun _ h => nomatch h
    cases el
    cases e2
    exact q _ rfl
def gfRaise (x1 x2 : Str) (a : AF) : SFXf := fun ρ => (a ρ).bind fun xs => match xs with
  | [.int i, .int j] => some (.inr [(x2, j), (x1, i)])
  | _ => none
theorem ixf_raise {x1 x2 : Str} {ws : AD} {g : AF} (k : IsA ws g) : IsSXf (xRaiseF x1 x2 ws) (gfRaise x1 x2 g) := fun ρ n E c r e _ z => by
  obtain ⟨xs, e1, e2⟩ := bind_is e
  split at e2
  · rename_i i j
    cases e2
    exact k ρ n _ _ e1 ⟨i, j, rfl, z _ rfl⟩
  · cases e2
def xFor1f (g : GD) (b : SXf) : List PyData → SXf
  | [] => fun ρ n E _ => E.nx ρ n
  | x :: xs => fun ρ n E c => ∃ ρ', g x ρ = some ρ' ∧ b ρ' n { E with nx := fun ρ2 n2 => xFor1f g b xs ρ2 n2 E c, ct := fun ρ2 n2 => xFor1f g b xs ρ2 n2 E c, bk := E.nx } c
def xForf (it : AD) (g : GD) (b : SXf) : SXf := fun ρ n E c => it ρ n fun xs n1 => xFor1f g b xs ρ n1 E c
theorem qf_for [TbC] {X : Cx} {E₀ : XK} {C : Value} {tg iter : Expr} {body : List Stmt} {it : AD} {g : GD} {vs : List Nat} {b : SXf} {pos : Pos} (hp : PassesOwn (model X.prog X.w) X.A X.env X.xe) (hc : X.calm = true) (hi : PDI X tg iter it) (hg : PDG X tg vs g) (hb : PSXsf X E₀ C body b)
    (hs : ∀ x, foldedSetIterable iter X.env x = pure x := by intro _; rfl) : PSXf X E₀ C (.For tg iter body [] pos) (xForf it g b) := ⟨fun pins s σ H D I ⟨dk, OB, H0, O, ρ, n, E, c, S, hw, k, z⟩ => (ps_for hp hc hi hg hb hs).run pins s σ H D I (by
  refine ⟨dk, OB, H0, O, ρ, n, _, S, hw, fun J H1 n1 xs f1 d1 io q1 => ?_⟩
  have k1 := k.mono (S.hid f1)
  let Wt : Nat → L2.St → Hp → Prop := fun i σ2 H2 => ∃ O2 ρ2 n2, StR X.K dk OB H0 O2 H2 σ2 ρ2 n2 ∧ Same (hid O H1) (hid O2 H2) ∧ xFor1f g b (xs.drop i) ρ2 n2 E c
  refine ⟨fun i m σ2 H2 => m = xs.length - i ∧ i ≤ xs.length ∧ Wt i σ2 H2, ⟨xs.length, by simp, Nat.zero_le _, O, ρ, n1, S.step f1 d1, Same.refl _, q1⟩, ?_⟩
  rintro i m σ2 H2 ⟨rfl, hi, O2, ρ2, n2, S2, s2, q2⟩
  have itr := io i O2 H2 s2 S2.dom
  by_cases hlt : i < xs.length
  · obtain ⟨go, yl⟩ := itr.1 hlt
    refine .inr ⟨go, Wt (i + 1), fun σ' H' w => ⟨xs.length - (i + 1), by omega, rfl, hlt, w⟩, fun x H3 y => ?_⟩
    obtain ⟨d, ed, s3, rx⟩ := yl x H3 y
    have ex : xs.drop i = d :: xs.drop (i + 1) := by
      rw [List.drop_eq_getElem_cons hlt]
      congr 1
      rw [List.getElem?_eq_getElem hlt] at ed
      exact Option.some.inj ed
    rw [ex] at q2
    obtain ⟨ρ', eg, q3⟩ := q2
    have S3 := S2.step (FrD.of s3) (S2.dok.same s3)
    have s23 := hid_same (O := O2) s3
    refine ⟨dk, OB, H0, O2, ρ2, n2, d, ρ', S3, rx, eg, fun σ4 b4 S4 => ⟨dk, OB, H0, O2, ρ', n2, _, c, S4, q3, ⟨?_, k.rt, ?_, ?_⟩, z⟩⟩
    · exact fun O' H' σ' ρ'' n' S' s' q => ⟨O', ρ'', n', S', (s2.trans s23).trans s', q⟩
    · exact fun O' H' σ' ρ'' n' S' s' q => k1.nx O' H' σ' ρ'' n' S' ((s2.trans s23).trans s') q
    · exact fun O' H' σ' ρ'' n' S' s' q => ⟨O', ρ'', n', S', (s2.trans s23).trans s', q⟩
  · have e : i = xs.length := by omega
    subst e
    rw [List.drop_length] at q2
    exact .inl ⟨itr.2 (Nat.le_refl _), k1.nx O2 H2 σ2 ρ2 n2 S2 s2 q2⟩)⟩
def forFf (g : GD) (b : SFXf) : List PyData → SFXf
  | [] => fun ρ => some (.inl (.nx ρ))
  | x :: xs => fun ρ => (g x ρ).bind fun ρ1 => xxBf (b ρ1) fun r => match r with
    | .nx ρ2 => forFf g b xs ρ2
    | .ct ρ2 => forFf g b xs ρ2
    | .bk ρ2 => some (.inl (.nx ρ2))
    | .rt d => some (.inl (.rt d))
theorem ixf_for1 {g : GD} {b : SXf} {f : SFXf} (h : IsSXf b f) : ∀ xs : List PyData, IsSXf (xFor1f g b xs) (forFf g f xs)
  | [] => fun ρ n E c r e q z => by
    cases e
    exact q _ rfl
  | x :: xs => fun ρ n E c r e q z => by
    obtain ⟨ρ1, e1, e⟩ := bind_is e
    refine ⟨ρ1, e1, ?_⟩
    rcases xxB_isf e with ⟨fs, e2, rfl⟩ | ⟨l, e2, e3⟩
    · exact h ρ1 n _ c (.inr fs) e2 (fun _ h => nomatch h) fun fs q => z fs (congrArg Sum.inr (Sum.inr.inj q))
    · refine h ρ1 n _ c _ e2 (fun l' el => ?_) fun _ h => nomatch h
      cases el
      cases l with
      | nx ρ2 => exact ixf_for1 h xs ρ2 n E c r e3 q z
      | ct ρ2 => exact ixf_for1 h xs ρ2 n E c r e3 q z
      | bk ρ2 => cases e3; exact q _ rfl
      | rt d => cases e3; exact q _ rfl
def gfFor (it : AF) (g : GD) (b : SFXf) : SFXf := fun ρ => (it ρ).bind fun xs => forFf g b xs ρ
theorem ixf_for {it : AD} {g : GD} {b : SXf} {itf : AF} {f : SFXf} (hi : IsA it itf) (h : IsSXf b f) : IsSXf (xForf it g b) (gfFor itf g f) := fun ρ n E c r e q z => by
  obtain ⟨xs, e1, e2⟩ := bind_is e
  exact hi ρ n _ xs e1 (ixf_for1 h xs ρ n E c r e2 q z)
end My
namespace My
open PySem PySem.Spec PyProof.Rows L2
structure ExTo (K : PySem.W.Frag) (mg : Str → Option Value) (y : Str) (B C : Addr) : Prop where
  g : mg y = some (.ref B)
  x : PySem.W.exmOne K (.ref C) (.ref B) = some true
  c : PySem.W.kitOne K (.ref C) (.ref C) = some true
  v : PySem.W.kitOne K (.ref C) (.type "ValueError") = some true
  e : ExcC K C
variable [TbC]
end My
namespace My
open PySem PySem.Spec PyProof.Rows L2
structure ExTf (K : PySem.W.Frag) (mg : Str → Option Value) (y x1 x2 : Str) (B C : Addr) : Prop where
  g : mg y = some (.ref B)
  x : PySem.W.exmOne K (.ref C) (.ref B) = some true
  c : PySem.W.kitOne K (.ref C) (.ref C) = some true
  v : PySem.W.kitOne K (.ref C) (.type "ValueError") = some true
  e : ExcC K C
  f : XfC K C
  n1 : PySem.W.findIn K (.ref C) x1 = some none
  n2 : PySem.W.findIn K (.ref C) x2 = some none
theorem kitx_f {K : PySem.W.Frag} {x D : Addr} {ox : Obj} {od : Option Obj} (C : ExcC K D) : PySem.W.KitX K (.ref x) (.ref D) (fun h => PySem.W.InstAt h x ox D od) :=
  PySem.W.kitx_exc (by obtain ⟨cd, hc, _⟩ := PySem.W.any_some C.hd; rw [hc]; rfl) C.hg C.hk C.hs C.ha C.hn C.ht C.hm
def rIsEf (K : PySem.W.Frag) (D a dd : Addr) : List V → Hp → VK → Prop := fun xs H Q => ∃ (c : V) (cv : Value) (b : Bool) (fs : List (Str × V)), xs = [.ref a, c] ∧ (∀ u, RelV c u → u = cv) ∧ PySem.W.kitOne K (.ref D) cv = some b ∧ H dd = some (.xd fs) ∧ Q (.bl b) H
theorem call_isEf {X : Cx} {a D dd : Addr} {oe : Obj} {pn : List (Addr × Obj)} (C : ExcC X.K D) (hz : Zc (.ref D) (some dd) oe) (hf : ∃ vs, oe.data = .fields vs) : CallR (X.suite a ((a, oe) :: pn)) (.builtin "isinstance") (rIsEf X.K D a dd) := by
  intro pins s σ H xs us Q I r h
  obtain ⟨c, cv, b, fs, rfl, hcv, e, hd, q⟩ := h
  cases r with
  | cons rx rr =>
    cases rr with
    | cons rt rr =>
      cases rr
      cases rx
      have ec := hcv _ rt
      subst ec
      obtain ⟨hget, _⟩ := I.pin (a, oe) (List.mem_append.mpr (.inl List.mem_cons_self))
      obtain ⟨vs, hv⟩ := hf
      have hx : ObjOk X.prog X.w H s.heap dd (.xd fs) := I.hok dd _ hd
      obtain ⟨mA, hns, hr⟩ := hx
      obtain ⟨od, ho, hl⟩ := lookIn_ns hns
      have J : PySem.W.InstAt s.heap a oe D (some od) := ⟨hget, hz.1, by unfold PySem.W.notCls; rw [hv] <;> rfl, by rw [hz.2]; exact ho⟩
      exact PySem.W.kia_one (kitx_f C) I.kIn J e (fun z => nomatch z) fun tk => ⟨.bl b, H, I.kept (t' := tk) fun _ _ z => z, rfl, q⟩
section
variable {X : Cx} {a D dd : Addr} {oe : Obj} {pn : List (Addr × Obj)} {i : Nat}
def tEf (i : Nat) (a dd : Addr) (b : Bool) : TE := fun σ H Q => σ[i]? = some (some (.ref a)) ∧ (∃ fs, H dd = some (.xd fs)) ∧ Q (.bl b) H
def tEft (i : Nat) (a dd : Addr) (b : Bool) : TT := fun σ H Q => σ[i]? = some (some (.ref a)) ∧ (∃ fs, H dd = some (.xd fs)) ∧ Q b H
theorem pe_isEf {n x : Str} {c : V} {cv : Value} {b : Bool} {p pn' px pos : Pos} (C : ExcC X.K D) (hz : Zc (.ref D) (some dd) oe) (hf : ∃ vs, oe.data = .fields vs) (hg : Gl X "isinstance") (hm : X.mg "isinstance" = none) (hN : X.N[i]? = some n) (hv : Vis X.env.scope n)
    (hc : PE (X.suite a ((a, oe) :: pn)) (.Name x px) (tC c)) (rc : ∀ u, RelV c u → u = cv) (ek : PySem.W.kitOne X.K (.ref D) cv = some b) (hd : (n == ("__debug__" : Str)) = false := by decide) (hcd : (n == ("__classdict__" : Str)) = false := by decide) :
    PE (X.suite a ((a, oe) :: pn)) (.Call (.Name "isinstance" p) [.Name n pn', .Name x px] [] pos) (tEf i a dd b) := by
  have h := pe_callB (X := X.suite a ((a, oe) :: pn)) (p := p) (pos := pos) (call_isEf (dd := dd) C hz hf) hg hm PyProof.Rows.boot_isinstance (pa_cons (pe_var (pos := pn') hN hv hd hcd) (pa_cons hc pa_nil rfl) rfl) (he := rfl) (hpl := rfl)
  exact ⟨fun pins s σ H Q I ⟨e, ⟨fs, ed⟩, q⟩ => h.run pins s σ H Q I ⟨.ref a, e, c, cv, b, fs, rfl, rc, ek, ed, q⟩⟩
theorem pt_isEf {e : Expr} {b : Bool} (h : PE X e (tEf i a dd b)) (he : ∀ whole, isTrue e X.env whole = (do let v ← whole; standAt e.pos; holding [v] (truthy v)) := by intro _; rfl) : PT X e (tEft i a dd b) :=
  ⟨fun pins s σ H Q I ⟨e1, e2, q⟩ => (pt_val h he).run pins s σ H Q I ⟨e1, e2, b, rfl, q⟩⟩
theorem pt_notEf {e : Expr} {b : Bool} {pos : Pos} (h : PT X e (tEft i a dd b)) : PT X (.UnaryOp .Not e pos) (tEft i a dd (!b)) :=
  ⟨fun pins s σ H Q I ⟨e1, e2, q⟩ => (pt_not h).run pins s σ H Q I ⟨e1, e2, q⟩⟩
theorem pw_orEf1 {e : Expr} {b : Bool} {pos : Pos} (h : PT X e (tEft i a dd b)) : PW X (.BoolOp .Or [e] pos) (tEft i a dd b) := pw_or1 h
theorem pw_orEf {e f : Expr} {rest : List Expr} {b c : Bool} {pos : Pos} (h : PT X e (tEft i a dd b)) (k : PW X (.BoolOp .Or (f :: rest) pos) (tEft i a dd c)) : PW X (.BoolOp .Or (e :: f :: rest) pos) (tEft i a dd (b || c)) :=
  ⟨fun wh pins s σ H Q I ⟨e1, e2, q⟩ => (pw_or h k).run wh pins s σ H Q I ⟨e1, e2, by
    cases b with
    | true => exact q
    | false => exact ⟨e1, e2, q⟩⟩⟩
end
theorem fsV_lookup {x : Str} {i : Int} : ∀ {fs : Fs}, fs.lookup x = some i → (fsV fs).lookup x = some (.int i)
  | [], h => by cases h
  | (y, j) :: fs, h => by
    unfold fsV
    rw [List.map_cons]
    rw [List.lookup_cons] at h ⊢
    dsimp only
    cases e : x == y with
    | true => rw [e] at h; cases h; rfl
    | false => rw [e] at h; exact fsV_lookup h
variable [TbC]
section
variable {X : Cx} {E₀ : XK} {C : Value}
def xTupf (ws : AXDf) : EXDf := fun ρ n Qd c => ws ρ n (fun xs n1 => xs.length ≤ lim ∧ Qd (.tuple xs) n1) c
theorem qf_tup {es : List Expr} {x1 pos} {ws : AXDf} (h : PAXf X E₀ C es ws) : PEXf X E₀ C (.Tuple es x1 pos) (xTupf ws) := ⟨fun pins s σ H Q I ⟨dk, OB, H0, O, ρ, n, Qd, c, S, hw, k, z⟩ =>
  (pe_tupK h).run pins s σ H Q I ⟨dk, OB, H0, O, ρ, n, _, c, S, hw, fun vs ds H1 n1 f1 d1 r1 ⟨l, q⟩ => ⟨by rw [r1.len]; exact Nat.le_trans l lim_le, fun p o np kt => by
    obtain ⟨a, b, c, e⟩ := new_rp (S.step f1 d1) (o := o) np
    exact k _ _ _ n1 (f1.trans c) e (.tup (kt.rd a) (RpAll.same b _ _ r1) fun _ => kt.pl a) q⟩, z⟩⟩
theorem qfa_nil : PAXf X E₀ C [] (fun ρ n Qd _ => Qd [] n) := qfa_lift qda_nil
end
def sTryF (s t x1 x2 : Str) (F : List PyData → Option (PyData ⊕ Fs)) (ws : AD) : SD := fun ρ n E => ws ρ n fun xs n1 => ∃ o, F xs = some o ∧ (∀ d, o = .inl d → ([.str s, d] : List PyData).length ≤ lim ∧ E.rt (.tuple [.str s, d]) n1) ∧ (∀ fs, o = .inr fs → ∃ i j, fs.lookup x1 = some i ∧ fs.lookup x2 = some j ∧ E.rt (.tuple [.str t, .tuple [.int i, .int j]]) n1)
theorem qs_tryF {X : Cx} {k i : Nat} {f A B : Addr} {fd : FuncData} {ps : List Str} {x y m x1 x2 : Str} {e ht : Expr} {bs : List Stmt} {es : List Expr} {ws : AD} {p pos np pos' rp rp' tp p1 p2 p4 p5 p6 p7 p8 c1 c2 ip : Pos} {j1 j2 k1 k2 k3 : Nat} {s t : Str} {F : List PyData → Option (PyData ⊕ Fs)} {tb1 : TS}
    (hs : X.stack = X.env :: X.outer) (hf : X.env.frame = some X.env.locals) (hN : X.N.Nodup) (hi : X.N[i]? = some m) (hln : X.env.kindOf m = some .local) (T : ExTf X.K X.mg y x1 x2 B A) (hc : Names X y (.ref B))
    (G : FnOk X.prog X.w X.K X.mg X.base (L2.CX X.prog X.w) k f fd ps (spXf X.K (.ref A) F)) (hr : Room k X.A) (hg : Gl X x) (hm : X.mg x = some (.ref f))
    (hk : PySem.W.keepIn X.K (.ref f) = true) (hb : Binds X.K fd ps []) (ha : ∀ (pn : List (Addr × Obj)) (xe : Value → Shared → Prop), PDA (X.tr pn xe) (e :: es) ws)
    (hh : ∀ (a dd : Addr) (oe : Obj) (pn : List (Addr × Obj)), Zc (.ref A) (some dd) oe → (∃ vs, oe.data = .fields vs) → PT (X.suite a ((a, oe) :: pn)) ht (tEft i a dd false))
    (hbs : ∀ (a : Addr) (oe : Obj) (pn : List (Addr × Obj)), PSs (X.suite a ((a, oe) :: pn)) bs tb1)
    (hvm : Vis X.env.scope m) (hdb : (x == ("__debug__" : Str)) = false := by decide) (hdm : (m == ("__debug__" : Str)) = false := by decide) (hcm : (m == ("__classdict__" : Str)) = false := by decide) (he : starEach (e :: es) X.env = (false, eval e X.env) :: starEach es X.env := by rfl) (hpl : (backTo pos (starEach es X.env)).any (·.1) = false := by rfl)
    (hb1 : attributeBase (.Name m p5) x1 X.env (eval (.Name m p5) X.env) = eval (.Name m p5) X.env := by rfl) (hb2 : attributeBase (.Name m p7) x2 X.env (eval (.Name m p7) X.env) = eval (.Name m p7) X.env := by rfl) :
    PSD X (.Try [.Return (some (.Tuple [.Constant (.str s) j1 c1, .Call (.Name x p) (e :: es) [] pos] k1 p1)) rp] [.ExceptHandler (some (.Name y np)) (some m) [.If ht bs [] ip, .Return (some (.Tuple [.Constant (.str t) j2 c2, .Tuple [.Attribute (.Name m p5) x1 p6, .Attribute (.Name m p7) x2 p8] k3 p4] k2 p2)) rp'] pos'] [] [] tp) (sTryF s t x1 x2 F ws) := by
  have h := ps_try_as (X := X) (x := y) (n := m) (i := i) (c := .ref B) (Wout := fun _ _ _ _ => False) (body := [.Return (some (.Tuple [.Constant (.str s) j1 c1, .Call (.Name x p) (e :: es) [] pos] k1 p1)) rp]) (b₀ := .If ht bs [] ip) (suite := [.Return (some (.Tuple [.Constant (.str t) j2 c2, .Tuple [.Attribute (.Name m p5) x1 p6, .Attribute (.Name m p7) x2 p8] k3 p4] k2 p2)) rp']) (np := np) (pos' := pos') (pos := tp)
    (tb := fun W => tWSXf X.K (fun cls d H => ∀ σ, W cls d σ H) (.ref A) (xRetf (xTupf (axCf (fun ρ n Q _ => eC (.str s) ρ n Q) (axCf (xCallf F fun ρ n Qd _ => ws ρ n Qd) (fun ρ n Qd _ => Qd [] n))))))
    (ts := fun a cls d D σ H => ∃ (dd : Addr) (fs : List (Str × V)) (v1 v2 : V), cls = .ref A ∧ d = some dd ∧ H dd = some (.xd fs) ∧ fs.lookup x1 = some v1 ∧ fs.lookup x2 = some v2 ∧ (i < σ.length → σ[i]? = some (some (.ref a))) ∧ ∀ (p : Addr) (o : HO), H p = none → KTup p [v1, v2] o → ∀ (q : Addr) (o2 : HO), upd H p o q = none → KTup q [.str t, .ref p] o2 → D.rt (.ref q) (upd (upd H p o) q o2))
    hs hf hN hi hln hc takes_none5
    (fun W pn xe tk po => qf_one (X := X.tr pn xe) (qf_ret (qf_tup (qfa_cons (qf_liftE qd_str) (qfa_cons (qf_call (X := X.tr pn xe) G hr hg hm hk hb (tk.imp fun _ _ _ _ h => h _) (qfa_lift (ha pn xe)) hdb he hpl) qfa_nil rfl) rfl))))
    (fun a oe cls d pn hz hv => ⟨fun pins s σ H D I ⟨dd, fs, v1, v2, e1, e2, e3, l1, l2, e4, q⟩ => by
      subst e1 e2
      have li : i < σ.length := by
        have z : σ.length = X.N.length := I.len
        have z2 : i < X.N.length := (List.getElem?_eq_some_iff.mp hi).1
        omega
      have s1 := e4 li
      refine (pss_cons (ps_if (hh a dd oe pn hz hv) (hbs a oe pn) pss_nil) (pss_one (ps_ret (pe_tupK (pa_cons pe_str (pa_cons (pe_tupK (pa_cons (pe_xf T.f T.n1 hz hv (pe_var (X := X.suite a ((a, oe) :: pn)) hi hvm hdm hcm) hb1) (pa_cons (pe_xf T.f T.n2 hz hv (pe_var (X := X.suite a ((a, oe) :: pn)) hi hvm hdm hcm) hb2) pa_nil rfl) rfl)) pa_nil rfl) rfl))))).run pins s σ H D I ⟨s1, ⟨fs, e3⟩, ?_⟩
      refine (if_neg Bool.false_ne_true).mpr ?_
      refine ⟨.ref a, s1, rfl, rfl, dd, fs, v1, rfl, e3, l1, .ref a, s1, rfl, rfl, dd, fs, v2, rfl, e3, l2, (show 2 ≤ sizeLine by decide), fun p o np kt => ⟨(show 2 ≤ sizeLine by decide), q p o np kt⟩⟩⟩)
  exact ⟨fun pins s0 σ H D I ⟨dk, OB, H0, O, ρ, n, E, S, hw, k⟩ => h.run pins s0 σ H D I ⟨dk, OB, H0, O, ρ, n, E, fun fs n' => ∃ i j, fs.lookup x1 = some i ∧ fs.lookup x2 = some j ∧ E.rt (.tuple [.str t, .tuple [.int i, .int j]]) n', S, hw, k, fun fs dx H' n' ⟨i1, j1, g1, g2, c⟩ f d hx σ' => ⟨true, T.x, fun _ a ha => by
    refine ⟨dx, fsV fs, .int i1, .int j1, rfl, rfl, hx, fsV_lookup g1, fsV_lookup g2, fun l => by rw [List.getElem?_set_self (by rw [List.length_set] at l; exact l)], fun p o np kt q o2 nq kt2 => ?_⟩
    have dO : ∀ H'' n'', FrD dk H0 H'' → DkOk dk n'' H'' → Dom OB H'' := fun H'' n'' f d b hb => by
      by_cases c : dkA dk b
      · exact d.domT c
      · obtain ⟨o, e, nt⟩ := S.od b hb
        exact ⟨o, f b o c e, nt⟩
    have f1 := f.trans (FrD.of (same_new (o := o) np))
    have d1 := d.same (same_new (o := o) np)
    have D0 := dO _ _ f d
    have D1 := dO _ _ f1 d1
    have r1 : Rp X.K (hid OB (upd H' p o)) (.ref p) (.tuple [.int i1, .int j1]) := .tup (kt.rd (hid_new D0 np)) (.cons (.int _) (.cons (.int _) .nil)) fun _ => kt.pl (hid_new D0 np)
    have r2 : Rp X.K (hid OB (upd (upd H' p o) q o2)) (.ref q) (.tuple [.str t, .tuple [.int i1, .int j1]]) := .tup (kt2.rd (hid_new D1 nq)) (.cons (.str t) (.cons (Rp.same (hid_same (same_new nq)) _ _ r1) .nil)) fun _ => kt2.pl (hid_new D1 nq)
    exact k.rt (.ref q) _ _ n' (f1.trans (FrD.of (same_new nq))) (d1.same (same_new nq)) r2 c, nofun⟩⟩⟩
def fTryF (s t x1 x2 : Str) (F : List PyData → Option (PyData ⊕ Fs)) (a : AF) : SF := fun ρ => (a ρ).bind fun xs => (F xs).bind fun o => match o with
  | .inl d => some (.rt (.tuple [.str s, d]))
  | .inr fs => (fs.lookup x1).bind fun i => (fs.lookup x2).map fun j => .rt (.tuple [.str t, .tuple [.int i, .int j]])
omit [TbC] in
theorem is_tryF {s t x1 x2 : Str} {F : List PyData → Option (PyData ⊕ Fs)} {ws : AD} {g : AF} (k : IsA ws g) : IsS (sTryF s t x1 x2 F ws) (fTryF s t x1 x2 F g) := fun ρ n E r e q => by
  obtain ⟨xs, e1, e2⟩ := bind_is e
  obtain ⟨o, e3, e4⟩ := bind_is e2
  refine k ρ n _ xs e1 ⟨o, e3, fun d ed => ⟨by show 2 ≤ lim; decide, ?_⟩, fun fs en => ?_⟩
  · subst ed
    cases e4
    exact q
  · subst en
    obtain ⟨i, g1, e5⟩ := bind_is e4
    obtain ⟨j, g2, rfl⟩ := map_is e5
    exact ⟨i, j, g1, g2, q⟩
end My
namespace PySem.SeqAt
open AutoSeq1 (wpAny_loadPart')
open MeetsSeq MeetsSeq2 MeetsSeq3 SeqRoads2
end PySem.SeqAt
namespace My
open PySem PySem.Spec PyProof.Rows L2
variable [TbC]
def strI : List PyData → Option PyData
  | [.int i] => if i.natAbs.log2 < 1920 then some (.str (toString i)) else none
  | _ => none
omit [TbC] in
theorem pu_strI {K : PySem.W.Frag} : PuN K (fun xs H Q => ∃ i : Int, xs = [.int i] ∧ i.natAbs.log2 < 1920 ∧ Q (.str (toString i)) H) strI := by
  intro O H xs ds dz Q dm r e k
  match ds, e with
  | [.int i], e =>
    obtain ⟨c, e⟩ := ite_is e
    cases e
    obtain ⟨v, rfl, r1⟩ := rps1 r
    cases r1
    exact ⟨i, rfl, c, k _ H (Same.refl H) (.str _)⟩
end My
namespace My
open PySem PySem.Spec PyProof.Rows L2
theorem walk_gw {l : PySem.W.OpenLaw} {k : Nat} {q : Program} {loose : List Str} {XP : (Str → Option Value) → Heap → Prop} {YP : World → Heap → Prop} {d : DefRec} {K : Params → PySem.W.Frag} {sp : World → PySem.W.Frag → Sp} {x : Str}
    (hn : l.most = some 63) (hdf : d.params.defaults = []) (hr : Room k callerA) (hY : ∀ (w : World) (h : Heap), YP w h → (K w.params).In h)
    (F : ∀ (w : World) (mg : Str → Option Value) (fa : Addr) (h : Heap), (K w.params).In h → h.Ns mainGlobals mg → mg d.name = some (.ref fa) →
      ∃ fd : FuncData, (∀ (s : Shared) (u : Value), BindsTo s fd ⟨[u], []⟩ [(x, u)]) ∧ ∀ base : Heap, (K w.params).In base → base.Ns mainGlobals mg → RunG l.prog w (K w.params) mg base k fa fd [x] (sp w (K w.params)))
    (hsp : ∀ (w : World) (K : PySem.W.Frag) (H : Hp) (a : Addr) (ns : List Int), ns.length ≤ 63 → SqL K H a (ns.map V.int) → sp w K [.ref a] H (fun v _ => v = .bl true) fun _ _ _ => False) :
    PySem.W.WalkO q loose XP YP l.row.toRowW d [] (fun f vs => PySem.call f vs) := by
  refine Att.attach_call hn hdf fun w s₀ s₁ mg mb fa o pm cd doc a vs ns G Y ho hd hcd hmg hobj hints hlen hg => ?_
  obtain ⟨fd, hb, hF⟩ := F w mg fa _ (hY w _ Y) G.T.g hmg
  exact law_at (hY w _ Y) G.T.g G.T.b G.T.builtins G.T.nolimit hg hobj hints (by rw [sizeLine_eq]; omega) hr hF hb fun H hO hS => hsp w _ H a ns hlen hS
end My
namespace My
open PySem PySem.Spec PyProof.Rows L2
open TL (tl len_tl tl_append)
def digs : List Nat := [48, 49, 50, 51, 52, 53, 54, 55, 56, 57]
def isUnk (x : Str) : Bool := decide ((tl x).head? = some 63) && (decide (1 ≤ ((tl x).drop 1).length) && decide (((tl x).drop 1).length ≤ 5)) && !decide (((tl x).drop 1).head? = some 48) && ((tl x).drop 1).all fun c => decide (c ∈ digs)
theorem starts_one (x : Str) (c : Nat) : Txt.startswith x ⟨#[c]⟩ = decide ((tl x).head? = some c) := by
  have h := StrLaws.subAt_one x c 0
  have e : (tl x).head? = x.cps.toList[0]? := List.head?_eq_getElem?
  unfold Txt.startswith
  rw [Bool.eq_iff_iff, Bool.and_eq_true, decide_eq_true_eq, decide_eq_true_eq, h, e]
def letS : List Nat := (List.range 26).map (· + 97)
theorem let_is : ("abcdefghijklmnopqrstuvwxyz" : Str).cps.toList = letS := by decide +kernel
def fst (x : Str) : Nat := x.cps.getD 0 0
def opn (x : Str) : Bool := !decide (fst x ∈ letS)
def nmd (x : Str) : Bool := decide (fst x = 63)
def Txt1 (x : Str) : Prop := 1 ≤ x.length ∧ x.length ≤ 100
def OkF (f : List Str) : Prop := 1 ≤ f.length ∧ f.length ≤ 10 ∧ ∀ x ∈ f, Txt1 x
def OkL (L : List (List Str)) : Prop := L.length ≤ 100 ∧ ∀ f ∈ L, OkF f
theorem ixD_0 {x : Str} (h : Txt1 x) : ixD (.str x) (.int 0) = some (.str ⟨#[fst x]⟩) := by
  have e : ixD (.str x) (.int 0) = if x.length ≤ lim then (atI x.cps.toList 0).map fun c => .str ⟨#[c]⟩ else none := rfl
  rw [e, if_pos (Nat.le_trans h.2 (by decide))]
  obtain ⟨a⟩ := x
  obtain ⟨l⟩ := a
  cases l with
  | nil => exact absurd h.1 (by decide)
  | cons c r =>
    have z : atI (c :: r) (0 : Int) = some c := atI_nat (j := 0) rfl
    show (atI (c :: r) (0 : Int)).map _ = _
    rw [z]
    rfl
theorem sl1 (xs : List PyData) : slD (.tuple xs) (some 1) none = some (.tuple (xs.drop 1)) := by rw [slD_tup, cut_drop1]
theorem bT_drop (f : List Str) : (f.map PyData.str).drop 1 = (f.drop 1).map PyData.str := (List.map_drop ..).symm
def touchB (g : List (List Str)) (f : List Str) : Bool := g.any fun row => (f.drop 1).any fun p => opn p && decide (p ∈ row)
def lsD (L : List (List Str)) : PyData := .list (L.map bT')
def unkL (L : List (List Str)) : List Str := L.flatMap fun f => (f.drop 1).filter isUnk
def uns (L : List (List Str)) : List Str := sortU ltS (ddU (unkL L))
def uD (L : List (List Str)) : PyData := .tuple ((uns L).map bS)
theorem dd_snoc {α : Type} [DecidableEq α] (l : List α) (k : α) : ddU (l ++ [k]) = addU (ddU l) k := by
  unfold ddU
  rw [List.foldl_append]
  rfl
def nmL (L : List (List Str)) : List Str := L.flatMap fun f => (f.drop 1).filter nmd
def nms (L : List (List Str)) : List Str := sortU ltS (ddU (nmL L))
def nD (L : List (List Str)) : PyData := .tuple ((nms L).map bS)
def addK (gs : List (List (List Str))) (f : List Str) : List (List (List Str)) := (gs.filter fun g => !touchB g f) ++ [(gs.filter fun g => touchB g f).flatten ++ [f]]
def knotsL (L : List (List Str)) : List (List (List Str)) := L.foldl addK []
theorem snoc_ind {α : Type} {p : List α → Prop} (h0 : p []) (h1 : ∀ l x, p l → p (l ++ [x])) (l : List α) : p l := by
  have h : ∀ r : List α, p r.reverse := fun r => by
    induction r with
    | nil => exact h0
    | cons x r ih =>
      rw [List.reverse_cons]
      exact h1 _ _ ih
  have z := h l.reverse
  rwa [List.reverse_reverse] at z
end My
namespace My
open PySem PySem.Spec PyProof.Rows L2
open TL (tl len_tl tl_append)
def Sml (L : List (List Str)) : Prop := L.length ≤ 10 ∧ ∀ f ∈ L, OkF f ∧ f.length ≤ 5
theorem Sml.ok {L : List (List Str)} (h : Sml L) : OkL L := ⟨by have := h.1; omega, fun f hf => (h.2 f hf).1⟩
theorem ddU_le {α : Type} [DecidableEq α] (l : List α) : (ddU l).length ≤ l.length := snoc_ind (p := fun l => (ddU l).length ≤ l.length) (Nat.le_refl _) (fun l x ih => by
  show (ddU (l ++ [x])).length ≤ (l ++ [x]).length
  rw [dd_snoc, List.length_append]
  exact Nat.le_trans addU_len (Nat.succ_le_succ ih)) l
theorem Sml.fm {p : Str → Bool} : ∀ {L : List (List Str)}, (∀ f ∈ L, f.length ≤ 5) → (L.flatMap fun f => (f.drop 1).filter p).length ≤ 4 * L.length
  | [], _ => Nat.le_refl _
  | f :: L, h => by
    have ih := Sml.fm (p := p) fun x hx => h x (List.mem_cons_of_mem _ hx)
    have h1 := h f List.mem_cons_self
    have h2 := List.length_filter_le p (f.drop 1)
    rw [List.length_drop] at h2
    rw [List.flatMap_cons, List.length_append, List.length_cons]
    omega
theorem Sml.unk {L : List (List Str)} (h : Sml L) : (unkL L).length ≤ 40 := by
  have z := Sml.fm (p := isUnk) fun f hf => (h.2 f hf).2
  have := h.1
  exact Nat.le_trans z (by omega)
theorem Sml.nm {L : List (List Str)} (h : Sml L) : (nmL L).length ≤ 40 := by
  have z := Sml.fm (p := nmd) fun f hf => (h.2 f hf).2
  have := h.1
  exact Nat.le_trans z (by omega)
theorem Sml.dd {L : List (List Str)} (h : Sml L) : (ddU (unkL L)).length ≤ 60 := Nat.le_trans (ddU_le _) (Nat.le_trans h.unk (by decide))
def blk (L : List (List Str)) : List (List Str) := sortU ltK (((knotsL L).map uns).filter fun k => !k.isEmpty)
theorem strs_map : ∀ ks : List Str, strsD (ks.map PyData.str) = some ks
  | [] => rfl
  | k :: ks => by
    show (strsD (ks.map PyData.str)).map (k :: ·) = _
    rw [strs_map ks]
    rfl
theorem view_S : ∀ ks : List Str, viewAll vS (ks.map PyData.str) = some ks
  | [] => rfl
  | k :: ks => by
    show (viewAll vS (ks.map PyData.str)).map (k :: ·) = _
    rw [view_S ks]
    rfl
theorem view_T : ∀ {ks : List (List Str)}, (∀ k ∈ ks, k ≠ []) → viewAll vT (ks.map bT') = some ks
  | [], _ => rfl
  | k :: ks, h => by
    have e : vT (bT' k) = some k := by
      show (match strsD (k.map PyData.str) with
        | some (k :: ks) => some (k :: ks)
        | _ => none) = some k
      rw [strs_map]
      cases k with
      | nil => exact absurd rfl (h [] List.mem_cons_self)
      | cons => rfl
    show (vT (bT' k)).bind (fun k => (viewAll vT (ks.map bT')).map (k :: ·)) = _
    rw [e, view_T fun z m => h z (List.mem_cons_of_mem _ m)]
    rfl
theorem q_is (x : Str) : ((⟨#[fst x]⟩ : Str) == "?") = nmd x := by
  have e : ("?" : Str) = ⟨#[63]⟩ := by decide +kernel
  rw [e]
  unfold nmd
  rw [Bool.eq_iff_iff]
  simp
theorem q_is' (x : Str) : decide ((⟨#[fst x]⟩ : Str) = "?") = nmd x := by
  rw [← q_is]
  rw [Bool.eq_iff_iff]
  simp
theorem sub_len {α : Type} [DecidableEq α] : ∀ {l m : List α}, l.Nodup → (∀ x ∈ l, x ∈ m) → l.length ≤ m.length
  | [], _, _, _ => Nat.zero_le _
  | x :: l, m, nd, h => by
    rw [List.nodup_cons] at nd
    have hx := h x List.mem_cons_self
    have ih := sub_len (l := l) (m := m.erase x) nd.2 fun y hy => (List.mem_erase_of_ne (fun e => nd.1 (by rw [← e]; exact hy))).mpr (h y (List.mem_cons_of_mem _ hy))
    rw [List.length_erase_of_mem hx] at ih
    have := List.length_pos_of_mem hx
    rw [List.length_cons]
    omega
def Ow (m : List Str) (own : List Str) : Prop := own.Nodup ∧ (∀ x ∈ own, x ∈ m) ∧ own ≠ []
theorem srt_nd {α : Type} {lt : α → α → Bool} {l : List α} (h : l.Nodup) : (sortU lt l).Nodup := (sortU_perm l).nodup_iff.mpr h
theorem srt_mem {α : Type} {lt : α → α → Bool} {l : List α} {x : α} : x ∈ sortU lt l ↔ x ∈ l := (sortU_perm l).mem_iff
theorem Ow.len {L : List (List Str)} {own : List Str} (hL : Sml L) (h : Ow (nmL L) own) : own.length ≤ 40 := Nat.le_trans (sub_len h.1 h.2.1) hL.nm
theorem rangeD_len (m : Int) : (rangeD m).length = m.toNat := by unfold rangeD; rw [List.length_map, List.length_range]
def W_stW : List PyData → M PyData := fun ds n Q => ∃ (ks : List Kd) (vals : List Str) (m : Nat), ds = [.list (ks.map kdD), .list (vals.map PyData.str), .int (m : Int)] ∧ m ≤ 60 ∧ n + 1000 < 1073741824 ∧ ks ≠ [] ∧ ks.length ≤ 10 ∧ (∀ t ∈ ks, Wd t.1 ∧ 0 < t.2 ∧ t.2 ≤ 4) ∧ vals ≠ [] ∧ vals.length ≤ 100 ∧
  ∀ (L : List (List Str)) (n' : Nat), L.length ≤ m → (∀ k ∈ L, FcOk ks vals k) → Asc ltK L → n' ≤ n + 1 + 10 * m → Q (stD L) n'
end My
namespace My
open PySem PySem.Spec PyProof.Rows L2
section
variable {α : Type} {enc : α → PyData}
theorem lcF_map {st : PyData → Option (Option PyData)} {h : α → PyData} : ∀ {xs : List α}, (∀ x ∈ xs, st (enc x) = some (some (h x))) → lcF st (xs.map enc) = some (xs.map h)
  | [], _ => rfl
  | x :: xs, H => by
    show (st (enc x)).bind _ = _
    rw [H x List.mem_cons_self, Option.bind_some, lcF_map fun y hy => H y (List.mem_cons_of_mem _ hy)]
    rfl
theorem lcF_filt {st : PyData → Option (Option PyData)} {h : α → PyData} {p : α → Bool} : ∀ {xs : List α}, (∀ x ∈ xs, st (enc x) = some (if p x = true then some (h x) else none)) → lcF st (xs.map enc) = some ((xs.filter p).map h)
  | [], _ => rfl
  | x :: xs, H => by
    show (st (enc x)).bind _ = _
    rw [H x List.mem_cons_self, Option.bind_some, lcF_filt fun y hy => H y (List.mem_cons_of_mem _ hy)]
    by_cases c : p x = true
    · rw [if_pos c, List.filter_cons_of_pos c]
      rfl
    · rw [if_neg c, List.filter_cons_of_neg c]
      rfl
theorem flF_map {st : PyData → Option (List PyData)} {h : α → List PyData} : ∀ {xs : List α}, (∀ x ∈ xs, st (enc x) = some (h x)) → flF st (xs.map enc) = some (xs.flatMap h)
  | [], _ => rfl
  | x :: xs, H => by
    show (st (enc x)).bind _ = _
    rw [H x List.mem_cons_self, Option.bind_some, flF_map fun y hy => H y (List.mem_cons_of_mem _ hy)]
    rfl
end
theorem lcF_map0 {st : PyData → Option (Option PyData)} {h : PyData → PyData} {xs : List PyData} (H : ∀ x ∈ xs, st x = some (some (h x))) : lcF st xs = some (xs.map h) := by
  have z := lcF_map (enc := id) (h := h) H
  rwa [List.map_id] at z
theorem seq_nx {a b : SF} {ρ ρ' : DEnv} (h : a ρ = some (.nx ρ')) : fSeq a b ρ = b ρ' := by
  unfold fSeq
  rw [h]
  rfl
theorem seq_rt {a b : SF} {ρ : DEnv} {d : PyData} (h : a ρ = some (.rt d)) : fSeq a b ρ = some (.rt d) := by
  unfold fSeq
  rw [h]
  rfl
theorem ifS_t {c : TF} {a b : SF} {ρ : DEnv} (h : c ρ = some true) : fIfS c a b ρ = a ρ := by
  unfold fIfS
  rw [h]
  rfl
theorem ifS_f {c : TF} {a b : SF} {ρ : DEnv} (h : c ρ = some false) : fIfS c a b ρ = b ρ := by
  unfold fIfS
  rw [h]
  rfl
theorem for_is {it : AF} {g : GD} {b : SF} {ρ : DEnv} {xs : List PyData} {r : Fl} (hi : it ρ = some xs) (h : forF g b xs ρ = some r) : fFor it g b ρ = some r := by
  unfold fFor
  rw [hi]
  exact h
theorem set_is {i : Nat} {f : EF} {ρ : DEnv} {d : PyData} (h : f ρ = some d) : fSet i f ρ = some (.nx (ρ.set i (some (.d d)))) := by
  unfold fSet
  rw [h]
  rfl
theorem call_is {F : List PyData → Option PyData} {a : AF} {ρ : DEnv} {xs : List PyData} {d : PyData} (ha : a ρ = some xs) (h : F xs = some d) : fCall F a ρ = some d := by
  unfold fCall
  rw [ha]
  exact h
theorem op_is {F : PyData → PyData → Option PyData} {a b : EF} {ρ : DEnv} {x y z : PyData} (ha : a ρ = some x) (hb : b ρ = some y) (h : F x y = some z) : fOp F a b ρ = some z := by
  unfold fOp
  rw [ha, hb]
  exact h
theorem co1 {f : EF} {ρ : DEnv} {x : PyData} (h : f ρ = some x) : fCo f fN ρ = some [x] := by
  unfold fCo
  rw [h]
  rfl
theorem co_is {f : EF} {g : AF} {ρ : DEnv} {x : PyData} {xs : List PyData} (h : f ρ = some x) (k : g ρ = some xs) : fCo f g ρ = some (x :: xs) := by
  unfold fCo
  rw [h, k]
  rfl
theorem sort_is {α : Type} [DecidableEq α] {view : PyData → Option α} {back : α → PyData} {lt : α → α → Bool} {it : AF} {g : GD} {p : TF} {fb : DEnv → Option (List PyData)} {own : List Nat} {ρ : DEnv} {xs ys : List PyData} {d : PyData} (hi : it ρ = some xs) (h : flF (stB g p fb (wipeD ρ own)) xs = some ys) (hs : srtF view back lt ys = some d) : fSort view back lt it g p fb own ρ = some d := by
  unfold fSort
  rw [hi, Option.bind_some, h]
  exact hs
theorem setsD_is {α : Type} [DecidableEq α] {view : PyData → Option α} {back : α → PyData} {lt : α → α → Bool} {f : EF} {ρ : DEnv} {x : PyData} {xs : List PyData} {ks : List α} (hf : f ρ = some x) (hx : x = .list xs ∨ x = .tuple xs) (hv : viewAll view xs = some ks) (l : (ddU ks).length < 63) : fSortSet view back lt f ρ = some (.list ((sortU lt (ddU ks)).map back)) := by
  unfold fSortSet
  rw [hf, Option.bind_some]
  rcases hx with rfl | rfl
  · show (viewAll view xs).bind _ = _
    rw [hv, Option.bind_some, if_pos l]
  · show (viewAll view xs).bind _ = _
    rw [hv, Option.bind_some, if_pos l]
theorem st_yes {g : GD} {e : EF} {ρ0 ρ' : DEnv} {x y : PyData} (hg : g x ρ0 = some ρ') (he : e ρ' = some y) : stF g tfYes e ρ0 x = some (some y) := by
  unfold stF
  rw [hg, Option.bind_some]
  show (if true = true then (e ρ').map some else some none) = _
  rw [if_pos rfl, he]
  rfl
theorem nil_lst {ρ : DEnv} : fLst fN ρ = some (.list []) := by
  unfold fLst fN
  rw [Option.bind_some]
  exact if_pos (Nat.zero_le _)
theorem ret_is {f : EF} {ρ : DEnv} {d : PyData} (h : f ρ = some d) : fRet f ρ = some (.rt d) := by
  unfold fRet
  rw [h]
  rfl
theorem lc_is {it : AF} {g : GD} {p : TF} {e : EF} {own : List Nat} {ρ : DEnv} {xs ys : List PyData} (hi : it ρ = some xs) (l : xs.length ≤ lim) (h : lcF (stF g p e (wipeD ρ own)) xs = some ys) : fLc it g p e own ρ = some (.list ys) := by
  unfold fLc
  rw [hi, Option.bind_some, if_pos l, h]
  rfl
theorem out_rt {S : SF} {ρ : DEnv} {d : PyData} (h : S ρ = some (.rt d)) : (S ρ).bind outF = some d := by
  rw [h]
  rfl
theorem forF_inv {g : GD} {b : SF} {xs : List PyData} {R : Fl → Prop} (I : Nat → DEnv → Prop)
    (step : ∀ (i : Nat) (x : PyData) (ρ : DEnv), xs[i]? = some x → I i ρ → ∃ ρ1, g x ρ = some ρ1 ∧ ∃ r, b ρ1 = some r ∧ match r with
      | .nx ρ2 => I (i + 1) ρ2
      | .ct ρ2 => I (i + 1) ρ2
      | .bk ρ2 => R (.nx ρ2)
      | .rt d => R (.rt d))
    (last : ∀ ρ, I xs.length ρ → R (.nx ρ)) {ρ : DEnv} (h0 : I 0 ρ) : ∃ r, forF g b xs ρ = some r ∧ R r := by
  have main : ∀ (k i : Nat) (ρ : DEnv), xs.length = i + k → I i ρ → ∃ r, forF g b (xs.drop i) ρ = some r ∧ R r := by
    intro k
    induction k with
    | zero =>
      intro i ρ e h
      rw [List.drop_eq_nil_of_le (by omega)]
      exact ⟨_, rfl, last ρ (by rw [e]; exact h)⟩
    | succ k ih =>
      intro i ρ e h
      have l : i < xs.length := by omega
      rw [List.drop_eq_getElem_cons l]
      obtain ⟨ρ1, e1, r, e2, z⟩ := step i xs[i] ρ (List.getElem?_eq_getElem l) h
      show ∃ r, (g xs[i] ρ).bind _ = some r ∧ R r
      rw [e1, Option.bind_some, e2, Option.bind_some]
      cases r with
      | nx ρ2 => exact ih (i + 1) ρ2 (by omega) z
      | ct ρ2 => exact ih (i + 1) ρ2 (by omega) z
      | bk ρ2 => exact ⟨_, rfl, z⟩
      | rt d => exact ⟨_, rfl, z⟩
  exact main xs.length 0 ρ (by omega) h0
theorem ix0 {x : PyData} {xs : List PyData} : ixD (.tuple (x :: xs)) (.int 0) = some x := by
  show atI (x :: xs) 0 = some x
  exact atI_nat (j := 0) rfl
def pS (p : Str × Str) : PyData × PyData := (.str p.1, .str p.2)
end My
namespace My
open PySem PySem.Spec PyProof.Rows L2
mutual
theorem flat_lay : ∀ d : PyData, d.canLay0 = true → flatD d = true
  | .none, _ => rfl
  | .bool _, _ => rfl
  | .int _, _ => rfl
  | .str _, _ => rfl
  | .list xs, h => flat_lays xs (by simpa only [PyData.canLay0] using h)
  | .tuple xs, h => flat_lays xs (by simpa only [PyData.canLay0] using h)
  | .dict _, h => by simp [PyData.canLay0] at h
theorem flat_lays : ∀ ds : List PyData, PyData.canLayAll0 ds = true → flatAll ds = true
  | [], _ => rfl
  | d :: ds, h => by
    simp only [PyData.canLayAll0, Bool.and_eq_true] at h
    simp only [flatAll, Bool.and_eq_true]
    exact ⟨flat_lay d h.1, flat_lays ds h.2⟩
end
theorem eqD_deep {x y : PyData} (hx : SeqAt.shaped x = true) (hy : SeqAt.shaped y = true) (h : ∀ a b : PyData, x = a → y = b → (∃ xs, a = .list xs ∨ a = .tuple xs)) : eqD x y = some (.bool (PyData.eqv x y)) := by
  obtain ⟨xs, e⟩ := h x y rfl rfl
  have c : flatD x = true ∧ flatD y = true ∧ SeqAt.shaped x = true ∧ SeqAt.shaped y = true := ⟨flat_lay x (SeqAt.canLay_of_shaped hx), flat_lay y (SeqAt.canLay_of_shaped hy), hx, hy⟩
  rcases e with rfl | rfl
  · show (if _ then _ else _) = _
    rw [if_pos c]
  · show (if _ then _ else _) = _
    rw [if_pos c]
theorem one_lay {α : Type} : ∀ l : List α, PyData.canLayAll0 (l.map fun _ => PyData.int 1) = true
  | [] => rfl
  | x :: l => by
    rw [List.map_cons]
    simp only [PyData.canLayAll0, PyData.canLay0, Bool.true_and]
    exact one_lay l
theorem one_dep {α : Type} : ∀ l : List α, PyData.depthAll (l.map fun _ => PyData.int 1) ≤ 1
  | [] => by simp [PyData.depthAll]
  | x :: l => by
    rw [List.map_cons]
    simp only [PyData.depthAll, PyData.depth]
    have := one_dep l
    omega
theorem one_shaped {α : Type} (l : List α) : SeqAt.shaped (.list (l.map fun _ => PyData.int 1)) = true := by
  unfold SeqAt.shaped
  have h1 := one_lay l
  have h2 := one_dep l
  rw [Bool.and_eq_true, decide_eq_true_eq]
  refine ⟨by simpa only [PyData.canLay0] using h1, ?_⟩
  simp only [PyData.depth]
  omega
theorem ones_eq {α : Type} (l : List α) : eqD (.list (l.map fun _ => PyData.int 1)) (.list []) = some (.bool l.isEmpty) := by
  rw [eqD_deep (one_shaped l) (by decide +kernel) fun a b e _ => ⟨_, .inl e.symm⟩]
  cases l <;> rfl
def wrdB (z : Str) : Bool := (decide (1 ≤ z.length) && decide (z.length ≤ 8)) && z.cps.toList.all fun c => decide (c ∈ letS)
def wrdD : PyData → Bool
  | .str z => wrdB z
  | _ => false
def unkD : PyData → Bool
  | .str z => isUnk z
  | _ => false
theorem filt_empty {α : Type} {p : α → Bool} {l : List α} : (l.filter fun x => !p x).isEmpty = l.all p := by
  induction l with
  | nil => rfl
  | cons x l ih =>
    rw [List.all_cons, ← ih]
    cases h : p x
    · rw [List.filter_cons_of_pos (by rw [h]; rfl)]
      rfl
    · rw [List.filter_cons_of_neg (by rw [h]; decide)]
      rfl
theorem isC_s1 : isC "str" "str" = true := by decide
theorem letn_is (c : Nat) : inD true (.str ⟨#[c]⟩) (.str "abcdefghijklmnopqrstuvwxyz") = some (.bool (!decide (c ∈ letS))) := by
  rw [inD_sign, let_is]
  rfl
def digS : List Nat := [48, 49, 50, 51, 52, 53, 54, 55, 56, 57]
theorem dig_is : ("0123456789" : Str).cps.toList = digS := by decide +kernel
theorem dign_is (c : Nat) : inD true (.str ⟨#[c]⟩) (.str "0123456789") = some (.bool (!decide (c ∈ digS))) := by
  rw [inD_sign, dig_is]
  rfl
theorem cutS_1 (z : Str) : cutS z (some 1) none = ⟨(z.cps.toList.drop 1).toArray⟩ := by
  unfold cutS
  rw [HT.sIx_none, show HT.sIx z.length 0 (some 1) = min 1 z.length from HT.sIx_nat z.length 0 1]
  congr 2
  rw [show z.length = z.cps.toList.length from (cps_len z).symm]
  cases z.cps.toList with
  | nil => rfl
  | cons x r =>
    rw [List.length_cons, Nat.min_eq_left (by omega)]
    exact List.take_of_length_le (by simp)
theorem str_at {z : Str} (lz : z.length ≤ lim) {j : Nat} {c : Nat} (h : z.cps.toList[j]? = some c) : ixD (.str z) (.int (j : Int)) = some (.str ⟨#[c]⟩) := by
  show (if z.length ≤ lim then (atI z.cps.toList (j : Int)).map fun c => PyData.str ⟨#[c]⟩ else none) = _
  rw [if_pos lz, atI_nat h]
  rfl
theorem one_eq (c d : Nat) : decide ((⟨#[c]⟩ : Str) = ⟨#[d]⟩) = decide (c = d) := by
  refine decide_eq_decide.mpr ⟨fun e => ?_, fun e => by rw [e]⟩
  have z := congrArg (fun s : Str => s.cps.toList) e
  simpa using z
theorem str_q : ("?" : Str) = ⟨#[63]⟩ := by decide +kernel
theorem str_0 : ("0" : Str) = ⟨#[48]⟩ := by decide +kernel
theorem isUnk_is (z : Str) : isUnk z = (decide (z.cps.toList.head? = some 63) && (decide (2 ≤ z.length) && decide (z.length ≤ 6)) && !decide (z.cps.toList[1]? = some 48) && (z.cps.toList.drop 1).all fun c => decide (c ∈ digS)) := by
  unfold isUnk
  rw [show TL.tl z = z.cps.toList from rfl]
  have e1 : ((z.cps.toList.drop 1).head? : Option Nat) = z.cps.toList[1]? := by
    rw [List.head?_drop]
  have e2 : (z.cps.toList.drop 1).length = z.length - 1 := by
    rw [List.length_drop, cps_len]
  rw [e1, e2, show digs = digS from rfl]
  congr 3
  rw [show decide (1 ≤ z.length - 1) = decide (2 ≤ z.length) from decide_eq_decide.mpr (by omega), show decide (z.length - 1 ≤ 5) = decide (z.length ≤ 6) from decide_eq_decide.mpr (by omega)]
end My
namespace My
open PySem PySem.Spec PyProof.Rows L2
def S_is_unknown : SF :=
  (fSeq (fIfS (tfOr (tfNot (tfE (fIsi (isC "str") (fV 0)))) (tfNot (tfE (fMeth startsD (fV 0) (fCo (fC (.str "?")) fN))))) (fRet (fC (.bool false))) fNil)
    (fSeq (fSet 1 (fSl slD (fV 0) (ofS (fC (.int 1))) ofN))
    (fRet (fAnd (fChain (ltD fun i j => decide (i ≤ j)) (ltD fun i j => decide (i ≤ j)) (fC (.int 1)) (fCall lenD (fCo (fV 1) fN)) (fC (.int 5))) (fAnd (fOp neD (fOp ixD (fV 1) (fC (.int 0))) (fC (.str "0"))) (fCall allD (fCo (fLc (afV (fV 1)) (gN 2) tfYes (fOp (inD false) (fV 2) (fC (.str "0123456789"))) [2]) fN)))))))
def F_is_unknown : List PyData → Option PyData := fnF 1 3 S_is_unknown
theorem at_is_unknown (x0 : PyData) : F_is_unknown [x0] = (S_is_unknown [some (.d x0), none, none]).bind outF := rfl
end My
namespace My
open PySem PySem.Spec PyProof.Rows L2
def S_unknowns : SF :=
  (fRet (fCall tupD1 (fCo (fSort vS bS ltS (afV (fV 0)) (gN 1) tfYes (fTwo (afV (fSl slD (fV 1) (ofS (fC (.int 1))) ofN)) (gN 2) (tfE (fCall F_is_unknown (fCo (fV 2) fN))) (fOne (fV 2)) [2]) [1, 2]) fN)))
def F_unknowns : List PyData → Option PyData := fnF 1 3 S_unknowns
theorem at_unknowns (x0 : PyData) : F_unknowns [x0] = (S_unknowns [some (.d x0), none, none]).bind outF := rfl
end My
namespace My
open PySem PySem.Spec PyProof.Rows L2
theorem dig_in (c : Nat) : inD false (.str ⟨#[c]⟩) (.str "0123456789") = some (.bool (decide (c ∈ digS))) := by
  rw [inD_sign, dig_is]
  rfl
theorem F_unk {z : Str} (lz : z.length ≤ lim) : F_is_unknown [.str z] = some (.bool (isUnk z)) := by
  rw [at_is_unknown]
  unfold S_is_unknown
  rw [isUnk_is]
  have es : Txt.startswith z "?" = decide (z.cps.toList.head? = some 63) := by
    rw [str_q]
    exact starts_one z 63
  have l := cps_len z
  cases ez : z.cps.toList with
  | nil =>
    rw [ez] at es
    refine out_rt ((seq_rt (ifS_t ?_)).trans ?_)
    · simp only [fC, fV, fN, fCo, fTup, fLst, fOp, fCall, tfE, tfTr, tfYes, tfNot, tfAnd, tfOr, fAnd, fOr, fNot, fIf, ofN, ofS, fSl, fChain, fIsi, afV, afR, afZ, afZk, zipKF, fLc, fLc2, fTwo, fOne, fSort, fSortSet, fGet, fOIn, fOGet, fOLen, fOIx, fRepr, fRev, fMeth, fNil, fSeq, fSet, fAsg, fRet, fIfS, fFor, fNewL, fApp, fExt, fGive, fNewK, fMakeK, fPutK, fGiveK, outF, envF, fnF, stF, stB, gN, gT, gsC, gsN, wipeD, getF, ownK, ownL, asB, asK, asL, asS, List.getElem?_cons_zero, List.getElem?_cons_succ, Option.bind_some, Option.map_some, Option.bind_none, Option.map_none, List.map_cons, List.map_nil, List.cons_append, List.nil_append, List.set_cons_zero, List.set_cons_succ, List.length_cons, List.length_nil, List.replicate_succ, List.replicate_zero, Nat.reduceSub, Nat.reduceAdd, Nat.reduceEqDiff, if_true, Bool.true_eq_false, Bool.false_eq_true, if_false, reduceIte, noDict, lenD_tup, lenD_lst, ltD_int, items_tup, items_lst, items_str, eqD_str, eqD_int, neD_str, neD_int, addD_int, subD_int, slD_lst, slD_tup, tuple_lst, tuple_tup, list_lst, list_tup, tyS_str, tyS_tup, isC_s1, startsD, es, Bool.not_true]
      rfl
    · rfl
  | cons a r =>
    rw [ez] at es l
    have es' : Txt.startswith z "?" = decide (a = 63) := es.trans (decide_eq_decide.mpr ⟨Option.some.inj, fun e => congrArg some e⟩)
    show _ = some (PyData.bool (decide (some a = some 63) && (decide (2 ≤ z.length) && decide (z.length ≤ 6)) && !decide (r[0]? = some 48) && r.all fun c => decide (c ∈ digS)))
    rw [show decide (some a = some 63) = decide (a = 63) from decide_eq_decide.mpr ⟨Option.some.inj, fun e => congrArg some e⟩]
    by_cases ca : a = 63
    · rw [decide_eq_true ca] at es'
      have sl : slD (.str z) (some 1) none = some (.str ⟨r.toArray⟩) := by
        rw [show slD (.str z) (some 1) none = some (.str (cutS z (some 1) none)) from if_pos lz, cutS_1, ez]
        rfl
      have lr : (⟨r.toArray⟩ : Str).length = r.length := by
        show (r.toArray).size = _
        exact List.size_toArray
      have lr' : r.length + 1 = z.length := l
      have lr2 : (⟨r.toArray⟩ : Str).length ≤ lim := by
        rw [lr]
        omega
      refine out_rt ((seq_nx (ρ' := [some (.d (.str z)), none, none]) (ifS_f ?_)).trans ((seq_nx (ρ' := [some (.d (.str z)), some (.d (.str ⟨r.toArray⟩)), none]) ?_).trans (ret_is ?_)))
      · simp only [fC, fV, fN, fCo, fTup, fLst, fOp, fCall, tfE, tfTr, tfYes, tfNot, tfAnd, tfOr, fAnd, fOr, fNot, fIf, ofN, ofS, fSl, fChain, fIsi, afV, afR, afZ, afZk, zipKF, fLc, fLc2, fTwo, fOne, fSort, fSortSet, fGet, fOIn, fOGet, fOLen, fOIx, fRepr, fRev, fMeth, fNil, fSeq, fSet, fAsg, fRet, fIfS, fFor, fNewL, fApp, fExt, fGive, fNewK, fMakeK, fPutK, fGiveK, outF, envF, fnF, stF, stB, gN, gT, gsC, gsN, wipeD, getF, ownK, ownL, asB, asK, asL, asS, List.getElem?_cons_zero, List.getElem?_cons_succ, Option.bind_some, Option.map_some, Option.bind_none, Option.map_none, List.map_cons, List.map_nil, List.cons_append, List.nil_append, List.set_cons_zero, List.set_cons_succ, List.length_cons, List.length_nil, List.replicate_succ, List.replicate_zero, Nat.reduceSub, Nat.reduceAdd, Nat.reduceEqDiff, if_true, Bool.true_eq_false, Bool.false_eq_true, if_false, reduceIte, noDict, lenD_tup, lenD_lst, ltD_int, items_tup, items_lst, items_str, eqD_str, eqD_int, neD_str, neD_int, addD_int, subD_int, slD_lst, slD_tup, tuple_lst, tuple_tup, list_lst, list_tup, tyS_str, tyS_tup, isC_s1, startsD, es', Bool.not_true]
      · refine set_is ?_
        simp only [fC, fV, fN, fCo, fTup, fLst, fOp, fCall, tfE, tfTr, tfYes, tfNot, tfAnd, tfOr, fAnd, fOr, fNot, fIf, ofN, ofS, fSl, fChain, fIsi, afV, afR, afZ, afZk, zipKF, fLc, fLc2, fTwo, fOne, fSort, fSortSet, fGet, fOIn, fOGet, fOLen, fOIx, fRepr, fRev, fMeth, fNil, fSeq, fSet, fAsg, fRet, fIfS, fFor, fNewL, fApp, fExt, fGive, fNewK, fMakeK, fPutK, fGiveK, outF, envF, fnF, stF, stB, gN, gT, gsC, gsN, wipeD, getF, ownK, ownL, asB, asK, asL, asS, List.getElem?_cons_zero, List.getElem?_cons_succ, Option.bind_some, Option.map_some, Option.bind_none, Option.map_none, List.map_cons, List.map_nil, List.cons_append, List.nil_append, List.set_cons_zero, List.set_cons_succ, List.length_cons, List.length_nil, List.replicate_succ, List.replicate_zero, Nat.reduceSub, Nat.reduceAdd, Nat.reduceEqDiff, if_true, Bool.true_eq_false, Bool.false_eq_true, if_false, reduceIte, noDict, lenD_tup, lenD_lst, ltD_int, items_tup, items_lst, items_str, eqD_str, eqD_int, neD_str, neD_int, addD_int, subD_int, slD_lst, slD_tup, tuple_lst, tuple_tup, list_lst, list_tup, tyS_str, tyS_tup, sl]
      · by_cases c1 : (1 : Int) ≤ (⟨r.toArray⟩ : Str).length
        · by_cases c2 : ((⟨r.toArray⟩ : Str).length : Int) ≤ 5
          · cases r with
            | nil => rw [lr] at c1; simp at c1
            | cons b t =>
              have i0 : ixD (.str ⟨(b :: t).toArray⟩) (.int 0) = some (.str ⟨#[b]⟩) := str_at (j := 0) lr2 rfl
              have lv : ((b :: t).map fun c => PyData.str ⟨#[c]⟩).length ≤ lim := by
                rw [List.length_map]
                omega
              have k1 : fLc (afV (fV 1)) (gN 2) tfYes (fOp (inD false) (fV 2) (fC (.str "0123456789"))) [2] [some (.d (.str z)), some (.d (.str ⟨(b :: t).toArray⟩)), none] = some (.list ((b :: t).map fun c => PyData.bool (decide (c ∈ digS)))) := lc_is (xs := (b :: t).map fun c => PyData.str ⟨#[c]⟩) rfl lv (lcF_map fun c _ => by
                simp only [fC, fV, fN, fCo, fTup, fLst, fOp, fCall, tfE, tfTr, tfYes, tfNot, tfAnd, tfOr, fAnd, fOr, fNot, fIf, ofN, ofS, fSl, fChain, fIsi, afV, afR, afZ, afZk, zipKF, fLc, fLc2, fTwo, fOne, fSort, fSortSet, fGet, fOIn, fOGet, fOLen, fOIx, fRepr, fRev, fMeth, fNil, fSeq, fSet, fAsg, fRet, fIfS, fFor, fNewL, fApp, fExt, fGive, fNewK, fMakeK, fPutK, fGiveK, outF, envF, fnF, stF, stB, gN, gT, gsC, gsN, wipeD, getF, ownK, ownL, asB, asK, asL, asS, List.getElem?_cons_zero, List.getElem?_cons_succ, Option.bind_some, Option.map_some, Option.bind_none, Option.map_none, List.map_cons, List.map_nil, List.cons_append, List.nil_append, List.set_cons_zero, List.set_cons_succ, List.length_cons, List.length_nil, List.replicate_succ, List.replicate_zero, Nat.reduceSub, Nat.reduceAdd, Nat.reduceEqDiff, if_true, Bool.true_eq_false, Bool.false_eq_true, if_false, reduceIte, noDict, lenD_tup, lenD_lst, ltD_int, items_tup, items_lst, items_str, eqD_str, eqD_int, neD_str, neD_int, addD_int, subD_int, slD_lst, slD_tup, tuple_lst, tuple_tup, list_lst, list_tup, tyS_str, tyS_tup, dig_in])
              have k4 : fCall allD (fCo (fLc (afV (fV 1)) (gN 2) tfYes (fOp (inD false) (fV 2) (fC (.str "0123456789"))) [2]) fN) [some (.d (.str z)), some (.d (.str ⟨(b :: t).toArray⟩)), none] = some (.bool ((b :: t).all fun c => decide (c ∈ digS))) := call_is (co1 k1) allD_map
              generalize fCall allD (fCo (fLc (afV (fV 1)) (gN 2) tfYes (fOp (inD false) (fV 2) (fC (.str "0123456789"))) [2]) fN) = kk at k4
              unfold fAnd fChain
              simp only [fC, fV, fN, fCo, fTup, fLst, fOp, fCall, tfE, tfTr, tfYes, tfNot, tfAnd, tfOr, fAnd, fOr, fNot, fIf, ofN, ofS, fSl, fChain, fIsi, afV, afR, afZ, afZk, zipKF, fLc, fLc2, fTwo, fOne, fSort, fSortSet, fGet, fOIn, fOGet, fOLen, fOIx, fRepr, fRev, fMeth, fNil, fSeq, fSet, fAsg, fRet, fIfS, fFor, fNewL, fApp, fExt, fGive, fNewK, fMakeK, fPutK, fGiveK, outF, envF, fnF, stF, stB, gN, gT, gsC, gsN, wipeD, getF, ownK, ownL, asB, asK, asL, asS, List.getElem?_cons_zero, List.getElem?_cons_succ, Option.bind_some, Option.map_some, Option.bind_none, Option.map_none, List.map_cons, List.map_nil, List.cons_append, List.nil_append, List.set_cons_zero, List.set_cons_succ, List.length_cons, List.length_nil, List.replicate_succ, List.replicate_zero, Nat.reduceSub, Nat.reduceAdd, Nat.reduceEqDiff, if_true, Bool.true_eq_false, Bool.false_eq_true, if_false, reduceIte, noDict, lenD_tup, lenD_lst, ltD_int, items_tup, items_lst, items_str, eqD_str, eqD_int, neD_str, neD_int, addD_int, subD_int, slD_lst, slD_tup, tuple_lst, tuple_tup, list_lst, list_tup, tyS_str, tyS_tup, lenD_str lr2, decide_eq_true c1, decide_eq_true c2, i0, str_0, one_eq, k4]
              rw [decide_eq_true ca, decide_eq_true (show 2 ≤ z.length by rw [lr] at c1; omega), decide_eq_true (show z.length ≤ 6 by rw [lr] at c2; omega)]
              show _ = some (PyData.bool (true && (true && true) && !decide (some b = some 48) && (b :: t).all fun c => decide (c ∈ digS)))
              rw [show decide (some b = some 48) = decide (b = 48) from decide_eq_decide.mpr ⟨Option.some.inj, fun e => congrArg some e⟩]
              cases decide (b = 48) <;> rfl
          · unfold fAnd fChain
            simp only [fC, fV, fN, fCo, fTup, fLst, fOp, fCall, tfE, tfTr, tfYes, tfNot, tfAnd, tfOr, fAnd, fOr, fNot, fIf, ofN, ofS, fSl, fChain, fIsi, afV, afR, afZ, afZk, zipKF, fLc, fLc2, fTwo, fOne, fSort, fSortSet, fGet, fOIn, fOGet, fOLen, fOIx, fRepr, fRev, fMeth, fNil, fSeq, fSet, fAsg, fRet, fIfS, fFor, fNewL, fApp, fExt, fGive, fNewK, fMakeK, fPutK, fGiveK, outF, envF, fnF, stF, stB, gN, gT, gsC, gsN, wipeD, getF, ownK, ownL, asB, asK, asL, asS, List.getElem?_cons_zero, List.getElem?_cons_succ, Option.bind_some, Option.map_some, Option.bind_none, Option.map_none, List.map_cons, List.map_nil, List.cons_append, List.nil_append, List.set_cons_zero, List.set_cons_succ, List.length_cons, List.length_nil, List.replicate_succ, List.replicate_zero, Nat.reduceSub, Nat.reduceAdd, Nat.reduceEqDiff, if_true, Bool.true_eq_false, Bool.false_eq_true, if_false, reduceIte, noDict, lenD_tup, lenD_lst, ltD_int, items_tup, items_lst, items_str, eqD_str, eqD_int, neD_str, neD_int, addD_int, subD_int, slD_lst, slD_tup, tuple_lst, tuple_tup, list_lst, list_tup, tyS_str, tyS_tup, lenD_str lr2, decide_eq_true c1, decide_eq_false c2]
            rw [decide_eq_false (show ¬ z.length ≤ 6 by rw [lr] at c2; omega)]
            simp
        · unfold fAnd fChain
          simp only [fC, fV, fN, fCo, fTup, fLst, fOp, fCall, tfE, tfTr, tfYes, tfNot, tfAnd, tfOr, fAnd, fOr, fNot, fIf, ofN, ofS, fSl, fChain, fIsi, afV, afR, afZ, afZk, zipKF, fLc, fLc2, fTwo, fOne, fSort, fSortSet, fGet, fOIn, fOGet, fOLen, fOIx, fRepr, fRev, fMeth, fNil, fSeq, fSet, fAsg, fRet, fIfS, fFor, fNewL, fApp, fExt, fGive, fNewK, fMakeK, fPutK, fGiveK, outF, envF, fnF, stF, stB, gN, gT, gsC, gsN, wipeD, getF, ownK, ownL, asB, asK, asL, asS, List.getElem?_cons_zero, List.getElem?_cons_succ, Option.bind_some, Option.map_some, Option.bind_none, Option.map_none, List.map_cons, List.map_nil, List.cons_append, List.nil_append, List.set_cons_zero, List.set_cons_succ, List.length_cons, List.length_nil, List.replicate_succ, List.replicate_zero, Nat.reduceSub, Nat.reduceAdd, Nat.reduceEqDiff, if_true, Bool.true_eq_false, Bool.false_eq_true, if_false, reduceIte, noDict, lenD_tup, lenD_lst, ltD_int, items_tup, items_lst, items_str, eqD_str, eqD_int, neD_str, neD_int, addD_int, subD_int, slD_lst, slD_tup, tuple_lst, tuple_tup, list_lst, list_tup, tyS_str, tyS_tup, lenD_str lr2, decide_eq_false c1]
          rw [decide_eq_false (show ¬ 2 ≤ z.length by rw [lr] at c1; omega)]
          simp
    · rw [decide_eq_false ca] at es'
      refine out_rt ((seq_rt (ifS_t ?_)).trans ?_)
      · simp only [fC, fV, fN, fCo, fTup, fLst, fOp, fCall, tfE, tfTr, tfYes, tfNot, tfAnd, tfOr, fAnd, fOr, fNot, fIf, ofN, ofS, fSl, fChain, fIsi, afV, afR, afZ, afZk, zipKF, fLc, fLc2, fTwo, fOne, fSort, fSortSet, fGet, fOIn, fOGet, fOLen, fOIx, fRepr, fRev, fMeth, fNil, fSeq, fSet, fAsg, fRet, fIfS, fFor, fNewL, fApp, fExt, fGive, fNewK, fMakeK, fPutK, fGiveK, outF, envF, fnF, stF, stB, gN, gT, gsC, gsN, wipeD, getF, ownK, ownL, asB, asK, asL, asS, List.getElem?_cons_zero, List.getElem?_cons_succ, Option.bind_some, Option.map_some, Option.bind_none, Option.map_none, List.map_cons, List.map_nil, List.cons_append, List.nil_append, List.set_cons_zero, List.set_cons_succ, List.length_cons, List.length_nil, List.replicate_succ, List.replicate_zero, Nat.reduceSub, Nat.reduceAdd, Nat.reduceEqDiff, if_true, Bool.true_eq_false, Bool.false_eq_true, if_false, reduceIte, noDict, lenD_tup, lenD_lst, ltD_int, items_tup, items_lst, items_str, eqD_str, eqD_int, neD_str, neD_int, addD_int, subD_int, slD_lst, slD_tup, tuple_lst, tuple_tup, list_lst, list_tup, tyS_str, tyS_tup, isC_s1, startsD, es', Bool.not_true]
        rfl
      · rw [decide_eq_false ca]
        rfl
theorem view_str (ks : List Str) : viewAll vS (ks.map PyData.str) = some ks := view_S ks
theorem Txt1.lm {x : Str} (h : Txt1 x) : x.length ≤ lim := Nat.le_trans h.2 (by decide)
theorem fl_strs {α : Type} (f : α → List Str) (L : List α) : L.flatMap (fun x => (f x).map PyData.str) = (L.flatMap f).map PyData.str := by
  induction L with
  | nil => rfl
  | cons x L ih => rw [List.flatMap_cons, List.flatMap_cons, ih, List.map_append]
theorem F_uns {L : List (List Str)} (h : OkL L) (few : (ddU (unkL L)).length < 62) : F_unknowns [stD L] = some (uD L) := by
  rw [at_unknowns]
  unfold S_unknowns
  refine out_rt (ret_is (call_is (xs := [.list ((uns L).map bS)]) ?_ rfl))
  have k1 : flF (stB (gN 1) tfYes (fTwo (afV (fSl slD (fV 1) (ofS (fC (.int 1))) ofN)) (gN 2) (tfE (fCall F_is_unknown (fCo (fV 2) fN))) (fOne (fV 2)) [2]) [some (.d (stD L)), none, none]) (L.map bT') = some ((unkL L).map PyData.str) := by
    unfold unkL
    rw [← fl_strs]
    refine flF_map fun f hf => ?_
    have okf := h.2 f hf
    rw [show bT' f = .tuple (f.map PyData.str) from rfl]
    simp only [fC, fV, fN, fCo, fTup, fLst, fOp, fCall, tfE, tfTr, tfYes, tfNot, tfAnd, tfOr, fAnd, fOr, fNot, fIf, ofN, ofS, fSl, fChain, fIsi, afV, afR, afZ, afZk, zipKF, fLc, fLc2, fTwo, fOne, fSort, fSortSet, fGet, fOIn, fOGet, fOLen, fOIx, fRepr, fRev, fMeth, fNil, fSeq, fSet, fAsg, fRet, fIfS, fFor, fNewL, fApp, fExt, fGive, fNewK, fMakeK, fPutK, fGiveK, outF, envF, fnF, stF, stB, gN, gT, gsC, gsN, wipeD, getF, ownK, ownL, asB, asK, asL, asS, List.getElem?_cons_zero, List.getElem?_cons_succ, Option.bind_some, Option.map_some, Option.bind_none, Option.map_none, List.map_cons, List.map_nil, List.cons_append, List.nil_append, List.set_cons_zero, List.set_cons_succ, List.length_cons, List.length_nil, List.replicate_succ, List.replicate_zero, Nat.reduceSub, Nat.reduceAdd, Nat.reduceEqDiff, if_true, Bool.true_eq_false, Bool.false_eq_true, if_false, reduceIte, noDict, lenD_tup, lenD_lst, ltD_int, items_tup, items_lst, items_str, eqD_str, eqD_int, neD_str, neD_int, addD_int, subD_int, slD_lst, slD_tup, tuple_lst, tuple_tup, list_lst, list_tup, tyS_str, tyS_tup, cut_drop1, bT_drop]
    have k2 := flF_map (enc := PyData.str) (h := fun x => if isUnk x = true then [PyData.str x] else []) (xs := f.drop 1) (st := stB (gN 2) (tfE (fCall F_is_unknown (fCo (fV 2) fN))) (fOne (fV 2)) [some (Sv.d (stD L)), some (Sv.d (PyData.tuple (List.map PyData.str f))), none]) fun x hx => by
      simp only [fC, fV, fN, fCo, fTup, fLst, fOp, fCall, tfE, tfTr, tfYes, tfNot, tfAnd, tfOr, fAnd, fOr, fNot, fIf, ofN, ofS, fSl, fChain, fIsi, afV, afR, afZ, afZk, zipKF, fLc, fLc2, fTwo, fOne, fSort, fSortSet, fGet, fOIn, fOGet, fOLen, fOIx, fRepr, fRev, fMeth, fNil, fSeq, fSet, fAsg, fRet, fIfS, fFor, fNewL, fApp, fExt, fGive, fNewK, fMakeK, fPutK, fGiveK, outF, envF, fnF, stF, stB, gN, gT, gsC, gsN, wipeD, getF, ownK, ownL, asB, asK, asL, asS, List.getElem?_cons_zero, List.getElem?_cons_succ, Option.bind_some, Option.map_some, Option.bind_none, Option.map_none, List.map_cons, List.map_nil, List.cons_append, List.nil_append, List.set_cons_zero, List.set_cons_succ, List.length_cons, List.length_nil, List.replicate_succ, List.replicate_zero, Nat.reduceSub, Nat.reduceAdd, Nat.reduceEqDiff, if_true, Bool.true_eq_false, Bool.false_eq_true, if_false, reduceIte, noDict, lenD_tup, lenD_lst, ltD_int, items_tup, items_lst, items_str, eqD_str, eqD_int, neD_str, neD_int, addD_int, subD_int, slD_lst, slD_tup, tuple_lst, tuple_tup, list_lst, list_tup, tyS_str, tyS_tup, F_unk (okf.2.2 x (List.mem_of_mem_drop hx)).lm]
      cases isUnk x <;> rfl
    refine k2.trans (congrArg some ?_)
    induction f.drop 1 with
    | nil => rfl
    | cons x r ih =>
      rw [List.flatMap_cons, ih]
      cases hx : isUnk x
      · rw [List.filter_cons_of_neg (by rw [hx]; decide)]
        rfl
      · rw [List.filter_cons_of_pos hx]
        rfl
  refine co1 (sort_is (xs := L.map bT') rfl k1 ?_)
  unfold srtF
  rw [view_str, Option.bind_some, if_pos few]
  rfl
end My
namespace My
open PySem PySem.Spec PyProof.Rows L2
def ShN (n : Nat) (d : PyData) : Prop := d.canLay0 = true ∧ d.depth ≤ n
theorem lays_iff : ∀ {xs : List PyData}, PyData.canLayAll0 xs = true ↔ ∀ x ∈ xs, x.canLay0 = true
  | [] => by simp [PyData.canLayAll0]
  | x :: xs => by
    simp only [PyData.canLayAll0, Bool.and_eq_true, List.mem_cons, forall_eq_or_imp]
    rw [lays_iff]
theorem deps_le {n : Nat} : ∀ {xs : List PyData}, PyData.depthAll xs ≤ n ↔ ∀ x ∈ xs, x.depth ≤ n
  | [] => by simp [PyData.depthAll]
  | x :: xs => by
    simp only [PyData.depthAll, List.mem_cons, forall_eq_or_imp, Nat.max_le]
    rw [deps_le]
theorem ShN.tup {n : Nat} {xs : List PyData} : ShN (n + 1) (.tuple xs) ↔ ∀ x ∈ xs, ShN n x := by
  unfold ShN
  simp only [PyData.canLay0, PyData.depth, Nat.add_le_add_iff_right]
  rw [lays_iff, deps_le]
  exact ⟨fun h x m => ⟨h.1 x m, h.2 x m⟩, fun h => ⟨fun x m => (h x m).1, fun x m => (h x m).2⟩⟩
theorem ShN.lst {n : Nat} {xs : List PyData} : ShN (n + 1) (.list xs) ↔ ∀ x ∈ xs, ShN n x := by
  unfold ShN
  simp only [PyData.canLay0, PyData.depth, Nat.add_le_add_iff_right]
  rw [lays_iff, deps_le]
  exact ⟨fun h x m => ⟨h.1 x m, h.2 x m⟩, fun h => ⟨fun x m => (h x m).1, fun x m => (h x m).2⟩⟩
theorem ShN.mono {n m : Nat} {d : PyData} (h : ShN n d) (l : n ≤ m) : ShN m d := ⟨h.1, Nat.le_trans h.2 l⟩
theorem ShN.sh {d : PyData} (h : ShN 64 d) : SeqAt.shaped d = true := by
  unfold SeqAt.shaped
  rw [h.1, decide_eq_true h.2]
  rfl
theorem ShN.str {n : Nat} {z : Str} (h : ∀ c ∈ z.cps.toList, c < 1000) : ShN n (.str z) := by
  refine ⟨?_, by simp [PyData.depth]⟩
  simp only [PyData.canLay0]
  unfold PyData.strOk
  rw [← Array.all_toList]
  exact List.all_eq_true.mpr fun c hc => decide_eq_true (Nat.lt_of_lt_of_le (h c hc) (by decide))
def SgnOk (z : Str) : Prop := (∀ c ∈ z.cps.toList, c < 1000) ∧ Txt1 z
def ValOk (z : Str) : Prop := wrdB z = true ∨ isUnk z = true
def FactG (f : List Str) : Prop := ∃ r ws, f = r :: ws ∧ wrdB r = true ∧ 1 ≤ ws.length ∧ ws.length ≤ 4 ∧ ∀ y ∈ ws, ValOk y
def GoodL (L : List (List Str)) : Prop := L.length ≤ 60 ∧ ∀ f ∈ L, FactG f
theorem wrd_sgn {z : Str} (h : wrdB z = true) : SgnOk z := by
  unfold wrdB at h
  simp only [Bool.and_eq_true, decide_eq_true_eq, List.all_eq_true] at h
  refine ⟨fun c hc => ?_, h.1.1, by omega⟩
  have z := h.2 c hc
  unfold letS at z
  simp only [List.mem_map, List.mem_range] at z
  obtain ⟨a, l, e⟩ := z
  omega
theorem unk_sgn {z : Str} (h : isUnk z = true) : SgnOk z := by
  rw [isUnk_is] at h
  simp only [Bool.and_eq_true, decide_eq_true_eq, List.all_eq_true] at h
  obtain ⟨⟨⟨h1, h2, h3⟩, _⟩, h5⟩ := h
  refine ⟨fun c hc => ?_, by omega, by omega⟩
  cases e : z.cps.toList with
  | nil => rw [e] at hc; cases hc
  | cons a r =>
    rw [e] at h1 h5 hc
    rcases List.mem_cons.mp hc with rfl | hc
    · have z := Option.some.inj h1
      omega
    · have z := h5 c hc
      unfold digS at z
      simp only [List.mem_cons, List.not_mem_nil, or_false] at z
      omega
theorem val_sgn {z : Str} (h : ValOk z) : SgnOk z := h.elim wrd_sgn unk_sgn
theorem FactG.okF {f : List Str} (h : FactG f) : OkF f := by
  obtain ⟨r, ws, rfl, h1, h2, h3, h4⟩ := h
  refine ⟨by simp, by simp only [List.length_cons]; omega, fun x hx => ?_⟩
  rcases List.mem_cons.mp hx with rfl | hx
  · exact (wrd_sgn h1).2
  · exact (val_sgn (h4 x hx)).2
theorem GoodL.okL {L : List (List Str)} (h : GoodL L) : OkL L := ⟨by have := h.1; omega, fun f hf => (h.2 f hf).okF⟩
theorem fst_head {z : Str} : fst z = (z.cps.toList.head?).getD 0 := by
  unfold fst
  obtain ⟨a⟩ := z
  obtain ⟨l⟩ := a
  cases l <;> rfl
theorem wrd_nmd {z : Str} (h : wrdB z = true) : nmd z = false := by
  unfold wrdB at h
  simp only [Bool.and_eq_true, decide_eq_true_eq, List.all_eq_true] at h
  unfold nmd
  refine decide_eq_false fun e => ?_
  rw [fst_head] at e
  have l := cps_len z
  cases ez : z.cps.toList with
  | nil => rw [ez] at l; simp only [List.length_nil] at l; omega
  | cons a r =>
    rw [ez] at e
    have z := h.2 a (by rw [ez]; exact List.mem_cons_self)
    unfold letS at z
    simp only [List.mem_map, List.mem_range] at z
    obtain ⟨b, l, e2⟩ := z
    have e3 : a = 63 := e
    omega
theorem unk_nmd {z : Str} (h : isUnk z = true) : nmd z = true := by
  rw [isUnk_is] at h
  simp only [Bool.and_eq_true, decide_eq_true_eq] at h
  unfold nmd
  refine decide_eq_true ?_
  rw [fst_head, h.1.1.1]
  rfl
theorem wrd_unk {z : Str} (h : wrdB z = true) : isUnk z = false := by
  cases e : isUnk z with
  | false => rfl
  | true =>
    have a := wrd_nmd h
    rw [unk_nmd e] at a
    cases a
theorem val_nmd {z : Str} (h : ValOk z) : nmd z = isUnk z := by
  rcases h with h | h
  · rw [wrd_nmd h, wrd_unk h]
  · rw [unk_nmd h, h]
theorem good_nm {L : List (List Str)} (h : GoodL L) : nmL L = unkL L := by
  unfold nmL unkL
  have z := h.2
  clear h
  induction L with
  | nil => rfl
  | cons f L ih =>
    rw [List.flatMap_cons, List.flatMap_cons, ih fun g hg => z g (List.mem_cons_of_mem _ hg)]
    congr 1
    obtain ⟨r, ws, rfl, _, _, _, h4⟩ := z f List.mem_cons_self
    exact List.filter_congr fun y hy => val_nmd (h4 y hy)
theorem good_nms {L : List (List Str)} (h : GoodL L) : nms L = uns L := by
  unfold nms uns
  rw [good_nm h]
theorem uns_mem {L : List (List Str)} {x : Str} : x ∈ uns L ↔ ∃ f ∈ L, x ∈ f.drop 1 ∧ isUnk x = true := by
  unfold uns
  rw [srt_mem, ddU_mem]
  unfold unkL
  rw [List.mem_flatMap]
  exact ⟨fun ⟨f, h1, h2⟩ => ⟨f, h1, List.mem_filter.mp h2⟩, fun ⟨f, h1, h2⟩ => ⟨f, h1, List.mem_filter.mpr h2⟩⟩
theorem uns_nd (L : List (List Str)) : (uns L).Nodup := srt_nd (ddU_nd _)
end My
namespace My
open PySem PySem.Spec PyProof.Rows L2
theorem ltK_cons_ (x y : Str) (xs ys : List Str) : ltK (x :: xs) (y :: ys) = if x = y then ltK xs ys else ltS x y := rfl
def mayK (ks ms : List Str) : Bool := ltK ks ms && (!decide (ks.head? = ms.head?) || decide (ks.length = ms.length))
def adjL (L : List (List Str)) : Bool := (L.zip (L.drop 1)).all fun p => mayK p.1 p.2
def OneW (L : List (List Str)) : Prop := ∀ k ∈ L, ∀ m ∈ L, k.head? = m.head? → k.length = m.length
theorem adjL_cons (k m : List Str) (r : List (List Str)) : adjL (k :: m :: r) = (mayK k m && adjL (m :: r)) := rfl
theorem ltK_head {x y : Str} {xs ys : List Str} (h : ltK (x :: xs) (y :: ys) = true) : x = y ∨ ltS x y = true := by
  rw [ltK_cons_] at h
  by_cases e : x = y
  · exact .inl e
  · rw [if_neg e] at h
    exact .inr h
theorem adj_asc : ∀ {L : List (List Str)}, (∀ k ∈ L, k ≠ []) → (adjL L = true ↔ Asc ltK L ∧ OneW L)
  | [], _ => ⟨fun _ => ⟨.nil, fun k h => nomatch h⟩, fun _ => rfl⟩
  | [k], _ => ⟨fun _ => ⟨List.pairwise_singleton _ _, fun a ha b hb _ => by rw [List.mem_singleton.mp ha, List.mem_singleton.mp hb]⟩, fun _ => rfl⟩
  | k :: m :: r, ne => by
    have ih := adj_asc (L := m :: r) fun j hj => ne j (List.mem_cons_of_mem _ hj)
    rw [adjL_cons, Bool.and_eq_true, ih]
    obtain ⟨x, xs, rfl⟩ := List.exists_cons_of_ne_nil (ne k List.mem_cons_self)
    obtain ⟨y, ys, rfl⟩ := List.exists_cons_of_ne_nil (ne m (List.mem_cons_of_mem _ List.mem_cons_self))
    constructor
    · rintro ⟨hm, asc, one⟩
      unfold mayK at hm
      rw [Bool.and_eq_true] at hm
      obtain ⟨lt, w⟩ := hm
      have all : ∀ j ∈ (y :: ys) :: r, ltK (x :: xs) j = true := fun j hj => by
        rcases List.mem_cons.mp hj with rfl | hj
        · exact lt
        · exact tot_key.trans _ _ _ lt ((List.pairwise_cons.mp asc).1 j hj)
      have key : ∀ j ∈ (y :: ys) :: r, (x :: xs).head? = j.head? → (x :: xs).length = j.length := fun j hj e => by
        have hxy : x = y := by
          rcases ltK_head lt with h | h
          · exact h
          · exfalso
            obtain ⟨z, zs, rfl⟩ := List.exists_cons_of_ne_nil (ne j (List.mem_cons_of_mem _ hj))
            have exz : x = z := Option.some.inj e
            subst exz
            rcases List.mem_cons.mp hj with hj | hj
            · have e2 : x = y := (List.cons.inj hj).1
              rw [e2, tot_str.irr] at h
              cases h
            · rcases ltK_head ((List.pairwise_cons.mp asc).1 _ hj) with h2 | h2
              · rw [h2, tot_str.irr] at h
                cases h
              · have h3 := tot_str.trans _ _ _ h h2
                rw [tot_str.irr] at h3
                cases h3
        have e1 : (x :: xs).length = (y :: ys).length := by
          rcases Bool.or_eq_true_iff.mp w with h | h
          · rw [hxy] at h
            simp at h
          · exact of_decide_eq_true h
        rw [e1]
        refine one _ List.mem_cons_self j hj ?_
        rw [← e, hxy]
        rfl
      refine ⟨List.pairwise_cons.mpr ⟨all, asc⟩, fun a ha b hb e => ?_⟩
      rcases List.mem_cons.mp ha with rfl | ha
      · rcases List.mem_cons.mp hb with rfl | hb
        · rfl
        · exact key b hb e
      · rcases List.mem_cons.mp hb with rfl | hb
        · exact (key a ha e.symm).symm
        · exact one a ha b hb e
    · rintro ⟨asc, one⟩
      obtain ⟨h1, h2⟩ := List.pairwise_cons.mp asc
      refine ⟨?_, h2, fun a ha b hb => one a (List.mem_cons_of_mem _ ha) b (List.mem_cons_of_mem _ hb)⟩
      unfold mayK
      rw [h1 _ List.mem_cons_self, Bool.true_and]
      by_cases e : (x :: xs).head? = (y :: ys).head?
      · rw [decide_eq_true (one _ List.mem_cons_self _ (List.mem_cons_of_mem _ List.mem_cons_self) e), Bool.or_true]
      · rw [decide_eq_false e]
        rfl
end My
namespace My
open PySem PySem.Spec PyProof.Rows L2
def S_is_word : SF :=
  (fSeq (fIfS (tfNot (tfE (fIsi (isC "str") (fV 0)))) (fRet (fC (.bool false))) fNil)
    (fRet (fAnd (fChain (ltD fun i j => decide (i ≤ j)) (ltD fun i j => decide (i ≤ j)) (fC (.int 1)) (fCall lenD (fCo (fV 0) fN)) (fC (.int 8))) (fCall allD (fCo (fLc (afV (fV 0)) (gN 1) tfYes (fOp (inD false) (fV 1) (fC (.str "abcdefghijklmnopqrstuvwxyz"))) [1]) fN)))))
def F_is_word : List PyData → Option PyData := fnF 1 2 S_is_word
theorem at_is_word (x0 : PyData) : F_is_word [x0] = (S_is_word [some (.d x0), none]).bind outF := rfl
end My
namespace My
open PySem PySem.Spec PyProof.Rows L2
def S_is_value : SF :=
  (fRet (fOr (fCall F_is_word (fCo (fV 0) fN)) (fCall F_is_unknown (fCo (fV 0) fN))))
def F_is_value : List PyData → Option PyData := fnF 1 1 S_is_value
theorem at_is_value (x0 : PyData) : F_is_value [x0] = (S_is_value [some (.d x0)]).bind outF := rfl
end My
namespace My
open PySem PySem.Spec PyProof.Rows L2
def S_is_fact : SF :=
  (fSeq (fIfS (tfOr (tfNot (tfE (fIsi (isC "tuple") (fV 0)))) (tfNot (tfE (fChain (ltD fun i j => decide (i ≤ j)) (ltD fun i j => decide (i ≤ j)) (fC (.int 2)) (fCall lenD (fCo (fV 0) fN)) (fC (.int 5)))))) (fRet (fC (.bool false))) fNil)
    (fRet (fAnd (fCall F_is_word (fCo (fOp ixD (fV 0) (fC (.int 0))) fN)) (fCall allD (fCo (fLc (afV (fSl slD (fV 0) (ofS (fC (.int 1))) ofN)) (gN 1) tfYes (fCall F_is_value (fCo (fV 1) fN)) [1]) fN)))))
def F_is_fact : List PyData → Option PyData := fnF 1 2 S_is_fact
theorem at_is_fact (x0 : PyData) : F_is_fact [x0] = (S_is_fact [some (.d x0), none]).bind outF := rfl
end My
namespace My
open PySem PySem.Spec PyProof.Rows L2
def S_may_follow : SF :=
  (fRet (fAnd (fOp ltX (fV 0) (fV 1)) (fOr (fOp neD (fOp ixD (fV 0) (fC (.int 0))) (fOp ixD (fV 1) (fC (.int 0)))) (fOp eqD (fCall lenD (fCo (fV 0) fN)) (fCall lenD (fCo (fV 1) fN))))))
def F_may_follow : List PyData → Option PyData := fnF 2 2 S_may_follow
theorem at_may_follow (x0 x1 : PyData) : F_may_follow [x0, x1] = (S_may_follow [some (.d x0), some (.d x1)]).bind outF := rfl
end My
namespace My
open PySem PySem.Spec PyProof.Rows L2
def S_is_store : SF :=
  (fSeq (fIfS (tfOr (tfNot (tfE (fIsi (isC "tuple") (fV 0)))) (tfNot (tfE (fCall allD (fCo (fLc (afV (fV 0)) (gN 1) tfYes (fCall F_is_fact (fCo (fV 1) fN)) [1]) fN))))) (fRet (fC (.bool false))) fNil)
    (fRet (fCall allD (fCo (fLc (afZk (fCo (fV 0) (fCo (fSl slD (fV 0) (ofS (fC (.int 1))) ofN) fN))) (gT 2 (gsC (gN 1) (gsC (gN 2) gsN))) tfYes (fCall F_may_follow (fCo (fV 1) (fCo (fV 2) fN))) [1, 2]) fN))))
def F_is_store : List PyData → Option PyData := fnF 1 3 S_is_store
theorem at_is_store (x0 : PyData) : F_is_store [x0] = (S_is_store [some (.d x0), none, none]).bind outF := rfl
end My
namespace My
open PySem PySem.Spec PyProof.Rows L2
theorem and_is {a b : EF} {ρ : DEnv} {x y : Bool} (h : a ρ = some (.bool x)) (k : x = true → b ρ = some (.bool y)) : fAnd a b ρ = some (.bool (x && y)) := by
  unfold fAnd
  rw [h]
  cases x with
  | true => exact k rfl
  | false => rfl
theorem or_is {a b : EF} {ρ : DEnv} {x y : Bool} (h : a ρ = some (.bool x)) (k : x = false → b ρ = some (.bool y)) : fOr a b ρ = some (.bool (x || y)) := by
  unfold fOr
  rw [h]
  cases x with
  | true => rfl
  | false => exact k rfl
theorem tb_is {e : EF} {ρ : DEnv} {b : Bool} (h : e ρ = some (.bool b)) : tfE e ρ = some b := by
  unfold tfE
  rw [h]
  rfl
theorem tnot_is {f : TF} {ρ : DEnv} {b : Bool} (h : f ρ = some b) : tfNot f ρ = some (!b) := by
  unfold tfNot
  rw [h]
  rfl
theorem tor_is {f g : TF} {ρ : DEnv} {x y : Bool} (h : f ρ = some x) (k : x = false → g ρ = some y) : tfOr f g ρ = some (x || y) := by
  unfold tfOr
  rw [h]
  cases x with
  | true => rfl
  | false => exact k rfl
theorem tand_is {f g : TF} {ρ : DEnv} {x y : Bool} (h : f ρ = some x) (k : x = true → g ρ = some y) : tfAnd f g ρ = some (x && y) := by
  unfold tfAnd
  rw [h]
  cases x with
  | true => exact k rfl
  | false => rfl
theorem chain_is {a : EF} {ρ : DEnv} {m lo hi : Int} (h : a ρ = some (.int m)) : fChain (ltD fun i j => decide (i ≤ j)) (ltD fun i j => decide (i ≤ j)) (fC (.int lo)) a (fC (.int hi)) ρ = some (.bool (decide (lo ≤ m) && decide (m ≤ hi))) := by
  unfold fChain fC
  rw [h]
  by_cases c1 : lo ≤ m
  · by_cases c2 : m ≤ hi
    · simp only [fC, fV, fN, fCo, fTup, fLst, fOp, fCall, tfE, tfTr, tfYes, tfNot, tfAnd, tfOr, fAnd, fOr, fNot, fIf, ofN, ofS, fSl, fChain, fIsi, afV, afR, afZ, afZk, zipKF, fLc, fLc2, fTwo, fOne, fSort, fSortSet, fGet, fOIn, fOGet, fOLen, fOIx, fRepr, fRev, fMeth, fNil, fSeq, fSet, fAsg, fRet, fIfS, fFor, fNewL, fApp, fExt, fGive, fNewK, fMakeK, fPutK, fGiveK, outF, envF, fnF, stF, stB, gN, gT, gsC, gsN, wipeD, getF, ownK, ownL, asB, asK, asL, asS, List.getElem?_cons_zero, List.getElem?_cons_succ, Option.bind_some, Option.map_some, Option.bind_none, Option.map_none, List.map_cons, List.map_nil, List.cons_append, List.nil_append, List.set_cons_zero, List.set_cons_succ, List.length_cons, List.length_nil, List.replicate_succ, List.replicate_zero, Nat.reduceSub, Nat.reduceAdd, Nat.reduceEqDiff, if_true, Bool.true_eq_false, Bool.false_eq_true, if_false, reduceIte, noDict, lenD_tup, lenD_lst, ltD_int, items_tup, items_lst, items_str, eqD_str, eqD_int, neD_str, neD_int, addD_int, subD_int, slD_lst, slD_tup, tuple_lst, tuple_tup, list_lst, list_tup, tyS_str, tyS_tup, decide_eq_true c1, decide_eq_true c2]
      rfl
    · simp only [fC, fV, fN, fCo, fTup, fLst, fOp, fCall, tfE, tfTr, tfYes, tfNot, tfAnd, tfOr, fAnd, fOr, fNot, fIf, ofN, ofS, fSl, fChain, fIsi, afV, afR, afZ, afZk, zipKF, fLc, fLc2, fTwo, fOne, fSort, fSortSet, fGet, fOIn, fOGet, fOLen, fOIx, fRepr, fRev, fMeth, fNil, fSeq, fSet, fAsg, fRet, fIfS, fFor, fNewL, fApp, fExt, fGive, fNewK, fMakeK, fPutK, fGiveK, outF, envF, fnF, stF, stB, gN, gT, gsC, gsN, wipeD, getF, ownK, ownL, asB, asK, asL, asS, List.getElem?_cons_zero, List.getElem?_cons_succ, Option.bind_some, Option.map_some, Option.bind_none, Option.map_none, List.map_cons, List.map_nil, List.cons_append, List.nil_append, List.set_cons_zero, List.set_cons_succ, List.length_cons, List.length_nil, List.replicate_succ, List.replicate_zero, Nat.reduceSub, Nat.reduceAdd, Nat.reduceEqDiff, if_true, Bool.true_eq_false, Bool.false_eq_true, if_false, reduceIte, noDict, lenD_tup, lenD_lst, ltD_int, items_tup, items_lst, items_str, eqD_str, eqD_int, neD_str, neD_int, addD_int, subD_int, slD_lst, slD_tup, tuple_lst, tuple_tup, list_lst, list_tup, tyS_str, tyS_tup, decide_eq_true c1, decide_eq_false c2]
      rfl
  · simp only [fC, fV, fN, fCo, fTup, fLst, fOp, fCall, tfE, tfTr, tfYes, tfNot, tfAnd, tfOr, fAnd, fOr, fNot, fIf, ofN, ofS, fSl, fChain, fIsi, afV, afR, afZ, afZk, zipKF, fLc, fLc2, fTwo, fOne, fSort, fSortSet, fGet, fOIn, fOGet, fOLen, fOIx, fRepr, fRev, fMeth, fNil, fSeq, fSet, fAsg, fRet, fIfS, fFor, fNewL, fApp, fExt, fGive, fNewK, fMakeK, fPutK, fGiveK, outF, envF, fnF, stF, stB, gN, gT, gsC, gsN, wipeD, getF, ownK, ownL, asB, asK, asL, asS, List.getElem?_cons_zero, List.getElem?_cons_succ, Option.bind_some, Option.map_some, Option.bind_none, Option.map_none, List.map_cons, List.map_nil, List.cons_append, List.nil_append, List.set_cons_zero, List.set_cons_succ, List.length_cons, List.length_nil, List.replicate_succ, List.replicate_zero, Nat.reduceSub, Nat.reduceAdd, Nat.reduceEqDiff, if_true, Bool.true_eq_false, Bool.false_eq_true, if_false, reduceIte, noDict, lenD_tup, lenD_lst, ltD_int, items_tup, items_lst, items_str, eqD_str, eqD_int, neD_str, neD_int, addD_int, subD_int, slD_lst, slD_tup, tuple_lst, tuple_tup, list_lst, list_tup, tyS_str, tyS_tup, decide_eq_false c1]
    rfl
theorem let_in (c : Nat) : inD false (.str ⟨#[c]⟩) (.str "abcdefghijklmnopqrstuvwxyz") = some (.bool (decide (c ∈ letS))) := by
  have z := letn_is c
  rw [inD_sign] at z ⊢
  simpa using z
theorem F_word {d : PyData} (h : okD d = true) : F_is_word [d] = some (.bool (wrdD d)) := by
  rw [at_is_word]
  unfold S_is_word
  cases d with
  | str z =>
    have lz := okD_str h
    have lv : (z.cps.toList.map fun c => PyData.str ⟨#[c]⟩).length ≤ lim := by
      rw [List.length_map, cps_len]
      exact lz
    refine out_rt ((seq_nx (ρ' := [some (.d (.str z)), none]) ((ifS_f ?_).trans rfl)).trans (ret_is ?_))
    · rfl
    · show _ = some (PyData.bool (wrdB z))
      have k1 : fLc (afV (fV 0)) (gN 1) tfYes (fOp (inD false) (fV 1) (fC (.str "abcdefghijklmnopqrstuvwxyz"))) [1] [some (.d (.str z)), none] = some (.list (z.cps.toList.map fun c => PyData.bool (decide (c ∈ letS)))) := lc_is (xs := z.cps.toList.map fun c => PyData.str ⟨#[c]⟩) rfl lv (lcF_map fun c _ => st_yes rfl (op_is rfl rfl (let_in c)))
      rw [and_is (chain_is (call_is (co1 (rfl : (fV 0) [some (.d (.str z)), none] = some (.str z))) (lenD_str lz))) fun _ => call_is (co1 k1) allD_map]
      unfold wrdB
      rw [show decide ((1 : Int) ≤ (z.length : Int)) = decide (1 ≤ z.length) from decide_eq_decide.mpr (by omega), show decide ((z.length : Int) ≤ 8) = decide (z.length ≤ 8) from decide_eq_decide.mpr (by omega)]
  | dict _ => simp only [okD] at h; cases h
  | _ => rfl
theorem F_unkD {d : PyData} (h : okD d = true) : F_is_unknown [d] = some (.bool (unkD d)) := by
  cases d with
  | str z => exact F_unk (okD_str h)
  | dict _ => simp only [okD] at h; cases h
  | _ => rfl
def valB (d : PyData) : Bool := wrdD d || unkD d
theorem F_value {d : PyData} (h : okD d = true) : F_is_value [d] = some (.bool (valB d)) := by
  rw [at_is_value]
  unfold S_is_value
  exact out_rt (ret_is (or_is (call_is (co1 rfl) (F_word h)) fun _ => call_is (co1 rfl) (F_unkD h)))
def factB : PyData → Bool
  | .tuple (x :: ys) => (decide (1 ≤ ys.length) && decide (ys.length ≤ 4)) && (wrdD x && ys.all valB)
  | _ => false
theorem F_fact {d : PyData} (h : okD d = true) : F_is_fact [d] = some (.bool (factB d)) := by
  rw [at_is_fact]
  unfold S_is_fact
  cases d with
  | tuple xs =>
    obtain ⟨lx, ok⟩ := okD_tup h
    have e1 : (tfOr (tfNot (tfE (fIsi (isC "tuple") (fV 0)))) (tfNot (tfE (fChain (ltD fun i j => decide (i ≤ j)) (ltD fun i j => decide (i ≤ j)) (fC (.int 2)) (fCall lenD (fCo (fV 0) fN)) (fC (.int 5)))))) [some (.d (.tuple xs)), none] = some (!(decide ((2 : Int) ≤ (xs.length : Int)) && decide ((xs.length : Int) ≤ 5))) := by
      refine (tor_is (x := false) (tnot_is (b := true) rfl) fun _ => tnot_is (tb_is (chain_is (call_is (co1 rfl) rfl)))).trans ?_
      rw [Bool.false_or]
    cases c : decide ((2 : Int) ≤ (xs.length : Int)) && decide ((xs.length : Int) ≤ 5) with
    | false =>
      rw [c] at e1
      refine (out_rt (seq_rt ((ifS_t e1).trans rfl))).trans ?_
      cases xs with
      | nil => rfl
      | cons x ys =>
        show _ = some (PyData.bool ((decide (1 ≤ ys.length) && decide (ys.length ≤ 4)) && (wrdD x && ys.all valB)))
        rw [List.length_cons] at c
        rw [show (decide (1 ≤ ys.length) && decide (ys.length ≤ 4)) = false by
          rw [← c]
          congr 1 <;> exact decide_eq_decide.mpr (by omega), Bool.false_and]
    | true =>
      rw [c] at e1
      rw [Bool.and_eq_true, decide_eq_true_eq, decide_eq_true_eq] at c
      cases xs with
      | nil => exact absurd c.1 (by decide)
      | cons x ys =>
        rw [List.length_cons] at c
        have k1 : fLc (afV (fSl slD (fV 0) (ofS (fC (.int 1))) ofN)) (gN 1) tfYes (fCall F_is_value (fCo (fV 1) fN)) [1] [some (.d (.tuple (x :: ys))), none] = some (.list (ys.map fun y => PyData.bool (valB y))) := by
          refine lc_is (xs := ys) ?_ (by show _ ≤ 1000000; omega) (lcF_map0 fun y hy => st_yes rfl (call_is (co1 rfl) (F_value (ok y (List.mem_cons_of_mem _ hy)))))
          simp only [fC, fV, fN, fCo, fTup, fLst, fOp, fCall, tfE, tfTr, tfYes, tfNot, tfAnd, tfOr, fAnd, fOr, fNot, fIf, ofN, ofS, fSl, fChain, fIsi, afV, afR, afZ, afZk, zipKF, fLc, fLc2, fTwo, fOne, fSort, fSortSet, fGet, fOIn, fOGet, fOLen, fOIx, fRepr, fRev, fMeth, fNil, fSeq, fSet, fAsg, fRet, fIfS, fFor, fNewL, fApp, fExt, fGive, fNewK, fMakeK, fPutK, fGiveK, outF, envF, fnF, stF, stB, gN, gT, gsC, gsN, wipeD, getF, ownK, ownL, asB, asK, asL, asS, List.getElem?_cons_zero, List.getElem?_cons_succ, Option.bind_some, Option.map_some, Option.bind_none, Option.map_none, List.map_cons, List.map_nil, List.cons_append, List.nil_append, List.set_cons_zero, List.set_cons_succ, List.length_cons, List.length_nil, List.replicate_succ, List.replicate_zero, Nat.reduceSub, Nat.reduceAdd, Nat.reduceEqDiff, if_true, Bool.true_eq_false, Bool.false_eq_true, if_false, reduceIte, noDict, lenD_tup, lenD_lst, ltD_int, items_tup, items_lst, items_str, eqD_str, eqD_int, neD_str, neD_int, addD_int, subD_int, slD_lst, slD_tup, tuple_lst, tuple_tup, list_lst, list_tup, tyS_str, tyS_tup, cut_drop1, List.drop_succ_cons, List.drop_zero]
        refine (out_rt ((seq_nx ((ifS_f e1).trans rfl)).trans (ret_is (and_is (call_is (co1 (op_is rfl rfl ix0)) (F_word (ok x List.mem_cons_self))) fun _ => call_is (co1 k1) allD_map)))).trans ?_
        show _ = some (PyData.bool ((decide (1 ≤ ys.length) && decide (ys.length ≤ 4)) && (wrdD x && ys.all valB)))
        rw [decide_eq_true (show 1 ≤ ys.length by omega), decide_eq_true (show ys.length ≤ 4 by omega)]
        rfl
  | dict _ => simp only [okD] at h; cases h
  | _ => rfl
theorem strsD_back : ∀ ks : List Str, strsD (ks.map PyData.str) = some ks
  | [] => rfl
  | k :: ks => by
    show (strsD (ks.map PyData.str)).map (k :: ·) = _
    rw [strsD_back ks]
    rfl
theorem F_may {x y : Str} {xs ys : List Str} (l1 : xs.length ≤ 100) (l2 : ys.length ≤ 100) : F_may_follow [bT' (x :: xs), bT' (y :: ys)] = some (.bool (mayK (x :: xs) (y :: ys))) := by
  rw [at_may_follow]
  unfold S_may_follow
  have a1 : (fOp ltX (fV 0) (fV 1)) [some (.d (bT' (x :: xs))), some (.d (bT' (y :: ys)))] = some (.bool (ltK (x :: xs) (y :: ys))) := by
    refine op_is rfl rfl ?_
    show (strsD ((x :: xs).map PyData.str)).bind _ = _
    rw [strsD_back]
    show (strsD ((y :: ys).map PyData.str)).map _ = _
    rw [strsD_back]
    rfl
  have a2 : (fOp neD (fOp ixD (fV 0) (fC (.int 0))) (fOp ixD (fV 1) (fC (.int 0)))) [some (.d (bT' (x :: xs))), some (.d (bT' (y :: ys)))] = some (.bool (!decide (x = y))) := op_is (op_is rfl rfl ix0) (op_is rfl rfl ix0) rfl
  have a3 : (fOp eqD (fCall lenD (fCo (fV 0) fN)) (fCall lenD (fCo (fV 1) fN))) [some (.d (bT' (x :: xs))), some (.d (bT' (y :: ys)))] = some (.bool (decide ((x :: xs).length = (y :: ys).length))) := by
    refine (op_is (call_is (co1 rfl) (rfl : lenD [bT' (x :: xs)] = some (.int (((x :: xs).map PyData.str).length : Int)))) (call_is (co1 rfl) (rfl : lenD [bT' (y :: ys)] = some (.int (((y :: ys).map PyData.str).length : Int)))) rfl).trans ?_
    rw [List.length_map, List.length_map]
    exact congrArg (fun b => some (PyData.bool b)) (decide_eq_decide.mpr (by omega))
  refine (out_rt (ret_is (and_is a1 fun _ => or_is a2 fun _ => a3))).trans ?_
  unfold mayK
  rw [show decide ((x :: xs).head? = (y :: ys).head?) = decide (x = y) from decide_eq_decide.mpr ⟨Option.some.inj, fun e => congrArg some e⟩]
theorem val_str {d : PyData} (h : valB d = true) : ∃ z, d = .str z ∧ ValOk z := by
  cases d with
  | str z => exact ⟨z, rfl, by
      have h' : (wrdB z || isUnk z) = true := h
      rw [Bool.or_eq_true] at h'
      exact h'⟩
  | _ => cases h
theorem val_of {z : Str} (h : ValOk z) : valB (.str z) = true := by
  show (wrdB z || isUnk z) = true
  rw [Bool.or_eq_true]
  exact h
theorem vals_str : ∀ {ys : List PyData}, ys.all valB = true → ∃ ws : List Str, ys = ws.map PyData.str ∧ ∀ y ∈ ws, ValOk y
  | [], _ => ⟨[], rfl, fun y h => (by cases h)⟩
  | y :: ys, h => by
    rw [List.all_cons, Bool.and_eq_true] at h
    obtain ⟨z, rfl, hz⟩ := val_str h.1
    obtain ⟨ws, rfl, hw⟩ := vals_str h.2
    exact ⟨z :: ws, rfl, fun y hy => (List.mem_cons.mp hy).elim (fun e => e ▸ hz) (hw y)⟩
theorem fact_is {d : PyData} (h : factB d = true) : ∃ f, d = bT' f ∧ FactG f := by
  cases d with
  | tuple xs =>
    cases xs with
    | nil => cases h
    | cons x ys =>
      have h' : ((decide (1 ≤ ys.length) && decide (ys.length ≤ 4)) && (wrdD x && ys.all valB)) = true := h
      simp only [Bool.and_eq_true, decide_eq_true_eq] at h'
      obtain ⟨⟨l1, l2⟩, hx, hy⟩ := h'
      cases x with
      | str z =>
        obtain ⟨ws, rfl, hw⟩ := vals_str hy
        rw [List.length_map] at l1 l2
        exact ⟨z :: ws, rfl, z, ws, rfl, hx, l1, l2, hw⟩
      | _ => cases hx
  | _ => cases h
theorem fact_of {f : List Str} (h : FactG f) : factB (bT' f) = true := by
  obtain ⟨r, ws, rfl, h1, h2, h3, h4⟩ := h
  show ((decide (1 ≤ (ws.map PyData.str).length) && decide ((ws.map PyData.str).length ≤ 4)) && (wrdB r && (ws.map PyData.str).all valB)) = true
  rw [List.length_map, decide_eq_true h2, decide_eq_true h3, h1, List.all_map]
  exact List.all_eq_true.mpr fun y hy => val_of (h4 y hy)
theorem facts_is : ∀ {xs : List PyData}, xs.all factB = true → ∃ L : List (List Str), xs = L.map bT' ∧ ∀ f ∈ L, FactG f
  | [], _ => ⟨[], rfl, fun y h => (by cases h)⟩
  | x :: xs, h => by
    rw [List.all_cons, Bool.and_eq_true] at h
    obtain ⟨f, rfl, hf⟩ := fact_is h.1
    obtain ⟨L, rfl, hL⟩ := facts_is h.2
    exact ⟨f :: L, rfl, fun y hy => (List.mem_cons.mp hy).elim (fun e => e ▸ hf) (hL y)⟩
theorem facts_of {L : List (List Str)} (h : ∀ f ∈ L, FactG f) : (L.map bT').all factB = true := by
  rw [List.all_map]
  exact List.all_eq_true.mpr fun f hf => fact_of (h f hf)
def StoreP (d : PyData) : Prop := ∃ L : List (List Str), d = stD L ∧ (∀ f ∈ L, FactG f) ∧ adjL L = true
theorem str_inj : ∀ {a b : List Str}, a.map PyData.str = b.map PyData.str → a = b
  | [], [], _ => rfl
  | [], _ :: _, h => by simp at h
  | _ :: _, [], h => by simp at h
  | x :: a, y :: b, h => by
    rw [List.map_cons, List.map_cons] at h
    obtain ⟨h1, h2⟩ := List.cons.inj h
    rw [PyData.str.inj h1, str_inj h2]
theorem bT_inj : ∀ {a b : List (List Str)}, a.map bT' = b.map bT' → a = b
  | [], [], _ => rfl
  | [], _ :: _, h => by simp at h
  | _ :: _, [], h => by simp at h
  | x :: a, y :: b, h => by
    rw [List.map_cons, List.map_cons] at h
    obtain ⟨h1, h2⟩ := List.cons.inj h
    rw [str_inj (PyData.tuple.inj h1), bT_inj h2]
theorem F_store {d : PyData} (h : okD d = true) : ∃ b : Bool, F_is_store [d] = some (.bool b) ∧ (b = true ↔ StoreP d) := by
  rw [at_is_store]
  unfold S_is_store
  cases d with
  | tuple xs =>
    obtain ⟨lx, ok⟩ := okD_tup h
    have k1 : fLc (afV (fV 0)) (gN 1) tfYes (fCall F_is_fact (fCo (fV 1) fN)) [1] [some (.d (.tuple xs)), none, none] = some (.list (xs.map fun x => PyData.bool (factB x))) := lc_is (xs := xs) rfl lx (lcF_map0 fun x hx => st_yes rfl (call_is (co1 rfl) (F_fact (ok x hx))))
    have e1 : (tfOr (tfNot (tfE (fIsi (isC "tuple") (fV 0)))) (tfNot (tfE (fCall allD (fCo (fLc (afV (fV 0)) (gN 1) tfYes (fCall F_is_fact (fCo (fV 1) fN)) [1]) fN))))) [some (.d (.tuple xs)), none, none] = some (!xs.all factB) := (tor_is (x := false) (tnot_is (b := true) rfl) fun _ => tnot_is (tb_is (call_is (co1 k1) allD_map))).trans (by rw [Bool.false_or])
    cases c : xs.all factB with
    | false =>
      rw [c] at e1
      refine ⟨false, out_rt (seq_rt ((ifS_t e1).trans rfl)), fun z => (by cases z), ?_⟩
      rintro ⟨L, e, hL, _⟩
      rw [PyData.tuple.inj e, facts_of hL] at c
      cases c
    | true =>
      rw [c] at e1
      obtain ⟨L, rfl, hL⟩ := facts_is c
      have zs : (afZk (fCo (fV 0) (fCo (fSl slD (fV 0) (ofS (fC (.int 1))) ofN) fN))) [some (.d (.tuple (L.map bT'))), none, none] = some ((L.zip (L.drop 1)).map fun p => .tuple [bT' p.1, bT' p.2]) := by
        have sl : fSl slD (fV 0) (ofS (fC (.int 1))) ofN [some (.d (.tuple (L.map bT'))), none, none] = some (.tuple ((L.drop 1).map bT')) := by
          simp only [fC, fV, fN, fCo, fTup, fLst, fOp, fCall, tfE, tfTr, tfYes, tfNot, tfAnd, tfOr, fAnd, fOr, fNot, fIf, ofN, ofS, fSl, fChain, fIsi, afV, afR, afZ, afZk, zipKF, fLc, fLc2, fTwo, fOne, fSort, fSortSet, fGet, fOIn, fOGet, fOLen, fOIx, fRepr, fRev, fMeth, fNil, fSeq, fSet, fAsg, fRet, fIfS, fFor, fNewL, fApp, fExt, fGive, fNewK, fMakeK, fPutK, fGiveK, outF, envF, fnF, stF, stB, gN, gT, gsC, gsN, wipeD, getF, ownK, ownL, asB, asK, asL, asS, List.getElem?_cons_zero, List.getElem?_cons_succ, Option.bind_some, Option.map_some, Option.bind_none, Option.map_none, List.map_cons, List.map_nil, List.cons_append, List.nil_append, List.set_cons_zero, List.set_cons_succ, List.length_cons, List.length_nil, List.replicate_succ, List.replicate_zero, Nat.reduceSub, Nat.reduceAdd, Nat.reduceEqDiff, if_true, Bool.true_eq_false, Bool.false_eq_true, if_false, reduceIte, noDict, lenD_tup, lenD_lst, ltD_int, items_tup, items_lst, items_str, eqD_str, eqD_int, neD_str, neD_int, addD_int, subD_int, slD_lst, slD_tup, tuple_lst, tuple_tup, list_lst, list_tup, tyS_str, tyS_tup, cut_drop1]
          rw [List.map_drop]
        unfold afZk
        rw [co_is rfl (co1 sl), Option.bind_some]
        show some (((L.map bT').zip ((L.drop 1).map bT')).map _) = _
        rw [List.zip_map, List.map_map]
        rfl
      have lz : ((L.zip (L.drop 1)).map fun p => PyData.tuple [bT' p.1, bT' p.2]).length ≤ lim := by
        rw [List.length_map, List.length_zip]
        rw [List.length_map] at lx
        exact Nat.le_trans (Nat.min_le_left _ _) lx
      have k2 : fLc (afZk (fCo (fV 0) (fCo (fSl slD (fV 0) (ofS (fC (.int 1))) ofN) fN))) (gT 2 (gsC (gN 1) (gsC (gN 2) gsN))) tfYes (fCall F_may_follow (fCo (fV 1) (fCo (fV 2) fN))) [1, 2] [some (.d (.tuple (L.map bT'))), none, none] = some (.list ((L.zip (L.drop 1)).map fun p => PyData.bool (mayK p.1 p.2))) := by
        refine lc_is zs lz (lcF_map fun p hp => ?_)
        obtain ⟨m1, m2⟩ := List.of_mem_zip (show (p.1, p.2) ∈ L.zip (L.drop 1) from hp)
        obtain ⟨r1, w1, e1, _, _, l1, _⟩ := hL _ m1
        obtain ⟨r2, w2, e2, _, _, l2, _⟩ := hL _ (List.mem_of_mem_drop m2)
        refine st_yes (ρ' := [some (.d (.tuple (L.map bT'))), some (.d (bT' p.1)), some (.d (bT' p.2))]) rfl (call_is (co_is rfl (co1 rfl)) ?_)
        rw [e1, e2]
        exact F_may (by omega) (by omega)
      refine ⟨adjL L, out_rt ((seq_nx ((ifS_f e1).trans rfl)).trans (ret_is (call_is (co1 k2) allD_map))), fun z => ⟨L, rfl, hL, z⟩, ?_⟩
      rintro ⟨M, e, _, z⟩
      rw [bT_inj (PyData.tuple.inj e)]
      exact z
  | dict _ => simp only [okD] at h; cases h
  | _ => exact ⟨false, rfl, fun z => (by cases z), fun ⟨L, e, _⟩ => (by cases e)⟩
end My
namespace My
open PySem PySem.Spec PyProof.Rows L2
theorem one_lst {xs : List PyData} {n : Nat} {Q : PyData → Nat → Prop} (ne : xs ≠ []) (l : xs.length ≤ 1000000) (hn : n < 1073741824) (q : ∀ y ∈ xs, Q y (n + 1)) : W_one [.list xs] n Q := ⟨xs, .list xs, rfl, rfl, rfl, ne, l, hn, q⟩
theorem draw_nat {m : Int} {n : Nat} {Q : PyData → Nat → Prop} (m0 : 0 < m) (m1 : m < 1073741824) (hn : n < 1073741824) (q : ∀ c : Nat, (c : Int) < m → Q (.int (c : Int)) (n + 1)) : W_draw [.int m] n Q := ⟨m, rfl, m0, m1, hn, fun v v0 v1 => by
  obtain ⟨c, rfl⟩ := Int.eq_ofNat_of_zero_le v0
  exact q c v1⟩
theorem items_len {x : PyData} {xs : List PyData} (h : itemsD x = some xs) (l : xs.length ≤ lim) : lenD [x] = some (.int (xs.length : Int)) ∧ ∀ (j : Nat) (y : PyData), xs[j]? = some y → ixD x (.int (j : Int)) = some y := by
  cases x with
  | list ys =>
    cases h
    exact ⟨rfl, fun j y e => atI_nat e⟩
  | tuple ys =>
    cases h
    exact ⟨rfl, fun j y e => atI_nat e⟩
  | str z =>
    cases h
    rw [List.length_map, cps_len] at l
    refine ⟨by rw [lenD_str l, List.length_map, cps_len], fun j y e => ?_⟩
    rw [List.getElem?_map] at e
    obtain ⟨c, e1, rfl⟩ := Option.map_eq_some_iff.mp e
    exact str_at l e1
  | _ => cases h
theorem tup1_is {f : EF} {ρ : DEnv} {x : PyData} (h : f ρ = some x) : fTup (fCo f fN) ρ = some (.tuple [x]) := by
  unfold fTup
  rw [co1 h, Option.bind_some]
  exact if_pos (show 1 ≤ lim by decide)
theorem afR_is {f : EF} {ρ : DEnv} {m : Int} (h : f ρ = some (.int m)) (h1 : -(2 ^ 62) ≤ m) (h2 : m < 2 ^ 62) : afR (fCo f fN) ρ = some (rangeD m) := by
  unfold afR
  rw [co1 h, Option.bind_some]
  exact if_pos ⟨h1, h2⟩
theorem range_at {m : Int} {i : Nat} {x : PyData} (h : (rangeD m)[i]? = some x) : i < m.toNat ∧ x = .int (i : Int) := by
  have l := (List.getElem?_eq_some_iff.mp h).1
  rw [rangeD_len] at l
  unfold rangeD at h
  rw [List.getElem?_map, List.getElem?_range l] at h
  refine ⟨l, ?_⟩
  have z := Option.some.inj h
  rw [← z]
  show PyData.int (0 + (i : Int)) = _
  rw [Int.zero_add]
end My
namespace My
open PySem PySem.Spec PyProof.Rows L2
mutual
def gvD : PyData → Bool
  | .none => true
  | .bool _ => true
  | .int i => decide (0 ≤ i) && decide (i ≤ 9)
  | .str x => x.cps.toList.all fun c => decide (c < 1000)
  | .list xs => gvAll xs
  | .tuple xs => gvAll xs
  | .dict _ => false
def gvAll : List PyData → Bool
  | [] => true
  | d :: ds => gvD d && gvAll ds
end
theorem gvAll_iff : ∀ {xs : List PyData}, gvAll xs = true ↔ ∀ x ∈ xs, gvD x = true
  | [] => by simp [gvAll]
  | x :: xs => by
    simp only [gvAll, Bool.and_eq_true, List.mem_cons, forall_eq_or_imp]
    rw [gvAll_iff]
theorem wt_app : ∀ (a b : List PyData), PyData.weightAll (a ++ b) = PyData.weightAll a + PyData.weightAll b
  | [], b => by simp [PyData.weightAll]
  | x :: a, b => by
    rw [List.cons_append]
    simp only [PyData.weightAll]
    rw [wt_app a b]
    omega
theorem wt_mem : ∀ {xs : List PyData} {x : PyData}, x ∈ xs → x.weight + 1 ≤ PyData.weightAll xs
  | y :: xs, x, h => by
    simp only [PyData.weightAll]
    rcases List.mem_cons.mp h with rfl | h
    · omega
    · have := wt_mem h
      omega
theorem wt_len : ∀ xs : List PyData, xs.length ≤ PyData.weightAll xs
  | [] => Nat.zero_le _
  | x :: xs => by
    simp only [PyData.weightAll, List.length_cons]
    have := wt_len xs
    omega
mutual
theorem gv_lay : ∀ d : PyData, gvD d = true → d.canLay0 = true
  | .none, _ => rfl
  | .bool _, _ => rfl
  | .int _, _ => rfl
  | .str x, h => (ShN.str (n := 0) fun c hc => by
    simp only [gvD, List.all_eq_true, decide_eq_true_eq] at h
    exact h c hc).1
  | .list xs, h => by
    simp only [gvD] at h
    simpa only [PyData.canLay0] using gv_lays xs h
  | .tuple xs, h => by
    simp only [gvD] at h
    simpa only [PyData.canLay0] using gv_lays xs h
  | .dict _, h => by simp [gvD] at h
theorem gv_lays : ∀ ds : List PyData, gvAll ds = true → PyData.canLayAll0 ds = true
  | [], _ => rfl
  | d :: ds, h => by
    simp only [gvAll, Bool.and_eq_true] at h
    simp only [PyData.canLayAll0, Bool.and_eq_true]
    exact ⟨gv_lay d h.1, gv_lays ds h.2⟩
end
mutual
theorem gv_show : ∀ d : PyData, gvD d = true → d.showable = true ∧ d.leavesShort 8 = true
  | .none, _ => by simp [PyData.showable, PyData.leavesShort]
  | .bool _, _ => by simp [PyData.showable, PyData.leavesShort]
  | .int i, h => by
    simp only [gvD, Bool.and_eq_true, decide_eq_true_eq] at h
    have z : ∀ j : Nat, j < 10 → (PyData.int (j : Int)).showable = true ∧ (PyData.int (j : Int)).leavesShort 8 = true := by decide +kernel
    obtain ⟨j, rfl⟩ := Int.eq_ofNat_of_zero_le h.1
    exact z j (by omega)
  | .str x, h => by
    simp only [gvD, List.all_eq_true, decide_eq_true_eq] at h
    simp only [PyData.showable, PyData.leavesShort, true_and, List.all_eq_true, decide_eq_true_eq]
    exact fun c m => Nat.lt_of_lt_of_le (h c m) (by decide)
  | .list xs, h => by
    simp only [gvD] at h
    simpa only [PyData.showable, PyData.leavesShort] using gv_shows xs h
  | .tuple xs, h => by
    simp only [gvD] at h
    simpa only [PyData.showable, PyData.leavesShort] using gv_shows xs h
  | .dict _, h => by simp [gvD] at h
theorem gv_shows : ∀ ds : List PyData, gvAll ds = true → PyData.showableAll ds = true ∧ PyData.leavesShortAll 8 ds = true
  | [], _ => by simp [PyData.showableAll, PyData.leavesShortAll]
  | d :: ds, h => by
    simp only [gvAll, Bool.and_eq_true] at h
    obtain ⟨a, b⟩ := gv_show d h.1
    obtain ⟨c, e⟩ := gv_shows ds h.2
    simp only [PyData.showableAll, PyData.leavesShortAll, a, b, c, e, Bool.and_self, and_self]
end
mutual
theorem gv_ok : ∀ d : PyData, gvD d = true → d.weight ≤ 1000000 → okD d = true
  | .none, _, _ => rfl
  | .bool _, _, _ => rfl
  | .int _, _, _ => rfl
  | .str x, _, w => by
    simp only [PyData.weight] at w
    simp only [okD, decide_eq_true_eq]
    exact w
  | .list xs, h, w => by
    simp only [gvD] at h
    simp only [PyData.weight] at w
    simp only [okD, Bool.and_eq_true, decide_eq_true_eq]
    exact ⟨Nat.le_trans (wt_len xs) w, gv_oks xs h w⟩
  | .tuple xs, h, w => by
    simp only [gvD] at h
    simp only [PyData.weight] at w
    simp only [okD, Bool.and_eq_true, decide_eq_true_eq]
    exact ⟨Nat.le_trans (wt_len xs) w, gv_oks xs h w⟩
  | .dict _, h, _ => by simp [gvD] at h
theorem gv_oks : ∀ ds : List PyData, gvAll ds = true → PyData.weightAll ds ≤ 1000000 → okAll ds = true
  | [], _, _ => rfl
  | d :: ds, h, w => by
    simp only [gvAll, Bool.and_eq_true] at h
    simp only [PyData.weightAll] at w
    simp only [okAll, Bool.and_eq_true]
    exact ⟨gv_ok d h.1 (by omega), gv_oks ds h.2 (by omega)⟩
end
structure Gv (W D : Nat) (d : PyData) : Prop where
  gv : gvD d = true
  wt : d.weight ≤ W
  dp : d.depth ≤ D
theorem Gv.mono {W D W' D' : Nat} {d : PyData} (h : Gv W D d) (h1 : W ≤ W') (h2 : D ≤ D') : Gv W' D' d := ⟨h.gv, Nat.le_trans h.wt h1, Nat.le_trans h.dp h2⟩
theorem Gv.ok {W D : Nat} {d : PyData} (h : Gv W D d) (w : W ≤ 1000000) : okD d = true := gv_ok d h.gv (Nat.le_trans h.wt w)
theorem Gv.sh {W D : Nat} {d : PyData} (h : Gv W D d) : ShN D d := ⟨gv_lay d h.gv, h.dp⟩
theorem Gv.repr {W D : Nat} {d : PyData} (h : Gv W D d) (w : W ≤ 100000) (k : D ≤ 60) : reprOk d := by
  obtain ⟨a, b⟩ := gv_show d h.gv
  exact ⟨flat_lay d (gv_lay d h.gv), a, Nat.le_trans h.dp k, Sm.len (dep := D) (wt := W) ⟨a, b, h.dp, h.wt⟩ w⟩
structure Gvs (W D : Nat) (ds : List PyData) : Prop where
  gv : gvAll ds = true
  wt : PyData.weightAll ds ≤ W
  dp : PyData.depthAll ds ≤ D
theorem Gvs.tup {W D : Nat} {ds : List PyData} (h : Gvs W D ds) : Gv W (D + 1) (.tuple ds) := ⟨by simpa only [gvD] using h.gv, by simpa only [PyData.weight] using h.wt, by simp only [PyData.depth]; exact Nat.succ_le_succ h.dp⟩
theorem Gvs.lst {W D : Nat} {ds : List PyData} (h : Gvs W D ds) : Gv W (D + 1) (.list ds) := ⟨by simpa only [gvD] using h.gv, by simpa only [PyData.weight] using h.wt, by simp only [PyData.depth]; exact Nat.succ_le_succ h.dp⟩
theorem Gvs.mono {W D W' D' : Nat} {d : List PyData} (h : Gvs W D d) (h1 : W ≤ W') (h2 : D ≤ D') : Gvs W' D' d := ⟨h.gv, Nat.le_trans h.wt h1, Nat.le_trans h.dp h2⟩
theorem Gvs.nil {W D : Nat} : Gvs W D [] := ⟨rfl, by simp [PyData.weightAll], by simp [PyData.depthAll]⟩
theorem Gvs.one {W D : Nat} {d : PyData} (h : Gv W D d) : Gvs (W + 1) D [d] := ⟨gvAll_iff.mpr fun x hx => by rw [List.mem_singleton.mp hx]; exact h.gv, by simp only [PyData.weightAll]; have := h.wt; omega, deps_le.mpr fun x hx => by rw [List.mem_singleton.mp hx]; exact h.dp⟩
theorem Gvs.app {W V D : Nat} {a b : List PyData} (h : Gvs W D a) (k : Gvs V D b) : Gvs (W + V) D (a ++ b) := by
  refine ⟨gvAll_iff.mpr fun x hx => ?_, by rw [wt_app]; exact Nat.add_le_add h.wt k.wt, deps_le.mpr fun x hx => ?_⟩
  · rcases List.mem_append.mp hx with hx | hx
    · exact gvAll_iff.mp h.gv x hx
    · exact gvAll_iff.mp k.gv x hx
  · rcases List.mem_append.mp hx with hx | hx
    · exact deps_le.mp h.dp x hx
    · exact deps_le.mp k.dp x hx
theorem wt_sub : ∀ {a b : List PyData}, a.Sublist b → PyData.weightAll a ≤ PyData.weightAll b
  | _, _, .slnil => Nat.le_refl _
  | _, _, .cons x h => by
    simp only [PyData.weightAll]
    have := wt_sub h
    omega
  | _, _, .cons_cons x h => by
    simp only [PyData.weightAll]
    have := wt_sub h
    omega
theorem Gvs.sub {W D : Nat} {a b : List PyData} (h : Gvs W D b) (s : a.Sublist b) : Gvs W D a := ⟨gvAll_iff.mpr fun x hx => gvAll_iff.mp h.gv x (s.subset hx), Nat.le_trans (wt_sub s) h.wt, deps_le.mpr fun x hx => deps_le.mp h.dp x (s.subset hx)⟩
theorem Gvs.mem {W D : Nat} {b : List PyData} {x : PyData} (h : Gvs W D b) (m : x ∈ b) : Gv W D x := ⟨gvAll_iff.mp h.gv x m, Nat.le_trans (by have := wt_mem m; omega) h.wt, deps_le.mp h.dp x m⟩
theorem wt_perm {a b : List PyData} (p : a.Perm b) : PyData.weightAll a = PyData.weightAll b := by
  induction p with
  | nil => rfl
  | cons x _ ih => simp only [PyData.weightAll]; omega
  | swap x y l => simp only [PyData.weightAll]; omega
  | trans _ _ h1 h2 => exact h1.trans h2
theorem Gvs.perm {W D : Nat} {a b : List PyData} (h : Gvs W D b) (p : a.Perm b) : Gvs W D a := ⟨gvAll_iff.mpr fun x hx => gvAll_iff.mp h.gv x (p.subset hx), by rw [wt_perm p]; exact h.wt, deps_le.mpr fun x hx => deps_le.mp h.dp x (p.subset hx)⟩
theorem Gvs.cut {W D : Nat} {b : List PyData} (h : Gvs W D b) (lo hi : Option Int) : Gvs W D (cutD b lo hi) := h.sub ((List.take_sublist _ _).trans (List.drop_sublist _ _))
theorem Gv.str {x : Str} (h : SgnOk x) : Gv 100 0 (.str x) := ⟨by simp only [gvD, List.all_eq_true, decide_eq_true_eq]; exact h.1, by simp only [PyData.weight]; exact h.2.2, by simp [PyData.depth]⟩
theorem cut_to (xs : List PyData) (j : Nat) : cutD xs none (some (j : Int)) = xs.take j := by
  unfold cutD
  rw [show HT.sIx xs.length 0 none = 0 from rfl, HT.sIx_nat, List.drop_zero, Nat.sub_zero]
  by_cases h : j ≤ xs.length
  · rw [Nat.min_eq_left h]
  · rw [Nat.min_eq_right (by omega), List.take_length, List.take_of_length_le (by omega)]
theorem cut_from (xs : List PyData) (j : Nat) : cutD xs (some (j : Int)) none = xs.drop j := by
  unfold cutD
  rw [HT.sIx_none, HT.sIx_nat]
  by_cases h : j ≤ xs.length
  · rw [Nat.min_eq_left h]
    exact List.take_of_length_le (by rw [List.length_drop]; exact Nat.le_refl _)
  · rw [Nat.min_eq_right (by omega), List.drop_length, List.drop_of_length_le (by omega), List.take_nil]
end My
namespace My
open PySem PySem.Spec PyProof.Rows L2
theorem six_let : ∀ c ∈ 113 :: six, c ∈ letS := by decide
theorem wd_wrd {x : Str} (h : Wd x) : wrdB x = true := by
  have l := cps_len x
  have h1 : 0 < x.cps.toList.length := h.pos
  have h2 : x.cps.toList.length ≤ 8 := h.few
  rw [l] at h1 h2
  unfold wrdB
  simp only [Bool.and_eq_true, decide_eq_true_eq, List.all_eq_true]
  exact ⟨⟨h1, h2⟩, fun c hc => six_let c (h.of c hc)⟩
theorem eight_unk : ∀ x ∈ eight, isUnk x = true := by decide +kernel
theorem good_fc {ks : List Kd} {vals k : List Str} (hk : ∀ t ∈ ks, Wd t.1 ∧ 0 < t.2 ∧ t.2 ≤ 4) (hv : ∀ y ∈ vals, ValOk y) (h : FcOk ks vals k) : FactG k := by
  obtain ⟨x, ws, rfl, ⟨t, ht, rfl, l⟩, hy⟩ := h
  have z := hk t ht
  exact ⟨t.1, ws, rfl, wd_wrd z.1, by omega, by omega, fun y m => hv y (hy y m)⟩
theorem val_len {x : Str} (h : ValOk x) : x.length ≤ 8 := by
  rcases h with h | h
  · unfold wrdB at h
    simp only [Bool.and_eq_true, decide_eq_true_eq] at h
    exact h.1.2
  · rw [isUnk_is] at h
    simp only [Bool.and_eq_true, decide_eq_true_eq] at h
    have z := h.1.1.2.2
    omega
theorem Gv.val {x : Str} (h : ValOk x) : Gv 8 0 (.str x) := ⟨(Gv.str (val_sgn h)).gv, by simp only [PyData.weight]; exact val_len h, (Gv.str (val_sgn h)).dp⟩
theorem Gvs.all {W D : Nat} : ∀ {xs : List PyData}, (∀ x ∈ xs, Gv W D x) → Gvs ((W + 1) * xs.length) D xs
  | [], _ => Gvs.nil
  | x :: xs, h => by
    have a := (Gvs.one (h x List.mem_cons_self)).app (Gvs.all fun y hy => h y (List.mem_cons_of_mem _ hy))
    refine Gvs.mono a ?_ (Nat.le_refl _)
    rw [List.length_cons, Nat.mul_add]
    omega
end My
namespace My
open PySem PySem.Spec PyProof.Rows L2
def S_text_lines : SF :=
  (fSeq (fSet 1 (fMeth splitD (fV 0) (fCo (fC (.str "\n")) fN)))
    (fRet (fIf (tfE (fOp eqD (fOp ixD (fV 1) (fNeg (fC (.int 1)))) (fC (.str "")))) (fSl slD (fV 1) ofN (ofS (fNeg (fC (.int 1))))) (fV 1))))
def F_text_lines : List PyData → Option PyData := fnF 1 2 S_text_lines
theorem at_text_lines (x0 : PyData) : F_text_lines [x0] = (S_text_lines [some (.d x0), none]).bind outF := rfl
end My
namespace My
open PySem PySem.Spec PyProof.Rows L2
def S_may_be_read : SF :=
  (fRet (fAnd (fCall F_is_store (fCo (fV 0) fN)) (fAnd (fOp (ltD fun i j => decide (i ≤ j)) (fCall lenD (fCo (fV 0) fN)) (fC (.int 30))) (fOp (ltD fun i j => decide (i ≤ j)) (fCall lenD (fCo (fCall F_unknowns (fCo (fV 0) fN)) fN)) (fC (.int 5))))))
def F_may_be_read : List PyData → Option PyData := fnF 1 1 S_may_be_read
theorem at_may_be_read (x0 : PyData) : F_may_be_read [x0] = (S_may_be_read [some (.d x0)]).bind outF := rfl
end My
namespace My
open PySem PySem.Spec PyProof.Rows L2
def S_fact_fault : SF :=
  (fSeq (fIfS (tfNot (tfE (fCall F_is_word (fCo (fOp ixD (fV 1) (fC (.int 0))) fN)))) (fRet (fC (.int 0))) fNil)
    (fSeq (fFor (afEnS 1 (fSl slD (fV 1) (ofS (fC (.int 1))) ofN)) (gT 2 (gsC (gN 2) (gsC (gN 3) gsN))) (fIfS (tfOr (tfE (fOp (ltD fun i j => decide (j < i)) (fV 2) (fC (.int 4)))) (tfNot (tfE (fCall F_is_value (fCo (fV 3) fN))))) (fRet (fV 2)) fNil))
    (fSeq (fIfS (tfE (fOp eqD (fCall lenD (fCo (fV 1) fN)) (fC (.int 1)))) (fRet (fC (.int 1))) fNil)
    (fRet (fIf (tfE (fCall F_may_be_read (fCo (fOp addD (fV 0) (fTup (fCo (fV 1) fN))) fN))) (fC .none) (fC (.int 0)))))))
def F_fact_fault : List PyData → Option PyData := fnF 2 4 S_fact_fault
theorem at_fact_fault (x0 x1 : PyData) : F_fact_fault [x0, x1] = (S_fact_fault [some (.d x0), some (.d x1), none, none]).bind outF := rfl
end My
namespace My
open PySem PySem.Spec PyProof.Rows L2
def mkS (l : List Nat) : Str := ⟨l.toArray⟩
theorem mkS_tl (l : List Nat) : (mkS l).cps.toList = l := rfl
theorem mkS_of {s : Str} {l : List Nat} (h : s.cps.toList = l) : s = mkS l := by
  rw [← h]
  exact (str_back s).symm
theorem mkS_len (l : List Nat) : (mkS l).length = l.length := by rw [← cps_len, mkS_tl]
def factC : List Str → List Nat
  | [] => []
  | x :: r => x.cps.toList ++ r.flatMap fun y => 32 :: y.cps.toList
def textC (L : List (List Str)) : List Nat := L.flatMap fun f => factC f ++ [10]
theorem sp_is : (" " : Str) = ⟨#[32]⟩ := by decide +kernel
theorem nl_is : ("\n" : Str) = ⟨#[10]⟩ := by decide +kernel
theorem em_is : ("" : Str) = ⟨#[]⟩ := by decide +kernel
theorem fold_join (g : List Nat) (sep : Str) (hs : sep.cps.toList = g) : ∀ (rest : List Str) (acc : Array Nat), (rest.foldl (fun acc p => acc ++ sep.cps ++ p.cps) acc).toList = acc.toList ++ rest.flatMap fun y => g ++ y.cps.toList
  | [], acc => by simp
  | y :: rest, acc => by
    rw [List.foldl_cons, fold_join g sep hs rest, List.flatMap_cons]
    simp only [Array.toList_append, hs, List.append_assoc]
theorem join_tl (g : List Nat) (sep : Str) (hs : sep.cps.toList = g) (x : Str) (r : List Str) : (Txt.join sep (x :: r)).cps.toList = x.cps.toList ++ r.flatMap fun y => g ++ y.cps.toList := by
  unfold Txt.join Builtin.Str.glued
  exact fold_join g sep hs r x.cps
theorem join_sp {f : List Str} (h : f ≠ []) : Txt.join " " f = mkS (factC f) := by
  cases f with
  | nil => exact absurd rfl h
  | cons x r =>
    refine mkS_of ?_
    rw [join_tl [32] " " (by rw [sp_is]) x r]
    rfl
theorem join_em (ys : List Str) : Txt.join "" ys = mkS (ys.flatMap fun y => y.cps.toList) := by
  refine mkS_of ?_
  cases ys with
  | nil => decide +kernel
  | cons x r =>
    rw [join_tl [] "" (by rw [em_is]) x r, List.flatMap_cons]
    rfl
theorem app_tl (a b : Str) : (a ++ b).cps.toList = a.cps.toList ++ b.cps.toList := TL.tl_append a b
theorem fact_val {f : List Str} (h : FactG f) : ∀ x ∈ f, ValOk x := by
  obtain ⟨r, ws, rfl, h1, _, _, h4⟩ := h
  exact fun x hx => (List.mem_cons.mp hx).elim (fun e => .inl (by rw [e]; exact h1)) (h4 x)
theorem meth_is {D : Str → List PyData → Option PyData} {o : EF} {a : AF} {ρ : DEnv} {z : Str} {xs : List PyData} {d : PyData} (ho : o ρ = some (.str z)) (ha : a ρ = some xs) (h : D z xs = some d) : fMeth D o a ρ = some d := by
  unfold fMeth
  rw [ho, Option.bind_some]
  show (some z).bind _ = _
  rw [Option.bind_some, ha]
  exact h
theorem sum_le {k : Nat} : ∀ {ys : List Str}, (∀ y ∈ ys, y.length ≤ k) → (ys.map (·.length)).sum ≤ k * ys.length
  | [], _ => Nat.zero_le _
  | y :: ys, h => by
    have a := sum_le (ys := ys) fun z hz => h z (List.mem_cons_of_mem _ hz)
    have b := h y List.mem_cons_self
    rw [List.map_cons, List.sum_cons, List.length_cons, Nat.mul_add]
    omega
theorem joinT {f : List Str} (h : FactG f) : joinD " " [bT' f] = some (.str (mkS (factC f))) := by
  have v := fact_val h
  obtain ⟨r, ws, rfl, _, _, l4, _⟩ := id h
  have s := sum_le (k := 8) (ys := r :: ws) fun y hy => val_len (v y hy)
  show (strsD ((r :: ws).map PyData.str)).bind _ = _
  rw [strsD_back, Option.bind_some]
  have l1 : (" " : Str).length = 1 := by decide +kernel
  have e : joinSz " " (r :: ws) = true := by
    unfold joinSz
    rw [l1]
    refine decide_eq_true ?_
    rw [List.length_cons] at s ⊢
    omega
  rw [e, if_pos rfl, join_sp (by simp)]
theorem joinL {f : List Str} (h : FactG f) : joinD " " [.list (f.map PyData.str)] = some (.str (mkS (factC f))) := joinT h
theorem atI_last {α : Type} (A : List α) (x : α) : atI (A ++ [x]) (-1) = some x := by
  unfold atI ixN
  rw [List.length_append, List.length_singleton, if_neg (by decide), if_pos (by omega)]
  show (A ++ [x])[((-1 : Int) + ((A.length + 1 : Nat) : Int)).toNat]? = some x
  rw [show ((-1 : Int) + ((A.length + 1 : Nat) : Int)).toNat = A.length by omega]
  simp
theorem ix_last (A : List PyData) (x : PyData) : ixD (.list (A ++ [x])) (.int (-1)) = some x := atI_last A x
theorem cut_but (A : List PyData) (x : PyData) : cutD (A ++ [x]) none (some (-1)) = A := by
  unfold cutD
  rw [HT.sIx_none]
  have e : HT.sIx (A ++ [x]).length (A ++ [x]).length (some (-1)) = A.length := by
    unfold HT.sIx
    rw [List.length_append, List.length_singleton]
    show (if (-1 : Int) < 0 then ((-1 : Int) + ((A.length + 1 : Nat) : Int)).toNat else _) = _
    rw [if_pos (by decide)]
    omega
  rw [e, List.drop_zero, Nat.sub_zero, List.take_left' rfl]
theorem splitT {l : List Nat} (ll : l.length ≤ 1000000) {c : Nat} (hc : c < 256) {b : Str} (hb : b = ⟨#[c]⟩) : splitD (mkS l) [.str b] = some (.list (((splitL c l).map mkS).map PyData.str)) := by
  subst hb
  show (if ((⟨#[c]⟩ : Str).length == 0) = false ∧ (mkS l).length ≤ lim then some (PyData.list ((Txt.split (mkS l) ⟨#[c]⟩).map PyData.str)) else none) = _
  rw [if_pos ⟨rfl, by rw [mkS_len]; exact ll⟩, split_one _ _ hc, mkS_tl]
  rfl
theorem slL_but {f g : EF} {ρ : DEnv} {xs : List PyData} {j : Int} (hf : f ρ = some (.list xs)) (hg : g ρ = some (.int j)) : fSl slD f ofN (ofS g) ρ = some (.list (cutD xs none (some j))) := by
  unfold fSl ofN ofS
  rw [hf, hg]
  rfl
theorem addS {a b : List Nat} (h : a.length + b.length ≤ 1000000) : addD (.str (mkS a)) (.str (mkS b)) = some (.str (mkS (a ++ b))) := by
  show (if (mkS a).length + (mkS b).length ≤ lim then some (PyData.str (mkS a ++ mkS b)) else none) = _
  rw [if_pos (by rw [mkS_len, mkS_len]; exact h)]
  congr 2
  refine mkS_of ?_
  rw [app_tl, mkS_tl, mkS_tl]
theorem addS1 {a b : List Nat} {s : Str} (h : a.length + b.length ≤ 1000000) (e : s = mkS b) : addD (.str (mkS a)) (.str s) = some (.str (mkS (a ++ b))) := by
  rw [e]
  exact addS h
theorem fact_gv {f : List Str} (h : FactG f) : Gv 45 1 (bT' f) := by
  have v := fact_val h
  obtain ⟨r, ws, rfl, _, _, l4, _⟩ := h
  have z := Gvs.all (W := 8) (D := 0) (xs := (r :: ws).map PyData.str) fun x hx => by
    obtain ⟨y, hy, rfl⟩ := List.mem_map.mp hx
    exact Gv.val (v y hy)
  exact z.tup.mono (by rw [List.length_map, List.length_cons]; omega) (Nat.le_refl _)
theorem store_gv {L : List (List Str)} (h : ∀ f ∈ L, FactG f) : Gv (46 * L.length) 2 (stD L) := by
  have z := Gvs.all (W := 45) (D := 1) (xs := L.map bT') fun x hx => by
    obtain ⟨f, hf, rfl⟩ := List.mem_map.mp hx
    exact fact_gv (h f hf)
  rw [List.length_map] at z
  exact z.tup
abbrev fltB : SF := (fIfS (tfOr (tfE (fOp (ltD fun i j => decide (j < i)) (fV 2) (fC (.int 4)))) (tfNot (tfE (fCall F_is_value (fCo (fV 3) fN))))) (fRet (fV 2)) fNil)
theorem tup0_is {ρ : DEnv} : fTup fN ρ = some (.tuple []) := by
  unfold fTup fN
  rw [Option.bind_some]
  exact if_pos (Nat.zero_le _)
end My
namespace My
open PySem PySem.Spec PyProof.Rows L2
def S__law_names : SF :=
  (fSeq (fNewL 1)
    (fSeq (fFor (afV (fV 0)) (gN 2) (fExt 1 (fLc (afV (fSl slD (fV 2) (ofS (fC (.int 1))) ofN)) (gN 3) (tfE (fOp eqD (fOp ixD (fV 3) (fC (.int 0))) (fC (.str "?")))) (fV 3) [3])))
    (fGive 1 (fRet (fCall tupD1 (fCo (fSortSet vS bS ltS (fV 1)) fN))))))
def F__law_names : List PyData → Option PyData := fnF 1 4 S__law_names
theorem at__law_names (x0 : PyData) : F__law_names [x0] = (S__law_names [some (.d x0), none, none, none]).bind outF := rfl
end My
namespace My
open PySem PySem.Spec PyProof.Rows L2
def S__law_is_word : SF :=
  (fSeq (fIfS (tfOr (tfNot (tfE (fIsi (isC "str") (fV 0)))) (tfNot (tfE (fChain (ltD fun i j => decide (i ≤ j)) (ltD fun i j => decide (i ≤ j)) (fC (.int 1)) (fCall lenD (fCo (fV 0) fN)) (fC (.int 8)))))) (fRet (fC (.bool false))) fNil)
    (fRet (fOp eqD (fLc (afV (fV 0)) (gN 1) (tfE (fOp (inD true) (fV 1) (fC (.str "abcdefghijklmnopqrstuvwxyz")))) (fC (.int 1)) [1]) (fLst fN))))
def F__law_is_word : List PyData → Option PyData := fnF 1 2 S__law_is_word
theorem at__law_is_word (x0 : PyData) : F__law_is_word [x0] = (S__law_is_word [some (.d x0), none]).bind outF := rfl
end My
namespace My
open PySem PySem.Spec PyProof.Rows L2
def S__law_is_unknown : SF :=
  (fSeq (fIfS (tfOr (tfNot (tfE (fIsi (isC "str") (fV 0)))) (tfOr (tfNot (tfE (fChain (ltD fun i j => decide (i ≤ j)) (ltD fun i j => decide (i ≤ j)) (fC (.int 2)) (fCall lenD (fCo (fV 0) fN)) (fC (.int 6))))) (tfOr (tfE (fOp neD (fOp ixD (fV 0) (fC (.int 0))) (fC (.str "?")))) (tfE (fOp eqD (fOp ixD (fV 0) (fC (.int 1))) (fC (.str "0"))))))) (fRet (fC (.bool false))) fNil)
    (fRet (fOp eqD (fLc (afV (fSl slD (fV 0) (ofS (fC (.int 1))) ofN)) (gN 1) (tfE (fOp (inD true) (fV 1) (fC (.str "0123456789")))) (fC (.int 1)) [1]) (fLst fN))))
def F__law_is_unknown : List PyData → Option PyData := fnF 1 2 S__law_is_unknown
theorem at__law_is_unknown (x0 : PyData) : F__law_is_unknown [x0] = (S__law_is_unknown [some (.d x0), none]).bind outF := rfl
end My
namespace My
open PySem PySem.Spec PyProof.Rows L2
theorem F_lword {d : PyData} (h : okD d = true) : F__law_is_word [d] = some (.bool (wrdD d)) := by
  rw [at__law_is_word]
  unfold S__law_is_word
  cases d with
  | str z =>
    have lz := okD_str h
    show _ = some (PyData.bool (wrdB z))
    unfold wrdB
    have lv : (z.cps.toList.map fun c => PyData.str ⟨#[c]⟩).length ≤ lim := by
      rw [List.length_map, cps_len]
      exact lz
    by_cases c1 : (1 : Int) ≤ z.length
    · by_cases c2 : (z.length : Int) ≤ 8
      · refine out_rt ((seq_nx (ρ' := _) (ifS_f ?_)).trans (ret_is ?_))
        · simp only [fC, fV, fN, fCo, fTup, fLst, fOp, fCall, tfE, tfTr, tfYes, tfNot, tfAnd, tfOr, fAnd, fOr, fNot, fIf, ofN, ofS, fSl, fChain, fIsi, afV, afR, afZ, afZk, zipKF, fLc, fLc2, fTwo, fOne, fSort, fSortSet, fGet, fOIn, fOGet, fOLen, fOIx, fRepr, fRev, fMeth, fNil, fSeq, fSet, fAsg, fRet, fIfS, fFor, fNewL, fApp, fExt, fGive, fNewK, fMakeK, fPutK, fGiveK, outF, envF, fnF, stF, stB, gN, gT, gsC, gsN, wipeD, getF, ownK, ownL, asB, asK, asL, asS, List.getElem?_cons_zero, List.getElem?_cons_succ, Option.bind_some, Option.map_some, Option.bind_none, Option.map_none, List.map_cons, List.map_nil, List.cons_append, List.nil_append, List.set_cons_zero, List.set_cons_succ, List.length_cons, List.length_nil, List.replicate_succ, List.replicate_zero, Nat.reduceSub, Nat.reduceAdd, Nat.reduceEqDiff, if_true, Bool.true_eq_false, Bool.false_eq_true, if_false, reduceIte, noDict, lenD_tup, lenD_lst, ltD_int, items_tup, items_lst, items_str, eqD_str, eqD_int, neD_str, neD_int, addD_int, subD_int, slD_lst, slD_tup, tuple_lst, tuple_tup, list_lst, list_tup, tyS_str, tyS_tup, lenD_str lz, isC_s1, decide_eq_true c1, decide_eq_true c2, Bool.not_true]
        · refine op_is (lc_is (xs := z.cps.toList.map fun c => PyData.str ⟨#[c]⟩) (ys := (z.cps.toList.filter fun c => !decide (c ∈ letS)).map fun _ => .int 1) rfl lv (lcF_filt fun c _ => by
            simp only [fC, fV, fN, fCo, fTup, fLst, fOp, fCall, tfE, tfTr, tfYes, tfNot, tfAnd, tfOr, fAnd, fOr, fNot, fIf, ofN, ofS, fSl, fChain, fIsi, afV, afR, afZ, afZk, zipKF, fLc, fLc2, fTwo, fOne, fSort, fSortSet, fGet, fOIn, fOGet, fOLen, fOIx, fRepr, fRev, fMeth, fNil, fSeq, fSet, fAsg, fRet, fIfS, fFor, fNewL, fApp, fExt, fGive, fNewK, fMakeK, fPutK, fGiveK, outF, envF, fnF, stF, stB, gN, gT, gsC, gsN, wipeD, getF, ownK, ownL, asB, asK, asL, asS, List.getElem?_cons_zero, List.getElem?_cons_succ, Option.bind_some, Option.map_some, Option.bind_none, Option.map_none, List.map_cons, List.map_nil, List.cons_append, List.nil_append, List.set_cons_zero, List.set_cons_succ, List.length_cons, List.length_nil, List.replicate_succ, List.replicate_zero, Nat.reduceSub, Nat.reduceAdd, Nat.reduceEqDiff, if_true, Bool.true_eq_false, Bool.false_eq_true, if_false, reduceIte, noDict, lenD_tup, lenD_lst, ltD_int, items_tup, items_lst, items_str, eqD_str, eqD_int, neD_str, neD_int, addD_int, subD_int, slD_lst, slD_tup, tuple_lst, tuple_tup, list_lst, list_tup, tyS_str, tyS_tup, letn_is]
            cases decide (c ∈ letS) <;> rfl)) nil_lst ?_
          rw [ones_eq, filt_empty, decide_eq_true (show 1 ≤ z.length by omega), decide_eq_true (show z.length ≤ 8 by omega)]
          rfl
      · refine out_rt ((seq_rt (ifS_t ?_)).trans ?_)
        · simp only [fC, fV, fN, fCo, fTup, fLst, fOp, fCall, tfE, tfTr, tfYes, tfNot, tfAnd, tfOr, fAnd, fOr, fNot, fIf, ofN, ofS, fSl, fChain, fIsi, afV, afR, afZ, afZk, zipKF, fLc, fLc2, fTwo, fOne, fSort, fSortSet, fGet, fOIn, fOGet, fOLen, fOIx, fRepr, fRev, fMeth, fNil, fSeq, fSet, fAsg, fRet, fIfS, fFor, fNewL, fApp, fExt, fGive, fNewK, fMakeK, fPutK, fGiveK, outF, envF, fnF, stF, stB, gN, gT, gsC, gsN, wipeD, getF, ownK, ownL, asB, asK, asL, asS, List.getElem?_cons_zero, List.getElem?_cons_succ, Option.bind_some, Option.map_some, Option.bind_none, Option.map_none, List.map_cons, List.map_nil, List.cons_append, List.nil_append, List.set_cons_zero, List.set_cons_succ, List.length_cons, List.length_nil, List.replicate_succ, List.replicate_zero, Nat.reduceSub, Nat.reduceAdd, Nat.reduceEqDiff, if_true, Bool.true_eq_false, Bool.false_eq_true, if_false, reduceIte, noDict, lenD_tup, lenD_lst, ltD_int, items_tup, items_lst, items_str, eqD_str, eqD_int, neD_str, neD_int, addD_int, subD_int, slD_lst, slD_tup, tuple_lst, tuple_tup, list_lst, list_tup, tyS_str, tyS_tup, lenD_str lz, isC_s1, decide_eq_true c1, decide_eq_false c2, Bool.not_true, Bool.not_false]
        · rw [decide_eq_false (show ¬ z.length ≤ 8 by omega), Bool.and_false, Bool.false_and]
    · refine out_rt ((seq_rt (ifS_t ?_)).trans ?_)
      · simp only [fC, fV, fN, fCo, fTup, fLst, fOp, fCall, tfE, tfTr, tfYes, tfNot, tfAnd, tfOr, fAnd, fOr, fNot, fIf, ofN, ofS, fSl, fChain, fIsi, afV, afR, afZ, afZk, zipKF, fLc, fLc2, fTwo, fOne, fSort, fSortSet, fGet, fOIn, fOGet, fOLen, fOIx, fRepr, fRev, fMeth, fNil, fSeq, fSet, fAsg, fRet, fIfS, fFor, fNewL, fApp, fExt, fGive, fNewK, fMakeK, fPutK, fGiveK, outF, envF, fnF, stF, stB, gN, gT, gsC, gsN, wipeD, getF, ownK, ownL, asB, asK, asL, asS, List.getElem?_cons_zero, List.getElem?_cons_succ, Option.bind_some, Option.map_some, Option.bind_none, Option.map_none, List.map_cons, List.map_nil, List.cons_append, List.nil_append, List.set_cons_zero, List.set_cons_succ, List.length_cons, List.length_nil, List.replicate_succ, List.replicate_zero, Nat.reduceSub, Nat.reduceAdd, Nat.reduceEqDiff, if_true, Bool.true_eq_false, Bool.false_eq_true, if_false, reduceIte, noDict, lenD_tup, lenD_lst, ltD_int, items_tup, items_lst, items_str, eqD_str, eqD_int, neD_str, neD_int, addD_int, subD_int, slD_lst, slD_tup, tuple_lst, tuple_tup, list_lst, list_tup, tyS_str, tyS_tup, lenD_str lz, isC_s1, decide_eq_false c1, Bool.not_true, Bool.not_false]
      · rw [decide_eq_false (show ¬ 1 ≤ z.length by omega), Bool.false_and, Bool.false_and]
  | dict _ => simp only [okD] at h; cases h
  | _ => rfl
theorem F_lunk {d : PyData} (h : okD d = true) : F__law_is_unknown [d] = some (.bool (unkD d)) := by
  rw [at__law_is_unknown]
  unfold S__law_is_unknown
  cases d with
  | str z =>
    have lz := okD_str h
    show _ = some (PyData.bool (isUnk z))
    rw [isUnk_is]
    by_cases c1 : (2 : Int) ≤ z.length
    · by_cases c2 : (z.length : Int) ≤ 6
      · obtain ⟨a, b, r, ez⟩ : ∃ a b r, z.cps.toList = a :: b :: r := by
          have l := cps_len z
          cases e : z.cps.toList with
          | nil => rw [e] at l; simp only [List.length_nil] at l; omega
          | cons a t =>
            cases t with
            | nil => rw [e] at l; simp only [List.length_cons, List.length_nil] at l; omega
            | cons b r => exact ⟨a, b, r, rfl⟩
        have i0 : ixD (.str z) (.int 0) = some (.str ⟨#[a]⟩) := str_at (j := 0) lz (by rw [ez]; rfl)
        have i1 : ixD (.str z) (.int 1) = some (.str ⟨#[b]⟩) := str_at (j := 1) lz (by rw [ez]; rfl)
        have d1 : decide (2 ≤ z.length) = true := decide_eq_true (by omega)
        have d2 : decide (z.length ≤ 6) = true := decide_eq_true (by omega)
        rw [ez, d1, d2]
        show _ = some (PyData.bool (decide (some a = some 63) && (true && true) && !decide (some b = some 48) && (b :: r).all fun c => decide (c ∈ digS)))
        rw [show decide (some a = some 63) = decide (a = 63) from decide_eq_decide.mpr ⟨Option.some.inj, fun e => by rw [e]⟩, show decide (some b = some 48) = decide (b = 48) from decide_eq_decide.mpr ⟨Option.some.inj, fun e => by rw [e]⟩]
        by_cases ca : a = 63
        · by_cases cb : b = 48
          · refine out_rt ((seq_rt (ifS_t ?_)).trans ?_)
            · simp only [fC, fV, fN, fCo, fTup, fLst, fOp, fCall, tfE, tfTr, tfYes, tfNot, tfAnd, tfOr, fAnd, fOr, fNot, fIf, ofN, ofS, fSl, fChain, fIsi, afV, afR, afZ, afZk, zipKF, fLc, fLc2, fTwo, fOne, fSort, fSortSet, fGet, fOIn, fOGet, fOLen, fOIx, fRepr, fRev, fMeth, fNil, fSeq, fSet, fAsg, fRet, fIfS, fFor, fNewL, fApp, fExt, fGive, fNewK, fMakeK, fPutK, fGiveK, outF, envF, fnF, stF, stB, gN, gT, gsC, gsN, wipeD, getF, ownK, ownL, asB, asK, asL, asS, List.getElem?_cons_zero, List.getElem?_cons_succ, Option.bind_some, Option.map_some, Option.bind_none, Option.map_none, List.map_cons, List.map_nil, List.cons_append, List.nil_append, List.set_cons_zero, List.set_cons_succ, List.length_cons, List.length_nil, List.replicate_succ, List.replicate_zero, Nat.reduceSub, Nat.reduceAdd, Nat.reduceEqDiff, if_true, Bool.true_eq_false, Bool.false_eq_true, if_false, reduceIte, noDict, lenD_tup, lenD_lst, ltD_int, items_tup, items_lst, items_str, eqD_str, eqD_int, neD_str, neD_int, addD_int, subD_int, slD_lst, slD_tup, tuple_lst, tuple_tup, list_lst, list_tup, tyS_str, tyS_tup, lenD_str lz, isC_s1, decide_eq_true c1, decide_eq_true c2, Bool.not_true, Bool.not_false, i0, i1, str_q, str_0, one_eq, decide_eq_true ca, decide_eq_true cb]
            · rw [decide_eq_true cb]
              simp
          · have lv : ((b :: r).map fun c => PyData.str ⟨#[c]⟩).length ≤ lim := by
              have l := cps_len z
              rw [ez] at l
              rw [List.length_map]
              simp only [List.length_cons] at l ⊢
              omega
            refine out_rt ((seq_nx (ρ' := _) (ifS_f ?_)).trans (ret_is ?_))
            · simp only [fC, fV, fN, fCo, fTup, fLst, fOp, fCall, tfE, tfTr, tfYes, tfNot, tfAnd, tfOr, fAnd, fOr, fNot, fIf, ofN, ofS, fSl, fChain, fIsi, afV, afR, afZ, afZk, zipKF, fLc, fLc2, fTwo, fOne, fSort, fSortSet, fGet, fOIn, fOGet, fOLen, fOIx, fRepr, fRev, fMeth, fNil, fSeq, fSet, fAsg, fRet, fIfS, fFor, fNewL, fApp, fExt, fGive, fNewK, fMakeK, fPutK, fGiveK, outF, envF, fnF, stF, stB, gN, gT, gsC, gsN, wipeD, getF, ownK, ownL, asB, asK, asL, asS, List.getElem?_cons_zero, List.getElem?_cons_succ, Option.bind_some, Option.map_some, Option.bind_none, Option.map_none, List.map_cons, List.map_nil, List.cons_append, List.nil_append, List.set_cons_zero, List.set_cons_succ, List.length_cons, List.length_nil, List.replicate_succ, List.replicate_zero, Nat.reduceSub, Nat.reduceAdd, Nat.reduceEqDiff, if_true, Bool.true_eq_false, Bool.false_eq_true, if_false, reduceIte, noDict, lenD_tup, lenD_lst, ltD_int, items_tup, items_lst, items_str, eqD_str, eqD_int, neD_str, neD_int, addD_int, subD_int, slD_lst, slD_tup, tuple_lst, tuple_tup, list_lst, list_tup, tyS_str, tyS_tup, lenD_str lz, isC_s1, decide_eq_true c1, decide_eq_true c2, Bool.not_true, Bool.not_false, i0, i1, str_q, str_0, one_eq, decide_eq_true ca, decide_eq_false cb]
            · refine op_is (lc_is (xs := (b :: r).map fun c => PyData.str ⟨#[c]⟩) (ys := ((b :: r).filter fun c => !decide (c ∈ digS)).map fun _ => .int 1) ?_ lv (lcF_filt fun c _ => by
                simp only [fC, fV, fN, fCo, fTup, fLst, fOp, fCall, tfE, tfTr, tfYes, tfNot, tfAnd, tfOr, fAnd, fOr, fNot, fIf, ofN, ofS, fSl, fChain, fIsi, afV, afR, afZ, afZk, zipKF, fLc, fLc2, fTwo, fOne, fSort, fSortSet, fGet, fOIn, fOGet, fOLen, fOIx, fRepr, fRev, fMeth, fNil, fSeq, fSet, fAsg, fRet, fIfS, fFor, fNewL, fApp, fExt, fGive, fNewK, fMakeK, fPutK, fGiveK, outF, envF, fnF, stF, stB, gN, gT, gsC, gsN, wipeD, getF, ownK, ownL, asB, asK, asL, asS, List.getElem?_cons_zero, List.getElem?_cons_succ, Option.bind_some, Option.map_some, Option.bind_none, Option.map_none, List.map_cons, List.map_nil, List.cons_append, List.nil_append, List.set_cons_zero, List.set_cons_succ, List.length_cons, List.length_nil, List.replicate_succ, List.replicate_zero, Nat.reduceSub, Nat.reduceAdd, Nat.reduceEqDiff, if_true, Bool.true_eq_false, Bool.false_eq_true, if_false, reduceIte, noDict, lenD_tup, lenD_lst, ltD_int, items_tup, items_lst, items_str, eqD_str, eqD_int, neD_str, neD_int, addD_int, subD_int, slD_lst, slD_tup, tuple_lst, tuple_tup, list_lst, list_tup, tyS_str, tyS_tup, dign_is]
                cases decide (c ∈ digS) <;> rfl)) nil_lst ?_
              · simp only [fC, fV, fN, fCo, fTup, fLst, fOp, fCall, tfE, tfTr, tfYes, tfNot, tfAnd, tfOr, fAnd, fOr, fNot, fIf, ofN, ofS, fSl, fChain, fIsi, afV, afR, afZ, afZk, zipKF, fLc, fLc2, fTwo, fOne, fSort, fSortSet, fGet, fOIn, fOGet, fOLen, fOIx, fRepr, fRev, fMeth, fNil, fSeq, fSet, fAsg, fRet, fIfS, fFor, fNewL, fApp, fExt, fGive, fNewK, fMakeK, fPutK, fGiveK, outF, envF, fnF, stF, stB, gN, gT, gsC, gsN, wipeD, getF, ownK, ownL, asB, asK, asL, asS, List.getElem?_cons_zero, List.getElem?_cons_succ, Option.bind_some, Option.map_some, Option.bind_none, Option.map_none, List.map_cons, List.map_nil, List.cons_append, List.nil_append, List.set_cons_zero, List.set_cons_succ, List.length_cons, List.length_nil, List.replicate_succ, List.replicate_zero, Nat.reduceSub, Nat.reduceAdd, Nat.reduceEqDiff, if_true, Bool.true_eq_false, Bool.false_eq_true, if_false, reduceIte, noDict, lenD_tup, lenD_lst, ltD_int, items_tup, items_lst, items_str, eqD_str, eqD_int, neD_str, neD_int, addD_int, subD_int, slD_lst, slD_tup, tuple_lst, tuple_tup, list_lst, list_tup, tyS_str, tyS_tup]
                rw [show slD (.str z) (some 1) none = some (.str (cutS z (some 1) none)) from if_pos lz, cutS_1, ez]
                rfl
              · rw [ones_eq, filt_empty, decide_eq_true ca, decide_eq_false cb]
                rfl
        · refine out_rt ((seq_rt (ifS_t ?_)).trans ?_)
          · simp only [fC, fV, fN, fCo, fTup, fLst, fOp, fCall, tfE, tfTr, tfYes, tfNot, tfAnd, tfOr, fAnd, fOr, fNot, fIf, ofN, ofS, fSl, fChain, fIsi, afV, afR, afZ, afZk, zipKF, fLc, fLc2, fTwo, fOne, fSort, fSortSet, fGet, fOIn, fOGet, fOLen, fOIx, fRepr, fRev, fMeth, fNil, fSeq, fSet, fAsg, fRet, fIfS, fFor, fNewL, fApp, fExt, fGive, fNewK, fMakeK, fPutK, fGiveK, outF, envF, fnF, stF, stB, gN, gT, gsC, gsN, wipeD, getF, ownK, ownL, asB, asK, asL, asS, List.getElem?_cons_zero, List.getElem?_cons_succ, Option.bind_some, Option.map_some, Option.bind_none, Option.map_none, List.map_cons, List.map_nil, List.cons_append, List.nil_append, List.set_cons_zero, List.set_cons_succ, List.length_cons, List.length_nil, List.replicate_succ, List.replicate_zero, Nat.reduceSub, Nat.reduceAdd, Nat.reduceEqDiff, if_true, Bool.true_eq_false, Bool.false_eq_true, if_false, reduceIte, noDict, lenD_tup, lenD_lst, ltD_int, items_tup, items_lst, items_str, eqD_str, eqD_int, neD_str, neD_int, addD_int, subD_int, slD_lst, slD_tup, tuple_lst, tuple_tup, list_lst, list_tup, tyS_str, tyS_tup, lenD_str lz, isC_s1, decide_eq_true c1, decide_eq_true c2, Bool.not_true, Bool.not_false, i0, i1, str_q, str_0, one_eq, decide_eq_false ca]
          · rw [decide_eq_false ca]
            rfl
      · refine out_rt ((seq_rt (ifS_t ?_)).trans ?_)
        · simp only [fC, fV, fN, fCo, fTup, fLst, fOp, fCall, tfE, tfTr, tfYes, tfNot, tfAnd, tfOr, fAnd, fOr, fNot, fIf, ofN, ofS, fSl, fChain, fIsi, afV, afR, afZ, afZk, zipKF, fLc, fLc2, fTwo, fOne, fSort, fSortSet, fGet, fOIn, fOGet, fOLen, fOIx, fRepr, fRev, fMeth, fNil, fSeq, fSet, fAsg, fRet, fIfS, fFor, fNewL, fApp, fExt, fGive, fNewK, fMakeK, fPutK, fGiveK, outF, envF, fnF, stF, stB, gN, gT, gsC, gsN, wipeD, getF, ownK, ownL, asB, asK, asL, asS, List.getElem?_cons_zero, List.getElem?_cons_succ, Option.bind_some, Option.map_some, Option.bind_none, Option.map_none, List.map_cons, List.map_nil, List.cons_append, List.nil_append, List.set_cons_zero, List.set_cons_succ, List.length_cons, List.length_nil, List.replicate_succ, List.replicate_zero, Nat.reduceSub, Nat.reduceAdd, Nat.reduceEqDiff, if_true, Bool.true_eq_false, Bool.false_eq_true, if_false, reduceIte, noDict, lenD_tup, lenD_lst, ltD_int, items_tup, items_lst, items_str, eqD_str, eqD_int, neD_str, neD_int, addD_int, subD_int, slD_lst, slD_tup, tuple_lst, tuple_tup, list_lst, list_tup, tyS_str, tyS_tup, lenD_str lz, isC_s1, decide_eq_true c1, decide_eq_false c2, Bool.not_true, Bool.not_false]
        · rw [decide_eq_false (show ¬ z.length ≤ 6 by omega)]
          simp
    · refine out_rt ((seq_rt (ifS_t ?_)).trans ?_)
      · simp only [fC, fV, fN, fCo, fTup, fLst, fOp, fCall, tfE, tfTr, tfYes, tfNot, tfAnd, tfOr, fAnd, fOr, fNot, fIf, ofN, ofS, fSl, fChain, fIsi, afV, afR, afZ, afZk, zipKF, fLc, fLc2, fTwo, fOne, fSort, fSortSet, fGet, fOIn, fOGet, fOLen, fOIx, fRepr, fRev, fMeth, fNil, fSeq, fSet, fAsg, fRet, fIfS, fFor, fNewL, fApp, fExt, fGive, fNewK, fMakeK, fPutK, fGiveK, outF, envF, fnF, stF, stB, gN, gT, gsC, gsN, wipeD, getF, ownK, ownL, asB, asK, asL, asS, List.getElem?_cons_zero, List.getElem?_cons_succ, Option.bind_some, Option.map_some, Option.bind_none, Option.map_none, List.map_cons, List.map_nil, List.cons_append, List.nil_append, List.set_cons_zero, List.set_cons_succ, List.length_cons, List.length_nil, List.replicate_succ, List.replicate_zero, Nat.reduceSub, Nat.reduceAdd, Nat.reduceEqDiff, if_true, Bool.true_eq_false, Bool.false_eq_true, if_false, reduceIte, noDict, lenD_tup, lenD_lst, ltD_int, items_tup, items_lst, items_str, eqD_str, eqD_int, neD_str, neD_int, addD_int, subD_int, slD_lst, slD_tup, tuple_lst, tuple_tup, list_lst, list_tup, tyS_str, tyS_tup, lenD_str lz, isC_s1, decide_eq_false c1, Bool.not_true, Bool.not_false]
      · rw [decide_eq_false (show ¬ 2 ≤ z.length by omega)]
        simp
  | dict _ => simp only [okD] at h; cases h
  | _ => rfl
end My
namespace My
open PySem PySem.Spec PyProof.Rows L2
theorem callW1 {i : Nat} {W : List PyData → M PyData} {f : EF} {ρ : DEnv} {n : Nat} {x : PyData} {Q : PyData → Nat → Prop} (h : ρ[i]? = some (some .dk)) (hf : f ρ = some x) (q : W [x] n Q) : eCallW i W (aC (pur f) aN) ρ n Q := ⟨h, x, hf, q⟩
theorem wSeqP {f : SF} {b : SD} {ρ ρ' : DEnv} {n : Nat} {E : EndsD} (hf : f ρ = some (.nx ρ')) (q : b ρ' n E) : sSeq (purS f) b ρ n E := ⟨.nx ρ', hf, q⟩
theorem wSetS {i : Nat} {e : ED} {b : SD} {ρ : DEnv} {n : Nat} {E : EndsD} (q : e ρ n fun x n1 => b (ρ.set i (some (.d x))) n1 E) : sSeq (sSet i e) b ρ n E := q
theorem wRetP {f : SF} {ρ : DEnv} {n : Nat} {E : EndsD} {x : PyData} (hf : f ρ = some (.rt x)) (q : E.rt x n) : purS f ρ n E := ⟨.rt x, hf, q⟩
theorem addL {a b : List PyData} (h : a.length + b.length ≤ 1000000) : addD (.list a) (.list b) = some (.list (a ++ b)) := if_pos h
theorem Gvs.len {W D : Nat} {ds : List PyData} (h : Gvs W D ds) : ds.length ≤ W := Nat.le_trans (wt_len ds) h.wt
end My
namespace My
open PySem PySem.Spec PyProof.Rows L2
def rowD (r : List Str) : PyData := .list (r.map PyData.str)
def rowsD (rs : List (List Str)) : PyData := .list (rs.map rowD)
def WOk (x : Str) : Prop := x.length ≤ 9 ∧ ∀ c ∈ x.cps.toList, c < 1000
def Rws (R C : Nat) (rs : List (List Str)) : Prop := rs.length ≤ R ∧ ∀ r ∈ rs, r.length ≤ C ∧ ∀ x ∈ r, WOk x
theorem Rws.mono {R C R' C' : Nat} {rs : List (List Str)} (h : Rws R C rs) (h1 : R ≤ R') (h2 : C ≤ C') : Rws R' C' rs := ⟨Nat.le_trans h.1 h1, fun r hr => ⟨Nat.le_trans (h.2 r hr).1 h2, (h.2 r hr).2⟩⟩
theorem atI_nat {α : Type} {xs : List α} {j : Nat} {x : α} (h : xs[j]? = some x) : atI xs (j : Int) = some x := by
  have l := (List.getElem?_eq_some_iff.mp h).1
  unfold atI ixN
  rw [if_pos (by omega), if_pos (by omega)]
  exact h
theorem ixN_nat {n j : Nat} (h : j < n) : ixN n (j : Int) = some j := by
  unfold ixN
  rw [if_pos (by omega), if_pos (by omega)]
  rfl
theorem ixN_last {n : Nat} (h : 0 < n) : ixN n (-1) = some (n - 1) := by
  unfold ixN
  rw [if_neg (by decide), if_pos (by omega)]
  congr 1
  omega
theorem slLto {f g : EF} {ρ : DEnv} {xs : List PyData} {k : Nat} (h : f ρ = some (.list xs)) (h2 : g ρ = some (.int (k : Int))) : fSl slD f ofN (ofS g) ρ = some (.list (xs.take k)) := by
  unfold fSl ofN ofS
  rw [h, h2]
  show some (PyData.list (cutD xs none (some (k : Int)))) = _
  rw [cut_to]
theorem slLfrom {f g : EF} {ρ : DEnv} {xs : List PyData} {k : Nat} (h : f ρ = some (.list xs)) (h2 : g ρ = some (.int (k : Int))) : fSl slD f (ofS g) ofN ρ = some (.list (xs.drop k)) := by
  unfold fSl ofN ofS
  rw [h, h2]
  show some (PyData.list (cutD xs (some (k : Int)) none)) = _
  rw [cut_from]
theorem lslto {i : Nat} {g : EF} {ρ : DEnv} {xs : List PyData} {k : Nat} (h : ρ[i]? = some (some (.l xs))) (h2 : g ρ = some (.int (k : Int))) : fLSl i ofN (ofS g) ρ = some (.list (xs.take k)) := by
  unfold fLSl ofN ofS
  rw [h, h2]
  show some (PyData.list (cutD xs none (some (k : Int)))) = _
  rw [cut_to]
theorem lslfrom {i : Nat} {g : EF} {ρ : DEnv} {xs : List PyData} {k : Nat} (h : ρ[i]? = some (some (.l xs))) (h2 : g ρ = some (.int (k : Int))) : fLSl i (ofS g) ofN ρ = some (.list (xs.drop k)) := by
  unfold fLSl ofN ofS
  rw [h, h2]
  show some (PyData.list (cutD xs (some (k : Int)) none)) = _
  rw [cut_from]
theorem lix_is {i : Nat} {g : EF} {ρ : DEnv} {xs : List PyData} {k : Int} {x : PyData} (h : ρ[i]? = some (some (.l xs))) (h2 : g ρ = some (.int k)) (e : atI xs k = some x) : fLIx i g ρ = some x := by
  unfold fLIx
  rw [h, h2]
  exact e
theorem setI_is {i : Nat} {fk fv : EF} {ρ : DEnv} {xs : List PyData} {k : Int} {j : Nat} {x : PyData} (h : ρ[i]? = some (some (.l xs))) (h1 : fv ρ = some x) (h2 : fk ρ = some (.int k)) (e : ixN xs.length k = some j) : fSetI i fk fv ρ = some (.nx (ρ.set i (some (.l (xs.set j x))))) := by
  unfold fSetI
  rw [h, h1, h2]
  show (Option.map (fun zs => Fl.nx (List.set ρ i (some (Sv.l zs)))) (Option.map (fun j => xs.set j x) (ixN xs.length k))) = _
  rw [e]
  rfl
theorem setFl_is {i : Nat} {f : EF} {ρ : DEnv} {xs : List PyData} (h : f ρ = some (.list xs)) : fSetFl i (fL f) ρ = some (.nx (ρ.set i (some (.l xs)))) := by
  unfold fSetFl fL
  rw [h]
  rfl
theorem lstL_is {a : AF} {ρ : DEnv} {xs : List PyData} (h : a ρ = some xs) (l : xs.length ≤ 1000000) : fLst a ρ = some (.list xs) := by
  unfold fLst
  rw [h, Option.bind_some]
  exact if_pos l
theorem cut_subR {α : Type} (B : List α) (j : Nat) : (B.take j ++ B.drop (j + 1)).Sublist B := by
  have e : B.take j ++ B.drop j = B := List.take_append_drop j B
  have s : (B.drop (j + 1)).Sublist (B.drop j) := by
    rw [← List.drop_drop]
    exact List.drop_sublist 1 _
  have z := (List.Sublist.refl (B.take j)).append s
  rwa [e] at z
theorem row_take {r : List Str} {k : Nat} : (r.map PyData.str).take k = (r.take k).map PyData.str := (List.map_take ..).symm
theorem row_drop {r : List Str} {k : Nat} : (r.map PyData.str).drop k = (r.drop k).map PyData.str := (List.map_drop ..).symm
abbrev bP1 : SF := (fIfS (tfE (fOp (ltD fun i j => decide (i < j)) (fV 4) (fC (.int 3)))) (fSetI 2 (fV 3) (fOp addD (fOp addD (fSl slD (fLIx 2 (fV 3)) ofN (ofS (fV 5))) (fLst (fCo (fV 6) fN))) (fSl slD (fLIx 2 (fV 3)) (ofS (fOp addD (fV 5) (fOp modD (fV 4) (fC (.int 2))))) ofN))) fNil)
abbrev bP2 : SF := (fIfS (tfE (fOp eqD (fV 4) (fC (.int 3)))) (fSetI 2 (fV 3) (fOp addD (fSl slD (fLIx 2 (fV 3)) ofN (ofS (fV 5))) (fSl slD (fLIx 2 (fV 3)) (ofS (fOp addD (fV 5) (fC (.int 1)))) ofN))) fNil)
abbrev bP3 : SF := (fIfS (tfE (fOp eqD (fV 4) (fC (.int 4)))) (fSetFl 2 (fL (fOp addD (fLSl 2 ofN (ofS (fV 3))) (fLSl 2 (ofS (fOp addD (fV 3) (fC (.int 1)))) ofN)))) fNil)
abbrev bP4 : SF := (fIfS (tfE (fOp eqD (fV 4) (fC (.int 5)))) (fSetFl 2 (fL (fOp addD (fOp addD (fLSl 2 ofN (ofS (fV 3))) (fLst (fCo (fLIx 2 (fV 3)) fN))) (fLSl 2 (ofS (fV 3)) ofN)))) fNil)
abbrev bP5 : SF := (fIfS (tfE (fOp eqD (fV 4) (fC (.int 6)))) (fSeq (fSet 7 (fLIx 2 (fV 3)))
    (fSeq (fSetI 2 (fV 3) (fLIx 2 (fNeg (fC (.int 1)))))
    (fSetI 2 (fNeg (fC (.int 1))) (fV 7)))) fNil)
section
variable {v0 v1 v7 v8 : Option Sv} {R C : Nat} {rs : List (List Str)} {a k c : Nat} {odd : Str} {r : List Str}
abbrev bF (v0 v1 v7 v8 : Option Sv) (rs : List (List Str)) (a c k : Nat) (odd : Str) : DEnv := [v0, v1, some (.l (rs.map rowD)), some (.d (.int (a : Int))), some (.d (.int (c : Int))), some (.d (.int (k : Int))), some (.d (.str odd)), v7, v8]
theorem at_row (h : rs[a]? = some r) : fLIx 2 (fV 3) (bF v0 v1 v7 v8 rs a c k odd) = some (.list (r.map PyData.str)) := lix_is rfl rfl (atI_nat (by rw [List.getElem?_map, h]; rfl))
theorem Rws.set {r' : List Str} (h : Rws R C rs) (l : r'.length ≤ C) (hw : ∀ x ∈ r', WOk x) : Rws R C (rs.set a r') := ⟨by rw [List.length_set]; exact h.1, fun y hy => by
  rcases List.mem_or_eq_of_mem_set hy with e | e
  · exact h.2 y e
  · rw [e]
    exact ⟨l, hw⟩⟩
theorem set_rows {r' : List Str} {a : Nat} : (rs.map rowD).set a (.list (r'.map PyData.str)) = (rs.set a r').map rowD := (List.map_set (f := rowD)).symm
theorem bent1 (H : Rws R C rs) (h : rs[a]? = some r) (hc : c < 3) (ho : WOk odd) (cC : C ≤ 1000) : ∃ rs', bP1 (bF v0 v1 v7 v8 rs a c k odd) = some (.nx (bF v0 v1 v7 v8 rs' a c k odd)) ∧ Rws R (C + 1) rs' := by
  have hr := H.2 r (List.mem_of_getElem? h)
  have la := (List.getElem?_eq_some_iff.mp h).1
  have e1 : (fSl slD (fLIx 2 (fV 3)) ofN (ofS (fV 5))) (bF v0 v1 v7 v8 rs a c k odd) = some (.list ((r.map PyData.str).take k)) := slLto (at_row h) rfl
  have e3 : (fLst (fCo (fV 6) fN)) (bF v0 v1 v7 v8 rs a c k odd) = some (.list [.str odd]) := lstL_is (xs := [.str odd]) rfl (show 1 ≤ 1000000 by decide)
  have cc : c = 0 ∨ c = 1 ∨ c = 2 := by omega
  have hm : ∃ m : Nat, m ≤ 1 ∧ (fOp addD (fV 5) (fOp modD (fV 4) (fC (.int 2)))) (bF v0 v1 v7 v8 rs a c k odd) = some (.int ((k + m : Nat) : Int)) := by
    rcases cc with rfl | rfl | rfl
    · exact ⟨0, by decide, rfl⟩
    · exact ⟨1, by decide, rfl⟩
    · exact ⟨0, by decide, rfl⟩
  obtain ⟨m, lm, em⟩ := hm
  have e2 : (fSl slD (fLIx 2 (fV 3)) (ofS (fOp addD (fV 5) (fOp modD (fV 4) (fC (.int 2))))) ofN) (bF v0 v1 v7 v8 rs a c k odd) = some (.list ((r.map PyData.str).drop (k + m))) := slLfrom (at_row h) em
  have sz : (r.take k ++ [odd] ++ r.drop (k + m)).length ≤ C + 1 := by
    have := hr.1
    rw [List.length_append, List.length_append, List.length_take, List.length_drop, List.length_singleton]
    omega
  have e4 : (fOp addD (fOp addD (fSl slD (fLIx 2 (fV 3)) ofN (ofS (fV 5))) (fLst (fCo (fV 6) fN))) (fSl slD (fLIx 2 (fV 3)) (ofS (fOp addD (fV 5) (fOp modD (fV 4) (fC (.int 2))))) ofN)) (bF v0 v1 v7 v8 rs a c k odd) = some (.list ((r.take k ++ [odd] ++ r.drop (k + m)).map PyData.str)) := by
    have l1 := hr.1
    refine (op_is (op_is e1 e3 (addL ?_)) e2 (addL ?_)).trans ?_
    · rw [List.length_take, List.length_map, List.length_singleton]
      omega
    · rw [List.length_append, List.length_take, List.length_drop, List.length_map, List.length_singleton]
      omega
    · rw [List.map_append, List.map_append, row_take, row_drop]
      rfl
  refine ⟨rs.set a (r.take k ++ [odd] ++ r.drop (k + m)), (ifS_t (tb_is (b := true) ?_)).trans ((setI_is rfl e4 rfl (ixN_nat (by rw [List.length_map]; exact la))).trans (by rw [set_rows]; rfl)), (H.mono (Nat.le_refl _) (Nat.le_succ C)).set sz fun x hx => ?_⟩
  · rcases cc with rfl | rfl | rfl <;> rfl
  · rcases List.mem_append.mp hx with hx | hx
    · rcases List.mem_append.mp hx with hx | hx
      · exact hr.2 x (List.mem_of_mem_take hx)
      · rw [List.mem_singleton.mp hx]
        exact ho
    · exact hr.2 x (List.mem_of_mem_drop hx)
theorem bent2 (H : Rws R C rs) (h : rs[a]? = some r) (cC : C ≤ 1000) : ∃ rs', bP2 (bF v0 v1 v7 v8 rs a 3 k odd) = some (.nx (bF v0 v1 v7 v8 rs' a 3 k odd)) ∧ Rws R C rs' := by
  have hr := H.2 r (List.mem_of_getElem? h)
  have la := (List.getElem?_eq_some_iff.mp h).1
  have e1 : (fSl slD (fLIx 2 (fV 3)) ofN (ofS (fV 5))) (bF v0 v1 v7 v8 rs a 3 k odd) = some (.list ((r.map PyData.str).take k)) := slLto (at_row h) rfl
  have e2 : (fSl slD (fLIx 2 (fV 3)) (ofS (fOp addD (fV 5) (fC (.int 1)))) ofN) (bF v0 v1 v7 v8 rs a 3 k odd) = some (.list ((r.map PyData.str).drop (k + 1))) := slLfrom (at_row h) rfl
  have sub := cut_subR r k
  have e4 : (fOp addD (fSl slD (fLIx 2 (fV 3)) ofN (ofS (fV 5))) (fSl slD (fLIx 2 (fV 3)) (ofS (fOp addD (fV 5) (fC (.int 1)))) ofN)) (bF v0 v1 v7 v8 rs a 3 k odd) = some (.list ((r.take k ++ r.drop (k + 1)).map PyData.str)) := by
    have l1 := hr.1
    refine (op_is e1 e2 (addL ?_)).trans ?_
    · rw [List.length_take, List.length_drop, List.length_map]
      omega
    · rw [List.map_append, row_take, row_drop]
  exact ⟨rs.set a (r.take k ++ r.drop (k + 1)), (ifS_t (tb_is (b := true) rfl)).trans ((setI_is rfl e4 rfl (ixN_nat (by rw [List.length_map]; exact la))).trans (by rw [set_rows]; rfl)), H.set (Nat.le_trans sub.length_le hr.1) fun x hx => hr.2 x (sub.subset hx)⟩
theorem bent3 (H : Rws R C rs) (cR : R ≤ 1000) : ∃ rs', bP3 (bF v0 v1 v7 v8 rs a 4 k odd) = some (.nx (bF v0 v1 v7 v8 rs' a 4 k odd)) ∧ Rws R C rs' := by
  have sub := cut_subR rs a
  have l1 := H.1
  refine ⟨rs.take a ++ rs.drop (a + 1), (ifS_t (tb_is (b := true) rfl)).trans ((setFl_is (op_is (lslto rfl rfl) (lslfrom (k := a + 1) rfl rfl) (addL ?_))).trans ?_), Nat.le_trans sub.length_le l1, fun y hy => H.2 y (sub.subset hy)⟩
  · rw [List.length_take, List.length_drop, List.length_map]
    omega
  · rw [← List.map_take, ← List.map_drop, ← List.map_append]
    rfl
theorem bent4 (H : Rws R C rs) (h : rs[a]? = some r) (cR : R ≤ 1000) : ∃ rs', bP4 (bF v0 v1 v7 v8 rs a 5 k odd) = some (.nx (bF v0 v1 v7 v8 rs' a 5 k odd)) ∧ Rws (R + 1) C rs' := by
  have hr := H.2 r (List.mem_of_getElem? h)
  have l1 := H.1
  have e3 : (fLst (fCo (fLIx 2 (fV 3)) fN)) (bF v0 v1 v7 v8 rs a 5 k odd) = some (.list [rowD r]) := lstL_is (xs := [rowD r]) (co1 (at_row h)) (show 1 ≤ 1000000 by decide)
  refine ⟨rs.take a ++ [r] ++ rs.drop a, (ifS_t (tb_is (b := true) rfl)).trans ((setFl_is (op_is (op_is (lslto rfl rfl) e3 (addL ?_)) (lslfrom (k := a) rfl rfl) (addL ?_))).trans ?_), ?_, fun y hy => ?_⟩
  · rw [List.length_take, List.length_map, List.length_singleton]
    omega
  · rw [List.length_append, List.length_take, List.length_drop, List.length_map, List.length_singleton]
    omega
  · rw [← List.map_take, ← List.map_drop]
    show _ = some (Fl.nx [v0, v1, some (.l ((rs.take a ++ [r] ++ rs.drop a).map rowD)), _, _, _, _, v7, v8])
    rw [List.map_append, List.map_append]
    rfl
  · rw [List.length_append, List.length_append, List.length_take, List.length_drop, List.length_singleton]
    omega
  · rcases List.mem_append.mp hy with hy | hy
    · rcases List.mem_append.mp hy with hy | hy
      · exact H.2 y (List.mem_of_mem_take hy)
      · rw [List.mem_singleton.mp hy]
        exact hr
    · exact H.2 y (List.mem_of_mem_drop hy)
theorem bent5 (H : Rws R C rs) (h : rs[a]? = some r) : ∃ rs' v7', bP5 (bF v0 v1 v7 v8 rs a 6 k odd) = some (.nx (bF v0 v1 v7' v8 rs' a 6 k odd)) ∧ Rws R C rs' := by
  have hr := H.2 r (List.mem_of_getElem? h)
  have la := (List.getElem?_eq_some_iff.mp h).1
  have lr : 0 < rs.length := by omega
  obtain ⟨z, ez⟩ : ∃ z, rs[rs.length - 1]? = some z := ⟨rs[rs.length - 1], List.getElem?_eq_getElem (by omega)⟩
  have hz := H.2 z (List.mem_of_getElem? ez)
  have ix : ixN (rs.map rowD).length (-1) = some (rs.length - 1) := by
    rw [List.length_map]
    exact ixN_last lr
  have ez' : atI (rs.map rowD) (-1) = some (.list (z.map PyData.str)) := by
    unfold atI
    rw [ix, Option.bind_some, List.getElem?_map, ez]
    rfl
  have s1 : (fSet 7 (fLIx 2 (fV 3))) (bF v0 v1 v7 v8 rs a 6 k odd) = some (.nx (bF v0 v1 (some (.d (.list (r.map PyData.str)))) v8 rs a 6 k odd)) := set_is (at_row h)
  have s2 : (fSetI 2 (fV 3) (fLIx 2 (fNeg (fC (.int 1))))) (bF v0 v1 (some (.d (.list (r.map PyData.str)))) v8 rs a 6 k odd) = some (.nx (bF v0 v1 (some (.d (.list (r.map PyData.str)))) v8 (rs.set a z) a 6 k odd)) := (setI_is rfl (lix_is (k := -1) rfl rfl ez') rfl (ixN_nat (by rw [List.length_map]; exact la))).trans (by rw [set_rows]; rfl)
  have ix2 : ixN ((rs.set a z).map rowD).length (-1) = some (rs.length - 1) := by
    rw [List.length_map, List.length_set]
    exact ixN_last lr
  have s3 : (fSetI 2 (fNeg (fC (.int 1))) (fV 7)) (bF v0 v1 (some (.d (.list (r.map PyData.str)))) v8 (rs.set a z) a 6 k odd) = some (.nx (bF v0 v1 (some (.d (.list (r.map PyData.str)))) v8 ((rs.set a z).set (rs.length - 1) r) a 6 k odd)) := (setI_is (k := -1) rfl (x := .list (r.map PyData.str)) rfl rfl ix2).trans (by rw [set_rows]; rfl)
  exact ⟨_, _, (ifS_t (tb_is (b := true) rfl)).trans ((seq_nx s1).trans ((seq_nx s2).trans s3)), (H.set hz.1 hz.2).set hr.1 hr.2⟩
theorem bent_ways (H : Rws R C rs) (h : rs[a]? = some r) (hc : c < 8) (ho : WOk odd) (cC : C ≤ 1000) (cR : R ≤ 1000) : ∃ rs' r1 r2 r3 r4 v7', bP1 (bF v0 v1 v7 v8 rs a c k odd) = some (.nx (bF v0 v1 v7 v8 r1 a c k odd)) ∧ bP2 (bF v0 v1 v7 v8 r1 a c k odd) = some (.nx (bF v0 v1 v7 v8 r2 a c k odd)) ∧ bP3 (bF v0 v1 v7 v8 r2 a c k odd) = some (.nx (bF v0 v1 v7 v8 r3 a c k odd)) ∧ bP4 (bF v0 v1 v7 v8 r3 a c k odd) = some (.nx (bF v0 v1 v7 v8 r4 a c k odd)) ∧ bP5 (bF v0 v1 v7 v8 r4 a c k odd) = some (.nx (bF v0 v1 v7' v8 rs' a c k odd)) ∧ Rws (R + 1) (C + 1) rs' ∧ (c = 7 → rs' = rs) := by
  have cc : c = 0 ∨ c = 1 ∨ c = 2 ∨ c = 3 ∨ c = 4 ∨ c = 5 ∨ c = 6 ∨ c = 7 := by omega
  rcases cc with rfl | rfl | rfl | rfl | rfl | rfl | rfl | rfl
  · obtain ⟨rs', e, w⟩ := bent1 (v0 := v0) (v1 := v1) (v7 := v7) (v8 := v8) (k := k) (c := 0) H h (by decide) ho cC
    exact ⟨rs', rs', rs', rs', rs', v7, e, rfl, rfl, rfl, rfl, w.mono (Nat.le_succ R) (Nat.le_refl _), by omega⟩
  · obtain ⟨rs', e, w⟩ := bent1 (v0 := v0) (v1 := v1) (v7 := v7) (v8 := v8) (k := k) (c := 1) H h (by decide) ho cC
    exact ⟨rs', rs', rs', rs', rs', v7, e, rfl, rfl, rfl, rfl, w.mono (Nat.le_succ R) (Nat.le_refl _), by omega⟩
  · obtain ⟨rs', e, w⟩ := bent1 (v0 := v0) (v1 := v1) (v7 := v7) (v8 := v8) (k := k) (c := 2) H h (by decide) ho cC
    exact ⟨rs', rs', rs', rs', rs', v7, e, rfl, rfl, rfl, rfl, w.mono (Nat.le_succ R) (Nat.le_refl _), by omega⟩
  · obtain ⟨rs', e, w⟩ := bent2 (v0 := v0) (v1 := v1) (v7 := v7) (v8 := v8) (k := k) (odd := odd) H h cC
    exact ⟨rs', rs, rs', rs', rs', v7, rfl, e, rfl, rfl, rfl, w.mono (Nat.le_succ R) (Nat.le_succ C), by omega⟩
  · obtain ⟨rs', e, w⟩ := bent3 (v0 := v0) (v1 := v1) (v7 := v7) (v8 := v8) (k := k) (a := a) (odd := odd) H cR
    exact ⟨rs', rs, rs, rs', rs', v7, rfl, rfl, e, rfl, rfl, w.mono (Nat.le_succ R) (Nat.le_succ C), by omega⟩
  · obtain ⟨rs', e, w⟩ := bent4 (v0 := v0) (v1 := v1) (v7 := v7) (v8 := v8) (k := k) (odd := odd) H h cR
    exact ⟨rs', rs, rs, rs, rs', v7, rfl, rfl, rfl, e, rfl, w.mono (Nat.le_refl _) (Nat.le_succ C), by omega⟩
  · obtain ⟨rs', v7', e, w⟩ := bent5 (v0 := v0) (v1 := v1) (v7 := v7) (v8 := v8) (k := k) (odd := odd) H h
    exact ⟨rs', rs, rs, rs, rs, v7', rfl, rfl, rfl, rfl, e, w.mono (Nat.le_succ R) (Nat.le_succ C), by omega⟩
  · exact ⟨rs, rs, rs, rs, rs, v7, rfl, rfl, rfl, rfl, rfl, H.mono (Nat.le_succ R) (Nat.le_succ C), fun _ => rfl⟩
end
theorem rows_copy {v0 v2 v3 v4 v5 v6 v7 v8 : Option Sv} {rs : List (List Str)} (l : rs.length ≤ 1000) : (fL (fLc (afV (fV 1)) (gN 8) tfYes (fCall lstD1 (fCo (fV 8) fN)) [8])) [v0, some (.d (rowsD rs)), v2, v3, v4, v5, v6, v7, v8] = some (rs.map rowD) := by
  have e : (fLc (afV (fV 1)) (gN 8) tfYes (fCall lstD1 (fCo (fV 8) fN)) [8]) [v0, some (.d (rowsD rs)), v2, v3, v4, v5, v6, v7, v8] = some (.list (rs.map rowD)) := lc_is (xs := rs.map rowD) rfl (by rw [List.length_map]; show _ ≤ 1000000; omega) (lcF_map fun f hf => st_yes rfl (call_is (co1 rfl) rfl))
  unfold fL
  rw [e]
  rfl
def wokB : PyData → Bool
  | .str z => decide (z.length ≤ 9) && z.cps.toList.all fun c => decide (c < 1000)
  | _ => false
theorem wokB_is {y : PyData} (h : wokB y = true) : ∃ z, y = .str z ∧ WOk z := by
  cases y with
  | str z =>
    unfold wokB at h
    simp only [Bool.and_eq_true, decide_eq_true_eq, List.all_eq_true] at h
    exact ⟨z, rfl, h⟩
  | _ => cases h
theorem odd29 : ∀ y ∈ ([.str "", .str "a", .str "?1", .str "?0", .str "?01", .str "?", .str "A", .str "abcdefghi", .str "a1", .str "?123456", .str "1", .str "\ta", .str "z", .str "?x"] : List PyData), ∃ z, y = .str z ∧ WOk z := by
  have h : ([.str "", .str "a", .str "?1", .str "?0", .str "?01", .str "?", .str "A", .str "abcdefghi", .str "a1", .str "?123456", .str "1", .str "\ta", .str "z", .str "?x"] : List PyData).all wokB = true := by decide +kernel
  exact fun y hy => wokB_is (List.all_eq_true.mp h y hy)
theorem mul_rep (m : Nat) (h : m ≤ 1000) : mulX (.list [.str "?7"]) (.int (m : Int)) = some (.list ((List.replicate m ("?7" : Str)).map PyData.str)) := by
  show (if 0 ≤ (m : Int) ∧ (m : Int) ≤ 1000 ∧ 1 * (m : Int).toNat ≤ lim then some (PyData.list (List.replicate (m : Int).toNat [PyData.str "?7"]).flatten) else none) = _
  rw [if_pos ⟨by omega, by omega, by show 1 * (m : Int).toNat ≤ 1000000; omega⟩, List.map_replicate, List.flatten_replicate_singleton]
  rfl
def W_bentR29 : List PyData → M PyData := fun ds n Q => ∃ rs, ds = [rowsD rs] ∧ ∃ R C, rs ≠ [] ∧ Rws R C rs ∧ R ≤ 100 ∧ C ≤ 100 ∧ 5 ≤ C ∧ n < 1000000 ∧ ∀ rs' n', Rws (R + 1) (C + 1) rs' → n' ≤ n + 5 → Q (rowsD rs') n'
end My
namespace My
open PySem PySem.Spec PyProof.Rows L2
def S__law_wrong : SF :=
  (fSeq (fIfS (tfNot (tfE (fCall F__law_is_word (fCo (fOp ixD (fV 0) (fC (.int 0))) fN)))) (fRet (fC (.int 0))) fNil)
    (fSeq (fIfS (tfE (fOp eqD (fCall lenD (fCo (fV 0) fN)) (fC (.int 1)))) (fRet (fC (.int 1))) fNil)
    (fSeq (fFor (afR2 (fCo (fC (.int 1)) (fCo (fCall lenD (fCo (fV 0) fN)) fN))) (gN 1) (fIfS (tfOr (tfE (fOp (ltD fun i j => decide (j < i)) (fV 1) (fC (.int 4)))) (tfAnd (tfNot (tfE (fCall F__law_is_word (fCo (fOp ixD (fV 0) (fV 1)) fN)))) (tfNot (tfE (fCall F__law_is_unknown (fCo (fOp ixD (fV 0) (fV 1)) fN)))))) (fRet (fV 1)) fNil))
    (fRet (fNeg (fC (.int 1)))))))
def F__law_wrong : List PyData → Option PyData := fnF 1 2 S__law_wrong
theorem at__law_wrong (x0 : PyData) : F__law_wrong [x0] = (S__law_wrong [some (.d x0), none]).bind outF := rfl
end My
namespace My
open PySem PySem.Spec PyProof.Rows L2
def S29__law_due : SF :=
  (fSeq (fSplL 1 (fV 0) (fCo (fC (.str "\n")) fN))
    (fSeq (fPop2VL 1 2 3)
    (fSeq (fIfS (tfE (fOp neD (fV 2) (fC (.str "")))) (fApp 1 (fV 2)) fNil)
    (fGive 1 (fSeq (fFor (afR (fCo (fCall lenD (fCo (fV 1) fN)) fN)) (gN 4) (fSeq (fSet 5 (fMeth splitD (fOp ixD (fV 1) (fV 4)) (fCo (fC (.str " ")) fN)))
    (fSeq (fIfS (tfE (fOp (ltD fun i j => decide (j ≤ i)) (fCall F__law_wrong (fCo (fV 5) fN)) (fC (.int 0)))) (fRet (fTup (fCo (fC (.str "bad")) (fCo (fTup (fCo (fV 4) (fCo (fCall F__law_wrong (fCo (fV 5) fN)) fN))) fN)))) fNil)
    (fSeq (fSet 6 (fCall tupD1 (fCo (fV 5) fN)))
    (fSeq (fSet 7 (fVL 3 (fL (fLc (afV (fV 3)) (gN 8) (tfOr (tfAnd (tfE (fOp eqD (fOp ixD (fV 8) (fC (.int 0))) (fOp ixD (fV 6) (fC (.int 0))))) (tfE (fOp neD (fCall lenD (fCo (fV 8) fN)) (fCall lenD (fCo (fV 6) fN))))) (tfE (fOp geX (fV 8) (fV 6)))) (fC (.int 1)) [8]))))
    (fSeq (fIfS (fVT 3 (tfOr (tfE (fOp neD (fV 7) (fLst fN))) (tfOr (tfE (fOp eqD (fCall lenD (fCo (fV 3) fN)) (fC (.int 30)))) (tfE (fOp (ltD fun i j => decide (j < i)) (fCall lenD (fCo (fCall F__law_names (fCo (fOp addD (fV 3) (fLst (fCo (fV 6) fN))) fN)) fN)) (fC (.int 5))))))) (fRet (fTup (fCo (fC (.str "bad")) (fCo (fTup (fCo (fV 4) (fCo (fC (.int 0)) fN))) fN)))) fNil)
    (fApp 3 (fV 6))))))))
    (fSeq (fIfS (tfE (fOp neD (fV 2) (fC (.str "")))) (fRet (fTup (fCo (fC (.str "bad")) (fCo (fTup (fCo (fCall lenD (fCo (fV 1) fN)) (fCo (fC (.int 0)) fN))) fN)))) fNil)
    (fGive 3 (fRet (fTup (fCo (fC (.str "fine")) (fCo (fCall tupD1 (fCo (fV 3) fN)) fN)))))))))))
def F29__law_due : List PyData → Option PyData := fnF 1 9 S29__law_due
theorem at29__law_due (x0 : PyData) : F29__law_due [x0] = (S29__law_due [some (.d x0), none, none, none, none, none, none, none, none]).bind outF := rfl
end My
namespace My
open PySem PySem.Spec PyProof.Rows L2
def SP_check_end : SFXf :=
  (gxIff (tfAnd (tfE (fOp (ltD fun i j => decide (j < i)) (fCall lenD (fCo (fV 1) fN)) (fC (.int 0)))) (tfNot (tfE (fMeth endsD (fV 0) (fCo (fC (.str "\n")) fN))))) (gfRaise "line" "word" (fCo (fCall lenD (fCo (fV 1) fN)) (fCo (fC (.int 0)) fN))) gxNilf)
def FP_check_end : List PyData → Option (PyData ⊕ Fs) := fnXf 2 2 SP_check_end
end My
namespace My
open PySem PySem.Spec PyProof.Rows L2
def SP_read_store : SFXf :=
  (gxSeqf (xLiftf (fSet 1 (fCall F_text_lines (fCo (fV 0) fN))))
    (gxSeqf (xLiftf (fSet 2 (fTup fN)))
    (gxSeqf (gfFor (afEnL (fV 1)) (gT 2 (gsC (gN 3) (gsC (gN 4) gsN))) (gxSeqf (xLiftf (fSet 5 (fCall tupD1 (fCo (fMeth splitD (fV 4) (fCo (fC (.str " ")) fN)) fN))))
    (gxSeqf (xLiftf (fSet 6 (fCall F_fact_fault (fCo (fV 2) (fCo (fV 5) fN)))))
    (gxSeqf (gxIff (tfE (fOp (isND true) (fV 6) (fC .none))) (gfRaise "line" "word" (fCo (fV 3) (fCo (fV 6) fN))) gxNilf)
    (xLiftf (fSet 2 (fOp addD (fV 2) (fTup (fCo (fV 5) fN)))))))))
    (gxSeqf (gfExpr (gxCallf FP_check_end (xLiftAf (fCo (fV 0) (fCo (fV 1) fN)))))
    (xLiftf (fRet (fV 2)))))))
def FP_read_store : List PyData → Option (PyData ⊕ Fs) := fnXf 1 7 SP_read_store
end My
namespace My
open PySem PySem.Spec PyProof.Rows L2
def S__law_read : SF :=
  (fTryF "fine" "bad" "line" "word" FP_read_store (fCo (fV 0) fN))
def F__law_read : List PyData → Option PyData := fnF 1 2 S__law_read
theorem at__law_read (x0 : PyData) : F__law_read [x0] = (S__law_read [some (.d x0), none]).bind outF := rfl
end My
namespace My
open PySem PySem.Spec PyProof.Rows L2
theorem okStr {x : Str} (h : ∀ c ∈ x.cps.toList, c < 1000) (l : x.length ≤ 1000000) : okD (.str x) = true := gv_ok _ (by simp only [gvD, List.all_eq_true, decide_eq_true_eq]; exact h) (by simp only [PyData.weight]; exact l)
def OkW (f : List Str) : Prop := ∀ x ∈ f, okD (.str x) = true
theorem forN {g : GD} {b : SF} {x : PyData} {xs : List PyData} {ρ ρ1 ρ2 : DEnv} (h1 : g x ρ = some ρ1) (h2 : b ρ1 = some (.nx ρ2)) : forF g b (x :: xs) ρ = forF g b xs ρ2 := by
  show ((g x ρ).bind fun ρ1 => (b ρ1).bind _) = _
  rw [h1, Option.bind_some, h2]
  rfl
theorem forR {g : GD} {b : SF} {x : PyData} {xs : List PyData} {ρ ρ1 : DEnv} {d : PyData} (h1 : g x ρ = some ρ1) (h2 : b ρ1 = some (.rt d)) : forF g b (x :: xs) ρ = some (.rt d) := by
  show ((g x ρ).bind fun ρ1 => (b ρ1).bind _) = _
  rw [h1, Option.bind_some, h2]
  rfl
def badW : List Str → Nat → Option Nat
  | [], _ => none
  | y :: ys, k => if (decide (4 < k) || !valB (.str y)) = true then some k else badW ys (k + 1)
def wrongF : List Str → Option Nat
  | [] => some 0
  | x :: r => if wrdB x = false then some 0 else if r = [] then some 1 else badW r 1
theorem wrongF_cons (x : Str) (r : List Str) : wrongF (x :: r) = if wrdB x = false then some 0 else if r = [] then some 1 else badW r 1 := rfl
theorem badW_none : ∀ {ws : List Str} {k : Nat}, badW ws k = none → (ws ≠ [] → k + ws.length ≤ 5) ∧ ∀ y ∈ ws, ValOk y
  | [], _, _ => ⟨fun h => absurd rfl h, nofun⟩
  | y :: ys, k, h => by
    unfold badW at h
    split at h
    · cases h
    · rename_i c
      simp only [Bool.or_eq_true, decide_eq_true_eq, Bool.not_eq_true', not_or, Nat.not_lt, Bool.not_eq_false] at c
      obtain ⟨a, b⟩ := badW_none h
      obtain ⟨z, ez, vz⟩ := val_str c.2
      cases ez
      refine ⟨fun _ => ?_, fun w hw => ?_⟩
      · rw [List.length_cons]
        by_cases e : ys = []
        · subst e
          show k + 1 ≤ 5
          omega
        · have := a e
          omega
      · rcases List.mem_cons.mp hw with rfl | hw
        · exact vz
        · exact b w hw
theorem wrong_none {f : List Str} (h : wrongF f = none) : FactG f := by
  cases f with
  | nil => cases h
  | cons x r =>
    rw [wrongF_cons] at h
    split at h
    · cases h
    · rename_i c
      split at h
      · cases h
      · rename_i e
        obtain ⟨a, b⟩ := badW_none h
        refine ⟨x, r, rfl, by simpa using c, ?_, ?_, b⟩
        · exact List.length_pos_iff.mpr e
        · have := a e
          omega
theorem fault_loopG (a b : Option Sv) : ∀ (ws : List Str) (k : Nat) (v2 v3 : Option Sv), (∀ y ∈ ws, okD (.str y) = true) → ∃ r, forF (gT 2 (gsC (gN 2) (gsC (gN 3) gsN))) fltB (enumD (k : Int) (ws.map PyData.str)) [a, b, v2, v3] = some r ∧ (∀ j, badW ws k = some j → r = .rt (.int (j : Int))) ∧ (badW ws k = none → ∃ u2 u3, r = .nx [a, b, u2, u3])
  | [], k, v2, v3, _ => ⟨_, rfl, nofun, fun _ => ⟨v2, v3, rfl⟩⟩
  | w :: ws, k, v2, v3, h => by
    have okw := h w List.mem_cons_self
    have t : (tfOr (tfE (fOp (ltD fun i j => decide (j < i)) (fV 2) (fC (.int 4)))) (tfNot (tfE (fCall F_is_value (fCo (fV 3) fN))))) [a, b, some (.d (.int (k : Int))), some (.d (.str w))] = some (decide (4 < k) || !valB (.str w)) := by
      refine tor_is ((tb_is (op_is rfl rfl ltD_int)).trans ?_) fun _ => tnot_is (tb_is (call_is (co1 rfl) (F_value okw)))
      congr 1
      exact decide_eq_decide.mpr (by omega)
    by_cases c : (decide (4 < k) || !valB (.str w)) = true
    · rw [c] at t
      refine ⟨.rt (.int (k : Int)), forR rfl ((ifS_t t).trans (ret_is rfl)), fun j ej => ?_, fun e => ?_⟩
      · unfold badW at ej
        rw [if_pos c] at ej
        cases ej
        rfl
      · unfold badW at e
        rw [if_pos c] at e
        cases e
    · rw [Bool.eq_false_iff.mpr c] at t
      obtain ⟨r, e1, e2, e3⟩ := fault_loopG a b ws (k + 1) (some (.d (.int (k : Int)))) (some (.d (.str w))) (fun y hy => h y (List.mem_cons_of_mem _ hy))
      refine ⟨r, (forN rfl ((ifS_f t).trans rfl)).trans e1, fun j ej => ?_, fun e => ?_⟩
      · unfold badW at ej
        rw [if_neg c] at ej
        exact e2 j ej
      · unfold badW at e
        rw [if_neg c] at e
        exact e3 e
def faultD (adm : Bool) : Option Nat → PyData
  | some k => .int (k : Int)
  | none => if adm = true then .none else .int 0
theorem if_is {c : TF} {a b : EF} {ρ : DEnv} {x : Bool} {d e : PyData} (h : c ρ = some x) (ha : a ρ = some d) (hb : b ρ = some e) : fIf c a b ρ = some (if x = true then d else e) := by
  unfold fIf
  rw [h]
  cases x with
  | true => exact ha
  | false => exact hb
theorem F_faultG {L : List (List Str)} {f : List Str} (adm : Bool) (hf : f ≠ []) (ok : OkW f) (lf : f.length ≤ 1000) (lL : L.length ≤ 30) (hm : wrongF f = none → F_may_be_read [stD (L ++ [f])] = some (.bool adm)) : F_fact_fault [stD L, bT' f] = some (faultD adm (wrongF f)) := by
  rw [at_fact_fault]
  unfold S_fact_fault
  cases f with
  | nil => exact absurd rfl hf
  | cons r ws =>
    have okr := ok r List.mem_cons_self
    have t1 : (tfNot (tfE (fCall F_is_word (fCo (fOp ixD (fV 1) (fC (.int 0))) fN)))) [some (.d (stD L)), some (.d (bT' (r :: ws))), none, none] = some (!wrdB r) := tnot_is (tb_is (call_is (co1 (op_is rfl rfl ix0)) (F_word okr)))
    by_cases c : wrdB r = false
    · rw [c] at t1
      have e0 : wrongF (r :: ws) = some 0 := by
        rw [wrongF_cons, if_pos c]
      rw [e0]
      exact out_rt (seq_rt ((ifS_t t1).trans (ret_is rfl)))
    · have c' : wrdB r = true := by simpa using c
      rw [c'] at t1
      obtain ⟨q, e2, e3, e4⟩ := fault_loopG (some (.d (stD L))) (some (.d (bT' (r :: ws)))) ws 1 none none (fun y hy => ok y (List.mem_cons_of_mem _ hy))
      have i2 : afEnS 1 (fSl slD (fV 1) (ofS (fC (.int 1))) ofN) [some (.d (stD L)), some (.d (bT' (r :: ws))), none, none] = some (enumD ((1 : Nat) : Int) (ws.map PyData.str)) := by
        unfold afEnS
        have z : (fSl slD (fV 1) (ofS (fC (.int 1))) ofN) [some (.d (stD L)), some (.d (bT' (r :: ws))), none, none] = some (.tuple ((((r :: ws).map PyData.str).drop 1))) := sl1 _
        rw [z]
        rfl
      cases eb : badW ws 1 with
      | some j =>
        have ew : wrongF (r :: ws) = some j := by
          rw [wrongF_cons, if_neg c, if_neg (fun e => by rw [e] at eb; cases eb)]
          exact eb
        have eq := e3 j eb
        subst eq
        rw [ew]
        exact out_rt ((seq_nx ((ifS_f t1).trans rfl)).trans (seq_rt (for_is i2 e2)))
      | none =>
        obtain ⟨u2, u3, eq⟩ := e4 eb
        subst eq
        have t3 : tfE (fOp eqD (fCall lenD (fCo (fV 1) fN)) (fC (.int 1))) [some (.d (stD L)), some (.d (bT' (r :: ws))), u2, u3] = some (decide (ws = [])) := by
          refine (tb_is (op_is (call_is (co1 rfl) (lenD_tup (xs := (r :: ws).map PyData.str))) rfl eqD_int)).trans ?_
          rw [List.length_map, List.length_cons]
          congr 1
          refine decide_eq_decide.mpr ⟨fun h => List.length_eq_zero_iff.mp (by omega), fun h => by rw [h]; rfl⟩
        by_cases cw : ws = []
        · rw [decide_eq_true cw] at t3
          have ew : wrongF (r :: ws) = some 1 := by
            rw [wrongF_cons, if_neg c, if_pos cw]
          rw [ew]
          exact out_rt ((seq_nx ((ifS_f t1).trans rfl)).trans ((seq_nx (for_is i2 e2)).trans (seq_rt ((ifS_t t3).trans (ret_is rfl)))))
        · rw [decide_eq_false cw] at t3
          have ew : wrongF (r :: ws) = none := by
            rw [wrongF_cons, if_neg c, if_neg cw]
            exact eb
          rw [ew]
          have t4 : tfE (fCall F_may_be_read (fCo (fOp addD (fV 0) (fTup (fCo (fV 1) fN))) fN)) [some (.d (stD L)), some (.d (bT' (r :: ws))), u2, u3] = some adm := by
            refine tb_is (call_is (co1 (op_is rfl (tup1_is rfl) (z := stD (L ++ [r :: ws])) ?_)) (hm ew))
            unfold stD
            rw [List.map_append]
            exact addD_tup (by rw [List.length_map, List.length_singleton]; show _ ≤ 1000000; omega)
          exact out_rt ((seq_nx ((ifS_f t1).trans rfl)).trans ((seq_nx (for_is i2 e2)).trans ((seq_nx ((ifS_f t3).trans rfl)).trans (ret_is (if_is t4 rfl rfl)))))
theorem F_mbrG {M : List (List Str)} (g : ∀ f ∈ M, FactG f) (l : M.length ≤ 31) (u : (uns M).length ≤ 9) : F_may_be_read [stD M] = some (.bool (adjL M && (decide (M.length ≤ 30) && decide ((uns M).length ≤ 5)))) := by
  rw [at_may_be_read]
  unfold S_may_be_read
  have gv := store_gv g
  have ok : okD (stD M) = true := gv.ok (by omega)
  obtain ⟨b, e1, e2⟩ := F_store ok
  have eb : b = adjL M := by
    rw [Bool.eq_iff_iff, e2]
    refine ⟨fun ⟨L, eL, _, a⟩ => ?_, fun a => ⟨M, rfl, g, a⟩⟩
    have z := bT_inj (PyData.tuple.inj eL)
    rw [z]
    exact a
  subst eb
  have okL : OkL M := ⟨by omega, fun f hf => (g f hf).okF⟩
  have ld : (ddU (unkL M)).length ≤ 9 := by
    have z : (uns M).length = (ddU (unkL M)).length := (sortU_perm _).length_eq
    omega
  have un := F_uns okL (by omega)
  have t2 : (fOp (ltD fun i j => decide (i ≤ j)) (fCall lenD (fCo (fV 0) fN)) (fC (.int 30))) [some (.d (stD M))] = some (.bool (decide (M.length ≤ 30))) := by
    refine (op_is (call_is (co1 rfl) (lenD_tup (xs := M.map bT'))) rfl ltD_int).trans ?_
    rw [List.length_map]
    exact congrArg (fun b => some (PyData.bool b)) (decide_eq_decide.mpr (by omega))
  have t3 : (fOp (ltD fun i j => decide (i ≤ j)) (fCall lenD (fCo (fCall F_unknowns (fCo (fV 0) fN)) fN)) (fC (.int 5))) [some (.d (stD M))] = some (.bool (decide ((uns M).length ≤ 5))) := by
    refine (op_is (call_is (co1 (call_is (co1 rfl) un)) (lenD_tup (xs := (uns M).map bS))) rfl ltD_int).trans ?_
    rw [List.length_map]
    exact congrArg (fun b => some (PyData.bool b)) (decide_eq_decide.mpr (by omega))
  exact out_rt (ret_is (and_is (call_is (co1 rfl) e1) fun _ => and_is t2 fun _ => t3))
def idxL (j n : Nat) : List PyData := (List.range' j n).map fun (k : Nat) => .int (1 + (k : Int))
theorem idx_range (n : Nat) : rangeD2 1 ((n + 1 : Nat) : Int) = idxL 0 n := by
  unfold rangeD2 idxL
  rw [show (((n + 1 : Nat) : Int) - 1).toNat = n by omega, List.range_eq_range']
abbrev wrgB : SF := (fIfS (tfOr (tfE (fOp (ltD fun i j => decide (j < i)) (fV 1) (fC (.int 4)))) (tfAnd (tfNot (tfE (fCall F__law_is_word (fCo (fOp ixD (fV 0) (fV 1)) fN)))) (tfNot (tfE (fCall F__law_is_unknown (fCo (fOp ixD (fV 0) (fV 1)) fN)))))) (fRet (fV 1)) fNil)
theorem wrong_loop {x : Str} {r : List Str} (ok : OkW r) : ∀ (n j : Nat) (v1 : Option Sv), j + n = r.length → ∃ q, forF (gN 1) wrgB (idxL j n) [some (.d (.list ((x :: r).map PyData.str))), v1] = some q ∧ (∀ i, badW (r.drop j) (j + 1) = some i → q = .rt (.int (i : Int))) ∧ (badW (r.drop j) (j + 1) = none → ∃ u, q = .nx [some (.d (.list ((x :: r).map PyData.str))), u])
  | 0, j, v1, e => by
    have ed : r.drop j = [] := List.drop_eq_nil_iff.mpr (by omega)
    rw [ed]
    exact ⟨_, rfl, nofun, fun _ => ⟨v1, rfl⟩⟩
  | n + 1, j, v1, e => by
    obtain ⟨y, ey⟩ : ∃ y, r[j]? = some y := ⟨r[j], List.getElem?_eq_getElem (by omega)⟩
    have ed : r.drop j = y :: r.drop (j + 1) := by
      obtain ⟨l, e'⟩ := List.getElem?_eq_some_iff.mp ey
      rw [List.drop_eq_getElem_cons l, e']
    have oky := ok y (List.mem_of_getElem? ey)
    have ei : idxL j (n + 1) = .int (1 + (j : Int)) :: idxL (j + 1) n := by
      unfold idxL
      rw [List.range'_succ, List.map_cons]
    have ix : ixD (.list ((x :: r).map PyData.str)) (.int (1 + (j : Int))) = some (.str y) := by
      rw [ixD_lst, show (1 + (j : Int)) = ((j + 1 : Nat) : Int) by omega]
      refine atI_nat ?_
      rw [List.map_cons, List.getElem?_cons_succ, List.getElem?_map, ey]
      rfl
    let ρ : DEnv := [some (.d (.list ((x :: r).map PyData.str))), some (.d (.int (1 + (j : Int))))]
    have t : (tfOr (tfE (fOp (ltD fun i j => decide (j < i)) (fV 1) (fC (.int 4)))) (tfAnd (tfNot (tfE (fCall F__law_is_word (fCo (fOp ixD (fV 0) (fV 1)) fN)))) (tfNot (tfE (fCall F__law_is_unknown (fCo (fOp ixD (fV 0) (fV 1)) fN)))))) ρ = some (decide (4 < j + 1) || !valB (.str y)) := by
      have e0 : (fOp ixD (fV 0) (fV 1)) ρ = some (.str y) := op_is (x := .list ((x :: r).map PyData.str)) (y := .int (1 + (j : Int))) rfl rfl ix
      have a1 : tfNot (tfE (fCall F__law_is_word (fCo (fOp ixD (fV 0) (fV 1)) fN))) ρ = some (!wrdB y) := tnot_is (tb_is (call_is (co1 e0) (F_lword oky)))
      have a2 : tfNot (tfE (fCall F__law_is_unknown (fCo (fOp ixD (fV 0) (fV 1)) fN))) ρ = some (!isUnk y) := tnot_is (tb_is (call_is (co1 e0) (F_lunk oky)))
      have t0 : tfE (fOp (ltD fun i j => decide (j < i)) (fV 1) (fC (.int 4))) ρ = some (decide (4 < j + 1)) := by
        refine (tb_is (op_is (x := .int (1 + (j : Int))) (y := .int 4) rfl rfl ltD_int)).trans ?_
        congr 1
        exact decide_eq_decide.mpr (by omega)
      refine (tor_is t0 fun _ => tand_is a1 fun _ => a2).trans ?_
      unfold valB
      rw [Bool.not_or]
      rfl
    rw [ei, ed]
    by_cases c : (decide (4 < j + 1) || !valB (.str y)) = true
    · rw [c] at t
      refine ⟨.rt (.int (1 + (j : Int))), forR rfl ((ifS_t t).trans (ret_is rfl)), fun i ej => ?_, fun e => ?_⟩
      · unfold badW at ej
        rw [if_pos c] at ej
        cases ej
        congr 2
        omega
      · unfold badW at e
        rw [if_pos c] at e
        cases e
    · rw [Bool.eq_false_iff.mpr c] at t
      obtain ⟨q, e1, e2, e3⟩ := wrong_loop ok n (j + 1) (some (.d (.int (1 + (j : Int))))) (by omega)
      refine ⟨q, (forN rfl ((ifS_f t).trans rfl)).trans e1, fun i ej => ?_, fun e => ?_⟩
      · unfold badW at ej
        rw [if_neg c] at ej
        exact e2 i ej
      · unfold badW at e
        rw [if_neg c] at e
        exact e3 e
theorem ix0L29 {x : PyData} {xs : List PyData} : ixD (.list (x :: xs)) (.int 0) = some x := atI_nat (j := 0) rfl
def wrongI : Option Nat → Int
  | some k => (k : Int)
  | none => -1
theorem F_lwrong {f : List Str} (hf : f ≠ []) (ok : OkW f) (lf : f.length ≤ 1000) : F__law_wrong [.list (f.map PyData.str)] = some (.int (wrongI (wrongF f))) := by
  rw [at__law_wrong]
  unfold S__law_wrong
  cases f with
  | nil => exact absurd rfl hf
  | cons x r =>
    have okx := ok x List.mem_cons_self
    let ρ : DEnv := [some (.d (.list ((x :: r).map PyData.str))), none]
    have t1 : (tfNot (tfE (fCall F__law_is_word (fCo (fOp ixD (fV 0) (fC (.int 0))) fN)))) ρ = some (!wrdB x) := tnot_is (tb_is (call_is (co1 (op_is rfl rfl ix0L29)) (F_lword okx)))
    by_cases c : wrdB x = false
    · rw [c] at t1
      have e0 : wrongF (x :: r) = some 0 := by
        rw [wrongF_cons, if_pos c]
      rw [e0]
      exact out_rt (seq_rt ((ifS_t t1).trans (ret_is rfl)))
    · have c' : wrdB x = true := by simpa using c
      rw [c'] at t1
      have t3 : tfE (fOp eqD (fCall lenD (fCo (fV 0) fN)) (fC (.int 1))) ρ = some (decide (r = [])) := by
        refine (tb_is (op_is (call_is (co1 rfl) (lenD_lst (xs := (x :: r).map PyData.str))) rfl eqD_int)).trans ?_
        rw [List.length_map, List.length_cons]
        congr 1
        refine decide_eq_decide.mpr ⟨fun h => List.length_eq_zero_iff.mp (by omega), fun h => by rw [h]; rfl⟩
      by_cases cw : r = []
      · rw [decide_eq_true cw] at t3
        have ew : wrongF (x :: r) = some 1 := by
          rw [wrongF_cons, if_neg c, if_pos cw]
        rw [ew]
        exact out_rt ((seq_nx ((ifS_f t1).trans rfl)).trans (seq_rt ((ifS_t t3).trans (ret_is rfl))))
      · rw [decide_eq_false cw] at t3
        obtain ⟨q, e2, e3, e4⟩ := wrong_loop (x := x) (r := r) (fun y hy => ok y (List.mem_cons_of_mem _ hy)) r.length 0 none (by omega)
        rw [List.drop_zero] at e3 e4
        have i2 : afR2 (fCo (fC (.int 1)) (fCo (fCall lenD (fCo (fV 0) fN)) fN)) ρ = some (idxL 0 r.length) := by
          rw [← idx_range]
          refine afR2_is (co_is rfl (co1 ((call_is (co1 rfl) (lenD_lst (xs := (x :: r).map PyData.str))).trans ?_))) ?_
          · rw [List.length_map, List.length_cons]
          · rw [List.length_cons] at lf
            omega
        have ew : wrongF (x :: r) = badW r 1 := by
          rw [wrongF_cons, if_neg c, if_neg cw]
        rw [ew]
        cases eb : badW r 1 with
        | some j =>
          have eq := e3 j eb
          subst eq
          exact out_rt ((seq_nx ((ifS_f t1).trans rfl)).trans ((seq_nx ((ifS_f t3).trans rfl)).trans (seq_rt (for_is i2 e2))))
        | none =>
          obtain ⟨u, eq⟩ := e4 eb
          subst eq
          exact out_rt ((seq_nx ((ifS_f t1).trans rfl)).trans ((seq_nx ((ifS_f t3).trans rfl)).trans ((seq_nx (for_is i2 e2)).trans (ret_is rfl))))
end My
namespace My
open PySem PySem.Spec PyProof.Rows L2
def admB (L : List (List Str)) (f : List Str) : Bool := adjL (L ++ [f]) && (decide ((L ++ [f]).length ≤ 30) && decide ((uns (L ++ [f])).length ≤ 5))
structure GdS (L : List (List Str)) : Prop where
  g : ∀ f ∈ L, FactG f
  a : adjL L = true
  l : L.length ≤ 30
  u : (uns L).length ≤ 5
theorem fact_ne {f : List Str} (h : FactG f) : f ≠ [] := fun e => by
  obtain ⟨_, _, e3, _⟩ := h
  rw [e] at e3
  cases e3
theorem fact_sz {f : List Str} (h : FactG f) : f.length ≤ 5 := by
  obtain ⟨r, ws, rfl, _, _, l4, _⟩ := h
  rw [List.length_cons]
  omega
theorem GdS.snoc {L : List (List Str)} {f : List Str} (h : GdS L) (hf : FactG f) (ad : admB L f = true) : GdS (L ++ [f]) := by
  unfold admB at ad
  simp only [Bool.and_eq_true, decide_eq_true_eq] at ad
  exact ⟨fun x hx => (List.mem_append.mp hx).elim (h.g x) fun e => by rw [List.mem_singleton.mp e]; exact hf, ad.1, ad.2.1, ad.2.2⟩
theorem GdS.few {L : List (List Str)} {f : List Str} (h : GdS L) (hf : FactG f) : (uns (L ++ [f])).length ≤ 9 := by
  have z : (uns (L ++ [f])).length ≤ (uns L ++ f.drop 1).length := sub_len (uns_nd _) fun x hx => by
    obtain ⟨k, hk, h1, h2⟩ := uns_mem.mp hx
    rcases List.mem_append.mp hk with hk | hk
    · exact List.mem_append_left _ (uns_mem.mpr ⟨k, hk, h1, h2⟩)
    · rw [List.mem_singleton.mp hk] at h1
      exact List.mem_append_right _ h1
  have l := h.u
  have s := fact_sz hf
  rw [List.length_append, List.length_drop] at z
  omega
theorem F_mbr_adm {L : List (List Str)} {f : List Str} (h : GdS L) (hf : FactG f) : F_may_be_read [stD (L ++ [f])] = some (.bool (admB L f)) := F_mbrG (fun x hx => (List.mem_append.mp hx).elim (h.g x) fun e => by rw [List.mem_singleton.mp e]; exact hf) (by have := h.l; rw [List.length_append, List.length_singleton]; omega) (h.few hf)
theorem adj_snoc {L : List (List Str)} {f : List Str} (ne : ∀ k ∈ L, k ≠ []) (hf : f ≠ []) (h : adjL L = true) : adjL (L ++ [f]) = L.all fun o => ltK o f && (!decide (o.head? = f.head?) || decide (o.length = f.length)) := by
  have ne2 : ∀ k ∈ L ++ [f], k ≠ [] := fun k hk => (List.mem_append.mp hk).elim (ne k) fun e => by rw [List.mem_singleton.mp e]; exact hf
  obtain ⟨asc, one⟩ := (adj_asc ne).mp h
  rw [Bool.eq_iff_iff, adj_asc ne2, List.all_eq_true]
  simp only [Bool.and_eq_true, Bool.or_eq_true, Bool.not_eq_true', decide_eq_false_iff_not, decide_eq_true_eq]
  constructor
  · rintro ⟨a, b⟩ o ho
    refine ⟨?_, ?_⟩
    · exact (List.pairwise_append.mp a).2.2 o ho f (List.mem_singleton.mpr rfl)
    · by_cases e : o.head? = f.head?
      · exact .inr (b o (List.mem_append_left _ ho) f (List.mem_append_right _ (List.mem_singleton.mpr rfl)) e)
      · exact .inl e
  · intro k
    refine ⟨List.pairwise_append.mpr ⟨asc, List.pairwise_singleton _ _, fun o ho x hx => ?_⟩, fun a ha b hb e => ?_⟩
    · rw [List.mem_singleton.mp hx]
      exact (k o ho).1
    · rcases List.mem_append.mp ha with ha | ha
      · rcases List.mem_append.mp hb with hb | hb
        · exact one a ha b hb e
        · rw [List.mem_singleton.mp hb] at e ⊢
          exact (k a ha).2.resolve_left fun z => z e
      · rcases List.mem_append.mp hb with hb | hb
        · rw [List.mem_singleton.mp ha] at e ⊢
          exact ((k b hb).2.resolve_left fun z => z e.symm).symm
        · rw [List.mem_singleton.mp ha, List.mem_singleton.mp hb]
theorem F_nmsL {L : List (List Str)} (h : ∀ f ∈ L, OkF f) (few : (ddU (nmL L)).length < 63) (l : (nmL L).length ≤ 100000) (l2 : L.length ≤ 100000) : F__law_names [lsD L] = some (nD L) := by
  rw [at__law_names]
  unfold S__law_names
  obtain ⟨r, e1, e2⟩ := forF_inv (g := gN 2) (b := fExt 1 (fLc (afV (fSl slD (fV 2) (ofS (fC (.int 1))) ofN)) (gN 3) (tfE (fOp eqD (fOp ixD (fV 3) (fC (.int 0))) (fC (.str "?")))) (fV 3) [3])) (xs := L.map bT') (R := fun r => ∃ v2, r = .nx [some (.d (lsD L)), some (.l ((nmL L).map PyData.str)), v2, none])
    (fun i ρ => ∃ v2, ρ = [some (.d (lsD L)), some (.l ((nmL (L.take i)).map PyData.str)), v2, none])
    (by
      rintro i x ρ hx ⟨v2, rfl⟩
      obtain ⟨f, hf, rfl⟩ : ∃ f, L[i]? = some f ∧ bT' f = x := by
        rw [List.getElem?_map] at hx
        exact Option.map_eq_some_iff.mp hx
      have okf := h f (List.mem_of_getElem? hf)
      have tk : nmL (L.take (i + 1)) = nmL (L.take i) ++ (f.drop 1).filter nmd := by
        unfold nmL
        rw [List.take_add_one, hf, List.flatMap_append]
        simp
      have ll : (nmL (L.take (i + 1))).length ≤ 100000 := by
        have all : nmL L = nmL (L.take (i + 1)) ++ nmL (L.drop (i + 1)) := by
          unfold nmL
          rw [← List.flatMap_append, List.take_append_drop]
        rw [all, List.length_append] at l
        omega
      refine ⟨_, rfl, ?_⟩
      have k1 : fLc (afV (fSl slD (fV 2) (ofS (fC (.int 1))) ofN)) (gN 3) (tfE (fOp eqD (fOp ixD (fV 3) (fC (.int 0))) (fC (.str "?")))) (fV 3) [3] [some (.d (lsD L)), some (.l ((nmL (L.take i)).map PyData.str)), some (.d (bT' f)), none] = some (.list (((f.drop 1).filter nmd).map PyData.str)) := by
        refine lc_is (xs := (f.drop 1).map PyData.str) ?_ ?_ (lcF_filt fun x hx => ?_)
        · rw [show bT' f = .tuple (f.map PyData.str) from rfl]
          simp only [fC, fV, fN, fCo, fTup, fLst, fOp, fCall, tfE, tfTr, tfYes, tfNot, tfAnd, tfOr, fAnd, fOr, fNot, fIf, ofN, ofS, fSl, fChain, fIsi, afV, afR, afZ, afZk, zipKF, fLc, fLc2, fTwo, fOne, fSort, fSortSet, fGet, fOIn, fOGet, fOLen, fOIx, fRepr, fRev, fMeth, fNil, fSeq, fSet, fAsg, fRet, fIfS, fFor, fNewL, fApp, fExt, fGive, fNewK, fMakeK, fPutK, fGiveK, outF, envF, fnF, stF, stB, gN, gT, gsC, gsN, wipeD, getF, ownK, ownL, asB, asK, asL, asS, List.getElem?_cons_zero, List.getElem?_cons_succ, Option.bind_some, Option.map_some, Option.bind_none, Option.map_none, List.map_cons, List.map_nil, List.cons_append, List.nil_append, List.set_cons_zero, List.set_cons_succ, List.length_cons, List.length_nil, List.replicate_succ, List.replicate_zero, Nat.reduceSub, Nat.reduceAdd, Nat.reduceEqDiff, if_true, Bool.true_eq_false, Bool.false_eq_true, if_false, reduceIte, noDict, lenD_tup, lenD_lst, ltD_int, items_tup, items_lst, items_str, eqD_str, eqD_int, neD_str, neD_int, addD_int, subD_int, slD_lst, slD_tup, tuple_lst, tuple_tup, list_lst, list_tup, tyS_str, tyS_tup, cut_drop1, bT_drop]
        · rw [List.length_map, List.length_drop]
          exact Nat.le_trans (show f.length - 1 ≤ 10 by have := okf.2.1; omega) (by decide)
        · simp only [fC, fV, fN, fCo, fTup, fLst, fOp, fCall, tfE, tfTr, tfYes, tfNot, tfAnd, tfOr, fAnd, fOr, fNot, fIf, ofN, ofS, fSl, fChain, fIsi, afV, afR, afZ, afZk, zipKF, fLc, fLc2, fTwo, fOne, fSort, fSortSet, fGet, fOIn, fOGet, fOLen, fOIx, fRepr, fRev, fMeth, fNil, fSeq, fSet, fAsg, fRet, fIfS, fFor, fNewL, fApp, fExt, fGive, fNewK, fMakeK, fPutK, fGiveK, outF, envF, fnF, stF, stB, gN, gT, gsC, gsN, wipeD, getF, ownK, ownL, asB, asK, asL, asS, List.getElem?_cons_zero, List.getElem?_cons_succ, Option.bind_some, Option.map_some, Option.bind_none, Option.map_none, List.map_cons, List.map_nil, List.cons_append, List.nil_append, List.set_cons_zero, List.set_cons_succ, List.length_cons, List.length_nil, List.replicate_succ, List.replicate_zero, Nat.reduceSub, Nat.reduceAdd, Nat.reduceEqDiff, if_true, Bool.true_eq_false, Bool.false_eq_true, if_false, reduceIte, noDict, lenD_tup, lenD_lst, ltD_int, items_tup, items_lst, items_str, eqD_str, eqD_int, neD_str, neD_int, addD_int, subD_int, slD_lst, slD_tup, tuple_lst, tuple_tup, list_lst, list_tup, tyS_str, tyS_tup, ixD_0 (okf.2.2 x (List.mem_of_mem_drop hx)), q_is']
          cases nmd x <;> rfl
      rw [tk] at ll
      rw [List.length_append] at ll
      refine ⟨.nx [some (.d (lsD L)), some (.l ((nmL (L.take (i + 1))).map PyData.str)), some (.d (bT' f)), none], ?_, _, rfl⟩
      show fExt 1 _ [some (.d (lsD L)), some (.l ((nmL (L.take i)).map PyData.str)), some (.d (bT' f)), none] = _
      unfold fExt
      rw [k1]
      simp only [fC, fV, fN, fCo, fTup, fLst, fOp, fCall, tfE, tfTr, tfYes, tfNot, tfAnd, tfOr, fAnd, fOr, fNot, fIf, ofN, ofS, fSl, fChain, fIsi, afV, afR, afZ, afZk, zipKF, fLc, fLc2, fTwo, fOne, fSort, fSortSet, fGet, fOIn, fOGet, fOLen, fOIx, fRepr, fRev, fMeth, fNil, fSeq, fSet, fAsg, fRet, fIfS, fFor, fNewL, fApp, fExt, fGive, fNewK, fMakeK, fPutK, fGiveK, outF, envF, fnF, stF, stB, gN, gT, gsC, gsN, wipeD, getF, ownK, ownL, asB, asK, asL, asS, List.getElem?_cons_zero, List.getElem?_cons_succ, Option.bind_some, Option.map_some, Option.bind_none, Option.map_none, List.map_cons, List.map_nil, List.cons_append, List.nil_append, List.set_cons_zero, List.set_cons_succ, List.length_cons, List.length_nil, List.replicate_succ, List.replicate_zero, Nat.reduceSub, Nat.reduceAdd, Nat.reduceEqDiff, if_true, Bool.true_eq_false, Bool.false_eq_true, if_false, reduceIte, noDict, lenD_tup, lenD_lst, ltD_int, items_tup, items_lst, items_str, eqD_str, eqD_int, neD_str, neD_int, addD_int, subD_int, slD_lst, slD_tup, tuple_lst, tuple_tup, list_lst, list_tup, tyS_str, tyS_tup]
      rw [if_pos (by rw [List.length_map, List.length_map]; exact Nat.le_trans (show _ ≤ 100000 by omega) (by decide)), tk, List.map_append])
    (by
      rintro ρ ⟨v2, rfl⟩
      rw [List.length_map, List.take_length]
      exact ⟨v2, rfl⟩)
    ⟨none, rfl⟩
  obtain ⟨v2, rfl⟩ := e2
  refine out_rt ((seq_nx (ρ' := [some (.d (lsD L)), some (.l []), none, none]) rfl).trans ((seq_nx (for_is rfl e1)).trans ?_))
  show fRet _ [some (.d (lsD L)), some (.d (.list ((nmL L).map PyData.str))), v2, none] = _
  exact ret_is (call_is (xs := [.list ((nms L).map bS)]) (co1 (setsD_is (xs := (nmL L).map PyData.str) rfl (.inl rfl) (view_str _) few)) rfl)
abbrev unlE : TF := (tfOr (tfAnd (tfE (fOp eqD (fOp ixD (fV 8) (fC (.int 0))) (fOp ixD (fV 6) (fC (.int 0))))) (tfE (fOp neD (fCall lenD (fCo (fV 8) fN)) (fCall lenD (fCo (fV 6) fN))))) (tfE (fOp geX (fV 8) (fV 6))))
def unlK (o f : List Str) : Bool := (decide (o.head? = f.head?) && !decide (o.length = f.length)) || !ltK o f
theorem geX_is (o f : List Str) : geX (bT' o) (bT' f) = some (.bool (!ltK o f)) := by
  show (strsD (o.map PyData.str)).bind _ = _
  rw [strsD_back, Option.bind_some]
  show (strsD (f.map PyData.str)).map _ = _
  rw [strsD_back]
  rfl
theorem unl_is {o f : List Str} (ho : o ≠ []) (hf : f ≠ []) {v0 v1 v2 v3 v4 v5 v7 : Option Sv} : unlE [v0, v1, v2, v3, v4, v5, some (.d (bT' f)), v7, some (.d (bT' o))] = some (unlK o f) := by
  cases o with
  | nil => exact absurd rfl ho
  | cons x xs =>
  cases f with
  | nil => exact absurd rfl hf
  | cons y ys =>
    let ρ : DEnv := [v0, v1, v2, v3, v4, v5, some (.d (bT' (y :: ys))), v7, some (.d (bT' (x :: xs)))]
    have a1 : tfE (fOp eqD (fOp ixD (fV 8) (fC (.int 0))) (fOp ixD (fV 6) (fC (.int 0)))) ρ = some (decide ((x :: xs).head? = (y :: ys).head?)) := by
      refine (tb_is (op_is (x := .str x) (y := .str y) (op_is (x := bT' (x :: xs)) rfl rfl ix0) (op_is (x := bT' (y :: ys)) rfl rfl ix0) eqD_str)).trans ?_
      congr 1
      exact decide_eq_decide.mpr ⟨fun e => by rw [e]; rfl, fun e => Option.some.inj e⟩
    have a2 : tfE (fOp neD (fCall lenD (fCo (fV 8) fN)) (fCall lenD (fCo (fV 6) fN))) ρ = some (!decide ((x :: xs).length = (y :: ys).length)) := by
      refine (tb_is (b := !decide ((x :: xs).length = (y :: ys).length)) (op_is (call_is (co1 rfl) (lenD_tup (xs := (x :: xs).map PyData.str))) (call_is (co1 rfl) (lenD_tup (xs := (y :: ys).map PyData.str))) ?_))
      unfold neD
      rw [eqD_int, List.length_map, List.length_map]
      show some (PyData.bool (!decide _)) = _
      congr 3
      exact decide_eq_decide.mpr (by omega)
    have a3 : tfE (fOp geX (fV 8) (fV 6)) ρ = some (!ltK (x :: xs) (y :: ys)) := tb_is (op_is (x := bT' (x :: xs)) (y := bT' (y :: ys)) rfl rfl (geX_is _ _))
    exact tor_is (tand_is a1 fun _ => a2) fun _ => a3
theorem adm_of {L : List (List Str)} {f : List Str} (h : GdS L) (hf : FactG f) : admB L f = ((L.filter fun o => unlK o f).isEmpty && (!decide (L.length = 30) && !decide (5 < (nms (L ++ [f])).length))) := by
  unfold admB
  rw [adj_snoc (fun k hk => fact_ne (h.g k hk)) (fact_ne hf) h.a]
  have l := h.l
  have gl : GoodL (L ++ [f]) := ⟨by rw [List.length_append, List.length_singleton]; omega, fun x hx => (List.mem_append.mp hx).elim (h.g x) fun e => by rw [List.mem_singleton.mp e]; exact hf⟩
  rw [good_nms gl]
  congr 1
  · rw [Bool.eq_iff_iff, List.all_eq_true, List.isEmpty_iff, List.filter_eq_nil_iff]
    refine forall_congr' fun o => imp_congr_right fun _ => ?_
    unfold unlK
    cases ltK o f <;> cases decide (o.head? = f.head?) <;> cases decide (o.length = f.length) <;> simp
  · congr 1
    · rw [List.length_append, List.length_singleton, ← decide_not]
      exact decide_eq_decide.mpr (by omega)
    · rw [← decide_not]
      exact decide_eq_decide.mpr (by omega)
end My
namespace My
open PySem PySem.Spec PyProof.Rows L2
theorem splitL_in {c : Nat} : ∀ {l s : List Nat}, s ∈ splitL c l → s.length ≤ l.length ∧ ∀ y ∈ s, y ∈ l
  | [], s, h => by
    rw [List.mem_singleton.mp h]
    exact ⟨Nat.le_refl _, nofun⟩
  | x :: l, s, h => by
    rw [splitL] at h
    by_cases e : x = c
    · rw [if_pos e] at h
      rcases List.mem_cons.mp h with h | h
      · rw [h]
        exact ⟨Nat.zero_le _, nofun⟩
      · obtain ⟨a, b⟩ := splitL_in h
        exact ⟨Nat.le_succ_of_le a, fun y hy => List.mem_cons_of_mem _ (b y hy)⟩
    · rw [if_neg e] at h
      obtain ⟨p, t, ep⟩ := splitL_ne c l
      rw [ep] at h
      rcases List.mem_cons.mp h with h | h
      · rw [h]
        obtain ⟨a, b⟩ := splitL_in (l := l) (s := p) (by rw [ep]; exact List.mem_cons_self)
        refine ⟨Nat.succ_le_succ a, fun y hy => ?_⟩
        rcases List.mem_cons.mp hy with hy | hy
        · rw [hy]
          exact List.mem_cons_self
        · exact List.mem_cons_of_mem _ (b y hy)
      · obtain ⟨a, b⟩ := splitL_in (l := l) (s := s) (by rw [ep]; exact List.mem_cons_of_mem _ h)
        exact ⟨Nat.le_succ_of_le a, fun y hy => List.mem_cons_of_mem _ (b y hy)⟩
theorem splitL_sz {c : Nat} : ∀ l : List Nat, (splitL c l).length ≤ l.length + 1
  | [] => Nat.le_refl _
  | x :: l => by
    have ih := splitL_sz (c := c) l
    rw [splitL]
    split
    · rw [List.length_cons, List.length_cons]
      omega
    · obtain ⟨p, t, ep⟩ := splitL_ne c l
      rw [ep] at ih ⊢
      show (_ :: t).length ≤ _
      rw [List.length_cons] at ih ⊢
      rw [List.length_cons]
      omega
def LnOk (x : List Nat) : Prop := x.length ≤ 900 ∧ ∀ c ∈ x, c < 1000
def lineP (x : List Nat) : PyData := .str (mkS x)
def wordsOf (x : List Nat) : List Str := (splitL 32 x).map mkS
theorem words_ne (x : List Nat) : wordsOf x ≠ [] := by
  obtain ⟨p, t, e⟩ := splitL_ne 32 x
  unfold wordsOf
  rw [e]
  exact List.cons_ne_nil _ _
theorem words_ok {x : List Nat} (h : LnOk x) : OkW (wordsOf x) := fun y hy => by
  obtain ⟨s, hs, rfl⟩ := List.mem_map.mp hy
  obtain ⟨a, b⟩ := splitL_in hs
  refine okStr ?_ ?_
  · rw [mkS_tl]
    exact fun c hc => h.2 c (b c hc)
  · rw [mkS_len]
    have := h.1
    omega
theorem words_sz {x : List Nat} (h : LnOk x) : (wordsOf x).length ≤ 1000 := by
  unfold wordsOf
  rw [List.length_map]
  have a := splitL_sz (c := 32) x
  have := h.1
  omega
theorem split_line {x : List Nat} (h : LnOk x) : splitD (mkS x) [.str " "] = some (.list ((wordsOf x).map PyData.str)) := splitT (by have := h.1; omega) (by decide) sp_is
def runT : List (List Nat) → List (List Str) → Nat → (Nat × Nat) ⊕ List (List Str)
  | [], L, _ => .inr L
  | x :: xs, L, i => match wrongF (wordsOf x) with
    | some k => .inl (i, k)
    | none => if admB L (wordsOf x) = true then runT xs (L ++ [wordsOf x]) (i + 1) else .inl (i, 0)
theorem runT_bad {x : List Nat} {xs : List (List Nat)} {L : List (List Str)} {i k : Nat} (h : wrongF (wordsOf x) = some k) : runT (x :: xs) L i = .inl (i, k) := by
  rw [runT, h]
theorem runT_no {x : List Nat} {xs : List (List Nat)} {L : List (List Str)} {i : Nat} (h : wrongF (wordsOf x) = none) (a : admB L (wordsOf x) = false) : runT (x :: xs) L i = .inl (i, 0) := by
  rw [runT, h]
  show (if admB L (wordsOf x) = true then _ else _) = _
  rw [a]
  rfl
theorem runT_yes {x : List Nat} {xs : List (List Nat)} {L : List (List Str)} {i : Nat} (h : wrongF (wordsOf x) = none) (a : admB L (wordsOf x) = true) : runT (x :: xs) L i = runT xs (L ++ [wordsOf x]) (i + 1) := by
  rw [runT, h]
  show (if admB L (wordsOf x) = true then _ else _) = _
  rw [a]
  rfl
theorem sq_nx {a b : SFXf} {ρ ρ' : DEnv} (h : a ρ = some (.inl (.nx ρ'))) : gxSeqf a b ρ = b ρ' := by
  unfold gxSeqf xxBf
  rw [h]
  rfl
theorem sq_er {a b : SFXf} {ρ : DEnv} {fs : Fs} (h : a ρ = some (.inr fs)) : gxSeqf a b ρ = some (.inr fs) := by
  unfold gxSeqf xxBf
  rw [h]
  rfl
theorem lf_is {f : SF} {ρ : DEnv} {r : Fl} (h : f ρ = some r) : xLiftf f ρ = some (.inl r) := by
  unfold xLiftf
  rw [h]
  rfl
theorem ff_nx {g : GD} {b : SFXf} {x : PyData} {xs : List PyData} {ρ ρ1 ρ2 : DEnv} (h1 : g x ρ = some ρ1) (h2 : b ρ1 = some (.inl (.nx ρ2))) : forFf g b (x :: xs) ρ = forFf g b xs ρ2 := by
  show ((g x ρ).bind fun ρ1 => xxBf (b ρ1) _) = _
  rw [h1, Option.bind_some]
  unfold xxBf
  rw [h2]
  rfl
theorem ff_er {g : GD} {b : SFXf} {x : PyData} {xs : List PyData} {ρ ρ1 : DEnv} {fs : Fs} (h1 : g x ρ = some ρ1) (h2 : b ρ1 = some (.inr fs)) : forFf g b (x :: xs) ρ = some (.inr fs) := by
  show ((g x ρ).bind fun ρ1 => xxBf (b ρ1) _) = _
  rw [h1, Option.bind_some]
  unfold xxBf
  rw [h2]
  rfl
theorem gif_t {c : TF} {a b : SFXf} {ρ : DEnv} (h : c ρ = some true) : gxIff c a b ρ = a ρ := by
  unfold gxIff
  rw [h]
  rfl
theorem gif_f {c : TF} {a b : SFXf} {ρ : DEnv} (h : c ρ = some false) : gxIff c a b ρ = b ρ := by
  unfold gxIff
  rw [h]
  rfl
abbrev rdB : SFXf := (gxSeqf (xLiftf (fSet 5 (fCall tupD1 (fCo (fMeth splitD (fV 4) (fCo (fC (.str " ")) fN)) fN))))
    (gxSeqf (xLiftf (fSet 6 (fCall F_fact_fault (fCo (fV 2) (fCo (fV 5) fN)))))
    (gxSeqf (gxIff (tfE (fOp (isND true) (fV 6) (fC .none))) (gfRaise "line" "word" (fCo (fV 3) (fCo (fV 6) fN))) gxNilf)
    (xLiftf (fSet 2 (fOp addD (fV 2) (fTup (fCo (fV 5) fN))))))))
theorem read_loop {T N : Option Sv} : ∀ (xs : List (List Nat)) (L : List (List Str)) (i : Nat) (v3 v4 v5 v6 : Option Sv), GdS L → (∀ x ∈ xs, LnOk x) → ∃ r, forFf (gT 2 (gsC (gN 3) (gsC (gN 4) gsN))) rdB (enumD (i : Int) (xs.map lineP)) [T, N, some (.d (stD L)), v3, v4, v5, v6] = some r ∧ (∀ a b, runT xs L i = .inl (a, b) → r = .inr [("word", (b : Int)), ("line", (a : Int))]) ∧ (∀ M, runT xs L i = .inr M → GdS M ∧ ∃ v3 v4 v5 v6, r = .inl (.nx [T, N, some (.d (stD M)), v3, v4, v5, v6]))
  | [], L, i, v3, v4, v5, v6, G, _ => ⟨_, rfl, nofun, fun M e => by
      cases e
      exact ⟨G, v3, v4, v5, v6, rfl⟩⟩
  | x :: xs, L, i, v3, v4, v5, v6, G, h => by
    have hx := h x List.mem_cons_self
    have sp := split_line hx
    have ok := words_ok hx
    have lw := words_sz hx
    have ne := words_ne x
    have ff := F_faultG (L := L) (f := wordsOf x) (admB L (wordsOf x)) ne ok lw G.l fun e => F_mbr_adm G (wrong_none e)
    let ρ1 : DEnv := [T, N, some (.d (stD L)), some (.d (.int (i : Int))), some (.d (lineP x)), v5, v6]
    let ρ2 : DEnv := [T, N, some (.d (stD L)), some (.d (.int (i : Int))), some (.d (lineP x)), some (.d (bT' (wordsOf x))), v6]
    have s1 : xLiftf (fSet 5 (fCall tupD1 (fCo (fMeth splitD (fV 4) (fCo (fC (.str " ")) fN)) fN))) ρ1 = some (.inl (.nx ρ2)) := lf_is (set_is (d := bT' (wordsOf x)) (call_is (co1 (meth_is rfl (co1 rfl) sp)) rfl))
    have s2 : ∀ d, F_fact_fault [stD L, bT' (wordsOf x)] = some d → xLiftf (fSet 6 (fCall F_fact_fault (fCo (fV 2) (fCo (fV 5) fN)))) ρ2 = some (.inl (.nx [T, N, some (.d (stD L)), some (.d (.int (i : Int))), some (.d (lineP x)), some (.d (bT' (wordsOf x))), some (.d d)])) := fun d e => lf_is (set_is (call_is (co_is rfl (co1 rfl)) e))
    have bad : ∀ k : Nat, F_fact_fault [stD L, bT' (wordsOf x)] = some (.int (k : Int)) → ∀ ys, forFf (gT 2 (gsC (gN 3) (gsC (gN 4) gsN))) rdB (.tuple [.int (i : Int), lineP x] :: ys) [T, N, some (.d (stD L)), v3, v4, v5, v6] = some (.inr [("word", (k : Int)), ("line", (i : Int))]) := fun k e ys => by
      refine ff_er (ρ1 := ρ1) rfl ((sq_nx s1).trans ((sq_nx (s2 _ e)).trans (sq_er ((gif_t (tb_is (b := true) (op_is rfl rfl rfl))).trans ?_))))
      rfl
    cases ew : wrongF (wordsOf x) with
    | some k =>
      rw [ew] at ff
      refine ⟨_, bad k ff _, fun a b e => ?_, fun M e => ?_⟩
      · rw [runT_bad ew] at e
        cases e
        rfl
      · rw [runT_bad ew] at e
        cases e
    | none =>
      rw [ew] at ff
      cases ea : admB L (wordsOf x) with
      | false =>
        rw [ea] at ff
        refine ⟨_, bad 0 ff _, fun a b e => ?_, fun M e => ?_⟩
        · rw [runT_no ew ea] at e
          cases e
          rfl
        · rw [runT_no ew ea] at e
          cases e
      | true =>
        rw [ea] at ff
        have G' := G.snoc (wrong_none ew) ea
        obtain ⟨r, e1, e2, e3⟩ := read_loop (T := T) (N := N) xs (L ++ [wordsOf x]) (i + 1) (some (.d (.int (i : Int)))) (some (.d (lineP x))) (some (.d (bT' (wordsOf x)))) (some (.d .none)) G' fun y hy => h y (List.mem_cons_of_mem _ hy)
        rw [← runT_yes (xs := xs) (i := i) ew ea] at e2 e3
        refine ⟨r, (ff_nx (ρ1 := ρ1) (ρ2 := [T, N, some (.d (stD (L ++ [wordsOf x]))), some (.d (.int (i : Int))), some (.d (lineP x)), some (.d (bT' (wordsOf x))), some (.d .none)]) rfl ?_).trans e1, e2, e3⟩
        refine (sq_nx s1).trans ((sq_nx (s2 _ ff)).trans ((sq_nx ((gif_f (tb_is (b := false) (op_is rfl rfl rfl))).trans rfl)).trans (lf_is (set_is (op_is rfl (tup1_is rfl) ?_)))))
        have := G.l
        unfold stD
        rw [List.map_append]
        exact addD_tup (by rw [List.length_map]; show L.length + 1 ≤ 1000000; omega)
abbrev dueB : SF := (fSeq (fSet 5 (fMeth splitD (fOp ixD (fV 1) (fV 4)) (fCo (fC (.str " ")) fN)))
    (fSeq (fIfS (tfE (fOp (ltD fun i j => decide (j ≤ i)) (fCall F__law_wrong (fCo (fV 5) fN)) (fC (.int 0)))) (fRet (fTup (fCo (fC (.str "bad")) (fCo (fTup (fCo (fV 4) (fCo (fCall F__law_wrong (fCo (fV 5) fN)) fN))) fN)))) fNil)
    (fSeq (fSet 6 (fCall tupD1 (fCo (fV 5) fN)))
    (fSeq (fSet 7 (fVL 3 (fL (fLc (afV (fV 3)) (gN 8) unlE (fC (.int 1)) [8]))))
    (fSeq (fIfS (fVT 3 (tfOr (tfE (fOp neD (fV 7) (fLst fN))) (tfOr (tfE (fOp eqD (fCall lenD (fCo (fV 3) fN)) (fC (.int 30)))) (tfE (fOp (ltD fun i j => decide (j < i)) (fCall lenD (fCo (fCall F__law_names (fCo (fOp addD (fV 3) (fLst (fCo (fV 6) fN))) fN)) fN)) (fC (.int 5))))))) (fRet (fTup (fCo (fC (.str "bad")) (fCo (fTup (fCo (fV 4) (fCo (fC (.int 0)) fN))) fN)))) fNil)
    (fApp 3 (fV 6)))))))
theorem st_flt {g : GD} {p : TF} {e : EF} {ρ0 ρ' : DEnv} {x y : PyData} {b : Bool} (hg : g x ρ0 = some ρ') (hp : p ρ' = some b) (he : e ρ' = some y) : stF g p e ρ0 x = some (if b = true then some y else none) := by
  unfold stF
  rw [hg, Option.bind_some, hp]
  cases b with
  | true =>
    show (e ρ').map some = _
    rw [he]
    rfl
  | false => rfl
theorem tupB_is {f g : EF} {ρ : DEnv} {x y : PyData} (h : f ρ = some x) (k : g ρ = some y) : fTup (fCo f (fCo g fN)) ρ = some (.tuple [x, y]) := by
  unfold fTup
  rw [co_is h (co1 k), Option.bind_some]
  exact if_pos (show 2 ≤ 1000000 by decide)
def badD (i k : Nat) : PyData := .tuple [.str "bad", .tuple [.int (i : Int), .int (k : Int)]]
theorem due_loop {v0 v2 : Option Sv} {LS : List (List Nat)} (hLS : ∀ x ∈ LS, LnOk x) : ∀ (n i : Nat) (L : List (List Str)) (v4 v5 v6 v7 v8 : Option Sv), i + n = LS.length → GdS L → ∃ r, forF (gN 4) dueB ((List.range' i n).map fun (j : Nat) => .int (0 + (j : Int))) [v0, some (.d (.list (LS.map lineP))), v2, some (.l (L.map bT')), v4, v5, v6, v7, v8] = some r ∧ (∀ a b, runT (LS.drop i) L i = .inl (a, b) → r = .rt (badD a b)) ∧ (∀ M, runT (LS.drop i) L i = .inr M → GdS M ∧ ∃ v4 v5 v6 v7 v8, r = .nx [v0, some (.d (.list (LS.map lineP))), v2, some (.l (M.map bT')), v4, v5, v6, v7, v8])
  | 0, i, L, v4, v5, v6, v7, v8, e, G => by
    have ed : LS.drop i = [] := List.drop_eq_nil_iff.mpr (by omega)
    rw [ed]
    exact ⟨_, rfl, nofun, fun M e => by
      cases e
      exact ⟨G, v4, v5, v6, v7, v8, rfl⟩⟩
  | n + 1, i, L, v4, v5, v6, v7, v8, e, G => by
    obtain ⟨x, ex⟩ : ∃ x, LS[i]? = some x := ⟨LS[i], List.getElem?_eq_getElem (by omega)⟩
    have ed : LS.drop i = x :: LS.drop (i + 1) := by
      obtain ⟨l, e'⟩ := List.getElem?_eq_some_iff.mp ex
      rw [List.drop_eq_getElem_cons l, e']
    have hx := hLS x (List.mem_of_getElem? ex)
    have ok := words_ok hx
    have lw := words_sz hx
    have ne := words_ne x
    have sp := split_line hx
    have wr := F_lwrong ne ok lw
    let W : PyData := .list ((wordsOf x).map PyData.str)
    let LD : Option Sv := some (.d (.list (LS.map lineP)))
    have ei : (List.range' i (n + 1)).map (fun (j : Nat) => PyData.int (0 + (j : Int))) = .int (0 + (i : Int)) :: (List.range' (i + 1) n).map fun (j : Nat) => .int (0 + (j : Int)) := by
      rw [List.range'_succ, List.map_cons]
    have i0 : (0 + (i : Int)) = (i : Int) := by omega
    have ix : ixD (.list (LS.map lineP)) (.int (i : Int)) = some (lineP x) := by
      rw [ixD_lst]
      refine atI_nat ?_
      rw [List.getElem?_map, ex]
      rfl
    let ρ1 : DEnv := [v0, LD, v2, some (.l (L.map bT')), some (.d (.int (i : Int))), v5, v6, v7, v8]
    let ρ2 : DEnv := [v0, LD, v2, some (.l (L.map bT')), some (.d (.int (i : Int))), some (.d W), v6, v7, v8]
    let ρ3 : DEnv := [v0, LD, v2, some (.l (L.map bT')), some (.d (.int (i : Int))), some (.d W), some (.d (bT' (wordsOf x))), v7, v8]
    have s1 : fSet 5 (fMeth splitD (fOp ixD (fV 1) (fV 4)) (fCo (fC (.str " ")) fN)) ρ1 = some (.nx ρ2) := set_is (meth_is (op_is (x := .list (LS.map lineP)) (y := .int (i : Int)) rfl rfl ix) (co1 rfl) sp)
    have w1 : fCall F__law_wrong (fCo (fV 5) fN) ρ2 = some (.int (wrongI (wrongF (wordsOf x)))) := call_is (co1 rfl) wr
    have t1 : tfE (fOp (ltD fun i j => decide (j ≤ i)) (fCall F__law_wrong (fCo (fV 5) fN)) (fC (.int 0))) ρ2 = some (decide (0 ≤ wrongI (wrongF (wordsOf x)))) := tb_is (op_is w1 rfl ltD_int)
    rw [ei, ed, i0]
    cases ew : wrongF (wordsOf x) with
    | some k =>
      rw [ew] at t1 w1
      rw [decide_eq_true (show (0 : Int) ≤ wrongI (some k) by show (0 : Int) ≤ (k : Int); omega)] at t1
      refine ⟨.rt (badD i k), forR (ρ1 := ρ1) rfl ((seq_nx s1).trans (seq_rt ((ifS_t t1).trans (ret_is (tupB_is rfl (tupB_is rfl w1)))))), fun a b e => ?_, fun M e => ?_⟩
      · rw [runT_bad ew] at e
        cases e
        rfl
      · rw [runT_bad ew] at e
        cases e
    | none =>
      rw [ew] at t1
      rw [decide_eq_false (show ¬ (0 : Int) ≤ wrongI none by show ¬ (0 : Int) ≤ -1; decide)] at t1
      have hf := wrong_none ew
      have lL := G.l
      have s3 : fSet 6 (fCall tupD1 (fCo (fV 5) fN)) ρ2 = some (.nx ρ3) := set_is (d := bT' (wordsOf x)) (call_is (co1 rfl) rfl)
      let U : List (List Str) := L.filter fun o => unlK o (wordsOf x)
      have lc : (fLc (afV (fV 3)) (gN 8) unlE (fC (.int 1)) [8]) [v0, LD, v2, some (.d (lsD L)), some (.d (.int (i : Int))), some (.d W), some (.d (bT' (wordsOf x))), v7, v8] = some (.list (U.map fun _ => PyData.int 1)) := by
        refine lc_is (xs := L.map bT') rfl (by rw [List.length_map]; show _ ≤ 1000000; omega) (lcF_filt fun o ho => ?_)
        exact st_flt (ρ' := [v0, LD, v2, some (.d (lsD L)), some (.d (.int (i : Int))), some (.d W), some (.d (bT' (wordsOf x))), v7, some (.d (bT' o))]) rfl (unl_is (fact_ne (G.g o ho)) ne) rfl
      let ρ4 : DEnv := [v0, LD, v2, some (.l (L.map bT')), some (.d (.int (i : Int))), some (.d W), some (.d (bT' (wordsOf x))), some (.d (.list (U.map fun _ => PyData.int 1))), v8]
      have s4 : fSet 7 (fVL 3 (fL (fLc (afV (fV 3)) (gN 8) unlE (fC (.int 1)) [8]))) ρ3 = some (.nx ρ4) := by
        refine set_is ?_
        show ((fL (fLc (afV (fV 3)) (gN 8) unlE (fC (.int 1)) [8])) [v0, LD, v2, some (.d (lsD L)), some (.d (.int (i : Int))), some (.d W), some (.d (bT' (wordsOf x))), v7, v8]).bind _ = _
        unfold fL
        rw [lc]
        show (if (U.map fun _ => PyData.int 1).all isFl = true then some (PyData.list (U.map fun _ => PyData.int 1)) else none) = _
        rw [if_pos (by
          rw [List.all_map, List.all_eq_true]
          exact fun _ _ => rfl)]
      let ρ5 : DEnv := [v0, LD, v2, some (.d (lsD L)), some (.d (.int (i : Int))), some (.d W), some (.d (bT' (wordsOf x))), some (.d (.list (U.map fun _ => PyData.int 1))), v8]
      have a1 : tfE (fOp neD (fV 7) (fLst fN)) ρ5 = some (!U.isEmpty) := by
        refine tb_is (op_is rfl nil_lst ?_)
        unfold neD
        rw [ones_eq]
        rfl
      have a2 : tfE (fOp eqD (fCall lenD (fCo (fV 3) fN)) (fC (.int 30))) ρ5 = some (decide (L.length = 30)) := by
        refine (tb_is (op_is (call_is (co1 rfl) (lenD_lst (xs := L.map bT'))) rfl eqD_int)).trans ?_
        rw [List.length_map]
        congr 1
        exact decide_eq_decide.mpr (by omega)
      have a3 : tfE (fOp (ltD fun i j => decide (j < i)) (fCall lenD (fCo (fCall F__law_names (fCo (fOp addD (fV 3) (fLst (fCo (fV 6) fN))) fN)) fN)) (fC (.int 5))) ρ5 = some (decide (5 < (nms (L ++ [wordsOf x])).length)) := by
        have gl : GoodL (L ++ [wordsOf x]) := ⟨by rw [List.length_append, List.length_singleton]; omega, fun y hy => (List.mem_append.mp hy).elim (G.g y) fun e => by rw [List.mem_singleton.mp e]; exact hf⟩
        have few := G.few hf
        have ld : (ddU (nmL (L ++ [wordsOf x]))).length ≤ 9 := by
          rw [good_nm gl]
          have z : (uns (L ++ [wordsOf x])).length = (ddU (unkL (L ++ [wordsOf x]))).length := (sortU_perm _).length_eq
          omega
        have lz : ∀ M : List (List Str), (∀ f ∈ M, FactG f) → (nmL M).length ≤ 4 * M.length := fun M hM => by
          induction M with
          | nil => exact Nat.zero_le _
          | cons f M ih =>
            have a := ih fun g hg => hM g (List.mem_cons_of_mem _ hg)
            have b := fact_sz (hM f List.mem_cons_self)
            unfold nmL at a ⊢
            rw [List.flatMap_cons, List.length_append, List.length_cons]
            have c : ((f.drop 1).filter nmd).length ≤ (f.drop 1).length := List.length_filter_le _ _
            rw [List.length_drop] at c
            omega
        have ln := lz _ gl.2
        have l61 := gl.1
        have ad : (fOp addD (fV 3) (fLst (fCo (fV 6) fN))) ρ5 = some (lsD (L ++ [wordsOf x])) := by
          refine op_is (x := lsD L) rfl (lstL_is (xs := [bT' (wordsOf x)]) (co1 rfl) (show 1 ≤ 1000000 by decide)) ?_
          unfold lsD
          rw [List.map_append]
          exact addL (by rw [List.length_map]; show L.length + 1 ≤ 1000000; omega)
        refine (tb_is (op_is (call_is (co1 (call_is (co1 ad) (F_nmsL (fun f hf' => (gl.2 f hf').okF) (by omega) (by omega) (by omega)))) (lenD_tup (xs := (nms (L ++ [wordsOf x])).map bS))) rfl ltD_int)).trans ?_
        rw [List.length_map]
        congr 1
        exact decide_eq_decide.mpr (by omega)
      have t5 : (fVT 3 (tfOr (tfE (fOp neD (fV 7) (fLst fN))) (tfOr (tfE (fOp eqD (fCall lenD (fCo (fV 3) fN)) (fC (.int 30)))) (tfE (fOp (ltD fun i j => decide (j < i)) (fCall lenD (fCo (fCall F__law_names (fCo (fOp addD (fV 3) (fLst (fCo (fV 6) fN))) fN)) fN)) (fC (.int 5))))))) ρ4 = some (!admB L (wordsOf x)) := by
        show (tfOr (tfE (fOp neD (fV 7) (fLst fN))) (tfOr (tfE (fOp eqD (fCall lenD (fCo (fV 3) fN)) (fC (.int 30)))) (tfE (fOp (ltD fun i j => decide (j < i)) (fCall lenD (fCo (fCall F__law_names (fCo (fOp addD (fV 3) (fLst (fCo (fV 6) fN))) fN)) fN)) (fC (.int 5)))))) ρ5 = _
        refine (tor_is a1 fun _ => tor_is a2 fun _ => a3).trans ?_
        rw [adm_of G hf]
        show some _ = some (!(U.isEmpty && _))
        cases U.isEmpty <;> cases decide (L.length = 30) <;> cases decide (5 < (nms (L ++ [wordsOf x])).length) <;> rfl
      cases ea : admB L (wordsOf x) with
      | false =>
        rw [ea] at t5
        refine ⟨.rt (badD i 0), forR (ρ1 := ρ1) rfl ((seq_nx s1).trans ((seq_nx ((ifS_f t1).trans rfl)).trans ((seq_nx s3).trans ((seq_nx s4).trans (seq_rt ((ifS_t t5).trans (ret_is (tupB_is rfl (tupB_is rfl rfl))))))))), fun a b e => ?_, fun M e => ?_⟩
        · rw [runT_no ew ea] at e
          cases e
          rfl
        · rw [runT_no ew ea] at e
          cases e
      | true =>
        rw [ea] at t5
        have G' := G.snoc hf ea
        obtain ⟨r, e1, e2, e3⟩ := due_loop (v0 := v0) (v2 := v2) hLS n (i + 1) (L ++ [wordsOf x]) (some (.d (.int (i : Int)))) (some (.d W)) (some (.d (bT' (wordsOf x)))) (some (.d (.list (U.map fun _ => PyData.int 1)))) v8 (by omega) G'
        rw [← runT_yes (xs := LS.drop (i + 1)) (i := i) ew ea] at e2 e3
        refine ⟨r, (forN (ρ1 := ρ1) (ρ2 := [v0, LD, v2, some (.l ((L ++ [wordsOf x]).map bT')), some (.d (.int (i : Int))), some (.d W), some (.d (bT' (wordsOf x))), some (.d (.list (U.map fun _ => PyData.int 1))), v8]) rfl ?_).trans e1, e2, e3⟩
        refine (seq_nx s1).trans ((seq_nx ((ifS_f t1).trans rfl)).trans ((seq_nx s3).trans ((seq_nx s4).trans ((seq_nx ((ifS_f t5).trans rfl)).trans ?_))))
        show fApp 3 (fV 6) ρ4 = _
        unfold fApp
        rw [List.map_append]
        show (if (L.map bT').length < 1000000 then _ else _) = _
        rw [if_pos (by rw [List.length_map]; omega)]
        rfl
end My
namespace My
open PySem PySem.Spec PyProof.Rows L2
structure Sw (W D : Nat) (d : PyData) : Prop where
  sh : d.showable = true
  lf : d.leavesShort 8 = true
  fl : flatD d = true
  dp : d.depth ≤ D
  wt : d.weight ≤ W
structure Sws (W D : Nat) (ds : List PyData) : Prop where
  sh : PyData.showableAll ds = true
  lf : PyData.leavesShortAll 8 ds = true
  fl : flatAll ds = true
  dp : PyData.depthAll ds ≤ D
  wt : PyData.weightAll ds ≤ W
theorem Sw.mono {W D W' D' : Nat} {d : PyData} (h : Sw W D d) (h1 : W ≤ W') (h2 : D ≤ D') : Sw W' D' d := ⟨h.sh, h.lf, h.fl, Nat.le_trans h.dp h2, Nat.le_trans h.wt h1⟩
theorem Sw.of {W D : Nat} {d : PyData} (h : Gv W D d) : Sw W D d := ⟨(gv_show d h.gv).1, (gv_show d h.gv).2, flat_lay d (gv_lay d h.gv), h.dp, h.wt⟩
theorem Sw.repr {W D : Nat} {d : PyData} (h : Sw W D d) (w : W ≤ 100000) (k : D ≤ 60) : reprOk d := ⟨h.fl, h.sh, Nat.le_trans h.dp k, Sm.len (dep := D) (wt := W) ⟨h.sh, h.lf, h.dp, h.wt⟩ w⟩
theorem small_int : ∀ j : Nat, j < 1000 → (PyData.int (j : Int)).showable = true ∧ (PyData.int (j : Int)).leavesShort 8 = true ∧ (PyData.int (j : Int)).weight ≤ 10 := by decide +kernel
theorem Sw.int {i : Nat} (h : i < 1000) : Sw 10 0 (.int (i : Int)) := ⟨(small_int i h).1, (small_int i h).2.1, rfl, by simp [PyData.depth], (small_int i h).2.2⟩
theorem Sws.nil {D : Nat} : Sws 0 D [] := ⟨by simp [PyData.showableAll], by simp [PyData.leavesShortAll], rfl, by simp [PyData.depthAll], by simp [PyData.weightAll]⟩
theorem Sws.cons {W W' D : Nat} {d : PyData} {ds : List PyData} (h : Sw W D d) (k : Sws W' D ds) : Sws (W + W' + 1) D (d :: ds) := by
  refine ⟨?_, ?_, ?_, ?_, ?_⟩
  · simp only [PyData.showableAll, h.sh, k.sh, Bool.and_self]
  · simp only [PyData.leavesShortAll, h.lf, k.lf, Bool.and_self]
  · simp only [flatAll, h.fl, k.fl, Bool.and_self]
  · simp only [PyData.depthAll]
    exact Nat.max_le.mpr ⟨h.dp, k.dp⟩
  · have a := h.wt
    have b := k.wt
    simp only [PyData.weightAll]
    omega
theorem Sws.tup {W D : Nat} {ds : List PyData} (h : Sws W D ds) : Sw (W + 1) (D + 1) (.tuple ds) := by
  refine ⟨?_, ?_, ?_, ?_, ?_⟩
  · simp only [PyData.showable, h.sh]
  · simp only [PyData.leavesShort, h.lf]
  · simp only [flatD, h.fl]
  · have a := h.dp
    simp only [PyData.depth]
    omega
  · have a := h.wt
    simp only [PyData.weight]
    omega
theorem Sws.lst {W D : Nat} {ds : List PyData} (h : Sws W D ds) : Sw (W + 1) (D + 1) (.list ds) := by
  refine ⟨?_, ?_, ?_, ?_, ?_⟩
  · simp only [PyData.showable, h.sh]
  · simp only [PyData.leavesShort, h.lf]
  · simp only [flatD, h.fl]
  · have a := h.dp
    simp only [PyData.depth]
    omega
  · have a := h.wt
    simp only [PyData.weight]
    omega
theorem Sws.all {W D : Nat} : ∀ {ds : List PyData}, (∀ d ∈ ds, Sw W D d) → Sws ((W + 1) * ds.length) D ds
  | [], _ => Sws.nil
  | d :: ds, h => by
    have z := Sws.cons (h d List.mem_cons_self) (Sws.all fun x hx => h x (List.mem_cons_of_mem _ hx))
    refine ⟨z.sh, z.lf, z.fl, z.dp, Nat.le_trans z.wt ?_⟩
    rw [List.length_cons, Nat.mul_add]
    omega
end My
namespace My
open PySem PySem.Spec PyProof.Rows L2
theorem splitL_snocE {c : Nat} : ∀ B : List Nat, splitL c (B ++ [c]) = splitL c B ++ [[]]
  | [] => by
    simp [splitL]
  | x :: B => by
    have ih := splitL_snocE (c := c) B
    rw [List.cons_append, splitL, ih, splitL]
    by_cases e : x = c
    · rw [if_pos e, if_pos e]
      rfl
    · rw [if_neg e, if_neg e]
      obtain ⟨p, t, ep⟩ := splitL_ne c B
      rw [ep]
      rfl
theorem splitL_snocN {c d : Nat} (h : d ≠ c) : ∀ B : List Nat, ∃ A z, splitL c B = A ++ [z] ∧ splitL c (B ++ [d]) = A ++ [z ++ [d]]
  | [] => ⟨[], [], rfl, by
    show splitL c [d] = _
    rw [splitL, if_neg h]
    rfl⟩
  | x :: B => by
    obtain ⟨A, z, e1, e2⟩ := splitL_snocN h B
    rw [List.cons_append, splitL, splitL, e1, e2]
    by_cases e : x = c
    · rw [if_pos e, if_pos e]
      exact ⟨[] :: A, z, rfl, rfl⟩
    · rw [if_neg e, if_neg e]
      cases A with
      | nil => exact ⟨[], x :: z, rfl, rfl⟩
      | cons a A => exact ⟨(x :: a) :: A, z, rfl, rfl⟩
theorem ends_snoc (B : List Nat) (d : Nat) : Txt.endswith (mkS (B ++ [d])) "\n" = decide (d = 10) := by
  rw [nl_is]
  have ll : (mkS (B ++ [d])).length = B.length + 1 := by rw [mkS_len, List.length_append]; rfl
  have sub := StrLaws.subAt_one (mkS (B ++ [d])) 10 B.length
  rw [mkS_tl] at sub
  have e : (B ++ [d])[B.length]? = some d := by simp
  rw [e] at sub
  unfold Txt.endswith
  have l1 : (⟨#[10]⟩ : Str).length = 1 := rfl
  rw [l1, ll, Nat.add_sub_cancel, decide_eq_true (show 1 ≤ B.length + 1 by omega), Bool.true_and, Bool.eq_iff_iff, decide_eq_true_eq]
  exact ⟨fun h => Option.some.inj (sub.mp ⟨by rw [l1, ll]; omega, h⟩), fun h => (sub.mpr (by rw [h])).2⟩
theorem snoc_of {α : Type} : ∀ l : List α, l = [] ∨ ∃ B d, l = B ++ [d] := fun l => by
  rcases List.eq_nil_or_concat l with h | ⟨B, d, h⟩
  · exact .inl h
  · exact .inr ⟨B, d, by rw [h, List.concat_eq_append]⟩
theorem rest_is {l : List Nat} {A : List (List Nat)} {z : List Nat} (e : splitL 10 l = A ++ [z]) : (z = [] → A = [] ∨ Txt.endswith (mkS l) "\n" = true) ∧ (z ≠ [] → Txt.endswith (mkS l) "\n" = false) := by
  rcases snoc_of l with rfl | ⟨B, d, rfl⟩
  · have e' : ([] : List (List Nat)) ++ [[]] = A ++ [z] := e
    obtain ⟨a, b⟩ := List.append_inj' e' rfl
    refine ⟨fun _ => .inl a.symm, fun h => absurd (List.cons.inj b).1.symm h⟩
  · rw [ends_snoc]
    by_cases c : d = 10
    · subst c
      rw [splitL_snocE] at e
      obtain ⟨_, b⟩ := List.append_inj' e rfl
      exact ⟨fun _ => .inr (by decide), fun h => absurd (List.cons.inj b).1.symm h⟩
    · obtain ⟨A', z', _, e2⟩ := splitL_snocN c B
      rw [e2] at e
      obtain ⟨_, b⟩ := List.append_inj' e rfl
      have b' := (List.cons.inj b).1
      refine ⟨fun h => ?_, fun _ => decide_eq_false c⟩
      rw [h] at b'
      simp at b'
theorem mkS_nil {z : List Nat} : (mkS z = ("" : Str)) ↔ z = [] := by
  rw [em_is]
  exact ⟨fun h => congrArg (fun s : Str => s.cps.toList) h, fun h => by rw [h]; rfl⟩
def linesOf (A : List (List Nat)) (z : List Nat) : List (List Nat) := if z = [] then A else A ++ [z]
section
variable {l : List Nat} {A : List (List Nat)} {z : List Nat}
theorem split_is (e : splitL 10 l = A ++ [z]) : ((splitL 10 l).map mkS).map PyData.str = A.map lineP ++ [lineP z] := by
  rw [e, List.map_append, List.map_append, List.map_map]
  rfl
theorem F_lines29 (e : splitL 10 l = A ++ [z]) (ll : l.length ≤ 1000000) : F_text_lines [.str (mkS l)] = some (.list ((linesOf A z).map lineP)) := by
  rw [at_text_lines]
  unfold S_text_lines
  have k1 : fMeth splitD (fV 0) (fCo (fC (.str "\n")) fN) [some (.d (.str (mkS l))), none] = some (.list (A.map lineP ++ [lineP z])) := meth_is rfl (co1 rfl) ((splitT ll (by decide) nl_is).trans (by rw [split_is e]))
  let ρ : DEnv := [some (.d (.str (mkS l))), some (.d (.list (A.map lineP ++ [lineP z])))]
  have c0 : (fOp ixD (fV 1) (fNeg (fC (.int 1)))) ρ = some (lineP z) := op_is rfl rfl (ix_last _ _)
  have c1 : tfE (fOp eqD (fOp ixD (fV 1) (fNeg (fC (.int 1)))) (fC (.str ""))) ρ = some (decide (z = [])) := by
    refine (tb_is (op_is c0 rfl eqD_str)).trans ?_
    congr 1
    exact decide_eq_decide.mpr mkS_nil
  have s1 : (fSl slD (fV 1) ofN (ofS (fNeg (fC (.int 1))))) ρ = some (.list (A.map lineP)) := (slL_but rfl rfl).trans (by rw [cut_but])
  refine out_rt ((seq_nx (set_is k1)).trans (ret_is ((if_is c1 s1 rfl).trans ?_)))
  unfold linesOf
  by_cases c : z = []
  · rw [decide_eq_true c, if_pos c]
    rfl
  · rw [decide_eq_false c, if_neg c, List.map_append]
    rfl
theorem FPc_at (x y : PyData) : FP_check_end [x, y] = xxBf (SP_check_end [some (.d x), some (.d y)]) fun l => (outF l).map .inl := rfl
theorem F_cend29 (e : splitL 10 l = A ++ [z]) : FP_check_end [.str (mkS l), .list ((linesOf A z).map lineP)] = some (if z = [] then .inl .none else .inr [("word", 0), ("line", ((linesOf A z).length : Int))]) := by
  rw [FPc_at]
  unfold SP_check_end
  let ρ : DEnv := [some (.d (.str (mkS l))), some (.d (.list ((linesOf A z).map lineP)))]
  have e1 : tfE (fOp (ltD fun i j => decide (j < i)) (fCall lenD (fCo (fV 1) fN)) (fC (.int 0))) ρ = some (decide (0 < (linesOf A z).length)) := by
    refine (tb_is (op_is (call_is (co1 rfl) lenD_lst) rfl ltD_int)).trans ?_
    rw [List.length_map]
    congr 1
    exact decide_eq_decide.mpr (by omega)
  have e2 : tfE (fMeth endsD (fV 0) (fCo (fC (.str "\n")) fN)) ρ = some (Txt.endswith (mkS l) "\n") := tb_is (meth_is rfl (co1 rfl) rfl)
  obtain ⟨r1, r2⟩ := rest_is e
  by_cases c : z = []
  · rw [if_pos c]
    have key : (tfAnd (tfE (fOp (ltD fun i j => decide (j < i)) (fCall lenD (fCo (fV 1) fN)) (fC (.int 0)))) (tfNot (tfE (fMeth endsD (fV 0) (fCo (fC (.str "\n")) fN))))) ρ = some false := by
      refine (tand_is e1 fun _ => tnot_is e2).trans ?_
      rcases r1 c with h | h
      · unfold linesOf
        rw [if_pos c, h]
        rfl
      · rw [h]
        cases decide (0 < (linesOf A z).length) <;> rfl
    rw [gif_f key]
    rfl
  · rw [if_neg c]
    have key : (tfAnd (tfE (fOp (ltD fun i j => decide (j < i)) (fCall lenD (fCo (fV 1) fN)) (fC (.int 0)))) (tfNot (tfE (fMeth endsD (fV 0) (fCo (fC (.str "\n")) fN))))) ρ = some true := by
      refine (tand_is e1 fun _ => tnot_is e2).trans ?_
      rw [r2 c]
      have l0 : 0 < (linesOf A z).length := by
        unfold linesOf
        rw [if_neg c, List.length_append]
        exact Nat.succ_pos _
      rw [decide_eq_true l0]
      rfl
    rw [gif_t key]
    have k2 : (fCo (fCall lenD (fCo (fV 1) fN)) (fCo (fC (.int 0)) fN)) ρ = some [.int ((linesOf A z).length : Int), .int 0] := co_is ((call_is (co1 rfl) lenD_lst).trans (by rw [List.length_map])) rfl
    unfold gfRaise
    rw [k2]
    rfl
def readD (A : List (List Nat)) (z : List Nat) : PyData := match runT (linesOf A z) [] 0 with
  | .inl (a, b) => badD a b
  | .inr M => if z = [] then .tuple [.str "fine", stD M] else badD (linesOf A z).length 0
theorem FPr_at (x : PyData) : FP_read_store [x] = xxBf (SP_read_store [some (.d x), none, none, none, none, none, none]) fun l => (outF l).map .inl := rfl
theorem gd_nil : GdS [] := ⟨nofun, rfl, by decide, by decide⟩
theorem lines_ok (e : splitL 10 l = A ++ [z]) (hl : LnOk l) : ∀ x ∈ linesOf A z, LnOk x := fun x hx => by
  have m : x ∈ splitL 10 l := by
    rw [e]
    unfold linesOf at hx
    split at hx
    · exact List.mem_append_left _ hx
    · exact hx
  obtain ⟨a, b⟩ := splitL_in m
  have := hl.1
  exact ⟨by omega, fun c hc => hl.2 c (b c hc)⟩
theorem xb_ok {α β : Type} {a : Option (α ⊕ Fs)} {f : α → Option (β ⊕ Fs)} {x : α} (h : a = some (.inl x)) : xxBf a f = f x := by
  unfold xxBf
  rw [h]
  rfl
theorem xb_er {α β : Type} {a : Option (α ⊕ Fs)} {f : α → Option (β ⊕ Fs)} {fs : Fs} (h : a = some (.inr fs)) : xxBf a f = some (.inr fs) := by
  unfold xxBf
  rw [h]
  rfl
theorem F_read29 (e : splitL 10 l = A ++ [z]) (hl : LnOk l) : F__law_read [.str (mkS l)] = some (readD A z) := by
  have ll : l.length ≤ 1000000 := by have := hl.1; omega
  rw [at__law_read]
  unfold S__law_read
  have key : ∃ o, FP_read_store [.str (mkS l)] = some o ∧ (match o with
      | .inl d => some (.rt (.tuple [.str "fine", d]))
      | .inr fs => (fs.lookup ("line" : Str)).bind fun i => (fs.lookup ("word" : Str)).map fun j => Fl.rt (.tuple [.str "bad", .tuple [.int i, .int j]])) = some (Fl.rt (readD A z)) := by
    rw [FPr_at]
    unfold SP_read_store
    let T : Option Sv := some (.d (.str (mkS l)))
    let N : Option Sv := some (.d (.list ((linesOf A z).map lineP)))
    have s1 : xLiftf (fSet 1 (fCall F_text_lines (fCo (fV 0) fN))) [T, none, none, none, none, none, none] = some (.inl (.nx [T, N, none, none, none, none, none])) := lf_is (set_is (call_is (co1 rfl) (F_lines29 e ll)))
    have s2 : xLiftf (fSet 2 (fTup fN)) [T, N, none, none, none, none, none] = some (.inl (.nx [T, N, some (.d (stD [])), none, none, none, none])) := lf_is (set_is tup0_is)
    obtain ⟨r, e1, e2, e3⟩ := read_loop (T := T) (N := N) (linesOf A z) [] 0 none none none none gd_nil (lines_ok e hl)
    have s3 : ∀ r', r = r' → (gfFor (afEnL (fV 1)) (gT 2 (gsC (gN 3) (gsC (gN 4) gsN))) rdB) [T, N, some (.d (stD [])), none, none, none, none] = some r' := fun r' er => by
      subst er
      exact e1
    unfold readD
    cases er : runT (linesOf A z) [] 0 with
    | inl p =>
      obtain ⟨a, b⟩ := p
      refine ⟨.inr [("word", (b : Int)), ("line", (a : Int))], xb_er ((sq_nx s1).trans ((sq_nx s2).trans (sq_er (s3 _ (e2 a b er))))), ?_⟩
      show some (Fl.rt (.tuple [.str "bad", .tuple [.int (a : Int), .int (b : Int)]])) = _
      rfl
    | inr M =>
      obtain ⟨GM, v3, v4, v5, v6, rM⟩ := e3 M er
      have ce := F_cend29 e
      have s4 : ∀ o, FP_check_end [.str (mkS l), .list ((linesOf A z).map lineP)] = some o → (gxCallf FP_check_end (xLiftAf (fCo (fV 0) (fCo (fV 1) fN)))) [T, N, some (.d (stD M)), v3, v4, v5, v6] = some o := fun o eo => eo
      by_cases c : z = []
      · rw [if_pos c] at ce
        refine ⟨.inl (stD M), ?_, ?_⟩
        · have s5 : gfExpr (gxCallf FP_check_end (xLiftAf (fCo (fV 0) (fCo (fV 1) fN)))) [T, N, some (.d (stD M)), v3, v4, v5, v6] = some (.inl (.nx [T, N, some (.d (stD M)), v3, v4, v5, v6])) := xb_ok (s4 _ ce)
          refine (xb_ok (x := .rt (stD M)) ((sq_nx s1).trans ((sq_nx s2).trans ((sq_nx (s3 _ rM)).trans ((sq_nx s5).trans (lf_is (ret_is rfl))))))).trans rfl
        · show some (Fl.rt (.tuple [.str "fine", stD M])) = some (Fl.rt (if z = [] then _ else _))
          rw [if_pos c]
      · rw [if_neg c] at ce
        refine ⟨.inr [("word", 0), ("line", ((linesOf A z).length : Int))], ?_, ?_⟩
        · have s5 : gfExpr (gxCallf FP_check_end (xLiftAf (fCo (fV 0) (fCo (fV 1) fN)))) [T, N, some (.d (stD M)), v3, v4, v5, v6] = some (.inr [("word", 0), ("line", ((linesOf A z).length : Int))]) := xb_er (s4 _ ce)
          exact xb_er ((sq_nx s1).trans ((sq_nx s2).trans ((sq_nx (s3 _ rM)).trans (sq_er s5))))
        · show some (Fl.rt (.tuple [.str "bad", .tuple [.int ((linesOf A z).length : Int), .int 0]])) = some (Fl.rt (if z = [] then _ else _))
          rw [if_neg c]
          rfl
  obtain ⟨o, e1, e2⟩ := key
  unfold fTryF
  show (((fCo (fV 0) fN) [some (.d (.str (mkS l))), none]).bind fun xs => (FP_read_store xs).bind _).bind outF = _
  rw [show (fCo (fV 0) fN) [some (.d (.str (mkS l))), none] = some [.str (mkS l)] from rfl, Option.bind_some, e1, Option.bind_some]
  cases o with
  | inl d =>
    exact congrArg (fun o : Option Fl => o.bind outF) e2
  | inr fs =>
    exact congrArg (fun o : Option Fl => o.bind outF) e2
theorem F_due29 (e : splitL 10 l = A ++ [z]) (hl : LnOk l) : F29__law_due [.str (mkS l)] = some (readD A z) := by
  have ll : l.length ≤ 1000000 - 2 := by have := hl.1; omega
  rw [at29__law_due]
  unfold S29__law_due
  let T : Option Sv := some (.d (.str (mkS l)))
  let N : Option Sv := some (.d (.list ((linesOf A z).map lineP)))
  have s1 : fSplL 1 (fV 0) (fCo (fC (.str "\n")) fN) [T, none, none, none, none, none, none, none, none] = some (.nx [T, some (.l (A.map lineP ++ [lineP z])), none, none, none, none, none, none, none]) := by
    show (if (("\n" : Str).length == 0) = false ∧ (mkS l).length + 2 ≤ sizeLine then some (Fl.nx [T, some (.l ((Txt.split (mkS l) "\n").map PyData.str)), none, none, none, none, none, none, none]) else none) = _
    rw [if_pos ⟨by decide, by rw [mkS_len]; exact Nat.le_trans (show l.length + 2 ≤ 1000000 by omega) lim_le⟩, nl_is, split_one _ _ (by decide), mkS_tl]
    have z1 := split_is e
    unfold mkS at z1
    rw [z1]
  have s2 : fPop2VL 1 2 3 [T, some (.l (A.map lineP ++ [lineP z])), none, none, none, none, none, none, none] = some (.nx [T, some (.l (A.map lineP)), some (.d (lineP z)), some (.l []), none, none, none, none, none]) := by
    show ((A.map lineP ++ [lineP z]).getLast?.map _) = _
    rw [List.getLast?_append, List.dropLast_concat]
    rfl
  have ne : ∀ v3 v4 v5 v6 v7 v8 v1, tfE (fOp neD (fV 2) (fC (.str ""))) [T, v1, some (.d (lineP z)), v3, v4, v5, v6, v7, v8] = some (!decide (z = [])) := fun v3 v4 v5 v6 v7 v8 v1 => by
    refine tb_is (op_is (x := lineP z) rfl rfl ?_)
    unfold neD lineP
    rw [eqD_str]
    show some (PyData.bool (!decide (mkS z = ""))) = _
    congr 3
    exact decide_eq_decide.mpr mkS_nil
  have sz : (splitL 10 l).length ≤ 901 := by
    have a := splitL_sz (c := 10) l
    have := hl.1
    omega
  have sA : A.length + 1 ≤ 901 := by
    rw [e, List.length_append] at sz
    exact sz
  have s3 : (fIfS (tfE (fOp neD (fV 2) (fC (.str "")))) (fApp 1 (fV 2)) fNil) [T, some (.l (A.map lineP)), some (.d (lineP z)), some (.l []), none, none, none, none, none] = some (.nx [T, some (.l ((linesOf A z).map lineP)), some (.d (lineP z)), some (.l []), none, none, none, none, none]) := by
    unfold linesOf
    by_cases c : z = []
    · refine (ifS_f ((ne _ _ _ _ _ _ _).trans (by rw [decide_eq_true c]; rfl))).trans ?_
      rw [if_pos c]
      rfl
    · refine (ifS_t ((ne _ _ _ _ _ _ _).trans (by rw [decide_eq_false c]; rfl))).trans ?_
      rw [if_neg c, List.map_append]
      show fApp 1 (fV 2) _ = _
      unfold fApp
      show (if (A.map lineP).length < 1000000 then _ else _) = _
      rw [if_pos (by rw [List.length_map]; omega)]
      rfl
  obtain ⟨r, e1, e2, e3⟩ := due_loop (v0 := T) (v2 := some (.d (lineP z))) (lines_ok e hl) (linesOf A z).length 0 [] none none none none none (by omega) gd_nil
  rw [List.drop_zero] at e2 e3
  have lsz : (linesOf A z).length ≤ 901 := by
    unfold linesOf
    split
    · omega
    · rw [List.length_append]
      exact sA
  have i4 : afR (fCo (fCall lenD (fCo (fV 1) fN)) fN) [T, N, some (.d (lineP z)), some (.l []), none, none, none, none, none] = some ((List.range' 0 (linesOf A z).length).map fun (j : Nat) => .int (0 + (j : Int))) := by
    refine (afR_is (m := ((linesOf A z).length : Int)) ((call_is (co1 rfl) (lenD_lst (xs := (linesOf A z).map lineP))).trans (by rw [List.length_map])) (by omega) (by omega)).trans ?_
    unfold rangeD
    rw [Int.toNat_natCast, List.range_eq_range']
  unfold readD
  have give : ∀ (b : SF), fGive 1 b [T, some (.l ((linesOf A z).map lineP)), some (.d (lineP z)), some (.l []), none, none, none, none, none] = b [T, N, some (.d (lineP z)), some (.l []), none, none, none, none, none] := fun b => rfl
  refine (show ((fSeq _ (fSeq _ (fSeq _ (fGive 1 (fSeq (fFor (afR (fCo (fCall lenD (fCo (fV 1) fN)) fN)) (gN 4) dueB) _))))) _).bind outF = _ from ?_)
  rw [seq_nx s1, seq_nx s2, seq_nx s3, give _]
  have f4 : ∀ r', r = r' → (fFor (afR (fCo (fCall lenD (fCo (fV 1) fN)) fN)) (gN 4) dueB) [T, N, some (.d (lineP z)), some (.l []), none, none, none, none, none] = some r' := fun r' er => by
    subst er
    exact for_is i4 e1
  cases er : runT (linesOf A z) [] 0 with
  | inl p =>
    obtain ⟨a, b⟩ := p
    exact out_rt (seq_rt (f4 _ (e2 a b er)))
  | inr M =>
    obtain ⟨GM, v4, v5, v6, v7, v8, rM⟩ := e3 M er
    show _ = some (if z = [] then _ else _)
    rw [seq_nx (f4 _ rM)]
    by_cases c : z = []
    · rw [if_pos c]
      refine out_rt ((seq_nx ((ifS_f ((ne _ _ _ _ _ _ _).trans (by rw [decide_eq_true c]; rfl))).trans rfl)).trans ?_)
      have give3 : ∀ (b : SF), fGive 3 b [T, N, some (.d (lineP z)), some (.l (M.map bT')), v4, v5, v6, v7, v8] = b [T, N, some (.d (lineP z)), some (.d (lsD M)), v4, v5, v6, v7, v8] := fun b => rfl
      refine (give3 _).trans ?_
      exact ret_is (tupB_is rfl (call_is (co1 rfl) rfl))
    · rw [if_neg c]
      refine out_rt (seq_rt ((ifS_t ((ne _ _ _ _ _ _ _).trans (by rw [decide_eq_false c]; rfl))).trans (ret_is (tupB_is rfl (tupB_is (x := .int ((linesOf A z).length : Int)) ((call_is (co1 rfl) lenD_lst).trans (by rw [List.length_map])) rfl)))))
end
theorem badW_le : ∀ {ws : List Str} {k j : Nat}, badW ws k = some j → j < k + ws.length
  | [], _, _, h => by cases h
  | y :: ys, k, j, h => by
    unfold badW at h
    rw [List.length_cons]
    split at h
    · cases h
      omega
    · have := badW_le h
      omega
theorem wrong_le {f : List Str} {j : Nat} (h : wrongF f = some j) : j ≤ f.length := by
  cases f with
  | nil => cases h; exact Nat.le_refl _
  | cons x r =>
    rw [wrongF_cons] at h
    rw [List.length_cons]
    split at h
    · cases h; omega
    · split at h
      · cases h; omega
      · have := badW_le h
        omega
theorem runT_le : ∀ {xs : List (List Nat)} {L : List (List Str)} {i : Nat} {p : (Nat × Nat) ⊕ List (List Str)}, (∀ x ∈ xs, LnOk x) → GdS L → runT xs L i = p → (∀ a b, p = .inl (a, b) → a < i + xs.length ∧ b ≤ 901) ∧ (∀ M, p = .inr M → GdS M)
  | [], L, i, p, _, G, h => by
    subst h
    exact ⟨nofun, fun M e => by cases e; exact G⟩
  | x :: xs, L, i, p, hx, G, h => by
    rw [List.length_cons]
    cases ew : wrongF (wordsOf x) with
    | some k =>
      rw [runT_bad ew] at h
      subst h
      refine ⟨fun a b e => ?_, nofun⟩
      cases e
      refine ⟨by omega, Nat.le_trans (wrong_le ew) ?_⟩
      have a := splitL_sz (c := 32) x
      have := (hx x List.mem_cons_self).1
      unfold wordsOf
      rw [List.length_map]
      omega
    | none =>
      cases ea : admB L (wordsOf x) with
      | false =>
        rw [runT_no ew ea] at h
        subst h
        refine ⟨fun a b e => ?_, nofun⟩
        cases e
        exact ⟨by omega, by omega⟩
      | true =>
        rw [runT_yes ew ea] at h
        obtain ⟨a, b⟩ := runT_le (fun y hy => hx y (List.mem_cons_of_mem _ hy)) (G.snoc (wrong_none ew) ea) h
        exact ⟨fun c d e => by have := a c d e; omega, b⟩
theorem bad_sw {a b : Nat} (ha : a < 1000) (hb : b < 1000) : Sw 200 3 (badD a b) := by
  have s : Sw 100 1 (.str "bad") := (Sw.of (Gv.str (x := "bad") ⟨by decide +kernel, by decide +kernel, by decide +kernel⟩)).mono (Nat.le_refl _) (by decide)
  have z := (Sws.cons s (Sws.cons ((Sws.cons (Sw.int ha) (Sws.cons (Sw.int hb) Sws.nil)).tup) Sws.nil)).tup
  exact z.mono (by omega) (by omega)
theorem fine_sw {M : List (List Str)} (G : GdS M) : Sw 1600 3 (.tuple [.str "fine", stD M]) := by
  have s : Sw 100 2 (.str "fine") := (Sw.of (Gv.str (x := "fine") ⟨by decide +kernel, by decide +kernel, by decide +kernel⟩)).mono (Nat.le_refl _) (by decide)
  have l := G.l
  have z := (Sws.cons s (Sws.cons (Sw.of (store_gv G.g)) Sws.nil)).tup
  exact z.mono (by omega) (by omega)
theorem agree29 {l : List Nat} (hl : LnOk l) : ∃ d, F__law_read [.str (mkS l)] = some d ∧ F29__law_due [.str (mkS l)] = some d ∧ Sw 1600 3 d := by
  obtain ⟨A, z, e⟩ : ∃ A z, splitL 10 l = A ++ [z] := by
    obtain ⟨p, t, e⟩ := splitL_ne 10 l
    rw [e]
    rcases snoc_of (p :: t) with h | ⟨B, d, h⟩
    · cases h
    · exact ⟨B, d, h⟩
  refine ⟨readD A z, F_read29 e hl, F_due29 e hl, ?_⟩
  have sz : (linesOf A z).length ≤ 901 := by
    have a := splitL_sz (c := 10) l
    have := hl.1
    rw [e, List.length_append, List.length_singleton] at a
    unfold linesOf
    split
    · omega
    · rw [List.length_append, List.length_singleton]
      omega
  unfold readD
  cases er : runT (linesOf A z) [] 0 with
  | inl p =>
    obtain ⟨a, b⟩ := p
    obtain ⟨h1, _⟩ := runT_le (lines_ok e hl) gd_nil er
    obtain ⟨h2, h3⟩ := h1 a b rfl
    exact (bad_sw (by omega) (by omega)).mono (by decide) (Nat.le_refl _)
  | inr M =>
    obtain ⟨_, h1⟩ := runT_le (lines_ok e hl) gd_nil er
    show Sw 1600 3 (if z = [] then _ else _)
    split
    · exact fine_sw (h1 M rfl)
    · exact (bad_sw (by omega) (by omega)).mono (by decide) (Nat.le_refl _)
end My
namespace My
open PySem PySem.Spec PyProof.Rows L2
theorem tfE_is {e : EF} {ρ : DEnv} {b : Bool} (h : e ρ = some (.bool b)) : tfE e ρ = some b := by
  unfold tfE
  rw [h]
  rfl
theorem repr_is {f : EF} {ρ : DEnv} {x : PyData} (h : f ρ = some x) (ok : reprOk x) : fRepr f ρ = some (.str x.shown) := by
  unfold fRepr
  rw [h]
  exact if_pos ok
theorem ne_ff {f g : EF} {ρ : DEnv} {z : Str} (h : f ρ = some (.str z)) (k : g ρ = some (.str z)) : tfE (fOp neD f g) ρ = some false := by
  refine tfE_is (op_is h k ?_)
  rw [neD_str, decide_eq_true rfl]
  rfl
end My
namespace My
open PySem PySem.Spec PyProof.Rows L2
theorem lcD_map {g : GD} {f : EF} {ρ0 : DEnv} {h : PyData → PyData} : ∀ {xs acc : List PyData} {n : Nat} {Q : List PyData → Nat → Prop}, (∀ x ∈ xs, ∃ ρ', g x ρ0 = some ρ' ∧ f ρ' = some (h x)) → Q (acc ++ xs.map h) n → lcD g bYes (pur f) ρ0 xs acc n Q
  | [], acc, n, Q, _, q => by
    rw [List.map_nil, List.append_nil] at q
    exact q
  | x :: xs, acc, n, Q, H, q => by
    obtain ⟨ρ', e1, e2⟩ := H x List.mem_cons_self
    refine ⟨ρ', e1, ?_⟩
    unfold bYes
    refine (if_pos rfl).mpr ?_
    refine ⟨h x, e2, lcD_map (fun y hy => H y (List.mem_cons_of_mem _ hy)) ?_⟩
    rw [List.append_assoc]
    exact q
theorem gv_wok {x : Str} (h : WOk x) : Gv 9 0 (.str x) := ⟨by simp only [gvD, List.all_eq_true, decide_eq_true_eq]; exact h.2, by simp only [PyData.weight]; exact h.1, by simp [PyData.depth]⟩
theorem rows_gv {R C : Nat} {rs : List (List Str)} (H : Rws R C rs) : Gv (10 * C * rs.length + rs.length) 2 (rowsD rs) := by
  have z := Gvs.all (W := 10 * C) (D := 1) (xs := rs.map rowD) fun x hx => by
    obtain ⟨r, hr, rfl⟩ := List.mem_map.mp hx
    obtain ⟨l, hw⟩ := H.2 r hr
    have y := Gvs.all (W := 9) (D := 0) (xs := r.map PyData.str) fun u hu => by
      obtain ⟨w, hw', rfl⟩ := List.mem_map.mp hu
      exact gv_wok (hw w hw')
    rw [List.length_map] at y
    refine y.lst.mono ?_ (Nat.le_refl _)
    exact Nat.mul_le_mul_left 10 l
  rw [List.length_map] at z
  refine z.lst.mono ?_ (Nat.le_refl _)
  rw [Nat.add_mul, Nat.one_mul]
  exact Nat.le_refl _
theorem gv_shaped {W D : Nat} {d : PyData} (h : Gv W D d) (k : D ≤ 60) : SeqAt.shaped d = true := by
  unfold SeqAt.shaped
  rw [Bool.and_eq_true, decide_eq_true_eq]
  have := h.dp
  exact ⟨gv_lay d h.gv, by omega⟩
theorem rows_no {R C : Nat} {rs : List (List Str)} (H : Rws R C rs) : neD (rowsD rs) (.list []) = some (.bool (!rs.isEmpty)) := by
  unfold neD
  rw [eqD_deep (gv_shaped (rows_gv H) (by decide)) (by decide +kernel) fun a b e _ => ⟨_, .inl e.symm⟩]
  cases rs <;> rfl
theorem join_row {r : List Str} : Txt.join " " r = mkS (factC r) := by
  cases r with
  | nil => decide +kernel
  | cons x r => exact join_sp (List.cons_ne_nil _ _)
theorem factC_le : ∀ {r : List Str}, (∀ x ∈ r, WOk x) → (factC r).length ≤ 10 * r.length
  | [], _ => Nat.le_refl _
  | x :: r, h => by
    have f : ∀ {r : List Str}, (∀ x ∈ r, WOk x) → (r.flatMap fun y => 32 :: y.cps.toList).length ≤ 10 * r.length := fun {r} => by
      induction r with
      | nil => exact fun _ => Nat.le_refl _
      | cons y r ih =>
        intro h
        have a := ih fun z hz => h z (List.mem_cons_of_mem _ hz)
        have b := (h y List.mem_cons_self).1
        rw [List.flatMap_cons, List.length_append, List.length_cons, List.length_cons, cps_len]
        omega
    have a := f (r := r) fun z hz => h z (List.mem_cons_of_mem _ hz)
    have b := (h x List.mem_cons_self).1
    show (x.cps.toList ++ _).length ≤ _
    rw [List.length_append, List.length_cons, cps_len]
    omega
theorem factC_sgn {r : List Str} (h : ∀ x ∈ r, WOk x) : ∀ c ∈ factC r, c < 1000 := fun c hc => by
  cases r with
  | nil => cases hc
  | cons x r =>
    rcases List.mem_append.mp hc with hc | hc
    · exact (h x List.mem_cons_self).2 c hc
    · obtain ⟨y, hy, hc⟩ := List.mem_flatMap.mp hc
      rcases List.mem_cons.mp hc with rfl | hc
      · decide
      · exact (h y (List.mem_cons_of_mem _ hy)).2 c hc
theorem text_le {C : Nat} : ∀ {rs : List (List Str)}, (∀ r ∈ rs, r.length ≤ C ∧ ∀ x ∈ r, WOk x) → (textC rs).length ≤ (10 * C + 1) * rs.length
  | [], _ => Nat.zero_le _
  | r :: rs, h => by
    have a := text_le (rs := rs) fun z hz => h z (List.mem_cons_of_mem _ hz)
    obtain ⟨l, hw⟩ := h r List.mem_cons_self
    have b := factC_le hw
    unfold textC at a ⊢
    rw [List.flatMap_cons, List.length_append, List.length_append, List.length_singleton, List.length_cons, Nat.mul_add]
    omega
theorem text_ok {rs : List (List Str)} (H : Rws 9 7 rs) : (textC rs).length ≤ 639 ∧ ∀ c ∈ textC rs, c < 1000 := by
  have a := text_le H.2
  have b := H.1
  refine ⟨?_, fun c hc => ?_⟩
  · have : (10 * 7 + 1) * rs.length ≤ (10 * 7 + 1) * 9 := Nat.mul_le_mul_left _ b
    omega
  · unfold textC at hc
    obtain ⟨r, hr, hc⟩ := List.mem_flatMap.mp hc
    rcases List.mem_append.mp hc with hc | hc
    · exact factC_sgn (H.2 r hr).2 c hc
    · rw [List.mem_singleton.mp hc]
      decide
theorem sum_row : ∀ {r : List Str}, (∀ x ∈ r, WOk x) → (r.map (·.length)).sum ≤ 9 * r.length
  | [], _ => Nat.le_refl _
  | x :: r, h => by
    have a := sum_row (r := r) fun z hz => h z (List.mem_cons_of_mem _ hz)
    have b := (h x List.mem_cons_self).1
    rw [List.map_cons, List.sum_cons, List.length_cons]
    omega
theorem line_row {r : List Str} (h : ∀ x ∈ r, WOk x) (l : r.length ≤ 1000) : joinD " " [.list (r.map PyData.str)] = some (.str (mkS (factC r))) := by
  have s := sum_row h
  show (strsD (r.map PyData.str)).bind _ = _
  rw [strsD_back, Option.bind_some]
  have l1 : (" " : Str).length = 1 := by decide +kernel
  have e : joinSz " " r = true := by
    unfold joinSz
    rw [l1]
    refine decide_eq_true ?_
    omega
  rw [e, if_pos rfl, join_row]
abbrev txtE : EF := (fMeth joinD (fC (.str "")) (fCo (fLc (afV (fV 4)) (gN 15) tfYes (fOp addD (fMeth joinD (fC (.str " ")) (fCo (fV 15) fN)) (fC (.str "\n"))) [15]) fN))
theorem text_is {v0 v1 v2 v3 v5 v6 v7 v8 v9 v10 v11 v12 v13 v14 v15 : Option Sv} {rs : List (List Str)} (H : Rws 9 7 rs) : txtE [v0, v1, v2, v3, some (.d (rowsD rs)), v5, v6, v7, v8, v9, v10, v11, v12, v13, v14, v15] = some (.str (mkS (textC rs))) := by
  have lr := H.1
  have k1 : (fLc (afV (fV 4)) (gN 15) tfYes (fOp addD (fMeth joinD (fC (.str " ")) (fCo (fV 15) fN)) (fC (.str "\n"))) [15]) [v0, v1, v2, v3, some (.d (rowsD rs)), v5, v6, v7, v8, v9, v10, v11, v12, v13, v14, v15] = some (.list ((rs.map fun r => mkS (factC r ++ [10])).map PyData.str)) := by
    rw [List.map_map]
    refine lc_is (xs := rs.map rowD) rfl (by rw [List.length_map]; show _ ≤ 1000000; omega) (lcF_map fun r hr => st_yes rfl (op_is (meth_is rfl (co1 rfl) (line_row (H.2 r hr).2 ?_)) rfl (addS1 (a := factC r) (b := [10]) ?_ nl_is)))
    · have := (H.2 r hr).1
      omega
    · have a := factC_le (H.2 r hr).2
      have := (H.2 r hr).1
      rw [List.length_singleton]
      omega
  refine meth_is rfl (co1 k1) ?_
  show (strsD _).bind _ = _
  rw [strsD_back, Option.bind_some]
  have s := sum_le (k := 71) (ys := rs.map fun r => mkS (factC r ++ [10])) fun y hy => by
    obtain ⟨r, hr, rfl⟩ := List.mem_map.mp hy
    have a := factC_le (H.2 r hr).2
    have := (H.2 r hr).1
    rw [mkS_len, List.length_append, List.length_singleton]
    omega
  rw [List.length_map] at s
  have e : joinSz "" (rs.map fun r => mkS (factC r ++ [10])) = true := by
    unfold joinSz
    have l0 : ("" : Str).length = 0 := by decide +kernel
    rw [l0]
    refine decide_eq_true ?_
    omega
  rw [e, if_pos rfl, join_em]
  congr 3
  rw [List.flatMap_map]
  rfl
theorem str_sl {t u : List Nat} {lo hi : Option Int} (l : t.length ≤ 1000000) (e : (t.drop (HT.sIx t.length 0 lo)).take (HT.sIx t.length t.length hi - HT.sIx t.length 0 lo) = u) : slD (.str (mkS t)) lo hi = some (.str (mkS u)) := by
  show (if (mkS t).length ≤ lim then some (PyData.str (cutS (mkS t) lo hi)) else none) = _
  rw [if_pos (by rw [mkS_len]; exact l)]
  unfold cutS
  rw [mkS_len, mkS_tl, e]
  rfl
theorem slS_to {t : List Nat} {k : Nat} (l : t.length ≤ 1000000) : slD (.str (mkS t)) none (some (k : Int)) = some (.str (mkS (t.take k))) := str_sl l (by
  rw [HT.sIx_none, HT.sIx_nat, List.drop_zero, Nat.sub_zero, List.take_eq_take_iff]
  omega)
theorem slS_from {t : List Nat} {k : Nat} (l : t.length ≤ 1000000) : slD (.str (mkS t)) (some (k : Int)) none = some (.str (mkS (t.drop k))) := str_sl l (by
  rw [HT.sIx_none, HT.sIx_nat]
  have e : t.drop (min k t.length) = t.drop k := by
    by_cases c : k ≤ t.length
    · rw [Nat.min_eq_left c]
    · rw [Nat.min_eq_right (by omega), List.drop_length, List.drop_eq_nil_iff.mpr (by omega)]
  rw [e]
  refine List.take_of_length_le ?_
  rw [List.length_drop]
  omega)
theorem slS_last {t : List Nat} (l : t.length ≤ 1000000) : slD (.str (mkS t)) none (some (-1)) = some (.str (mkS (t.take (t.length - 1)))) := str_sl l (by
  rw [HT.sIx_none, List.drop_zero, Nat.sub_zero]
  congr 1
  unfold HT.sIx
  show (if (-1 : Int) < 0 then ((-1 : Int) + ((t.length : Nat) : Int)).toNat else _) = _
  rw [if_pos (by decide)]
  omega)
theorem sl_is {f : EF} {lo hi : OF} {ρ : DEnv} {x y : PyData} {a b : Option Int} (h : f ρ = some x) (h1 : lo ρ = some a) (h2 : hi ρ = some b) (e : slD x a b = some y) : fSl slD f lo hi ρ = some y := by
  unfold fSl
  rw [h, h1, h2]
  exact e
def some9 (t : List Nat) (a : Nat) (s : Str) : List (List Nat) := [t, t.take a, t.drop a, t.take (t.length - 1), t ++ [10], t ++ [32], [], [10], t.take a ++ s.cps.toList ++ t.drop a]
abbrev someE : EF := (fLst (fCo (fV 6) (fCo (fSl slD (fV 6) ofN (ofS (fV 7))) (fCo (fSl slD (fV 6) (ofS (fV 7)) ofN) (fCo (fSl slD (fV 6) ofN (ofS (fNeg (fC (.int 1))))) (fCo (fOp addD (fV 6) (fC (.str "\n"))) (fCo (fOp addD (fV 6) (fC (.str " "))) (fCo (fC (.str "")) (fCo (fC (.str "\n")) (fCo (fOp addD (fOp addD (fSl slD (fV 6) ofN (ofS (fV 7))) (fV 8)) (fSl slD (fV 6) (ofS (fV 7)) ofN)) fN))))))))))
theorem some_is {v0 v1 v2 v3 v4 v5 v9 v10 v11 v12 v13 v14 v15 : Option Sv} {t : List Nat} {a : Nat} {s : Str} (lt : t.length ≤ 700) (ls : s.length ≤ 9) : someE [v0, v1, v2, v3, v4, v5, some (.d (.str (mkS t))), some (.d (.int (a : Int))), some (.d (.str s)), v9, v10, v11, v12, v13, v14, v15] = some (.list ((some9 t a s).map lineP)) := by
  let ρ : DEnv := [v0, v1, v2, v3, v4, v5, some (.d (.str (mkS t))), some (.d (.int (a : Int))), some (.d (.str s)), v9, v10, v11, v12, v13, v14, v15]
  have l6 : t.length ≤ 1000000 := by omega
  have e1 : (fSl slD (fV 6) ofN (ofS (fV 7))) ρ = some (.str (mkS (t.take a))) := sl_is rfl rfl rfl (slS_to l6)
  have e2 : (fSl slD (fV 6) (ofS (fV 7)) ofN) ρ = some (.str (mkS (t.drop a))) := sl_is rfl rfl rfl (slS_from l6)
  have e3 : (fSl slD (fV 6) ofN (ofS (fNeg (fC (.int 1))))) ρ = some (.str (mkS (t.take (t.length - 1)))) := sl_is rfl rfl rfl (slS_last l6)
  have e4 : (fOp addD (fV 6) (fC (.str "\n"))) ρ = some (.str (mkS (t ++ [10]))) := op_is rfl rfl (addS1 (by rw [List.length_singleton]; omega) nl_is)
  have e5 : (fOp addD (fV 6) (fC (.str " "))) ρ = some (.str (mkS (t ++ [32]))) := op_is rfl rfl (addS1 (by rw [List.length_singleton]; omega) sp_is)
  have es : s = mkS s.cps.toList := mkS_of rfl
  have lt1 := List.length_take_le' a t
  have lc := cps_len s
  have e6 : (fOp addD (fOp addD (fSl slD (fV 6) ofN (ofS (fV 7))) (fV 8)) (fSl slD (fV 6) (ofS (fV 7)) ofN)) ρ = some (.str (mkS (t.take a ++ s.cps.toList ++ t.drop a))) := op_is (op_is e1 rfl (addS1 (by omega) es)) e2 (addS (by rw [List.length_append, List.length_drop]; omega))
  refine lstL_is ?_ (show 9 ≤ 1000000 by decide)
  refine co_is rfl (co_is e1 (co_is e2 (co_is e3 (co_is e4 (co_is e5 (co_is (x := lineP []) ?_ (co_is (x := lineP [10]) ?_ (co1 e6))))))))
  · show some (PyData.str "") = some (.str (mkS []))
    rw [em_is]
    rfl
  · show some (PyData.str "\n") = some (.str (mkS [10]))
    rw [nl_is]
    rfl
theorem some9_ok {t : List Nat} {a : Nat} {s : Str} (lt : t.length ≤ 700) (ht : ∀ c ∈ t, c < 1000) (hs : WOk s) : ∀ x ∈ some9 t a s, LnOk x := by
  have ls := hs.1
  have lc := cps_len s
  have l1 : (t.take a).length = min a t.length := List.length_take
  have sub : ∀ {u : List Nat}, u.Sublist t → LnOk u := fun h => ⟨by have := h.length_le; omega, fun c hc => ht c (h.subset hc)⟩
  have app : ∀ {c : Nat}, c < 1000 → LnOk (t ++ [c]) := fun {c} hc => ⟨by rw [List.length_append, List.length_singleton]; omega, fun d hd => (List.mem_append.mp hd).elim (ht d) fun e => by rw [List.mem_singleton.mp e]; exact hc⟩
  intro x hx
  unfold some9 at hx
  simp only [List.mem_cons, List.not_mem_nil, or_false] at hx
  rcases hx with rfl | rfl | rfl | rfl | rfl | rfl | rfl | rfl | rfl
  · exact sub (List.Sublist.refl _)
  · exact sub (List.take_sublist _ _)
  · exact sub (List.drop_sublist _ _)
  · exact sub (List.take_sublist _ _)
  · exact app (by decide)
  · exact app (by decide)
  · exact ⟨by decide, nofun⟩
  · exact ⟨by decide, by decide⟩
  · refine ⟨?_, fun c hc => ?_⟩
    · rw [List.length_append, List.length_append, List.length_drop]
      omega
    · rcases List.mem_append.mp hc with hc | hc
      · rcases List.mem_append.mp hc with hc | hc
        · exact ht c (List.mem_of_mem_take hc)
        · exact hs.2 c hc
      · exact ht c (List.mem_of_mem_drop hc)
abbrev askB : SF := (fIfS (tfE (fOp neD (fRepr (fCall F__law_read (fCo (fV 10) fN))) (fRepr (fCall F29__law_due (fCo (fV 10) fN))))) (fRet (fC (.bool false))) fNil)
theorem ask_all {v0 v1 v2 v3 v4 v5 v6 v7 v8 v9 v11 v12 v13 v14 v15 : Option Sv} : ∀ (ts : List (List Nat)) (v10 : Option Sv), (∀ x ∈ ts, LnOk x) → ∃ u10, forF (gN 10) askB (ts.map lineP) [v0, v1, v2, v3, v4, v5, v6, v7, v8, v9, v10, v11, v12, v13, v14, v15] = some (.nx [v0, v1, v2, v3, v4, v5, v6, v7, v8, v9, u10, v11, v12, v13, v14, v15])
  | [], v10, _ => ⟨v10, rfl⟩
  | t :: ts, v10, h => by
    obtain ⟨d, e1, e2, sw⟩ := agree29 (h t List.mem_cons_self)
    have rp := sw.repr (by decide) (by decide)
    obtain ⟨u10, e⟩ := ask_all ts (some (.d (lineP t))) fun x hx => h x (List.mem_cons_of_mem _ hx)
    exact ⟨u10, (forN (ρ1 := [v0, v1, v2, v3, v4, v5, v6, v7, v8, v9, some (.d (lineP t)), v11, v12, v13, v14, v15]) rfl ((ifS_f (ne_ff (repr_is (call_is (co1 rfl) e1) rp) (repr_is (call_is (co1 rfl) e2) rp))).trans rfl)).trans e⟩
end My
namespace My
open PySem PySem.Spec PyProof.Rows L2
abbrev manyE : EF := (fLc (afR (fCo (fC (.int 32)) fN)) (gN 5) tfYes (fOp addD (fOp addD (fOp addD (fOp addD (fC (.str "a ")) (fOp mulX (fC (.str "b")) (fOp addD (fC (.int 1)) (fOp fdivD (fV 5) (fC (.int 4)))))) (fC (.str " "))) (fOp ixD (fC (.str "cdef")) (fOp modD (fV 5) (fC (.int 4))))) (fC (.str "\n"))) [5])
abbrev wideE : EF := (fLc (afR (fCo (fC (.int 7)) fN)) (gN 5) tfYes (fOp addD (fOp addD (fC (.str "a ?")) (fCall strI (fCo (fOp addD (fV 5) (fC (.int 1))) fN))) (fC (.str "\n"))) [5])
abbrev s3E : EF := (fOp addD (fLc (afV (fC (.list [(.int 29), (.int 30), (.int 31), (.int 32)]))) (gN 5) tfYes (fMeth joinD (fC (.str "")) (fCo (fSl slD (fV 11) ofN (ofS (fV 5))) fN)) [5]) (fLst (fCo (fOp addD (fOp addD (fMeth joinD (fC (.str "")) (fCo (fSl slD (fV 11) ofN (ofS (fV 7))) fN)) (fC (.str "a x?\n"))) (fMeth joinD (fC (.str "")) (fCo (fSl slD (fV 11) (ofS (fV 7)) ofN) fN))) fN)))
abbrev s4E : EF := (fOp addD (fV 9) (fLc (afV (fC (.list [(.int 4), (.int 5), (.int 6), (.int 7)]))) (gN 5) tfYes (fMeth joinD (fC (.str "")) (fCo (fSl slD (fV 12) ofN (ofS (fV 5))) fN)) [5]))
abbrev s5E : EF := (fC (.list [(.str "a ?1 ?2\n"), (.str "a ?3 ?4\n"), (.str "a ?5 ?5\n"), (.str "a ?6 ?7\n")]))
abbrev s6E : EF := (fOp addD (fOp addD (fV 9) (fLc (afV (fLst (fCo (fC (.int 2)) (fCo (fC (.int 3)) (fCo (fC (.int 4)) fN))))) (gN 5) tfYes (fMeth joinD (fC (.str "")) (fCo (fSl slD (fV 13) ofN (ofS (fV 5))) fN)) [5])) (fLst (fCo (fOp addD (fOp addD (fOp ixD (fV 13) (fC (.int 0))) (fOp ixD (fV 13) (fC (.int 1)))) (fOp ixD (fV 13) (fC (.int 3)))) fN)))
def val29 (o : Option PyData) : PyData := o.getD .none
def manyV : PyData := val29 (manyE (List.replicate 16 none))
def wideV : PyData := val29 (wideE (List.replicate 16 none))
def s5V : PyData := val29 (s5E [])
abbrev fr (v0 v1 v2 v3 v4 v5 v6 v7 v8 v9 v10 v11 v12 v13 v14 v15 : Option Sv) : DEnv := [v0, v1, v2, v3, v4, v5, v6, v7, v8, v9, v10, v11, v12, v13, v14, v15]
def s3V (a : Nat) : PyData := val29 (s3E (fr none none none none none none none (some (.d (.int (a : Int)))) none none none (some (.d manyV)) (some (.d wideV)) none none none))
def s4V (a : Nat) : PyData := val29 (s4E (fr none none none none none none none (some (.d (.int (a : Int)))) none (some (.d (s3V a))) none (some (.d manyV)) (some (.d wideV)) none none none))
def s6V (a : Nat) : PyData := val29 (s6E (fr none none none none none none none (some (.d (.int (a : Int)))) none (some (.d (s4V a))) none (some (.d manyV)) (some (.d wideV)) (some (.d s5V)) none none))
section
variable {v0 v1 v2 v3 v4 v5 v6 v7 v8 v9 v10 v11 v12 v13 v14 v15 : Option Sv}
theorem many_is : manyE (fr v0 v1 v2 v3 v4 v5 v6 v7 v8 v9 v10 v11 v12 v13 v14 v15) = some manyV := by kernel_rfl
theorem wide_is : wideE (fr v0 v1 v2 v3 v4 v5 v6 v7 v8 v9 v10 v11 v12 v13 v14 v15) = some wideV := by kernel_rfl
theorem s5_is {ρ : DEnv} : s5E ρ = some s5V := by kernel_rfl
theorem four29 {P : Nat → Prop} (h0 : P 28) (h1 : P 29) (h2 : P 30) (h3 : P 31) {a : Nat} (l : a < 4) : P (28 + a) := by
  have c : a = 0 ∨ a = 1 ∨ a = 2 ∨ a = 3 := by omega
  rcases c with rfl | rfl | rfl | rfl
  · exact h0
  · exact h1
  · exact h2
  · exact h3
theorem s3_is {a : Nat} (l : a < 4) : s3E (fr v0 v1 v2 v3 v4 v5 v6 (some (.d (.int ((28 + a : Nat) : Int)))) v8 v9 v10 (some (.d manyV)) (some (.d wideV)) v13 v14 v15) = some (s3V (28 + a)) :=
  four29 (P := fun a => s3E (fr v0 v1 v2 v3 v4 v5 v6 (some (.d (.int (a : Int)))) v8 v9 v10 (some (.d manyV)) (some (.d wideV)) v13 v14 v15) = some (s3V a)) (by kernel_rfl) (by kernel_rfl) (by kernel_rfl) (by kernel_rfl) l
theorem s4_is {a : Nat} (l : a < 4) : s4E (fr v0 v1 v2 v3 v4 v5 v6 (some (.d (.int ((28 + a : Nat) : Int)))) v8 (some (.d (s3V (28 + a)))) v10 (some (.d manyV)) (some (.d wideV)) v13 v14 v15) = some (s4V (28 + a)) :=
  four29 (P := fun a => s4E (fr v0 v1 v2 v3 v4 v5 v6 (some (.d (.int (a : Int)))) v8 (some (.d (s3V a))) v10 (some (.d manyV)) (some (.d wideV)) v13 v14 v15) = some (s4V a)) (by kernel_rfl) (by kernel_rfl) (by kernel_rfl) (by kernel_rfl) l
theorem s6_is {a : Nat} (l : a < 4) : s6E (fr v0 v1 v2 v3 v4 v5 v6 (some (.d (.int ((28 + a : Nat) : Int)))) v8 (some (.d (s4V (28 + a)))) v10 (some (.d manyV)) (some (.d wideV)) (some (.d s5V)) v14 v15) = some (s6V (28 + a)) :=
  four29 (P := fun a => s6E (fr v0 v1 v2 v3 v4 v5 v6 (some (.d (.int (a : Int)))) v8 (some (.d (s4V a))) v10 (some (.d manyV)) (some (.d wideV)) (some (.d s5V)) v14 v15) = some (s6V a)) (by kernel_rfl) (by kernel_rfl) (by kernel_rfl) (by kernel_rfl) l
end
def lnB : PyData → Bool
  | .str z => decide (z.cps.toList.length ≤ 900) && z.cps.toList.all fun c => decide (c < 1000)
  | _ => false
def lnsB : PyData → Bool
  | .list xs => decide (xs.length ≤ 20) && xs.all lnB
  | _ => false
theorem lns_of : ∀ {xs : List PyData}, xs.all lnB = true → ∃ ts : List (List Nat), xs = ts.map lineP ∧ ∀ x ∈ ts, LnOk x
  | [], _ => ⟨[], rfl, nofun⟩
  | x :: xs, h => by
    rw [List.all_cons, Bool.and_eq_true] at h
    obtain ⟨ts, e, k⟩ := lns_of h.2
    cases x with
    | str z =>
      have h1 := h.1
      unfold lnB at h1
      simp only [Bool.and_eq_true, decide_eq_true_eq, List.all_eq_true] at h1
      refine ⟨z.cps.toList :: ts, ?_, fun y hy => ?_⟩
      · rw [List.map_cons, ← e]
        unfold lineP
        rw [← mkS_of rfl]
      · rcases List.mem_cons.mp hy with rfl | hy
        · exact h1
        · exact k y hy
    | _ => exact absurd h.1 Bool.false_ne_true
theorem s6_ok {a : Nat} (l : a < 4) : ∃ ts : List (List Nat), s6V (28 + a) = .list (ts.map lineP) ∧ ts.length ≤ 20 ∧ ∀ x ∈ ts, LnOk x := by
  have h : lnsB (s6V (28 + a)) = true := four29 (P := fun a => lnsB (s6V a) = true) (by kernel_rfl) (by kernel_rfl) (by kernel_rfl) (by kernel_rfl) l
  cases e : s6V (28 + a) with
  | list xs =>
    rw [e] at h
    unfold lnsB at h
    rw [Bool.and_eq_true, decide_eq_true_eq] at h
    obtain ⟨ts, e2, k⟩ := lns_of h.2
    refine ⟨ts, by rw [e2], ?_, k⟩
    have := h.1
    rw [e2, List.length_map] at this
    exact this
  | _ => rw [e] at h; exact absurd h Bool.false_ne_true
theorem reads29 : ∀ {ts : List (List Nat)}, (∀ x ∈ ts, LnOk x) → ∃ ds : List PyData, (∀ ρ0 : DEnv, 11 ≤ ρ0.length → lcF (stF (gN 10) tfYes (fCall F__law_read (fCo (fV 10) fN)) ρ0) (ts.map lineP) = some ds ∧ lcF (stF (gN 10) tfYes (fCall F29__law_due (fCo (fV 10) fN)) ρ0) (ts.map lineP) = some ds) ∧ ds.length = ts.length ∧ ∀ d ∈ ds, Sw 1600 3 d
  | [], _ => ⟨[], fun _ _ => ⟨rfl, rfl⟩, rfl, nofun⟩
  | t :: ts, h => by
    obtain ⟨d, e1, e2, sw⟩ := agree29 (h t List.mem_cons_self)
    obtain ⟨ds, k, l, s⟩ := reads29 fun x hx => h x (List.mem_cons_of_mem _ hx)
    refine ⟨d :: ds, fun ρ0 l0 => ?_, by rw [List.length_cons, List.length_cons, l], fun y hy => ?_⟩
    · obtain ⟨k1, k2⟩ := k ρ0 l0
      have g : fCo (fV 10) fN (ρ0.set 10 (some (.d (lineP t)))) = some [lineP t] := co1 (by
        unfold fV
        rw [List.getElem?_set_self (by omega)]
        rfl)
      have a1 := st_yes (g := gN 10) (ρ0 := ρ0) (x := lineP t) rfl (call_is g e1)
      have a2 := st_yes (g := gN 10) (ρ0 := ρ0) (x := lineP t) rfl (call_is g e2)
      constructor
      · show (stF (gN 10) tfYes (fCall F__law_read (fCo (fV 10) fN)) ρ0 (lineP t)).bind _ = _
        rw [a1, Option.bind_some, k1]
        rfl
      · show (stF (gN 10) tfYes (fCall F29__law_due (fCo (fV 10) fN)) ρ0 (lineP t)).bind _ = _
        rw [a2, Option.bind_some, k2]
        rfl
    · rcases List.mem_cons.mp hy with rfl | hy
      · exact sw
      · exact s y hy
abbrev endE : EF := (fOp eqD (fRepr (fLc (afV (fV 9)) (gN 10) tfYes (fCall F__law_read (fCo (fV 10) fN)) [10])) (fRepr (fLc (afV (fV 9)) (gN 10) tfYes (fCall F29__law_due (fCo (fV 10) fN)) [10])))
theorem end_is {v0 v1 v2 v3 v4 v5 v6 v7 v8 v10 v11 v12 v13 v14 v15 : Option Sv} {a : Nat} (l : a < 4) : endE (fr v0 v1 v2 v3 v4 v5 v6 v7 v8 (some (.d (s6V (28 + a)))) v10 v11 v12 v13 v14 v15) = some (.bool true) := by
  obtain ⟨ts, e, lt, ok⟩ := s6_ok l
  rw [e]
  obtain ⟨ds, k, ld, sw⟩ := reads29 ok
  obtain ⟨k1, k2⟩ := k (wipeD (fr v0 v1 v2 v3 v4 v5 v6 v7 v8 (some (.d (.list (ts.map lineP)))) v10 v11 v12 v13 v14 v15) [10]) (by show 11 ≤ 16; decide)
  have a1 := lc_is (it := afV (fV 9)) (ρ := fr v0 v1 v2 v3 v4 v5 v6 v7 v8 (some (.d (.list (ts.map lineP)))) v10 v11 v12 v13 v14 v15) (own := [10]) rfl (by rw [List.length_map]; show _ ≤ 1000000; omega) k1
  have a2 := lc_is (it := afV (fV 9)) (ρ := fr v0 v1 v2 v3 v4 v5 v6 v7 v8 (some (.d (.list (ts.map lineP)))) v10 v11 v12 v13 v14 v15) (own := [10]) rfl (by rw [List.length_map]; show _ ≤ 1000000; omega) k2
  have rp : reprOk (.list ds) := ((Sws.all sw).lst.mono (W' := 40000) (D' := 4) (by rw [ld]; omega) (Nat.le_refl _)).repr (by decide) (by decide)
  refine (op_is (repr_is a1 rp) (repr_is a2 rp) eqD_str).trans ?_
  rw [decide_eq_true rfl]
theorem lenD_str' {t : List Nat} (h : t.length ≤ 1000000) : lenD [.str (mkS t)] = some (.int (t.length : Int)) := (lenD_str (by rw [mkS_len]; exact h)).trans (by rw [mkS_len])
theorem sgn29 : ∀ y ∈ ([.str " ", .str "\n", .str "a", .str "?", .str "1", .str "A", .str "_", .str "\t"] : List PyData), ∃ z, y = .str z ∧ WOk z := by
  have h : ([.str " ", .str "\n", .str "a", .str "?", .str "1", .str "A", .str "_", .str "\t"] : List PyData).all wokB = true := by decide +kernel
  exact fun y hy => wokB_is (List.all_eq_true.mp h y hy)
end My
namespace My
open PySem PySem.Spec PyProof.Rows L2
theorem valD_put (ds : DKv) (k k' : Key) (x : PyData) : valD (putD ds k x) k' = if k' = k then some x else valD ds k' := by
  unfold putD
  split
  · rename_i h
    unfold valD
    rw [List.find?_map]
    have e : ((fun p => hasK p k') ∘ fun p : PyData × PyData => if hasK p k = true then (p.1, x) else p) = fun p => hasK p k' := by
      funext p
      show hasK (if hasK p k = true then (p.1, x) else p) k' = _
      split <;> rfl
    rw [e]
    by_cases c : k' = k
    · subst c
      rw [if_pos rfl]
      cases hf : ds.find? (fun p => hasK p k') with
      | none =>
        rw [List.find?_eq_none] at hf
        rw [List.any_eq_true] at h
        obtain ⟨p, hp, hk⟩ := h
        exact absurd hk (hf p hp)
      | some p =>
        have hp := List.find?_some hf
        show some ((if hasK p k' = true then (p.1, x) else p).2) = _
        rw [if_pos hp]
    · rw [if_neg c]
      cases hf : ds.find? (fun p => hasK p k') with
      | none => rfl
      | some p =>
        have hp := List.find?_some hf
        show some ((if hasK p k = true then (p.1, x) else p).2) = some p.2
        rw [if_neg]
        intro h2
        unfold hasK at hp h2
        rw [decide_eq_true_eq] at hp h2
        rw [hp] at h2
        exact c (Option.some.inj h2)
  · rename_i h
    unfold valD
    rw [List.find?_append]
    have e : hasK (kD k, x) k' = decide (k' = k) := by
      unfold hasK
      show decide (keyOf (kD k) = some k') = _
      rw [keyOf_kD]
      exact decide_eq_decide.mpr ⟨fun e => (Option.some.inj e).symm, fun e => by rw [e]⟩
    rw [List.find?_cons, e]
    by_cases c : k' = k
    · subst c
      rw [if_pos rfl, decide_eq_true rfl]
      have z : ds.find? (fun p => hasK p k') = none := by
        rw [List.find?_eq_none]
        intro p hp hk
        exact h (List.any_eq_true.mpr ⟨p, hp, hk⟩)
      rw [z]
      rfl
    · rw [if_neg c, decide_eq_false c]
      rw [List.find?_nil, Option.or_none]
theorem putD_len (ds : DKv) (k : Key) (x : PyData) : (putD ds k x).length ≤ ds.length + 1 := by
  unfold putD
  split
  · rw [List.length_map]
    omega
  · rw [List.length_append]
    exact Nat.le_refl _
structure WideD (L : List (List Str)) (ds : DKv) : Prop where
  len : ds.length ≤ L.length
  one : OneW L
  has : ∀ f ∈ L, ∀ r, f.head? = some r → valD ds (.inr r) = some (.int (f.length : Int))
  no : ∀ r : Str, (∀ f ∈ L, f.head? ≠ some r) → valD ds (.inr r) = none
theorem WideD.nil : WideD [] [] := ⟨Nat.le_refl _, (fun k h => nomatch h), (fun k h => nomatch h), fun _ _ => rfl⟩
theorem WideD.put {L : List (List Str)} {ds : DKv} {r : Str} {ws : List Str} (h : WideD L ds) (ok : ∀ f ∈ L, f.head? = some r → f.length = (r :: ws).length) : WideD (L ++ [r :: ws]) (putD ds (.inr r) (.int ((r :: ws).length : Int))) := by
  refine ⟨?_, ?_, ?_, ?_⟩
  · rw [List.length_append]
    exact Nat.le_trans (putD_len _ _ _) (Nat.succ_le_succ h.len)
  · intro a ha b hb e
    rcases List.mem_append.mp ha with ha | ha
    · rcases List.mem_append.mp hb with hb | hb
      · exact h.one a ha b hb e
      · rw [List.mem_singleton.mp hb] at e ⊢
        exact ok a ha e
    · rw [List.mem_singleton.mp ha] at e ⊢
      rcases List.mem_append.mp hb with hb | hb
      · exact (ok b hb e.symm).symm
      · rw [List.mem_singleton.mp hb]
  · intro f hf q hq
    rw [valD_put]
    by_cases c : q = r
    · subst c
      rw [if_pos rfl]
      rcases List.mem_append.mp hf with hf | hf
      · rw [ok f hf hq]
      · rw [List.mem_singleton.mp hf]
    · rw [if_neg (fun e => c (Sum.inr.inj e))]
      rcases List.mem_append.mp hf with hf | hf
      · exact h.has f hf q hq
      · rw [List.mem_singleton.mp hf] at hq
        exact absurd (Option.some.inj hq).symm c
  · intro q hq
    rw [valD_put, if_neg, h.no q fun f hf => hq f (List.mem_append_left _ hf)]
    intro e
    exact hq (r :: ws) (List.mem_append_right _ (List.mem_singleton.mpr rfl)) (by rw [Sum.inr.inj e]; rfl)
end My
namespace My
open PySem PySem.Spec PyProof.Rows L2
def hdS (f : List Str) : Str := f.headD ""
abbrev Rl := List (List Str) × List (List Str)
abbrev Ky := Str × List Nat
end My
namespace My
open PySem PySem.Spec PyProof.Rows L2
def KdsOk (ks : List Kd) : Prop := ks ≠ [] ∧ ks.length ≤ 10 ∧ ∀ t ∈ ks, Wd t.1 ∧ 0 < t.2 ∧ t.2 ≤ 4
def caps3 : List Str := ["A", "B", "C"]
def caps5 : List Str := ["A", "B", "C", "D", "E"]
structure RlW (bk hk : List Kd) (ws : List Str) (r : Rl) : Prop where
  b1 : 1 ≤ r.1.length
  b3 : r.1.length ≤ 3
  b : ∀ k ∈ r.1, FcOk bk (caps3 ++ ws) k
  h1 : 1 ≤ r.2.length
  h3 : r.2.length ≤ 3
  h : ∀ k ∈ r.2, FcOk hk (caps5 ++ ws) k
structure BkW (m : Nat) (rs : List Rl) (ks : List Ky) (bk hk : List Kd) (ws : List Str) : Prop where
  kin : ∀ k ∈ ks, ∃ r ∈ rs, ∃ f ∈ r.2, hdS f = k.1
  r1 : 1 ≤ rs.length
  rm : rs.length ≤ m
  rs : ∀ r ∈ rs, RlW bk hk ws r
  lb : bk.length = 2
  lh : hk.length = 2
  lw : ws.length = 3
  kb : KdsOk bk
  kh : KdsOk hk
  w : ∀ y ∈ ws, Wd y
  nd : (bk.map (·.1) ++ (hk.map (·.1) ++ ws)).Nodup
  k3 : ks.length ≤ 3
  ks : ∀ k ∈ ks, ∃ t ∈ hk, k.1 = t.1 ∧ k.2 ≠ [] ∧ k.2.Pairwise (· < ·) ∧ ∀ c ∈ k.2, c < t.2
theorem one_add (c : Nat) : addD (.int 1) (.int (c : Int)) = some (.int ((c + 1 : Nat) : Int)) := addD_int.trans (by rw [Int.add_comm]; rfl)
theorem FcOk.mono {ks : List Kd} {vals vals' k : List Str} (h : FcOk ks vals k) (s : ∀ y ∈ vals, y ∈ vals') : FcOk ks vals' k := by
  obtain ⟨x, ws, e, h1, h2⟩ := h
  exact ⟨x, ws, e, h1, fun y hy => s y (h2 y hy)⟩
end My
namespace My
open PySem PySem.Spec PyProof.Rows L2
def top (i : Nat) : Stmt := PySem.Challenge.pw_corestore_k29_other_texts.main.body.getD i (.Pass ⟨0, 0, 0, 0⟩)
def inCls (s : Stmt) (j : Nat) : Stmt := match s with
  | .ClassDef _ _ _ b _ _ _ _ _ _ _ => b.getD j (.Pass ⟨0, 0, 0, 0⟩)
  | _ => .Pass ⟨0, 0, 0, 0⟩
abbrev s_BadText_init : Stmt := inCls (top 2) 0
abbrev sIsWord : Stmt := top 6
abbrev sUnk : Stmt := top 7
abbrev sIsValue : Stmt := top 8
abbrev sIsFact : Stmt := top 9
abbrev sIsStore : Stmt := top 10
abbrev sMay : Stmt := top 11
abbrev sUnkS : Stmt := top 12
abbrev s_read_store : Stmt := top 17
abbrev s_text_lines : Stmt := top 18
abbrev s_check_end : Stmt := top 19
abbrev s_fact_fault : Stmt := top 20
abbrev s_may_be_read : Stmt := top 21
abbrev sDeck : Stmt := top 23
abbrev sDraw : Stmt := top 24
abbrev sOne : Stmt := top 25
abbrev sWord : Stmt := top 26
abbrev sPool : Stmt := top 27
abbrev sUnks : Stmt := top 28
abbrev sKinds : Stmt := top 29
abbrev sStore : Stmt := top 30
abbrev sLIsWord : Stmt := top 31
abbrev sLIsUnk : Stmt := top 32
abbrev sNames : Stmt := top 33
abbrev s__law_wrong : Stmt := top 34
abbrev s__law_due : Stmt := top 35
abbrev s__law_read : Stmt := top 36
abbrev s__law_bent_rows : Stmt := top 37
abbrev sLaw : Stmt := top 38
end My
set_option maxHeartbeats 4000000
namespace My
open PySem PySem.Spec PyProof.Rows L2
section
variable [TbC] {P : Program} {w : World} {K : PySem.W.Frag} {mg : Str → Option Value} {base : Heap}
theorem sc_law : FnScope ["_law_script", "_law_deck_here", "_law_turn", "_law_values", "_law_rows", "_law_k", "_law_text", "_law_at", "_law_sign", "_law_some", "_law_value", "_law_many", "_law_wide", "_law_pairs", "_law_fact", "_law_row"] ["_law_script"] (defScope sLaw) := ⟨rfl, rfl, rfl, by decide +kernel, rfl, by decide +kernel, by decide +kernel⟩
theorem okL_law {f : Addr} {fd : FuncData} (F : Fun K "law" "law" sLaw f fd) (z_range : mg "range" = none) (z_list : mg "list" = none) (z_len : mg "len" = none) (z_repr : mg "repr" = none) (z_str : mg "str" = none) {f__law_deck : Addr} {d__law_deck : FuncData} (G__law_deck : FnOk P w K mg base CX0 1 f__law_deck d__law_deck ["_law_script"] (spDk K)) (m__law_deck : mg "_law_deck" = some (.ref f__law_deck)) (k__law_deck : PySem.W.keepIn K (.ref f__law_deck) = true) (b__law_deck : Binds K d__law_deck ["_law_script"] []) {f__law_pool : Addr} {d__law_pool : FuncData} (G__law_pool : FnOk P w K mg base CX0 4 f__law_pool d__law_pool ["_law_deck_here", "_law_many"] (spW K W_pool)) (m__law_pool : mg "_law_pool" = some (.ref f__law_pool)) (k__law_pool : PySem.W.keepIn K (.ref f__law_pool) = true) (b__law_pool : Binds K d__law_pool ["_law_deck_here", "_law_many"] []) {f__law_unknowns : Addr} {d__law_unknowns : FuncData} (G__law_unknowns : FnOk P w K mg base CX0 2 f__law_unknowns d__law_unknowns ["_law_deck_here", "_law_many"] (spW K W_unks)) (m__law_unknowns : mg "_law_unknowns" = some (.ref f__law_unknowns)) (k__law_unknowns : PySem.W.keepIn K (.ref f__law_unknowns) = true) (b__law_unknowns : Binds K d__law_unknowns ["_law_deck_here", "_law_many"] []) {f__law_store : Addr} {d__law_store : FuncData} (G__law_store : FnOk P w K mg base CX0 3 f__law_store d__law_store ["_law_deck_here", "_law_kinds_here", "_law_values", "_law_many"] (spW K W_stW)) (m__law_store : mg "_law_store" = some (.ref f__law_store)) (k__law_store : PySem.W.keepIn K (.ref f__law_store) = true) (b__law_store : Binds K d__law_store ["_law_deck_here", "_law_kinds_here", "_law_values", "_law_many"] []) {f__law_kinds : Addr} {d__law_kinds : FuncData} (G__law_kinds : FnOk P w K mg base CX0 5 f__law_kinds d__law_kinds ["_law_deck_here"] (spW K W_kinds)) (m__law_kinds : mg "_law_kinds" = some (.ref f__law_kinds)) (k__law_kinds : PySem.W.keepIn K (.ref f__law_kinds) = true) (b__law_kinds : Binds K d__law_kinds ["_law_deck_here"] []) {f__law_draw : Addr} {d__law_draw : FuncData} (G__law_draw : FnOk P w K mg base CX0 1 f__law_draw d__law_draw ["_law_deck_here", "_law_many"] (spW K W_draw)) (m__law_draw : mg "_law_draw" = some (.ref f__law_draw)) (k__law_draw : PySem.W.keepIn K (.ref f__law_draw) = true) (b__law_draw : Binds K d__law_draw ["_law_deck_here", "_law_many"] []) {f__law_bent_rows : Addr} {d__law_bent_rows : FuncData} (G__law_bent_rows : FnOk P w K mg base CX0 3 f__law_bent_rows d__law_bent_rows ["_law_deck_here", "_law_rows"] (spW K W_bentR29)) (m__law_bent_rows : mg "_law_bent_rows" = some (.ref f__law_bent_rows)) (k__law_bent_rows : PySem.W.keepIn K (.ref f__law_bent_rows) = true) (b__law_bent_rows : Binds K d__law_bent_rows ["_law_deck_here", "_law_rows"] []) {f__law_one : Addr} {d__law_one : FuncData} (G__law_one : FnOk P w K mg base CX0 2 f__law_one d__law_one ["_law_deck_here", "_law_items"] (spW K W_one)) (m__law_one : mg "_law_one" = some (.ref f__law_one)) (k__law_one : PySem.W.keepIn K (.ref f__law_one) = true) (b__law_one : Binds K d__law_one ["_law_deck_here", "_law_items"] []) {f__law_read : Addr} {d__law_read : FuncData} (G__law_read : FnOk P w K mg base CX0 8 f__law_read d__law_read ["_law_text"] (spP K F__law_read)) (m__law_read : mg "_law_read" = some (.ref f__law_read)) (k__law_read : PySem.W.keepIn K (.ref f__law_read) = true) (b__law_read : Binds K d__law_read ["_law_text"] []) {f__law_due : Addr} {d__law_due : FuncData} (G__law_due : FnOk P w K mg base CX0 3 f__law_due d__law_due ["_law_text"] (spP K F29__law_due)) (m__law_due : mg "_law_due" = some (.ref f__law_due)) (k__law_due : PySem.W.keepIn K (.ref f__law_due) = true) (b__law_due : Binds K d__law_due ["_law_text"] []) : RunG P w K mg base 9 f fd ["_law_script"] (spLaw K) :=
  law_ok (by decide) F sc_law (fun cdv A outer s H E hgu hr => by
    have hu := hr.units
    have hv := Room.u65 hr
    exact ⟨_, _, rfl, ps_set (i := 1) sc_law.nd rfl (Or.inl rfl) (pe_call G__law_deck (hr.mono (by decide)) rfl m__law_deck k__law_deck b__law_deck .nil pass0 (pa_cons (pv 0) pa_nil)), (qss_cons (qs_for PassesOwn.never rfl (qdi_pur (qdi_range (by rfl) z_range (qda_cons qd_int qda_nil)) (is_afR (is_co is_c is_n))) (qdg_name (i := 2) sc_law.nd rfl (Or.inl rfl)) (qss_cons (qs_set (i := 3) sc_law.nd rfl (Or.inl rfl) (qd_op op_addU pu_add (qd_callW G__law_pool (hr.mono (by decide)) rfl m__law_pool k__law_pool b__law_pool pass0 (pv 1) (qda_cons (qd_pur qd_int is_c) qda_nil)) (qd_callW G__law_unknowns (hr.mono (by decide)) rfl m__law_unknowns k__law_unknowns b__law_unknowns pass0 (pv 1) (qda_cons (qd_pur qd_int is_c) qda_nil))))
      (qss_cons (qs_setLc (i := 4) (hyl := rfl) (hsw := rfl) (hy := rfl) (hc := rfl) (hN := sc_law.nd) (own := [("_law_fact", 14)]) (qdi_val (qd_callW G__law_store (hr.mono (by decide)) rfl m__law_store k__law_store b__law_store pass0 (pv 1) (qda_cons (qd_callW G__law_kinds (hr.mono (by decide)) rfl m__law_kinds k__law_kinds b__law_kinds pass0 (pv 1) qda_nil) (qda_cons (qd_pur (qdv 3) is_v) (qda_cons (qd_pur qd_int is_c) qda_nil))))) (blkOk_by (own := [("_law_fact", 14)]) (N := ["_law_script", "_law_deck_here", "_law_turn", "_law_values", "_law_rows", "_law_k", "_law_text", "_law_at", "_law_sign", "_law_some", "_law_value", "_law_many", "_law_wide", "_law_pairs", "_law_fact", "_law_row"]) (sc := (defScope sLaw)) (by decide +kernel)) (by decide) (fun _ _ _ _ _ => (qdg_name (i := 14) sc_law.nd rfl (Or.inl rfl))) (fun _ _ _ _ _ => qts_nil) (fun _ _ _ _ _ => (qd_pur (qd_callTy call_list_of pu_list (by rfl) z_list boot_list (qda_cons (qdv 14) qda_nil)) (is_call (is_co is_v is_n)))))
      (qss_cons (qs_for PassesOwn.never rfl (qdi_range (by rfl) z_range (qda_cons (qd_op op_addU pu_add (qd_pur qd_int is_c) (qd_callW G__law_draw (hr.mono (by decide)) rfl m__law_draw k__law_draw b__law_draw pass0 (pv 1) (qda_cons (qd_pur qd_int is_c) qda_nil))) qda_nil)) (qdg_name (i := 5) sc_law.nd rfl (Or.inl rfl)) (qss_one (qs_if (qdt_pur (qdt_cmp (op_neU hu) pu_ne (qdv 4) (qd_lst qda_nil) (nomark _)) (is_tfE (is_op is_v (is_lst is_n)))) (qss_one (qs_set (i := 4) sc_law.nd rfl (Or.inl rfl) (qd_callW G__law_bent_rows (hr.mono (by decide)) rfl m__law_bent_rows k__law_bent_rows b__law_bent_rows pass0 (pv 1) (qda_cons (qd_pur (qdv 4) is_v) qda_nil)))) qss_nil)))
      (qss_cons (qs_pur (qs_set (i := 6) sc_law.nd rfl (Or.inl rfl) (qd_mk (pe_bm PySem.F.plainAttrs_str PySem.F.slot_str_join PySem.F.type_str_join mt_join qd_str (qda_cons (qd_lc (own := [("_law_row", 15)]) rfl sc_law.nd (qdi_val (qdv 4)) (blkOk_by (own := [("_law_row", 15)]) (N := ["_law_script", "_law_deck_here", "_law_turn", "_law_values", "_law_rows", "_law_k", "_law_text", "_law_at", "_law_sign", "_law_some", "_law_value", "_law_many", "_law_wide", "_law_pairs", "_law_fact", "_law_row"]) (sc := (defScope sLaw)) (by decide +kernel)) (by decide) (fun _ _ _ _ _ => (qdg_name (i := 15) sc_law.nd rfl (Or.inl rfl))) (fun _ _ _ _ _ => qts_nil) (fun _ _ _ _ _ => (qd_op op_addU pu_add (qd_mk (pe_bm PySem.F.plainAttrs_str PySem.F.slot_str_join PySem.F.type_str_join mt_join qd_str (qda_cons (qdv 15) qda_nil)) (rd_meth pu_join)) qd_str))) qda_nil)) (rd_meth pu_join))) (is_set (is_meth is_c (is_co (is_lc (is_afV is_v) is_tfYes (is_op (is_meth is_c (is_co is_v is_n)) is_c)) is_n))))
      (qss_cons (qs_par2 (i := 7) (j := 8) rfl sc_law.nd rfl rfl (by decide) rfl rfl (qda_cons (qd_callW G__law_draw (hr.mono (by decide)) rfl m__law_draw k__law_draw b__law_draw pass0 (pv 1) (qda_cons (qd_pur (qd_op op_addU pu_add (qd_callB cr_lenU pu_len (by rfl) z_len PySem.boot_len (qda_cons (qdv 6) qda_nil)) qd_int) (is_op (is_call (is_co is_v is_n)) is_c)) qda_nil)) (qda_cons (qd_callW G__law_one (hr.mono (by decide)) rfl m__law_one k__law_one b__law_one pass0 (pv 1) (qda_cons (qd_pur (qdk_lst (qdk_cons qd_str (qdk_cons qd_str (qdk_cons qd_str (qdk_cons qd_str (qdk_cons qd_str (qdk_cons qd_str (qdk_cons qd_str (qdk_cons qd_str qdk_nil))))))))) is_c) qda_nil)) qda_nil)) rfl)
      (qss_cons (qs_pur (qs_set (i := 9) sc_law.nd rfl (Or.inl rfl) (qd_lst (qda_cons (qdv 6) (qda_cons (qd_sl sl_U pu_sl (qdv 6) qdo_none (qdo_some (qdv 7))) (qda_cons (qd_sl sl_U pu_sl (qdv 6) (qdo_some (qdv 7)) qdo_none) (qda_cons (qd_sl sl_U pu_sl (qdv 6) qdo_none (qdo_some (qd_neg qd_int))) (qda_cons (qd_op op_addU pu_add (qdv 6) qd_str) (qda_cons (qd_op op_addU pu_add (qdv 6) qd_str) (qda_cons qd_str (qda_cons qd_str (qda_cons (qd_op op_addU pu_add (qd_op op_addU pu_add (qd_sl sl_U pu_sl (qdv 6) qdo_none (qdo_some (qdv 7))) (qdv 8)) (qd_sl sl_U pu_sl (qdv 6) (qdo_some (qdv 7)) qdo_none)) qda_nil))))))))))) (is_set (is_lst (is_co is_v (is_co (is_sl is_v is_ofN (is_ofS is_v)) (is_co (is_sl is_v (is_ofS is_v) is_ofN) (is_co (is_sl is_v is_ofN (is_ofS (is_neg is_c))) (is_co (is_op is_v is_c) (is_co (is_op is_v is_c) (is_co is_c (is_co is_c (is_co (is_op (is_op (is_sl is_v is_ofN (is_ofS is_v)) is_v) (is_sl is_v (is_ofS is_v) is_ofN)) is_n))))))))))))
      (qss_one (qs_pur (qs_for PassesOwn.never rfl (qdi_val (qdv 9)) (qdg_name (i := 10) sc_law.nd rfl (Or.inl rfl)) (qss_one (qs_if (qdt_cmp (op_neU hu) pu_ne (qd_repr hgu hu (by rfl) z_repr (qd_call G__law_read (hr.mono (by decide)) rfl m__law_read k__law_read b__law_read pass0 (qda_cons (qdv 10) qda_nil))) (qd_repr hgu hu (by rfl) z_repr (qd_call G__law_due (hr.mono (by decide)) rfl m__law_due k__law_due b__law_due pass0 (qda_cons (qdv 10) qda_nil))) (nomark _)) (qss_one (qs_ret qd_bl)) qss_nil))) (is_for (is_afV is_v) (is_ifS (is_tfE (is_op (is_repr (is_call (is_co is_v is_n))) (is_repr (is_call (is_co is_v is_n))))) (is_ret is_c) is_nil)))))))))))
      (qss_cons (qs_pur (qs_set (i := 11) sc_law.nd rfl (Or.inr rfl) (qd_lc (own := [("_law_k", 5)]) rfl sc_law.nd (qdi_range (by rfl) z_range (qda_cons qd_int qda_nil)) (blkOk_by (own := [("_law_k", 5)]) (N := ["_law_script", "_law_deck_here", "_law_turn", "_law_values", "_law_rows", "_law_k", "_law_text", "_law_at", "_law_sign", "_law_some", "_law_value", "_law_many", "_law_wide", "_law_pairs", "_law_fact", "_law_row"]) (sc := (defScope sLaw)) (by decide +kernel)) (by decide) (fun _ _ _ _ _ => (qdg_name (i := 5) sc_law.nd rfl (Or.inl rfl))) (fun _ _ _ _ _ => qts_nil) (fun _ _ _ _ _ => (qd_op op_addU pu_add (qd_op op_addU pu_add (qd_op op_addU pu_add (qd_op op_addU pu_add qd_str (qd_op op_mulX' pu_mulX qd_str (qd_op op_addU pu_add qd_int (qd_op op_fdiv pu_fdiv (qdv 5) qd_int)))) qd_str) (qd_ix ix_seq pu_ix qd_str (qd_op op_mod pu_mod (qdv 5) qd_int))) qd_str)))) (is_set (is_lc (is_afR (is_co is_c is_n)) is_tfYes (is_op (is_op (is_op (is_op is_c (is_op is_c (is_op is_c (is_op is_v is_c)))) is_c) (is_op is_c (is_op is_v is_c))) is_c))))
      (qss_cons (qs_pur (qs_set (i := 12) sc_law.nd rfl (Or.inr rfl) (qd_lc (own := [("_law_k", 5)]) rfl sc_law.nd (qdi_range (by rfl) z_range (qda_cons qd_int qda_nil)) (blkOk_by (own := [("_law_k", 5)]) (N := ["_law_script", "_law_deck_here", "_law_turn", "_law_values", "_law_rows", "_law_k", "_law_text", "_law_at", "_law_sign", "_law_some", "_law_value", "_law_many", "_law_wide", "_law_pairs", "_law_fact", "_law_row"]) (sc := (defScope sLaw)) (by decide +kernel)) (by decide) (fun _ _ _ _ _ => (qdg_name (i := 5) sc_law.nd rfl (Or.inl rfl))) (fun _ _ _ _ _ => qts_nil) (fun _ _ _ _ _ => (qd_op op_addU pu_add (qd_op op_addU pu_add qd_str (qd_callTy call_str_int pu_strI (by rfl) z_str boot_str (qda_cons (qd_op op_addU pu_add (qdv 5) qd_int) qda_nil))) qd_str)))) (is_set (is_lc (is_afR (is_co is_c is_n)) is_tfYes (is_op (is_op is_c (is_call (is_co (is_op is_v is_c) is_n))) is_c))))
      (qss_cons (qs_set (i := 7) sc_law.nd rfl (Or.inl rfl) (qd_op op_addU pu_add (qd_pur qd_int is_c) (qd_callW G__law_draw (hr.mono (by decide)) rfl m__law_draw k__law_draw b__law_draw pass0 (pv 1) (qda_cons (qd_pur qd_int is_c) qda_nil))))
      (qss_cons (qs_pur (qs_set (i := 9) sc_law.nd rfl (Or.inl rfl) (qd_op op_addU pu_add (qd_lc (own := [("_law_k", 5)]) rfl sc_law.nd (qdi_val (qdk_lst (qdk_cons qd_int (qdk_cons qd_int (qdk_cons qd_int (qdk_cons qd_int qdk_nil)))))) (blkOk_by (own := [("_law_k", 5)]) (N := ["_law_script", "_law_deck_here", "_law_turn", "_law_values", "_law_rows", "_law_k", "_law_text", "_law_at", "_law_sign", "_law_some", "_law_value", "_law_many", "_law_wide", "_law_pairs", "_law_fact", "_law_row"]) (sc := (defScope sLaw)) (by decide +kernel)) (by decide) (fun _ _ _ _ _ => (qdg_name (i := 5) sc_law.nd rfl (Or.inl rfl))) (fun _ _ _ _ _ => qts_nil) (fun _ _ _ _ _ => (qd_mk (pe_bm PySem.F.plainAttrs_str PySem.F.slot_str_join PySem.F.type_str_join mt_join qd_str (qda_cons (qd_sl sl_U pu_sl (qdv 11) qdo_none (qdo_some (qdv 5))) qda_nil)) (rd_meth pu_join)))) (qd_lst (qda_cons (qd_op op_addU pu_add (qd_op op_addU pu_add (qd_mk (pe_bm PySem.F.plainAttrs_str PySem.F.slot_str_join PySem.F.type_str_join mt_join qd_str (qda_cons (qd_sl sl_U pu_sl (qdv 11) qdo_none (qdo_some (qdv 7))) qda_nil)) (rd_meth pu_join)) qd_str) (qd_mk (pe_bm PySem.F.plainAttrs_str PySem.F.slot_str_join PySem.F.type_str_join mt_join qd_str (qda_cons (qd_sl sl_U pu_sl (qdv 11) (qdo_some (qdv 7)) qdo_none) qda_nil)) (rd_meth pu_join))) qda_nil)))) (is_set (is_op (is_lc (is_afV is_c) is_tfYes (is_meth is_c (is_co (is_sl is_v is_ofN (is_ofS is_v)) is_n))) (is_lst (is_co (is_op (is_op (is_meth is_c (is_co (is_sl is_v is_ofN (is_ofS is_v)) is_n)) is_c) (is_meth is_c (is_co (is_sl is_v (is_ofS is_v) is_ofN) is_n))) is_n)))))
      (qss_cons (qs_pur (qs_set (i := 9) sc_law.nd rfl (Or.inl rfl) (qd_op op_addU pu_add (qdv 9) (qd_lc (own := [("_law_k", 5)]) rfl sc_law.nd (qdi_val (qdk_lst (qdk_cons qd_int (qdk_cons qd_int (qdk_cons qd_int (qdk_cons qd_int qdk_nil)))))) (blkOk_by (own := [("_law_k", 5)]) (N := ["_law_script", "_law_deck_here", "_law_turn", "_law_values", "_law_rows", "_law_k", "_law_text", "_law_at", "_law_sign", "_law_some", "_law_value", "_law_many", "_law_wide", "_law_pairs", "_law_fact", "_law_row"]) (sc := (defScope sLaw)) (by decide +kernel)) (by decide) (fun _ _ _ _ _ => (qdg_name (i := 5) sc_law.nd rfl (Or.inl rfl))) (fun _ _ _ _ _ => qts_nil) (fun _ _ _ _ _ => (qd_mk (pe_bm PySem.F.plainAttrs_str PySem.F.slot_str_join PySem.F.type_str_join mt_join qd_str (qda_cons (qd_sl sl_U pu_sl (qdv 12) qdo_none (qdo_some (qdv 5))) qda_nil)) (rd_meth pu_join)))))) (is_set (is_op is_v (is_lc (is_afV is_c) is_tfYes (is_meth is_c (is_co (is_sl is_v is_ofN (is_ofS is_v)) is_n))))))
      (qss_cons (qs_pur (qs_set (i := 13) sc_law.nd rfl (Or.inr rfl) (qdk_lst (qdk_cons qd_str (qdk_cons qd_str (qdk_cons qd_str (qdk_cons qd_str qdk_nil)))))) (is_set is_c))
      (qss_cons (qs_pur (qs_set (i := 9) sc_law.nd rfl (Or.inl rfl) (qd_op op_addU pu_add (qd_op op_addU pu_add (qdv 9) (qd_lc (own := [("_law_k", 5)]) rfl sc_law.nd (qdi_val (qd_lst (qda_cons qd_int (qda_cons qd_int (qda_cons qd_int qda_nil))))) (blkOk_by (own := [("_law_k", 5)]) (N := ["_law_script", "_law_deck_here", "_law_turn", "_law_values", "_law_rows", "_law_k", "_law_text", "_law_at", "_law_sign", "_law_some", "_law_value", "_law_many", "_law_wide", "_law_pairs", "_law_fact", "_law_row"]) (sc := (defScope sLaw)) (by decide +kernel)) (by decide) (fun _ _ _ _ _ => (qdg_name (i := 5) sc_law.nd rfl (Or.inl rfl))) (fun _ _ _ _ _ => qts_nil) (fun _ _ _ _ _ => (qd_mk (pe_bm PySem.F.plainAttrs_str PySem.F.slot_str_join PySem.F.type_str_join mt_join qd_str (qda_cons (qd_sl sl_U pu_sl (qdv 13) qdo_none (qdo_some (qdv 5))) qda_nil)) (rd_meth pu_join))))) (qd_lst (qda_cons (qd_op op_addU pu_add (qd_op op_addU pu_add (qd_ix ix_seq pu_ix (qdv 13) qd_int) (qd_ix ix_seq pu_ix (qdv 13) qd_int)) (qd_ix ix_seq pu_ix (qdv 13) qd_int)) qda_nil)))) (is_set (is_op (is_op is_v (is_lc (is_afV (is_lst (is_co is_c (is_co is_c (is_co is_c is_n))))) is_tfYes (is_meth is_c (is_co (is_sl is_v is_ofN (is_ofS is_v)) is_n)))) (is_lst (is_co (is_op (is_op (is_op is_v is_c) (is_op is_v is_c)) (is_op is_v is_c)) is_n)))))
      (qss_one (qs_pur (qs_ret (qd_cmp (op_eqU hu) pu_eq (qd_repr hgu hu (by rfl) z_repr (qd_lc (own := [("_law_value", 10)]) rfl sc_law.nd (qdi_val (qdv 9)) (blkOk_by (own := [("_law_value", 10)]) (N := ["_law_script", "_law_deck_here", "_law_turn", "_law_values", "_law_rows", "_law_k", "_law_text", "_law_at", "_law_sign", "_law_some", "_law_value", "_law_many", "_law_wide", "_law_pairs", "_law_fact", "_law_row"]) (sc := (defScope sLaw)) (by decide +kernel)) (by decide) (fun _ _ _ _ _ => (qdg_name (i := 10) sc_law.nd rfl (Or.inl rfl))) (fun _ _ _ _ _ => qts_nil) (fun _ _ _ _ _ => (qd_call G__law_read (hr.mono (by decide)) rfl m__law_read k__law_read b__law_read pass0 (qda_cons (qdv 10) qda_nil))))) (qd_repr hgu hu (by rfl) z_repr (qd_lc (own := [("_law_value", 10)]) rfl sc_law.nd (qdi_val (qdv 9)) (blkOk_by (own := [("_law_value", 10)]) (N := ["_law_script", "_law_deck_here", "_law_turn", "_law_values", "_law_rows", "_law_k", "_law_text", "_law_at", "_law_sign", "_law_some", "_law_value", "_law_many", "_law_wide", "_law_pairs", "_law_fact", "_law_row"]) (sc := (defScope sLaw)) (by decide +kernel)) (by decide) (fun _ _ _ _ _ => (qdg_name (i := 10) sc_law.nd rfl (Or.inl rfl))) (fun _ _ _ _ _ => qts_nil) (fun _ _ _ _ _ => (qd_call G__law_due (hr.mono (by decide)) rfl m__law_due k__law_due b__law_due pass0 (qda_cons (qdv 10) qda_nil))))) (nomark _))) (is_ret (is_op (is_repr (is_lc (is_afV is_v) is_tfYes (is_call (is_co is_v is_n)))) (is_repr (is_lc (is_afV is_v) is_tfYes (is_call (is_co is_v is_n))))))))))))))))⟩) (by
    refine ⟨rangeD 10, afR_is rfl (by decide) (by decide), ?_⟩
    refine for_inv (rangeD 10) (fun i ρ n => ∃ (v2 v3 v4 v5 v6 v7 v8 v9 v10 v11 v12 v13 v14 v15 : Option Sv), ρ = fr none (some .dk) v2 v3 v4 v5 v6 v7 v8 v9 v10 v11 v12 v13 v14 v15 ∧ n ≤ 1000 * i) ?_ ?_ ⟨none, none, none, none, none, none, none, none, none, none, none, none, none, none, rfl, Nat.le_refl _⟩
    · rintro i x ρ n E' hx ⟨v2, v3, v4, v5, v6, v7, v8, v9, v10, v11, v12, v13, v14, v15, rfl, hn⟩ nx ct _ _
      obtain ⟨lx, rfl⟩ := range_at hx
      have i10 : i < 10 := lx
      refine ⟨_, rfl, ?_⟩
      refine wSetS ⟨rfl, .int 3, rfl, 3, rfl, by decide, by omega, fun xs lx nx' hxs => ?_⟩
      refine ⟨rfl, .int 3, rfl, 3, rfl, by decide, by omega, fun ys ly ny hys => ?_⟩
      refine ⟨.list ((xs ++ ys).map PyData.str), by rw [List.map_append]; exact addL (by rw [List.length_map, List.length_map]; omega), ?_⟩
      have hv : ∀ y ∈ xs ++ ys, ValOk y := fun y hy => (List.mem_append.mp hy).elim (fun h => .inl (wd_wrd (hxs y h))) fun h => .inr (eight_unk y (hys y h))
      have lv : (xs ++ ys).length = 6 := by rw [List.length_append]; omega
      have vne : xs ++ ys ≠ [] := fun e => by rw [e] at lv; exact absurd lv (by decide)
      refine wSetS ?_
      refine ⟨rfl, rfl, rfl, by omega, fun ks k2 k3 knd hk => ?_⟩
      have kne : ks ≠ [] := fun e => by rw [e] at k2; exact absurd k2 (by decide)
      refine ⟨_, rfl, .int 7, rfl, ks, xs ++ ys, 7, rfl, by decide, by omega, kne, by omega, hk, vne, by omega, fun L n1 lL hL asc hn1 => ?_⟩
      refine ⟨_, rfl, by rw [List.length_map]; show _ ≤ 1000000; omega, ?_⟩
      have g : ∀ f ∈ L, FactG f := fun f hf => good_fc hk hv (hL f hf)
      have hw : ∀ f ∈ L, ∀ x ∈ f, WOk x := fun f hf x hx => by
        have z := fact_val (g f hf) x hx
        exact ⟨by have := val_len z; omega, (val_sgn z).1⟩
      refine lcD_map (h := fun d => match d with | .tuple us => .list us | d => d) (fun x hx => ?_) ?_
      · obtain ⟨f, hf, rfl⟩ := List.mem_map.mp hx
        exact ⟨_, rfl, call_is (co1 rfl) rfl⟩
      rw [List.nil_append, show (L.map bT').map (fun d => match d with | .tuple us => .list us | d => d) = L.map rowD from by rw [List.map_map]; rfl]
      refine ⟨.int 1, rfl, ?_⟩
      refine callW1 rfl rfl (draw_nat (by decide) (by decide) (by omega) fun c hc => ?_)
      refine ⟨.int ((c + 1 : Nat) : Int), one_add c, _, rfl, by omega, by omega, ?_⟩
      refine for_inv (rangeD ((c + 1 : Nat) : Int)) (fun j ρ n' => ∃ (rs : List (List Str)) (v5 : Option Sv), ρ = fr none (some .dk) (some (.d (.int (i : Int)))) (some (.d (.list ((xs ++ ys).map PyData.str)))) (some (.d (rowsD rs))) v5 v6 v7 v8 v9 v10 v11 v12 v13 v14 v15 ∧ Rws (7 + j) (5 + j) rs ∧ n' ≤ 1000 * i + 200 + 10 * j) ?_ ?_ ⟨L, v5, rfl, ⟨lL, fun f hf => ⟨fact_sz (g f hf), hw f hf⟩⟩, by omega⟩
      · rintro j x ρ n' E2 hx ⟨rs, v5, rfl, H, hn'⟩ nx2 ct2 _ _
        have jc : j < c + 1 := by
          have z := (range_at hx).1
          omega
        refine ⟨_, rfl, ?_⟩
        refine ⟨!rs.isEmpty, tb_is (op_is rfl nil_lst (rows_no H)), ?_⟩
        cases rs with
        | nil =>
          refine (if_neg Bool.false_ne_true).mpr ?_
          exact nx2 _ _ ⟨[], _, rfl, H.mono (by omega) (by omega), by omega⟩
        | cons r rs =>
          refine (if_pos rfl).mpr ?_
          refine callW1 rfl rfl ⟨r :: rs, rfl, 7 + j, 5 + j, List.cons_ne_nil _ _, H, by omega, by omega, by omega, by omega, fun rs' n2 H' hn2 => ?_⟩
          exact nx2 _ _ ⟨rs', _, rfl, H'.mono (by omega) (by omega), by omega⟩
      · rintro ρ n2 ⟨rs, v5, rfl, H, hn2⟩
        have lr : (rangeD ((c + 1 : Nat) : Int)).length = c + 1 := by
          unfold rangeD
          rw [List.length_map, List.length_range, Int.toNat_natCast]
        rw [lr] at H hn2
        have H9 : Rws 9 7 rs := H.mono (by omega) (by omega)
        obtain ⟨lt, ht⟩ := text_ok H9
        have tx := fun v5 v6 v7 v8 v9 v10 v11 v12 v13 v14 v15 => text_is (v0 := none) (v1 := some .dk) (v2 := some (.d (.int (i : Int)))) (v3 := some (.d (.list ((xs ++ ys).map PyData.str)))) (v5 := v5) (v6 := v6) (v7 := v7) (v8 := v8) (v9 := v9) (v10 := v10) (v11 := v11) (v12 := v12) (v13 := v13) (v14 := v14) (v15 := v15) H9
        dsimp only
        refine wSeqP (ρ' := fr none (some .dk) (some (.d (.int (i : Int)))) (some (.d (.list ((xs ++ ys).map PyData.str)))) (some (.d (rowsD rs))) v5 (some (.d (.str (mkS (textC rs))))) v7 v8 v9 v10 v11 v12 v13 v14 v15) (set_is (tx _ _ _ _ _ _ _ _ _ _ _)) ?_
        refine callW1 rfl (x := .int (((textC rs).length + 1 : Nat) : Int)) (op_is (call_is (co1 rfl) (lenD_str' (t := textC rs) (by omega))) rfl rfl) (draw_nat (by omega) (by omega) (by omega) fun a ha => ?_)
        refine callW1 rfl rfl (one_lst (by simp) (by decide) (by omega) fun y hy => ?_)
        obtain ⟨s, rfl, hs⟩ : ∃ s, y = PyData.str s ∧ WOk s := sgn29 y hy
        refine ⟨_, _, rfl, ?_⟩
        dsimp only
        refine wSeqP (ρ' := fr none (some .dk) (some (.d (.int (i : Int)))) (some (.d (.list ((xs ++ ys).map PyData.str)))) (some (.d (rowsD rs))) v5 (some (.d (.str (mkS (textC rs))))) (some (.d (.int (a : Int)))) (some (.d (.str s))) (some (.d (.list ((some9 (textC rs) a s).map lineP)))) v10 v11 v12 v13 v14 v15) (set_is (some_is (by omega) hs.1)) ?_
        obtain ⟨u10, ea⟩ := ask_all (v0 := none) (v1 := some .dk) (v2 := some (.d (.int (i : Int)))) (v3 := some (.d (.list ((xs ++ ys).map PyData.str)))) (v4 := some (.d (rowsD rs))) (v5 := v5) (v6 := some (.d (.str (mkS (textC rs))))) (v7 := some (.d (.int (a : Int)))) (v8 := some (.d (.str s))) (v9 := some (.d (.list ((some9 (textC rs) a s).map lineP)))) (v11 := v11) (v12 := v12) (v13 := v13) (v14 := v14) (v15 := v15) (some9 (textC rs) a s) v10 (some9_ok (by omega) ht hs)
        refine ⟨_, for_is rfl ea, ?_⟩
        exact nx _ _ ⟨_, _, _, _, _, _, _, _, _, _, _, _, _, _, rfl, by omega⟩
    · rintro ρ n ⟨v2, v3, v4, v5, v6, v7, v8, v9, v10, v11, v12, v13, v14, v15, rfl, hn⟩
      have l10 : (rangeD 10).length = 10 := by decide +kernel
      rw [l10] at hn
      dsimp only
      refine wSeqP (ρ' := fr none (some .dk) v2 v3 v4 v5 v6 v7 v8 v9 v10 (some (.d manyV)) v12 v13 v14 v15) (set_is many_is) ?_
      refine wSeqP (ρ' := fr none (some .dk) v2 v3 v4 v5 v6 v7 v8 v9 v10 (some (.d manyV)) (some (.d wideV)) v13 v14 v15) (set_is wide_is) ?_
      refine wSetS ⟨.int 28, rfl, callW1 rfl rfl (draw_nat (by decide) (by decide) (by omega) fun a ha => ⟨.int ((28 + a : Nat) : Int), rfl, ?_⟩)⟩
      have la : a < 4 := by omega
      dsimp only
      refine wSeqP (ρ' := fr none (some .dk) v2 v3 v4 v5 v6 (some (.d (.int ((28 + a : Nat) : Int)))) v8 (some (.d (s3V (28 + a)))) v10 (some (.d manyV)) (some (.d wideV)) v13 v14 v15) (set_is (s3_is la)) ?_
      refine wSeqP (ρ' := fr none (some .dk) v2 v3 v4 v5 v6 (some (.d (.int ((28 + a : Nat) : Int)))) v8 (some (.d (s4V (28 + a)))) v10 (some (.d manyV)) (some (.d wideV)) v13 v14 v15) (set_is (s4_is la)) ?_
      refine wSeqP (ρ' := fr none (some .dk) v2 v3 v4 v5 v6 (some (.d (.int ((28 + a : Nat) : Int)))) v8 (some (.d (s4V (28 + a)))) v10 (some (.d manyV)) (some (.d wideV)) (some (.d s5V)) v14 v15) (set_is s5_is) ?_
      refine wSeqP (ρ' := fr none (some .dk) v2 v3 v4 v5 v6 (some (.d (.int ((28 + a : Nat) : Int)))) v8 (some (.d (s6V (28 + a)))) v10 (some (.d manyV)) (some (.d wideV)) (some (.d s5V)) v14 v15) (set_is (s6_is la)) ?_
      exact wRetP (ret_is (end_is la)) rfl
    )
end
end My
namespace My
open PySem PySem.Spec PyProof.Rows L2
section
variable {P : Program} {w : World} {K : PySem.W.Frag} {mg : Str → Option Value} {base : Heap}
theorem scDeck : FnScope ["_law_script"] ["_law_script"] (defScope sDeck) := ⟨rfl, rfl, rfl, by decide +kernel, rfl, by decide +kernel, by decide +kernel⟩
theorem ok_deck {f : Addr} {fd : FuncData} (F : Fun K "_law_deck" "_law_deck" sDeck f fd) (B : Blt mg) : FnOk P w K mg base CX0 1 f fd ["_law_script"] (spDeck K) := by
  refine F.ok scDeck (fun vs H Q E h => ?_) (fun cdv A outer s H vs Q E hr h => ?_)
  · obtain ⟨a, ns, rfl, _⟩ := h
    rfl
  · obtain ⟨a, ns, rfl, hS, hn, q⟩ := h
    refine ⟨_, pss_one (ps_ret (pe_lst (pa_cons (pe_callTy call_list_of (by rfl) B.list boot_list (pa_cons (pe_slice sl_list (pv 0) po_none (po_some pe_int)) pa_nil)) (pa_cons pe_int (pa_cons pe_int (pa_cons pe_int pa_nil)))))), ?_⟩
    refine ⟨_, rfl, 63, rfl, a, _, rfl, hS, fun p np => ⟨p, _, rfl, .inl (.inl (.inl upd_same)), fun l nl => ⟨(by show 4 ≤ sizeLine; decide), fun d nd => ?_⟩⟩⟩
    have ec : cutV (ns.map V.int) none (some 63) = ((ns.drop (HT.sIx (ns.map V.int).length 0 none)).take (HT.sIx (ns.map V.int).length (ns.map V.int).length (some 63) - HT.sIx (ns.map V.int).length 0 none)).map V.int := by
      unfold cutV
      rw [List.map_take, List.map_drop]
    have sm := ((same_new np).trans (same_new nl)).trans (same_new (o := .lst [.ref l, .int 0, .int 0, .int 0]) nd)
    refine q d l ((ns.drop (HT.sIx (ns.map V.int).length 0 none)).take (HT.sIx (ns.map V.int).length (ns.map V.int).length (some 63) - HT.sIx (ns.map V.int).length 0 none)) _ ⟨⟨0, 0, 0, upd_same, by omega, by omega⟩, (same_new nd) l _ (by rw [← ec]; exact upd_same)⟩ (((same_new np).trans (same_new nl)).free nd) ((same_new np).free nl) (by rw [List.length_take, List.length_drop]; omega) sm
theorem scDraw : FnScope ["_law_deck_here", "_law_many", "_law_found", "_law_cell", "_law_mixed"] ["_law_deck_here", "_law_many"] (defScope sDraw) := ⟨rfl, rfl, rfl, by decide +kernel, rfl, by decide +kernel, by decide +kernel⟩
theorem ok_draw {f : Addr} {fd : FuncData} (F : Fun K "_law_draw" "_law_draw" sDraw f fd) (B : Blt mg) : FnOk P w K mg base CX0 1 f fd ["_law_deck_here", "_law_many"] spDraw := by
  refine F.ok scDraw (fun vs H Q E h => ?_) (fun cdv A outer s H vs Q E hr h => ?_)
  · obtain ⟨d, l, ns, k, m, rfl, _⟩ := h
    rfl
  · obtain ⟨d, l, ns, k, m, rfl, hm, hm2, D, hlen, hk, q⟩ := h
    have hu := hr.units
    refine ⟨_, pss_cons (ps_asg (pe_op op_add (pe_ix ix_list (pv 0) pe_int (fun _ _ => rfl)) pe_int) (pg_sub (pv 0) pe_int set_list))
      (pss_cons (ps_if (pt_cmpR op_gt (pe_ix ix_list (pv 0) pe_int (fun _ _ => rfl)) pe_int (nomark _))
        (pss_cons (ps_set (i := 2) scDraw.nd rfl (Or.inl rfl) (pe_op op_mod (pe_callTy call_int1 (by rfl) B.int boot_int (pa_cons (pe_ix ix_list (pv 0) pe_int (fun _ _ => rfl)) pa_nil)) (pv 1)))
          (pss_cons (ps_asg (pe_op op_fdiv (pe_ix ix_list (pv 0) pe_int (fun _ _ => rfl)) (pv 1)) (pg_sub (pv 0) pe_int set_list))
            (pss_one (ps_ret (pv 2)))))
        pss_nil)
      (pss_cons (ps_set (i := 3) scDraw.nd rfl (Or.inl rfl) pe_int)
      (C8.pss_cut (ps_if (pt_cmpR (op_neD hu) (pe_ix ix_list (pv 0) pe_int (fun _ _ => rfl)) (pe_lst pa_nil) (nomark _))
        (pss_one (ps_set (i := 3) scDraw.nd rfl (Or.inl rfl) (pe_ix ix_list (pe_ix ix_list (pv 0) pe_int (fun _ _ => rfl)) (pe_op op_mod (pe_callTy call_int1 (by rfl) B.int boot_int (pa_cons (pe_ix ix_list (pv 0) pe_int (fun _ _ => rfl)) pa_nil)) (pe_callB call_len_seq (by rfl) B.len PySem.boot_len (pa_cons (pe_ix ix_list (pv 0) pe_int (fun _ _ => rfl)) pa_nil))) (fun _ _ => rfl))))
        pss_nil)
      (pss_cons (ps_asg (pe_op op_add (pe_ix ix_list (pv 0) pe_int (fun _ _ => rfl)) pe_int) (pg_sub (pv 0) pe_int set_list))
      (C8.pss_cut (ps_if (PW.pt (pw_and (pt_cmpR op_ge (pe_callB call_abs (by rfl) B.abs (by decide +kernel) (pa_cons (pv 3) pa_nil)) (pe_op op_pow pe_int pe_int) (nomark _)) (pw_and1 (pt_cmpR op_le (pe_ix ix_list (pv 0) pe_int (fun _ _ => rfl)) (pe_callB call_len_seq (by rfl) B.len PySem.boot_len (pa_cons (pe_ix ix_list (pv 0) pe_int (fun _ _ => rfl)) pa_nil)) (nomark _)))))
        (pss_cons (ps_asg (pe_op op_fdiv (pe_callB call_abs (by rfl) B.abs (by decide +kernel) (pa_cons (pv 3) pa_nil)) (pv 1)) (pg_sub (pv 0) pe_int set_list))
          (pss_one (ps_ret (pe_op op_mod (pe_callTy call_int1 (by rfl) B.int boot_int (pa_cons (pe_callB call_abs (by rfl) B.abs (by decide +kernel) (pa_cons (pv 3) pa_nil)) pa_nil)) (pv 1)))))
        pss_nil)
      (pss_cons (ps_set (i := 4) scDraw.nd rfl (Or.inl rfl) (pe_op op_mod (pe_op op_pow (pe_callTy call_int1 (by rfl) B.int boot_int (pa_cons (pe_op op_add (pe_op op_mod (pe_callTy call_int1 (by rfl) B.int boot_int (pa_cons (pv 3) pa_nil)) pe_int) (pe_op op_mul pe_int (pe_ix ix_list (pv 0) pe_int (fun _ _ => rfl)))) pa_nil)) pe_int) pe_int))
      (pss_cons (ps_set (i := 4) scDraw.nd rfl (Or.inl rfl) (pe_op op_mod (pe_op op_pow (pe_callTy call_int1 (by rfl) B.int boot_int (pa_cons (pe_op op_add (pe_op op_mul (pv 4) (pe_op op_add (pe_op op_mul pe_int (pe_ix ix_list (pv 0) pe_int (fun _ _ => rfl))) pe_int)) pe_int) pa_nil)) pe_int) pe_int))
      (pss_one (ps_ret (pe_op op_mod (pe_op op_fdiv (pv 4) pe_int) (pv 1))))))))))), ?_⟩
    obtain ⟨i, r, n, hd, hn0, hnk⟩ := D.ex
    have hld : l ≠ d := D.ne
    have hl : H l = some (.lst (ns.map V.int)) := D.cells
    refine ⟨_, rfl, d, _, _, _, rfl, rfl, .inl (.inl hd), rfl, n, 1, rfl, rfl, _, rfl, d, _, _, 3, rfl, rfl, hd, rfl, ?_⟩
    refine ⟨_, rfl, d, _, _, _, rfl, rfl, .inl (.inl upd_same), rfl, r, 0, rfl, rfl, _, rfl, ite2 (fun _ => ?_) fun _ => ?_⟩
    · refine ⟨_, rfl, d, _, _, _, rfl, rfl, .inl (.inl upd_same), rfl, .inl ⟨r, rfl, _, rfl, r, m, rfl, rfl, hm, ?_⟩⟩
      refine ⟨_, rfl, d, _, _, _, rfl, rfl, .inl (.inl upd_same), rfl, _, rfl, r, m, rfl, rfl, ⟨hm, hm2⟩, _, rfl, d, _, _, 2, rfl, rfl, upd_same, rfl, _, rfl, ?_⟩
      exact q _ _ (Int.emod_nonneg _ (by omega)) (Int.emod_lt_of_pos _ hm) ⟨⟨i, r / m, n + 1, upd_same, by omega, by omega⟩, by rw [upd_ne hld, upd_ne hld]; exact hl⟩ (fr_upd.trans fr_upd)
    refine ⟨fun σ' H' => ∃ (c : Int) (G : Hp), σ' = [some (.ref d), some (.int m), none, some (.int c), none] ∧ H' = G ∧ Fr d H G ∧ G d = some (.lst [.ref l, .int i, .int r, .int (n + 1)]), ?_, ?_⟩
    · refine ⟨_, rfl, d, _, _, _, rfl, rfl, .inl (.inl upd_same), rfl, (by show 0 ≤ sizeLine; omega), fun p np => ?_⟩
      have npd : d ≠ p := ne_of_none upd_same np
      have hl1 : (upd H d (.lst [.ref l, .int i, .int r, .int (n + 1)])) l = some (.lst (ns.map V.int)) := by rw [upd_ne hld]; exact hl
      have npl : l ≠ p := ne_of_none hl1 np
      have hl2 := (same_new (o := HO.lst []) np) _ _ hl1
      have hd2 := (same_new (o := HO.lst []) np) _ _ (upd_same (H := H) (a := d) (o := .lst [.ref l, .int i, .int r, .int (n + 1)]))
      refine ⟨.list (ns.map PyData.int), .list [], .lst (.inl (.inl hl2)) (dps_ints ns), .lst (.inl (.inl upd_same)) .nil, ints_shaped ns, (by decide +kernel), _, rfl, ?_⟩
      have frA : Fr d H (upd (upd H d (.lst [.ref l, .int i, .int r, .int (n + 1)])) p (.lst [])) := fr_upd.trans (same_fr (same_new np))
      refine ite2 (fun hc => ?_) fun _ => ?_
      · have hpos : 0 < ns.length := by
          cases ns with
          | nil => exact absurd hc (by decide +kernel)
          | cons z zs => exact Nat.succ_pos _
        obtain ⟨j, ej, hj⟩ := place (i := i) hpos
        have hj' : (ns.map V.int)[j]? = some (V.int ns[j]) := by
          rw [List.getElem?_map, List.getElem?_eq_getElem hj] <;> rfl
        refine ⟨_, rfl, d, _, _, _, rfl, rfl, .inl (.inl hd2), rfl, _, rfl, d, _, _, _, rfl, rfl, .inl (.inl hd2), rfl, .inl ⟨i, rfl, ?_⟩⟩
        refine ⟨_, rfl, d, _, _, _, rfl, rfl, .inl (.inl hd2), rfl, l, _, rfl, .inl (.inl (.inl hl2)), i, _, rfl, rfl, ?_, l, _, _, _, rfl, rfl, .inl (.inl hl2), at_of (j := j) (v := V.int ns[j]) ?_ hj', ?_⟩
        · show (0 : Int) < ((ns.map V.int).length : Int)
          rw [List.length_map]
          omega
        · show i % ((ns.map V.int).length : Int) = _
          rw [List.length_map]
          exact ej
        · exact ⟨_, _, rfl, rfl, frA, hd2⟩
      · exact ⟨73, _, rfl, rfl, frA, hd2⟩
    rintro σ' H' ⟨c, G, rfl, rfl, fG, hG⟩
    have hlG : H' l = some (.lst (ns.map V.int)) := fG _ _ hld hl
    refine ⟨_, rfl, d, _, _, _, rfl, rfl, .inl (.inl hG), rfl, i, 1, rfl, rfl, _, rfl, d, _, _, 1, rfl, rfl, hG, rfl, ?_⟩
    have hl3 : (upd H' d (.lst [.ref l, .int (i + 1), .int r, .int (n + 1)])) l = some (.lst (ns.map V.int)) := by rw [upd_ne hld]; exact hlG
    have c0 : 0 ≤ c % 2147483579 := Int.emod_nonneg _ (by decide)
    have c1 : c % 2147483579 < 2147483579 := Int.emod_lt_of_pos _ (by decide)
    refine ⟨fun σ' G => σ' = [some (.ref d), some (.int m), none, some (.int c), none] ∧ G = upd H' d (.lst [.ref l, .int (i + 1), .int r, .int (n + 1)]), ?_, ?_⟩
    · refine ⟨_, rfl, c, rfl, 10, 18, rfl, rfl, ⟨by decide, by decide, by decide⟩, _, _, rfl, rfl, _, rfl, ite2 (fun _ => ?_) fun _ => iteF ⟨rfl, rfl⟩⟩
      refine ⟨_, rfl, d, _, _, _, rfl, rfl, .inl (.inl upd_same), rfl, _, rfl, d, _, _, _, rfl, rfl, .inl (.inl upd_same), rfl, l, _, rfl, .inl (.inl (.inl hl3)), _, _, rfl, rfl, _, rfl, ite2 (fun _ => ?_) fun _ => ⟨rfl, rfl⟩⟩
      refine ⟨_, rfl, c, rfl, _, rfl, _, m, rfl, rfl, ⟨hm, hm2⟩, _, rfl, d, _, _, 2, rfl, rfl, upd_same, rfl, ?_⟩
      refine ⟨_, rfl, c, rfl, .inl ⟨_, rfl, _, rfl, _, m, rfl, rfl, hm, ?_⟩⟩
      exact q _ _ (Int.emod_nonneg _ (by omega)) (Int.emod_lt_of_pos _ hm) ⟨⟨i + 1, _, n + 1, upd_same, by omega, by omega⟩, by rw [upd_ne hld, upd_ne hld]; exact hlG⟩ (fG.trans (fr_upd.trans fr_upd))
    rintro σ' G ⟨rfl, rfl⟩
    refine ⟨_, rfl, .inl ⟨c, rfl, c, 2147483579, rfl, rfl, (by show (0 : Int) < 2147483579; decide), ?_⟩⟩
    refine ⟨_, rfl, d, _, _, _, rfl, rfl, .inl (.inl upd_same), rfl, 73856093, n + 1, rfl, rfl, .inl ⟨by decide, by decide⟩, _, _, rfl, rfl, .inl ⟨_, rfl, _, 5, rfl, rfl, ⟨by decide, by decide, by omega⟩, _, 2147483629, rfl, rfl, (by show (0 : Int) < 2147483629; decide), ?_⟩⟩
    have m0 : 0 ≤ (c % 2147483579 + 73856093 * (n + 1)) ^ (5 : Int).toNat % 2147483629 := Int.emod_nonneg _ (by decide)
    have m1 : (c % 2147483579 + 73856093 * (n + 1)) ^ (5 : Int).toNat % 2147483629 < 2147483629 := Int.emod_lt_of_pos _ (by decide)
    have mx := mix_ok m0 m1 hn0 (by omega)
    refine ⟨_, rfl, _, rfl, d, _, _, _, rfl, rfl, .inl (.inl upd_same), rfl, 2, n + 1, rfl, rfl, .inl ⟨by decide, by decide⟩, _, 7, rfl, rfl, _, _, rfl, rfl, .inl mx.1, _, 6151, rfl, rfl, .inl ⟨_, rfl, _, 3, rfl, rfl, ⟨by decide, by decide, mx.2⟩, _, 2147483647, rfl, rfl, (by show (0 : Int) < 2147483647; decide), ?_⟩⟩
    refine ⟨_, rfl, _, 32, rfl, rfl, ⟨by decide, by decide⟩, _, rfl, _, m, rfl, rfl, hm, ?_⟩
    exact q _ _ (Int.emod_nonneg _ (by omega)) (Int.emod_lt_of_pos _ hm) ⟨⟨i + 1, r, n + 1, upd_same, by omega, by omega⟩, hl3⟩ (fG.trans fr_upd)
theorem scOne : FnScope ["_law_deck_here", "_law_items"] ["_law_deck_here", "_law_items"] (defScope sOne) := ⟨rfl, rfl, rfl, by decide +kernel, rfl, by decide +kernel, by decide +kernel⟩
theorem ok_one {f fD : Addr} {fd fdD : FuncData} (F : Fun K "_law_one" "_law_one" sOne f fd) (B : Blt mg) (GD : FnOk P w K mg base CX0 1 fD fdD ["_law_deck_here", "_law_many"] spDraw) (mD : mg "_law_draw" = some (.ref fD))
    (kD : PySem.W.keepIn K (.ref fD) = true) (bD : Binds K fdD ["_law_deck_here", "_law_many"] []) : FnOk P w K mg base CX0 2 f fd ["_law_deck_here", "_law_items"] (spOne K) := by
  refine F.ok scOne (fun vs H Q E h => ?_) (fun cdv A outer s H vs Q E hr h => ?_)
  · obtain ⟨d, l, ns, k, x, rfl, _⟩ := h
    rfl
  · obtain ⟨d, l, ns, k, x, rfl, D, hn, hk, h⟩ := h
    refine ⟨_, pss_one (ps_ret (pe_ix ix_seq (pv 1) (pe_call GD hr rfl mD kD bD .nil pass0 (pa_cons (pv 0) (pa_cons (pe_callB (CallR.or call_len_seq call_len_str) (by rfl) B.len PySem.boot_len (pa_cons (pv 1) pa_nil)) pa_nil))) (fun _ _ => rfl))), ?_⟩
    rcases h with ⟨p, xs, rfl, npd, hS, hne, hlen, q⟩ | ⟨z, rfl, hz0, hz, q⟩
    · have hS' : SqL K H p xs ∨ SqT K H p xs := hS.imp (fun h => Same.seq off_le h) fun h => same_seqT off_le h
      have hpos : 0 < xs.length := List.length_pos_iff.mpr hne
      refine ⟨_, rfl, _, rfl, _, rfl, .inl ⟨p, xs, rfl, hS', d, l, ns, k, _, rfl, ?_, ?_, D, hn, hk, fun v H' h0 h1 D' fr => ?_⟩⟩
      · show (0 : Int) < (xs.length : Int)
        omega
      · show (xs.length : Int) < 1073741824
        omega
      · have hS2 : SqL K H' p xs ∨ SqT K H' p xs := hS.imp (fun h => Same.seq off_le (Same.seq (Fr.off fr) h)) fun h => same_seqT off_le (same_seqT (Fr.off fr) h)
        obtain ⟨j, rfl⟩ : ∃ j : Nat, v = (j : Int) := ⟨v.toNat, by omega⟩
        have hj : j < xs.length := by omega
        have hx : xs[j]? = some xs[j] := List.getElem?_eq_getElem hj
        rcases hS2 with hS2 | hS2
        · exact .inl ⟨p, xs, _, _, rfl, rfl, hS2, atI_nat hx, q j _ H' hx D' fr⟩
        · exact .inr (.inl ⟨p, xs, _, _, rfl, rfl, hS2, atI_nat hx, q j _ H' hx D' fr⟩)
    · have hs : z.length ≤ sizeLine := by rw [sizeLine_eq]; omega
      refine ⟨_, rfl, _, rfl, _, rfl, .inr ⟨z, rfl, hs, d, l, ns, k, _, rfl, ?_, ?_, D, hn, hk, fun v H' h0 h1 D' fr => ?_⟩⟩
      · show (0 : Int) < (z.length : Int)
        omega
      · show (z.length : Int) < 1073741824
        omega
      · obtain ⟨j, rfl⟩ : ∃ j : Nat, v = (j : Int) := ⟨v.toNat, by omega⟩
        have hj : j < z.cps.toList.length := by
          show j < z.cps.toList.length
          have : z.cps.toList.length = z.length := by simp [Str.length]
          omega
        have hx : z.cps.toList[j]? = some z.cps.toList[j] := List.getElem?_eq_getElem hj
        exact .inr (.inr ⟨z, _, _, rfl, rfl, hs, atI_nat hx, q _ H' (List.getElem_mem hj) D' fr⟩)
end
end My
namespace My
open PySem PySem.Spec PyProof.Rows L2
open TL (tl)
section
variable {P : Program} {w : World} {K : PySem.W.Frag} {mg : Str → Option Value} {base : Heap}
theorem scWord : FnScope ["_law_deck_here", "_law_size", "_law_k"] ["_law_deck_here"] (defScope sWord) := ⟨rfl, rfl, rfl, by decide +kernel, rfl, by decide +kernel, by decide +kernel⟩
theorem ok_word {f fO : Addr} {fd fdO : FuncData} (F : Fun K "_law_word" "_law_word" sWord f fd) (B : Blt mg) (GO : FnOk P w K mg base CX0 2 fO fdO ["_law_deck_here", "_law_items"] (spOne K)) (mO : mg "_law_one" = some (.ref fO))
    (kO : PySem.W.keepIn K (.ref fO) = true) (bO : Binds K fdO ["_law_deck_here", "_law_items"] []) : FnOk P w K mg base CX0 3 f fd ["_law_deck_here"] spWord := by
  refine F.ok scWord (fun vs H Q E h => ?_) (fun cdv A outer s H vs Q E hr h => ?_)
  · obtain ⟨d, l, ns, k, rfl, _⟩ := h
    rfl
  · obtain ⟨d, l, ns, k, rfl, D, hn, hk, q⟩ := h
    refine ⟨_, pss_cons (ps_set (i := 1) scWord.nd rfl (Or.inl rfl) (pe_call GO hr rfl mO kO bO .nil pass0 (pa_cons (pv 0) (pa_cons (pe_lst (pa_cons pe_int (pa_cons pe_int (pa_cons pe_int (pa_cons pe_int (pa_cons pe_int pa_nil)))))) pa_nil))))
      (pss_one (ps_ret (pe_join pe_str (pe_lc (own := [("_law_k", 2)]) (g := gName 2) (tt := tYes) rfl scWord.nd (pi_range1 rfl B.range (pa_cons (pv 1) pa_nil)) (blkOk_by (own := [("_law_k", 2)]) (N := ["_law_deck_here", "_law_size", "_law_k"]) (sc := defScope sWord) (by decide +kernel))
        (fun _ _ _ _ _ => pg_name (i := 2) scWord.nd rfl (Or.inl rfl)) (fun _ _ _ _ _ => pts_nil) (fun _ _ _ _ _ => pe_call GO (hr.mono (by decide)) rfl mO kO bO .nil pass0 (pa_cons (pv 0) (pa_cons pe_str pa_nil))))))), ?_⟩
    refine ⟨_, rfl, (by show 5 ≤ sizeLine; decide), fun p np => ?_⟩
    have pd : p ≠ d := (D.nd np).1
    have D1 : Deck (upd H p (.lst [.int 1, .int 1, .int 2, .int 3, .int 8])) d l ns k := D.same (same_new np)
    refine ⟨d, l, ns, k, .ref p, rfl, D1, hn, by omega, .inl ⟨p, _, rfl, pd, .inl (.inl (.inl (off_at pd upd_same))), List.cons_ne_nil _ _, by decide, fun j v H2 hj D2 f2 => ?_⟩⟩
    obtain ⟨n, rfl, n1, n8⟩ : ∃ n : Nat, v = .int (n : Int) ∧ 0 < n ∧ n ≤ 8 := by
      match j, hj with
      | 0, hj => exact ⟨1, (Option.some.inj hj).symm, by decide, by decide⟩
      | 1, hj => exact ⟨1, (Option.some.inj hj).symm, by decide, by decide⟩
      | 2, hj => exact ⟨2, (Option.some.inj hj).symm, by decide, by decide⟩
      | 3, hj => exact ⟨3, (Option.some.inj hj).symm, by decide, by decide⟩
      | 4, hj => exact ⟨8, (Option.some.inj hj).symm, by decide, by decide⟩
      | n + 5, hj => simp at hj
    have fr2 : Fr d H H2 := (same_fr (same_new np)).trans f2
    refine ⟨⟨_, rfl⟩, _, rfl, (n : Int), rfl, by omega, by omega, fun Dn nD => ?_⟩
    obtain ⟨Dd, Dl⟩ := D2.nd nD
    refine lc_range (lo := 0) (n := (n : Int).toNat) (fun t H3 => ∃ cs : List Nat, H3 Dn = some (.lst (cs.map fun c => V.str ⟨#[c]⟩)) ∧ cs.length = t ∧ (∀ c ∈ cs, c ∈ six) ∧ Deck H3 d l ns (k + 1 + t) ∧ Fr d H H3) ⟨[], upd_same, rfl, (fun c m => nomatch m), D2.same (same_new nD), fr2.trans (same_fr (same_new nD))⟩ ?_ ?_
    · rintro t H3 ht ⟨cs, h1, h2, h3, h4, h5⟩
      refine ⟨rfl, ?_⟩
      dsimp only [tYes]
      rw [if_pos rfl]
      refine ⟨_, rfl, d, l, ns, k + 1 + t, _, rfl, h4, hn, by omega, .inr ⟨_, rfl, by decide, by decide, fun c H4 hc D4 f4 => ?_⟩⟩
      refine ⟨cs.map fun c => V.str ⟨#[c]⟩, f4 _ _ Dd h1, by rw [List.length_map, sizeLine_eq]; omega, cs ++ [c], ?_, by rw [List.length_append, h2]; rfl, fun c' m => ?_, D4.upd Dd Dl, Fr.upd_new fr2 (h5.trans f4) nD Dd⟩
      · rw [upd_same, List.map_append]
        rfl
      · rcases List.mem_append.mp m with m | m
        · exact h3 c' m
        · rw [List.mem_singleton.mp m]
          revert hc
          exact fun z => z
    · rintro H3 ⟨cs, h1, h2, h3, h4, h5⟩
      have hn' : cs.length = n := by rw [h2]; rfl
      refine ⟨_, Dn, cs.map fun c => ⟨#[c]⟩, rfl, rfl, .inl (.inl (.inl (by rw [List.map_map]; exact h1))), ?_, ?_⟩
      · rw [ones_sum, List.length_map]
        show cs.length + cs.length * 0 ≤ 16777216
        omega
      · refine q _ _ ⟨?_, ?_, ?_⟩ (h4.mono (by omega)) h5
        · rw [tl_joined]
          omega
        · rw [tl_joined]
          omega
        · rw [tl_joined]
          exact h3
end
end My
namespace My
open PySem PySem.Spec PyProof.Rows L2
open TL (tl len_tl tl_append)
section
variable {P : Program} {w : World} {K : PySem.W.Frag} {mg : Str → Option Value} {base : Heap}
theorem scPool : FnScope ["_law_deck_here", "_law_many", "_law_found", "_law_word_here"] ["_law_deck_here", "_law_many"] (defScope sPool) := ⟨rfl, rfl, rfl, by decide +kernel, rfl, by decide +kernel, by decide +kernel⟩
theorem ok_pool {f fW : Addr} {fd fdW : FuncData} (F : Fun K "_law_pool" "_law_pool" sPool f fd) (B : Blt mg) (GW : FnOk P w K mg base CX0 3 fW fdW ["_law_deck_here"] spWord) (mW : mg "_law_word" = some (.ref fW))
    (kW : PySem.W.keepIn K (.ref fW) = true) (bW : Binds K fdW ["_law_deck_here"] []) : FnOk P w K mg base CX0 4 f fd ["_law_deck_here", "_law_many"] spPool := by
  refine F.ok scPool (fun vs H Q E h => ?_) (fun cdv A outer s H vs Q E hr h => ?_)
  · obtain ⟨d, l, ns, k, m, rfl, _⟩ := h
    rfl
  · obtain ⟨d, l, ns, k, m, rfl, hm, D, hn, hk, q⟩ := h
    refine ⟨_, pss_cons (ps_set (i := 2) scPool.nd rfl (Or.inl rfl) (pe_lst pa_nil))
      (pss_cons (ps_while PassesOwn.never (pt_cmpR op_lt (pe_callB call_len_seq (by rfl) B.len PySem.boot_len (pa_cons (pv 2) pa_nil)) (pv 1) (nomark _))
        (pss_cons (ps_set (i := 3) scPool.nd rfl (Or.inl rfl) (pe_call GW hr rfl mW kW bW .nil pass0 (pa_cons (pv 0) pa_nil)))
        (pss_cons (ps_while PassesOwn.never (pt_cmpR op_in_seq (pv 3) (pv 2) (by rfl))
          (pss_one (ps_set (i := 3) scPool.nd rfl (Or.inl rfl) (pe_ifExp (pt_cmpR op_eq (pe_callB call_len_str (by rfl) B.len PySem.boot_len (pa_cons (pv 3) pa_nil)) pe_int (nomark _))
            (pe_op op_add_str (pe_slice sl_str (pv 3) (po_some pe_int) po_none) pe_str) (pe_op op_add_str (pv 3) pe_str)))))
        (pss_one (ps_expr (pe_bm PySem.F.plainAttrs_list PySem.F.slot_list_append PySem.F.type_list_append mt_append (pv 2) (pa_cons (pv 3) pa_nil)))))))
      (pss_one (ps_ret (pv 2)))), ?_⟩
    refine ⟨by decide, fun p np => ?_⟩
    obtain ⟨pd, pl⟩ := D.nd np
    refine ⟨fun n σ H1 => ∃ (xs : List Str) (v3 : Option V), n = m - xs.length ∧ σ = [some (.ref d), some (.int (m : Int)), some (.ref p), v3] ∧ xs.length ≤ m ∧ xs.Nodup ∧ (∀ x ∈ xs, Wd x) ∧ H1 p = some (.lst (xs.map V.str)) ∧ Deck H1 d l ns (k + 9 * xs.length) ∧ Fr d H H1,
      ⟨m, [], none, rfl, rfl, Nat.zero_le _, List.nodup_nil, (fun x z => nomatch z), upd_same, D.same (same_new np), same_fr (same_new np)⟩, ?_⟩
    rintro n σ H1 ⟨xs, v3, rfl, rfl, hx, nd, wd, hp, D1, f1⟩
    refine ⟨_, rfl, p, _, rfl, .inl (.inl (.inl hp)), _, rfl, _, _, rfl, rfl, _, rfl, ite2 (fun c => ?_) fun c => ?_⟩
    · have c' : xs.length < m := by
        have z := of_decide_eq_true c
        rw [List.length_map] at z
        omega
      refine ⟨fun σ' H' => ∃ (x : Str) (v3 : Option V), σ' = [some (.ref d), some (.int (m : Int)), some (.ref p), v3] ∧ x ∉ xs ∧ Wd x ∧ H' p = some (.lst ((xs ++ [x]).map V.str)) ∧ Deck H' d l ns (k + 9 * (xs.length + 1)) ∧ Fr d H H', ?_, ?_⟩
      · rintro σ' H' ⟨x, v3, rfl, nx, wx, hp', D', f'⟩
        refine ⟨m - (xs.length + 1), by omega, xs ++ [x], v3, by rw [List.length_append]; rfl, rfl, by rw [List.length_append]; exact c', ?_, ?_, hp', by rw [List.length_append]; exact D', f'⟩
        · exact List.nodup_append.mpr ⟨nd, by simp, fun a ha b hb e => nx (by rw [← List.mem_singleton.mp hb, ← e]; exact ha)⟩
        · intro y hy
          rcases List.mem_append.mp hy with z | z
          · exact wd y z
          · rw [List.mem_singleton.mp z]
            exact wx
      · refine ⟨_, rfl, d, l, ns, k + 9 * xs.length, rfl, D1, hn, by omega, fun x0 H2 w0 D2 f2 => ?_⟩
        have hp2 : H2 p = some (.lst (xs.map V.str)) := f2 _ _ pd hp
        have q0 : tq x0 = 0 := tq_zero w0
        have ov0 : over 0 xs = xs.length := by
          unfold over
          rw [List.countP_eq_length]
          intro y _
          simp
        refine ⟨fun n σ' H' => ∃ (x : Str) (i : Nat), σ' = [some (.ref d), some (.int (m : Int)), some (.ref p), some (.str x)] ∧ H' = H2 ∧ Wd x ∧ tq x = i ∧ i + over i xs ≤ xs.length ∧ n = over i xs, ⟨over 0 xs, x0, 0, rfl, rfl, w0.wd, q0, by omega, rfl⟩, ?_⟩
        rintro n σ' H' ⟨x, i, rfl, rfl, wx, qx, hi, rfl⟩
        refine ⟨_, rfl, _, rfl, p, _, rfl, .inl (.inl (.inl hp2)), rfl, flat_strs xs, _, rfl, ite2 (fun c2 => ?_) fun c2 => ?_⟩
        · have mx : x ∈ xs := of_decide_eq_true ((inV_strs x xs).symm.trans c2)
          have lt := over_lt mx qx
          have small : x.length ≤ sizeLine := by
            have z := wx.few
            rw [← len_tl] at z
            rw [sizeLine_eq]
            omega
          have gap : i < (tl x).length ∨ (tl x).length < 8 := by
            have z := wx.few
            omega
          refine ⟨fun σ' G => ∃ y : Str, σ' = [some (.ref d), some (.int (m : Int)), some (.ref p), some (.str y)] ∧ G = H' ∧ Wd y ∧ tq y = i + 1, ?_, ?_⟩
          · rintro σ' G ⟨y, rfl, rfl, wy, qy⟩
            exact ⟨over (i + 1) xs, by omega, y, i + 1, rfl, rfl, wy, qy, by omega, rfl⟩
          · refine ⟨_, rfl, _, rfl, small, rfl, _, rfl, ite2 (fun c3 => ?_) fun c3 => ?_⟩
            · have l8 : (tl x).length = 8 := by
                have z := of_decide_eq_true c3
                have z2 := V.int.inj z
                rw [len_tl] at z2
                omega
              have ey : tl (cutS x (some 1) none ++ "q") = (tl x).drop 1 ++ [113] := by
                rw [tl_append, tl_cut1 (by omega)]
                rfl
              refine ⟨_, rfl, 1, rfl, x, rfl, small, _, _, rfl, rfl, ?_, ?_⟩
              · show (cutS x (some 1) none).length + 1 ≤ sizeLine
                rw [len_tl, tl_cut1 (by omega), List.length_drop, sizeLine_eq]
                omega
              · exact ⟨_, rfl, rfl, wd_cut wx ey, (tq_shift (x := x) ey (by omega)).trans (by rw [qx])⟩
            · have l8 : (tl x).length < 8 := by
                have z : ¬ (V.int (x.length : Nat) = V.int 8) := fun e => c3 (decide_eq_true e)
                have z3 := wx.few
                rw [← len_tl] at z3 ⊢
                rcases Nat.lt_or_eq_of_le z3 with h | h
                · exact h
                · exact absurd (by rw [h]; rfl) z
              refine ⟨_, rfl, _, _, rfl, rfl, ?_, ?_⟩
              · show x.length + 1 ≤ sizeLine
                rw [len_tl, sizeLine_eq]
                omega
              · exact ⟨_, rfl, rfl, wd_snoc wx l8 (tl_append x "q"), (tq_snoc (tl_append x "q")).trans (by rw [qx])⟩
        · have nx : x ∉ xs := fun m => c2 ((inV_strs x xs).trans (decide_eq_true m))
          refine ⟨_, rfl, ?_, _, rfl, p, _, _, rfl, rfl, hp2, ?_, ?_⟩
          · exact .inl ⟨rfl, _, .inl (.inl hp2)⟩
          · rw [List.length_map, sizeLine_eq]
            omega
          · refine ⟨x, _, rfl, nx, wx, ?_, D2.upd pd pl, Fr.upd_new (Fr.refl d H) (f1.trans f2) np pd⟩
            · rw [upd_same, List.map_append]
              rfl
    · have c' : xs.length = m := by
        have z : ¬ ((((xs.map V.str).length : Nat) : Int) < (m : Int)) := fun h => c (decide_eq_true h)
        rw [List.length_map] at z
        omega
      exact ⟨_, rfl, q p xs H1 c' nd wd np hp (by rw [← c']; exact D1) f1⟩
end
end My
namespace My
open PySem PySem.Spec PyProof.Rows L2
section
variable {P : Program} {w : World} {K : PySem.W.Frag} {mg : Str → Option Value} {base : Heap}
theorem scUnks : FnScope ["_law_deck_here", "_law_many", "_law_found", "_law_some", "_law_k"] ["_law_deck_here", "_law_many"] (defScope sUnks) := ⟨rfl, rfl, rfl, by decide +kernel, rfl, by decide +kernel, by decide +kernel⟩
theorem ok_unks {f fD : Addr} {fd fdD : FuncData} (F : Fun K "_law_unknowns" "_law_unknowns" sUnks f fd) (B : Blt mg) (GD : FnOk P w K mg base CX0 1 fD fdD ["_law_deck_here", "_law_many"] spDraw) (mD : mg "_law_draw" = some (.ref fD))
    (kD : PySem.W.keepIn K (.ref fD) = true) (bD : Binds K fdD ["_law_deck_here", "_law_many"] []) : FnOk P w K mg base CX0 2 f fd ["_law_deck_here", "_law_many"] spUnks := by
  refine F.ok scUnks (fun vs H Q E h => ?_) (fun cdv A outer s H vs Q E hr h => ?_)
  · obtain ⟨d, l, ns, k, m, rfl, _⟩ := h
    rfl
  · obtain ⟨d, l, ns, k, m, rfl, hm, D, hn, hk, q⟩ := h
    refine ⟨_, pss_cons (ps_par (i := 2) (j := 3) rfl scUnks.nd rfl rfl (by decide) rfl rfl (pa_cons (pe_lst pa_nil) (pa_cons (pe_lst (pa_cons pe_str (pa_cons pe_str (pa_cons pe_str (pa_cons pe_str (pa_cons pe_str (pa_cons pe_str (pa_cons pe_str (pa_cons pe_str pa_nil))))))))) pa_nil)) (by rfl))
      (pss_cons (ps_for PassesOwn.never rfl (pi_range1 rfl B.range (pa_cons (pv 1) pa_nil)) (pg_name (i := 4) scUnks.nd rfl (Or.inl rfl))
        (pss_one (ps_expr (pe_bm PySem.F.plainAttrs_list PySem.F.slot_list_append PySem.F.type_list_append mt_append (pv 2)
          (pa_cons (pe_bm PySem.F.plainAttrs_list PySem.F.slot_list_pop PySem.F.type_list_pop mt_popAt (pv 3)
            (pa_cons (pe_call GD hr rfl mD kD bD .nil pass0 (pa_cons (pv 0) (pa_cons (pe_callB call_len_seq (by rfl) B.len PySem.boot_len (pa_cons (pv 3) pa_nil)) pa_nil))) pa_nil)) pa_nil)))))
      (pss_one (ps_ret (pv 2)))), ?_⟩
    refine ⟨by decide, fun p np => ⟨by show 8 ≤ sizeLine; decide, fun p2 np2 => ⟨_, _, rfl, ?_⟩⟩⟩
    obtain ⟨pd, pl⟩ := D.nd np
    have np2' : H p2 = none := (same_new np).free np2
    obtain ⟨pd2, pl2⟩ := D.nd np2'
    have pp : p ≠ p2 := ne_of_none upd_same np2
    refine ⟨_, rfl, m, rfl, by omega, by omega, for_range (n := m) (fun i σ H1 => ∃ (xs rest : List Str) (v4 : Option V), σ = [some (.ref d), some (.int (m : Int)), some (.ref p), some (.ref p2), v4] ∧ xs.length = i ∧ (xs ++ rest).Perm eight ∧ H1 p = some (.lst (xs.map V.str)) ∧ H1 p2 = some (.lst (rest.map V.str)) ∧ Deck H1 d l ns (k + i) ∧ Fr d H H1)
      ⟨[], eight, none, rfl, rfl, List.Perm.refl _, by rw [upd_ne pp]; exact upd_same, upd_same, (D.same (same_new np)).same (same_new np2), same_fr ((same_new np).trans (same_new np2))⟩ ?_ ?_⟩
    · rintro i σ H1 hi ⟨xs, rest, v4, rfl, lx, pm, h1, h2, D1, f1⟩
      have tot := pm.length_eq
      rw [List.length_append, lx] at tot
      have t8 : eight.length = 8 := rfl
      refine ⟨_, rfl, .inl ⟨rfl, _, .inl (.inl h1)⟩, _, rfl, .inl ⟨rfl, _, .inl (.inl h2)⟩, _, rfl, _, rfl, p2, _, rfl, .inl (.inl (.inl h2)), d, l, ns, k + i, _, rfl, ?_, ?_, D1, hn, by omega, fun v H2 v0 v1 D2 f2 => ?_⟩
      · rw [List.length_map]
        omega
      · rw [List.length_map]
        omega
      · rw [List.length_map] at v1
        obtain ⟨j, rfl⟩ : ∃ j : Nat, v = (j : Int) := ⟨v.toNat, by omega⟩
        have hj : j < rest.length := by omega
        have g1 : H2 p = some (.lst (xs.map V.str)) := f2 _ _ pd h1
        have g2 : H2 p2 = some (.lst (rest.map V.str)) := f2 _ _ pd2 h2
        refine ⟨p2, _, (j : Int), j, .str rest[j], rfl, rfl, g2, by omega, by omega, ?_, ?_, ?_⟩
        · rw [seqIndex_of (by omega) (by rw [List.length_map]; omega), Int.toNat_natCast]
        · rw [List.getElem?_map, List.getElem?_eq_getElem hj]
          rfl
        · refine ⟨p, _, _, rfl, rfl, by rw [upd_ne pp]; exact g1, by rw [List.length_map, sizeLine_eq]; omega, xs ++ [rest[j]], rest.eraseIdx j, _, rfl, by rw [List.length_append, lx]; rfl, ?_, ?_, ?_, ?_, ?_⟩
          · refine List.Perm.trans ?_ pm
            rw [List.append_assoc]
            exact List.Perm.append_left xs (erase_perm hj)
          · rw [upd_same, List.map_append]
            rfl
          · rw [upd_ne (Ne.symm pp), upd_same, map_erase]
          · exact (D2.upd pd2 pl2).upd pd pl
          · refine Fr.upd_new (Fr.refl d H) (Fr.upd_new (Fr.refl d H) (f1.trans f2) np2' pd2) np pd
    · rintro σ H1 ⟨xs, rest, v4, rfl, lx, pm, h1, h2, D1, f1⟩
      have nd : (xs ++ rest).Nodup := pm.nodup_iff.mpr (by decide)
      exact ⟨_, rfl, q p xs H1 lx (List.nodup_append.mp nd).1 (fun x m => pm.mem_iff.mp (List.mem_append_left _ m)) np h1 D1 f1⟩
theorem scKinds : FnScope ["_law_deck_here", "_law_row", "_law_name"] ["_law_deck_here"] (defScope sKinds) := ⟨rfl, rfl, rfl, by decide +kernel, rfl, by decide +kernel, by decide +kernel⟩
theorem ok_kinds {f fD fO fP : Addr} {fd fdD fdO fdP : FuncData} (F : Fun K "_law_kinds" "_law_kinds" sKinds f fd) (B : Blt mg) (GD : FnOk P w K mg base CX0 1 fD fdD ["_law_deck_here", "_law_many"] spDraw) (mD : mg "_law_draw" = some (.ref fD))
    (kD : PySem.W.keepIn K (.ref fD) = true) (bD : Binds K fdD ["_law_deck_here", "_law_many"] []) (GO : FnOk P w K mg base CX0 2 fO fdO ["_law_deck_here", "_law_items"] (spOne K)) (mO : mg "_law_one" = some (.ref fO))
    (kO : PySem.W.keepIn K (.ref fO) = true) (bO : Binds K fdO ["_law_deck_here", "_law_items"] []) (GP : FnOk P w K mg base CX0 4 fP fdP ["_law_deck_here", "_law_many"] spPool) (mP : mg "_law_pool" = some (.ref fP))
    (kP : PySem.W.keepIn K (.ref fP) = true) (bP : Binds K fdP ["_law_deck_here", "_law_many"] []) : FnOk P w K mg base CX0 5 f fd ["_law_deck_here"] spKinds := by
  refine F.ok scKinds (fun vs H Q E h => ?_) (fun cdv A outer s H vs Q E hr h => ?_)
  · obtain ⟨d, l, ns, k, rfl, _⟩ := h
    rfl
  · obtain ⟨d, l, ns, k, rfl, D, hn, hk, q⟩ := h
    have hr1 : Room 1 _ := hr.mono (by decide)
    have hr2 : Room 2 _ := hr.mono (by decide)
    refine ⟨_, pss_cons (ps_set (i := 1) scKinds.nd rfl (Or.inl rfl) (pe_call GP hr rfl mP kP bP .nil pass0 (pa_cons (pv 0) (pa_cons (pe_op op_add pe_int (pe_call GD hr1 rfl mD kD bD .nil pass0 (pa_cons (pv 0) (pa_cons pe_int pa_nil)))) pa_nil))))
      (pss_one (ps_ret (pe_lc (own := [("_law_name", 2)]) (g := gName 2) (tt := tYes) rfl scKinds.nd (pi_list (pv 1)) (blkOk_by (own := [("_law_name", 2)]) (N := ["_law_deck_here", "_law_row", "_law_name"]) (sc := defScope sKinds) (by decide +kernel))
        (fun _ _ _ _ _ => pg_name (i := 2) scKinds.nd rfl (Or.inl rfl)) (fun _ _ _ _ _ => pts_nil)
        (fun _ _ _ _ _ => pe_tup (pa_cons (pv 2) (pa_cons (pe_call GO hr2 rfl mO kO bO .nil pass0 (pa_cons (pv 0) (pa_cons (pe_lst (pa_cons pe_int (pa_cons pe_int (pa_cons pe_int (pa_cons pe_int (pa_cons pe_int pa_nil)))))) pa_nil))) pa_nil)))))), ?_⟩
    refine ⟨_, rfl, _, rfl, d, l, ns, k, 2, rfl, by decide, by decide, D, hn, by omega, fun v H1 v0 v1 D1 f1 => ⟨2, v, rfl, rfl, ?_⟩⟩
    obtain ⟨m, hm, m2, m3⟩ : ∃ m : Nat, 2 + v = (m : Int) ∧ 2 ≤ m ∧ m ≤ 3 := ⟨(2 + v).toNat, by omega, by omega, by omega⟩
    refine ⟨d, l, ns, k + 1, m, (by show [V.ref d, V.int (2 + v)] = _; rw [hm]), by omega, D1, hn, by omega, fun p xs H2 lx nd wd np hp D2 f2 => ?_⟩
    have f02 := f1.trans f2
    have pd : p ≠ d := (D1.nd np).1
    have pl : p ≠ l := (D1.nd np).2
    refine ⟨_, rfl, p, rfl, ⟨_, .inl (.inl hp)⟩, fun Dn nD => ?_⟩
    obtain ⟨Dd, Dl⟩ := D2.nd nD
    have Dp' : Dn ≠ p := Ne.symm (ne_of_none hp nD)
    refine lc_list (xs := xs.map V.str) (fun t H3 => ∃ ks : List (Addr × Str × Nat), ks.map (·.2.1) = xs.take t ∧ H3 Dn = some (.lst (ks.map fun t => V.ref t.1)) ∧ (∀ t ∈ ks, KindAt H3 t ∧ H t.1 = none ∧ t.1 ≠ Dn) ∧ H3 p = some (.lst (xs.map V.str)) ∧ Deck H3 d l ns (k + 1 + 9 * m + t) ∧ Fr d H2 H3 ∧ Fr d H H3)
      ⟨[], rfl, upd_same, (fun t z => nomatch z), by rw [upd_ne (Ne.symm Dp')]; exact hp, D2.same (same_new nD), same_fr (same_new nD), f02.trans (same_fr (same_new nD))⟩ (fun t H3 _ ⟨ks, _, _, _, h4, _⟩ => .inl (.inl h4)) ?_ ?_
    · rintro t x H3 hx ⟨ks, h1, h2, h3, h4, h5, h6, h7⟩
      refine ⟨rfl, ?_⟩
      dsimp only [tYes]
      rw [if_pos rfl]
      obtain ⟨x, rfl⟩ : ∃ y : Str, x = .str y := by
        rw [List.getElem?_map] at hx
        obtain ⟨y, _, e⟩ := Option.map_eq_some_iff.mp hx
        exact ⟨y, e.symm⟩
      have hx' : xs[t]? = some x := by
        rw [List.getElem?_map] at hx
        obtain ⟨y, e1, e2⟩ := Option.map_eq_some_iff.mp hx
        rw [e1, V.str.inj e2]
      have ht : t < xs.length := (List.getElem?_eq_some_iff.mp hx').1
      have mx : x ∈ xs := List.mem_of_getElem? hx'
      have lk : ks.length = t := by
        have z := congrArg List.length h1
        rw [List.length_map, List.length_take] at z
        omega
      refine ⟨_, rfl, _, rfl, (by show 5 ≤ sizeLine; decide), fun a na => ?_⟩
      obtain ⟨ad, al⟩ := h5.nd na
      have D5 := h5.same (same_new (o := .lst [.int 1, .int 2, .int 2, .int 3, .int 4]) na)
      refine ⟨d, l, ns, k + 1 + 9 * m + t, .ref a, rfl, D5, hn, by omega, .inl ⟨a, _, rfl, ad, .inl (.inl (.inl (off_at ad upd_same))), List.cons_ne_nil _ _, by decide, fun j v H4 hj D4 f4 => ?_⟩⟩
      obtain ⟨n, rfl, n1, n4⟩ : ∃ n : Nat, v = .int (n : Int) ∧ 0 < n ∧ n ≤ 4 := by
        match j, hj with
        | 0, hj => exact ⟨1, (Option.some.inj hj).symm, by decide, by decide⟩
        | 1, hj => exact ⟨2, (Option.some.inj hj).symm, by decide, by decide⟩
        | 2, hj => exact ⟨2, (Option.some.inj hj).symm, by decide, by decide⟩
        | 3, hj => exact ⟨3, (Option.some.inj hj).symm, by decide, by decide⟩
        | 4, hj => exact ⟨4, (Option.some.inj hj).symm, by decide, by decide⟩
        | n + 5, hj => simp at hj
      have f34 : Fr d H3 H4 := (same_fr (same_new na)).trans f4
      refine ⟨(by show 2 ≤ sizeLine; decide), fun b nb => ?_⟩
      obtain ⟨bd, bl⟩ := D4.nd nb
      have g1 : H4 Dn = some (.lst (ks.map fun t => V.ref t.1)) := f34 _ _ Dd h2
      have bDn : b ≠ Dn := Ne.symm (ne_of_none g1 nb)
      have nbH : H b = none := (h7.trans f34).free nb bd
      have aDn : H Dn = none := f02.free nD Dd
      refine ⟨_, (by rw [upd_ne (Ne.symm bDn)]; exact g1), by rw [List.length_map, sizeLine_eq]; omega, ks ++ [(b, x, n)], ?_, ?_, fun t' z => ?_, ?_, ?_, ?_, ?_⟩
      · rw [List.map_append, h1, List.take_add_one, hx']
        rfl
      · rw [upd_same, List.map_append]
        rfl
      · rcases List.mem_append.mp z with z | z
        · obtain ⟨e1, e2, e3⟩ := h3 t' z
          have td : t'.1 ≠ d := by
            intro e
            have z1 := e1.1
            rw [e] at z1
            obtain ⟨⟨_, _, _, z2, _⟩, _⟩ := h5
            rw [z2] at z1
            cases z1
          have e5 : KindAt H4 t' := e1.fr f34 td
          have tb : t'.1 ≠ b := ne_of_none e5.1 nb
          exact ⟨⟨by rw [upd_ne e3, upd_ne tb]; exact e5.1, e5.2⟩, e2, e3⟩
        · rw [List.mem_singleton.mp z]
          exact ⟨⟨by rw [upd_ne bDn]; exact upd_same, wd x mx, n1, n4⟩, nbH, bDn⟩
      · rw [upd_ne (Ne.symm Dp'), upd_ne (ne_of_none (f34 _ _ pd h4) nb)]
        exact f34 _ _ pd h4
      · exact (D4.upd bd bl).upd Dd Dl
      · exact Fr.upd_new (Fr.refl d H2) (Fr.upd_new (Fr.refl d H2) (h6.trans f34) (h6.trans f34 |>.free nb bd) bd) nD Dd
      · exact Fr.upd_new (Fr.refl d H) (Fr.upd_new (Fr.refl d H) (h7.trans f34) nbH bd) aDn Dd
    · rintro H3 ⟨ks, h1, h2, h3, h4, h5, h6, h7⟩
      rw [List.length_map, List.take_length] at h1
      have lk : ks.length = xs.length := by rw [← h1, List.length_map]
      exact q Dn ks H3 (by omega) (by omega) (by rw [h1]; exact nd) (fun t z => (h3 t z).1) (f02.free nD Dd) h2 (h5.mono (by rw [List.length_map]; omega)) h7
end
end My
namespace My
open PySem PySem.Spec PyProof.Rows L2
section
variable [TbC] {P : Program} {w : World} {K : PySem.W.Frag} {mg : Str → Option Value} {base : Heap}
theorem sc__law_one : FnScope ["_law_deck_here", "_law_items"] ["_law_deck_here", "_law_items"] (defScope sOne) := ⟨rfl, rfl, rfl, by decide +kernel, rfl, by decide +kernel, by decide +kernel⟩
theorem okW__law_one {f : Addr} {fd : FuncData} (F : Fun K "_law_one" "_law_one" sOne f fd) (z_len : mg "len" = none) {f__law_draw : Addr} {d__law_draw : FuncData} (G__law_draw : FnOk P w K mg base CX0 1 f__law_draw d__law_draw ["_law_deck_here", "_law_many"] (spW K W_draw)) (m__law_draw : mg "_law_draw" = some (.ref f__law_draw)) (k__law_draw : PySem.W.keepIn K (.ref f__law_draw) = true) (b__law_draw : Binds K d__law_draw ["_law_deck_here", "_law_many"] []) : FnOk P w K mg base CX0 2 f fd ["_law_deck_here", "_law_items"] (spW K W_one) :=
  fn_okW F sc__law_one (fun cdv A outer s H E hr => by
    have hu := hr.units
    have hv := Room.u65 hr
    exact (qss_one (qs_ret (qd_ix ix_seq pu_ix (qd_pur (qdv 1) is_v) (qd_callW G__law_draw (hr.mono (by decide)) rfl m__law_draw k__law_draw b__law_draw pass0 (pv 0) (qda_cons (qd_pur (qd_callB cr_lenU pu_len (by rfl) z_len PySem.boot_len (qda_cons (qdv 1) qda_nil)) (is_call (is_co is_v is_n))) qda_nil)))))) (by
    intro ds n Qd h
    obtain ⟨xs, x, rfl, _⟩ := h
    rfl
    ) (by
    intro ds n Qd h
    obtain ⟨xs, x, rfl, hi, nd, ne, l1, l2, q⟩ := h
    simp only [sSeq, sIf, sRet, sSet, sAsg, sNil, bNot, bT, bAnd, bOr, bTr, eIsi, eV, eC, eCall, eOp, eChain, eAnd, eOr, eNot, eIf, eTup, eLst, eSl, eLc, aC, aN, iV, iR, startW, endW, startL, endL, oN, oS, bYes, eSort, eLc2, twoW, appW, putW, eSortSet, sNewL, sGive, sFor, sApp, sExt, sNewK, sMakeK, sPutK, sGiveK, eCallW, eRepr, iZ, eRev, pur, purA, purT, purS, Fl.ends, Option.some.injEq, Sv.d.injEq, Sv.l.injEq, Sv.k.injEq, exists_eq_left', exists_eq_left, PyData.bool.injEq, PyData.int.injEq, PyData.tuple.injEq, PyData.list.injEq, true_and, and_true, fC, fV, fN, fCo, fTup, fLst, fOp, fCall, tfE, tfTr, tfYes, tfNot, tfAnd, tfOr, fAnd, fOr, fNot, fIf, ofN, ofS, fSl, fChain, fIsi, afV, afR, afZ, afZk, zipKF, fLc, fLc2, fTwo, fOne, fSort, fSortSet, fGet, fOIn, fOGet, fOLen, fOIx, fRepr, fRev, fMeth, fNil, fSeq, fSet, fAsg, fRet, fIfS, fFor, fNewL, fApp, fExt, fGive, fNewK, fMakeK, fPutK, fGiveK, outF, envF, fnF, stF, stB, gN, gT, gsC, gsN, wipeD, getF, ownK, ownL, asB, asK, asL, asS, List.getElem?_cons_zero, List.getElem?_cons_succ, Option.bind_some, Option.map_some, Option.bind_none, Option.map_none, List.map_cons, List.map_nil, List.cons_append, List.nil_append, List.set_cons_zero, List.set_cons_succ, List.length_cons, List.length_nil, List.replicate_succ, List.replicate_zero, Nat.reduceSub, Nat.reduceAdd, Nat.reduceEqDiff, if_true, Bool.true_eq_false, Bool.false_eq_true, if_false, reduceIte, noDict, lenD_tup, lenD_lst, ltD_int, items_tup, items_lst, items_str, eqD_str, eqD_int, neD_str, neD_int, addD_int, subD_int, slD_lst, slD_tup, tuple_lst, tuple_tup, list_lst, list_tup, tyS_str, tyS_tup]
    obtain ⟨e1, e2⟩ := items_len hi l1
    have l0 := List.length_pos_iff.mpr ne
    have l3 : xs.length ≤ 1000000 := l1
    refine ⟨_, e1, draw_nat (by omega) (by omega) l2 fun c hc => ?_⟩
    have lc : c < xs.length := by omega
    exact ⟨xs[c], e2 c _ (List.getElem?_eq_getElem lc), q _ (List.getElem_mem lc)⟩
    )
end
end My
namespace My
open PySem PySem.Spec PyProof.Rows L2
section
variable [TbC] {P : Program} {w : World} {K : PySem.W.Frag} {mg : Str → Option Value} {base : Heap}
theorem sc__law_store : FnScope ["_law_deck_here", "_law_kinds_here", "_law_values", "_law_many", "_law_row", "_law_k", "_law_name", "_law_width", "_law_at"] ["_law_deck_here", "_law_kinds_here", "_law_values", "_law_many"] (defScope sStore) := ⟨rfl, rfl, rfl, by decide +kernel, rfl, by decide +kernel, by decide +kernel⟩
theorem okW__law_store {f : Addr} {fd : FuncData} (F : Fun K "_law_store" "_law_store" sStore f fd) (z_range : mg "range" = none) (z_tuple : mg "tuple" = none) (z_sorted : mg "sorted" = none) (z_set : mg "set" = none) {f__law_draw : Addr} {d__law_draw : FuncData} (G__law_draw : FnOk P w K mg base CX0 1 f__law_draw d__law_draw ["_law_deck_here", "_law_many"] (spW K W_draw)) (m__law_draw : mg "_law_draw" = some (.ref f__law_draw)) (k__law_draw : PySem.W.keepIn K (.ref f__law_draw) = true) (b__law_draw : Binds K d__law_draw ["_law_deck_here", "_law_many"] []) {f__law_one : Addr} {d__law_one : FuncData} (G__law_one : FnOk P w K mg base CX0 2 f__law_one d__law_one ["_law_deck_here", "_law_items"] (spW K W_one)) (m__law_one : mg "_law_one" = some (.ref f__law_one)) (k__law_one : PySem.W.keepIn K (.ref f__law_one) = true) (b__law_one : Binds K d__law_one ["_law_deck_here", "_law_items"] []) : FnOk P w K mg base CX0 3 f fd ["_law_deck_here", "_law_kinds_here", "_law_values", "_law_many"] (spW K W_stW) :=
  fn_okW F sc__law_store (fun cdv A outer s H E hr => by
    have hu := hr.units
    have hv := Room.u65 hr
    exact (qss_cons (qs_pur (qs_newL (i := 4) sc__law_store.nd rfl (Or.inl rfl)) is_newL)
      (qss_cons (qs_for PassesOwn.never rfl (qdi_range (by rfl) z_range (qda_cons (qd_callW G__law_draw (hr.mono (by decide)) rfl m__law_draw k__law_draw b__law_draw pass0 (pv 0) (qda_cons (qd_pur (qd_op op_addU pu_add (qdv 3) qd_int) (is_op is_v is_c)) qda_nil)) qda_nil)) (qdg_name (i := 5) sc__law_store.nd rfl (Or.inl rfl)) (qss_cons (qs_asg (qd_callW G__law_one (hr.mono (by decide)) rfl m__law_one k__law_one b__law_one pass0 (pv 0) (qda_cons (qd_pur (qdv 1) is_v) qda_nil)) (qdg_tup (n := 2) rfl (qdgs_cons (qdg_name (i := 6) sc__law_store.nd rfl (Or.inl rfl)) (qdgs_cons (qdg_name (i := 7) sc__law_store.nd rfl (Or.inl rfl)) qdgs_nil))))
      (qss_one (qs_app' (ps_expr (pe_bm PySem.F.plainAttrs_list PySem.F.slot_list_append PySem.F.type_list_append mt_append (pv 4) (pa_cons (qd_op op_addU pu_add (qd_pur (qd_tup (qda_cons (qdv 6) qda_nil)) (is_tup (is_co is_v is_n))) (qd_callTy cr_tupU pu_tuple (by rfl) z_tuple boot_tuple (qda_cons (qd_lc (own := [("_law_at", 8)]) rfl sc__law_store.nd (qdi_pur (qdi_range (by rfl) z_range (qda_cons (qdv 7) qda_nil)) (is_afR (is_co is_v is_n))) (blkOk_by (own := [("_law_at", 8)]) (N := ["_law_deck_here", "_law_kinds_here", "_law_values", "_law_many", "_law_row", "_law_k", "_law_name", "_law_width", "_law_at"]) (sc := (defScope sStore)) (by decide +kernel)) (by decide) (fun _ _ _ _ _ => (qdg_name (i := 8) sc__law_store.nd rfl (Or.inl rfl))) (fun _ _ _ _ _ => qts_nil) (fun _ _ _ _ _ => (qd_callW G__law_one (hr.mono (by decide)) rfl m__law_one k__law_one b__law_one pass0 (pv 0) (qda_cons (qd_pur (qdv 2) is_v) qda_nil)))) qda_nil))) pa_nil)))))))
      (qss_give 4 (qss_one (qs_pur (qs_ret (qd_callTy cr_tupU pu_tuple (by rfl) z_tuple boot_tuple (qda_cons (qd_sortsetT hu rfl (by rfl) z_sorted (by rfl) z_set (qdv 4)) qda_nil))) (is_ret (is_call (is_co (is_sortSet is_v) is_n))))))))) (by
    intro ds n Qd h
    obtain ⟨ks, vals, m, rfl, _⟩ := h
    rfl
    ) (by
    intro ds n Qd h
    obtain ⟨ks, vals, m, rfl, hm, hn, kne, kl, hk, vne, vl, q⟩ := h
    simp only [sSeq, sIf, sRet, sSet, sAsg, sNil, bNot, bT, bAnd, bOr, bTr, eIsi, eV, eC, eCall, eOp, eChain, eAnd, eOr, eNot, eIf, eTup, eLst, eSl, eLc, aC, aN, iV, iR, startW, endW, startL, endL, oN, oS, bYes, eSort, eLc2, twoW, appW, putW, eSortSet, sNewL, sGive, sFor, sApp, sExt, sNewK, sMakeK, sPutK, sGiveK, eCallW, eRepr, iZ, eRev, pur, purA, purT, purS, Fl.ends, Option.some.injEq, Sv.d.injEq, Sv.l.injEq, Sv.k.injEq, exists_eq_left', exists_eq_left, PyData.bool.injEq, PyData.int.injEq, PyData.tuple.injEq, PyData.list.injEq, true_and, and_true, fC, fV, fN, fCo, fTup, fLst, fOp, fCall, tfE, tfTr, tfYes, tfNot, tfAnd, tfOr, fAnd, fOr, fNot, fIf, ofN, ofS, fSl, fChain, fIsi, afV, afR, afZ, afZk, zipKF, fLc, fLc2, fTwo, fOne, fSort, fSortSet, fGet, fOIn, fOGet, fOLen, fOIx, fRepr, fRev, fMeth, fNil, fSeq, fSet, fAsg, fRet, fIfS, fFor, fNewL, fApp, fExt, fGive, fNewK, fMakeK, fPutK, fGiveK, outF, envF, fnF, stF, stB, gN, gT, gsC, gsN, wipeD, getF, ownK, ownL, asB, asK, asL, asS, List.getElem?_cons_zero, List.getElem?_cons_succ, Option.bind_some, Option.map_some, Option.bind_none, Option.map_none, List.map_cons, List.map_nil, List.cons_append, List.nil_append, List.set_cons_zero, List.set_cons_succ, List.length_cons, List.length_nil, List.replicate_succ, List.replicate_zero, Nat.reduceSub, Nat.reduceAdd, Nat.reduceEqDiff, if_true, Bool.true_eq_false, Bool.false_eq_true, if_false, reduceIte, noDict, lenD_tup, lenD_lst, ltD_int, items_tup, items_lst, items_str, eqD_str, eqD_int, neD_str, neD_int, addD_int, subD_int, slD_lst, slD_tup, tuple_lst, tuple_tup, list_lst, list_tup, tyS_str, tyS_tup]
    refine draw_nat (by omega) (by omega) (by omega) fun c hc => ?_
    refine ⟨c, rfl, by omega, by omega, ?_⟩
    refine for_inv (rangeD c) (fun i ρ n' => ∃ rows v5 v6 v7, ρ = [some .dk, some (.d (.list (ks.map kdD))), some (.d (.list (vals.map PyData.str))), some (.d (.int (m : Int))), some (.l (rows.map bT')), v5, v6, v7, none] ∧ rows.length = i ∧ (∀ k ∈ rows, FcOk ks vals k) ∧ n' ≤ n + 1 + 5 * i) ?_ ?_ ⟨[], none, none, none, rfl, rfl, (fun k h => by cases h), Nat.le_refl _⟩
    · rintro i x ρ n' E' hx ⟨rows, v5, v6, v7, rfl, lr, hr, hn'⟩ nx _ _ _
      have ic : i < c := by
        have z := (range_at hx).1
        omega
      refine ⟨_, rfl, ?_⟩
      refine ⟨rfl, .list (ks.map kdD), rfl, ?_⟩
      dsimp only [aN]
      refine one_lst (xs := ks.map kdD) (fun e => kne (List.map_eq_nil_iff.mp e)) (by rw [List.length_map]; omega) (by omega) fun y hy => ?_
      obtain ⟨t, ht, rfl⟩ := List.mem_map.mp hy
      have kt := hk t ht
      refine ⟨_, rfl, ?_⟩
      have t4 := kt.2.2
      refine ⟨_, rfl, _, tup1_is rfl, _, afR_is rfl (by omega) (by omega), by rw [rangeD_len]; show _ ≤ 1000000; omega, ?_⟩
      refine lc_inv (rangeD t.2) (fun j acc n2 => ∃ ws : List Str, acc = ws.map PyData.str ∧ ws.length = j ∧ (∀ y ∈ ws, y ∈ vals) ∧ n2 = n' + 1 + j) ?_ ?_ ⟨[], rfl, rfl, (fun y h => by cases h), rfl⟩
      · rintro j y acc n2 K2 hy ⟨ws, rfl, lw, hw, rfl⟩ k2
        have jc : j < t.2 := by
          have z := (range_at hy).1
          omega
        refine ⟨_, rfl, ?_⟩
        simp only [sSeq, sIf, sRet, sSet, sAsg, sNil, bNot, bT, bAnd, bOr, bTr, eIsi, eV, eC, eCall, eOp, eChain, eAnd, eOr, eNot, eIf, eTup, eLst, eSl, eLc, aC, aN, iV, iR, startW, endW, startL, endL, oN, oS, bYes, eSort, eLc2, twoW, appW, putW, eSortSet, sNewL, sGive, sFor, sApp, sExt, sNewK, sMakeK, sPutK, sGiveK, eCallW, eRepr, iZ, eRev, pur, purA, purT, purS, Fl.ends, Option.some.injEq, Sv.d.injEq, Sv.l.injEq, Sv.k.injEq, exists_eq_left', exists_eq_left, PyData.bool.injEq, PyData.int.injEq, PyData.tuple.injEq, PyData.list.injEq, true_and, and_true, fC, fV, fN, fCo, fTup, fLst, fOp, fCall, tfE, tfTr, tfYes, tfNot, tfAnd, tfOr, fAnd, fOr, fNot, fIf, ofN, ofS, fSl, fChain, fIsi, afV, afR, afZ, afZk, zipKF, fLc, fLc2, fTwo, fOne, fSort, fSortSet, fGet, fOIn, fOGet, fOLen, fOIx, fRepr, fRev, fMeth, fNil, fSeq, fSet, fAsg, fRet, fIfS, fFor, fNewL, fApp, fExt, fGive, fNewK, fMakeK, fPutK, fGiveK, outF, envF, fnF, stF, stB, gN, gT, gsC, gsN, wipeD, getF, ownK, ownL, asB, asK, asL, asS, List.getElem?_cons_zero, List.getElem?_cons_succ, Option.bind_some, Option.map_some, Option.bind_none, Option.map_none, List.map_cons, List.map_nil, List.cons_append, List.nil_append, List.set_cons_zero, List.set_cons_succ, List.length_cons, List.length_nil, List.replicate_succ, List.replicate_zero, Nat.reduceSub, Nat.reduceAdd, Nat.reduceEqDiff, if_true, Bool.true_eq_false, Bool.false_eq_true, if_false, reduceIte, noDict, lenD_tup, lenD_lst, ltD_int, items_tup, items_lst, items_str, eqD_str, eqD_int, neD_str, neD_int, addD_int, subD_int, slD_lst, slD_tup, tuple_lst, tuple_tup, list_lst, list_tup, tyS_str, tyS_tup]
        refine one_lst (fun e => vne (List.map_eq_nil_iff.mp e)) (by rw [List.length_map]; omega) (by omega) fun z hz => ?_
        obtain ⟨v, hv, rfl⟩ := List.mem_map.mp hz
        refine k2 _ _ ⟨ws ++ [v], by rw [List.map_append]; rfl, by rw [List.length_append, lw]; rfl, fun y hy => ?_, rfl⟩
        rcases List.mem_append.mp hy with hy | hy
        · exact hw y hy
        · rw [List.mem_singleton.mp hy]
          exact hv
      · rintro acc n2 ⟨ws, rfl, lw, hw, rfl⟩
        rw [rangeD_len] at lw
        have lw' : ws.length = t.2 := lw
        have nb : n' + 1 + (rangeD t.2).length ≤ n + 1 + 5 * (i + 1) := by
          rw [rangeD_len]
          show n' + 1 + t.2 ≤ _
          omega
        refine ⟨.tuple (ws.map PyData.str), rfl, _, addD_tup (by rw [List.length_map]; show 1 + _ ≤ 1000000; omega), by rw [List.length_map]; show _ < 1000000; omega, nx _ _ ⟨rows ++ [t.1 :: ws], some (.d x), some (.d (.str t.1)), some (.d (.int (t.2 : Int))), ?_, ?_, ?_, nb⟩⟩
        · rw [List.map_append]
          rfl
        · rw [List.length_append, lr]
          rfl
        · intro k hk'
          rcases List.mem_append.mp hk' with hk' | hk'
          · exact hr k hk'
          · rw [List.mem_singleton.mp hk']
            exact ⟨t.1, ws, rfl, ⟨t, ht, rfl, lw'⟩, hw⟩
    · rintro ρ n' ⟨rows, v5, v6, v7, rfl, lr, hr, hn'⟩
      rw [rangeD_len] at lr
      have lr' : rows.length = c := lr
      rw [rangeD_len] at hn'
      have hn2 : n' ≤ n + 1 + 5 * c := hn'
      have vt : viewAll vT (rows.map bT') = some rows := view_T fun k hk e => by
        obtain ⟨z1, z2, z3, _⟩ := hr k hk
        rw [e] at z3
        cases z3
      simp only [sSeq, sIf, sRet, sSet, sAsg, sNil, bNot, bT, bAnd, bOr, bTr, eIsi, eV, eC, eCall, eOp, eChain, eAnd, eOr, eNot, eIf, eTup, eLst, eSl, eLc, aC, aN, iV, iR, startW, endW, startL, endL, oN, oS, bYes, eSort, eLc2, twoW, appW, putW, eSortSet, sNewL, sGive, sFor, sApp, sExt, sNewK, sMakeK, sPutK, sGiveK, eCallW, eRepr, iZ, eRev, pur, purA, purT, purS, Fl.ends, Option.some.injEq, Sv.d.injEq, Sv.l.injEq, Sv.k.injEq, exists_eq_left', exists_eq_left, PyData.bool.injEq, PyData.int.injEq, PyData.tuple.injEq, PyData.list.injEq, true_and, and_true, fC, fV, fN, fCo, fTup, fLst, fOp, fCall, tfE, tfTr, tfYes, tfNot, tfAnd, tfOr, fAnd, fOr, fNot, fIf, ofN, ofS, fSl, fChain, fIsi, afV, afR, afZ, afZk, zipKF, fLc, fLc2, fTwo, fOne, fSort, fSortSet, fGet, fOIn, fOGet, fOLen, fOIx, fRepr, fRev, fMeth, fNil, fSeq, fSet, fAsg, fRet, fIfS, fFor, fNewL, fApp, fExt, fGive, fNewK, fMakeK, fPutK, fGiveK, outF, envF, fnF, stF, stB, gN, gT, gsC, gsN, wipeD, getF, ownK, ownL, asB, asK, asL, asS, List.getElem?_cons_zero, List.getElem?_cons_succ, Option.bind_some, Option.map_some, Option.bind_none, Option.map_none, List.map_cons, List.map_nil, List.cons_append, List.nil_append, List.set_cons_zero, List.set_cons_succ, List.length_cons, List.length_nil, List.replicate_succ, List.replicate_zero, Nat.reduceSub, Nat.reduceAdd, Nat.reduceEqDiff, if_true, Bool.true_eq_false, Bool.false_eq_true, if_false, reduceIte, noDict, lenD_tup, lenD_lst, ltD_int, items_tup, items_lst, items_str, eqD_str, eqD_int, neD_str, neD_int, addD_int, subD_int, slD_lst, slD_tup, tuple_lst, tuple_tup, list_lst, list_tup, tyS_str, tyS_tup, setsF, vt]
      refine ⟨.rt (stD (sortU ltK (ddU rows))), ?_, q (sortU ltK (ddU rows)) n' ?_ (fun k hk => hr k (ddU_mem.mp (srt_mem.mp hk))) (sortU_asc tot_key (ddU_nd rows)) (by omega)⟩
      · rw [if_pos (Nat.lt_of_le_of_lt (ddU_le rows) (by omega))]
        rfl
      · rw [(sortU_perm _).length_eq]
        exact Nat.le_trans (ddU_le rows) (by omega)
    )
end
end My
namespace My
open PySem PySem.Spec PyProof.Rows L2
section
variable [TbC] {P : Program} {w : World} {K : PySem.W.Frag} {mg : Str → Option Value} {base : Heap}
theorem sc__law_bent_rows : FnScope ["_law_deck_here", "_law_rows", "_law_found", "_law_at", "_law_way", "_law_k", "_law_odd", "_law_other", "_law_row"] ["_law_deck_here", "_law_rows"] (defScope s__law_bent_rows) := ⟨rfl, rfl, rfl, by decide +kernel, rfl, by decide +kernel, by decide +kernel⟩
theorem okW__law_bent_rows {f : Addr} {fd : FuncData} (F : Fun K "_law_bent_rows" "_law_bent_rows" s__law_bent_rows f fd) (z_list : mg "list" = none) (z_len : mg "len" = none) {f__law_draw : Addr} {d__law_draw : FuncData} (G__law_draw : FnOk P w K mg base CX0 1 f__law_draw d__law_draw ["_law_deck_here", "_law_many"] (spW K W_draw)) (m__law_draw : mg "_law_draw" = some (.ref f__law_draw)) (k__law_draw : PySem.W.keepIn K (.ref f__law_draw) = true) (b__law_draw : Binds K d__law_draw ["_law_deck_here", "_law_many"] []) {f__law_one : Addr} {d__law_one : FuncData} (G__law_one : FnOk P w K mg base CX0 2 f__law_one d__law_one ["_law_deck_here", "_law_items"] (spW K W_one)) (m__law_one : mg "_law_one" = some (.ref f__law_one)) (k__law_one : PySem.W.keepIn K (.ref f__law_one) = true) (b__law_one : Binds K d__law_one ["_law_deck_here", "_law_items"] []) : FnOk P w K mg base CX0 3 f fd ["_law_deck_here", "_law_rows"] (spW K W_bentR29) :=
  fn_okW F sc__law_bent_rows (fun cdv A outer s H E hr => by
    have hu := hr.units
    have hv := Room.u65 hr
    exact (qss_cons (qs_par3F (i := 2) (j := 3) (l := 4) rfl sc__law_bent_rows.nd rfl rfl rfl (by decide) (by decide) (by decide) rfl rfl rfl (qdF_pur (qd_lcF (own := [("_law_row", 8)]) rfl sc__law_bent_rows.nd (qdi_val (qdv 1)) (blkOk_by (own := [("_law_row", 8)]) (N := ["_law_deck_here", "_law_rows", "_law_found", "_law_at", "_law_way", "_law_k", "_law_odd", "_law_other", "_law_row"]) (sc := (defScope s__law_bent_rows)) (by decide +kernel)) (by decide) (fun _ _ _ _ _ => (qdg_name (i := 8) sc__law_bent_rows.nd rfl (Or.inl rfl))) (fun _ _ _ _ _ => qts_nil) (fun _ _ _ _ _ => (qd_callTy call_list_of pu_list (by rfl) z_list boot_list (qda_cons (qdv 8) qda_nil)))) (is_L (is_lc (is_afV is_v) is_tfYes (is_call (is_co is_v is_n))))) (qda_cons (qd_callW G__law_draw (hr.mono (by decide)) rfl m__law_draw k__law_draw b__law_draw pass0 (pv 0) (qda_cons (qd_pur (qd_callB cr_lenU pu_len (by rfl) z_len PySem.boot_len (qda_cons (qdv 1) qda_nil)) (is_call (is_co is_v is_n))) qda_nil)) (qda_cons (qd_callW G__law_draw (hr.mono (by decide)) rfl m__law_draw k__law_draw b__law_draw pass0 (pv 0) (qda_cons (qd_pur qd_int is_c) qda_nil)) qda_nil)) rfl)
      (qss_cons (qs_set (i := 5) sc__law_bent_rows.nd rfl (Or.inl rfl) (qd_callW G__law_draw (hr.mono (by decide)) rfl m__law_draw k__law_draw b__law_draw pass0 (pv 0) (qda_cons (qd_pur (qd_op op_addU pu_add (qd_callB cr_lenU pu_len (by rfl) z_len PySem.boot_len (qda_cons (qd_lix (pv 2) (qdv 3)) qda_nil)) qd_int) (is_op (is_call (is_co (is_lix is_v) is_n)) is_c)) qda_nil)))
      (qss_cons (qs_set (i := 6) sc__law_bent_rows.nd rfl (Or.inl rfl) (qd_callW G__law_one (hr.mono (by decide)) rfl m__law_one k__law_one b__law_one pass0 (pv 0) (qda_cons (qd_pur (qdk_lst (qdk_cons qd_str (qdk_cons qd_str (qdk_cons qd_str (qdk_cons qd_str (qdk_cons qd_str (qdk_cons qd_str (qdk_cons qd_str (qdk_cons qd_str (qdk_cons qd_str (qdk_cons qd_str (qdk_cons qd_str (qdk_cons qd_str (qdk_cons qd_str (qdk_cons qd_str qdk_nil))))))))))))))) is_c) qda_nil)))
      (qss_cons (qs_pur (qs_if (qdt_cmp op_lt pu_cmp (qdv 4) qd_int (nomark _)) (qss_one (qs_setI (i := 2) (pv 2) (qdv 3) (qd_op op_addU pu_add (qd_op op_addU pu_add (qd_sl sl_U pu_sl (qd_lix (pv 2) (qdv 3)) qdo_none (qdo_some (qdv 5))) (qd_lst (qda_cons (qdv 6) qda_nil))) (qd_sl sl_U pu_sl (qd_lix (pv 2) (qdv 3)) (qdo_some (qd_op op_addU pu_add (qdv 5) (qd_op op_mod pu_mod (qdv 4) qd_int))) qdo_none)) (ps_asg (qd_op op_addU pu_add (qd_op op_addU pu_add (qd_sl sl_U pu_sl (qd_lix (pv 2) (qdv 3)) qdo_none (qdo_some (qdv 5))) (qd_lst (qda_cons (qdv 6) qda_nil))) (qd_sl sl_U pu_sl (qd_lix (pv 2) (qdv 3)) (qdo_some (qd_op op_addU pu_add (qdv 5) (qd_op op_mod pu_mod (qdv 4) qd_int))) qdo_none)) (pg_sub (pv 2) (qdv 3) set_list)))) qss_nil) (is_ifS (is_tfE (is_op is_v is_c)) (is_setI is_v (is_op (is_op (is_sl (is_lix is_v) is_ofN (is_ofS is_v)) (is_lst (is_co is_v is_n))) (is_sl (is_lix is_v) (is_ofS (is_op is_v (is_op is_v is_c))) is_ofN))) is_nil))
      (qss_cons (qs_pur (qs_if (qdt_cmp (op_eqU hu) pu_eq (qdv 4) qd_int (nomark _)) (qss_one (qs_setI (i := 2) (pv 2) (qdv 3) (qd_op op_addU pu_add (qd_sl sl_U pu_sl (qd_lix (pv 2) (qdv 3)) qdo_none (qdo_some (qdv 5))) (qd_sl sl_U pu_sl (qd_lix (pv 2) (qdv 3)) (qdo_some (qd_op op_addU pu_add (qdv 5) qd_int)) qdo_none)) (ps_asg (qd_op op_addU pu_add (qd_sl sl_U pu_sl (qd_lix (pv 2) (qdv 3)) qdo_none (qdo_some (qdv 5))) (qd_sl sl_U pu_sl (qd_lix (pv 2) (qdv 3)) (qdo_some (qd_op op_addU pu_add (qdv 5) qd_int)) qdo_none)) (pg_sub (pv 2) (qdv 3) set_list)))) qss_nil) (is_ifS (is_tfE (is_op is_v is_c)) (is_setI is_v (is_op (is_sl (is_lix is_v) is_ofN (is_ofS is_v)) (is_sl (is_lix is_v) (is_ofS (is_op is_v is_c)) is_ofN))) is_nil))
      (qss_cons (qs_pur (qs_if (qdt_cmp (op_eqU hu) pu_eq (qdv 4) qd_int (nomark _)) (qss_one (qs_setFl (i := 2) sc__law_bent_rows.nd rfl (Or.inl rfl) (qd_addF (qd_lsl (pv 2) qdo_none (qdo_some (qdv 3))) (qd_lsl (pv 2) (qdo_some (qd_op op_addU pu_add (qdv 3) qd_int)) qdo_none)))) qss_nil) (is_ifS (is_tfE (is_op is_v is_c)) (is_setFl (is_L (is_op (is_lsl is_ofN (is_ofS is_v)) (is_lsl (is_ofS (is_op is_v is_c)) is_ofN)))) is_nil))
      (qss_cons (qs_pur (qs_if (qdt_cmp (op_eqU hu) pu_eq (qdv 4) qd_int (nomark _)) (qss_one (qs_setFl (i := 2) sc__law_bent_rows.nd rfl (Or.inl rfl) (qd_addF (qd_op op_addU pu_add (qd_lsl (pv 2) qdo_none (qdo_some (qdv 3))) (qd_lst (qda_cons (qd_lix (pv 2) (qdv 3)) qda_nil))) (qd_lsl (pv 2) (qdo_some (qdv 3)) qdo_none)))) qss_nil) (is_ifS (is_tfE (is_op is_v is_c)) (is_setFl (is_L (is_op (is_op (is_lsl is_ofN (is_ofS is_v)) (is_lst (is_co (is_lix is_v) is_n))) (is_lsl (is_ofS is_v) is_ofN)))) is_nil))
      (qss_cons (qs_pur (qs_if (qdt_cmp (op_eqU hu) pu_eq (qdv 4) qd_int (nomark _)) (qss_cons (qs_set (i := 7) sc__law_bent_rows.nd rfl (Or.inl rfl) (qd_lix (pv 2) (qdv 3)))
      (qss_cons (qs_setI (i := 2) (pv 2) (qdv 3) (qd_lix (pv 2) (qd_neg qd_int)) (ps_asg (qd_lix (pv 2) (qd_neg qd_int)) (pg_sub (pv 2) (qdv 3) set_list)))
      (qss_one (qs_setI (i := 2) (pv 2) (qd_neg qd_int) (qdv 7) (ps_asg (qdv 7) (pg_sub (pv 2) (qd_neg qd_int) set_list)))))) qss_nil) (is_ifS (is_tfE (is_op is_v is_c)) (is_seq (is_set (is_lix is_v)) (is_seq (is_setI is_v (is_lix (is_neg is_c))) (is_setI (is_neg is_c) is_v))) is_nil))
      (qss_cons (qs_if (qdt_pur (qdt_cmp (op_eqU hu) pu_eq (qdv 4) qd_int (nomark _)) (is_tfE (is_op is_v is_c))) (qss_one (qs_app' (ps_expr (pe_bm PySem.F.plainAttrs_list PySem.F.slot_list_append PySem.F.type_list_append mt_append (pv 2) (pa_cons (qd_op op_addU pu_add (qd_pur (qd_lst (qda_cons qd_str qda_nil)) (is_lst (is_co is_c is_n))) (qd_op op_mulX' pu_mulX (qd_pur (qd_lst (qda_cons qd_str qda_nil)) (is_lst (is_co is_c is_n))) (qd_callW G__law_draw (hr.mono (by decide)) rfl m__law_draw k__law_draw b__law_draw pass0 (pv 0) (qda_cons (qd_pur qd_int is_c) qda_nil)))) pa_nil))))) qss_nil)
      (qss_give 2 (qss_one (qs_pur (qs_ret (qdv 2)) (is_ret is_v)))))))))))))) (by
    intro ds n Qd h
    obtain ⟨rs, rfl, _⟩ := h
    rfl
    ) (by
    intro ds n Qd h
    obtain ⟨rs, rfl, R, C, ne, H, hR, hC, c5, hn, q⟩ := h
    have l1 : rs.length ≤ 100 := Nat.le_trans H.1 hR
    have p1 : 0 < rs.length := List.length_pos_iff.mpr ne
    refine ⟨rs.map rowD, rows_copy (by omega), ?_⟩
    refine callW1 rfl (x := .int ((rs.length : Nat) : Int)) ((call_is (co1 rfl) lenD_lst).trans (by rw [List.length_map])) (draw_nat (by omega) (by omega) (by omega) fun a ha => callW1 rfl rfl (draw_nat (by decide) (by decide) (by omega) fun c hc => ⟨_, _, rfl, ?_⟩))
    have la : a < rs.length := by omega
    obtain ⟨r, hr⟩ : ∃ r, rs[a]? = some r := ⟨rs[a], List.getElem?_eq_getElem la⟩
    have cr := (H.2 r (List.mem_of_getElem? hr)).1
    refine wSetS (callW1 rfl (x := .int ((r.length + 1 : Nat) : Int)) (op_is (call_is (co1 (lix_is (k := (a : Int)) (xs := rs.map rowD) rfl rfl (atI_nat (x := rowD r) (by rw [List.getElem?_map, hr]; rfl)))) lenD_lst) rfl (by rw [List.length_map]; rfl)) (draw_nat (by omega) (by omega) (by omega) fun k hk => ?_))
    refine wSetS (callW1 rfl rfl (one_lst (by simp) (by decide) (by omega) fun y hy => ?_))
    obtain ⟨odd, rfl, ho⟩ : ∃ odd, y = PyData.str odd ∧ WOk odd := odd29 y hy
    obtain ⟨rs', r1, r2, r3, r4, v7, e1, e2, e3, e4, e5, H', h7⟩ := bent_ways (v0 := some .dk) (v1 := some (.d (rowsD rs))) (v7 := none) (v8 := none) (k := k) H hr (by omega : c < 8) ho (by omega) (by omega)
    refine wSeqP e1 (wSeqP e2 (wSeqP e3 (wSeqP e4 (wSeqP e5 ?_))))
    by_cases c7 : c = 7
    · subst c7
      have e7 := h7 rfl
      subst e7
      refine ⟨true, rfl, (if_pos rfl).mpr ?_⟩
      refine ⟨_, rfl, ?_⟩
      refine ⟨_, rfl, _, rfl, callW1 rfl rfl (draw_nat (by decide) (by decide) (by omega) fun m hm => ?_)⟩
      refine ⟨_, mul_rep m (by omega), .list ((("zz" : Str) :: List.replicate m "?7").map PyData.str), addL (by rw [List.length_map, List.length_replicate]; show 1 + m ≤ 1000000; omega), by rw [List.length_map]; show _ < 1000000; omega, ?_⟩
      refine ⟨_, rfl, ?_⟩
      refine ⟨.rt (rowsD (rs' ++ [("zz" : Str) :: List.replicate m "?7"])), ?_, q _ _ ?_ (by omega)⟩
      · unfold rowsD
        rw [List.map_append]
        rfl
      · refine ⟨by rw [List.length_append, List.length_singleton]; exact Nat.succ_le_succ H.1, fun x hx => ?_⟩
        rcases List.mem_append.mp hx with hx | hx
        · exact ⟨Nat.le_succ_of_le (H.2 x hx).1, (H.2 x hx).2⟩
        · rw [List.mem_singleton.mp hx]
          refine ⟨by rw [List.length_cons, List.length_replicate]; omega, fun z hz => ?_⟩
          rcases List.mem_cons.mp hz with e | e
          · rw [e]
            exact ⟨by decide +kernel, by decide +kernel⟩
          · rw [(List.mem_replicate.mp e).2]
            exact ⟨by decide +kernel, by decide +kernel⟩
    · refine ⟨false, ?_, (if_neg Bool.false_ne_true).mpr ?_⟩
      · exact tb_is (op_is rfl rfl (by rw [eqD_int, decide_eq_false (by omega)]))
      · refine ⟨_, rfl, ?_⟩
        exact ⟨.rt (rowsD rs'), rfl, q _ _ H' (by omega)⟩
    )
end
end My
namespace My
open PySem PySem.Spec PyProof.Rows L2
section
variable [TbC] {P : Program} {w : World} {K : PySem.W.Frag} {mg : Str → Option Value} {base : Heap}
theorem sc_text_lines : FnScope ["text", "lines"] ["text"] (defScope s_text_lines) := ⟨rfl, rfl, rfl, by decide +kernel, rfl, by decide +kernel, by decide +kernel⟩
theorem okF_text_lines {f : Addr} {fd : FuncData} (F : Fun K "text_lines" "text_lines" s_text_lines f fd)  : FnOk P w K mg base CX0 1 f fd ["text"] (spP K F_text_lines) :=
  show FnOk P w K mg base CX0 1 f fd ["text"] (spP K (fnF 1 2 S_text_lines)) from
  fn_okF (S := S_text_lines) 1 2 F sc_text_lines rfl rfl (fun cdv A outer s H E hr => by
    have hu := hr.units
    have hv := Room.u65 hr
    exact (qss_cons (qs_set (i := 1) sc_text_lines.nd rfl (Or.inl rfl) (qd_mk (pe_bm PySem.F.plainAttrs_str PySem.F.slot_str_split PySem.F.type_str_split mt_split (qdv 0) (qda_cons qd_str qda_nil)) (rd_meth pu_split)))
      (qss_one (qs_ret (qd_if (qdt_cmp (op_eqU hu) pu_eq (qd_ix ix_seq pu_ix (qdv 1) (qd_neg qd_int)) qd_str (nomark _)) (qd_sl sl_U pu_sl (qdv 1) qdo_none (qdo_some (qd_neg qd_int))) (qdv 1))))))
   (show IsS _ S_text_lines from (is_seq (is_set (is_meth is_v (is_co is_c is_n))) (is_ret (is_if (is_tfE (is_op (is_op is_v (is_neg is_c)) is_c)) (is_sl is_v is_ofN (is_ofS (is_neg is_c))) is_v))))
end
end My
namespace My
open PySem PySem.Spec PyProof.Rows L2
section
variable [TbC] {P : Program} {w : World} {K : PySem.W.Frag} {mg : Str → Option Value} {base : Heap}
theorem sc_is_word : FnScope ["value", "sign"] ["value"] (defScope sIsWord) := ⟨rfl, rfl, rfl, by decide +kernel, rfl, by decide +kernel, by decide +kernel⟩
theorem okF_is_word {f : Addr} {fd : FuncData} (F : Fun K "is_word" "is_word" sIsWord f fd) (z_isinstance : mg "isinstance" = none) (z_str : mg "str" = none) (z_len : mg "len" = none) (z_all : mg "all" = none) (k_str : IsT K "str" (isC "str")) {t_LETTERS : Tok} (g_LETTERS : mg "LETTERS" = some (.str "abcdefghijklmnopqrstuvwxyz" t_LETTERS)) : FnOk P w K mg base CX0 1 f fd ["value"] (spP K F_is_word) :=
  show FnOk P w K mg base CX0 1 f fd ["value"] (spP K (fnF 1 2 S_is_word)) from
  fn_okF (S := S_is_word) 1 2 F sc_is_word rfl rfl (fun cdv A outer s H E hr => by
    have hu := hr.units
    have hv := Room.u65 hr
    exact (qss_cons (qs_if (qdt_not (qdt_val (qd_isi k_str (by rfl) z_isinstance (qdv 0) (by rfl) z_str boot_str))) (qss_one (qs_ret qd_bl)) qss_nil)
      (qss_one (qs_ret (qd_and (qd_chain op_le pu_cmp op_le pu_cmp qd_int (qd_callB cr_lenU pu_len (by rfl) z_len PySem.boot_len (qda_cons (qdv 0) qda_nil)) qd_int) (qd_one (qd_callB (cr_all rfl) pu_all (by rfl) z_all boot_all (qda_cons (qd_lc (own := [("sign", 1)]) rfl sc_is_word.nd (qdi_val (qdv 0)) (blkOk_by (own := [("sign", 1)]) (N := ["value", "sign"]) (sc := (defScope sIsWord)) (by decide +kernel)) (by decide) (fun _ _ _ _ _ => (qdg_name (i := 1) sc_is_word.nd rfl (Or.inl rfl))) (fun _ _ _ _ _ => qts_nil) (fun _ _ _ _ _ => (qd_cmp (op_inU hv) pu_in (qdv 1) (qd_glob rfl g_LETTERS) (by rfl)))) qda_nil))))))))
   (show IsS _ S_is_word from (is_seq (is_ifS (is_tfNot (is_tfE (is_isi is_v))) (is_ret is_c) is_nil) (is_ret (is_and (is_chain is_c (is_call (is_co is_v is_n)) is_c) (is_call (is_co (is_lc (is_afV is_v) is_tfYes (is_op is_v is_c)) is_n))))))
end
end My
namespace My
open PySem PySem.Spec PyProof.Rows L2
section
variable [TbC] {P : Program} {w : World} {K : PySem.W.Frag} {mg : Str → Option Value} {base : Heap}
theorem sc_is_unknown : FnScope ["value", "digits", "sign"] ["value"] (defScope sUnk) := ⟨rfl, rfl, rfl, by decide +kernel, rfl, by decide +kernel, by decide +kernel⟩
theorem okF_is_unknown {f : Addr} {fd : FuncData} (F : Fun K "is_unknown" "is_unknown" sUnk f fd) (z_isinstance : mg "isinstance" = none) (z_str : mg "str" = none) (z_len : mg "len" = none) (z_all : mg "all" = none) (k_str : IsT K "str" (isC "str")) {t_DIGITS : Tok} (g_DIGITS : mg "DIGITS" = some (.str "0123456789" t_DIGITS)) : FnOk P w K mg base CX0 1 f fd ["value"] (spP K F_is_unknown) :=
  show FnOk P w K mg base CX0 1 f fd ["value"] (spP K (fnF 1 3 S_is_unknown)) from
  fn_okF (S := S_is_unknown) 1 3 F sc_is_unknown rfl rfl (fun cdv A outer s H E hr => by
    have hu := hr.units
    have hv := Room.u65 hr
    exact (qss_cons (qs_if (qdt_W (qdw_or (qdt_not (qdt_val (qd_isi k_str (by rfl) z_isinstance (qdv 0) (by rfl) z_str boot_str))) (qdw_or1 (qdt_not (qdt_val (qd_mk (pe_bm PySem.F.plainAttrs_str PySem.F.slot_str_startswith PySem.F.type_str_startswith mt_startswith (qdv 0) (qda_cons qd_str qda_nil)) (rd_meth pu_starts))))))) (qss_one (qs_ret qd_bl)) qss_nil)
      (qss_cons (qs_set (i := 1) sc_is_unknown.nd rfl (Or.inl rfl) (qd_sl sl_U pu_sl (qdv 0) (qdo_some qd_int) qdo_none))
      (qss_one (qs_ret (qd_and (qd_chain op_le pu_cmp op_le pu_cmp qd_int (qd_callB cr_lenU pu_len (by rfl) z_len PySem.boot_len (qda_cons (qdv 1) qda_nil)) qd_int) (qd_and (qd_cmp (op_neU hu) pu_ne (qd_ix ix_seq pu_ix (qdv 1) qd_int) qd_str (nomark _)) (qd_one (qd_callB (cr_all rfl) pu_all (by rfl) z_all boot_all (qda_cons (qd_lc (own := [("sign", 2)]) rfl sc_is_unknown.nd (qdi_val (qdv 1)) (blkOk_by (own := [("sign", 2)]) (N := ["value", "digits", "sign"]) (sc := (defScope sUnk)) (by decide +kernel)) (by decide) (fun _ _ _ _ _ => (qdg_name (i := 2) sc_is_unknown.nd rfl (Or.inl rfl))) (fun _ _ _ _ _ => qts_nil) (fun _ _ _ _ _ => (qd_cmp (op_inU hv) pu_in (qdv 2) (qd_glob rfl g_DIGITS) (by rfl)))) qda_nil))))))))))
   (show IsS _ S_is_unknown from (is_seq (is_ifS (is_tfOr (is_tfNot (is_tfE (is_isi is_v))) (is_tfNot (is_tfE (is_meth is_v (is_co is_c is_n))))) (is_ret is_c) is_nil) (is_seq (is_set (is_sl is_v (is_ofS is_c) is_ofN)) (is_ret (is_and (is_chain is_c (is_call (is_co is_v is_n)) is_c) (is_and (is_op (is_op is_v is_c) is_c) (is_call (is_co (is_lc (is_afV is_v) is_tfYes (is_op is_v is_c)) is_n))))))))
end
end My
namespace My
open PySem PySem.Spec PyProof.Rows L2
section
variable [TbC] {P : Program} {w : World} {K : PySem.W.Frag} {mg : Str → Option Value} {base : Heap}
theorem sc_is_value : FnScope ["value"] ["value"] (defScope sIsValue) := ⟨rfl, rfl, rfl, by decide +kernel, rfl, by decide +kernel, by decide +kernel⟩
theorem okF_is_value {f : Addr} {fd : FuncData} (F : Fun K "is_value" "is_value" sIsValue f fd) {f_is_word : Addr} {d_is_word : FuncData} (G_is_word : FnOk P w K mg base CX0 1 f_is_word d_is_word ["value"] (spP K F_is_word)) (m_is_word : mg "is_word" = some (.ref f_is_word)) (k_is_word : PySem.W.keepIn K (.ref f_is_word) = true) (b_is_word : Binds K d_is_word ["value"] []) {f_is_unknown : Addr} {d_is_unknown : FuncData} (G_is_unknown : FnOk P w K mg base CX0 1 f_is_unknown d_is_unknown ["value"] (spP K F_is_unknown)) (m_is_unknown : mg "is_unknown" = some (.ref f_is_unknown)) (k_is_unknown : PySem.W.keepIn K (.ref f_is_unknown) = true) (b_is_unknown : Binds K d_is_unknown ["value"] []) : FnOk P w K mg base CX0 2 f fd ["value"] (spP K F_is_value) :=
  show FnOk P w K mg base CX0 2 f fd ["value"] (spP K (fnF 1 1 S_is_value)) from
  fn_okF (S := S_is_value) 1 1 F sc_is_value rfl rfl (fun cdv A outer s H E hr => by
    have hu := hr.units
    have hv := Room.u65 hr
    exact (qss_one (qs_ret (qd_or (qd_call G_is_word (hr.mono (by decide)) rfl m_is_word k_is_word b_is_word pass0 (qda_cons (qdv 0) qda_nil)) (qd_one (qd_call G_is_unknown (hr.mono (by decide)) rfl m_is_unknown k_is_unknown b_is_unknown pass0 (qda_cons (qdv 0) qda_nil)))))))
   (show IsS _ S_is_value from (is_ret (is_or (is_call (is_co is_v is_n)) (is_call (is_co is_v is_n)))))
end
end My
namespace My
open PySem PySem.Spec PyProof.Rows L2
section
variable [TbC] {P : Program} {w : World} {K : PySem.W.Frag} {mg : Str → Option Value} {base : Heap}
theorem sc_is_fact : FnScope ["value", "part"] ["value"] (defScope sIsFact) := ⟨rfl, rfl, rfl, by decide +kernel, rfl, by decide +kernel, by decide +kernel⟩
theorem okF_is_fact {f : Addr} {fd : FuncData} (F : Fun K "is_fact" "is_fact" sIsFact f fd) (z_isinstance : mg "isinstance" = none) (z_tuple : mg "tuple" = none) (z_len : mg "len" = none) (z_all : mg "all" = none) (k_tuple : IsT K "tuple" (isC "tuple")) {f_is_word : Addr} {d_is_word : FuncData} (G_is_word : FnOk P w K mg base CX0 1 f_is_word d_is_word ["value"] (spP K F_is_word)) (m_is_word : mg "is_word" = some (.ref f_is_word)) (k_is_word : PySem.W.keepIn K (.ref f_is_word) = true) (b_is_word : Binds K d_is_word ["value"] []) {f_is_value : Addr} {d_is_value : FuncData} (G_is_value : FnOk P w K mg base CX0 2 f_is_value d_is_value ["value"] (spP K F_is_value)) (m_is_value : mg "is_value" = some (.ref f_is_value)) (k_is_value : PySem.W.keepIn K (.ref f_is_value) = true) (b_is_value : Binds K d_is_value ["value"] []) : FnOk P w K mg base CX0 3 f fd ["value"] (spP K F_is_fact) :=
  show FnOk P w K mg base CX0 3 f fd ["value"] (spP K (fnF 1 2 S_is_fact)) from
  fn_okF (S := S_is_fact) 1 2 F sc_is_fact rfl rfl (fun cdv A outer s H E hr => by
    have hu := hr.units
    have hv := Room.u65 hr
    exact (qss_cons (qs_if (qdt_W (qdw_or (qdt_not (qdt_val (qd_isi k_tuple (by rfl) z_isinstance (qdv 0) (by rfl) z_tuple boot_tuple))) (qdw_or1 (qdt_not (qdt_chain op_le pu_cmp op_le pu_cmp qd_int (qd_callB cr_lenU pu_len (by rfl) z_len PySem.boot_len (qda_cons (qdv 0) qda_nil)) qd_int))))) (qss_one (qs_ret qd_bl)) qss_nil)
      (qss_one (qs_ret (qd_and (qd_call G_is_word (hr.mono (by decide)) rfl m_is_word k_is_word b_is_word pass0 (qda_cons (qd_ix ix_seq pu_ix (qdv 0) qd_int) qda_nil)) (qd_one (qd_callB (cr_all rfl) pu_all (by rfl) z_all boot_all (qda_cons (qd_lc (own := [("part", 1)]) rfl sc_is_fact.nd (qdi_val (qd_sl sl_U pu_sl (qdv 0) (qdo_some qd_int) qdo_none)) (blkOk_by (own := [("part", 1)]) (N := ["value", "part"]) (sc := (defScope sIsFact)) (by decide +kernel)) (by decide) (fun _ _ _ _ _ => (qdg_name (i := 1) sc_is_fact.nd rfl (Or.inl rfl))) (fun _ _ _ _ _ => qts_nil) (fun _ _ _ _ _ => (qd_call G_is_value (hr.mono (by decide)) rfl m_is_value k_is_value b_is_value pass0 (qda_cons (qdv 1) qda_nil)))) qda_nil))))))))
   (show IsS _ S_is_fact from (is_seq (is_ifS (is_tfOr (is_tfNot (is_tfE (is_isi is_v))) (is_tfNot (is_tfE (is_chain is_c (is_call (is_co is_v is_n)) is_c)))) (is_ret is_c) is_nil) (is_ret (is_and (is_call (is_co (is_op is_v is_c) is_n)) (is_call (is_co (is_lc (is_afV (is_sl is_v (is_ofS is_c) is_ofN)) is_tfYes (is_call (is_co is_v is_n))) is_n))))))
end
end My
namespace My
open PySem PySem.Spec PyProof.Rows L2
section
variable [TbC] {P : Program} {w : World} {K : PySem.W.Frag} {mg : Str → Option Value} {base : Heap}
theorem sc_may_follow : FnScope ["fact", "then"] ["fact", "then"] (defScope sMay) := ⟨rfl, rfl, rfl, by decide +kernel, rfl, by decide +kernel, by decide +kernel⟩
theorem okF_may_follow {f : Addr} {fd : FuncData} (F : Fun K "may_follow" "may_follow" sMay f fd) (z_len : mg "len" = none) : FnOk P w K mg base CX0 1 f fd ["fact", "then"] (spP K F_may_follow) :=
  show FnOk P w K mg base CX0 1 f fd ["fact", "then"] (spP K (fnF 2 2 S_may_follow)) from
  fn_okF (S := S_may_follow) 2 2 F sc_may_follow rfl rfl (fun cdv A outer s H E hr => by
    have hu := hr.units
    have hv := Room.u65 hr
    exact (qss_one (qs_ret (qd_and (qd_cmp (op_ltX (lt0 hu)) pu_ltX (qdv 0) (qdv 1) (nomark _)) (qd_one (qd_or (qd_cmp (op_neU hu) pu_ne (qd_ix ix_seq pu_ix (qdv 0) qd_int) (qd_ix ix_seq pu_ix (qdv 1) qd_int) (nomark _)) (qd_one (qd_cmp (op_eqU hu) pu_eq (qd_callB cr_lenU pu_len (by rfl) z_len PySem.boot_len (qda_cons (qdv 0) qda_nil)) (qd_callB cr_lenU pu_len (by rfl) z_len PySem.boot_len (qda_cons (qdv 1) qda_nil)) (nomark _)))))))))
   (show IsS _ S_may_follow from (is_ret (is_and (is_op is_v is_v) (is_or (is_op (is_op is_v is_c) (is_op is_v is_c)) (is_op (is_call (is_co is_v is_n)) (is_call (is_co is_v is_n)))))))
end
end My
namespace My
open PySem PySem.Spec PyProof.Rows L2
section
variable [TbC] {P : Program} {w : World} {K : PySem.W.Frag} {mg : Str → Option Value} {base : Heap}
theorem sc_is_store : FnScope ["value", "fact", "then"] ["value"] (defScope sIsStore) := ⟨rfl, rfl, rfl, by decide +kernel, rfl, by decide +kernel, by decide +kernel⟩
theorem okF_is_store {f : Addr} {fd : FuncData} (F : Fun K "is_store" "is_store" sIsStore f fd) (z_isinstance : mg "isinstance" = none) (z_tuple : mg "tuple" = none) (z_all : mg "all" = none) (z_zip : mg "zip" = none) (k_tuple : IsT K "tuple" (isC "tuple")) {f_is_fact : Addr} {d_is_fact : FuncData} (G_is_fact : FnOk P w K mg base CX0 3 f_is_fact d_is_fact ["value"] (spP K F_is_fact)) (m_is_fact : mg "is_fact" = some (.ref f_is_fact)) (k_is_fact : PySem.W.keepIn K (.ref f_is_fact) = true) (b_is_fact : Binds K d_is_fact ["value"] []) {f_may_follow : Addr} {d_may_follow : FuncData} (G_may_follow : FnOk P w K mg base CX0 1 f_may_follow d_may_follow ["fact", "then"] (spP K F_may_follow)) (m_may_follow : mg "may_follow" = some (.ref f_may_follow)) (k_may_follow : PySem.W.keepIn K (.ref f_may_follow) = true) (b_may_follow : Binds K d_may_follow ["fact", "then"] []) : FnOk P w K mg base CX0 4 f fd ["value"] (spP K F_is_store) :=
  show FnOk P w K mg base CX0 4 f fd ["value"] (spP K (fnF 1 3 S_is_store)) from
  fn_okF (S := S_is_store) 1 3 F sc_is_store rfl rfl (fun cdv A outer s H E hr => by
    have hu := hr.units
    have hv := Room.u65 hr
    exact (qss_cons (qs_if (qdt_W (qdw_or (qdt_not (qdt_val (qd_isi k_tuple (by rfl) z_isinstance (qdv 0) (by rfl) z_tuple boot_tuple))) (qdw_or1 (qdt_not (qdt_val (qd_callB (cr_all rfl) pu_all (by rfl) z_all boot_all (qda_cons (qd_lc (own := [("fact", 1)]) rfl sc_is_store.nd (qdi_val (qdv 0)) (blkOk_by (own := [("fact", 1)]) (N := ["value", "fact", "then"]) (sc := (defScope sIsStore)) (by decide +kernel)) (by decide) (fun _ _ _ _ _ => (qdg_name (i := 1) sc_is_store.nd rfl (Or.inl rfl))) (fun _ _ _ _ _ => qts_nil) (fun _ _ _ _ _ => (qd_call G_is_fact (hr.mono (by decide)) rfl m_is_fact k_is_fact b_is_fact pass0 (qda_cons (qdv 1) qda_nil)))) qda_nil))))))) (qss_one (qs_ret qd_bl)) qss_nil)
      (qss_one (qs_ret (qd_callB (cr_all rfl) pu_all (by rfl) z_all boot_all (qda_cons (qd_lc (own := [("fact", 1), ("then", 2)]) rfl sc_is_store.nd (qdi_zipK (by rfl) z_zip (qda_cons (qdv 0) (qda_cons (qd_sl sl_U pu_sl (qdv 0) (qdo_some qd_int) qdo_none) qda_nil))) (blkOk_by (own := [("fact", 1), ("then", 2)]) (N := ["value", "fact", "then"]) (sc := (defScope sIsStore)) (by decide +kernel)) (by decide) (fun _ _ _ _ _ => (qdg_tup (n := 2) rfl (qdgs_cons (qdg_name (i := 1) sc_is_store.nd rfl (Or.inl rfl)) (qdgs_cons (qdg_name (i := 2) sc_is_store.nd rfl (Or.inl rfl)) qdgs_nil)))) (fun _ _ _ _ _ => qts_nil) (fun _ _ _ _ _ => (qd_call G_may_follow (hr.mono (by decide)) rfl m_may_follow k_may_follow b_may_follow pass0 (qda_cons (qdv 1) (qda_cons (qdv 2) qda_nil))))) qda_nil))))))
   (show IsS _ S_is_store from (is_seq (is_ifS (is_tfOr (is_tfNot (is_tfE (is_isi is_v))) (is_tfNot (is_tfE (is_call (is_co (is_lc (is_afV is_v) is_tfYes (is_call (is_co is_v is_n))) is_n))))) (is_ret is_c) is_nil) (is_ret (is_call (is_co (is_lc (is_afZk (is_co is_v (is_co (is_sl is_v (is_ofS is_c) is_ofN) is_n))) is_tfYes (is_call (is_co is_v (is_co is_v is_n)))) is_n)))))
end
end My
namespace My
open PySem PySem.Spec PyProof.Rows L2
section
variable [TbC] {P : Program} {w : World} {K : PySem.W.Frag} {mg : Str → Option Value} {base : Heap}
theorem sc_unknowns : FnScope ["store", "fact", "part"] ["store"] (defScope sUnkS) := ⟨rfl, rfl, rfl, by decide +kernel, rfl, by decide +kernel, by decide +kernel⟩
theorem okF_unknowns {f : Addr} {fd : FuncData} (F : Fun K "unknowns" "unknowns" sUnkS f fd) (z_tuple : mg "tuple" = none) (z_sorted : mg "sorted" = none) {f_is_unknown : Addr} {d_is_unknown : FuncData} (G_is_unknown : FnOk P w K mg base CX0 1 f_is_unknown d_is_unknown ["value"] (spP K F_is_unknown)) (m_is_unknown : mg "is_unknown" = some (.ref f_is_unknown)) (k_is_unknown : PySem.W.keepIn K (.ref f_is_unknown) = true) (b_is_unknown : Binds K d_is_unknown ["value"] []) : FnOk P w K mg base CX0 2 f fd ["store"] (spP K F_unknowns) :=
  show FnOk P w K mg base CX0 2 f fd ["store"] (spP K (fnF 1 3 S_unknowns)) from
  fn_okF (S := S_unknowns) 1 3 F sc_unknowns rfl rfl (fun cdv A outer s H E hr => by
    have hu := hr.units
    have hv := Room.u65 hr
    exact (qss_one (qs_ret (qd_callTy cr_tupU pu_tuple (by rfl) z_tuple boot_tuple (qda_cons (qd_sort2S (by rfl) z_sorted (own := [("fact", 1), ("part", 2)]) (vs1 := [2]) rfl sc_unknowns.nd hu (qdi_val (qdv 0)) (blkOk_by (own := [("fact", 1), ("part", 2)]) (N := ["store", "fact", "part"]) (sc := (defScope sUnkS)) (by decide +kernel)) (by decide) (by decide) (by decide) (fun _ _ _ _ _ => (qdg_name (i := 1) sc_unknowns.nd rfl (Or.inl rfl))) (fun _ _ _ _ _ => qts_nil) (fun _ _ _ _ _ => (qdi_val (qd_sl sl_U pu_sl (qdv 1) (qdo_some qd_int) qdo_none))) (fun _ _ _ _ _ => (qdg_name (i := 2) sc_unknowns.nd rfl (Or.inl rfl))) (fun _ _ _ _ _ => (qts_one (qdt_val (qd_call G_is_unknown (hr.mono (by decide)) rfl m_is_unknown k_is_unknown b_is_unknown pass0 (qda_cons (qdv 2) qda_nil))))) (fun _ _ _ _ _ => (qdv 2))) qda_nil)))))
   (show IsS _ S_unknowns from (is_ret (is_call (is_co (is_sort (is_afV is_v) is_tfYes (is_two (is_afV (is_sl is_v (is_ofS is_c) is_ofN)) (is_tfE (is_call (is_co is_v is_n))) (is_put is_v))) is_n))))
end
end My
namespace My
open PySem PySem.Spec PyProof.Rows L2
section
variable [TbC] {P : Program} {w : World} {K : PySem.W.Frag} {mg : Str → Option Value} {base : Heap}
theorem sc_may_be_read : FnScope ["facts"] ["facts"] (defScope s_may_be_read) := ⟨rfl, rfl, rfl, by decide +kernel, rfl, by decide +kernel, by decide +kernel⟩
theorem okF_may_be_read {f : Addr} {fd : FuncData} (F : Fun K "may_be_read" "may_be_read" s_may_be_read f fd) (z_len : mg "len" = none) {t_MOST_FACTS : Tok} (g_MOST_FACTS : mg "MOST_FACTS" = some (.int 30 t_MOST_FACTS)) {t_MOST_UNKNOWNS : Tok} (g_MOST_UNKNOWNS : mg "MOST_UNKNOWNS" = some (.int 5 t_MOST_UNKNOWNS)) {f_is_store : Addr} {d_is_store : FuncData} (G_is_store : FnOk P w K mg base CX0 4 f_is_store d_is_store ["value"] (spP K F_is_store)) (m_is_store : mg "is_store" = some (.ref f_is_store)) (k_is_store : PySem.W.keepIn K (.ref f_is_store) = true) (b_is_store : Binds K d_is_store ["value"] []) {f_unknowns : Addr} {d_unknowns : FuncData} (G_unknowns : FnOk P w K mg base CX0 2 f_unknowns d_unknowns ["store"] (spP K F_unknowns)) (m_unknowns : mg "unknowns" = some (.ref f_unknowns)) (k_unknowns : PySem.W.keepIn K (.ref f_unknowns) = true) (b_unknowns : Binds K d_unknowns ["store"] []) : FnOk P w K mg base CX0 5 f fd ["facts"] (spP K F_may_be_read) :=
  show FnOk P w K mg base CX0 5 f fd ["facts"] (spP K (fnF 1 1 S_may_be_read)) from
  fn_okF (S := S_may_be_read) 1 1 F sc_may_be_read rfl rfl (fun cdv A outer s H E hr => by
    have hu := hr.units
    have hv := Room.u65 hr
    exact (qss_one (qs_ret (qd_and (qd_call G_is_store (hr.mono (by decide)) rfl m_is_store k_is_store b_is_store pass0 (qda_cons (qdv 0) qda_nil)) (qd_and (qd_cmp op_le pu_cmp (qd_callB cr_lenU pu_len (by rfl) z_len PySem.boot_len (qda_cons (qdv 0) qda_nil)) (qd_globI rfl g_MOST_FACTS) (nomark _)) (qd_one (qd_cmp op_le pu_cmp (qd_callB cr_lenU pu_len (by rfl) z_len PySem.boot_len (qda_cons (qd_call G_unknowns (hr.mono (by decide)) rfl m_unknowns k_unknowns b_unknowns pass0 (qda_cons (qdv 0) qda_nil)) qda_nil)) (qd_globI rfl g_MOST_UNKNOWNS) (nomark _))))))))
   (show IsS _ S_may_be_read from (is_ret (is_and (is_call (is_co is_v is_n)) (is_and (is_op (is_call (is_co is_v is_n)) is_c) (is_op (is_call (is_co (is_call (is_co is_v is_n)) is_n)) is_c)))))
end
end My
namespace My
open PySem PySem.Spec PyProof.Rows L2
section
variable [TbC] {P : Program} {w : World} {K : PySem.W.Frag} {mg : Str → Option Value} {base : Heap}
theorem sc_fact_fault : FnScope ["store", "words", "at", "word"] ["store", "words"] (defScope s_fact_fault) := ⟨rfl, rfl, rfl, by decide +kernel, rfl, by decide +kernel, by decide +kernel⟩
theorem okF_fact_fault {f : Addr} {fd : FuncData} (F : Fun K "fact_fault" "fact_fault" s_fact_fault f fd) (z_enumerate : mg "enumerate" = none) (z_len : mg "len" = none) {t_MOST_VALUES : Tok} (g_MOST_VALUES : mg "MOST_VALUES" = some (.int 4 t_MOST_VALUES)) {f_is_word : Addr} {d_is_word : FuncData} (G_is_word : FnOk P w K mg base CX0 1 f_is_word d_is_word ["value"] (spP K F_is_word)) (m_is_word : mg "is_word" = some (.ref f_is_word)) (k_is_word : PySem.W.keepIn K (.ref f_is_word) = true) (b_is_word : Binds K d_is_word ["value"] []) {f_is_value : Addr} {d_is_value : FuncData} (G_is_value : FnOk P w K mg base CX0 2 f_is_value d_is_value ["value"] (spP K F_is_value)) (m_is_value : mg "is_value" = some (.ref f_is_value)) (k_is_value : PySem.W.keepIn K (.ref f_is_value) = true) (b_is_value : Binds K d_is_value ["value"] []) {f_may_be_read : Addr} {d_may_be_read : FuncData} (G_may_be_read : FnOk P w K mg base CX0 5 f_may_be_read d_may_be_read ["facts"] (spP K F_may_be_read)) (m_may_be_read : mg "may_be_read" = some (.ref f_may_be_read)) (k_may_be_read : PySem.W.keepIn K (.ref f_may_be_read) = true) (b_may_be_read : Binds K d_may_be_read ["facts"] []) : FnOk P w K mg base CX0 6 f fd ["store", "words"] (spP K F_fact_fault) :=
  show FnOk P w K mg base CX0 6 f fd ["store", "words"] (spP K (fnF 2 4 S_fact_fault)) from
  fn_okF (S := S_fact_fault) 2 4 F sc_fact_fault rfl rfl (fun cdv A outer s H E hr => by
    have hu := hr.units
    have hv := Room.u65 hr
    exact (qss_cons (qs_if (qdt_not (qdt_val (qd_call G_is_word (hr.mono (by decide)) rfl m_is_word k_is_word b_is_word pass0 (qda_cons (qd_ix ix_seq pu_ix (qdv 1) qd_int) qda_nil)))) (qss_one (qs_ret qd_int)) qss_nil)
      (qss_cons (qs_for PassesOwn.never rfl (qdi_enumS (by rfl) z_enumerate (qd_sl sl_U pu_sl (qdv 1) (qdo_some qd_int) qdo_none) pe_int) (qdg_tup (n := 2) rfl (qdgs_cons (qdg_name (i := 2) sc_fact_fault.nd rfl (Or.inl rfl)) (qdgs_cons (qdg_name (i := 3) sc_fact_fault.nd rfl (Or.inl rfl)) qdgs_nil))) (qss_one (qs_if (qdt_W (qdw_or (qdt_cmp op_gt pu_cmp (qdv 2) (qd_globI rfl g_MOST_VALUES) (nomark _)) (qdw_or1 (qdt_not (qdt_val (qd_call G_is_value (hr.mono (by decide)) rfl m_is_value k_is_value b_is_value pass0 (qda_cons (qdv 3) qda_nil))))))) (qss_one (qs_ret (qdv 2))) qss_nil)))
      (qss_cons (qs_if (qdt_cmp (op_eqU hu) pu_eq (qd_callB cr_lenU pu_len (by rfl) z_len PySem.boot_len (qda_cons (qdv 1) qda_nil)) qd_int (nomark _)) (qss_one (qs_ret qd_int)) qss_nil)
      (qss_one (qs_ret (qd_if (qdt_val (qd_call G_may_be_read (hr.mono (by decide)) rfl m_may_be_read k_may_be_read b_may_be_read pass0 (qda_cons (qd_op op_addU pu_add (qdv 0) (qd_tup (qda_cons (qdv 1) qda_nil))) qda_nil))) qd_non qd_int)))))))
   (show IsS _ S_fact_fault from (is_seq (is_ifS (is_tfNot (is_tfE (is_call (is_co (is_op is_v is_c) is_n)))) (is_ret is_c) is_nil) (is_seq (is_for (is_afEnS (is_sl is_v (is_ofS is_c) is_ofN)) (is_ifS (is_tfOr (is_tfE (is_op is_v is_c)) (is_tfNot (is_tfE (is_call (is_co is_v is_n))))) (is_ret is_v) is_nil)) (is_seq (is_ifS (is_tfE (is_op (is_call (is_co is_v is_n)) is_c)) (is_ret is_c) is_nil) (is_ret (is_if (is_tfE (is_call (is_co (is_op is_v (is_tup (is_co is_v is_n))) is_n))) is_c is_c))))))
end
end My
namespace My
open PySem PySem.Spec PyProof.Rows L2
section
variable [TbC] {P : Program} {w : World} {K : PySem.W.Frag} {mg : Str → Option Value} {base : Heap}
theorem sc__law_read : FnScope ["_law_text", "e"] ["_law_text"] (defScope s__law_read) := ⟨rfl, rfl, rfl, by decide +kernel, rfl, by decide +kernel, by decide +kernel⟩
theorem okF__law_read {f : Addr} {fd : FuncData} (F : Fun K "_law_read" "_law_read" s__law_read f fd) {cB cC fI : Addr} {dI : FuncData} (E_BadText : ExCF P w K mg base "BadText" "line" "word" cC fI dI) (O_CoreError : ExTf K mg "CoreError" "line" "word" cB cC) (z_isinstance : mg "isinstance" = none) (z_ValueError : mg "ValueError" = none) {f_read_store : Addr} {d_read_store : FuncData} (G_read_store : FnOk P w K mg base (L2.CX P w) 7 f_read_store d_read_store ["text"] (spXf K (.ref cC) FP_read_store)) (m_read_store : mg "read_store" = some (.ref f_read_store)) (k_read_store : PySem.W.keepIn K (.ref f_read_store) = true) (b_read_store : Binds K d_read_store ["text"] []) : FnOk P w K mg base CX0 8 f fd ["_law_text"] (spP K F__law_read) :=
  show FnOk P w K mg base CX0 8 f fd ["_law_text"] (spP K (fnF 1 2 S__law_read)) from
  fn_okF (S := S__law_read) 1 2 F sc__law_read rfl rfl (fun cdv A outer s H E hr => by
    have hu := hr.units
    have hv := Room.u65 hr
    exact (qss_one (qs_tryF (i := 1) rfl rfl sc__law_read.nd rfl rfl O_CoreError ⟨rfl, by decide, .inl O_CoreError.g⟩ G_read_store (hr.mono (by decide)) rfl m_read_store k_read_store b_read_store (fun pn xe => (qda_cons (qdv 0) qda_nil)) (fun a dd oe pn hz hf => by exact (PW.pt (pw_orEf (b := false) (c := false) (by exact (pt_notEf (b := true) (pt_isEf (pe_isEf (n := "e") O_CoreError.e hz hf rfl z_isinstance rfl (Or.inl rfl) (pe_glob (v := .ref cC) rfl E_BadText.g rfl) (fun u h => h) O_CoreError.c)))) (pw_orEf1 (by exact (pt_notEf (b := true) (pt_isEf (pe_isEf (n := "e") O_CoreError.e hz hf rfl z_isinstance rfl (Or.inl rfl) (pe_bltn (v := .ty "ValueError") rfl z_ValueError rfl rfl) (fun u h => h) O_CoreError.v)))))))) (fun a oe pn => pss_one (ps_ret (pe_tupK (pa_cons pe_str (pa_cons pe_non pa_nil rfl) rfl)))) (Or.inl rfl))))
   (show IsS _ S__law_read from (is_tryF (is_co is_v is_n)))
end
end My
namespace My
open PySem PySem.Spec PyProof.Rows L2
section
variable [TbC] {P : Program} {w : World} {K : PySem.W.Frag} {mg : Str → Option Value} {base : Heap}
theorem sc__law_is_word : FnScope ["_law_value", "_law_sign"] ["_law_value"] (defScope sLIsWord) := ⟨rfl, rfl, rfl, by decide +kernel, rfl, by decide +kernel, by decide +kernel⟩
theorem okF__law_is_word {f : Addr} {fd : FuncData} (F : Fun K "_law_is_word" "_law_is_word" sLIsWord f fd) (z_isinstance : mg "isinstance" = none) (z_str : mg "str" = none) (z_len : mg "len" = none) (k_str : IsT K "str" (isC "str")) : FnOk P w K mg base CX0 1 f fd ["_law_value"] (spP K F__law_is_word) :=
  show FnOk P w K mg base CX0 1 f fd ["_law_value"] (spP K (fnF 1 2 S__law_is_word)) from
  fn_okF (S := S__law_is_word) 1 2 F sc__law_is_word rfl rfl (fun cdv A outer s H E hr => by
    have hu := hr.units
    have hv := Room.u65 hr
    exact (qss_cons (qs_if (qdt_W (qdw_or (qdt_not (qdt_val (qd_isi k_str (by rfl) z_isinstance (qdv 0) (by rfl) z_str boot_str))) (qdw_or1 (qdt_not (qdt_chain op_le pu_cmp op_le pu_cmp qd_int (qd_callB cr_lenU pu_len (by rfl) z_len PySem.boot_len (qda_cons (qdv 0) qda_nil)) qd_int))))) (qss_one (qs_ret qd_bl)) qss_nil)
      (qss_one (qs_ret (qd_cmp (op_eqU hu) pu_eq (qd_lc (own := [("_law_sign", 1)]) rfl sc__law_is_word.nd (qdi_val (qdv 0)) (blkOk_by (own := [("_law_sign", 1)]) (N := ["_law_value", "_law_sign"]) (sc := (defScope sLIsWord)) (by decide +kernel)) (by decide) (fun _ _ _ _ _ => (qdg_name (i := 1) sc__law_is_word.nd rfl (Or.inl rfl))) (fun _ _ _ _ _ => (qts_one (qdt_cmp (op_notInU hv) pu_notIn (qdv 1) qd_str (by rfl)))) (fun _ _ _ _ _ => qd_int)) (qd_lst qda_nil) (nomark _))))))
   (show IsS _ S__law_is_word from (is_seq (is_ifS (is_tfOr (is_tfNot (is_tfE (is_isi is_v))) (is_tfNot (is_tfE (is_chain is_c (is_call (is_co is_v is_n)) is_c)))) (is_ret is_c) is_nil) (is_ret (is_op (is_lc (is_afV is_v) (is_tfE (is_op is_v is_c)) is_c) (is_lst is_n)))))
end
end My
namespace My
open PySem PySem.Spec PyProof.Rows L2
section
variable [TbC] {P : Program} {w : World} {K : PySem.W.Frag} {mg : Str → Option Value} {base : Heap}
theorem sc__law_is_unknown : FnScope ["_law_value", "_law_sign"] ["_law_value"] (defScope sLIsUnk) := ⟨rfl, rfl, rfl, by decide +kernel, rfl, by decide +kernel, by decide +kernel⟩
theorem okF__law_is_unknown {f : Addr} {fd : FuncData} (F : Fun K "_law_is_unknown" "_law_is_unknown" sLIsUnk f fd) (z_isinstance : mg "isinstance" = none) (z_str : mg "str" = none) (z_len : mg "len" = none) (k_str : IsT K "str" (isC "str")) : FnOk P w K mg base CX0 1 f fd ["_law_value"] (spP K F__law_is_unknown) :=
  show FnOk P w K mg base CX0 1 f fd ["_law_value"] (spP K (fnF 1 2 S__law_is_unknown)) from
  fn_okF (S := S__law_is_unknown) 1 2 F sc__law_is_unknown rfl rfl (fun cdv A outer s H E hr => by
    have hu := hr.units
    have hv := Room.u65 hr
    exact (qss_cons (qs_if (qdt_W (qdw_or (qdt_not (qdt_val (qd_isi k_str (by rfl) z_isinstance (qdv 0) (by rfl) z_str boot_str))) (qdw_or (qdt_not (qdt_chain op_le pu_cmp op_le pu_cmp qd_int (qd_callB cr_lenU pu_len (by rfl) z_len PySem.boot_len (qda_cons (qdv 0) qda_nil)) qd_int)) (qdw_or (qdt_cmp (op_neU hu) pu_ne (qd_ix ix_seq pu_ix (qdv 0) qd_int) qd_str (nomark _)) (qdw_or1 (qdt_cmp (op_eqU hu) pu_eq (qd_ix ix_seq pu_ix (qdv 0) qd_int) qd_str (nomark _))))))) (qss_one (qs_ret qd_bl)) qss_nil)
      (qss_one (qs_ret (qd_cmp (op_eqU hu) pu_eq (qd_lc (own := [("_law_sign", 1)]) rfl sc__law_is_unknown.nd (qdi_val (qd_sl sl_U pu_sl (qdv 0) (qdo_some qd_int) qdo_none)) (blkOk_by (own := [("_law_sign", 1)]) (N := ["_law_value", "_law_sign"]) (sc := (defScope sLIsUnk)) (by decide +kernel)) (by decide) (fun _ _ _ _ _ => (qdg_name (i := 1) sc__law_is_unknown.nd rfl (Or.inl rfl))) (fun _ _ _ _ _ => (qts_one (qdt_cmp (op_notInU hv) pu_notIn (qdv 1) qd_str (by rfl)))) (fun _ _ _ _ _ => qd_int)) (qd_lst qda_nil) (nomark _))))))
   (show IsS _ S__law_is_unknown from (is_seq (is_ifS (is_tfOr (is_tfNot (is_tfE (is_isi is_v))) (is_tfOr (is_tfNot (is_tfE (is_chain is_c (is_call (is_co is_v is_n)) is_c))) (is_tfOr (is_tfE (is_op (is_op is_v is_c) is_c)) (is_tfE (is_op (is_op is_v is_c) is_c))))) (is_ret is_c) is_nil) (is_ret (is_op (is_lc (is_afV (is_sl is_v (is_ofS is_c) is_ofN)) (is_tfE (is_op is_v is_c)) is_c) (is_lst is_n)))))
end
end My
namespace My
open PySem PySem.Spec PyProof.Rows L2
section
variable [TbC] {P : Program} {w : World} {K : PySem.W.Frag} {mg : Str → Option Value} {base : Heap}
theorem sc__law_wrong : FnScope ["_law_words", "_law_k"] ["_law_words"] (defScope s__law_wrong) := ⟨rfl, rfl, rfl, by decide +kernel, rfl, by decide +kernel, by decide +kernel⟩
theorem okF__law_wrong {f : Addr} {fd : FuncData} (F : Fun K "_law_wrong" "_law_wrong" s__law_wrong f fd) (z_len : mg "len" = none) (z_range : mg "range" = none) {f__law_is_word : Addr} {d__law_is_word : FuncData} (G__law_is_word : FnOk P w K mg base CX0 1 f__law_is_word d__law_is_word ["_law_value"] (spP K F__law_is_word)) (m__law_is_word : mg "_law_is_word" = some (.ref f__law_is_word)) (k__law_is_word : PySem.W.keepIn K (.ref f__law_is_word) = true) (b__law_is_word : Binds K d__law_is_word ["_law_value"] []) {f__law_is_unknown : Addr} {d__law_is_unknown : FuncData} (G__law_is_unknown : FnOk P w K mg base CX0 1 f__law_is_unknown d__law_is_unknown ["_law_value"] (spP K F__law_is_unknown)) (m__law_is_unknown : mg "_law_is_unknown" = some (.ref f__law_is_unknown)) (k__law_is_unknown : PySem.W.keepIn K (.ref f__law_is_unknown) = true) (b__law_is_unknown : Binds K d__law_is_unknown ["_law_value"] []) : FnOk P w K mg base CX0 2 f fd ["_law_words"] (spP K F__law_wrong) :=
  show FnOk P w K mg base CX0 2 f fd ["_law_words"] (spP K (fnF 1 2 S__law_wrong)) from
  fn_okF (S := S__law_wrong) 1 2 F sc__law_wrong rfl rfl (fun cdv A outer s H E hr => by
    have hu := hr.units
    have hv := Room.u65 hr
    exact (qss_cons (qs_if (qdt_not (qdt_val (qd_call G__law_is_word (hr.mono (by decide)) rfl m__law_is_word k__law_is_word b__law_is_word pass0 (qda_cons (qd_ix ix_seq pu_ix (qdv 0) qd_int) qda_nil)))) (qss_one (qs_ret qd_int)) qss_nil)
      (qss_cons (qs_if (qdt_cmp (op_eqU hu) pu_eq (qd_callB cr_lenU pu_len (by rfl) z_len PySem.boot_len (qda_cons (qdv 0) qda_nil)) qd_int (nomark _)) (qss_one (qs_ret qd_int)) qss_nil)
      (qss_cons (qs_for PassesOwn.never rfl (qdi_range2 (by rfl) z_range (qda_cons qd_int (qda_cons (qd_callB cr_lenU pu_len (by rfl) z_len PySem.boot_len (qda_cons (qdv 0) qda_nil)) qda_nil))) (qdg_name (i := 1) sc__law_wrong.nd rfl (Or.inl rfl)) (qss_one (qs_if (qdt_W (qdw_or (qdt_cmp op_gt pu_cmp (qdv 1) qd_int (nomark _)) (qdw_or1 (qdt_W (qdw_and (qdt_not (qdt_val (qd_call G__law_is_word (hr.mono (by decide)) rfl m__law_is_word k__law_is_word b__law_is_word pass0 (qda_cons (qd_ix ix_seq pu_ix (qdv 0) (qdv 1)) qda_nil)))) (qdw_and1 (qdt_not (qdt_val (qd_call G__law_is_unknown (hr.mono (by decide)) rfl m__law_is_unknown k__law_is_unknown b__law_is_unknown pass0 (qda_cons (qd_ix ix_seq pu_ix (qdv 0) (qdv 1)) qda_nil)))))))))) (qss_one (qs_ret (qdv 1))) qss_nil)))
      (qss_one (qs_ret (qd_neg qd_int)))))))
   (show IsS _ S__law_wrong from (is_seq (is_ifS (is_tfNot (is_tfE (is_call (is_co (is_op is_v is_c) is_n)))) (is_ret is_c) is_nil) (is_seq (is_ifS (is_tfE (is_op (is_call (is_co is_v is_n)) is_c)) (is_ret is_c) is_nil) (is_seq (is_for (is_afR2 (is_co is_c (is_co (is_call (is_co is_v is_n)) is_n))) (is_ifS (is_tfOr (is_tfE (is_op is_v is_c)) (is_tfAnd (is_tfNot (is_tfE (is_call (is_co (is_op is_v is_v) is_n)))) (is_tfNot (is_tfE (is_call (is_co (is_op is_v is_v) is_n)))))) (is_ret is_v) is_nil)) (is_ret (is_neg is_c))))))
end
end My
namespace My
open PySem PySem.Spec PyProof.Rows L2
section
variable [TbC] {P : Program} {w : World} {K : PySem.W.Frag} {mg : Str → Option Value} {base : Heap}
theorem sc__law_names : FnScope ["_law_store_here", "_law_row", "_law_fact", "_law_value"] ["_law_store_here"] (defScope sNames) := ⟨rfl, rfl, rfl, by decide +kernel, rfl, by decide +kernel, by decide +kernel⟩
theorem okF__law_names {f : Addr} {fd : FuncData} (F : Fun K "_law_names" "_law_names" sNames f fd) (z_tuple : mg "tuple" = none) (z_sorted : mg "sorted" = none) (z_set : mg "set" = none) : FnOk P w K mg base CX0 1 f fd ["_law_store_here"] (spP K F__law_names) :=
  show FnOk P w K mg base CX0 1 f fd ["_law_store_here"] (spP K (fnF 1 4 S__law_names)) from
  fn_okF (S := S__law_names) 1 4 F sc__law_names rfl rfl (fun cdv A outer s H E hr => by
    have hu := hr.units
    have hv := Room.u65 hr
    exact (qss_cons (qs_newL (i := 1) sc__law_names.nd rfl (Or.inl rfl))
      (qss_cons (qs_for PassesOwn.never rfl (qdi_val (qdv 0)) (qdg_name (i := 2) sc__law_names.nd rfl (Or.inl rfl)) (qss_one (qs_ext' (ps_expr (pe_bm PySem.F.plainAttrs_list PySem.F.slot_list_extend PySem.F.type_list_extend mt_extend (pv 1) (pa_cons (qd_lc (own := [("_law_value", 3)]) rfl sc__law_names.nd (qdi_val (qd_sl sl_U pu_sl (qdv 2) (qdo_some qd_int) qdo_none)) (blkOk_by (own := [("_law_value", 3)]) (N := ["_law_store_here", "_law_row", "_law_fact", "_law_value"]) (sc := (defScope sNames)) (by decide +kernel)) (by decide) (fun _ _ _ _ _ => (qdg_name (i := 3) sc__law_names.nd rfl (Or.inl rfl))) (fun _ _ _ _ _ => (qts_one (qdt_cmp (op_eqU hu) pu_eq (qd_ix ix_seq pu_ix (qdv 3) qd_int) qd_str (nomark _)))) (fun _ _ _ _ _ => (qdv 3))) pa_nil))))))
      (qss_give 1 (qss_one (qs_ret (qd_callTy cr_tupU pu_tuple (by rfl) z_tuple boot_tuple (qda_cons (qd_sortsetS hu rfl (by rfl) z_sorted (by rfl) z_set (qdv 1)) qda_nil))))))))
   (show IsS _ S__law_names from (is_seq is_newL (is_seq (is_for (is_afV is_v) (is_ext (is_lc (is_afV (is_sl is_v (is_ofS is_c) is_ofN)) (is_tfE (is_op (is_op is_v is_c) is_c)) is_v))) (is_give (is_ret (is_call (is_co (is_sortSet is_v) is_n)))))))
end
end My
namespace My
open PySem PySem.Spec PyProof.Rows L2
section
variable [TbC] {P : Program} {w : World} {K : PySem.W.Frag} {mg : Str → Option Value} {base : Heap}
theorem sc29__law_due : FnScope ["_law_text", "_law_lines", "_law_rest", "_law_found", "_law_k", "_law_words", "_law_fact", "_law_unlike", "_law_other"] ["_law_text"] (defScope s__law_due) := ⟨rfl, rfl, rfl, by decide +kernel, rfl, by decide +kernel, by decide +kernel⟩
theorem okF29__law_due {f : Addr} {fd : FuncData} (F : Fun K "_law_due" "_law_due" s__law_due f fd) (z_range : mg "range" = none) (z_len : mg "len" = none) (z_tuple : mg "tuple" = none) {f__law_wrong : Addr} {d__law_wrong : FuncData} (G__law_wrong : FnOk P w K mg base CX0 2 f__law_wrong d__law_wrong ["_law_words"] (spP K F__law_wrong)) (m__law_wrong : mg "_law_wrong" = some (.ref f__law_wrong)) (k__law_wrong : PySem.W.keepIn K (.ref f__law_wrong) = true) (b__law_wrong : Binds K d__law_wrong ["_law_words"] []) {f__law_names : Addr} {d__law_names : FuncData} (G__law_names : FnOk P w K mg base CX0 1 f__law_names d__law_names ["_law_store_here"] (spP K F__law_names)) (m__law_names : mg "_law_names" = some (.ref f__law_names)) (k__law_names : PySem.W.keepIn K (.ref f__law_names) = true) (b__law_names : Binds K d__law_names ["_law_store_here"] []) : FnOk P w K mg base CX0 3 f fd ["_law_text"] (spP K F29__law_due) :=
  show FnOk P w K mg base CX0 3 f fd ["_law_text"] (spP K (fnF 1 9 S29__law_due)) from
  fn_okF (S := S29__law_due) 1 9 F sc29__law_due rfl rfl (fun cdv A outer s H E hr => by
    have hu := hr.units
    have hv := Room.u65 hr
    exact (qss_cons (qs_splL (i := 1) sc29__law_due.nd rfl (Or.inl rfl) (qdv 0) (qda_cons qd_str qda_nil) rfl (pe_bm PySem.F.plainAttrs_str PySem.F.slot_str_split PySem.F.type_str_split mt_split (qdv 0) (qda_cons qd_str qda_nil)))
      (qss_cons (qs_popR (m := 1) (i := 2) (j := 3) rfl sc29__law_due.nd rfl rfl (by decide) rfl rfl (pe_bm0 PySem.F.plainAttrs_list PySem.F.slot_list_pop PySem.F.type_list_pop mt_pop (pv 1)) rfl)
      (qss_cons (qs_if (qdt_cmp (op_neU hu) pu_ne (qdv 2) qd_str (nomark _)) (qss_one (qs_app' (ps_expr (pe_bm PySem.F.plainAttrs_list PySem.F.slot_list_append PySem.F.type_list_append mt_append (pv 1) (pa_cons (qdv 2) pa_nil))))) qss_nil)
      (qss_give 1 (qss_cons (qs_for PassesOwn.never rfl (qdi_range (by rfl) z_range (qda_cons (qd_callB cr_lenU pu_len (by rfl) z_len PySem.boot_len (qda_cons (qdv 1) qda_nil)) qda_nil)) (qdg_name (i := 4) sc29__law_due.nd rfl (Or.inl rfl)) (qss_cons (qs_set (i := 5) sc29__law_due.nd rfl (Or.inl rfl) (qd_mk (pe_bm PySem.F.plainAttrs_str PySem.F.slot_str_split PySem.F.type_str_split mt_split (qd_ix ix_seq pu_ix (qdv 1) (qdv 4)) (qda_cons qd_str qda_nil)) (rd_meth pu_split)))
      (qss_cons (qs_if (qdt_cmp op_ge pu_cmp (qd_call G__law_wrong (hr.mono (by decide)) rfl m__law_wrong k__law_wrong b__law_wrong pass0 (qda_cons (qdv 5) qda_nil)) qd_int (nomark _)) (qss_one (qs_ret (qd_tup (qda_cons qd_str (qda_cons (qd_tup (qda_cons (qdv 4) (qda_cons (qd_call G__law_wrong (hr.mono (by decide)) rfl m__law_wrong k__law_wrong b__law_wrong pass0 (qda_cons (qdv 5) qda_nil)) qda_nil))) qda_nil))))) qss_nil)
      (qss_cons (qs_set (i := 6) sc29__law_due.nd rfl (Or.inr rfl) (qd_callTy cr_tupU pu_tuple (by rfl) z_tuple boot_tuple (qda_cons (qdv 5) qda_nil)))
      (qss_cons (qs_setLcV (m := 3) (i := 7) (hyl := rfl) (hsw := rfl) (hy := rfl) (hc := rfl) (hN := sc29__law_due.nd) (own := [("_law_other", 8)]) (qdi_val (qdv 3)) (blkOk_by (own := [("_law_other", 8)]) (N := ["_law_text", "_law_lines", "_law_rest", "_law_found", "_law_k", "_law_words", "_law_fact", "_law_unlike", "_law_other"]) (sc := (defScope s__law_due)) (by decide +kernel)) (by decide) (fun _ _ _ _ _ => (qdg_name (i := 8) sc29__law_due.nd rfl (Or.inl rfl))) (fun _ _ _ _ _ => (qts_one (qdt_W (qdw_or (qdt_W (qdw_and (qdt_cmp (op_eqU hu) pu_eq (qd_ix ix_seq pu_ix (qdv 8) qd_int) (qd_ix ix_seq pu_ix (qdv 6) qd_int) (nomark _)) (qdw_and1 (qdt_cmp (op_neU hu) pu_ne (qd_callB cr_lenU pu_len (by rfl) z_len PySem.boot_len (qda_cons (qdv 8) qda_nil)) (qd_callB cr_lenU pu_len (by rfl) z_len PySem.boot_len (qda_cons (qdv 6) qda_nil)) (nomark _))))) (qdw_or1 (qdt_cmp (op_geX (lt0 hu)) pu_geX (qdv 8) (qdv 6) (nomark _))))))) (fun _ _ _ _ _ => qd_int))
      (qss_cons (qs_if (qdt_view 3 (qdt_W (qdw_or (qdt_cmp (op_neU hu) pu_ne (qdv 7) (qd_lst qda_nil) (nomark _)) (qdw_or (qdt_cmp (op_eqU hu) pu_eq (qd_callB cr_lenU pu_len (by rfl) z_len PySem.boot_len (qda_cons (qdv 3) qda_nil)) qd_int (nomark _)) (qdw_or1 (qdt_cmp op_gt pu_cmp (qd_callB cr_lenU pu_len (by rfl) z_len PySem.boot_len (qda_cons (qd_call G__law_names (hr.mono (by decide)) rfl m__law_names k__law_names b__law_names pass0 (qda_cons (qd_op op_addU pu_add (qdv 3) (qd_lst (qda_cons (qdv 6) qda_nil))) qda_nil)) qda_nil)) qd_int (nomark _))))))) (qss_one (qs_ret (qd_tup (qda_cons qd_str (qda_cons (qd_tup (qda_cons (qdv 4) (qda_cons qd_int qda_nil))) qda_nil))))) qss_nil)
      (qss_one (qs_app' (ps_expr (pe_bm PySem.F.plainAttrs_list PySem.F.slot_list_append PySem.F.type_list_append mt_append (pv 3) (pa_cons (qdv 6) pa_nil)))))))))))
      (qss_cons (qs_if (qdt_cmp (op_neU hu) pu_ne (qdv 2) qd_str (nomark _)) (qss_one (qs_ret (qd_tup (qda_cons qd_str (qda_cons (qd_tup (qda_cons (qd_callB cr_lenU pu_len (by rfl) z_len PySem.boot_len (qda_cons (qdv 1) qda_nil)) (qda_cons qd_int qda_nil))) qda_nil))))) qss_nil)
      (qss_give 3 (qss_one (qs_ret (qd_tup (qda_cons qd_str (qda_cons (qd_callTy cr_tupU pu_tuple (by rfl) z_tuple boot_tuple (qda_cons (qdv 3) qda_nil)) qda_nil)))))))))))))
   (show IsS _ S29__law_due from (is_seq (is_splL is_v (is_co is_c is_n)) (is_seq is_pop2VL (is_seq (is_ifS (is_tfE (is_op is_v is_c)) (is_apps is_v) is_nil) (is_give (is_seq (is_for (is_afR (is_co (is_call (is_co is_v is_n)) is_n)) (is_seq (is_set (is_meth (is_op is_v is_v) (is_co is_c is_n))) (is_seq (is_ifS (is_tfE (is_op (is_call (is_co is_v is_n)) is_c)) (is_ret (is_tup (is_co is_c (is_co (is_tup (is_co is_v (is_co (is_call (is_co is_v is_n)) is_n))) is_n)))) is_nil) (is_seq (is_set (is_call (is_co is_v is_n))) (is_seq (is_set (is_vL (is_L (is_lc (is_afV is_v) (is_tfOr (is_tfAnd (is_tfE (is_op (is_op is_v is_c) (is_op is_v is_c))) (is_tfE (is_op (is_call (is_co is_v is_n)) (is_call (is_co is_v is_n))))) (is_tfE (is_op is_v is_v))) is_c)))) (is_seq (is_ifS (is_vT (is_tfOr (is_tfE (is_op is_v (is_lst is_n))) (is_tfOr (is_tfE (is_op (is_call (is_co is_v is_n)) is_c)) (is_tfE (is_op (is_call (is_co (is_call (is_co (is_op is_v (is_lst (is_co is_v is_n))) is_n)) is_n)) is_c))))) (is_ret (is_tup (is_co is_c (is_co (is_tup (is_co is_v (is_co is_c is_n))) is_n)))) is_nil) (is_apps is_v))))))) (is_seq (is_ifS (is_tfE (is_op is_v is_c)) (is_ret (is_tup (is_co is_c (is_co (is_tup (is_co (is_call (is_co is_v is_n)) (is_co is_c is_n))) is_n)))) is_nil) (is_give (is_ret (is_tup (is_co is_c (is_co (is_call (is_co is_v is_n)) is_n))))))))))))
end
end My
namespace My
open PySem PySem.Spec PyProof.Rows L2
section
variable {P : Program} {w : World} {K : PySem.W.Frag} {mg : Str → Option Value} {base : Heap}
theorem sc_BadText_init : FnScope ["self", "line", "word"] ["self", "line", "word"] (defScope s_BadText_init) := ⟨rfl, rfl, rfl, by decide +kernel, rfl, by decide +kernel, by decide +kernel⟩
theorem okI_BadText {f C : Addr} {fd : FuncData} {qual : Str} (F : Fun K "__init__" qual s_BadText_init f fd) (T : OexC K C) (n1 : PySem.W.findIn K (.ref C) "line" = some none) (n2 : PySem.W.findIn K (.ref C) "word" = some none) : FnOk P w K mg base (L2.CX P w) 1 f fd ["self", "line", "word"] (spIni C "line" "word") :=
  F.okX (k := 0) sc_BadText_init (fun vs H Q E ⟨a, i, j, e, _⟩ => by rw [e]; rfl) fun cdv A outer s H vs Q E hr h => by
    obtain ⟨a, i, j, rfl, ha, q⟩ := h
    refine ⟨_, pss_cons (ps_ost (pv 0) (pv 1)) (pss_one (ps_ost (pv 0) (pv 2))), ?_⟩
    refine ⟨.int i, rfl, .ref a, rfl, a, C, rfl, T, n1, .inl ⟨ha, fun dx nd ne => ?_⟩⟩
    refine ⟨.int j, rfl, .ref a, rfl, a, C, rfl, T, n2, .inr ⟨dx, [("line", .int i)], upd_same, ?_, (show 1 ≤ 900 by decide), ?_⟩⟩
    · rw [upd_ne ne]
      exact upd_same
    · exact q dx nd ne
end
end My
namespace My
open PySem PySem.Spec PyProof.Rows L2
section
variable [TbC] {P : Program} {w : World} {K : PySem.W.Frag} {mg : Str → Option Value} {base : Heap}
theorem scx_check_end : FnScope ["text", "lines"] ["text", "lines"] (defScope s_check_end) := ⟨rfl, rfl, rfl, by decide +kernel, rfl, by decide +kernel, by decide +kernel⟩
theorem okP_check_end {f : Addr} {fd : FuncData} (F : Fun K "check_end" "check_end" s_check_end f fd) {cC fI : Addr} {dI : FuncData} (E_BadText : ExCF P w K mg base "BadText" "line" "word" cC fI dI) (z_len : mg "len" = none) : FnOk P w K mg base (L2.CX P w) 3 f fd ["text", "lines"] (spXf K (.ref cC) FP_check_end) :=
  show FnOk P w K mg base (L2.CX P w) 3 f fd ["text", "lines"] (spXf K (.ref cC) (fnXf 2 2 SP_check_end)) from
  fn_okXFf (S := SP_check_end) 2 2 F scx_check_end rfl rfl (fun cdv A outer s H E hr tk => by
    have hu := hr.units
    have hv := Room.u65 hr
    exact (qf_one (qf_if (qdt_W (qdw_and (qdt_cmp op_gt pu_cmp (qd_callB cr_lenU pu_len (by rfl) z_len PySem.boot_len (qda_cons (qdv 1) qda_nil)) qd_int (nomark _)) (qdw_and1 (qdt_not (qdt_val (qd_mk (pe_bm PySem.F.plainAttrs_str PySem.F.slot_str_endswith PySem.F.type_str_endswith mt_endswith (qdv 0) (qda_cons qd_str qda_nil)) (rd_meth pu_ends))))))) (qf_one (qf_raise rfl tk E_BadText.T E_BadText.i E_BadText.t E_BadText.f (hr.mono (by decide)) E_BadText.b (passes_call tk fun _ _ _ _ h => h.elim) rfl E_BadText.g (qda_cons (qd_callB cr_lenU pu_len (by rfl) z_len PySem.boot_len (qda_cons (qdv 1) qda_nil)) (qda_cons qd_int qda_nil)))) qf_nil)))
   (show IsSXf _ SP_check_end from (ixf_if (is_tfAnd (is_tfE (is_op (is_call (is_co is_v is_n)) is_c)) (is_tfNot (is_tfE (is_meth is_v (is_co is_c is_n))))) (ixf_raise (is_co (is_call (is_co is_v is_n)) (is_co is_c is_n))) ixf_nil))
end
end My
namespace My
open PySem PySem.Spec PyProof.Rows L2
section
variable [TbC] {P : Program} {w : World} {K : PySem.W.Frag} {mg : Str → Option Value} {base : Heap}
theorem scx_read_store : FnScope ["text", "lines", "store", "number", "line", "words", "fault"] ["text"] (defScope s_read_store) := ⟨rfl, rfl, rfl, by decide +kernel, rfl, by decide +kernel, by decide +kernel⟩
theorem okP_read_store {f : Addr} {fd : FuncData} (F : Fun K "read_store" "read_store" s_read_store f fd) {cC fI : Addr} {dI : FuncData} (E_BadText : ExCF P w K mg base "BadText" "line" "word" cC fI dI) (z_enumerate : mg "enumerate" = none) (z_tuple : mg "tuple" = none) {f_text_lines : Addr} {d_text_lines : FuncData} (G_text_lines : FnOk P w K mg base CX0 1 f_text_lines d_text_lines ["text"] (spP K F_text_lines)) (m_text_lines : mg "text_lines" = some (.ref f_text_lines)) (k_text_lines : PySem.W.keepIn K (.ref f_text_lines) = true) (b_text_lines : Binds K d_text_lines ["text"] []) {f_fact_fault : Addr} {d_fact_fault : FuncData} (G_fact_fault : FnOk P w K mg base CX0 6 f_fact_fault d_fact_fault ["store", "words"] (spP K F_fact_fault)) (m_fact_fault : mg "fact_fault" = some (.ref f_fact_fault)) (k_fact_fault : PySem.W.keepIn K (.ref f_fact_fault) = true) (b_fact_fault : Binds K d_fact_fault ["store", "words"] []) {f_check_end : Addr} {d_check_end : FuncData} (G_check_end : FnOk P w K mg base (L2.CX P w) 3 f_check_end d_check_end ["text", "lines"] (spXf K (.ref cC) FP_check_end)) (m_check_end : mg "check_end" = some (.ref f_check_end)) (k_check_end : PySem.W.keepIn K (.ref f_check_end) = true) (b_check_end : Binds K d_check_end ["text", "lines"] []) : FnOk P w K mg base (L2.CX P w) 7 f fd ["text"] (spXf K (.ref cC) FP_read_store) :=
  show FnOk P w K mg base (L2.CX P w) 7 f fd ["text"] (spXf K (.ref cC) (fnXf 1 7 SP_read_store)) from
  fn_okXFf (S := SP_read_store) 1 7 F scx_read_store rfl rfl (fun cdv A outer s H E hr tk => by
    have hu := hr.units
    have hv := Room.u65 hr
    exact (qf_cons (qf_lift (qs_set (i := 1) scx_read_store.nd rfl (Or.inl rfl) (qd_call G_text_lines (hr.mono (by decide)) rfl m_text_lines k_text_lines b_text_lines pass0 (qda_cons (qdv 0) qda_nil))))
      (qf_cons (qf_lift (qs_set (i := 2) scx_read_store.nd rfl (Or.inl rfl) (qd_tup qda_nil)))
      (qf_cons (qf_for (passes_of rfl) rfl (qdi_enumL (by rfl) z_enumerate (qdv 1)) (qdg_tup (n := 2) rfl (qdgs_cons (qdg_name (i := 3) scx_read_store.nd rfl (Or.inl rfl)) (qdgs_cons (qdg_name (i := 4) scx_read_store.nd rfl (Or.inl rfl)) qdgs_nil))) (qf_cons (qf_lift (qs_set (i := 5) scx_read_store.nd rfl (Or.inl rfl) (qd_callTy cr_tupU pu_tuple (by rfl) z_tuple boot_tuple (qda_cons (qd_mk (pe_bm PySem.F.plainAttrs_str PySem.F.slot_str_split PySem.F.type_str_split mt_split (qdv 4) (qda_cons qd_str qda_nil)) (rd_meth pu_split)) qda_nil))))
      (qf_cons (qf_lift (qs_set (i := 6) scx_read_store.nd rfl (Or.inl rfl) (qd_call G_fact_fault (hr.mono (by decide)) rfl m_fact_fault k_fact_fault b_fact_fault pass0 (qda_cons (qdv 2) (qda_cons (qdv 5) qda_nil)))))
      (qf_cons (qf_if (qdt_cmp op_notN pu_notN (qdv 6) qd_non (nomark _)) (qf_one (qf_raise rfl tk E_BadText.T E_BadText.i E_BadText.t E_BadText.f (hr.mono (by decide)) E_BadText.b (passes_call tk fun _ _ _ _ h => h.elim) rfl E_BadText.g (qda_cons (qdv 3) (qda_cons (qdv 6) qda_nil)))) qf_nil)
      (qf_one (qf_lift (qs_set (i := 2) scx_read_store.nd rfl (Or.inl rfl) (qd_op op_addU pu_add (qdv 2) (qd_tup (qda_cons (qdv 5) qda_nil))))))))))
      (qf_cons (qf_expr (qf_call G_check_end (hr.mono (by decide)) rfl m_check_end k_check_end b_check_end tk (qfa_lift (qda_cons (qdv 0) (qda_cons (qdv 1) qda_nil)))))
      (qf_one (qf_lift (qs_ret (qdv 2)))))))))
   (show IsSXf _ SP_read_store from (ixf_seq (ixf_lift (is_set (is_call (is_co is_v is_n)))) (ixf_seq (ixf_lift (is_set (is_tup is_n))) (ixf_seq (ixf_for (is_afEnL is_v) (ixf_seq (ixf_lift (is_set (is_call (is_co (is_meth is_v (is_co is_c is_n)) is_n)))) (ixf_seq (ixf_lift (is_set (is_call (is_co is_v (is_co is_v is_n))))) (ixf_seq (ixf_if (is_tfE (is_op is_v is_c)) (ixf_raise (is_co is_v (is_co is_v is_n))) ixf_nil) (ixf_lift (is_set (is_op is_v (is_tup (is_co is_v is_n))))))))) (ixf_seq (ixf_expr (ixf_call (ixf_liftA (is_co is_v (is_co is_v is_n))))) (ixf_lift (is_ret is_v)))))))
end
end My
namespace My
open PySem PySem.Spec PyProof.Rows L2
theorem all_mk [TbC] {l : PySem.W.OpenLaw} {w : World} {K : PySem.W.Frag} {h : Heap} {mg : Str → Option Value} {fa fDk fDr fOn fWo fPl ff5 ff6 ff7 ff8 ff9 ff10 ff11 ff12 ff13 ff14 ff15 ff16 ff17 ff18 ff19 ff20 ff21 ff22 ff23 ff24 ff25 ff26 fLw fBI : Addr} {t_DIGITS t_LETTERS t_MOST_FACTS t_MOST_UNKNOWNS t_MOST_VALUES : Tok} {cBT cCE : Addr} {nmBT qBT : Str} {NBT : Addr} {bsBT : List Value} {snBT : List Str} {subBT : List Value} {abBT : Bool} {colBT : Option Bool} {ddBT : Option Addr} {m0BT m1BT m2BT m3BT m5BT : Option Value}  (X : K.In h) (G : h.Ns mainGlobals mg) (hfa : mg "law" = some (.ref fa)) (hW : w = TbC.w)
    {odDk anDk odDr anDr odOn anOn odWo anWo odPl anPl odf5 anf5 odf6 anf6 odf7 anf7 odf8 anf8 odf9 anf9 odf10 anf10 odf11 anf11 odf12 anf12 odf13 anf13 odf14 anf14 odf15 anf15 odf16 anf16 odf17 anf17 odf18 anf18 odf19 anf19 odf20 anf20 odf21 anf21 odf22 anf22 odf23 anf23 odf24 anf24 odf25 anf25 odf26 anf26 odLw anLw odBI anBI : Option Addr} {slDk slDr slOn slWo slPl slf5 slf6 slf7 slf8 slf9 slf10 slf11 slf12 slf13 slf14 slf15 slf16 slf17 slf18 slf19 slf20 slf21 slf22 slf23 slf24 slf25 slf26 slLw slBI : Array (Option Value)} {ocDk kVDk dcDk pmDk cdDk ctDk ocDr kVDr dcDr pmDr cdDr ctDr ocOn kVOn dcOn pmOn cdOn ctOn ocWo kVWo dcWo pmWo cdWo ctWo ocPl kVPl dcPl pmPl cdPl ctPl ocf5 kVf5 dcf5 pmf5 cdf5 ctf5 ocf6 kVf6 dcf6 pmf6 cdf6 ctf6 ocf7 kVf7 dcf7 pmf7 cdf7 ctf7 ocf8 kVf8 dcf8 pmf8 cdf8 ctf8 ocf9 kVf9 dcf9 pmf9 cdf9 ctf9 ocf10 kVf10 dcf10 pmf10 cdf10 ctf10 ocf11 kVf11 dcf11 pmf11 cdf11 ctf11 ocf12 kVf12 dcf12 pmf12 cdf12 ctf12 ocf13 kVf13 dcf13 pmf13 cdf13 ctf13 ocf14 kVf14 dcf14 pmf14 cdf14 ctf14 ocf15 kVf15 dcf15 pmf15 cdf15 ctf15 ocf16 kVf16 dcf16 pmf16 cdf16 ctf16 ocf17 kVf17 dcf17 pmf17 cdf17 ctf17 ocf18 kVf18 dcf18 pmf18 cdf18 ctf18 ocf19 kVf19 dcf19 pmf19 cdf19 ctf19 ocf20 kVf20 dcf20 pmf20 cdf20 ctf20 ocf21 kVf21 dcf21 pmf21 cdf21 ctf21 ocf22 kVf22 dcf22 pmf22 cdf22 ctf22 ocf23 kVf23 dcf23 pmf23 cdf23 ctf23 ocf24 kVf24 dcf24 pmf24 cdf24 ctf24 ocf25 kVf25 dcf25 pmf25 cdf25 ctf25 ocf26 kVf26 dcf26 pmf26 cdf26 ctf26 ocLw kVLw dcLw pmLw cdLw ctLw ocBI kVBI dcBI pmBI cdBI ctBI : Value} 
    (aDk : PySem.W.nsIn K mainGlobals "_law_deck" = some (some (.ref fDk)))
    (lDk : K.lookup fDk = some ⟨ocDk, odDk, .func (PySem.W.fnOf "_law_deck" "_law_deck" (defArgs sDeck) (defBody sDeck) (defScope sDeck) .none kVDk dcDk pmDk anDk cdDk ctDk), slDk⟩)
    (cDk : PySem.W.codeIn K cdDk "_law_deck" = true)
    (kDk : PySem.W.keepIn K (.ref fDk) = true)
    (aDr : PySem.W.nsIn K mainGlobals "_law_draw" = some (some (.ref fDr)))
    (lDr : K.lookup fDr = some ⟨ocDr, odDr, .func (PySem.W.fnOf "_law_draw" "_law_draw" (defArgs sDraw) (defBody sDraw) (defScope sDraw) .none kVDr dcDr pmDr anDr cdDr ctDr), slDr⟩)
    (cDr : PySem.W.codeIn K cdDr "_law_draw" = true)
    (kDr : PySem.W.keepIn K (.ref fDr) = true)
    (aOn : PySem.W.nsIn K mainGlobals "_law_one" = some (some (.ref fOn)))
    (lOn : K.lookup fOn = some ⟨ocOn, odOn, .func (PySem.W.fnOf "_law_one" "_law_one" (defArgs sOne) (defBody sOne) (defScope sOne) .none kVOn dcOn pmOn anOn cdOn ctOn), slOn⟩)
    (cOn : PySem.W.codeIn K cdOn "_law_one" = true)
    (kOn : PySem.W.keepIn K (.ref fOn) = true)
    (aWo : PySem.W.nsIn K mainGlobals "_law_word" = some (some (.ref fWo)))
    (lWo : K.lookup fWo = some ⟨ocWo, odWo, .func (PySem.W.fnOf "_law_word" "_law_word" (defArgs sWord) (defBody sWord) (defScope sWord) .none kVWo dcWo pmWo anWo cdWo ctWo), slWo⟩)
    (cWo : PySem.W.codeIn K cdWo "_law_word" = true)
    (kWo : PySem.W.keepIn K (.ref fWo) = true)
    (aPl : PySem.W.nsIn K mainGlobals "_law_pool" = some (some (.ref fPl)))
    (lPl : K.lookup fPl = some ⟨ocPl, odPl, .func (PySem.W.fnOf "_law_pool" "_law_pool" (defArgs sPool) (defBody sPool) (defScope sPool) .none kVPl dcPl pmPl anPl cdPl ctPl), slPl⟩)
    (cPl : PySem.W.codeIn K cdPl "_law_pool" = true)
    (kPl : PySem.W.keepIn K (.ref fPl) = true)
    (af5 : PySem.W.nsIn K mainGlobals "_law_unknowns" = some (some (.ref ff5)))
    (lf5 : K.lookup ff5 = some ⟨ocf5, odf5, .func (PySem.W.fnOf "_law_unknowns" "_law_unknowns" (defArgs sUnks) (defBody sUnks) (defScope sUnks) .none kVf5 dcf5 pmf5 anf5 cdf5 ctf5), slf5⟩)
    (cf5 : PySem.W.codeIn K cdf5 "_law_unknowns" = true)
    (kf5 : PySem.W.keepIn K (.ref ff5) = true)
    (af6 : PySem.W.nsIn K mainGlobals "_law_kinds" = some (some (.ref ff6)))
    (lf6 : K.lookup ff6 = some ⟨ocf6, odf6, .func (PySem.W.fnOf "_law_kinds" "_law_kinds" (defArgs sKinds) (defBody sKinds) (defScope sKinds) .none kVf6 dcf6 pmf6 anf6 cdf6 ctf6), slf6⟩)
    (cf6 : PySem.W.codeIn K cdf6 "_law_kinds" = true)
    (kf6 : PySem.W.keepIn K (.ref ff6) = true)
    (af7 : PySem.W.nsIn K mainGlobals "_law_store" = some (some (.ref ff7)))
    (lf7 : K.lookup ff7 = some ⟨ocf7, odf7, .func (PySem.W.fnOf "_law_store" "_law_store" (defArgs sStore) (defBody sStore) (defScope sStore) .none kVf7 dcf7 pmf7 anf7 cdf7 ctf7), slf7⟩)
    (cf7 : PySem.W.codeIn K cdf7 "_law_store" = true)
    (kf7 : PySem.W.keepIn K (.ref ff7) = true)
    (af8 : PySem.W.nsIn K mainGlobals "_law_bent_rows" = some (some (.ref ff8)))
    (lf8 : K.lookup ff8 = some ⟨ocf8, odf8, .func (PySem.W.fnOf "_law_bent_rows" "_law_bent_rows" (defArgs s__law_bent_rows) (defBody s__law_bent_rows) (defScope s__law_bent_rows) .none kVf8 dcf8 pmf8 anf8 cdf8 ctf8), slf8⟩)
    (cf8 : PySem.W.codeIn K cdf8 "_law_bent_rows" = true)
    (kf8 : PySem.W.keepIn K (.ref ff8) = true)
    (af9 : PySem.W.nsIn K mainGlobals "text_lines" = some (some (.ref ff9)))
    (lf9 : K.lookup ff9 = some ⟨ocf9, odf9, .func (PySem.W.fnOf "text_lines" "text_lines" (defArgs s_text_lines) (defBody s_text_lines) (defScope s_text_lines) .none kVf9 dcf9 pmf9 anf9 cdf9 ctf9), slf9⟩)
    (cf9 : PySem.W.codeIn K cdf9 "text_lines" = true)
    (kf9 : PySem.W.keepIn K (.ref ff9) = true)
    (af10 : PySem.W.nsIn K mainGlobals "is_word" = some (some (.ref ff10)))
    (lf10 : K.lookup ff10 = some ⟨ocf10, odf10, .func (PySem.W.fnOf "is_word" "is_word" (defArgs sIsWord) (defBody sIsWord) (defScope sIsWord) .none kVf10 dcf10 pmf10 anf10 cdf10 ctf10), slf10⟩)
    (cf10 : PySem.W.codeIn K cdf10 "is_word" = true)
    (kf10 : PySem.W.keepIn K (.ref ff10) = true)
    (af11 : PySem.W.nsIn K mainGlobals "is_unknown" = some (some (.ref ff11)))
    (lf11 : K.lookup ff11 = some ⟨ocf11, odf11, .func (PySem.W.fnOf "is_unknown" "is_unknown" (defArgs sUnk) (defBody sUnk) (defScope sUnk) .none kVf11 dcf11 pmf11 anf11 cdf11 ctf11), slf11⟩)
    (cf11 : PySem.W.codeIn K cdf11 "is_unknown" = true)
    (kf11 : PySem.W.keepIn K (.ref ff11) = true)
    (af12 : PySem.W.nsIn K mainGlobals "is_value" = some (some (.ref ff12)))
    (lf12 : K.lookup ff12 = some ⟨ocf12, odf12, .func (PySem.W.fnOf "is_value" "is_value" (defArgs sIsValue) (defBody sIsValue) (defScope sIsValue) .none kVf12 dcf12 pmf12 anf12 cdf12 ctf12), slf12⟩)
    (cf12 : PySem.W.codeIn K cdf12 "is_value" = true)
    (kf12 : PySem.W.keepIn K (.ref ff12) = true)
    (af13 : PySem.W.nsIn K mainGlobals "is_fact" = some (some (.ref ff13)))
    (lf13 : K.lookup ff13 = some ⟨ocf13, odf13, .func (PySem.W.fnOf "is_fact" "is_fact" (defArgs sIsFact) (defBody sIsFact) (defScope sIsFact) .none kVf13 dcf13 pmf13 anf13 cdf13 ctf13), slf13⟩)
    (cf13 : PySem.W.codeIn K cdf13 "is_fact" = true)
    (kf13 : PySem.W.keepIn K (.ref ff13) = true)
    (af14 : PySem.W.nsIn K mainGlobals "may_follow" = some (some (.ref ff14)))
    (lf14 : K.lookup ff14 = some ⟨ocf14, odf14, .func (PySem.W.fnOf "may_follow" "may_follow" (defArgs sMay) (defBody sMay) (defScope sMay) .none kVf14 dcf14 pmf14 anf14 cdf14 ctf14), slf14⟩)
    (cf14 : PySem.W.codeIn K cdf14 "may_follow" = true)
    (kf14 : PySem.W.keepIn K (.ref ff14) = true)
    (af15 : PySem.W.nsIn K mainGlobals "is_store" = some (some (.ref ff15)))
    (lf15 : K.lookup ff15 = some ⟨ocf15, odf15, .func (PySem.W.fnOf "is_store" "is_store" (defArgs sIsStore) (defBody sIsStore) (defScope sIsStore) .none kVf15 dcf15 pmf15 anf15 cdf15 ctf15), slf15⟩)
    (cf15 : PySem.W.codeIn K cdf15 "is_store" = true)
    (kf15 : PySem.W.keepIn K (.ref ff15) = true)
    (af16 : PySem.W.nsIn K mainGlobals "unknowns" = some (some (.ref ff16)))
    (lf16 : K.lookup ff16 = some ⟨ocf16, odf16, .func (PySem.W.fnOf "unknowns" "unknowns" (defArgs sUnkS) (defBody sUnkS) (defScope sUnkS) .none kVf16 dcf16 pmf16 anf16 cdf16 ctf16), slf16⟩)
    (cf16 : PySem.W.codeIn K cdf16 "unknowns" = true)
    (kf16 : PySem.W.keepIn K (.ref ff16) = true)
    (af17 : PySem.W.nsIn K mainGlobals "may_be_read" = some (some (.ref ff17)))
    (lf17 : K.lookup ff17 = some ⟨ocf17, odf17, .func (PySem.W.fnOf "may_be_read" "may_be_read" (defArgs s_may_be_read) (defBody s_may_be_read) (defScope s_may_be_read) .none kVf17 dcf17 pmf17 anf17 cdf17 ctf17), slf17⟩)
    (cf17 : PySem.W.codeIn K cdf17 "may_be_read" = true)
    (kf17 : PySem.W.keepIn K (.ref ff17) = true)
    (af18 : PySem.W.nsIn K mainGlobals "fact_fault" = some (some (.ref ff18)))
    (lf18 : K.lookup ff18 = some ⟨ocf18, odf18, .func (PySem.W.fnOf "fact_fault" "fact_fault" (defArgs s_fact_fault) (defBody s_fact_fault) (defScope s_fact_fault) .none kVf18 dcf18 pmf18 anf18 cdf18 ctf18), slf18⟩)
    (cf18 : PySem.W.codeIn K cdf18 "fact_fault" = true)
    (kf18 : PySem.W.keepIn K (.ref ff18) = true)
    (af19 : PySem.W.nsIn K mainGlobals "check_end" = some (some (.ref ff19)))
    (lf19 : K.lookup ff19 = some ⟨ocf19, odf19, .func (PySem.W.fnOf "check_end" "check_end" (defArgs s_check_end) (defBody s_check_end) (defScope s_check_end) .none kVf19 dcf19 pmf19 anf19 cdf19 ctf19), slf19⟩)
    (cf19 : PySem.W.codeIn K cdf19 "check_end" = true)
    (kf19 : PySem.W.keepIn K (.ref ff19) = true)
    (af20 : PySem.W.nsIn K mainGlobals "read_store" = some (some (.ref ff20)))
    (lf20 : K.lookup ff20 = some ⟨ocf20, odf20, .func (PySem.W.fnOf "read_store" "read_store" (defArgs s_read_store) (defBody s_read_store) (defScope s_read_store) .none kVf20 dcf20 pmf20 anf20 cdf20 ctf20), slf20⟩)
    (cf20 : PySem.W.codeIn K cdf20 "read_store" = true)
    (kf20 : PySem.W.keepIn K (.ref ff20) = true)
    (af21 : PySem.W.nsIn K mainGlobals "_law_read" = some (some (.ref ff21)))
    (lf21 : K.lookup ff21 = some ⟨ocf21, odf21, .func (PySem.W.fnOf "_law_read" "_law_read" (defArgs s__law_read) (defBody s__law_read) (defScope s__law_read) .none kVf21 dcf21 pmf21 anf21 cdf21 ctf21), slf21⟩)
    (cf21 : PySem.W.codeIn K cdf21 "_law_read" = true)
    (kf21 : PySem.W.keepIn K (.ref ff21) = true)
    (af22 : PySem.W.nsIn K mainGlobals "_law_is_word" = some (some (.ref ff22)))
    (lf22 : K.lookup ff22 = some ⟨ocf22, odf22, .func (PySem.W.fnOf "_law_is_word" "_law_is_word" (defArgs sLIsWord) (defBody sLIsWord) (defScope sLIsWord) .none kVf22 dcf22 pmf22 anf22 cdf22 ctf22), slf22⟩)
    (cf22 : PySem.W.codeIn K cdf22 "_law_is_word" = true)
    (kf22 : PySem.W.keepIn K (.ref ff22) = true)
    (af23 : PySem.W.nsIn K mainGlobals "_law_is_unknown" = some (some (.ref ff23)))
    (lf23 : K.lookup ff23 = some ⟨ocf23, odf23, .func (PySem.W.fnOf "_law_is_unknown" "_law_is_unknown" (defArgs sLIsUnk) (defBody sLIsUnk) (defScope sLIsUnk) .none kVf23 dcf23 pmf23 anf23 cdf23 ctf23), slf23⟩)
    (cf23 : PySem.W.codeIn K cdf23 "_law_is_unknown" = true)
    (kf23 : PySem.W.keepIn K (.ref ff23) = true)
    (af24 : PySem.W.nsIn K mainGlobals "_law_wrong" = some (some (.ref ff24)))
    (lf24 : K.lookup ff24 = some ⟨ocf24, odf24, .func (PySem.W.fnOf "_law_wrong" "_law_wrong" (defArgs s__law_wrong) (defBody s__law_wrong) (defScope s__law_wrong) .none kVf24 dcf24 pmf24 anf24 cdf24 ctf24), slf24⟩)
    (cf24 : PySem.W.codeIn K cdf24 "_law_wrong" = true)
    (kf24 : PySem.W.keepIn K (.ref ff24) = true)
    (af25 : PySem.W.nsIn K mainGlobals "_law_names" = some (some (.ref ff25)))
    (lf25 : K.lookup ff25 = some ⟨ocf25, odf25, .func (PySem.W.fnOf "_law_names" "_law_names" (defArgs sNames) (defBody sNames) (defScope sNames) .none kVf25 dcf25 pmf25 anf25 cdf25 ctf25), slf25⟩)
    (cf25 : PySem.W.codeIn K cdf25 "_law_names" = true)
    (kf25 : PySem.W.keepIn K (.ref ff25) = true)
    (af26 : PySem.W.nsIn K mainGlobals "_law_due" = some (some (.ref ff26)))
    (lf26 : K.lookup ff26 = some ⟨ocf26, odf26, .func (PySem.W.fnOf "_law_due" "_law_due" (defArgs s__law_due) (defBody s__law_due) (defScope s__law_due) .none kVf26 dcf26 pmf26 anf26 cdf26 ctf26), slf26⟩)
    (cf26 : PySem.W.codeIn K cdf26 "_law_due" = true)
    (kf26 : PySem.W.keepIn K (.ref ff26) = true)
    (aLw : PySem.W.nsIn K mainGlobals "law" = some (some (.ref fLw)))
    (lLw : K.lookup fLw = some ⟨ocLw, odLw, .func (PySem.W.fnOf "law" "law" (defArgs sLaw) (defBody sLaw) (defScope sLaw) .none kVLw dcLw pmLw anLw cdLw ctLw), slLw⟩)
    (cLw : PySem.W.codeIn K cdLw "law" = true)
    (kLw : PySem.W.keepIn K (.ref fLw) = true)
    (aBI : PySem.W.findIn K (.ref cBT) "__init__" = some (some (.ref fBI)))
    (lBI : K.lookup fBI = some ⟨ocBI, odBI, .func (PySem.W.fnOf "__init__" "BadText.__init__" (defArgs s_BadText_init) (defBody s_BadText_init) (defScope s_BadText_init) .none kVBI dcBI pmBI anBI cdBI ctBI), slBI⟩)
    (cBI : PySem.W.codeIn K cdBI "BadText.__init__" = true)
    (kBI : PySem.W.keepIn K (.ref fBI) = true)
    (gcBT : PySem.W.nsIn K mainGlobals "BadText" = some (some (.ref cBT)))
    (gcCE : PySem.W.nsIn K mainGlobals "CoreError" = some (some (.ref cCE)))
    (xBT : K.lookup cBT = some (excClassObj nmBT qBT cBT NBT bsBT (.ref cCE :: [.type "ValueError", .type "Exception", .type "BaseException", .type "object"]) true snBT subBT abBT colBT ddBT m0BT m1BT m2BT m3BT m5BT "ValueError.__new__"))
    (saBT : PySem.W.findIn K (.ref cBT) "__setattr__" = some (some (.builtin "object.__setattr__")))
    (tyBT : PySem.W.typeIn K (.ref cBT) = some (.type "type"))
    (kpBT : PySem.W.keepIn K (.ref cBT) = true)
    (tBI : PySem.W.typeIn K (.ref fBI) = some (.type "function"))
    (liBT : PySem.W.findIn K (.ref cBT) "line" = some none)
    (woBT : PySem.W.findIn K (.ref cBT) "word" = some none)
    (ox_BT : PySem.W.exmOne K (.ref cBT) (.ref cCE) = some true)
    (oc_BT : PySem.W.kitOne K (.ref cBT) (.ref cBT) = some true)
    (ov_BT : PySem.W.kitOne K (.ref cBT) (.type "ValueError") = some true)
    (oa_BT : PySem.W.findIn K (.ref cBT) "__getattribute__" = some (some (.builtin "BaseException.__getattribute__")))
    (ob_BT : PySem.W.findIn K (.ref cBT) "__getattr__" = some none)
    (od_BT : PySem.W.subIn K (.ref cBT) (.type "BaseException") = some true)
    (oe_BT : PySem.W.hasDictIn K cBT = true)
    (of_BT : PySem.W.findIn K (.ref cBT) "__class__" = some (some (.builtin "object.__class__")))
    (og_BT : PySem.W.specialIn K (.builtin "object.__class__") "__get__" = some (some (.builtin "getset_descriptor.__get__")))
    (oh_BT : PySem.W.takesIn K (.builtin "object.__class__") = some true)
    (oi_BT : PySem.W.mroIn K cBT (.type "object") = some true)
    (z_ValueError : PySem.W.nsIn K mainGlobals "ValueError" = some none)
    (z_abs : PySem.W.nsIn K mainGlobals "abs" = some none)
    (z_all : PySem.W.nsIn K mainGlobals "all" = some none)
    (z_dict : PySem.W.nsIn K mainGlobals "dict" = some none)
    (z_enumerate : PySem.W.nsIn K mainGlobals "enumerate" = some none)
    (z_int : PySem.W.nsIn K mainGlobals "int" = some none)
    (z_isinstance : PySem.W.nsIn K mainGlobals "isinstance" = some none)
    (z_len : PySem.W.nsIn K mainGlobals "len" = some none)
    (z_list : PySem.W.nsIn K mainGlobals "list" = some none)
    (z_range : PySem.W.nsIn K mainGlobals "range" = some none)
    (z_repr : PySem.W.nsIn K mainGlobals "repr" = some none)
    (z_set : PySem.W.nsIn K mainGlobals "set" = some none)
    (z_sorted : PySem.W.nsIn K mainGlobals "sorted" = some none)
    (z_str : PySem.W.nsIn K mainGlobals "str" = some none)
    (z_tuple : PySem.W.nsIn K mainGlobals "tuple" = some none)
    (z_zip : PySem.W.nsIn K mainGlobals "zip" = some none)
    (g_DIGITS : PySem.W.nsIn K mainGlobals "DIGITS" = some (some (.str "0123456789" t_DIGITS)))
    (g_LETTERS : PySem.W.nsIn K mainGlobals "LETTERS" = some (some (.str "abcdefghijklmnopqrstuvwxyz" t_LETTERS)))
    (g_MOST_FACTS : PySem.W.nsIn K mainGlobals "MOST_FACTS" = some (some (.int 30 t_MOST_FACTS)))
    (g_MOST_UNKNOWNS : PySem.W.nsIn K mainGlobals "MOST_UNKNOWNS" = some (some (.int 5 t_MOST_UNKNOWNS)))
    (g_MOST_VALUES : PySem.W.nsIn K mainGlobals "MOST_VALUES" = some (some (.int 4 t_MOST_VALUES)))
    (i_str_0 : PySem.W.kitOne K (.type "NoneType") (.type "str") = some false)
    (i_str_1 : PySem.W.kitOne K (.type "bool") (.type "str") = some false)
    (i_str_2 : PySem.W.kitOne K (.type "int") (.type "str") = some false)
    (i_str_3 : PySem.W.kitOne K (.type "str") (.type "str") = some true)
    (i_str_4 : PySem.W.kitOne K (.type "list") (.type "str") = some false)
    (i_str_5 : PySem.W.kitOne K (.type "tuple") (.type "str") = some false)
    (i_tuple_0 : PySem.W.kitOne K (.type "NoneType") (.type "tuple") = some false)
    (i_tuple_1 : PySem.W.kitOne K (.type "bool") (.type "tuple") = some false)
    (i_tuple_2 : PySem.W.kitOne K (.type "int") (.type "tuple") = some false)
    (i_tuple_3 : PySem.W.kitOne K (.type "str") (.type "tuple") = some false)
    (i_tuple_4 : PySem.W.kitOne K (.type "list") (.type "tuple") = some false)
    (i_tuple_5 : PySem.W.kitOne K (.type "tuple") (.type "tuple") = some true) :
    ∃ fd : FuncData, (∀ (s : Shared) (v : Value), BindsTo s fd ⟨[v], []⟩ [("_law_script", v)]) ∧ ∀ base : Heap, K.In base → base.Ns mainGlobals mg → RunG l.prog w K mg base 9 fa fd ["_law_script"] (spLaw K) := by
  have e := hfa.symm.trans (PySem.W.mg_of X G aLw)
  cases e
  have m := fun {x : Str} {v : Value} (a : PySem.W.nsIn K mainGlobals x = some (some v)) => PySem.W.mg_of X G a
  have z := fun {x : Str} (a : PySem.W.nsIn K mainGlobals x = some none) => PySem.W.mg_none_of X G a
  have B : Blt mg := ⟨z z_int, z z_len, z z_abs, z z_list, z z_range, z z_repr⟩
  have B2 : Blt2 mg := ⟨z z_tuple, z z_sorted, z z_set, z z_dict, z z_isinstance, z z_str, z z_all⟩
  have k_str : IsT K "str" (isC "str") := ⟨i_str_0.trans (congrArg some (by decide)), i_str_1.trans (congrArg some (by decide)), i_str_2.trans (congrArg some (by decide)), i_str_3.trans (congrArg some (by decide)), i_str_4.trans (congrArg some (by decide)), i_str_5.trans (congrArg some (by decide))⟩
  have k_tuple : IsT K "tuple" (isC "tuple") := ⟨i_tuple_0.trans (congrArg some (by decide)), i_tuple_1.trans (congrArg some (by decide)), i_tuple_2.trans (congrArg some (by decide)), i_tuple_3.trans (congrArg some (by decide)), i_tuple_4.trans (congrArg some (by decide)), i_tuple_5.trans (congrArg some (by decide))⟩
  have FDk := fun_mk (st := sDeck) lDk cDk kDk
  have FDr := fun_mk (st := sDraw) lDr cDr kDr
  have FOn := fun_mk (st := sOne) lOn cOn kOn
  have FWo := fun_mk (st := sWord) lWo cWo kWo
  have FPl := fun_mk (st := sPool) lPl cPl kPl
  have Ff5 := fun_mk (st := sUnks) lf5 cf5 kf5
  have Ff6 := fun_mk (st := sKinds) lf6 cf6 kf6
  have Ff7 := fun_mk (st := sStore) lf7 cf7 kf7
  have Ff8 := fun_mk (st := s__law_bent_rows) lf8 cf8 kf8
  have Ff9 := fun_mk (st := s_text_lines) lf9 cf9 kf9
  have Ff10 := fun_mk (st := sIsWord) lf10 cf10 kf10
  have Ff11 := fun_mk (st := sUnk) lf11 cf11 kf11
  have Ff12 := fun_mk (st := sIsValue) lf12 cf12 kf12
  have Ff13 := fun_mk (st := sIsFact) lf13 cf13 kf13
  have Ff14 := fun_mk (st := sMay) lf14 cf14 kf14
  have Ff15 := fun_mk (st := sIsStore) lf15 cf15 kf15
  have Ff16 := fun_mk (st := sUnkS) lf16 cf16 kf16
  have Ff17 := fun_mk (st := s_may_be_read) lf17 cf17 kf17
  have Ff18 := fun_mk (st := s_fact_fault) lf18 cf18 kf18
  have Ff19 := fun_mk (st := s_check_end) lf19 cf19 kf19
  have Ff20 := fun_mk (st := s_read_store) lf20 cf20 kf20
  have Ff21 := fun_mk (st := s__law_read) lf21 cf21 kf21
  have Ff22 := fun_mk (st := sLIsWord) lf22 cf22 kf22
  have Ff23 := fun_mk (st := sLIsUnk) lf23 cf23 kf23
  have Ff24 := fun_mk (st := s__law_wrong) lf24 cf24 kf24
  have Ff25 := fun_mk (st := sNames) lf25 cf25 kf25
  have Ff26 := fun_mk (st := s__law_due) lf26 cf26 kf26
  have FLw := fun_mk (st := sLaw) lLw cLw kLw
  have FBI := fun_mk (st := s_BadText_init) lBI cBI kBI
  have bDk := FDk.binds (ps := ["_law_script"]) fun _ _ _ _ _ _ us hl => match us, hl with | [_], _ => rfl
  have bDr := FDr.binds (ps := ["_law_deck_here", "_law_many"]) fun _ _ _ _ _ _ us hl => match us, hl with | [_, _], _ => rfl
  have bOn := FOn.binds (ps := ["_law_deck_here", "_law_items"]) fun _ _ _ _ _ _ us hl => match us, hl with | [_, _], _ => rfl
  have bWo := FWo.binds (ps := ["_law_deck_here"]) fun _ _ _ _ _ _ us hl => match us, hl with | [_], _ => rfl
  have bPl := FPl.binds (ps := ["_law_deck_here", "_law_many"]) fun _ _ _ _ _ _ us hl => match us, hl with | [_, _], _ => rfl
  have bf5 := Ff5.binds (ps := ["_law_deck_here", "_law_many"]) fun _ _ _ _ _ _ us hl => match us, hl with | [_, _], _ => rfl
  have bf6 := Ff6.binds (ps := ["_law_deck_here"]) fun _ _ _ _ _ _ us hl => match us, hl with | [_], _ => rfl
  have bf7 := Ff7.binds (ps := ["_law_deck_here", "_law_kinds_here", "_law_values", "_law_many"]) fun _ _ _ _ _ _ us hl => match us, hl with | [_, _, _, _], _ => rfl
  have bf8 := Ff8.binds (ps := ["_law_deck_here", "_law_rows"]) fun _ _ _ _ _ _ us hl => match us, hl with | [_, _], _ => rfl
  have bf9 := Ff9.binds (ps := ["text"]) fun _ _ _ _ _ _ us hl => match us, hl with | [_], _ => rfl
  have bf10 := Ff10.binds (ps := ["value"]) fun _ _ _ _ _ _ us hl => match us, hl with | [_], _ => rfl
  have bf11 := Ff11.binds (ps := ["value"]) fun _ _ _ _ _ _ us hl => match us, hl with | [_], _ => rfl
  have bf12 := Ff12.binds (ps := ["value"]) fun _ _ _ _ _ _ us hl => match us, hl with | [_], _ => rfl
  have bf13 := Ff13.binds (ps := ["value"]) fun _ _ _ _ _ _ us hl => match us, hl with | [_], _ => rfl
  have bf14 := Ff14.binds (ps := ["fact", "then"]) fun _ _ _ _ _ _ us hl => match us, hl with | [_, _], _ => rfl
  have bf15 := Ff15.binds (ps := ["value"]) fun _ _ _ _ _ _ us hl => match us, hl with | [_], _ => rfl
  have bf16 := Ff16.binds (ps := ["store"]) fun _ _ _ _ _ _ us hl => match us, hl with | [_], _ => rfl
  have bf17 := Ff17.binds (ps := ["facts"]) fun _ _ _ _ _ _ us hl => match us, hl with | [_], _ => rfl
  have bf18 := Ff18.binds (ps := ["store", "words"]) fun _ _ _ _ _ _ us hl => match us, hl with | [_, _], _ => rfl
  have bf19 := Ff19.binds (ps := ["text", "lines"]) fun _ _ _ _ _ _ us hl => match us, hl with | [_, _], _ => rfl
  have bf20 := Ff20.binds (ps := ["text"]) fun _ _ _ _ _ _ us hl => match us, hl with | [_], _ => rfl
  have bf21 := Ff21.binds (ps := ["_law_text"]) fun _ _ _ _ _ _ us hl => match us, hl with | [_], _ => rfl
  have bf22 := Ff22.binds (ps := ["_law_value"]) fun _ _ _ _ _ _ us hl => match us, hl with | [_], _ => rfl
  have bf23 := Ff23.binds (ps := ["_law_value"]) fun _ _ _ _ _ _ us hl => match us, hl with | [_], _ => rfl
  have bf24 := Ff24.binds (ps := ["_law_words"]) fun _ _ _ _ _ _ us hl => match us, hl with | [_], _ => rfl
  have bf25 := Ff25.binds (ps := ["_law_store_here"]) fun _ _ _ _ _ _ us hl => match us, hl with | [_], _ => rfl
  have bf26 := Ff26.binds (ps := ["_law_text"]) fun _ _ _ _ _ _ us hl => match us, hl with | [_], _ => rfl
  have bBI := FBI.binds (ps := ["self", "line", "word"]) fun _ _ _ _ _ _ us hl => match us, hl with | [_, _, _], _ => rfl
  refine ⟨PySem.W.fnOf "law" "law" (defArgs sLaw) (defBody sLaw) (defScope sLaw) .none kVLw dcLw pmLw anLw cdLw ctLw, fun s v => .of_eq rfl, fun base Kb _ => ?mn⟩
  case mn =>
    have OBT : OexC K cBT := ⟨⟨_, _, _, _, _, _, _, _, _, _, _, _, _, _, _, xBT, rfl⟩, saBT, od_BT, tyBT, kpBT⟩
    have EBadText : ExCF l.prog w K mg base "BadText" "line" "word" cBT fBI _ := ⟨m gcBT, OBT, aBI, tBI, okI_BadText FBI OBT liBT woBT, bBI⟩
    have OCoreError : ExTf K mg "CoreError" "line" "word" cCE cBT := ⟨m gcCE, ox_BT, oc_BT, ov_BT, ⟨oa_BT, ob_BT, od_BT, oe_BT, of_BT, og_BT, oh_BT, oi_BT⟩, ⟨oa_BT, ob_BT, od_BT, oe_BT⟩, liBT, woBT⟩
    have gDr := ok_draw (P := l.prog) (w := w) (base := base) FDr B
    have gOn := ok_one FOn B gDr (m aDr) kDr bDr
    have gWo := ok_word FWo B gOn (m aOn) kOn bOn
    have gPl := ok_pool FPl B gWo (m aWo) kWo bWo
    have gf5 := ok_unks Ff5 B gDr (m aDr) kDr bDr
    have hf5 := as_unks gf5
    have gf6 := ok_kinds Ff6 B gDr (m aDr) kDr bDr gOn (m aOn) kOn bOn gPl (m aPl) kPl bPl
    have hf6 := as_kinds gf6
    have hDr := as_draw gDr
    have hPl := as_pool gPl
    have hDk := ok_deck (P := l.prog) (w := w) (base := base) FDk B
    have hOn := okW__law_one (P := l.prog) (w := w) (mg := mg) (base := base) FOn (z z_len) hDr (m aDr) kDr bDr
    have hf7 := okW__law_store (P := l.prog) (w := w) (mg := mg) (base := base) Ff7 (z z_range) (z z_tuple) (z z_sorted) (z z_set) hDr (m aDr) kDr bDr hOn (m aOn) kOn bOn
    have hf8 := okW__law_bent_rows (P := l.prog) (w := w) (mg := mg) (base := base) Ff8 (z z_list) (z z_len) hDr (m aDr) kDr bDr hOn (m aOn) kOn bOn
    have hf9 := okF_text_lines (P := l.prog) (w := w) (mg := mg) (base := base) Ff9 
    have hf10 := okF_is_word (P := l.prog) (w := w) (mg := mg) (base := base) Ff10 (z z_isinstance) (z z_str) (z z_len) (z z_all) k_str (m g_LETTERS)
    have hf11 := okF_is_unknown (P := l.prog) (w := w) (mg := mg) (base := base) Ff11 (z z_isinstance) (z z_str) (z z_len) (z z_all) k_str (m g_DIGITS)
    have hf12 := okF_is_value (P := l.prog) (w := w) (mg := mg) (base := base) Ff12 hf10 (m af10) kf10 bf10 hf11 (m af11) kf11 bf11
    have hf13 := okF_is_fact (P := l.prog) (w := w) (mg := mg) (base := base) Ff13 (z z_isinstance) (z z_tuple) (z z_len) (z z_all) k_tuple hf10 (m af10) kf10 bf10 hf12 (m af12) kf12 bf12
    have hf14 := okF_may_follow (P := l.prog) (w := w) (mg := mg) (base := base) Ff14 (z z_len)
    have hf15 := okF_is_store (P := l.prog) (w := w) (mg := mg) (base := base) Ff15 (z z_isinstance) (z z_tuple) (z z_all) (z z_zip) k_tuple hf13 (m af13) kf13 bf13 hf14 (m af14) kf14 bf14
    have hf16 := okF_unknowns (P := l.prog) (w := w) (mg := mg) (base := base) Ff16 (z z_tuple) (z z_sorted) hf11 (m af11) kf11 bf11
    have hf17 := okF_may_be_read (P := l.prog) (w := w) (mg := mg) (base := base) Ff17 (z z_len) (m g_MOST_FACTS) (m g_MOST_UNKNOWNS) hf15 (m af15) kf15 bf15 hf16 (m af16) kf16 bf16
    have hf18 := okF_fact_fault (P := l.prog) (w := w) (mg := mg) (base := base) Ff18 (z z_enumerate) (z z_len) (m g_MOST_VALUES) hf10 (m af10) kf10 bf10 hf12 (m af12) kf12 bf12 hf17 (m af17) kf17 bf17
    have xf19 := okP_check_end (P := l.prog) (w := w) (mg := mg) (base := base) Ff19 EBadText (z z_len)
    have xf20 := okP_read_store (P := l.prog) (w := w) (mg := mg) (base := base) Ff20 EBadText (z z_enumerate) (z z_tuple) hf9 (m af9) kf9 bf9 hf18 (m af18) kf18 bf18 xf19 (m af19) kf19 bf19
    have hf21 := okF__law_read (P := l.prog) (w := w) (mg := mg) (base := base) Ff21 EBadText OCoreError (z z_isinstance) (z z_ValueError) xf20 (m af20) kf20 bf20
    have hf22 := okF__law_is_word (P := l.prog) (w := w) (mg := mg) (base := base) Ff22 (z z_isinstance) (z z_str) (z z_len) k_str
    have hf23 := okF__law_is_unknown (P := l.prog) (w := w) (mg := mg) (base := base) Ff23 (z z_isinstance) (z z_str) (z z_len) k_str
    have hf24 := okF__law_wrong (P := l.prog) (w := w) (mg := mg) (base := base) Ff24 (z z_len) (z z_range) hf22 (m af22) kf22 bf22 hf23 (m af23) kf23 bf23
    have hf25 := okF__law_names (P := l.prog) (w := w) (mg := mg) (base := base) Ff25 (z z_tuple) (z z_sorted) (z z_set)
    have hf26 := okF29__law_due (P := l.prog) (w := w) (mg := mg) (base := base) Ff26 (z z_range) (z z_len) (z z_tuple) hf24 (m af24) kf24 bf24 hf25 (m af25) kf25 bf25
    exact okL_law FLw (z z_range) (z z_list) (z z_len) (z z_repr) (z z_str) hDk (m aDk) kDk bDk hPl (m aPl) kPl bPl hf5 (m af5) kf5 bf5 hf7 (m af7) kf7 bf7 hf6 (m af6) kf6 bf6 hDr (m aDr) kDr bDr hf8 (m af8) kf8 bf8 hOn (m aOn) kOn bOn hf21 (m af21) kf21 bf21 hf26 (m af26) kf26 bf26
end My
open PySem PySem.W PyProof.Rows
set_option maxRecDepth 100000 in
set_option maxHeartbeats 0 in
theorem PySem.Challenge.cw_corestore_k29_other_texts_holds : PySem.Challenge.rw_corestore_k29_other_texts.Holds := by
  w_on; o_law; k_head; (case hw => w_witness2)
  k_fill
  refine My.walk_gw (l := PySem.Challenge.rw_corestore_k29_other_texts) (k := 9) (x := "_law_script") (sp := fun w => @My.spLaw ⟨[], nofun, w⟩) rfl rfl ⟨rfl, by decide, by decide⟩ (fun w h Y => PySem.W.kIn_of Y) ?F (fun w K H a ns hl hS => ⟨a, ns, rfl, hS, hl, nofun, fun _ => rfl⟩)
  case F =>
    intro w mg fa h KX G hmg
    letI : My.TbC := ⟨[], nofun, w⟩
    refine' My.all_mk KX G hmg rfl ?aDk ?lDk ?cDk ?kDk ?aDr ?lDr ?cDr ?kDr ?aOn ?lOn ?cOn ?kOn ?aWo ?lWo ?cWo ?kWo ?aPl ?lPl ?cPl ?kPl ?af5 ?lf5 ?cf5 ?kf5 ?af6 ?lf6 ?cf6 ?kf6 ?af7 ?lf7 ?cf7 ?kf7 ?af8 ?lf8 ?cf8 ?kf8 ?af9 ?lf9 ?cf9 ?kf9 ?af10 ?lf10 ?cf10 ?kf10 ?af11 ?lf11 ?cf11 ?kf11 ?af12 ?lf12 ?cf12 ?kf12 ?af13 ?lf13 ?cf13 ?kf13 ?af14 ?lf14 ?cf14 ?kf14 ?af15 ?lf15 ?cf15 ?kf15 ?af16 ?lf16 ?cf16 ?kf16 ?af17 ?lf17 ?cf17 ?kf17 ?af18 ?lf18 ?cf18 ?kf18 ?af19 ?lf19 ?cf19 ?kf19 ?af20 ?lf20 ?cf20 ?kf20 ?af21 ?lf21 ?cf21 ?kf21 ?af22 ?lf22 ?cf22 ?kf22 ?af23 ?lf23 ?cf23 ?kf23 ?af24 ?lf24 ?cf24 ?kf24 ?af25 ?lf25 ?cf25 ?kf25 ?af26 ?lf26 ?cf26 ?kf26 ?aLw ?lLw ?cLw ?kLw ?aBI ?lBI ?cBI ?kBI ?gcBT ?gcCE ?xBT ?saBT ?tyBT ?kpBT ?tBI ?liBT ?woBT ?ox_BT ?oc_BT ?ov_BT ?oa_BT ?ob_BT ?od_BT ?oe_BT ?of_BT ?og_BT ?oh_BT ?oi_BT ?z_ValueError ?z_abs ?z_all ?z_dict ?z_enumerate ?z_int ?z_isinstance ?z_len ?z_list ?z_range ?z_repr ?z_set ?z_sorted ?z_str ?z_tuple ?z_zip ?g_DIGITS ?g_LETTERS ?g_MOST_FACTS ?g_MOST_UNKNOWNS ?g_MOST_VALUES ?i_str_0 ?i_str_1 ?i_str_2 ?i_str_3 ?i_str_4 ?i_str_5 ?i_tuple_0 ?i_tuple_1 ?i_tuple_2 ?i_tuple_3 ?i_tuple_4 ?i_tuple_5
    (case gcBT => k_is)
    (case gcCE => k_is)
    (case g_DIGITS => k_is)
    (case g_LETTERS => k_is)
    (case g_MOST_FACTS => k_is)
    (case g_MOST_UNKNOWNS => k_is)
    (case g_MOST_VALUES => k_is)
    (case aDk => k_is)
    (case aDr => k_is)
    (case aOn => k_is)
    (case aWo => k_is)
    (case aPl => k_is)
    (case af5 => k_is)
    (case af6 => k_is)
    (case af7 => k_is)
    (case af8 => k_is)
    (case af9 => k_is)
    (case af10 => k_is)
    (case af11 => k_is)
    (case af12 => k_is)
    (case af13 => k_is)
    (case af14 => k_is)
    (case af15 => k_is)
    (case af16 => k_is)
    (case af17 => k_is)
    (case af18 => k_is)
    (case af19 => k_is)
    (case af20 => k_is)
    (case af21 => k_is)
    (case af22 => k_is)
    (case af23 => k_is)
    (case af24 => k_is)
    (case af25 => k_is)
    (case af26 => k_is)
    (case aLw => k_is)
    (case aBI => k_is)
    (case lDk => k_is)
    (case lDr => k_is)
    (case lOn => k_is)
    (case lWo => k_is)
    (case lPl => k_is)
    (case lf5 => k_is)
    (case lf6 => k_is)
    (case lf7 => k_is)
    (case lf8 => k_is)
    (case lf9 => k_is)
    (case lf10 => k_is)
    (case lf11 => k_is)
    (case lf12 => k_is)
    (case lf13 => k_is)
    (case lf14 => k_is)
    (case lf15 => k_is)
    (case lf16 => k_is)
    (case lf17 => k_is)
    (case lf18 => k_is)
    (case lf19 => k_is)
    (case lf20 => k_is)
    (case lf21 => k_is)
    (case lf22 => k_is)
    (case lf23 => k_is)
    (case lf24 => k_is)
    (case lf25 => k_is)
    (case lf26 => k_is)
    (case lLw => k_is)
    (case lBI => k_is)
    (case cDk => k_is)
    (case kDk => k_is)
    (case cDr => k_is)
    (case kDr => k_is)
    (case cOn => k_is)
    (case kOn => k_is)
    (case cWo => k_is)
    (case kWo => k_is)
    (case cPl => k_is)
    (case kPl => k_is)
    (case cf5 => k_is)
    (case kf5 => k_is)
    (case cf6 => k_is)
    (case kf6 => k_is)
    (case cf7 => k_is)
    (case kf7 => k_is)
    (case cf8 => k_is)
    (case kf8 => k_is)
    (case cf9 => k_is)
    (case kf9 => k_is)
    (case cf10 => k_is)
    (case kf10 => k_is)
    (case cf11 => k_is)
    (case kf11 => k_is)
    (case cf12 => k_is)
    (case kf12 => k_is)
    (case cf13 => k_is)
    (case kf13 => k_is)
    (case cf14 => k_is)
    (case kf14 => k_is)
    (case cf15 => k_is)
    (case kf15 => k_is)
    (case cf16 => k_is)
    (case kf16 => k_is)
    (case cf17 => k_is)
    (case kf17 => k_is)
    (case cf18 => k_is)
    (case kf18 => k_is)
    (case cf19 => k_is)
    (case kf19 => k_is)
    (case cf20 => k_is)
    (case kf20 => k_is)
    (case cf21 => k_is)
    (case kf21 => k_is)
    (case cf22 => k_is)
    (case kf22 => k_is)
    (case cf23 => k_is)
    (case kf23 => k_is)
    (case cf24 => k_is)
    (case kf24 => k_is)
    (case cf25 => k_is)
    (case kf25 => k_is)
    (case cf26 => k_is)
    (case kf26 => k_is)
    (case cLw => k_is)
    (case kLw => k_is)
    (case cBI => k_is)
    (case kBI => k_is)
    (case xBT => k_is)
    (case saBT => k_is)
    (case tyBT => k_is)
    (case kpBT => k_is)
    (case tBI => k_is)
    (case liBT => k_is)
    (case woBT => k_is)
    (case ox_BT => kts_exm)
    (case oc_BT => kit_is)
    (case ov_BT => kit_is)
    (case oa_BT => k_is)
    (case ob_BT => k_is)
    (case od_BT => k_is)
    (case oe_BT => k_is)
    (case of_BT => k_is)
    (case og_BT => k_is)
    (case oh_BT => k_is)
    (case oi_BT => k_is)
    (case z_ValueError => k_is)
    (case z_abs => k_is)
    (case z_all => k_is)
    (case z_dict => k_is)
    (case z_enumerate => k_is)
    (case z_int => k_is)
    (case z_isinstance => k_is)
    (case z_len => k_is)
    (case z_list => k_is)
    (case z_range => k_is)
    (case z_repr => k_is)
    (case z_set => k_is)
    (case z_sorted => k_is)
    (case z_str => k_is)
    (case z_tuple => k_is)
    (case z_zip => k_is)
    (case i_str_0 => kit_is)
    (case i_str_1 => kit_is)
    (case i_str_2 => kit_is)
    (case i_str_3 => kit_is)
    (case i_str_4 => kit_is)
    (case i_str_5 => kit_is)
    (case i_tuple_0 => kit_is)
    (case i_tuple_1 => kit_is)
    (case i_tuple_2 => kit_is)
    (case i_tuple_3 => kit_is)
    (case i_tuple_4 => kit_is)
    (case i_tuple_5 => kit_is)
    all_goals exact Value.none
