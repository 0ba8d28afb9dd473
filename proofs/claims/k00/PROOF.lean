import PyProof.Rows.All
import Wide.All
import OpenK.AllK
import Wide.FinOn
import HandS.ForMost
import HandS.ForExc
import HandS.Codes
import HandS.IsInst
import HandS.ExcInit
import HandS.ExcValue
import KE.KExcIs
import KE.KDictPairs
import HandS.Style
import HandS.TupAny
import KE.KRevSl
import HandS.Lambda
import KE.KDictKeyed
import HandS.TupSets
import HandS.SetBool
import HandS.SortOrd
import HandS.SortRule
import PyProof.Rows.SortKeyStr
import HandS.SetFor
import HandS.Strs
import HandS.SortInts
import KE.KeyNested
import KE.SortData
import HandS.Zip
import KE.DataMinKey
import KE.DataMinMax
import HandS.Iter
import KE.GoesEnum
import KE.KDictZip
import PyProof.ListNew
import HandS.ListItems
import KE.GoesEnumKw
import KE.GoesNew
import HandS.Text
import HandS.WordsDict
import HandS.More
import HandS.Small
import HandS.TupMul
import PyProof.StrOps2
import HandS.Wide
import HandS.DictComp
import HandS.FStr
import HandS.Flow
import HandS.Conv
import KE.KDictList
import KE.KDictCopyH
import HandS.DictTup
import HandS.Defaults
import KE.KNestM
import PySem.Challenge.RW_corestore_k00_worked_examples
set_option Elab.async false
set_option maxRecDepth 100000
namespace My
open PySem PySem.Spec PyProof.Rows L2

def off (d : Addr) (H : Hp) : Hp := fun b => if b = d then none else H b
def Fr (d : Addr) (H H' : Hp) : Prop := ∀ b o, b ≠ d → H b = some o → H' b = some o
theorem Fr.refl (d : Addr) (H : Hp) : Fr d H H := fun _ _ _ h => h
theorem Fr.trans {d : Addr} {H H1 H2 : Hp} (a : Fr d H H1) (b : Fr d H1 H2) : Fr d H H2 := fun c o n h => b c o n (a c o n h)
theorem Fr.off {d : Addr} {H H' : Hp} (a : Fr d H H') : Same (off d H) (off d H') := fun b o h => by
  unfold My.off at h ⊢
  by_cases e : b = d
  · rw [if_pos e] at h
    cases h
  · rw [if_neg e] at h ⊢
    exact a b o e h
theorem same_new {H : Hp} {p : Addr} {o : HO} (n : H p = none) : Same H (upd H p o) := fun b u h => by
  rw [upd_ne (ne_of_none h n)]
  exact h
theorem same_seqT {K : PySem.W.Frag} {H H' : Hp} {a : Addr} {xs : List V} (e : Same H H') (h : SqT K H a xs) : SqT K H' a xs := by
  rcases h with (h | ⟨o, h⟩) | h
  · exact .inl (.inl (e _ _ h))
  · exact .inl (.inr ⟨o, e _ _ h⟩)
  · exact .inr h

section
variable {K : PySem.W.Frag} {H H' : Hp}
mutual
theorem dp_noDict : ∀ (d : PyData) (v : V), Dp K H v d → d.hasDict = false
  | .none, _, _ => by simp only [PyData.hasDict]
  | .bool _, _, _ => by simp only [PyData.hasDict]
  | .int _, _, _ => by simp only [PyData.hasDict]
  | .str _, _, _ => by simp only [PyData.hasDict]
  | .list ds, _, h => by
    cases h with
    | lst hs ha => simp only [PyData.hasDict]; exact dps_noDict ds _ ha
  | .tuple ds, _, h => by
    cases h with
    | tup hs ha => simp only [PyData.hasDict]; exact dps_noDict ds _ ha
  | .dict _, _, h => by cases h
theorem dps_noDict : ∀ (ds : List PyData) (vs : List V), DpAll K H vs ds → PyData.hasDictAll ds = false
  | [], _, _ => by simp only [PyData.hasDictAll]
  | d :: ds, _, h => by
    cases h with
    | cons h1 h2 => simp only [PyData.hasDictAll, dp_noDict d _ h1, dps_noDict ds _ h2, Bool.or_false]
end
end

def rRepr (K : PySem.W.Frag) : List V → Hp → VK → Prop := fun xs H Q => ∃ (x : V) (d : PyData), xs = [x] ∧ Dp K H x d ∧ d.showable = true ∧ d.depth ≤ 60 ∧ d.shown.length ≤ sizeLine ∧ Q (.str d.shown) H
theorem cr_repr {X : Cx} (hg : X.A.guards = some []) (hu : X.A.units + 64 < cLine) : CallR X (.builtin "repr") (rRepr X.K) := by
  intro pins s σ H xs us Q I r h
  obtain ⟨x, d, rfl, hd, hs, hz, hl, q⟩ := h
  obtain ⟨u, rfl, ru⟩ := vals1 r
  obtain ⟨as, rd⟩ := Dp.reads I d x u hd ru
  have nd := dp_noDict d x hd
  cases hd with
  | non =>
    cases (show u = Value.none from ru)
    have e : (PyData.none).shown = ("None" : Str) := by simp only [PyData.shown]
    rw [e] at q
    exact PySem.P.repr_of_none ⟨.str _, H, I.tok _, ⟨_, rfl⟩, q⟩
  | bl b =>
    cases (show u = Value.bool b from ru)
    have e : (PyData.bool b).shown = (if b then Str.ofString "True" else Str.ofString "False") := by simp only [PyData.shown]
    rw [e] at q
    exact PySem.P.repr_of_bool ⟨.str _, H, I.tok _, ⟨_, rfl⟩, q⟩
  | int i =>
    obtain ⟨t, rfl⟩ := (show ∃ t, u = Value.int i t from ru)
    have e : (PyData.int i).shown = (toString i : String) := by simp only [PyData.shown]
    rw [e] at q
    exact PySem.P.repr_of_int (by simpa [PyData.showable] using hs) ⟨.str _, H, I.tok _, ⟨_, rfl⟩, q⟩
  | str z =>
    obtain ⟨t, rfl⟩ := (show ∃ t, u = Value.str z t from ru)
    have e : (PyData.str z).shown = reprText z := by simp only [PyData.shown]
    rw [e] at q hl
    exact PySem.P.repr_of_str ⟨.str _, H, I.tok _, ⟨_, rfl⟩, q⟩ hl
  | @lst a xs ds h1 h2 =>
    cases (show u = Value.ref a from ru)
    exact repr_of_reads' (h₀ := s.heap) rd hs (PyData.noDict_hsm nd) hg (by omega) (fun _ _ e => e) (fun h' u tk hk => ⟨.str _, H, I.kept hk, ⟨u, rfl⟩, q⟩) hl
  | @tup a xs ds h1 h2 =>
    cases (show u = Value.ref a from ru)
    exact repr_of_reads' (h₀ := s.heap) rd hs (PyData.noDict_hsm nd) hg (by omega) (fun _ _ e => e) (fun h' u tk hk => ⟨.str _, H, I.kept hk, ⟨u, rfl⟩, q⟩) hl

section
variable {X : Cx} {e : Expr} {es : List Expr} {d : PyData} {ds : List PyData} {pos : Pos}
end
end My

namespace My
open PySem PySem.Spec PyProof.Rows L2

structure RunG (P : Program) (w : World) (K : PySem.W.Frag) (mg : Str → Option Value) (base : Heap) (k : Nat) (f : Addr) (fd : FuncData) (ps : List Str) (sp : Sp) : Prop where
  len : ∀ vs H Q E, sp vs H Q E → vs.length = ps.length
  go : ∀ (A : Around) (outer : List Env) (s : Shared) (H : Hp) (args : Args) (us : List Value) (vs : List V) (Q : VK) (E : XK), A.guards = some [] → Room k A → Env0 P w K mg base A outer s H →
    BindsTo s fd args (ps.zip us) → Vals vs us → sp vs H Q E → codeAny (model P w) A (.call (.ref f) args) (CR CX0 outer P w H s Q E) s
section
variable {P : Program} {w : World} {K : PySem.W.Frag} {mg : Str → Option Value} {base : Heap}
theorem runG {x qual : Str} {st : Stmt} {f : Addr} {fd : FuncData} {N ps : List Str} {k : Nat} {sp : Sp} (F : Fun K x qual st f fd) (S : FnScope N ps (defScope st)) (len : ∀ vs H Q E, sp vs H Q E → vs.length = ps.length)
    (hbody : ∀ (cdv : Value) (A : Around) (outer : List Env) (s : Shared) (H : Hp) (vs : List V) (Q : VK) (E : XK), A.guards = some [] → Room k (A.deeper (envOfC qual (defScope st) s.heap.objs.size f cdv)) → sp vs H Q E →
      ∃ t, PSs (cxOf CX0 P w K mg base N qual (defScope st) f cdv A outer s H E).nox (defBody st) t ∧ t { nx := fun _ H' => Q .non H', rt := Q } (L2.start N vs) H) : RunG P w K mg base (k + 1) f fd ps sp := by
  refine ⟨len, fun A outer s H args us vs Q E hgu hr e0 hb r hsp => ?_⟩
  obtain ⟨oc, od, kV, doc, pm, an, cdv, ct, osl, rfl, lk, hcd⟩ := F.ex
  have up : ∀ b o, base.get? b = some o → s.heap.get? b = some o := fun b o e => (e0.bs b o e).1
  have KX : K.In s.heap := e0.mod.kin.keeps up
  have hkind : ∀ y ∈ ps.zip us, (defScope st).names.lookup y.1 = some .local ∨ ((defScope st).names.lookup y.1 = some .cell ∧ ((cellsFrom (s.heap.objs.size + 1) (defScope st).names []).lookup y.1).isSome = true) := by
    rintro ⟨n, v⟩ hy
    exact (S.par n (List.of_mem_zip hy).1).imp id fun q => ⟨q, PySem.W.cellsFrom_some _ _ _ (.inl q)⟩
  refine codeAny_call_function hr.depth (KX _ _ lk) rfl S.co S.gen rfl (PySem.W.codeRec_of KX hcd) (hb _ _ _ _ (wpAny_newFunctionEnv_cells S.kind hkind fun env he s1 x => ?_))
  subst he
  refine ⟨(e0.mod.nolimit.keeps up).keeps x.toInCall.keep, codeAny_func ?_⟩
  obtain ⟨t, ht, hq⟩ := hbody cdv A outer s H vs Q E hgu (hr.deeper _) hsp
  refine wpAny_mono (ht.nox.run [] s1 _ H _ (inv_start S hr.hd e0 (len _ _ _ _ hsp) r x) hq) (fun fl s' hs => ?_) fun _ _ hs => hs
  cases fl with
  | ret u => exact hs.elim fun v ⟨σ', H', J, rv, q⟩ => ⟨v, H', J.os, J.bare, J.base, J.hok, rv, q⟩
  | next => exact hs.elim fun σ' ⟨H', J, q⟩ => ⟨V.non, H', J.os, J.bare, J.base, J.hok, rfl, q⟩
  | brk => exact hs.elim fun _ ⟨_, _, q⟩ => q.elim
  | cont => exact hs.elim fun _ ⟨_, _, q⟩ => q.elim
theorem entry_heap {s : Shared} {a : Addr} {vs : List Value} {ns : List Int} (KX : K.In s.heap) (ha : s.heap.get? a = some { cls := .type "list", data := .seq vs.toArray }) (hi : IntsAre vs ns) (hl : ns.length ≤ sizeLine) :
    ∃ H : Hp, Only H ∧ SqL K H a (ns.map V.int) ∧ HOk P w H s.heap ∧ ∀ b u, H b = some u → b = a ∧ K.lookup b = none := by
  cases hk : K.lookup a with
  | some o =>
    have e := KX a o hk
    rw [ha] at e
    cases e
    have none_ : ∀ (b : Addr) (u : HO), (fun _ : Addr => (Option.none : Option HO)) b = some u → False := fun b u z => nomatch z
    exact ⟨fun _ => none, fun _ => .inl rfl, .inr ⟨_, vs.toArray, _, hk, rfl, rfl, rfl, by rw [List.size_toArray, hi.length]; exact hl, by simpa using vals_ints hi⟩, fun b u z => (none_ b u z).elim, fun b u z => (none_ b u z).elim⟩
  | none =>
    have at_ : ∀ {b : Addr} {u : HO}, (if b = a then some (HO.frz { cls := .type "list", data := .seq vs.toArray } (.lst (ns.map V.int))) else none) = some u → b = a ∧ u = HO.frz { cls := .type "list", data := .seq vs.toArray } (.lst (ns.map V.int)) := by
      intro b u z
      by_cases hb : b = a
      · rw [if_pos hb] at z
        exact ⟨hb, (Option.some.inj z).symm⟩
      · rw [if_neg hb] at z
        cases z
    refine ⟨fun b => if b = a then some (.frz { cls := .type "list", data := .seq vs.toArray } (.lst (ns.map V.int))) else none, fun b => ?_, .inl (.inr ⟨_, if_pos rfl⟩), fun b u z => ?_, fun b u z => ⟨(at_ z).1, by rw [(at_ z).1]; exact hk⟩⟩
    · by_cases hb : b = a
      · exact .inr ⟨_, _, if_pos hb⟩
      · exact .inl (if_neg hb)
    · obtain ⟨rfl, rfl⟩ := at_ z
      exact ⟨ha, by rw [List.length_map]; exact hl, vs, _, vals_ints hi, ha⟩
end
end My

namespace My
open PySem PySem.Spec PyProof.Rows L2

structure Blt (mg : Str → Option Value) : Prop where
  int : mg "int" = none
  len : mg "len" = none
  abs : mg "abs" = none
  list : mg "list" = none
  range : mg "range" = none
  repr : mg "repr" = none
structure Deck (H : Hp) (d l : Addr) (ns : List Int) (k : Nat) : Prop where
  ex : ∃ i r n : Int, H d = some (.lst [.ref l, .int i, .int r, .int n]) ∧ 0 ≤ n ∧ n ≤ k
  cells : H l = some (.lst (ns.map V.int))
theorem Deck.ne {H : Hp} {d l : Addr} {ns : List Int} {k : Nat} (D : Deck H d l ns k) : l ≠ d := by
  intro e
  obtain ⟨⟨i, r, n, h, _⟩, c⟩ := D
  rw [e, h] at c
  have c' := HO.lst.inj (Option.some.inj c)
  cases ns with
  | nil => cases c'
  | cons z zs => cases (List.cons.inj c').1
theorem Deck.mono {H : Hp} {d l : Addr} {ns : List Int} {k j : Nat} (D : Deck H d l ns k) (h : k ≤ j) : Deck H d l ns j := by
  obtain ⟨⟨i, r, n, e, h0, h1⟩, c⟩ := D
  exact ⟨⟨i, r, n, e, h0, by omega⟩, c⟩
theorem Deck.same {H H' : Hp} {d l : Addr} {ns : List Int} {k : Nat} (D : Deck H d l ns k) (e : Same H H') : Deck H' d l ns k := by
  obtain ⟨⟨i, r, n, h, hn⟩, c⟩ := D
  exact ⟨⟨i, r, n, e _ _ h, hn⟩, e _ _ c⟩
theorem Deck.upd {H : Hp} {d l b : Addr} {ns : List Int} {k : Nat} {o : HO} (D : Deck H d l ns k) (hd : b ≠ d) (hl : b ≠ l) : Deck (upd H b o) d l ns k := by
  obtain ⟨⟨i, r, n, e, z⟩, c⟩ := D
  exact ⟨⟨i, r, n, by rw [upd_ne (Ne.symm hd)]; exact e, z⟩, by rw [upd_ne (Ne.symm hl)]; exact c⟩
theorem Deck.nd {H : Hp} {d l b : Addr} {ns : List Int} {k : Nat} (D : Deck H d l ns k) (n : H b = none) : b ≠ d ∧ b ≠ l := by
  obtain ⟨⟨i, r, m, e, z⟩, c⟩ := D
  exact ⟨Ne.symm (ne_of_none e n), Ne.symm (ne_of_none c n)⟩
end My

namespace My
open PySem PySem.Spec PyProof.Rows L2
def KTup (a : Addr) (ys : List V) (o : HO) : Prop := ∃ (its : List Value) (n : Nat), o = .frz { cls := .type "tuple", data := .seq its.toArray n } (.tup ys)
theorem KTup.rd {K : PySem.W.Frag} {H : Hp} {a : Addr} {ys : List V} {o : HO} (h : KTup a ys o) (e : H a = some o) : SqT K H a ys := by
  obtain ⟨its, n, rfl⟩ := h
  exact .inl (.inr ⟨_, e⟩)
section
variable {X : Cx}
theorem ktup_new {P : Program} {w : World} {H : Hp} {h : Heap} {ys : List V} {its : List Value} {a : Addr} {n : Nat} (hz : ys.length ≤ sizeLine) (r : Vals ys its) (e : h.get? a = some { cls := .type "tuple", data := .seq its.toArray n }) :
    ObjOk P w H h a (.frz { cls := .type "tuple", data := .seq its.toArray n } (.tup ys)) := ⟨e, hz, its, r, ⟨_, e, rfl, _, rfl⟩⟩
def rTupK (K : PySem.W.Frag) : List V → Hp → VK → Prop := fun xs H Q => ∃ p ys, xs = [.ref p] ∧ SqL K H p ys ∧ ∀ (l : Addr) (o : HO), H l = none → KTup l ys o → Q (.ref l) (upd H l o)
theorem call_tupK : CallR X (.type "tuple") (rTupK X.K) := by
  intro pins s σ H xs us Q I r h
  obtain ⟨p, ys, rfl, hq, q⟩ := h
  obtain ⟨u, rfl, rx⟩ := vals1 r
  cases (show u = Value.ref p from rx)
  obtain ⟨its, r', pl, hz⟩ := I.list hq
  have hl := r'.length
  refine call_tuple_list pl.isList (fun h' kp => ?_) (by simp only [List.size_toArray]; omega)
  have I1 : Inv X pins σ H { s with heap := h' } := I.kept (t' := s.toks) kp
  exact ⟨.ref h'.objs.size, _, I1.laid (t' := s.toks) (fun b o e => Heap.get?_push_of_some _ e) (Nat.le_refl _) (ktup_new hz r' (Heap.get?_push_size _ rfl)), rfl, q _ _ (I1.hok.fresh (Nat.le_refl _)) ⟨_, _, rfl⟩⟩
theorem pairs_vals {pins : List (Addr × Obj)} {σ : L2.St} {H : Hp} {s : Shared} (I : Inv X pins σ H s) : ∀ {ps : List Addr} {kvs : List (Key × V)}, Paired (fun p kv => SqT X.K H p [kV kv.1, kv.2]) ps kvs →
    ∃ (prs : List (Key × Value)) (pv : List (Value × Value)), KV kvs prs ∧ pv.length = ps.length ∧ prs.length = ps.length ∧
      ∀ (j : Nat) (k v : Value), pv[j]? = some (k, v) → (∃ b, ps[j]? = some b ∧ IsTup s.heap b #[k, v]) ∧ ∃ q, prs[j]? = some (q, v) ∧ keyIs q k = true
  | _, _, .nil => ⟨[], [], .nil, rfl, rfl, fun j k v e => by simp at e⟩
  | _, _, .cons (a := p) (b := kv) h t => by
    obtain ⟨prs, pv, r, l1, l2, hp⟩ := pairs_vals I t
    obtain ⟨its, rv, ht, _⟩ := I.tuple h
    obtain ⟨u, y, rfl, ru, ry⟩ := vals2 rv
    refine ⟨(kv.1, y) :: prs, (u, y) :: pv, .cons ⟨rfl, ry⟩ r, congrArg Nat.succ l1, congrArg Nat.succ l2, fun j k v e => ?_⟩
    cases j with
    | zero =>
      obtain ⟨rfl, rfl⟩ := Prod.mk.inj (Option.some.inj e)
      exact ⟨⟨p, rfl, ht⟩, kv.1, rfl, kV_is (P := X.prog) (w := X.w) ru⟩
    | succ j =>
      obtain ⟨⟨b, e1, e2⟩, q, e3, e4⟩ := hp j k v e
      exact ⟨⟨b, e1, e2⟩, q, e3, e4⟩
end
end My

namespace My
open PySem PySem.Spec PyProof.Rows L2 HT
section
variable {prog : Program} {w : World} {A : Around} {E : Value → Shared → Prop} {s : Shared}
end
section
variable {X : Cx}
end
end My

namespace My
open PySem PySem.Spec PyProof.Rows L2
def Pl (K : PySem.W.Frag) (H : Hp) (a : Addr) : Prop := (∃ (o : Obj) (u : HO), H a = some (.frz o u) ∧ o.dict = none) ∨ ∃ o : Obj, K.lookup a = some o ∧ o.dict = none
theorem Pl.same {K : PySem.W.Frag} {H H' : Hp} {a : Addr} (s : Same H H') (h : Pl K H a) : Pl K H' a := by
  rcases h with ⟨o, u, e, d⟩ | h
  · exact .inl ⟨o, u, s _ _ e, d⟩
  · exact .inr h
theorem KTup.pl {K : PySem.W.Frag} {H : Hp} {a : Addr} {ys : List V} {o : HO} (h : KTup a ys o) (e : H a = some o) : Pl K H a := by
  obtain ⟨its, n, rfl⟩ := h
  exact .inl ⟨_, _, e, rfl⟩
theorem KTup.nt {a : Addr} {ys : List V} {o : HO} (h : KTup a ys o) : (∀ xs, o ≠ .lst xs) ∧ ∀ kv, o ≠ .dK kv := by
  obtain ⟨its, n, rfl⟩ := h
  exact ⟨fun _ e => (nomatch e), fun _ e => (nomatch e)⟩
section
variable {X : Cx}
def tTupK (t : TA) : TE := fun σ H Q => t σ H fun xs H1 => xs.length ≤ sizeLine ∧ ∀ (p : Addr) (o : HO), H1 p = none → KTup p xs o → Q (.ref p) (upd H1 p o)
theorem pe_tupK {es : List Expr} {t : TA} {pos : Pos} {x1} (h : PA X es t) : PE X (.Tuple es x1 pos) (tTupK t) := by
  refine ⟨fun pins s σ H Q I hq => ?_⟩
  refine wpAny_Tuple_spliced (thn (h.run pos pins s σ H _ I hq) fun us s1 ⟨xs, H1, I1, r, z, q⟩ => ⟨by rw [← r.length]; exact z, ?_⟩)
  exact ⟨.ref s1.heap.objs.size, _, I1.laid (t' := s1.toks) (fun b u e => Heap.get?_push_of_some _ e) (Nat.le_refl _) (ktup_new (n := 0) z r (Heap.get?_push_size _ rfl)), rfl, q _ _ (I1.hok.fresh (Nat.le_refl _)) ⟨_, _, rfl⟩⟩
def rCatK (K : PySem.W.Frag) : R2 := fun x y H Q => ∃ a b xs ys, x = .ref a ∧ y = .ref b ∧ SqT K H a xs ∧ SqT K H b ys ∧ xs.length + ys.length ≤ sizeLine ∧
  (xs = [] → Q (.ref b) H) ∧ (xs ≠ [] → ys = [] → Q (.ref a) H) ∧ (xs ≠ [] → ys ≠ [] → ∀ (p : Addr) (o : HO), H p = none → KTup p (xs ++ ys) o → Q (.ref p) (upd H p o))
theorem op_catK : OpR X (binaryOp .Add) (rCatK X.K) := by
  intro pins s σ H x y v u Q I rx ry h
  obtain ⟨a, b, xs, ys, rfl, rfl, ha, hb, hz, q0, q1, q2⟩ := h
  by_cases hx : xs = []
  · subst hx
    cases rx
    cases ry
    obtain ⟨its, r1, p1, _⟩ := I.tuple ha
    obtain ⟨its2, r2, p2, _⟩ := I.tuple hb
    cases r1
    exact cat_tup0 p1 p2 ⟨.ref b, H, I, rfl, q0 rfl⟩
  · cases rx
    cases ry
    obtain ⟨its, r1, p1, _⟩ := I.tuple ha
    obtain ⟨its2, r2, p2, _⟩ := I.tuple hb
    refine HT.cat_tup p1 p2 (fun z => hx (r1.nil_iff.mp z)) (fun z => ⟨.ref a, H, I, rfl, q1 hx (r2.nil_iff.mp z)⟩) (fun z => ?_) (by rw [← r1.length, ← r2.length]; exact hz)
    exact ⟨.ref s.heap.objs.size, _, I.laid (t' := s.toks) (fun b ob q => Heap.get?_push_of_some _ q) (Nat.le_refl _) (ktup_new (n := 0) (by rw [List.length_append]; exact hz) (r1.append r2) (Heap.get?_push_size _ rfl)), rfl, q2 hx (fun w => z (r2.nil_iff.mpr w)) _ _ (I.hok.fresh (Nat.le_refl _)) ⟨_, _, rfl⟩⟩
def rSlK (K : PySem.W.Frag) : V → Option Int → Option Int → Hp → VK → Prop := fun x lo hi H Q => ∃ a xs, x = .ref a ∧ SqT K H a xs ∧
  (HT.sIx xs.length 0 lo = 0 ∧ HT.sIx xs.length xs.length hi = xs.length → Q (.ref a) H) ∧ (¬ (HT.sIx xs.length 0 lo = 0 ∧ HT.sIx xs.length xs.length hi = xs.length) → ∀ (p : Addr) (o : HO), H p = none → KTup p (cutV xs lo hi) o → Q (.ref p) (upd H p o))
theorem sl_tupK : L2.SlR X (rSlK X.K) := by
  intro pins s σ H x v vl vu lo hi sl Q I rx hs pl pu h
  obtain ⟨a, xs, rfl, hx, q1, q2⟩ := h
  cases rx
  obtain ⟨its, r, ht, hz⟩ := I.tuple hx
  have hlen : its.toArray.size = xs.length := by rw [List.size_toArray]; exact r.length.symm
  refine ⟨"tuple", _, PyProof.Rows.slot_tuple_getitem.lookup, ht.typeIs, ?_⟩
  by_cases hw : HT.sIx xs.length 0 lo = 0 ∧ HT.sIx xs.length xs.length hi = xs.length
  · exact getItem_tuple_whole ht hs pl pu (by rw [hlen]; exact hw) ⟨.ref a, H, I, rfl, q1 hw⟩
  · refine HT.getItem_tuple_cut ht hs pl pu (by rw [hlen]; exact hw) ?_ (by rw [hlen]; exact hz)
    rw [hlen]
    exact ⟨.ref s.heap.objs.size, _, I.laid (t' := s.toks) (fun b ob q => Heap.get?_push_of_some _ q) (Nat.le_refl _) (ktup_new (n := 0) (Nat.le_trans (cutV_length xs lo hi) hz) ((r.drop (HT.sIx xs.length 0 lo)).take (HT.sIx xs.length xs.length hi - HT.sIx xs.length 0 lo)) (Heap.get?_push_size _ rfl)), rfl, q2 hw _ _ (I.hok.fresh (Nat.le_refl _)) ⟨_, _, rfl⟩⟩
def rTupU (K : PySem.W.Frag) : List V → Hp → VK → Prop := fun xs H Q => rTupK K xs H Q ∨ ∃ a ys, xs = [.ref a] ∧ SqT K H a ys ∧ Q (.ref a) H
end
end My

namespace My
open PySem PySem.Spec PyProof.Rows L2
def kD : Key → PyData
  | .inl i => .int i
  | .inr x => .str x
def pairLike : PyData → Bool
  | .tuple [_, _] => true
  | _ => false
def dictable (ds : List PyData) : Bool := ds.all pairLike
mutual
inductive Rp (K : PySem.W.Frag) (H : Hp) : V → PyData → Prop
  | non : Rp K H .non .none
  | bl (b : Bool) : Rp K H (.bl b) (.bool b)
  | int (i : Int) : Rp K H (.int i) (.int i)
  | str (x : Str) : Rp K H (.str x) (.str x)
  | lst {a : Addr} {xs : List V} {ds : List PyData} : H a = some (.lst xs) → RpAll K H xs ds → Rp K H (.ref a) (.list ds)
  | tup {a : Addr} {xs : List V} {ds : List PyData} : SqT K H a xs → RpAll K H xs ds → (dictable ds = true → Pl K H a) → Rp K H (.ref a) (.tuple ds)
  | dic {a : Addr} {o : Obj} {kvs : List (Key × V)} {ds : List (PyData × PyData)} : H a = some (.frz o (.dK kvs)) → RpKvs K H kvs ds → Rp K H (.ref a) (.dict ds)
inductive RpAll (K : PySem.W.Frag) (H : Hp) : List V → List PyData → Prop
  | nil : RpAll K H [] []
  | cons {v : V} {vs : List V} {d : PyData} {ds : List PyData} : Rp K H v d → RpAll K H vs ds → RpAll K H (v :: vs) (d :: ds)
inductive RpKvs (K : PySem.W.Frag) (H : Hp) : List (Key × V) → List (PyData × PyData) → Prop
  | nil : RpKvs K H [] []
  | cons {k : Key} {v : V} {kvs : List (Key × V)} {d : PyData} {ds : List (PyData × PyData)} : Rp K H v d → RpKvs K H kvs ds → RpKvs K H ((k, v) :: kvs) ((kD k, d) :: ds)
end
section
variable {K : PySem.W.Frag} {H H' : Hp}
mutual
theorem Rp.same (e : Same H H') : ∀ (d : PyData) (v : V), Rp K H v d → Rp K H' v d
  | .none, _, h => by cases h; exact .non
  | .bool _, _, h => by cases h; exact .bl _
  | .int _, _, h => by cases h; exact .int _
  | .str _, _, h => by cases h; exact .str _
  | .list ds, _, h => by
    cases h with
    | lst hs ha => exact .lst (e _ _ hs) (RpAll.same e ds _ ha)
  | .tuple ds, _, h => by
    cases h with
    | tup hs ha hp => exact .tup (same_seqT e hs) (RpAll.same e ds _ ha) fun c => (hp c).same e
  | .dict ds, _, h => by
    cases h with
    | dic hs ha => exact .dic (e _ _ hs) (RpKvs.same e ds _ ha)
theorem RpAll.same (e : Same H H') : ∀ (ds : List PyData) (vs : List V), RpAll K H vs ds → RpAll K H' vs ds
  | [], _, h => by cases h; exact .nil
  | d :: ds, _, h => by
    cases h with
    | cons h1 h2 => exact .cons (Rp.same e d _ h1) (RpAll.same e ds _ h2)
theorem RpKvs.same (e : Same H H') : ∀ (ds : List (PyData × PyData)) (kvs : List (Key × V)), RpKvs K H kvs ds → RpKvs K H' kvs ds
  | [], _, h => by cases h; exact .nil
  | (k, d) :: ds, _, h => by
    cases h with
    | cons h1 h2 => exact .cons (Rp.same e d _ h1) (RpKvs.same e ds _ h2)
end
theorem RpAll.len : ∀ {ds : List PyData} {vs : List V}, RpAll K H vs ds → vs.length = ds.length
  | [], _, h => by cases h; rfl
  | d :: ds, _, h => by
    cases h with
    | cons h1 h2 => rw [List.length_cons, List.length_cons, RpAll.len h2]
theorem RpAll.get : ∀ {ds : List PyData} {vs : List V} {j : Nat} {v : V}, RpAll K H vs ds → vs[j]? = some v → ∃ d, ds[j]? = some d ∧ Rp K H v d
  | [], _, j, v, h, e => by cases h; simp at e
  | d :: ds, _, j, v, h, e => by
    cases h with
    | cons h1 h2 =>
      cases j with
      | zero =>
        simp at e
        subst e
        exact ⟨d, rfl, h1⟩
      | succ j =>
        obtain ⟨z, hz, hd⟩ := RpAll.get (j := j) (v := v) h2 (by simpa using e)
        exact ⟨z, by simpa using hz, hd⟩
theorem RpAll.at : ∀ {ds : List PyData} {vs : List V} {j : Nat} {d : PyData}, RpAll K H vs ds → ds[j]? = some d → ∃ v, vs[j]? = some v ∧ Rp K H v d
  | [], _, j, v, h, e => by simp at e
  | d :: ds, _, j, v, h, e => by
    cases h with
    | @cons v0 vs0 _ _ h1 h2 =>
      cases j with
      | zero =>
        simp at e
        subst e
        exact ⟨v0, rfl, h1⟩
      | succ j =>
        obtain ⟨z, hz, hd⟩ := RpAll.at (j := j) h2 (by simpa using e)
        exact ⟨z, by simpa using hz, hd⟩
theorem RpAll.app : ∀ {ds es : List PyData} {vs us : List V}, RpAll K H vs ds → RpAll K H us es → RpAll K H (vs ++ us) (ds ++ es)
  | [], _, _, _, h, g => by cases h; exact g
  | d :: ds, _, _, _, h, g => by
    cases h with
    | cons h1 h2 => exact .cons h1 (RpAll.app h2 g)
theorem RpAll.drop : ∀ {ds : List PyData} {vs : List V} (n : Nat), RpAll K H vs ds → RpAll K H (vs.drop n) (ds.drop n)
  | _, _, 0, h => h
  | [], _, n + 1, h => by cases h; exact .nil
  | d :: ds, _, n + 1, h => by
    cases h with
    | cons h1 h2 => exact RpAll.drop n h2
theorem RpAll.take : ∀ {ds : List PyData} {vs : List V} (n : Nat), RpAll K H vs ds → RpAll K H (vs.take n) (ds.take n)
  | _, _, 0, h => .nil
  | [], _, n + 1, h => by cases h; exact .nil
  | d :: ds, _, n + 1, h => by
    cases h with
    | cons h1 h2 => exact .cons h1 (RpAll.take n h2)
mutual
def flatD : PyData → Bool
  | .list ds => flatAll ds
  | .tuple ds => flatAll ds
  | .dict _ => false
  | _ => true
def flatAll : List PyData → Bool
  | [] => true
  | d :: ds => flatD d && flatAll ds
end
mutual
theorem Rp.dp : ∀ (d : PyData) (v : V), flatD d = true → Rp K H v d → Dp K H v d
  | .none, _, _, h => by cases h; exact .non
  | .bool _, _, _, h => by cases h; exact .bl _
  | .int _, _, _, h => by cases h; exact .int _
  | .str _, _, _, h => by cases h; exact .str _
  | .list ds, _, f, h => by
    cases h with
    | lst hs ha => exact .lst (.inl (.inl hs)) (RpAll.dp ds _ (by simpa only [flatD] using f) ha)
  | .tuple ds, _, f, h => by
    cases h with
    | tup hs ha _ => exact .tup hs (RpAll.dp ds _ (by simpa only [flatD] using f) ha)
  | .dict ds, _, f, h => by simp only [flatD] at f; cases f
theorem RpAll.dp : ∀ (ds : List PyData) (vs : List V), flatAll ds = true → RpAll K H vs ds → DpAll K H vs ds
  | [], _, _, h => by cases h; exact .nil
  | d :: ds, _, f, h => by
    cases h with
    | cons h1 h2 =>
      simp only [flatAll, Bool.and_eq_true] at f
      exact .cons (Rp.dp d _ f.1 h1) (RpAll.dp ds _ f.2 h2)
end
end
def hid (O : Addr → Bool) (H : Hp) : Hp := fun b => if O b = true then none else H b
theorem hid_le {O : Addr → Bool} {H : Hp} : Same (hid O H) H := fun b o h => by
  unfold hid at h
  by_cases c : O b = true
  · rw [if_pos c] at h
    cases h
  · rw [if_neg c] at h
    exact h
theorem hid_at {O : Addr → Bool} {H : Hp} {b : Addr} {o : HO} (n : O b = false) (h : H b = some o) : hid O H b = some o := by
  unfold hid
  rw [if_neg (by rw [n]; decide)]
  exact h
theorem hid_out {O : Addr → Bool} {H : Hp} {b : Addr} {o : HO} (h : hid O H b = some o) : O b = false := by
  unfold hid at h
  by_cases c : O b = true
  · rw [if_pos c] at h
    cases h
  · exact Bool.eq_false_iff.mpr c
theorem hid_upd {O : Addr → Bool} {H : Hp} {p : Addr} {o : HO} (h : O p = true) : hid O (upd H p o) = hid O H := by
  funext b
  unfold hid
  by_cases c : O b = true
  · rw [if_pos c, if_pos c]
  · rw [if_neg c, if_neg c, upd_ne (fun e => c (by rw [e]; exact h))]
def add (O : Addr → Bool) (p : Addr) : Addr → Bool := fun b => O b || decide (b = p)
theorem add_self {O : Addr → Bool} {p : Addr} : add O p p = true := by
  unfold add
  rw [decide_eq_true rfl, Bool.or_true]
theorem add_of {O : Addr → Bool} {p b : Addr} (h : O b = true) : add O p b = true := by
  unfold add
  rw [h, Bool.true_or]
theorem add_or {O : Addr → Bool} {p b : Addr} (h : add O p b = true) : O b = true ∨ b = p := by
  unfold add at h
  rw [Bool.or_eq_true] at h
  exact h.imp id of_decide_eq_true
theorem hid_add {O : Addr → Bool} {H : Hp} {p : Addr} {o : HO} (n : H p = none) : hid (add O p) (upd H p o) = hid O H := by
  funext b
  unfold hid
  by_cases c : b = p
  · rw [if_pos (by rw [c]; exact add_self), c, n]
    by_cases d : O p = true
    · rw [if_pos d]
    · rw [if_neg d]
  · rw [upd_ne c]
    by_cases d : O b = true
    · rw [if_pos d, if_pos (add_of d)]
    · rw [if_neg d, if_neg fun z => (add_or z).elim d c]
def NoTup (b : Addr) (o : HO) : Prop := (∀ xs, o ≠ .tup xs) ∧ (∀ b u, o ≠ .frz b u) ∧ ∀ q, o ≠ LamX.CodeO b q
theorem nt_lst {b : Addr} {us : List V} : NoTup b (.lst us) := ⟨fun _ e => (nomatch e), fun _ _ e => (nomatch e), fun _ e => (nomatch e)⟩
theorem nt_dK {b : Addr} {us : List (Key × V)} : NoTup b (.dK us) := ⟨fun _ e => (nomatch e), fun _ _ e => (nomatch e), fun _ e => (nomatch e)⟩
theorem nt_tbl {b : Addr} {ps : Array Value} : NoTup b (.tbl ps) := ⟨fun _ e => (nomatch e), fun _ _ e => (nomatch e), fun _ e => (nomatch e)⟩
theorem heap_of_size : ∀ n : Nat, ∃ h : Heap, h.objs.size = n
  | 0 => ⟨{}, rfl⟩
  | n + 1 => by
    obtain ⟨h, e⟩ := heap_of_size n
    exact ⟨h.push { cls := .none, data := .fields #[] }, by rw [Heap.size_push, e]⟩
theorem nt_ext {b : Addr} {f : Heap → Prop} (h : ∀ (g : Heap) (o : Obj) (vs : Array Value), g.get? b = some o → o.data = .fields vs → ¬ f g) : NoTup b (.ext f) := by
  refine ⟨fun _ e => (nomatch e), fun _ _ e => (nomatch e), fun q e => ?_⟩
  obtain ⟨g, eg⟩ := heap_of_size b
  have hg : (g.push { cls := .none, data := .fields #[.none, .str q 0] }).get? b = some { cls := .none, data := .fields #[.none, .str q 0] } := by
    rw [← eg]
    exact Heap.get?_push_size _ rfl
  have ef : f (g.push { cls := .none, data := .fields #[.none, .str q 0] }) = _ := congrFun (HO.ext.inj e) _
  exact h _ _ _ hg rfl (ef.mpr ⟨_, #[.none, .str q 0], 0, hg, rfl, rfl⟩)
def Dom (O : Addr → Bool) (H : Hp) : Prop := ∀ b, O b = true → ∃ o, H b = some o ∧ NoTup b o
theorem Dom.ne {O : Addr → Bool} {H : Hp} {b : Addr} (d : Dom O H) (h : O b = true) : H b ≠ none := fun z => by
  obtain ⟨o, e, _⟩ := d b h
  rw [z] at e
  cases e
theorem Dom.new {O : Addr → Bool} {H : Hp} {p : Addr} (d : Dom O H) (n : H p = none) : O p = false := Bool.eq_false_iff.mpr fun z => d.ne z n
theorem Dom.tup {O : Addr → Bool} {H : Hp} {p : Addr} {xs : List V} (d : Dom O H) (n : H p = some (.tup xs)) : O p = false := Bool.eq_false_iff.mpr fun z => by
  obtain ⟨o, e, t⟩ := d p z
  rw [n] at e
  exact t.1 xs (Option.some.inj e).symm
theorem Dom.same {O : Addr → Bool} {H H' : Hp} (d : Dom O H) (s : Same H H') : Dom O H' := fun b h => by
  obtain ⟨o, e, t⟩ := d b h
  exact ⟨o, s b o e, t⟩
theorem hid_same {O : Addr → Bool} {H H' : Hp} (s : Same H H') : Same (hid O H) (hid O H') := fun b o h => hid_at (hid_out h) (s b o (hid_le b o h))
theorem hid_new {O : Addr → Bool} {H : Hp} {p : Addr} {o : HO} (d : Dom O H) (n : H p = none) : hid O (upd H p o) p = some o := hid_at (d.new n) upd_same
def keyTk (ks : List Str) : NestedKey := .tup (ks.map NestedKey.text)
abbrev TkE := NestedKey × Addr × Addr
def tkX (q : TkE) : NestedKey × Addr × Value := (q.1, q.2.1, .ref q.2.2)
def DicN (w : World) (a : Addr) (L : List TkE) : HO := .ext fun h => ∃ o es ep, h.get? a = some o ∧ o.ExactDict ∧ o.data = .dict es ep ∧ es.toList = L.map fun q => (⟨q.1.hash w, .ref q.2.1, .ref q.2.2⟩ : DictEntry)
def RpTk (K : PySem.W.Frag) (H : Hp) (L : List TkE) (kvs : List (List Str × PyData)) : Prop := Paired (fun (q : TkE) (p : List Str × PyData) => q.1 = keyTk p.1 ∧ Rp K H (.ref q.2.1) (.tuple (p.1.map PyData.str)) ∧ Rp K H (.ref q.2.2) p.2) L kvs
theorem RpTk.same {K : PySem.W.Frag} {H H' : Hp} {L : List TkE} {kvs : List (List Str × PyData)} (e : Same H H') (h : RpTk K H L kvs) : RpTk K H' L kvs := Paired.mapP h fun _ _ ⟨h1, h2, h3⟩ => ⟨h1, Rp.same e _ _ h2, Rp.same e _ _ h3⟩
theorem dicN_no {D : Addr} {w : World} {L : List TkE} {φ : Heap → Prop} (e : some (HO.ext φ) = some (DicN w D L)) (h : ∀ g : Heap, φ g → ∃ o es ep t, g.get? D = some o ∧ o.data = .set es ep t) : False := by
  obtain ⟨g, eg⟩ := heap_of_size D
  let es : Array DictEntry := (L.map fun q => (⟨q.1.hash w, .ref q.2.1, .ref q.2.2⟩ : DictEntry)).toArray
  have hg : (g.push { cls := .type "dict", data := .dict es 0 }).get? D = some { cls := .type "dict", data := .dict es 0 } := by
    rw [← eg]
    exact Heap.get?_push_size _ rfl
  have ef := congrFun (HO.ext.inj (Option.some.inj e)) (g.push { cls := .type "dict", data := .dict es 0 })
  obtain ⟨o, _, _, _, ho, hd⟩ := h _ (ef.mpr ⟨_, es, 0, hg, ⟨rfl, rfl, rfl⟩, rfl, rfl⟩)
  rw [hg] at ho
  cases ho
  cases hd
class TbC where
  T : List (Addr × Str)
  uq : ∀ p ∈ T, ∀ q ∈ T, p.1 = q.1 → p.2 = q.2
  w : World
structure DkI where
  d : Addr
  l : Addr
  ns : List Int
def DkO (dk : Option DkI) (n : Nat) (H : Hp) : Prop := match dk with
  | none => True
  | some D => Deck H D.d D.l D.ns n ∧ D.ns.length ≤ 63
section
variable [TbC]
def tA (b : Addr) : Prop := ∃ q, (b, q) ∈ TbC.T
abbrev TbOk (H : Hp) : Prop := LamX.Tabs TbC.T H
def DkOk (dk : Option DkI) (n : Nat) (H : Hp) : Prop := DkO dk n H ∧ TbOk H
def dkA (dk : Option DkI) (b : Addr) : Prop := (∃ D, dk = some D ∧ b = D.d) ∨ tA b
def NotDk (dk : Option DkI) (p : Addr) : Prop := (∀ D, dk = some D → p ≠ D.d ∧ p ≠ D.l) ∧ ¬ tA p
theorem NotDk.nA {dk : Option DkI} {p : Addr} (h : NotDk dk p) : ¬ dkA dk p := fun z => z.elim (fun ⟨E, e1, e2⟩ => (h.1 E e1).1 e2) h.2
theorem TbOk.at {H : Hp} (t : TbOk H) {b : Addr} (h : tA b) : ∃ ps, H b = some (.tbl ps) := by
  obtain ⟨q, m⟩ := h
  obtain ⟨ps, e, _⟩ := t _ m
  exact ⟨ps, e⟩
theorem TbOk.no {H : Hp} (t : TbOk H) {b : Addr} {o : HO} (h : H b = some o) (n : ∀ ps, o ≠ .tbl ps) : ¬ tA b := fun z => by
  obtain ⟨ps, e⟩ := t.at z
  rw [h] at e
  exact n ps (Option.some.inj e)
theorem TbOk.nn {H : Hp} (t : TbOk H) {b : Addr} (h : H b = none) : ¬ tA b := fun z => by
  obtain ⟨ps, e⟩ := t.at z
  rw [h] at e
  cases e
def FrD (dk : Option DkI) (H H' : Hp) : Prop := ∀ b o, ¬ dkA dk b → H b = some o → H' b = some o
theorem FrD.refl {dk : Option DkI} (H : Hp) : FrD dk H H := fun _ _ _ h => h
theorem FrD.trans {dk : Option DkI} {H H1 H2 : Hp} (a : FrD dk H H1) (b : FrD dk H1 H2) : FrD dk H H2 := fun c o n h => b c o n (a c o n h)
theorem FrD.of {dk : Option DkI} {H H' : Hp} (s : Same H H') : FrD dk H H' := fun b o _ h => s b o h
theorem FrD.up {dk : Option DkI} {H H' : Hp} (f : FrD none H H') : FrD dk H H' := fun b o n h => f b o (fun z => n (.inr (z.resolve_left fun ⟨_, e, _⟩ => by cases e))) h
theorem FrD.at {H H' : Hp} (f : FrD none H H') (t : TbOk H) {b : Addr} {o : HO} (h : H b = some o) (n : ∀ ps, o ≠ .tbl ps) : H' b = some o := f b o (fun z => t.no h n (z.resolve_left fun ⟨_, e, _⟩ => by cases e)) h
theorem DkO.fr {dk : Option DkI} {n : Nat} {H H' : Hp} (d : DkO dk n H) (s : ∀ b o, H b = some o → (∀ ps, o ≠ .tbl ps) → H' b = some o) : DkO dk n H' := by
  cases dk with
  | none => trivial
  | some D =>
    obtain ⟨⟨⟨i, r, m, e, z⟩, c⟩, l⟩ := d
    exact ⟨⟨⟨i, r, m, s _ _ e fun _ => nofun, z⟩, s _ _ c fun _ => nofun⟩, l⟩
theorem DkOk.same {dk : Option DkI} {n : Nat} {H H' : Hp} (d : DkOk dk n H) (s : Same H H') : DkOk dk n H' := ⟨d.1.fr fun b o h _ => s b o h, d.2.ext s⟩
theorem DkOk.tab {dk : Option DkI} {n : Nat} {H H' : Hp} (d : DkOk dk n H) (f : FrD none H H') (t : TbOk H') : DkOk dk n H' := ⟨d.1.fr fun _ _ h m => f.at d.2 h m, t⟩
theorem DkOk.mono {dk : Option DkI} {n m : Nat} {H : Hp} (d : DkOk dk n H) (h : n ≤ m) : DkOk dk m H := by
  refine ⟨?_, d.2⟩
  cases dk with
  | none => trivial
  | some D => exact ⟨d.1.1.mono h, d.1.2⟩
theorem TbOk.upd {H : Hp} {p : Addr} {o : HO} (t : TbOk H) (h : ¬ tA p) (hx : ∃ o, H p = some o ∧ NoTup p o) : TbOk (upd H p o) := fun q hq => by
  obtain ⟨ps, e, tr, c⟩ := t q hq
  refine ⟨ps, by rw [upd_ne (fun z => h (by rw [← z]; exact ⟨_, hq⟩))]; exact e, tr, fun pos cv hc => ?_⟩
  obtain ⟨c', e1, e2⟩ := c pos cv hc
  refine ⟨c', e1, ?_⟩
  obtain ⟨o', eo, nt⟩ := hx
  rw [upd_ne (fun z => by rw [z, eo] at e2; exact nt.2.2 _ (Option.some.inj e2))]
  exact e2
theorem DkOk.upd {dk : Option DkI} {n : Nat} {H : Hp} {p : Addr} {o : HO} (d : DkOk dk n H) (h : NotDk dk p) (hx : ∃ o, H p = some o ∧ NoTup p o) : DkOk dk n (upd H p o) := by
  refine ⟨?_, d.2.upd h.2 hx⟩
  cases dk with
  | none => trivial
  | some D => exact ⟨d.1.1.upd (h.1 D rfl).1 (h.1 D rfl).2, d.1.2⟩
theorem DkOk.new {dk : Option DkI} {n : Nat} {H : Hp} {p : Addr} (d : DkOk dk n H) (h : H p = none) : NotDk dk p := by
  refine ⟨?_, d.2.nn h⟩
  cases dk with
  | none => exact fun D e => by cases e
  | some D =>
    intro D' e
    cases e
    exact d.1.1.nd h
theorem DkOk.domT {dk : Option DkI} {n : Nat} {H : Hp} {b : Addr} (d : DkOk dk n H) (h : dkA dk b) : ∃ o, H b = some o ∧ NoTup b o := by
  rcases h with ⟨D, rfl, rfl⟩ | h
  · obtain ⟨⟨⟨_, _, _, e, _⟩, _⟩, _⟩ := d.1
    exact ⟨_, e, nt_lst⟩
  · obtain ⟨ps, e⟩ := d.2.at h
    exact ⟨_, e, nt_tbl⟩
theorem DkOk.dom {dk : Option DkI} {n : Nat} {H : Hp} {b : Addr} (d : DkOk dk n H) (h : dkA dk b) : H b ≠ none := fun z => by
  obtain ⟨o, e, _⟩ := d.domT h
  rw [z] at e
  cases e
end
inductive Sv where
  | d (x : PyData)
  | l (xs : List PyData) | k (kvs : List (PyData × PyData))
  | t (kvs : List (List Str × PyData))
  | dk
def Sv.own : Sv → Bool
  | .l _ => true
  | .k _ => true
  | .t _ => true
  | _ => false
abbrev DEnv := List (Option Sv)
section
variable [TbC] (K : PySem.W.Frag) (dk : Option DkI) (OB : Addr → Bool) (H0 : Hp) (O : Addr → Bool) (H : Hp)
def SlR : V → Sv → Prop
  | v, .d x => Rp K (hid O H) v x
  | v, .l xs => ∃ p vs, v = .ref p ∧ O p = true ∧ H0 p = none ∧ NotDk dk p ∧ H p = some (.lst vs) ∧ RpAll K (hid O H) vs xs
  | v, .k kvs => ∃ p kv, v = .ref p ∧ O p = true ∧ H0 p = none ∧ NotDk dk p ∧ H p = some (.dK kv) ∧ RpKvs K (hid O H) kv kvs
  | v, .t kvs => ∃ p L, v = .ref p ∧ O p = true ∧ H0 p = none ∧ NotDk dk p ∧ H p = some (DicN TbC.w p L) ∧ RpTk K (hid O H) L kvs ∧ (kvs.map (·.1)).Nodup ∧ (p == sysModules) = false
  | v, .dk => ∃ D, dk = some D ∧ v = .ref D.d
structure StR (σ : L2.St) (ρ : DEnv) (n : Nat) : Prop where
  len : σ.length = ρ.length
  ob : ∀ b, OB b = true → O b = true
  od : Dom OB H0
  dom : Dom O H
  dkO : ∀ b, dkA dk b → OB b = true
  fr : FrD dk H0 H
  dok : DkOk dk n H
  sl : ∀ (i : Nat) (s : Sv), ρ[i]? = some (some s) → ∃ v, σ[i]? = some (some v) ∧ SlR K dk H0 O H v s
  dis : ∀ (i j : Nat) (p : Addr) (s s' : Sv), i ≠ j → ρ[i]? = some (some s) → ρ[j]? = some (some s') → s.own = true → s'.own = true → σ[i]? = some (some (.ref p)) → σ[j]? = some (some (.ref p)) → False
end
section
variable [TbC] {K : PySem.W.Frag} {dk : Option DkI} {OB : Addr → Bool} {H0 : Hp} {O : Addr → Bool} {H H' : Hp} {σ : L2.St} {ρ : DEnv} {n n' : Nat}
theorem hid_fr (hO : ∀ b, dkA dk b → O b = true) (f : FrD dk H H') : Same (hid O H) (hid O H') := fun b o h => by
  have z := hid_out h
  refine hid_at z (f b o (fun d => ?_) (hid_le b o h))
  rw [hO b d] at z
  cases z
theorem SlR.step {v : V} {s : Sv} (hO : ∀ b, dkA dk b → O b = true) (f : FrD dk H H') (h : SlR K dk H0 O H v s) : SlR K dk H0 O H' v s := by
  have nd : ∀ p, NotDk dk p → ¬ dkA dk p := fun p z => z.nA
  cases s with
  | d x => exact Rp.same (hid_fr hO f) _ _ h
  | l xs =>
    obtain ⟨p, vs, e, h1, h2, h3, h4, h5⟩ := h
    exact ⟨p, vs, e, h1, h2, h3, f _ _ (nd p h3) h4, RpAll.same (hid_fr hO f) _ _ h5⟩
  | k kvs =>
    obtain ⟨p, vs, e, h1, h2, h3, h4, h5⟩ := h
    exact ⟨p, vs, e, h1, h2, h3, f _ _ (nd p h3) h4, RpKvs.same (hid_fr hO f) _ _ h5⟩
  | t kvs =>
    obtain ⟨p, vs, e, h1, h2, h3, h4, h5, h6⟩ := h
    exact ⟨p, vs, e, h1, h2, h3, f _ _ (nd p h3) h4, RpTk.same (hid_fr hO f) h5, h6⟩
  | dk => exact h
theorem StR.dO (s : StR K dk OB H0 O H σ ρ n) : ∀ b, dkA dk b → O b = true := fun b h => s.ob b (s.dkO b h)
theorem StR.hid (s : StR K dk OB H0 O H σ ρ n) (f : FrD dk H H') : Same (My.hid O H) (My.hid O H') := hid_fr s.dO f
theorem StR.step (s : StR K dk OB H0 O H σ ρ n) (f : FrD dk H H') (d : DkOk dk n' H') : StR K dk OB H0 O H' σ ρ n' where
  len := s.len
  ob := s.ob
  od := s.od
  dom := fun b h => by
    by_cases c : dkA dk b
    · exact d.domT c
    · obtain ⟨o, e, t⟩ := s.dom b h
      exact ⟨o, f b o c e, t⟩
  dkO := s.dkO
  fr := s.fr.trans f
  dok := d
  sl := fun i x h => by
    obtain ⟨v, h1, h2⟩ := s.sl i x h
    exact ⟨v, h1, h2.step s.dO f⟩
  dis := s.dis
theorem StR.set (s : StR K dk OB H0 O H σ ρ n) {i : Nat} {v : V} {x : PyData} (h : Rp K (My.hid O H) v x) : StR K dk OB H0 O H (σ.set i (some v)) (ρ.set i (some (.d x))) n where
  len := by rw [List.length_set, List.length_set, s.len]
  ob := s.ob
  od := s.od
  dom := s.dom
  dkO := s.dkO
  fr := s.fr
  dok := s.dok
  sl := fun j y e => by
    by_cases c : i = j
    · subst c
      by_cases l : i < ρ.length
      · rw [List.getElem?_set_self l] at e
        cases e
        exact ⟨v, List.getElem?_set_self (by rw [s.len]; exact l), h⟩
      · rw [List.getElem?_eq_none (by rw [List.length_set]; omega)] at e
        cases e
    · rw [List.getElem?_set_ne c] at e ⊢
      exact s.sl j y e
  dis := fun a b p u w ne e1 e2 o1 o2 f1 f2 => by
    have z : ∀ {j : Nat} {y : Sv}, (ρ.set i (some (.d x)))[j]? = some (some y) → y.own = true → i ≠ j ∧ ρ[j]? = some (some y) := fun {j y} e o => by
      by_cases c : i = j
      · subst c
        by_cases l : i < ρ.length
        · rw [List.getElem?_set_self l] at e
          cases e
          cases o
        · rw [List.getElem?_eq_none (by rw [List.length_set]; omega)] at e
          cases e
      · rw [List.getElem?_set_ne c] at e
        exact ⟨c, e⟩
    obtain ⟨c1, g1⟩ := z e1 o1
    obtain ⟨c2, g2⟩ := z e2 o2
    rw [List.getElem?_set_ne c1] at f1
    rw [List.getElem?_set_ne c2] at f2
    exact s.dis a b p u w ne g1 g2 o1 o2 f1 f2
def wipeD (ρ : DEnv) : List Nat → DEnv
  | [] => ρ
  | v :: vs => (wipeD ρ vs).set v none
theorem StR.unset (s : StR K dk OB H0 O H σ ρ n) (i : Nat) : StR K dk OB H0 O H (σ.set i none) (ρ.set i none) n where
  len := by rw [List.length_set, List.length_set, s.len]
  ob := s.ob
  od := s.od
  dom := s.dom
  dkO := s.dkO
  fr := s.fr
  dok := s.dok
  sl := fun j y e => by
    by_cases c : i = j
    · subst c
      by_cases l : i < ρ.length
      · rw [List.getElem?_set_self l] at e
        cases e
      · rw [List.getElem?_eq_none (by rw [List.length_set]; omega)] at e
        cases e
    · rw [List.getElem?_set_ne c] at e ⊢
      exact s.sl j y e
  dis := fun a b p u w ne e1 e2 o1 o2 f1 f2 => by
    have z : ∀ {j : Nat} {y : Sv}, (ρ.set i none)[j]? = some (some y) → i ≠ j ∧ ρ[j]? = some (some y) := fun {j y} e => by
      by_cases c : i = j
      · subst c
        by_cases l : i < ρ.length
        · rw [List.getElem?_set_self l] at e
          cases e
        · rw [List.getElem?_eq_none (by rw [List.length_set]; omega)] at e
          cases e
      · rw [List.getElem?_set_ne c] at e
        exact ⟨c, e⟩
    obtain ⟨c1, g1⟩ := z e1
    obtain ⟨c2, g2⟩ := z e2
    rw [List.getElem?_set_ne c1] at f1
    rw [List.getElem?_set_ne c2] at f2
    exact s.dis a b p u w ne g1 g2 o1 o2 f1 f2
theorem StR.wipe (s : StR K dk OB H0 O H σ ρ n) : ∀ vs : List Nat, StR K dk OB H0 O H (L2.wipe σ vs) (wipeD ρ vs) n
  | [] => s
  | v :: vs => (s.wipe vs).unset v
end
end My

namespace My
open PySem PySem.Spec PyProof.Rows L2
variable [TbC]
abbrev M (α : Type) := Nat → (α → Nat → Prop) → Prop
abbrev ED := DEnv → M PyData
abbrev AD := DEnv → M (List PyData)
abbrev TD := DEnv → M Bool
def tW (K : PySem.W.Frag) (w : ED) : TE := fun σ H Q => ∃ dk OB H0 O ρ n Qd, StR K dk OB H0 O H σ ρ n ∧ w ρ n Qd ∧ ∀ v d H' n', FrD dk H H' → DkOk dk n' H' → Rp K (hid O H') v d → Qd d n' → Q v H'
def tWA (K : PySem.W.Frag) (w : AD) : TA := fun σ H Q => ∃ dk OB H0 O ρ n Qd, StR K dk OB H0 O H σ ρ n ∧ w ρ n Qd ∧ ∀ vs ds H' n', FrD dk H H' → DkOk dk n' H' → RpAll K (hid O H') vs ds → Qd ds n' → Q vs H'
def tWT (K : PySem.W.Frag) (w : TD) : TT := fun σ H Q => ∃ dk OB H0 O ρ n Qd, StR K dk OB H0 O H σ ρ n ∧ w ρ n Qd ∧ ∀ b H' n', FrD dk H H' → DkOk dk n' H' → Qd b n' → Q b H'
abbrev PD (X : Cx) (e : Expr) (w : ED) : Prop := PE X e (tW X.K w)
abbrev PDA (X : Cx) (es : List Expr) (w : AD) : Prop := PA X es (tWA X.K w)
abbrev PDT (X : Cx) (e : Expr) (w : TD) : Prop := PT X e (tWT X.K w)
abbrev PDW (X : Cx) (e : Expr) (w : TD) : Prop := PW X e (tWT X.K w)
def RdE (K : PySem.W.Frag) (t : TE) (w : ED) : Prop := ∀ {dk OB H0 O H σ ρ n} {Q : VK} {Qd}, StR K dk OB H0 O H σ ρ n → w ρ n Qd → (∀ v d H' n', FrD dk H H' → DkOk dk n' H' → Rp K (hid O H') v d → Qd d n' → Q v H') → t σ H Q
def RdA (K : PySem.W.Frag) (t : TA) (w : AD) : Prop := ∀ {dk OB H0 O H σ ρ n} {Q : List V → Hp → Prop} {Qd}, StR K dk OB H0 O H σ ρ n → w ρ n Qd → (∀ vs ds H' n', FrD dk H H' → DkOk dk n' H' → RpAll K (hid O H') vs ds → Qd ds n' → Q vs H') → t σ H Q
def RdT (K : PySem.W.Frag) (t : TT) (w : TD) : Prop := ∀ {dk OB H0 O H σ ρ n} {Q : Bool → Hp → Prop} {Qd}, StR K dk OB H0 O H σ ρ n → w ρ n Qd → (∀ b H' n', FrD dk H H' → DkOk dk n' H' → Qd b n' → Q b H') → t σ H Q
section
variable {X : Cx} {K : PySem.W.Frag}
theorem qd_mk {e : Expr} {t : TE} {w : ED} (h : PE X e t) (r : RdE X.K t w) : PD X e w := ⟨fun pins s σ H Q I ⟨_, _, _, _, _, _, _, S, hw, k⟩ => h.run pins s σ H Q I (r S hw k)⟩
theorem qda_mk {es : List Expr} {t : TA} {w : AD} (h : PA X es t) (r : RdA X.K t w) : PDA X es w := ⟨fun pos pins s σ H Q I ⟨_, _, _, _, _, _, _, S, hw, k⟩ => h.run pos pins s σ H Q I (r S hw k)⟩
theorem qdt_mk {e : Expr} {t : TT} {w : TD} (h : PT X e t) (r : RdT X.K t w) : PDT X e w := ⟨fun pins s σ H Q I ⟨_, _, _, _, _, _, _, S, hw, k⟩ => h.run pins s σ H Q I (r S hw k)⟩
theorem qdw_mk {e : Expr} {t : TT} {w : TD} (h : PW X e t) (r : RdT X.K t w) : PDW X e w := ⟨fun wh pins s σ H Q I ⟨_, _, _, _, _, _, _, S, hw, k⟩ => h.run wh pins s σ H Q I (r S hw k)⟩
def eC (x : PyData) : ED := fun _ n Q => Q x n
theorem rd_c {v : V} {x : PyData} (h : ∀ H, Rp K H v x) : RdE K (tC v) (eC x) := fun {_ _ _ _ H _ _ n _ _} S hw k => k _ _ H n (FrD.refl H) S.dok (h _) hw
theorem qd_int {i j pos} : PD X (.Constant (.int i) j pos) (eC (.int i)) := qd_mk pe_int (rd_c fun _ => .int i)
theorem qd_bl {b j pos} : PD X (.Constant (.bool b) j pos) (eC (.bool b)) := qd_mk pe_bl (rd_c fun _ => .bl b)
theorem qd_non {j pos} : PD X (.Constant .none j pos) (eC .none) := qd_mk pe_non (rd_c fun _ => .non)
theorem qd_str {x j pos} : PD X (.Constant (.str x) j pos) (eC (.str x)) := qd_mk pe_str (rd_c fun _ => .str x)
theorem qd_glob {x : Str} {z : Str} {td : Tok} {pos : Pos} (hg : Gl X x) (hm : X.mg x = some (.str z td)) (hd : (x == ("__debug__" : Str)) = false := by decide) : PD X (.Name x pos) (eC (.str z)) := qd_mk (pe_glob (v := .str z) hg hm ⟨td, rfl⟩ hd) (rd_c fun _ => .str z)
def eV (i : Nat) : ED := fun ρ n Q => ∃ x, ρ[i]? = some (some (.d x)) ∧ Q x n
theorem rd_v (i : Nat) : RdE K (tVar i) (eV i) := fun {_ _ _ _ H _ _ n _ _} S hw k => by
  obtain ⟨x, e, q⟩ := hw
  obtain ⟨v, e1, e2⟩ := S.sl _ _ e
  exact ⟨v, e1, k _ _ H n (FrD.refl H) S.dok e2 q⟩
theorem qdv (i : Nat) {x : Str} {pos : Pos} (hN : X.N[i]? = some x := by rfl) (hv : Vis X.env.scope x := by first | exact Or.inl rfl | exact Or.inr (Or.inl rfl) | exact Or.inr (Or.inr rfl)) (hd : (x == ("__debug__" : Str)) = false := by decide)
    (hcd : (x == ("__classdict__" : Str)) = false := by decide) : PD X (.Name x pos) (eV i) := qd_mk (pv i hN hv hd hcd) (rd_v i)
def aN : AD := fun _ n Q => Q [] n
def aC (w : ED) (ws : AD) : AD := fun ρ n Q => w ρ n fun x n1 => ws ρ n1 fun xs n2 => Q (x :: xs) n2
theorem rda_nil : RdA K tNil aN := fun {_ _ _ _ H _ _ n _ _} S hw k => k [] [] H n (FrD.refl H) S.dok .nil hw
theorem rd_W {w : ED} : RdE K (tW K w) w := fun S hw k => ⟨_, _, _, _, _, _, _, S, hw, k⟩
theorem rda_W {w : AD} : RdA K (tWA K w) w := fun S hw k => ⟨_, _, _, _, _, _, _, S, hw, k⟩
theorem rdt_W {w : TD} : RdT K (tWT K w) w := fun S hw k => ⟨_, _, _, _, _, _, _, S, hw, k⟩
theorem rda_cons {t : TE} {w : ED} {ts : TA} {ws : AD} (h : RdE K t w) (hs : RdA K ts ws) : RdA K (tCons t ts) (aC w ws) := fun S hw k =>
  h S hw fun v d H1 n1 f1 d1 r1 q1 => hs (S.step f1 d1) q1 fun vs ds H2 n2 f2 d2 r2 q2 => k _ _ H2 n2 (f1.trans f2) d2 (.cons (Rp.same (hid_fr S.dO f2) _ _ r1) r2) q2
theorem qda_nil : PDA X [] aN := qda_mk pa_nil rda_nil
theorem qda_cons {e : Expr} {es : List Expr} {w : ED} {ws : AD} (ha : PD X e w) (hr : PDA X es ws) (hs : starEach (e :: es) X.env = (false, eval e X.env) :: starEach es X.env := by rfl) : PDA X (e :: es) (aC w ws) := qda_mk (pa_cons ha hr hs) (rda_cons rd_W rda_W)
def lim : Nat := 1000000
omit [TbC] in
theorem lim_le : lim ≤ sizeLine := by
  rw [sizeLine_eq]
  decide
inductive ALen : AD → Nat → Prop
  | nil : ALen aN 0
  | cons {w : ED} {ws : AD} {k : Nat} : ALen ws k → ALen (aC w ws) (k + 1)
def eTup (ws : AD) : ED := fun ρ n Q => ws ρ n fun xs n1 => xs.length ≤ lim ∧ Q (.tuple xs) n1
def eLst (ws : AD) : ED := fun ρ n Q => ws ρ n fun xs n1 => xs.length ≤ lim ∧ Q (.list xs) n1
theorem new_rp {dk : Option DkI} {OB : Addr → Bool} {H0 : Hp} {O : Addr → Bool} {H1 : Hp} {σ : L2.St} {ρ : DEnv} {n : Nat} (S : StR K dk OB H0 O H1 σ ρ n) {p : Addr} {o : HO} (np : H1 p = none) : hid O (upd H1 p o) p = some o ∧ Same (hid O H1) (hid O (upd H1 p o)) ∧ FrD dk H1 (upd H1 p o) ∧ DkOk dk n (upd H1 p o) :=
  ⟨hid_new S.dom np, hid_same (same_new np), FrD.of (same_new np), S.dok.same (same_new np)⟩
theorem qd_tup {es : List Expr} {x1 pos} {ws : AD} (h : PDA X es ws) : PD X (.Tuple es x1 pos) (eTup ws) := qd_mk (pe_tupK h) fun S hw k => rda_W S hw fun vs ds H1 n1 f1 d1 r1 ⟨l, q⟩ => by
  refine ⟨by rw [r1.len]; exact Nat.le_trans l lim_le, fun p o np kt => ?_⟩
  obtain ⟨a, b, c, e⟩ := new_rp (S.step f1 d1) (o := o) np
  exact k _ _ _ n1 (f1.trans c) e (.tup (kt.rd a) (RpAll.same b _ _ r1) fun _ => kt.pl a) q
theorem qd_lst {es : List Expr} {pos} {ws : AD} (h : PDA X es ws) : PD X (.List es pos) (eLst ws) := qd_mk (pe_lst h) fun S hw k => rda_W S hw fun vs ds H1 n1 f1 d1 r1 ⟨l, q⟩ => by
  refine ⟨by rw [r1.len]; exact Nat.le_trans l lim_le, fun p np => ?_⟩
  obtain ⟨a, b, c, e⟩ := new_rp (S.step f1 d1) (o := .lst vs) np
  exact k _ _ _ n1 (f1.trans c) e (.lst a (RpAll.same b _ _ r1)) q
def Pu2 (K : PySem.W.Frag) (r : R2) (f : PyData → PyData → Option PyData) : Prop := ∀ {O H x y dx dy dz} {Q : VK}, Dom O H → Rp K (hid O H) x dx → Rp K (hid O H) y dy → f dx dy = some dz → (∀ v H', Same H H' → Rp K (hid O H') v dz → Q v H') → r x y H Q
def PuN (K : PySem.W.Frag) (r : List V → Hp → VK → Prop) (f : List PyData → Option PyData) : Prop := ∀ {O H xs ds dz} {Q : VK}, Dom O H → RpAll K (hid O H) xs ds → f ds = some dz → (∀ v H', Same H H' → Rp K (hid O H') v dz → Q v H') → r xs H Q
def eOp (f : PyData → PyData → Option PyData) (a b : ED) : ED := fun ρ n Q => a ρ n fun x n1 => b ρ n1 fun y n2 => ∃ z, f x y = some z ∧ Q z n2
def eCall (f : List PyData → Option PyData) (ws : AD) : ED := fun ρ n Q => ws ρ n fun xs n1 => ∃ z, f xs = some z ∧ Q z n1
theorem rd_op {r : R2} {f : PyData → PyData → Option PyData} {a b : ED} (h : Pu2 K r f) : RdE K (tOp r (tW K a) (tW K b)) (eOp f a b) := fun S hw k =>
  rd_W S hw fun v d H1 n1 f1 d1 r1 q1 => rd_W (S.step f1 d1) q1 fun u e H2 n2 f2 d2 r2 ⟨z, ez, q2⟩ =>
    h (S.step (f1.trans f2) d2).dom (Rp.same (hid_fr S.dO f2) _ _ r1) r2 ez fun v' H' s r => k _ _ H' n2 ((f1.trans f2).trans (FrD.of s)) (d2.same s) r q2
theorem qd_op {op : Operator} {r : R2} {f : PyData → PyData → Option PyData} {a b : Expr} {wa wb : ED} {pos : Pos} (ho : OpR X (binaryOp op) r) (h : Pu2 X.K r f) (ha : PD X a wa) (hb : PD X b wb) : PD X (.BinOp a op b pos) (eOp f wa wb) := qd_mk (pe_op ho ha hb) (rd_op h)
theorem qd_cmp {op : CmpOp} {r : R2} {f : PyData → PyData → Option PyData} {a b : Expr} {wa wb : ED} {pos : Pos} (ho : OpR X (compareOp op) r) (h : Pu2 X.K r f) (ha : PD X a wa) (hb : PD X b wb) (hm : behindInMarks op b = false) : PD X (.Compare a [op] [b] pos) (eOp f wa wb) := qd_mk (pe_cmpR ho ha hb hm) (rd_op h)
theorem qd_ix {r : R2} {f : PyData → PyData → Option PyData} {a b : Expr} {wa wb : ED} {pos : Pos} (ho : IxR X r) (h : Pu2 X.K r f) (ha : PD X a wa) (hb : PD X b wb) (hs : PlainIx b := by exact fun _ _ => rfl) : PD X (.Subscript a b pos) (eOp f wa wb) := qd_mk (pe_ix ho ha hb hs) (rd_op h)
theorem rd_cb {r : List V → Hp → VK → Prop} {f : List PyData → Option PyData} {ws : AD} (h : PuN K r f) : RdE K (tCB r (tWA K ws)) (eCall f ws) := fun S hw k =>
  rda_W S hw fun vs ds H1 n1 f1 d1 r1 ⟨z, ez, q⟩ => h (S.step f1 d1).dom r1 ez fun v' H' s r => k _ _ H' n1 (f1.trans (FrD.of s)) (d1.same s) r q
theorem qd_callB {id : String} {r : List V → Hp → VK → Prop} {f : List PyData → Option PyData} {x : Str} {e : Expr} {es : List Expr} {ws : AD} {p pos : Pos} (hc : CallR X (.builtin id) r) (h : PuN X.K r f) (hg : Gl X x) (hm : X.mg x = none) (hv : bootBuiltins x = some (.builtin id)) (ha : PDA X (e :: es) ws)
    (hn : x ≠ "__name__" := by decide) (hdb : (x == ("__debug__" : Str)) = false := by decide)
    (he : starEach (e :: es) X.env = (false, eval e X.env) :: starEach es X.env := by rfl) (hpl : (backTo pos (starEach es X.env)).any (·.1) = false := by rfl) : PD X (.Call (.Name x p) (e :: es) [] pos) (eCall f ws) := qd_mk (pe_callB hc hg hm hv ha hn hdb he hpl) (rd_cb h)
theorem qd_callTy {T : String} {r : List V → Hp → VK → Prop} {f : List PyData → Option PyData} {x : Str} {e : Expr} {es : List Expr} {ws : AD} {p pos : Pos} (hc : CallR X (.type T) r) (h : PuN X.K r f) (hg : Gl X x) (hm : X.mg x = none) (hv : bootBuiltins x = some (.type T)) (ha : PDA X (e :: es) ws)
    (hn : x ≠ "__name__" := by decide) (hdb : (x == ("__debug__" : Str)) = false := by decide)
    (he : starEach (e :: es) X.env = (false, eval e X.env) :: starEach es X.env := by rfl) (hpl : (backTo pos (starEach es X.env)).any (·.1) = false := by rfl) : PD X (.Call (.Name x p) (e :: es) [] pos) (eCall f ws) := qd_mk (pe_callTy hc hg hm hv ha hn hdb he hpl) (rd_cb h)
def bT (w : ED) : TD := fun ρ n Q => w ρ n fun x n1 => ∃ b, x = .bool b ∧ Q b n1
theorem rdt_B {w : ED} : RdT K (tB (tW K w)) (bT w) := fun S hw k => rd_W S hw fun v d H1 n1 f1 d1 r1 ⟨b, e, q⟩ => by
  subst e
  cases r1
  exact ⟨b, rfl, k b H1 n1 f1 d1 q⟩
theorem qdt_val {e : Expr} {w : ED} (h : PD X e w) (he : ∀ whole, isTrue e X.env whole = (do let v ← whole; standAt e.pos; holding [v] (truthy v)) := by intro _; rfl) : PDT X e (bT w) := qdt_mk (pt_val h he) rdt_B
theorem qdt_cmp {op : CmpOp} {r : R2} {f : PyData → PyData → Option PyData} {a b : Expr} {wa wb : ED} {pos : Pos} (ho : OpR X (compareOp op) r) (h : Pu2 X.K r f) (ha : PD X a wa) (hb : PD X b wb) (hm : behindInMarks op b = false) : PDT X (.Compare a [op] [b] pos) (bT (eOp f wa wb)) :=
  qdt_mk (pt_cmpR ho ha hb hm) fun S hw k => rd_op h S hw fun v d H1 n1 f1 d1 r1 ⟨b, e, q⟩ => by
    subst e
    cases r1
    exact ⟨b, rfl, k b H1 n1 f1 d1 q⟩
def bNot (w : TD) : TD := fun ρ n Q => w ρ n fun b n1 => Q (!b) n1
def bAnd (u w : TD) : TD := fun ρ n Q => u ρ n fun b n1 => if b = true then w ρ n1 Q else Q false n1
def bOr (u w : TD) : TD := fun ρ n Q => u ρ n fun b n1 => if b = true then Q true n1 else w ρ n1 Q
theorem qdt_not {a : Expr} {w : TD} {pos : Pos} (ha : PDT X a w) : PDT X (.UnaryOp .Not a pos) (bNot w) := qdt_mk (pt_not ha) fun S hw k => rdt_W S hw fun b H1 n1 f1 d1 q => k _ H1 n1 f1 d1 q
theorem qdw_and1 {a : Expr} {w : TD} {pos : Pos} (ha : PDT X a w) : PDW X (.BoolOp .And [a] pos) w := pw_and1 ha
theorem qdw_or1 {a : Expr} {w : TD} {pos : Pos} (ha : PDT X a w) : PDW X (.BoolOp .Or [a] pos) w := pw_or1 ha
theorem qdw_and {a b : Expr} {rest : List Expr} {u w : TD} {pos : Pos} (ha : PDT X a u) (hb : PDW X (.BoolOp .And (b :: rest) pos) w) : PDW X (.BoolOp .And (a :: b :: rest) pos) (bAnd u w) := qdw_mk (pw_and ha hb) fun S hw k => rdt_W S hw fun b H1 n1 f1 d1 q => by
  cases b with
  | true => exact (if_pos rfl).mpr (rdt_W (S.step f1 d1) ((if_pos rfl).mp q) fun b H2 n2 f2 d2 q2 => k b H2 n2 (f1.trans f2) d2 q2)
  | false => exact (if_neg Bool.false_ne_true).mpr (k false H1 n1 f1 d1 ((if_neg Bool.false_ne_true).mp q))
theorem qdw_or {a b : Expr} {rest : List Expr} {u w : TD} {pos : Pos} (ha : PDT X a u) (hb : PDW X (.BoolOp .Or (b :: rest) pos) w) : PDW X (.BoolOp .Or (a :: b :: rest) pos) (bOr u w) := qdw_mk (pw_or ha hb) fun S hw k => rdt_W S hw fun b H1 n1 f1 d1 q => by
  cases b with
  | true => exact (if_pos rfl).mpr (k true H1 n1 f1 d1 ((if_pos rfl).mp q))
  | false => exact (if_neg Bool.false_ne_true).mpr (rdt_W (S.step f1 d1) ((if_neg Bool.false_ne_true).mp q) fun b H2 n2 f2 d2 q2 => k b H2 n2 (f1.trans f2) d2 q2)
theorem qdt_W {e : Expr} {w : TD} (h : PDW X e w) : PDT X e w := PW.pt h
def eAnd (a b : ED) : ED := fun ρ n Q => a ρ n fun x n1 => ∃ c, x = .bool c ∧ if c = true then b ρ n1 Q else Q (.bool false) n1
def eIf (c : TD) (a b : ED) : ED := fun ρ n Q => c ρ n fun x n1 => if x = true then a ρ n1 Q else b ρ n1 Q
theorem qd_one {op} {a : Expr} {w : ED} {pos : Pos} (h : PD X a w) : PD X (.BoolOp op [a] pos) w := pe_one h
theorem qd_and {a b : Expr} {rest : List Expr} {u w : ED} {pos : Pos} (ha : PD X a u) (hb : PD X (.BoolOp .And (b :: rest) pos) w) : PD X (.BoolOp .And (a :: b :: rest) pos) (eAnd u w) := qd_mk (pe_and ha hb) fun S hw k => rd_W S hw fun v d H1 n1 f1 d1 r1 ⟨c, e, q⟩ => by
  subst e
  cases r1
  cases c with
  | true => exact ⟨true, rfl, (if_pos rfl).mpr (rd_W (S.step f1 d1) ((if_pos rfl).mp q) fun v d H2 n2 f2 d2 r2 q2 => k v d H2 n2 (f1.trans f2) d2 r2 q2)⟩
  | false => exact ⟨false, rfl, (if_neg Bool.false_ne_true).mpr (k _ _ H1 n1 f1 d1 (.bl false) ((if_neg Bool.false_ne_true).mp q))⟩
theorem qd_if {c a b : Expr} {wc : TD} {u w : ED} {pos : Pos} (hc : PDT X c wc) (ha : PD X a u) (hb : PD X b w) : PD X (.IfExp c a b pos) (eIf wc u w) := qd_mk (pe_ifExp hc ha hb) fun S hw k => rdt_W S hw fun b H1 n1 f1 d1 q => by
  cases b with
  | true => exact (if_pos rfl).mpr (rd_W (S.step f1 d1) ((if_pos rfl).mp q) fun v d H2 n2 f2 d2 r2 q2 => k v d H2 n2 (f1.trans f2) d2 r2 q2)
  | false => exact (if_neg Bool.false_ne_true).mpr (rd_W (S.step f1 d1) ((if_neg Bool.false_ne_true).mp q) fun v d H2 n2 f2 d2 r2 q2 => k v d H2 n2 (f1.trans f2) d2 r2 q2)
def PuS (K : PySem.W.Frag) (r : V → Option Int → Option Int → Hp → VK → Prop) (f : PyData → Option Int → Option Int → Option PyData) : Prop := ∀ {O H x dx lo hi dz} {Q : VK}, Dom O H → Rp K (hid O H) x dx → f dx lo hi = some dz → (∀ v H', Same H H' → Rp K (hid O H') v dz → Q v H') → r x lo hi H Q
def tWO (K : PySem.W.Frag) (w : DEnv → M (Option Int)) : TO := fun σ H Q => ∃ dk OB H0 O ρ n Qd, StR K dk OB H0 O H σ ρ n ∧ w ρ n Qd ∧ ∀ b H' n', FrD dk H H' → DkOk dk n' H' → Qd b n' → Q b H'
abbrev PDO (X : Cx) (e : Option Expr) (w : DEnv → M (Option Int)) : Prop := PO X e (tWO X.K w)
def oN : DEnv → M (Option Int) := fun _ n Q => Q none n
def oS (w : ED) : DEnv → M (Option Int) := fun ρ n Q => w ρ n fun x n1 => ∃ i, x = .int i ∧ Q (some i) n1
theorem qdo_none : PDO X none oN := ⟨fun pins s σ H Q I ⟨_, _, _, _, _, _, _, S, hw, k⟩ => po_none.run pins s σ H Q I (k _ H _ (FrD.refl H) S.dok hw)⟩
theorem qdo_some {e : Expr} {w : ED} (h : PD X e w) : PDO X (some e) (oS w) := ⟨fun pins s σ H Q I ⟨_, _, _, _, _, _, _, S, hw, k⟩ => (po_some h).run pins s σ H Q I (rd_W S hw fun v d H1 n1 f1 d1 r1 ⟨i, e, q⟩ => by
  subst e
  cases r1
  exact ⟨i, rfl, k _ H1 n1 f1 d1 q⟩)⟩
def eSl (f : PyData → Option Int → Option Int → Option PyData) (a : ED) (lo hi : DEnv → M (Option Int)) : ED := fun ρ n Q => a ρ n fun x n1 => lo ρ n1 fun l n2 => hi ρ n2 fun h n3 => ∃ z, f x l h = some z ∧ Q z n3
theorem qd_sl {r : V → Option Int → Option Int → Hp → VK → Prop} {f : PyData → Option Int → Option Int → Option PyData} {e : Expr} {lo hi : Option Expr} {a : ED} {l h : DEnv → M (Option Int)} {p2 pos : Pos} (hr : L2.SlR X r) (hp : PuS X.K r f) (he : PD X e a) (hl : PDO X lo l) (hh : PDO X hi h) :
    PD X (.Subscript e (.Slice lo hi none p2) pos) (eSl f a l h) := qd_mk (pe_slice hr he hl hh) fun S hw k => rd_W S hw fun v d H1 n1 f1 d1 r1 q1 => ⟨_, _, _, _, _, _, _, S.step f1 d1, q1, fun b H2 n2 f2 d2 q2 => ⟨_, _, _, _, _, _, _, S.step (f1.trans f2) d2, q2, fun c H3 n3 f3 d3 ⟨z, ez, q3⟩ =>
      hp (S.step ((f1.trans f2).trans f3) d3).dom (Rp.same (hid_fr S.dO (f2.trans f3)) _ _ r1) ez fun v' H' s r => k _ _ H' n3 (((f1.trans f2).trans f3).trans (FrD.of s)) (d3.same s) r q3⟩⟩
end
end My

namespace My
open PySem PySem.Spec PyProof.Rows L2
variable [TbC]
section
variable {K : PySem.W.Frag} {dk : Option DkI} {OB : Addr → Bool} {H0 : Hp} {O : Addr → Bool} {H H' : Hp} {σ : L2.St} {ρ : DEnv} {n n' : Nat}
theorem StR.fresh (S : StR K dk OB H0 O H σ ρ n) {p : Addr} (np : H p = none) : H0 p = none := by
  cases e : H0 p with
  | none => rfl
  | some o =>
    have z := S.fr p o (fun d => S.dok.dom d np) e
    rw [np] at z
    cases z
omit [TbC] in
theorem hid_sub {O O' : Addr → Bool} (h : ∀ b, O' b = true → O b = true) : Same (hid O H) (hid O' H) := fun b o e => by
  refine hid_at ?_ (hid_le b o e)
  have z := hid_out e
  cases c : O' b with
  | false => rfl
  | true =>
    rw [h b c] at z
    cases z
theorem StR.mut (S : StR K dk OB H0 O H σ ρ n) {i : Nat} {p : Addr} {s s' : Sv} {o : HO} (hr : ρ[i]? = some (some s)) (ho : s.own = true) (ho' : s'.own = true) (hs : σ[i]? = some (some (.ref p))) (hO : O p = true) (h0 : H0 p = none) (hd : NotDk dk p) (nt : NoTup p o)
    (new : SlR K dk H0 O (upd H p o) (.ref p) s') : StR K dk OB H0 O (upd H p o) σ (ρ.set i (some s')) n where
  len := by rw [List.length_set, S.len]
  ob := S.ob
  od := S.od
  dom := fun b h => by
    by_cases c : b = p
    · rw [c]
      exact ⟨o, upd_same, nt⟩
    · rw [upd_ne c]
      exact S.dom b h
  dkO := S.dkO
  fr := fun b u h e => by
    rw [upd_ne (fun z => by rw [z, h0] at e; cases e)]
    exact S.fr b u h e
  dok := S.dok.upd hd (S.dom p hO)
  sl := fun j y e => by
    have li : i < ρ.length := (List.getElem?_eq_some_iff.mp hr).1
    by_cases c : i = j
    · subst c
      rw [List.getElem?_set_self li] at e
      cases e
      exact ⟨_, hs, new⟩
    · rw [List.getElem?_set_ne c] at e
      obtain ⟨v, e1, e2⟩ := S.sl j y e
      refine ⟨v, e1, ?_⟩
      cases y with
      | d x =>
        show Rp K (My.hid O (upd H p o)) v x
        rw [hid_upd hO]
        exact e2
      | l xs =>
        obtain ⟨q, vs, rfl, h1, h2, h3, h4, h5⟩ := e2
        refine ⟨q, vs, rfl, h1, h2, h3, ?_, by rw [hid_upd hO]; exact h5⟩
        rw [upd_ne (fun z => S.dis i j p s (.l xs) c hr e ho rfl hs (by rw [← z]; exact e1))]
        exact h4
      | k xs =>
        obtain ⟨q, vs, rfl, h1, h2, h3, h4, h5⟩ := e2
        refine ⟨q, vs, rfl, h1, h2, h3, ?_, by rw [hid_upd hO]; exact h5⟩
        rw [upd_ne (fun z => S.dis i j p s (.k xs) c hr e ho rfl hs (by rw [← z]; exact e1))]
        exact h4
      | t xs =>
        obtain ⟨q, vs, rfl, h1, h2, h3, h4, h5⟩ := e2
        refine ⟨q, vs, rfl, h1, h2, h3, ?_, by rw [hid_upd hO]; exact h5⟩
        rw [upd_ne (fun z => S.dis i j p s (.t xs) c hr e ho rfl hs (by rw [← z]; exact e1))]
        exact h4
      | dk => exact e2
  dis := fun a b q u w ne e1 e2 o1 o2 f1 f2 => by
    have li : i < ρ.length := (List.getElem?_eq_some_iff.mp hr).1
    have z : ∀ {j : Nat} {y : Sv}, (ρ.set i (some s'))[j]? = some (some y) → y.own = true → ∃ y', ρ[j]? = some (some y') ∧ y'.own = true := fun {j y} e o => by
      by_cases c : i = j
      · subst c
        exact ⟨s, hr, ho⟩
      · rw [List.getElem?_set_ne c] at e
        exact ⟨y, e, o⟩
    obtain ⟨u', g1, k1⟩ := z e1 o1
    obtain ⟨w', g2, k2⟩ := z e2 o2
    exact S.dis a b q u' w' ne g1 g2 k1 k2 f1 f2
theorem StR.new (S : StR K dk OB H0 O H σ ρ n) {i : Nat} {p : Addr} {s : Sv} {o : HO} (np : H p = none) (ho : s.own = true) (nt : NoTup p o) (new : SlR K dk H0 (add O p) (upd H p o) (.ref p) s) : StR K dk OB H0 (add O p) (upd H p o) (σ.set i (some (.ref p))) (ρ.set i (some s)) n where
  len := by rw [List.length_set, List.length_set, S.len]
  ob := fun b h => add_of (S.ob b h)
  od := S.od
  dom := fun b h => by
    by_cases c : b = p
    · rw [c]
      exact ⟨o, upd_same, nt⟩
    · rw [upd_ne c]
      exact (add_or h).elim (fun h => S.dom b h) fun z => absurd z c
  dkO := S.dkO
  fr := fun b u h e => same_new np _ _ (S.fr b u h e)
  dok := S.dok.same (same_new np)
  sl := fun j y e => by
    by_cases c : i = j
    · subst c
      by_cases li : i < ρ.length
      · rw [List.getElem?_set_self li] at e
        cases e
        exact ⟨_, List.getElem?_set_self (by rw [S.len]; exact li), new⟩
      · rw [List.getElem?_eq_none (by rw [List.length_set]; omega)] at e
        cases e
    · rw [List.getElem?_set_ne c] at e ⊢
      obtain ⟨v, e1, e2⟩ := S.sl j y e
      refine ⟨v, e1, ?_⟩
      cases y with
      | d x =>
        show Rp K (My.hid (add O p) (upd H p o)) v x
        rw [hid_add np]
        exact e2
      | l xs =>
        obtain ⟨q, vs, rfl, h1, h2, h3, h4, h5⟩ := e2
        exact ⟨q, vs, rfl, add_of h1, h2, h3, same_new np _ _ h4, by rw [hid_add np]; exact h5⟩
      | k xs =>
        obtain ⟨q, vs, rfl, h1, h2, h3, h4, h5⟩ := e2
        exact ⟨q, vs, rfl, add_of h1, h2, h3, same_new np _ _ h4, by rw [hid_add np]; exact h5⟩
      | t xs =>
        obtain ⟨q, vs, rfl, h1, h2, h3, h4, h5⟩ := e2
        exact ⟨q, vs, rfl, add_of h1, h2, h3, same_new np _ _ h4, by rw [hid_add np]; exact h5⟩
      | dk => exact e2
  dis := fun a b q u w ne e1 e2 o1 o2 f1 f2 => by
    have old : ∀ {j : Nat} {y : Sv}, ρ[j]? = some (some y) → y.own = true → σ[j]? = some (some (.ref p)) → False := fun {j y} e oy es => by
      obtain ⟨v, z1, z2⟩ := S.sl j y e
      rw [es] at z1
      cases z1
      cases y with
      | d x => cases oy
      | l xs =>
        obtain ⟨q, vs, z, h1, h2, h3, h4, h5⟩ := z2
        cases z
        rw [np] at h4
        cases h4
      | k xs =>
        obtain ⟨q, vs, z, h1, h2, h3, h4, h5⟩ := z2
        cases z
        rw [np] at h4
        cases h4
      | t xs =>
        obtain ⟨q, vs, z, h1, h2, h3, h4, h5⟩ := z2
        cases z
        rw [np] at h4
        cases h4
      | dk => cases oy
    have at_ : ∀ {j : Nat} {y : Sv}, i = j → (ρ.set i (some s))[j]? = some (some y) → (σ.set i (some (V.ref p)))[j]? = some (some (.ref q)) → q = p := fun {j y} c e f => by
      subst c
      by_cases li : i < ρ.length
      · rw [List.getElem?_set_self (by rw [S.len]; exact li)] at f
        cases f
        rfl
      · rw [List.getElem?_eq_none (by rw [List.length_set]; omega)] at e
        cases e
    by_cases ca : i = a
    · have hq := at_ ca e1 f1
      have cb : i ≠ b := fun z => ne (ca.symm.trans z)
      rw [List.getElem?_set_ne cb] at e2 f2
      rw [hq] at f2
      exact old e2 o2 f2
    · by_cases cb : i = b
      · have hq := at_ cb e2 f2
        rw [List.getElem?_set_ne ca] at e1 f1
        rw [hq] at f1
        exact old e1 o1 f1
      · rw [List.getElem?_set_ne ca] at e1 f1
        rw [List.getElem?_set_ne cb] at e2 f2
        exact S.dis a b q u w ne e1 e2 o1 o2 f1 f2
theorem StR.acc (S : StR K dk OB H0 O H σ ρ n) {p : Addr} {o : HO} (np : H p = none) (nt : NoTup p o) : StR K dk OB H0 (add O p) (upd H p o) σ ρ n where
  len := S.len
  ob := fun b h => add_of (S.ob b h)
  od := S.od
  dom := fun b h => by
    by_cases c : b = p
    · rw [c]
      exact ⟨o, upd_same, nt⟩
    · rw [upd_ne c]
      exact (add_or h).elim (fun h => S.dom b h) fun z => absurd z c
  dkO := S.dkO
  fr := fun b u h e => same_new np _ _ (S.fr b u h e)
  dok := S.dok.same (same_new np)
  sl := fun j y e => by
    obtain ⟨v, e1, e2⟩ := S.sl j y e
    refine ⟨v, e1, ?_⟩
    cases y with
    | d x =>
      show Rp K (My.hid (add O p) (upd H p o)) v x
      rw [hid_add np]
      exact e2
    | l xs =>
      obtain ⟨q, vs, rfl, h1, h2, h3, h4, h5⟩ := e2
      exact ⟨q, vs, rfl, add_of h1, h2, h3, same_new np _ _ h4, by rw [hid_add np]; exact h5⟩
    | k xs =>
      obtain ⟨q, vs, rfl, h1, h2, h3, h4, h5⟩ := e2
      exact ⟨q, vs, rfl, add_of h1, h2, h3, same_new np _ _ h4, by rw [hid_add np]; exact h5⟩
    | t xs =>
      obtain ⟨q, vs, rfl, h1, h2, h3, h4, h5⟩ := e2
      exact ⟨q, vs, rfl, add_of h1, h2, h3, same_new np _ _ h4, by rw [hid_add np]; exact h5⟩
    | dk => exact e2
  dis := S.dis
end
abbrev GD := PyData → DEnv → Option DEnv
abbrev GDs := List PyData → DEnv → Option DEnv
def But (vs : List Nat) (σ σ' : L2.St) : Prop := σ'.length = σ.length ∧ ∀ j, j ∉ vs → σ'[j]? = σ[j]?
def tWG (K : PySem.W.Frag) (vs : List Nat) (w : GD) : TG := fun v σ H Q => ∃ dk OB H0 O ρ n x ρ', StR K dk OB H0 O H σ ρ n ∧ Rp K (hid O H) v x ∧ w x ρ = some ρ' ∧ ∀ σ', But vs σ σ' → StR K dk OB H0 O H σ' ρ' n → Q σ' H
def tWGs (K : PySem.W.Frag) (vs : List Nat) (w : GDs) : TGs := fun us σ H Q => ∃ dk OB H0 O ρ n xs ρ', StR K dk OB H0 O H σ ρ n ∧ RpAll K (hid O H) us xs ∧ w xs ρ = some ρ' ∧ ∀ σ', But vs σ σ' → StR K dk OB H0 O H σ' ρ' n → Q σ' H
abbrev PDG (X : Cx) (tg : Expr) (vs : List Nat) (w : GD) : Prop := PG X tg (tWG X.K vs w)
abbrev PDGs (X : Cx) (tgs : List Expr) (vs : List Nat) (w : GDs) : Prop := PGs X tgs (tWGs X.K vs w)
section
variable {X : Cx}
omit [TbC] in
theorem But.refl {σ : L2.St} : But [] σ σ := ⟨rfl, fun _ _ => rfl⟩
omit [TbC] in
theorem But.trans {a b : List Nat} {σ σ1 σ2 : L2.St} (h : But a σ σ1) (g : But b σ1 σ2) : But (a ++ b) σ σ2 := ⟨g.1.trans h.1, fun j z => (g.2 j fun m => z (List.mem_append_right _ m)).trans (h.2 j fun m => z (List.mem_append_left _ m))⟩
def gN (i : Nat) : GD := fun x ρ => some (ρ.set i (some (.d x)))
theorem qdg_name {i : Nat} {x : Str} {pos : Pos} (hN : X.N.Nodup) (hi : X.N[i]? = some x) (hx : Loc X.env.scope x) (hf : X.fn x = true ∨ X.env.scope.names.lookup x = some .local := by first | exact .inl rfl | exact .inr rfl | assumption) : PDG X (.Name x pos) [i] (gN i) :=
  ⟨fun pins s σ H v u Q I r ⟨_, _, _, _, _, _, _, _, S, rx, e, k⟩ => (pg_name hN hi hx hf).run pins s σ H v u Q I r (by
    cases e
    exact k _ ⟨List.length_set .., fun j z => List.getElem?_set_ne (fun c => z (by rw [c]; exact List.mem_singleton_self _))⟩ (S.set rx))⟩
def gsN : GDs := fun xs ρ => match xs with
  | [] => some ρ
  | _ => none
def gsC (g : GD) (gs : GDs) : GDs := fun xs ρ => match xs with
  | [] => none
  | x :: r => (g x ρ).bind (gs r)
theorem qdgs_nil : PDGs X [] [] gsN := ⟨fun pins s σ H vs us Q I r ⟨_, _, _, _, _, _, xs, _, S, rx, e, k⟩ => pgs_nil.run pins s σ H vs us Q I r (by
  cases rx with
  | nil =>
    cases e
    exact ⟨rfl, k σ But.refl S⟩
  | cons a b => cases e)⟩
theorem qdgs_cons {e : Expr} {es : List Expr} {a b : List Nat} {g : GD} {gs : GDs} (h1 : PDG X e a g) (h2 : PDGs X es b gs) (hs : (assignEach (e :: es) X.env).map (·.2) = assign e X.env :: (assignEach es X.env).map (·.2) := by rfl) : PDGs X (e :: es) (a ++ b) (gsC g gs) :=
  ⟨fun pins s σ H vs us Q I r ⟨_, _, _, _, _, _, xs, ρ', S, rx, e, k⟩ => (pgs_cons h1 h2 hs).run pins s σ H vs us Q I r (by
    cases rx with
    | nil => cases e
    | @cons v0 r0 x0 xr ra rb =>
      obtain ⟨ρ1, e1, e2⟩ := Option.bind_eq_some_iff.mp e
      exact ⟨_, _, rfl, _, _, _, _, _, _, _, _, S, ra, e1, fun σ1 b1 S1 => ⟨_, _, _, _, _, _, _, _, S1, rb, e2, fun σ2 b2 S2 => k σ2 (b1.trans b2) S2⟩⟩)⟩
def gT (n : Nat) (gs : GDs) : GD := fun x ρ => match x with
  | .tuple xs => if xs.length = n then gs xs ρ else none
  | _ => none
theorem qdg_tup {es : List Expr} {k : Nat} {vs : List Nat} {gs : GDs} {n : Nat} {pos : Pos} (hc : X.calm = true) (h : PDGs X es vs gs) (hn : (assignEach es X.env).length = n := by rfl) (hst : (assignEach es X.env).findIdx? (·.1) = none := by rfl) : PDG X (.Tuple es k pos) vs (gT n gs) :=
  ⟨fun pins s σ H v u Q I r ⟨_, _, _, _, _, _, x, ρ', S, rx, e, kk⟩ => (pg_tup hc h hn hst).run pins s σ H v u Q I r (by
    cases x with
    | tuple xs =>
      cases rx with
      | @tup a us _ hs ha _ =>
        have e' : (if xs.length = n then gs xs _ else none) = some ρ' := e
        by_cases c : xs.length = n
        · rw [if_pos c] at e'
          exact ⟨_, us, rfl, same_seqT hid_le hs, by rw [ha.len]; exact c, _, _, _, _, _, _, _, _, S, ha, e', kk⟩
        · rw [if_neg c] at e'
          cases e'
    | _ => cases e)⟩
end
omit [TbC] in
theorem wipe_get (σ : L2.St) : ∀ (vs : List Nat) (j : Nat), (wipe σ vs)[j]? = if j ∈ vs ∧ j < σ.length then some none else σ[j]?
  | [], j => by
    rw [if_neg (fun h => by simp at h)]
    rfl
  | v :: vs, j => by
    unfold wipe
    by_cases c : v = j
    · subst c
      by_cases l : v < σ.length
      · rw [List.getElem?_set_self (by rw [wipe_length]; exact l), if_pos ⟨List.mem_cons_self, l⟩]
      · rw [List.getElem?_eq_none (by rw [List.length_set, wipe_length]; omega), if_neg (fun h => l h.2), List.getElem?_eq_none (by omega)]
    · rw [List.getElem?_set_ne c, wipe_get σ vs j]
      have e : (j ∈ v :: vs ∧ j < σ.length) ↔ (j ∈ vs ∧ j < σ.length) := by
        rw [List.mem_cons]
        exact ⟨fun h => ⟨h.1.resolve_left (fun z => c z.symm), h.2⟩, fun h => ⟨.inr h.1, h.2⟩⟩
      by_cases d : j ∈ vs ∧ j < σ.length
      · rw [if_pos d, if_pos (e.mpr d)]
      · rw [if_neg d, if_neg fun z => d (e.mp z)]
omit [TbC] in
theorem wipe_but {own vs : List Nat} {σ σ2 : L2.St} (h : ∀ i ∈ vs, i ∈ own) (b : But vs (wipe σ own) σ2) : wipe σ2 own = wipe σ own := by
  have l2 : σ2.length = σ.length := b.1.trans (wipe_length σ own)
  refine List.ext_getElem? fun j => ?_
  rw [wipe_get, wipe_get, l2]
  by_cases c : j ∈ own ∧ j < σ.length
  · rw [if_pos c, if_pos c]
  · rw [if_neg c, if_neg c]
    by_cases d : j ∈ own
    · have nl : ¬ j < σ.length := fun l => c ⟨d, l⟩
      rw [List.getElem?_eq_none (by omega), List.getElem?_eq_none (by omega)]
    · rw [b.2 j (fun m => d (h j m)), wipe_get, if_neg c]
def ItOk (K : PySem.W.Frag) (O : Addr → Bool) (H1 : Hp) (J : It) (xs : List PyData) : Prop := ∀ (i : Nat) (O' : Addr → Bool) (H' : Hp), Same (hid O H1) (hid O' H') → Dom O' H' →
  (i < xs.length → J.go i H' ∧ ∀ x H'', J.yld i H' x H'' → ∃ d, xs[i]? = some d ∧ Same H' H'' ∧ Rp K (hid O' H'') x d) ∧ (xs.length ≤ i → J.stop i H')
def tWI (K : PySem.W.Frag) (w : AD) : TI := fun σ H R => ∃ dk OB H0 O ρ n Qd, StR K dk OB H0 O H σ ρ n ∧ w ρ n Qd ∧ ∀ J H1 n1 xs, FrD dk H H1 → DkOk dk n1 H1 → ItOk K O H1 J xs → Qd xs n1 → R J H1
abbrev PDI (X : Cx) (tg iter : Expr) (w : AD) : Prop := PI X tg iter (tWI X.K w)
def itemsD : PyData → Option (List PyData)
  | .list xs => some xs
  | .tuple xs => some xs
  | .str z => some (z.cps.toList.map fun c => .str ⟨#[c]⟩)
  | _ => none
def iV (w : ED) : AD := fun ρ n Q => w ρ n fun x n1 => ∃ xs, itemsD x = some xs ∧ Q xs n1
section
variable {X : Cx} {K : PySem.W.Frag} {tg : Expr}
omit [TbC] in
theorem it_list {O : Addr → Bool} {H1 : Hp} {a : Addr} {us : List V} {xs : List PyData} (hd : hid O H1 a = some (.lst us)) (h : RpAll K (hid O H1) us xs) : ItOk K O H1 (Itl K a) xs := fun i O' H' s _ => by
  have q : SqL K H' a us := .inl (.inl (hid_le _ _ (s _ _ hd)))
  refine ⟨fun l => ?_, fun l => ⟨us, q, by rw [h.len]; exact l⟩⟩
  have l' : i < us.length := by rw [h.len]; exact l
  refine ⟨⟨us, us[i], q, List.getElem?_eq_getElem l'⟩, fun x H'' ⟨e, y⟩ => ?_⟩
  subst e
  obtain ⟨d, e1, e2⟩ := h.get (y us q)
  exact ⟨d, e1, Same.refl _, Rp.same s _ _ e2⟩
omit [TbC] in
theorem it_tup {O : Addr → Bool} {H1 : Hp} {a : Addr} {us : List V} {xs : List PyData} (hd : SqT K (hid O H1) a us) (h : RpAll K (hid O H1) us xs) : ItOk K O H1 (Itt K a) xs := fun i O' H' s _ => by
  have q : SqT K H' a us := same_seqT hid_le (same_seqT s hd)
  refine ⟨fun l => ?_, fun l => ⟨us, q, by rw [h.len]; exact l⟩⟩
  have l' : i < us.length := by rw [h.len]; exact l
  refine ⟨⟨us, us[i], q, List.getElem?_eq_getElem l'⟩, fun x H'' ⟨e, y⟩ => ?_⟩
  subst e
  obtain ⟨d, e1, e2⟩ := h.get (y us q)
  exact ⟨d, e1, Same.refl _, Rp.same s _ _ e2⟩
omit [TbC] in
theorem it_str {O : Addr → Bool} {H1 : Hp} {z : Str} : ItOk K O H1 (Its z) (z.cps.toList.map fun c => .str ⟨#[c]⟩) := fun i O' H' s _ => by
  rw [List.length_map, Array.length_toList]
  refine ⟨fun l => ⟨l, fun x H'' ⟨e, c, e1, e2⟩ => ?_⟩, fun l => l⟩
  subst e e2
  exact ⟨.str ⟨#[c]⟩, by rw [List.getElem?_map, Array.getElem?_toList, e1]; rfl, Same.refl _, .str _⟩
omit [TbC] in
theorem it_rng {O : Addr → Bool} {H1 : Hp} {lo : Int} {m : Nat} : ItOk K O H1 (Itr lo m) ((List.range m).map fun (j : Nat) => .int (lo + (j : Int))) := fun i O' H' s _ => by
  rw [List.length_map, List.length_range]
  refine ⟨fun l => ⟨l, fun x H'' ⟨e, e2⟩ => ?_⟩, fun l => l⟩
  subst e e2
  exact ⟨.int (lo + i), by rw [List.getElem?_map, List.getElem?_range l]; rfl, Same.refl _, .int _⟩
def iSeq (K : PySem.W.Frag) (tl : TE) : TI := fun σ H R => tl σ H fun x H1 => (∃ a, x = .ref a ∧ (∃ xs, SqL K H1 a xs) ∧ R (Itl K a) H1) ∨ (∃ a, x = .ref a ∧ (∃ xs, SqT K H1 a xs) ∧ R (Itt K a) H1) ∨ ∃ z, x = .str z ∧ R (Its z) H1
omit [TbC] in
theorem pi_seq {l : Expr} {tl : TE} (hl : PE X l tl) : PI X tg l (iSeq X.K tl) := by
  refine ⟨fun pins s σ H R I h => ?_⟩
  refine thn (hl.run pins s σ H _ I h) fun v s1 ⟨x, H1, I1, r1, q1⟩ => ?_
  rcases q1 with ⟨a, e, ⟨xs, hq⟩, q⟩ | ⟨a, e, ⟨xs, hq⟩, q⟩ | ⟨z, e, q⟩
  · subst e
    cases r1
    obtain ⟨its, rv, p, hz⟩ := I1.list hq
    refine wpAny_pyIter_list p.isList ?_
    refine ⟨s1.heap.objs.size, [s1.heap.objs.size], _, _, H1, rfl, I1.kept (t' := s1.toks) fun b o e => Heap.get?_push_of_some _ e, turn_list a _, ⟨_, Heap.get?_push_size _ rfl, rfl, rfl⟩, fun b hb => ?_, q⟩
    have e : b = s1.heap.objs.size := by simpa using hb
    subst e
    exact I1.fpOk (Nat.le_refl _) (I1.hok.fresh (Nat.le_refl _))
  · subst e
    cases r1
    obtain ⟨its, rv, p, hz⟩ := I1.tuple hq
    refine wpAny_pyIter_tuple (show s1.heap.IsTuple a its.toArray from p) ?_
    refine ⟨s1.heap.objs.size, [s1.heap.objs.size], _, _, H1, rfl, I1.kept (t' := s1.toks) fun b o e => Heap.get?_push_of_some _ e, turn_tuple a _, ⟨_, Heap.get?_push_size _ rfl, rfl, rfl⟩, fun b hb => ?_, q⟩
    have e : b = s1.heap.objs.size := by simpa using hb
    subst e
    exact I1.fpOk (Nat.le_refl _) (I1.hok.fresh (Nat.le_refl _))
  · subst e
    obtain ⟨t, rfl⟩ := r1
    cases ha : z.cps.all (· < 128)
    · exact wpAny_pyIter_wide ha (pi_one (tk := s1.toks) I1 _ (turn_str _ z t "str_iterator" (.inr rfl)) ⟨_, Heap.get?_push_size _ rfl, rfl, rfl⟩ q)
    · exact wpAny_pyIter_ascii ha (pi_one (tk := s1.toks) I1 _ (turn_str _ z t "str_ascii_iterator" (.inl rfl)) ⟨_, Heap.get?_push_size _ rfl, rfl, rfl⟩ q)
theorem qdi_mk {iter : Expr} {wi : TI} {w : AD} (h : PI X tg iter wi) (r : ∀ {dk OB H0 O H σ ρ n} {R : It → Hp → Prop} {Qd}, StR X.K dk OB H0 O H σ ρ n → w ρ n Qd → (∀ J H1 n1 xs, FrD dk H H1 → DkOk dk n1 H1 → ItOk X.K O H1 J xs → Qd xs n1 → R J H1) → wi σ H R) : PDI X tg iter w :=
  ⟨fun pins s σ H R I ⟨_, _, _, _, _, _, _, S, hw, k⟩ => h.run pins s σ H R I (r S hw k)⟩
theorem qdi_val {e : Expr} {w : ED} (h : PD X e w) : PDI X tg e (iV w) := qdi_mk (pi_seq h) fun S hw k => rd_W S hw fun v d H1 n1 f1 d1 r1 ⟨xs, e, q⟩ => by
  cases d with
  | list ds =>
    cases e
    cases r1 with
    | lst hs ha => exact .inl ⟨_, rfl, ⟨_, .inl (.inl (hid_le _ _ hs))⟩, k _ H1 n1 _ f1 d1 (it_list hs ha) q⟩
  | tuple ds =>
    cases e
    cases r1 with
    | tup hs ha _ => exact .inr (.inl ⟨_, rfl, ⟨_, same_seqT hid_le hs⟩, k _ H1 n1 _ f1 d1 (it_tup hs ha) q⟩)
  | str z =>
    cases e
    cases r1
    exact .inr (.inr ⟨z, rfl, k _ H1 n1 _ f1 d1 it_str q⟩)
  | _ => cases e
def rangeD (m : Int) : List PyData := (List.range m.toNat).map fun (j : Nat) => .int (0 + (j : Int))
def iR (w : AD) : AD := fun ρ n Q => w ρ n fun xs n1 => ∃ m : Int, xs = [.int m] ∧ -(2 ^ 62) ≤ m ∧ m < 2 ^ 62 ∧ Q (rangeD m) n1
theorem qdi_range {a : Expr} {w : AD} {p pos : Pos} (hg : Gl X "range") (hm : X.mg "range" = none) (ha : PDA X [a] w) (hs : starEach [a] X.env = [(false, eval a X.env)] := by rfl) : PDI X tg (.Call (.Name "range" p) [a] [] pos) (iR w) := qdi_mk (pi_range1 hg hm ha hs) fun S hw k => rda_W S hw fun vs ds H1 n1 f1 d1 r1 ⟨m, e, l1, l2, q⟩ => by
  subst e
  cases r1 with
  | cons a b =>
    cases a
    cases b
    exact ⟨m, rfl, l1, l2, k _ H1 n1 _ f1 d1 it_rng q⟩
end
end My

namespace My
open PySem PySem.Spec PyProof.Rows L2
variable [TbC]
section
variable {K : PySem.W.Frag} {dk : Option DkI} {OB : Addr → Bool} {H0 : Hp} {O : Addr → Bool} {H H' : Hp} {σ : L2.St} {ρ : DEnv} {n n' : Nat}
theorem StR.nohold (S : StR K dk OB H0 O H σ ρ n) {p : Addr} (np : H p = none) : ∀ (j : Nat) (y : Sv), ρ[j]? = some (some y) → y.own = true → σ[j]? ≠ some (some (.ref p)) := fun j y e oy es => by
  obtain ⟨v, z1, z2⟩ := S.sl j y e
  rw [es] at z1
  cases z1
  cases y with
  | d x => cases oy
  | l xs =>
    obtain ⟨q, vs, z, h1, h2, h3, h4, h5⟩ := z2
    cases z
    rw [np] at h4
    cases h4
  | k xs =>
    obtain ⟨q, vs, z, h1, h2, h3, h4, h5⟩ := z2
    cases z
    rw [np] at h4
    cases h4
  | t xs =>
    obtain ⟨q, vs, z, h1, h2, h3, h4, h5⟩ := z2
    cases z
    rw [np] at h4
    cases h4
  | dk => cases oy
theorem StR.touch (S : StR K dk OB H0 O H σ ρ n) {p : Addr} {o : HO} (hO : O p = true) (h0 : H0 p = none) (hd : NotDk dk p) (nt : NoTup p o) (free : ∀ (j : Nat) (y : Sv), ρ[j]? = some (some y) → y.own = true → σ[j]? ≠ some (some (.ref p))) : StR K dk OB H0 O (upd H p o) σ ρ n where
  len := S.len
  ob := S.ob
  od := S.od
  dom := fun b h => by
    by_cases c : b = p
    · rw [c]
      exact ⟨o, upd_same, nt⟩
    · rw [upd_ne c]
      exact S.dom b h
  dkO := S.dkO
  fr := fun b u h e => by
    rw [upd_ne (fun z => by rw [z, h0] at e; cases e)]
    exact S.fr b u h e
  dok := S.dok.upd hd (S.dom p hO)
  sl := fun j y e => by
    obtain ⟨v, e1, e2⟩ := S.sl j y e
    refine ⟨v, e1, ?_⟩
    cases y with
    | d x =>
      show Rp K (My.hid O (upd H p o)) v x
      rw [hid_upd hO]
      exact e2
    | l xs =>
      obtain ⟨q, vs, rfl, h1, h2, h3, h4, h5⟩ := e2
      refine ⟨q, vs, rfl, h1, h2, h3, ?_, by rw [hid_upd hO]; exact h5⟩
      rw [upd_ne (fun z => free j (.l xs) e rfl (by rw [← z]; exact e1))]
      exact h4
    | k xs =>
      obtain ⟨q, vs, rfl, h1, h2, h3, h4, h5⟩ := e2
      refine ⟨q, vs, rfl, h1, h2, h3, ?_, by rw [hid_upd hO]; exact h5⟩
      rw [upd_ne (fun z => free j (.k xs) e rfl (by rw [← z]; exact e1))]
      exact h4
    | t xs =>
      obtain ⟨q, vs, rfl, h1, h2, h3, h4, h5⟩ := e2
      refine ⟨q, vs, rfl, h1, h2, h3, ?_, by rw [hid_upd hO]; exact h5⟩
      rw [upd_ne (fun z => free j (.t xs) e rfl (by rw [← z]; exact e1))]
      exact h4
    | dk => exact e2
  dis := S.dis
def rem (O : Addr → Bool) (p : Addr) : Addr → Bool := fun b => O b && !decide (b = p)
omit [TbC] in
theorem rem_of {O : Addr → Bool} {p b : Addr} (h : rem O p b = true) : O b = true := by
  unfold rem at h
  rw [Bool.and_eq_true] at h
  exact h.1
omit [TbC] in
theorem rem_ne {O : Addr → Bool} {p b : Addr} (h : O b = true) (n : b ≠ p) : rem O p b = true := by
  unfold rem
  rw [h, decide_eq_false n]
  rfl
omit [TbC] in
theorem rem_self {O : Addr → Bool} {p : Addr} : rem O p p = false := by
  unfold rem
  rw [decide_eq_true rfl]
  simp
theorem StR.give (S : StR K dk OB H0 O H σ ρ n) {i : Nat} {p : Addr} {s : Sv} {x : PyData} (hr : ρ[i]? = some (some s)) (ho : s.own = true) (hs : σ[i]? = some (some (.ref p))) (h0 : H0 p = none) (new : Rp K (My.hid (rem O p) H) (.ref p) x) : StR K dk OB H0 (rem O p) H σ (ρ.set i (some (.d x))) n where
  len := by rw [List.length_set, S.len]
  ob := fun b h => rem_ne (S.ob b h) fun e => S.od.ne h (by rw [e]; exact h0)
  od := S.od
  dom := fun b h => S.dom b (rem_of h)
  dkO := S.dkO
  fr := S.fr
  dok := S.dok
  sl := fun j y e => by
    have li : i < ρ.length := (List.getElem?_eq_some_iff.mp hr).1
    by_cases c : i = j
    · subst c
      rw [List.getElem?_set_self li] at e
      cases e
      exact ⟨_, hs, new⟩
    · rw [List.getElem?_set_ne c] at e
      obtain ⟨v, e1, e2⟩ := S.sl j y e
      have sm : Same (My.hid O H) (My.hid (rem O p) H) := hid_sub fun b h => rem_of h
      refine ⟨v, e1, ?_⟩
      cases y with
      | d x => exact Rp.same sm _ _ e2
      | l xs =>
        obtain ⟨q, vs, rfl, h1, h2, h3, h4, h5⟩ := e2
        exact ⟨q, vs, rfl, rem_ne h1 fun z => S.dis i j p s (.l xs) c hr e ho rfl hs (by rw [← z]; exact e1), h2, h3, h4, RpAll.same sm _ _ h5⟩
      | k xs =>
        obtain ⟨q, vs, rfl, h1, h2, h3, h4, h5⟩ := e2
        exact ⟨q, vs, rfl, rem_ne h1 fun z => S.dis i j p s (.k xs) c hr e ho rfl hs (by rw [← z]; exact e1), h2, h3, h4, RpKvs.same sm _ _ h5⟩
      | t xs =>
        obtain ⟨q, vs, rfl, h1, h2, h3, h4, h5⟩ := e2
        exact ⟨q, vs, rfl, rem_ne h1 fun z => S.dis i j p s (.t xs) c hr e ho rfl hs (by rw [← z]; exact e1), h2, h3, h4, ⟨RpTk.same sm h5.1, h5.2⟩⟩
      | dk => exact e2
  dis := fun a b q u w ne e1 e2 o1 o2 f1 f2 => by
    have li : i < ρ.length := (List.getElem?_eq_some_iff.mp hr).1
    have z : ∀ {j : Nat} {y : Sv}, (ρ.set i (some (.d x)))[j]? = some (some y) → y.own = true → ρ[j]? = some (some y) := fun {j y} e o => by
      by_cases c : i = j
      · subst c
        rw [List.getElem?_set_self li] at e
        cases e
        cases o
      · rw [List.getElem?_set_ne c] at e
        exact e
    exact S.dis a b q u w ne (z e1 o1) (z e2 o2) o1 o2 f1 f2
end
def lcD (g : GD) (p : TD) (e : ED) (ρ0 : DEnv) : List PyData → List PyData → M (List PyData)
  | [], acc => fun n Q => Q acc n
  | x :: xs, acc => fun n Q => ∃ ρ', g x ρ0 = some ρ' ∧ p ρ' n fun b n1 => if b = true then e ρ' n1 fun y n2 => lcD g p e ρ0 xs (acc ++ [y]) n2 Q else lcD g p e ρ0 xs acc n1 Q
def eLc (it : AD) (g : GD) (p : TD) (e : ED) (own : List Nat) : ED := fun ρ n Q => it ρ n fun xs n1 => xs.length ≤ lim ∧ lcD g p e (wipeD ρ own) xs [] n1 fun ys n2 => Q (.list ys) n2
def bYes : TD := fun _ n Q => Q true n
section
variable {X : Cx}
theorem qts_nil : PTs X [] (tWT X.K bYes) := ⟨fun pins s σ H Q I ⟨_, _, _, _, _, _, _, S, hw, k⟩ => pts_nil.run pins s σ H Q I (k _ H _ (FrD.refl H) S.dok hw)⟩
theorem qts_one {c : Expr} {w : TD} (h : PDT X c w) : PTs X [c] (tWT X.K w) := pts_one h
theorem rd_lc {K : PySem.W.Frag} {it : AD} {g : GD} {p : TD} {e : ED} {own vs : List Nat} (hvs : ∀ i ∈ vs, i ∈ own) : RdE K (tLc (tWI K it) (tWG K vs g) (tWT K p) (tW K e) own) (eLc it g p e own) := by
  intro dk OB H0 O H σ ρ n Q Qd S hw k
  refine ⟨dk, OB, H0, O, ρ, n, _, S, hw, fun J H1 n1 xs f1 d1 io hq D nD => ?_⟩
  obtain ⟨ll, q1⟩ := hq
  have S1 := S.step f1 d1
  have SA := S1.acc (o := .lst []) nD nt_lst
  have nd : NotDk dk D := d1.new nD
  have nA : ¬ dkA dk D := nd.nA
  have h0 := S1.fresh nD
  have free := S1.nohold nD
  have oD : add O D D = true := add_self
  let Wt : Nat → Hp → Prop := fun i H2 => ∃ us acc n2, H2 D = some (.lst us) ∧ RpAll K (hid (add O D) H2) us acc ∧ acc.length ≤ i ∧ StR K dk OB H0 (add O D) H2 σ ρ n2 ∧ Same (hid O H1) (hid (add O D) H2) ∧ FrD dk H1 H2 ∧ lcD g p e (wipeD ρ own) (xs.drop i) acc n2 fun ys n2 => Qd (.list ys) n2
  refine ⟨fun i m H2 => m = xs.length - i ∧ i ≤ xs.length ∧ Wt i H2, ⟨xs.length, by simp, Nat.zero_le _, [], [], n1, upd_same, .nil, Nat.le_refl _, SA, by rw [hid_add nD]; exact Same.refl _, FrD.of (same_new nD), q1⟩, ?_⟩
  rintro i m H2 ⟨rfl, hi, us, acc, n2, hD, rA, la, S2, s2, f2, q2⟩
  have itr := io i (add O D) H2 s2 S2.dom
  by_cases hlt : i < xs.length
  · obtain ⟨go, yl⟩ := itr.1 hlt
    refine .inr ⟨go, Wt (i + 1), fun H' w => ⟨xs.length - (i + 1), by omega, rfl, hlt, w⟩, fun x H3 y => ?_⟩
    obtain ⟨d, ed, s3, rx⟩ := yl x H3 y
    have ex : xs.drop i = d :: xs.drop (i + 1) := by
      rw [List.drop_eq_getElem_cons hlt]
      congr 1
      rw [List.getElem?_eq_getElem hlt] at ed
      exact Option.some.inj ed
    rw [ex] at q2
    obtain ⟨ρ', eg, q3⟩ := q2
    have S3 := S2.step (FrD.of s3) (S2.dok.same s3)
    refine ⟨dk, OB, H0, add O D, wipeD ρ own, n2, d, ρ', S3.wipe own, rx, eg, fun σ2 b2 S4 => ⟨wipe_but hvs b2, dk, OB, H0, add O D, ρ', n2, _, S4, q3, fun b H4 n3 f4 d4 q4 => ?_⟩⟩
    cases b with
    | true =>
      refine (if_pos rfl).mpr ⟨dk, OB, H0, add O D, ρ', n3, _, S4.step f4 d4, (if_pos rfl).mp q4, fun y' dy H5 n4 f5 d5 r5 q5 => ?_⟩
      have f25 : FrD dk H2 H5 := ((FrD.of s3).trans f4).trans f5
      have hD5 := f25 _ _ nA hD
      have S5 := S2.step f25 d5
      have s25 := hid_fr S2.dO f25
      refine ⟨us, hD5, ?_, us ++ [y'], acc ++ [dy], n4, upd_same, ?_, by rw [List.length_append]; exact Nat.succ_le_succ la, S5.touch oD h0 nd nt_lst free, ?_, ?_, q5⟩
      · have z := lim_le
        rw [rA.len]
        omega
      · rw [hid_upd oD]
        exact RpAll.app (RpAll.same s25 _ _ rA) (.cons r5 .nil)
      · rw [hid_upd oD]
        exact s2.trans s25
      · exact fun b o h z => by
          rw [upd_ne (ne_of_none z nD)]
          exact f25 _ _ h (f2 _ _ h z)
    | false =>
      have f24 : FrD dk H2 H4 := (FrD.of s3).trans f4
      have s24 := hid_fr S2.dO f24
      exact (if_neg Bool.false_ne_true).mpr ⟨us, acc, n3, f24 _ _ nA hD, RpAll.same s24 _ _ rA, by omega, S2.step f24 d4, s2.trans s24, f2.trans f24, (if_neg Bool.false_ne_true).mp q4⟩
  · have e : i = xs.length := by omega
    subst e
    rw [List.drop_length] at q2
    exact .inl ⟨itr.2 (Nat.le_refl _), k _ _ H2 n2 (f1.trans f2) S2.dok (.lst (hid_at (S1.dom.new nD) hD) (RpAll.same (hid_sub fun b h => add_of h) _ _ rA)) q2⟩
theorem qd_lc {elt tg iter : Expr} {ifs : List Expr} {scope : Scope} {own : List (Str × Nat)} {pos : Pos} {it : AD} {g : GD} {p : TD} {e : ED} {vs : List Nat} (hc : X.calm = true) (hN : X.N.Nodup) (hi : PDI X tg iter it) (ok : BlkOk X.N X.env.scope scope own) (hvs : ∀ i ∈ vs, i ∈ own.map (·.2))
    (hg : ∀ (s : Shared) (H : Hp) (C : Addr) (cl : List (Str × Addr)) (fp : List Addr), PDG (X.blk s H scope (compEnvC scope cl C X.env) fp) tg vs g) (ht : ∀ (s : Shared) (H : Hp) (C : Addr) (cl : List (Str × Addr)) (fp : List Addr), PTs (X.blk s H scope (compEnvC scope cl C X.env) fp) ifs (tWT X.K p))
    (he : ∀ (s : Shared) (H : Hp) (C : Addr) (cl : List (Str × Addr)) (fp : List Addr), PD (X.blk s H scope (compEnvC scope cl C X.env) fp) elt e) (hs : ∀ x, foldedSetIterable iter X.env x = pure x := by intro _; rfl) :
    PD X (.ListComp elt [⟨tg, iter, ifs, 0⟩] scope pos) (eLc it g p e (own.map (·.2))) := qd_mk (pe_lc hc hN hi ok hg ht he hs) (rd_lc hvs)
end
structure EndsD where
  nx : DEnv → Nat → Prop
  rt : PyData → Nat → Prop
  bk : DEnv → Nat → Prop
  ct : DEnv → Nat → Prop
abbrev SD := DEnv → Nat → EndsD → Prop
structure EndOk (K : PySem.W.Frag) (dk : Option DkI) (OB : Addr → Bool) (H0 : Hp) (O : Addr → Bool) (H : Hp) (E : EndsD) (D : Ends) : Prop where
  nx : ∀ O' H' σ' ρ' n', StR K dk OB H0 O' H' σ' ρ' n' → Same (hid O H) (hid O' H') → E.nx ρ' n' → D.nx σ' H'
  rt : ∀ v d H' n', FrD dk H0 H' → DkOk dk n' H' → Rp K (hid OB H') v d → E.rt d n' → D.rt v H'
  bk : ∀ O' H' σ' ρ' n', StR K dk OB H0 O' H' σ' ρ' n' → Same (hid O H) (hid O' H') → E.bk ρ' n' → D.bk σ' H'
  ct : ∀ O' H' σ' ρ' n', StR K dk OB H0 O' H' σ' ρ' n' → Same (hid O H) (hid O' H') → E.ct ρ' n' → D.ct σ' H'
theorem EndOk.mono {K : PySem.W.Frag} {dk : Option DkI} {OB : Addr → Bool} {H0 : Hp} {O O1 : Addr → Bool} {H H1 : Hp} {E : EndsD} {D : Ends} (h : EndOk K dk OB H0 O H E D) (s : Same (hid O H) (hid O1 H1)) : EndOk K dk OB H0 O1 H1 E D :=
  ⟨fun O' H' σ' ρ' n' S s' q => h.nx O' H' σ' ρ' n' S (s.trans s') q, h.rt, fun O' H' σ' ρ' n' S s' q => h.bk O' H' σ' ρ' n' S (s.trans s') q, fun O' H' σ' ρ' n' S s' q => h.ct O' H' σ' ρ' n' S (s.trans s') q⟩
def tWS (K : PySem.W.Frag) (w : SD) : TS := fun D σ H => ∃ dk OB H0 O ρ n E, StR K dk OB H0 O H σ ρ n ∧ w ρ n E ∧ EndOk K dk OB H0 O H E D
abbrev PSD (X : Cx) (st : Stmt) (w : SD) : Prop := PS X st (tWS X.K w)
abbrev PSDs (X : Cx) (sts : List Stmt) (w : SD) : Prop := PSs X sts (tWS X.K w)
section
variable {X : Cx}
theorem qs_mk {st : Stmt} {t : TS} {w : SD} (h : PS X st t) (r : ∀ {dk OB H0 O H σ ρ n E D}, StR X.K dk OB H0 O H σ ρ n → w ρ n E → EndOk X.K dk OB H0 O H E D → t D σ H) : PSD X st w := ⟨fun pins s σ H D I ⟨_, _, _, _, _, _, _, S, hw, k⟩ => h.run pins s σ H D I (r S hw k)⟩
theorem qss_mk {sts : List Stmt} {t : TS} {w : SD} (h : PSs X sts t) (r : ∀ {dk OB H0 O H σ ρ n E D}, StR X.K dk OB H0 O H σ ρ n → w ρ n E → EndOk X.K dk OB H0 O H E D → t D σ H) : PSDs X sts w := ⟨fun pins s σ H D I ⟨_, _, _, _, _, _, _, S, hw, k⟩ => h.run pins s σ H D I (r S hw k)⟩
def sNil : SD := fun ρ n E => E.nx ρ n
def sSeq (a b : SD) : SD := fun ρ n E => a ρ n { E with nx := fun ρ' n' => b ρ' n' E }
theorem qss_nil : PSDs X [] sNil := qss_mk pss_nil fun S hw k => k.nx _ _ _ _ _ S (Same.refl _) hw
theorem qss_cons {st : Stmt} {rest : List Stmt} {a b : SD} (h1 : PSD X st a) (h2 : PSDs X rest b) : PSDs X (st :: rest) (sSeq a b) := qss_mk (pss_cons h1 h2) fun S hw k =>
  ⟨_, _, _, _, _, _, _, S, hw, fun O' H' σ' ρ' n' S' s q => ⟨_, _, _, _, _, _, _, S', q, k.mono s⟩, k.rt, k.bk, k.ct⟩
theorem qss_one {st : Stmt} {a : SD} (h : PSD X st a) : PSDs X [st] a := qss_mk (pss_one h) fun S hw k => ⟨_, _, _, _, _, _, _, S, hw, k⟩
def sSet (i : Nat) (e : ED) : SD := fun ρ n E => e ρ n fun x n1 => E.nx (ρ.set i (some (.d x))) n1
theorem qs_set {i : Nat} {x : Str} {e : Expr} {w : ED} {pos pos' : Pos} (hN : X.N.Nodup) (hi : X.N[i]? = some x) (hx : Loc X.env.scope x) (he : PD X e w) (hs : swapsWith e (some (.Name x pos')) pos.line X.env = pure false := by rfl)
    (hf : X.fn x = true ∨ X.env.scope.names.lookup x = some .local := by first | exact .inl rfl | exact .inr rfl | assumption) : PSD X (.Assign [.Name x pos'] e pos) (sSet i w) := qs_mk (ps_set hN hi hx he hs hf) fun S hw k => rd_W S hw fun v d H1 n1 f1 d1 r1 q1 =>
  k.nx _ _ _ _ _ ((S.step f1 d1).set r1) (S.hid f1) q1
theorem qs_setLc {i : Nat} {y : Str} {py : Pos} {elt tg iter : Expr} {ifs : List Expr} {scope : Scope} {own : List (Str × Nat)} {pos spos : Pos} {it : AD} {g : GD} {p : TD} {e : ED} {vs : List Nat} (hc : X.calm = true) (hN : X.N.Nodup) (hy : X.N[i]? = some y) (hyl : X.env.scope.names.lookup y = some .local)
    (hsw : swapsWith (.ListComp elt [⟨tg, iter, ifs, 0⟩] scope pos) (some (.Name y py)) spos.line X.env = pure true) (hi : PDI X tg iter it) (ok : BlkOk X.N X.env.scope scope own) (hvs : ∀ i ∈ vs, i ∈ own.map (·.2))
    (hg : ∀ (s : Shared) (H : Hp) (C : Addr) (cl : List (Str × Addr)) (fp : List Addr), PDG (X.blk s H scope (compEnvC scope cl C X.env) fp) tg vs g) (ht : ∀ (s : Shared) (H : Hp) (C : Addr) (cl : List (Str × Addr)) (fp : List Addr), PTs (X.blk s H scope (compEnvC scope cl C X.env) fp) ifs (tWT X.K p))
    (he : ∀ (s : Shared) (H : Hp) (C : Addr) (cl : List (Str × Addr)) (fp : List Addr), PD (X.blk s H scope (compEnvC scope cl C X.env) fp) elt e) (hs : ∀ x, foldedSetIterable iter X.env x = pure x := by intro _; rfl) :
    PSD X (.Assign [.Name y py] (.ListComp elt [⟨tg, iter, ifs, 0⟩] scope pos) spos) (sSet i (eLc it g p e (own.map (·.2)))) := qs_mk (ps_setLc hc hN hy hyl hsw hi ok hg ht he hs) fun S hw k => rd_lc hvs S hw fun v d H1 n1 f1 d1 r1 q1 =>
  k.nx _ _ _ _ _ ((S.step f1 d1).set r1) (S.hid f1) q1
def sAsg (e : ED) (g : GD) : SD := fun ρ n E => e ρ n fun x n1 => ∃ ρ', g x ρ = some ρ' ∧ E.nx ρ' n1
theorem qs_asg {tg e : Expr} {w : ED} {g : GD} {vs : List Nat} {pos : Pos} (he : PD X e w) (hg : PDG X tg vs g) (hs : swapsWithSole [tg] e pos.line X.env = pure false := by rfl) (hw : swappedStores [tg] e X.env = pure none := by rfl)
    (h1 : (assignEach [tg] X.env).map (·.2) = [assign tg X.env] := by rfl) : PSD X (.Assign [tg] e pos) (sAsg w g) := qs_mk (ps_asg he hg hs hw h1) fun S hw k => rd_W S hw fun v d H1 n1 f1 d1 r1 ⟨ρ', eg, q1⟩ =>
  ⟨_, _, _, _, _, _, _, _, S.step f1 d1, r1, eg, fun σ' _ S' => k.nx _ _ _ _ _ S' (S.hid f1) q1⟩
def sRet (e : ED) : SD := fun ρ n E => e ρ n E.rt
theorem qs_ret {e : Expr} {w : ED} {pos : Pos} (he : PD X e w) : PSD X (.Return (some e) pos) (sRet w) := qs_mk (ps_ret he) fun S hw k => rd_W S hw fun v d H1 n1 f1 d1 r1 q1 => k.rt v d H1 n1 (S.fr.trans f1) d1 (Rp.same (hid_sub S.ob) _ _ r1) q1
def sIf (c : TD) (a b : SD) : SD := fun ρ n E => c ρ n fun x n1 => if x = true then a ρ n1 E else b ρ n1 E
theorem qs_if {c : Expr} {a b : List Stmt} {wc : TD} {wa wb : SD} {pos : Pos} (hc : PDT X c wc) (ha : PSDs X a wa) (hb : PSDs X b wb) : PSD X (.If c a b pos) (sIf wc wa wb) := qs_mk (ps_if hc ha hb) fun S hw k => rdt_W S hw fun b H1 n1 f1 d1 q1 => by
  cases b with
  | true => exact (if_pos rfl).mpr ⟨_, _, _, _, _, _, _, S.step f1 d1, (if_pos rfl).mp q1, k.mono (S.hid f1)⟩
  | false => exact (if_neg Bool.false_ne_true).mpr ⟨_, _, _, _, _, _, _, S.step f1 d1, (if_neg Bool.false_ne_true).mp q1, k.mono (S.hid f1)⟩
def sFor1 (g : GD) (b : SD) : List PyData → SD
  | [] => fun ρ n E => E.nx ρ n
  | x :: xs => fun ρ n E => ∃ ρ', g x ρ = some ρ' ∧ b ρ' n { E with nx := fun ρ2 n2 => sFor1 g b xs ρ2 n2 E, ct := fun ρ2 n2 => sFor1 g b xs ρ2 n2 E, bk := E.nx }
def sFor (it : AD) (g : GD) (b : SD) : SD := fun ρ n E => it ρ n fun xs n1 => sFor1 g b xs ρ n1 E
theorem qs_for {tg iter : Expr} {body : List Stmt} {it : AD} {g : GD} {vs : List Nat} {b : SD} {pos : Pos} (hp : PassesOwn (model X.prog X.w) X.A X.env X.xe) (hc : X.calm = true) (hi : PDI X tg iter it) (hg : PDG X tg vs g) (hb : PSDs X body b)
    (hs : ∀ x, foldedSetIterable iter X.env x = pure x := by intro _; rfl) : PSD X (.For tg iter body [] pos) (sFor it g b) := qs_mk (ps_for hp hc hi hg hb hs) (by
  intro dk OB H0 O H σ ρ n E D S hw k
  refine ⟨dk, OB, H0, O, ρ, n, _, S, hw, fun J H1 n1 xs f1 d1 io q1 => ?_⟩
  have k1 := k.mono (S.hid f1)
  let Wt : Nat → L2.St → Hp → Prop := fun i σ2 H2 => ∃ O2 ρ2 n2, StR X.K dk OB H0 O2 H2 σ2 ρ2 n2 ∧ Same (hid O H1) (hid O2 H2) ∧ sFor1 g b (xs.drop i) ρ2 n2 E
  refine ⟨fun i m σ2 H2 => m = xs.length - i ∧ i ≤ xs.length ∧ Wt i σ2 H2, ⟨xs.length, by simp, Nat.zero_le _, O, ρ, n1, S.step f1 d1, Same.refl _, q1⟩, ?_⟩
  rintro i m σ2 H2 ⟨rfl, hi, O2, ρ2, n2, S2, s2, q2⟩
  have itr := io i O2 H2 s2 S2.dom
  by_cases hlt : i < xs.length
  · obtain ⟨go, yl⟩ := itr.1 hlt
    refine .inr ⟨go, Wt (i + 1), fun σ' H' w => ⟨xs.length - (i + 1), by omega, rfl, hlt, w⟩, fun x H3 y => ?_⟩
    obtain ⟨d, ed, s3, rx⟩ := yl x H3 y
    have ex : xs.drop i = d :: xs.drop (i + 1) := by
      rw [List.drop_eq_getElem_cons hlt]
      congr 1
      rw [List.getElem?_eq_getElem hlt] at ed
      exact Option.some.inj ed
    rw [ex] at q2
    obtain ⟨ρ', eg, q3⟩ := q2
    have S3 := S2.step (FrD.of s3) (S2.dok.same s3)
    have s23 := hid_same (O := O2) s3
    refine ⟨dk, OB, H0, O2, ρ2, n2, d, ρ', S3, rx, eg, fun σ4 b4 S4 => ⟨dk, OB, H0, O2, ρ', n2, _, S4, q3, ?_, k.rt, ?_, ?_⟩⟩
    · exact fun O' H' σ' ρ'' n' S' s' q => ⟨O', ρ'', n', S', (s2.trans s23).trans s', q⟩
    · exact fun O' H' σ' ρ'' n' S' s' q => k1.nx O' H' σ' ρ'' n' S' ((s2.trans s23).trans s') q
    · exact fun O' H' σ' ρ'' n' S' s' q => ⟨O', ρ'', n', S', (s2.trans s23).trans s', q⟩
  · have e : i = xs.length := by omega
    subst e
    rw [List.drop_length] at q2
    exact .inl ⟨itr.2 (Nat.le_refl _), k1.nx O2 H2 σ2 ρ2 n2 S2 s2 q2⟩)
def sNewL (i : Nat) : SD := fun ρ n E => E.nx (ρ.set i (some (.l []))) n
theorem qs_newL {i : Nat} {x : Str} {pos pos' p1 : Pos} (hN : X.N.Nodup) (hi : X.N[i]? = some x) (hx : Loc X.env.scope x) (hs : swapsWith (.List [] p1) (some (.Name x pos')) pos.line X.env = pure false := by rfl)
    (hf : X.fn x = true ∨ X.env.scope.names.lookup x = some .local := by first | exact .inl rfl | exact .inr rfl | assumption) : PSD X (.Assign [.Name x pos'] (.List [] p1) pos) (sNewL i) := qs_mk (ps_set hN hi hx (pe_lst pa_nil) hs hf) fun {dk OB H0 O H σ ρ n E D} S hw k => by
  refine ⟨Nat.zero_le _, fun p np => ?_⟩
  refine k.nx (add O p) _ _ _ n (S.new np (s := .l []) rfl nt_lst ⟨p, [], rfl, add_self, S.fresh np, S.dok.new np, upd_same, .nil⟩) ?_ hw
  rw [hid_add np]
  exact Same.refl _
def sApp (i : Nat) (e : ED) : SD := fun ρ n E => ∃ xs, ρ[i]? = some (some (.l xs)) ∧ e ρ n fun x n1 => xs.length < lim ∧ E.nx (ρ.set i (some (.l (xs ++ [x])))) n1
def sGive (i : Nat) (b : SD) : SD := fun ρ n E => ∃ xs, ρ[i]? = some (some (.l xs)) ∧ b (ρ.set i (some (.d (.list xs)))) n E
theorem qss_give {sts : List Stmt} {b : SD} (i : Nat) (h : PSDs X sts b) : PSDs X sts (sGive i b) := qss_mk h fun {dk OB H0 O H σ ρ n E D} S hw k => by
  obtain ⟨xs, e1, q⟩ := hw
  obtain ⟨v, z1, p, us, rfl, h1, h2, h3, h4, h5⟩ := S.sl _ _ e1
  have sm : Same (My.hid O H) (My.hid (rem O p) H) := hid_sub fun b h => rem_of h
  exact ⟨_, _, _, rem O p, _, n, E, S.give e1 rfl z1 h2 (.lst (hid_at rem_self h4) (RpAll.same sm _ _ h5)), q, k.mono sm⟩
end
structure Car (O : Addr → Bool) (H : Hp) : Prop where
  dom : Dom O H
  own : ∀ b, tA b → O b = true
  tab : TbOk H
def spP (K : PySem.W.Frag) (F : List PyData → Option PyData) : Sp := fun vs H Q _ => ∃ (O : Addr → Bool) (ds : List PyData) (d : PyData), Car O H ∧ RpAll K (hid O H) vs ds ∧ F ds = some d ∧ ∀ v H', FrD none H H' → TbOk H' → Rp K (hid O H') v d → Q v H'
theorem StR.car {K : PySem.W.Frag} {dk : Option DkI} {OB : Addr → Bool} {H0 : Hp} {O : Addr → Bool} {H : Hp} {σ : L2.St} {ρ : DEnv} {n : Nat} (S : StR K dk OB H0 O H σ ρ n) : Car O H := ⟨S.dom, fun b h => S.dO b (.inr h), S.dok.2⟩
theorem pu_fn {K : PySem.W.Frag} {F : List PyData → Option PyData} {ts : TA} {ws : AD} {E : XK} (hs : RdA K ts ws) : RdE K (tCall (spP K F) [] E ts) (eCall F ws) := fun {dk OB H0 O H σ ρ n Q Qd} S hw k =>
  hs S hw fun vs ds H1 n1 f1 d1 r1 ⟨z, ez, q⟩ => ⟨O, ds, z, (S.step f1 d1).car, by rw [List.append_nil]; exact r1, ez, fun v H' f t r => k v z H' n1 (f1.trans f.up) (d1.tab f t) r q⟩
theorem qd_call {X : Cx} {CX : CXT} {k : Nat} {f : Addr} {fd : FuncData} {ps : List Str} {F : List PyData → Option PyData} {x : Str} {e : Expr} {es : List Expr} {ws : AD} {p pos : Pos} {E : XK} (G : FnOk X.prog X.w X.K X.mg X.base CX k f fd ps (spP X.K F)) (hr : Room k X.A) (hg : Gl X x) (hm : X.mg x = some (.ref f))
    (hk : PySem.W.keepIn X.K (.ref f) = true) (hb : Binds X.K fd ps []) (hx : Passes CX X E) (ha : PDA X (e :: es) ws) (hdb : (x == ("__debug__" : Str)) = false := by decide) (he : starEach (e :: es) X.env = (false, eval e X.env) :: starEach es X.env := by rfl) (hpl : (backTo pos (starEach es X.env)).any (·.1) = false := by rfl) :
    PD X (.Call (.Name x p) (e :: es) [] pos) (eCall F ws) := qd_mk (pe_call G hr hg hm hk hb .nil hx ha hdb he hpl) (pu_fn rda_W)
def startD (N : List Str) (ds : List PyData) : DEnv := ds.map (fun d => some (.d d)) ++ List.replicate (N.length - ds.length) none
theorem str_start {K : PySem.W.Frag} {O : Addr → Bool} {H : Hp} {vs : List V} {ds : List PyData} (N : List Str) (d : Car O H) (r : RpAll K (hid O H) vs ds) : StR K none O H O H (L2.start N vs) (startD N ds) 0 where
  len := by
    unfold L2.start startD
    rw [List.length_append, List.length_append, List.length_map, List.length_map, List.length_replicate, List.length_replicate, r.len]
  ob := fun _ h => h
  od := d.dom
  dom := d.dom
  dkO := fun b h => d.own b (h.resolve_left fun ⟨D, e, _⟩ => by cases e)
  fr := FrD.refl H
  dok := ⟨trivial, d.tab⟩
  sl := fun i s e => by
    unfold startD at e
    unfold L2.start
    by_cases l : i < ds.length
    · rw [List.getElem?_append_left (by rw [List.length_map]; exact l), List.getElem?_map] at e
      obtain ⟨x, e1, e2⟩ := Option.map_eq_some_iff.mp e
      cases e2
      obtain ⟨v, z1, z2⟩ := r.at e1
      exact ⟨v, by rw [List.getElem?_append_left (by rw [List.length_map, r.len]; exact l), List.getElem?_map, z1]; rfl, z2⟩
    · rw [List.getElem?_append_right (by rw [List.length_map]; omega), List.getElem?_replicate] at e
      split at e
      · cases e
      · cases e
  dis := fun i j p s s' ne e1 e2 o1 o2 => by
    have z : ∀ {i : Nat} {s : Sv}, (startD N ds)[i]? = some (some s) → s.own = true → False := fun {i s} e o => by
      unfold startD at e
      by_cases l : i < ds.length
      · rw [List.getElem?_append_left (by rw [List.length_map]; exact l), List.getElem?_map] at e
        obtain ⟨x, e1, e2⟩ := Option.map_eq_some_iff.mp e
        cases e2
        cases o
      · rw [List.getElem?_append_right (by rw [List.length_map]; omega), List.getElem?_replicate] at e
        split at e
        · cases e
        · cases e
    exact (z e1 o1).elim
def endD (d : PyData) : EndsD := ⟨fun _ _ => d = .none, fun x _ => x = d, fun _ _ => False, fun _ _ => False⟩
theorem fn_ok {P : Program} {w : World} {K : PySem.W.Frag} {mg : Str → Option Value} {base : Heap} {x qual : Str} {st : Stmt} {f : Addr} {fd : FuncData} {N ps : List Str} {k : Nat} {Fd : List PyData → Option PyData} {W : SD} (F : Fun K x qual st f fd) (S : FnScope N ps (defScope st))
    (hw : ∀ (cdv : Value) (A : Around) (outer : List Env) (s : Shared) (H : Hp) (E : XK), Room k (A.deeper (envOfC qual (defScope st) s.heap.objs.size f cdv)) → PSDs (cxOf CX0 P w K mg base N qual (defScope st) f cdv A outer s H E).nox (defBody st) W)
    (hF : ∀ ds d, Fd ds = some d → ds.length = ps.length ∧ W (startD N ds) 0 (endD d)) : FnOk P w K mg base CX0 (k + 1) f fd ps (spP K Fd) := by
  refine F.ok S (fun vs H Q E h => ?_) (fun cdv A outer s H vs Q E hr h => ?_)
  · obtain ⟨O, ds, d, _, r, e, _⟩ := h
    rw [r.len]
    exact (hF ds d e).1
  · obtain ⟨O, ds, d, dm, r, e, q⟩ := h
    refine ⟨_, hw cdv A outer s H E hr, none, O, H, O, _, 0, endD d, str_start N dm r, (hF ds d e).2, ?_⟩
    refine ⟨fun O' H' σ' ρ' n' S' s' z => ?_, fun v d' H' n' f1 d1 r1 z => ?_, fun _ _ _ _ _ _ _ z => z.elim, fun _ _ _ _ _ _ _ z => z.elim⟩
    · have z' : d = .none := z
      exact q .non H' S'.fr S'.dok.2 (by rw [z']; exact .non)
    · have z' : d' = d := z
      exact q v H' f1 d1.2 (by rw [← z']; exact r1)
end My

namespace My
open PySem PySem.Spec PyProof.Rows L2
variable [TbC]
section
variable {K : PySem.W.Frag}
def addD : PyData → PyData → Option PyData
  | .int i, .int j => some (.int (i + j))
  | .str a, .str b => if a.length + b.length ≤ lim then some (.str (a ++ b)) else none
  | .list xs, .list ys => if xs.length + ys.length ≤ lim then some (.list (xs ++ ys)) else none
  | .tuple xs, .tuple ys => if xs.length + ys.length ≤ lim then some (.tuple (xs ++ ys)) else none
  | _, _ => none
abbrev rAddU (K : PySem.W.Frag) : R2 := fun x y H Q => rI0 (fun i j => .int (i + j)) x y H Q ∨ (∃ i j, x = .str i ∧ y = .str j ∧ i.length + j.length ≤ sizeLine ∧ Q (.str (i ++ j)) H) ∨ rCat x y H Q ∨ rCatK K x y H Q
omit [TbC] in
theorem op_addU {X : Cx} : OpR X (binaryOp .Add) (rAddU X.K) := op_add.or (op_add_str.or (op_cat.or op_catK))
omit [TbC] in
theorem ite_some {α : Type} {c : Prop} [Decidable c] {a b : α} (h : (if c then some a else none) = some b) : c ∧ a = b := by
  by_cases k : c
  · rw [if_pos k] at h
    exact ⟨k, Option.some.inj h⟩
  · rw [if_neg k] at h
    cases h
omit [TbC] in
theorem pu_add : Pu2 K (rAddU K) addD := by
  intro O H x y dx dy dz Q dm rx ry e k
  cases dx with
  | int i =>
    cases dy with
    | int j =>
      cases rx
      cases ry
      cases e
      exact .inl ⟨i, j, rfl, rfl, k _ H (Same.refl H) (.int _)⟩
    | _ => cases e
  | str a =>
    cases dy with
    | str b =>
      cases rx
      cases ry
      obtain ⟨c, e⟩ := ite_some e
      subst e
      exact .inr (.inl ⟨a, b, rfl, rfl, Nat.le_trans c lim_le, k _ H (Same.refl H) (.str _)⟩)
    | _ => cases e
  | list xs =>
    cases dy with
    | list ys =>
      obtain ⟨c, e⟩ := ite_some e
      subst e
      cases rx with
      | lst h1 a1 =>
      cases ry with
      | lst h2 a2 =>
      refine .inr (.inr (.inl ⟨_, _, _, _, rfl, rfl, hid_le _ _ h1, hid_le _ _ h2, by rw [a1.len, a2.len]; exact Nat.le_trans c lim_le, fun p np => ?_⟩))
      exact k _ _ (same_new np) (.lst (hid_new dm np) (RpAll.same (hid_same (same_new np)) _ _ (RpAll.app a1 a2)))
    | _ => cases e
  | tuple xs =>
    cases dy with
    | tuple ys =>
      obtain ⟨c, e⟩ := ite_some e
      subst e
      have rx' := rx
      have ry' := ry
      cases rx with
      | @tup ax us _ h1 a1 _ =>
      cases ry with
      | @tup ay ws _ h2 a2 _ =>
      refine .inr (.inr (.inr ⟨_, _, us, ws, rfl, rfl, same_seqT hid_le h1, same_seqT hid_le h2, by rw [a1.len, a2.len]; exact Nat.le_trans c lim_le, fun z => ?_, fun _ z => ?_, fun _ _ p o np kt => ?_⟩))
      · subst z
        cases a1
        exact k _ H (Same.refl H) ry'
      · subst z
        cases a2
        rw [List.append_nil] at k
        exact k _ H (Same.refl H) rx'
      · exact k _ _ (same_new np) (.tup (kt.rd (hid_new dm np)) (RpAll.same (hid_same (same_new np)) _ _ (RpAll.app a1 a2)) fun _ => kt.pl (hid_new dm np))
    | _ => cases e
  | _ => cases e
omit [TbC] in
theorem pu_int {g : Int → Int → V} {f : PyData → PyData → Option PyData} (h : ∀ dx dy dz, f dx dy = some dz → ∃ i j, dx = .int i ∧ dy = .int j ∧ ∀ H, Rp K H (g i j) dz) : Pu2 K (rI0 g) f := by
  intro O H x y dx dy dz Q dm rx ry e k
  obtain ⟨i, j, rfl, rfl, hr⟩ := h _ _ _ e
  cases rx
  cases ry
  exact ⟨i, j, rfl, rfl, k _ H (Same.refl H) (hr _)⟩
def ltD (p : Int → Int → Bool) : PyData → PyData → Option PyData
  | .int i, .int j => some (.bool (p i j))
  | _, _ => none
omit [TbC] in
theorem pu_cmp {p : Int → Int → Bool} : Pu2 K (rI0 fun i j => .bl (p i j)) (ltD p) := pu_int fun dx dy dz e => by
  cases dx <;> cases dy <;> cases e
  exact ⟨_, _, rfl, rfl, fun _ => .bl _⟩
def notB : PyData → PyData
  | .bool b => .bool (!b)
  | x => x
def eqD (x y : PyData) : Option PyData := match x, y with
  | .str a, .str b => some (.bool (decide (a = b)))
  | .int a, .int b => some (.bool (decide (a = b)))
  | .bool a, .bool b => some (.bool (decide (a = b)))
  | .none, .none => some (.bool true)
  | x, y => if flatD x = true ∧ flatD y = true ∧ SeqAt.shaped x = true ∧ SeqAt.shaped y = true then some (.bool (PyData.eqv x y)) else none
def neD (x y : PyData) : Option PyData := (eqD x y).map notB
abbrev rEqU (K : PySem.W.Frag) : R2 := fun x y H Q => rEq x y H Q ∨ rEqD K x y H Q
abbrev rNeU (K : PySem.W.Frag) : R2 := fun x y H Q => rNe x y H Q ∨ rNeD K x y H Q
omit [TbC] in
theorem op_eqU {X : Cx} (hu : X.A.units + 64 < cLine) : OpR X (compareOp .Eq) (rEqU X.K) := op_eq.or (op_eqD hu)
omit [TbC] in
theorem op_neU {X : Cx} (hu : X.A.units + 64 < cLine) : OpR X (compareOp .NotEq) (rNeU X.K) := op_ne.or (op_neD hu)
omit [TbC] in
theorem eq_cases {O : Addr → Bool} {H : Hp} {x y : V} {dx dy dz : PyData} (rx : Rp K (hid O H) x dx) (ry : Rp K (hid O H) y dy) (e : eqD dx dy = some dz) :
    (∃ b, dz = .bool b ∧ scal x y = true ∧ decide (x = y) = b) ∨ (∃ b, dz = .bool b ∧ Dp K H x dx ∧ Dp K H y dy ∧ SeqAt.shaped dx = true ∧ SeqAt.shaped dy = true ∧ PyData.eqv dx dy = b) := by
  have gen : (if flatD dx = true ∧ flatD dy = true ∧ SeqAt.shaped dx = true ∧ SeqAt.shaped dy = true then some (PyData.bool (PyData.eqv dx dy)) else none) = some dz → ∃ b, dz = .bool b ∧ Dp K H x dx ∧ Dp K H y dy ∧ SeqAt.shaped dx = true ∧ SeqAt.shaped dy = true ∧ PyData.eqv dx dy = b := fun z => by
    obtain ⟨⟨c1, c2, c3, c4⟩, z⟩ := ite_some z
    exact ⟨_, z.symm, Rp.dp _ _ c1 (Rp.same hid_le _ _ rx), Rp.dp _ _ c2 (Rp.same hid_le _ _ ry), c3, c4, rfl⟩
  cases dx <;> cases dy <;> first
    | exact .inr (gen e)
    | (cases rx; cases ry; cases e; refine .inl ⟨_, rfl, rfl, ?_⟩; first | rfl | simp)
omit [TbC] in
theorem pu_eq : Pu2 K (rEqU K) eqD := by
  intro O H x y dx dy dz Q dm rx ry e k
  rcases eq_cases rx ry e with ⟨b, rfl, s, z⟩ | ⟨b, rfl, h1, h2, h3, h4, z⟩
  · refine .inl ⟨s, ?_⟩
    rw [z]
    exact k _ H (Same.refl H) (.bl b)
  · refine .inr ⟨dx, dy, h1, h2, h3, h4, ?_⟩
    rw [z]
    exact k _ H (Same.refl H) (.bl b)
omit [TbC] in
theorem pu_ne : Pu2 K (rNeU K) neD := by
  intro O H x y dx dy dz Q dm rx ry e k
  obtain ⟨dw, ew, e⟩ := Option.map_eq_some_iff.mp e
  subst e
  rcases eq_cases rx ry ew with ⟨b, rfl, s, z⟩ | ⟨b, rfl, h1, h2, h3, h4, z⟩
  · refine .inl ⟨s, ?_⟩
    rw [z]
    exact k _ H (Same.refl H) (.bl _)
  · refine .inr ⟨dx, dy, h1, h2, h3, h4, ?_⟩
    rw [z]
    exact k _ H (Same.refl H) (.bl _)
def isNoneD : PyData → Bool
  | .none => true
  | _ => false
def isND (neg : Bool) (x y : PyData) : Option PyData := match y with
  | .none => some (.bool (if neg then !isNoneD x else isNoneD x))
  | _ => none
omit [TbC] in
theorem rp_non {H : Hp} {x : V} {d : PyData} (h : Rp K H x d) : decide (x = .non) = isNoneD d := by
  cases h <;> first | rfl | (exact decide_eq_false (fun z => by cases z))
omit [TbC] in
theorem pu_isN : Pu2 K (fun x y H Q => y = .non ∧ Q (.bl (decide (x = .non))) H) (isND false) := by
  intro O H x y dx dy dz Q dm rx ry e k
  cases dy <;> cases e
  cases ry
  refine ⟨rfl, ?_⟩
  rw [rp_non rx]
  exact k _ H (Same.refl H) (.bl _)
omit [TbC] in
theorem pu_notN : Pu2 K (fun x y H Q => y = .non ∧ Q (.bl (!decide (x = .non))) H) (isND true) := by
  intro O H x y dx dy dz Q dm rx ry e k
  cases dy <;> cases e
  cases ry
  refine ⟨rfl, ?_⟩
  rw [rp_non rx]
  exact k _ H (Same.refl H) (.bl _)
def scalD : PyData → Bool
  | .none => true
  | .bool _ => true
  | .int _ => true
  | .str _ => true
  | _ => false
def eqS : PyData → PyData → Bool
  | .none, .none => true
  | .bool a, .bool b => a == b
  | .bool a, .int b => (if a then 1 else 0) == b
  | .int a, .bool b => a == (if b then 1 else 0)
  | .int a, .int b => a == b
  | .str a, .str b => a == b
  | _, _ => false
def deepD (x y : PyData) : Bool := flatD x && flatD y && SeqAt.shaped x && SeqAt.shaped y
def inDs (neg : Bool) (x : PyData) (ys : List PyData) (y : PyData) : Option PyData := if scalD x = true ∧ ys.all scalD = true then some (.bool (if neg then !ys.any (fun z => eqS z x) else ys.any (fun z => eqS z x))) else
      if deepD x y = true then some (.bool (if neg then !ys.any (fun z => PyData.eqv z x) else ys.any fun z => PyData.eqv z x)) else none
def inD (neg : Bool) (x y : PyData) : Option PyData := match y with
  | .list ys => inDs neg x ys (.list ys)
  | .tuple ys => inDs neg x ys (.tuple ys)
  | .str z => match x with
    | .str a => if a.cps.size = 1 then some (.bool (if neg then !decide (a.cps.getD 0 0 ∈ z.cps.toList) else decide (a.cps.getD 0 0 ∈ z.cps.toList))) else none
    | _ => none
  | _ => none
omit [TbC] in
theorem rp_flat {H : Hp} {x : V} {d : PyData} (h : Rp K H x d) : flatV x = scalD d := by cases h <;> rfl
omit [TbC] in
theorem rps_flat {H : Hp} : ∀ {xs : List V} {ds : List PyData}, RpAll K H xs ds → xs.all flatV = ds.all scalD
  | _, _, .nil => rfl
  | _, _, .cons h t => by rw [List.all_cons, List.all_cons, rp_flat h, rps_flat t]
omit [TbC] in
theorem rp_eqV {H : Hp} {x y : V} {d e : PyData} (h : Rp K H x d) (g : Rp K H y e) : eqV x y = eqS d e := by
  cases h <;> cases g <;> rfl
omit [TbC] in
theorem rps_in {H : Hp} {x : V} {d : PyData} (h : Rp K H x d) : ∀ {xs : List V} {ds : List PyData}, RpAll K H xs ds → inV x xs = ds.any fun z => eqS z d
  | _, _, .nil => rfl
  | _, _, .cons g t => by
    have ih := rps_in h t
    unfold inV at ih ⊢
    rw [List.any_cons, List.any_cons, rp_eqV g h, ih]
def rDp (K : PySem.W.Frag) (neg : Bool) : R2 := fun x y H Q => ∃ d e ds, (e = .list ds ∨ e = .tuple ds) ∧ Dp K H x d ∧ Dp K H y e ∧ SeqAt.shaped d = true ∧ SeqAt.shaped e = true ∧ Q (.bl (if neg then !ds.any (fun z => PyData.eqv z d) else ds.any fun z => PyData.eqv z d)) H
abbrev rInU (K : PySem.W.Frag) : R2 := fun x y H Q => rIn K false x y H Q ∨ (∃ (c : Nat) (z : Str), x = .str ⟨#[c]⟩ ∧ y = .str z ∧ Q (.bl (decide (c ∈ z.cps.toList))) H) ∨ rDp K false x y H Q
abbrev rNotInU (K : PySem.W.Frag) : R2 := fun x y H Q => rIn K true x y H Q ∨ (∃ (c : Nat) (z : Str), x = .str ⟨#[c]⟩ ∧ y = .str z ∧ Q (.bl (!decide (c ∈ z.cps.toList))) H) ∨ rDp K true x y H Q
omit [TbC] in
theorem str_one {a : Str} (h : a.cps.size = 1) : a = ⟨#[a.cps.getD 0 0]⟩ := by
  obtain ⟨c⟩ := a
  obtain ⟨l⟩ := c
  match l, h with
  | [c], _ => rfl
omit [TbC] in
theorem seq_in {O : Addr → Bool} {H : Hp} {a : Addr} {us : List V} {ys : List PyData} {x : V} {dx : PyData} {neg : Bool} {Q : VK} (hs : SqL K H a us ∨ SqT K H a us) (ha : RpAll K (hid O H) us ys) (rx : Rp K (hid O H) x dx) (c : scalD dx = true ∧ ys.all scalD = true)
    (k : Q (.bl (if neg then !ys.any (fun z => eqS z dx) else ys.any (fun z => eqS z dx))) H) : rIn K neg x (.ref a) H Q := by
  refine ⟨a, us, rfl, hs, by rw [rp_flat rx]; exact c.1, by rw [rps_flat ha]; exact c.2, ?_⟩
  rw [rps_in rx ha]
  exact k
end
section
variable {X : Cx} {K : PySem.W.Frag}
omit [TbC] in
theorem op_inU (hu : X.A.units + 65 < cLine) : OpR X (compareOp .In) (rInU X.K) := op_in_seq.or (op_in_sign.or (by
  intro pins s σ H x y v u Q I rx ry h
  obtain ⟨d, e, ds, ee, hd, he, sd, se, q⟩ := h
  obtain ⟨as, r1⟩ := Dp.reads I d x v hd rx
  rcases ee with rfl | rfl
  · obtain ⟨bs, r2⟩ := Dp.reads I (.list ds) y u he ry
    exact SeqAt.in_list_reads r2 r1 (SeqAt.canLay_of_shaped se) (SeqAt.canLay_of_shaped sd) (room_in_shaped sd hu) ⟨.bl _, H, I, rfl, q⟩
  · obtain ⟨bs, r2⟩ := Dp.reads I (.tuple ds) y u he ry
    exact SeqAt.in_tuple_reads r2 r1 (SeqAt.canLay_of_shaped se) (SeqAt.canLay_of_shaped sd) (room_in_shaped sd hu) ⟨.bl _, H, I, rfl, q⟩))
omit [TbC] in
theorem op_notInU (hu : X.A.units + 65 < cLine) : OpR X (compareOp .NotIn) (rNotInU X.K) := op_notIn_seq.or (op_notIn_sign.or (by
  intro pins s σ H x y v u Q I rx ry h
  obtain ⟨d, e, ds, ee, hd, he, sd, se, q⟩ := h
  obtain ⟨as, r1⟩ := Dp.reads I d x v hd rx
  rcases ee with rfl | rfl
  · obtain ⟨bs, r2⟩ := Dp.reads I (.list ds) y u he ry
    exact SeqAt.notIn_list_reads r2 r1 (SeqAt.canLay_of_shaped se) (SeqAt.canLay_of_shaped sd) (room_in_shaped sd hu) ⟨.bl _, H, I, rfl, q⟩
  · obtain ⟨bs, r2⟩ := Dp.reads I (.tuple ds) y u he ry
    exact SeqAt.notIn_tuple_reads r2 r1 (SeqAt.canLay_of_shaped se) (SeqAt.canLay_of_shaped sd) (room_in_shaped sd hu) ⟨.bl _, H, I, rfl, q⟩))
omit [TbC] in
theorem deep_is {x y : PyData} (h : deepD x y = true) : flatD x = true ∧ flatD y = true ∧ SeqAt.shaped x = true ∧ SeqAt.shaped y = true := by
  unfold deepD at h
  simp only [Bool.and_eq_true] at h
  exact ⟨h.1.1.1, h.1.1.2, h.1.2, h.2⟩
omit [TbC] in
theorem inDs_is {neg : Bool} {O : Addr → Bool} {H : Hp} {x y : V} {dx dy dz : PyData} {ys : List PyData} {a : Addr} {us : List V} {Q : VK} (ey : y = .ref a) (ed : dy = .list ys ∨ dy = .tuple ys) (hs : SqL K H a us ∨ SqT K H a us) (ha : RpAll K (hid O H) us ys) (rx : Rp K (hid O H) x dx) (ry : Rp K (hid O H) y dy)
    (e : inDs neg dx ys dy = some dz) (k : ∀ v H', Same H H' → Rp K (hid O H') v dz → Q v H') : rIn K neg x y H Q ∨ rDp K neg x y H Q := by
  subst ey
  unfold inDs at e
  by_cases c : scalD dx = true ∧ ys.all scalD = true
  · rw [if_pos c] at e
    cases e
    exact .inl (seq_in hs ha rx c (k _ H (Same.refl H) (.bl _)))
  · rw [if_neg c] at e
    obtain ⟨c, e⟩ := ite_some e
    subst e
    obtain ⟨c2, c3, c4, c5⟩ := deep_is c
    exact .inr ⟨dx, dy, ys, ed, Rp.dp _ _ c2 (Rp.same hid_le _ _ rx), Rp.dp _ _ c3 (Rp.same hid_le _ _ ry), c4, c5, k _ H (Same.refl H) (.bl _)⟩
omit [TbC] in
theorem pu_in : Pu2 K (rInU K) (inD false) := by
  intro O H x y dx dy dz Q dm rx ry e k
  cases dy with
  | list ys =>
    have ry' := ry
    cases ry with
    | lst h1 a1 => exact (inDs_is rfl (.inl rfl) (.inl (.inl (.inl (hid_le _ _ h1)))) a1 rx ry' e k).imp id .inr
  | tuple ys =>
    have ry' := ry
    cases ry with
    | tup h1 a1 _ => exact (inDs_is rfl (.inr rfl) (.inr (same_seqT hid_le h1)) a1 rx ry' e k).imp id .inr
  | str z =>
    cases dx with
    | str a =>
      cases rx
      cases ry
      obtain ⟨c, e⟩ := ite_some e
      subst e
      exact .inr (.inl ⟨a.cps.getD 0 0, z, by rw [← str_one c], rfl, k _ H (Same.refl H) (.bl _)⟩)
    | _ => cases e
  | _ => cases e
omit [TbC] in
theorem pu_notIn : Pu2 K (rNotInU K) (inD true) := by
  intro O H x y dx dy dz Q dm rx ry e k
  cases dy with
  | list ys =>
    have ry' := ry
    cases ry with
    | lst h1 a1 => exact (inDs_is rfl (.inl rfl) (.inl (.inl (.inl (hid_le _ _ h1)))) a1 rx ry' e k).imp id .inr
  | tuple ys =>
    have ry' := ry
    cases ry with
    | tup h1 a1 _ => exact (inDs_is rfl (.inr rfl) (.inr (same_seqT hid_le h1)) a1 rx ry' e k).imp id .inr
  | str z =>
    cases dx with
    | str a =>
      cases rx
      cases ry
      obtain ⟨c, e⟩ := ite_some e
      subst e
      exact .inr (.inl ⟨a.cps.getD 0 0, z, by rw [← str_one c], rfl, k _ H (Same.refl H) (.bl _)⟩)
    | _ => cases e
  | _ => cases e
def ixD (x y : PyData) : Option PyData := match y with
  | .int i => match x with
    | .list xs => atI xs i
    | .tuple xs => atI xs i
    | .str z => if z.length ≤ lim then (atI z.cps.toList i).map fun c => .str ⟨#[c]⟩ else none
    | _ => none
  | _ => none
omit [TbC] in
theorem rps_atI {H : Hp} {us : List V} {xs : List PyData} {i : Int} {d : PyData} (h : RpAll K H us xs) (e : atI xs i = some d) : ∃ v, atI us i = some v ∧ Rp K H v d := by
  unfold atI at e ⊢
  obtain ⟨j, e1, e2⟩ := Option.bind_eq_some_iff.mp e
  obtain ⟨v, z1, z2⟩ := h.at e2
  exact ⟨v, by rw [h.len, e1]; exact z1, z2⟩
omit [TbC] in
theorem pu_ix : Pu2 K (rIx K) ixD := by
  intro O H x y dx dy dz Q dm rx ry e k
  cases dy with
  | int i =>
    cases ry
    cases dx with
    | list xs =>
      cases rx with
      | lst h1 a1 =>
      obtain ⟨v, z1, z2⟩ := rps_atI a1 e
      exact .inl ⟨_, _, i, v, rfl, rfl, .inl (.inl (hid_le _ _ h1)), z1, k v H (Same.refl H) z2⟩
    | tuple xs =>
      cases rx with
      | tup h1 a1 _ =>
      obtain ⟨v, z1, z2⟩ := rps_atI a1 e
      exact .inr (.inl ⟨_, _, i, v, rfl, rfl, same_seqT hid_le h1, z1, k v H (Same.refl H) z2⟩)
    | str z =>
      cases rx
      have e' : (if z.length ≤ lim then (atI z.cps.toList i).map fun c => PyData.str ⟨#[c]⟩ else none) = some dz := e
      by_cases c : z.length ≤ lim
      · rw [if_pos c] at e'
        obtain ⟨c0, e1, e2⟩ := Option.map_eq_some_iff.mp e'
        subst e2
        exact .inr (.inr ⟨z, i, c0, rfl, rfl, Nat.le_trans c lim_le, e1, k _ H (Same.refl H) (.str _)⟩)
      · rw [if_neg c] at e'
        cases e'
    | _ => cases e
  | _ => cases e
def cutD (xs : List PyData) (lo hi : Option Int) : List PyData := (xs.drop (HT.sIx xs.length 0 lo)).take (HT.sIx xs.length xs.length hi - HT.sIx xs.length 0 lo)
def slD (x : PyData) (lo hi : Option Int) : Option PyData := match x with
  | .list xs => some (.list (cutD xs lo hi))
  | .tuple xs => some (.tuple (cutD xs lo hi))
  | .str z => if z.length ≤ lim then some (.str (cutS z lo hi)) else none
  | _ => none
omit [TbC] in
theorem rps_cut {H : Hp} {us : List V} {xs : List PyData} (h : RpAll K H us xs) (lo hi : Option Int) : RpAll K H (cutV us lo hi) (cutD xs lo hi) := by
  unfold cutV cutD
  rw [h.len]
  exact (h.drop _).take _
abbrev rSlU (K : PySem.W.Frag) : V → Option Int → Option Int → Hp → VK → Prop := fun x lo hi H Q => rSlL K x lo hi H Q ∨ rSlK K x lo hi H Q ∨ rSlS x lo hi H Q
theorem sl_U : L2.SlR X (rSlU X.K) := sl_list.or (sl_tupK.or sl_str)
omit [TbC] in
theorem pu_sl : PuS K (rSlU K) slD := by
  intro O H x dx lo hi dz Q dm rx e k
  cases dx with
  | list xs =>
    cases e
    cases rx with
    | lst h1 a1 =>
    exact .inl ⟨_, _, rfl, .inl (.inl (hid_le _ _ h1)), fun p np => k _ _ (same_new np) (.lst (hid_new dm np) (RpAll.same (hid_same (same_new np)) _ _ (rps_cut a1 lo hi)))⟩
  | tuple xs =>
    cases e
    have rx' := rx
    cases rx with
    | @tup a us _ h1 a1 _ =>
    refine .inr (.inl ⟨_, us, rfl, same_seqT hid_le h1, fun c => ?_, fun _ p o np kt => k _ _ (same_new np) (.tup (kt.rd (hid_new dm np)) (RpAll.same (hid_same (same_new np)) _ _ (rps_cut a1 lo hi)) fun _ => kt.pl (hid_new dm np))⟩)
    have e : cutD xs lo hi = xs := by
      unfold cutD
      rw [← a1.len, c.1, c.2, a1.len, List.drop_zero, Nat.sub_zero, List.take_length]
    rw [e] at k
    exact k _ H (Same.refl H) rx'
  | str z =>
    cases rx
    obtain ⟨c, e⟩ := ite_some e
    subst e
    exact .inr (.inr ⟨z, rfl, Nat.le_trans c lim_le, k _ H (Same.refl H) (.str _)⟩)
  | _ => cases e
def lenD : List PyData → Option PyData
  | [.list xs] => some (.int xs.length)
  | [.tuple xs] => some (.int xs.length)
  | [.str z] => if z.length ≤ lim then some (.int z.length) else none
  | _ => none
abbrev rLenU (K : PySem.W.Frag) : List V → Hp → VK → Prop := fun xs H Q => (∃ p ys, xs = [.ref p] ∧ (SqL K H p ys ∨ SqT K H p ys) ∧ Q (.int ys.length) H) ∨ ∃ z, xs = [.str z] ∧ z.length ≤ sizeLine ∧ Q (.int z.length) H
omit [TbC] in
theorem CallR.or {f : Value} {r r' : List V → Hp → VK → Prop} (h : CallR X f r) (h' : CallR X f r') : CallR X f (fun xs H Q => r xs H Q ∨ r' xs H Q) := by
  intro pins s σ H xs us Q I rx q
  rcases q with q | q
  · exact h pins s σ H xs us Q I rx q
  · exact h' pins s σ H xs us Q I rx q
omit [TbC] in
theorem cr_lenU : CallR X (.builtin "len") (rLenU X.K) := CallR.or call_len_seq call_len_str
omit [TbC] in
theorem rps1 {H : Hp} {us : List V} {d : PyData} (h : RpAll K H us [d]) : ∃ v, us = [v] ∧ Rp K H v d := by
  cases h with
  | cons a b =>
    cases b
    exact ⟨_, rfl, a⟩
omit [TbC] in
theorem pu_len : PuN K (rLenU K) lenD := by
  intro O H xs ds dz Q dm r e k
  match ds, e with
  | [.list ys], e =>
    cases e
    obtain ⟨v, rfl, r1⟩ := rps1 r
    cases r1 with
    | lst h1 a1 => exact .inl ⟨_, _, rfl, .inl (.inl (.inl (hid_le _ _ h1))), by rw [a1.len]; exact k _ H (Same.refl H) (.int _)⟩
  | [.tuple ys], e =>
    cases e
    obtain ⟨v, rfl, r1⟩ := rps1 r
    cases r1 with
    | tup h1 a1 _ => exact .inl ⟨_, _, rfl, .inr (same_seqT hid_le h1), by rw [a1.len]; exact k _ H (Same.refl H) (.int _)⟩
  | [.str z], e =>
    obtain ⟨c, e⟩ := ite_some e
    subst e
    obtain ⟨v, rfl, r1⟩ := rps1 r
    cases r1
    exact .inr ⟨z, rfl, Nat.le_trans c lim_le, k _ H (Same.refl H) (.int _)⟩
def tupD1 : List PyData → Option PyData
  | [.list xs] => some (.tuple xs)
  | [.tuple xs] => some (.tuple xs)
  | _ => none
omit [TbC] in
theorem cr_tupU {X : Cx} : CallR X (.type "tuple") (rTupU X.K) := CallR.or call_tupK call_tupleT
omit [TbC] in
theorem pu_tuple : PuN K (rTupU K) tupD1 := by
  intro O H xs ds dz Q dm r e k
  match ds, e with
  | [.list ys], e =>
    cases e
    obtain ⟨v, rfl, r1⟩ := rps1 r
    cases r1 with
    | lst h1 a1 => exact .inl ⟨_, _, rfl, .inl (.inl (hid_le _ _ h1)), fun p o np kt => k _ _ (same_new np) (.tup (kt.rd (hid_new dm np)) (RpAll.same (hid_same (same_new np)) _ _ a1) fun _ => kt.pl (hid_new dm np))⟩
  | [.tuple ys], e =>
    cases e
    obtain ⟨v, rfl, r1⟩ := rps1 r
    have r2 := r1
    cases r1 with
    | tup h1 a1 _ => exact .inr ⟨_, _, rfl, same_seqT hid_le h1, k _ H (Same.refl H) r2⟩
def boolsD : List PyData → Option (List Bool)
  | [] => some []
  | .bool b :: r => (boolsD r).map (b :: ·)
  | _ => none
omit [TbC] in
theorem rps_bools {H : Hp} : ∀ {us : List V} {ds : List PyData} {bs : List Bool}, RpAll K H us ds → boolsD ds = some bs → us = bs.map V.bl
  | _, _, _, .nil, e => by cases e; rfl
  | _, _, _, .cons (d := d) h t, e => by
    cases d with
    | bool b =>
      obtain ⟨r, e1, e2⟩ := Option.map_eq_some_iff.mp e
      subst e2
      cases h
      rw [rps_bools t e1, List.map_cons]
    | _ => cases e
def anyD : List PyData → Option PyData
  | [.list xs] => (boolsD xs).map fun bs => .bool (bs.any id)
  | _ => none
def allD : List PyData → Option PyData
  | [.list xs] => (boolsD xs).map fun bs => .bool (bs.all id)
  | _ => none
omit [TbC] in
theorem pu_any : PuN K (rAny K) anyD := by
  intro O H xs ds dz Q dm r e k
  match ds, e with
  | [.list ys], e =>
    obtain ⟨bs, e1, e2⟩ := Option.map_eq_some_iff.mp e
    subst e2
    obtain ⟨v, rfl, r1⟩ := rps1 r
    cases r1 with
    | lst h1 a1 => exact ⟨_, bs, rfl, .inl (.inl (by rw [← rps_bools a1 e1]; exact hid_le _ _ h1)), k _ H (Same.refl H) (.bl _)⟩
omit [TbC] in
theorem pu_all : PuN K (rAll K) allD := by
  intro O H xs ds dz Q dm r e k
  match ds, e with
  | [.list ys], e =>
    obtain ⟨bs, e1, e2⟩ := Option.map_eq_some_iff.mp e
    subst e2
    obtain ⟨v, rfl, r1⟩ := rps1 r
    cases r1 with
    | lst h1 a1 => exact ⟨_, bs, rfl, .inl (.inl (by rw [← rps_bools a1 e1]; exact hid_le _ _ h1)), k _ H (Same.refl H) (.bl _)⟩
def tyS : PyData → String
  | .none => "NoneType"
  | .bool _ => "bool"
  | .int _ => "int"
  | .str _ => "str"
  | .list _ => "list"
  | .tuple _ => "tuple"
  | .dict _ => "dict"
omit [TbC] in
theorem tyS_of {H : Hp} {v : V} {d : PyData} (nd : (match d with | .dict _ => false | _ => true) = true) (h : Rp K H v d) : TyX K H v (.type (tyS d)) := by
  cases h with
  | non => exact .base .non
  | bl b => exact .base (.bl b)
  | int i => exact .base (.int i)
  | str x => exact .base (.str x)
  | lst hs _ => exact .base (.lst hs)
  | tup hs _ _ =>
    rcases hs with (hs | ⟨o, hs⟩) | ⟨o, its, n, hk, hc, _⟩
    · exact .base (.tup hs)
    · exact .fTuple hs
    · exact .kTuple hk hc
  | dic hs _ => exact absurd nd Bool.false_ne_true
structure IsT (K : PySem.W.Frag) (T : String) (c : String → Bool) : Prop where
  h0 : PySem.W.kitOne K (.type "NoneType") (.type T) = some (c "NoneType")
  h1 : PySem.W.kitOne K (.type "bool") (.type T) = some (c "bool")
  h2 : PySem.W.kitOne K (.type "int") (.type T) = some (c "int")
  h3 : PySem.W.kitOne K (.type "str") (.type T) = some (c "str")
  h4 : PySem.W.kitOne K (.type "list") (.type T) = some (c "list")
  h5 : PySem.W.kitOne K (.type "tuple") (.type T) = some (c "tuple")
def noDict : PyData → Bool
  | .dict _ => false
  | _ => true
def eIsi (c : String → Bool) (w : ED) : ED := fun ρ n Q => w ρ n fun x n1 => noDict x = true ∧ Q (.bool (c (tyS x))) n1
theorem qd_isi {T : String} {c : String → Bool} {e : Expr} {w : ED} {x : Str} {p p2 pos : Pos} (k : IsT X.K T c) (hg : Gl X "isinstance") (hm : X.mg "isinstance" = none) (he : PD X e w) (hgT : Gl X x) (hmT : X.mg x = none) (hvT : bootBuiltins x = some (.type T)) (hn : x ≠ "__name__" := by decide) (hd : (x == ("__debug__" : Str)) = false := by decide)
    (h1 : starEach [e, .Name x p2] X.env = (false, eval e X.env) :: starEach [.Name x p2] X.env := by rfl) (h2 : starEach [.Name x p2] X.env = (false, eval (.Name x p2) X.env) :: starEach [] X.env := by rfl)
    (hpl : (backTo pos (starEach [.Name x p2] X.env)).any (·.1) = false := by rfl) : PD X (.Call (.Name "isinstance" p) [e, .Name x p2] [] pos) (eIsi c w) :=
  qd_mk (pe_callB call_isi hg hm PyProof.Rows.boot_isinstance (pa_cons he (pa_cons (pe_bltn (v := .ty T) hgT hmT hvT rfl hn hd) pa_nil h2) h1) (he := h1) (hpl := hpl)) fun S hw kk => rd_W S hw fun v d H1 n1 f1 d1 r1 ⟨nd, q⟩ => by
    refine ⟨v, .ty T, .type (tyS d), .type T, c (tyS d), rfl, .ty _, tyS_of (by cases d <;> first | rfl | exact nd) (Rp.same hid_le _ _ r1), ?_, kk _ _ H1 n1 f1 d1 (.bl _) q⟩
    cases d with
    | none => exact k.h0
    | bool _ => exact k.h1
    | int _ => exact k.h2
    | str _ => exact k.h3
    | list _ => exact k.h4
    | tuple _ => exact k.h5
    | dict _ => cases nd
end
end My

namespace My
open PySem PySem.Spec PyProof.Rows L2
variable [TbC]
omit [TbC] in
theorem Room.u65 {k : Nat} {A : Around} (r : Room k A) : A.units + 65 < cLine := by
  have := r.un
  omega
def eChain (f g : PyData → PyData → Option PyData) (a b c : ED) : ED := fun ρ n Q => a ρ n fun x n1 => b ρ n1 fun y n2 => ∃ k, f x y = some (.bool k) ∧ if k = true then c ρ n2 fun w n3 => ∃ z, g y w = some z ∧ Q z n3 else Q (.bool false) n2
section
variable {X : Cx} {K : PySem.W.Frag}
theorem rd_chain {r r' : R2} {f g : PyData → PyData → Option PyData} {a b c : ED} (h : Pu2 K r f) (h' : Pu2 K r' g) : RdE K (tChain r r' (tW K a) (tW K b) (tW K c)) (eChain f g a b c) := fun S hw k =>
  rd_W S hw fun v d H1 n1 f1 d1 r1 q1 => rd_W (S.step f1 d1) q1 fun u e H2 n2 f2 d2 r2 ⟨kb, ek, q2⟩ =>
    h (S.step (f1.trans f2) d2).dom (Rp.same (hid_fr S.dO f2) _ _ r1) r2 ek fun z H3 s3 rz => by
      cases rz
      refine ⟨kb, rfl, ?_⟩
      have f3 := (f1.trans f2).trans (FrD.of (dk := _) s3)
      have d3 := d2.same s3
      cases kb with
      | true => exact (if_pos rfl).mpr (rd_W (S.step f3 d3) ((if_pos rfl).mp q2) fun w e4 H4 n4 f4 d4 r4 ⟨z, ez, q4⟩ =>
          h' (S.step (f3.trans f4) d4).dom (Rp.same (hid_fr S.dO ((FrD.of s3).trans f4)) _ _ r2) r4 ez fun v' H' s r => k _ _ H' n4 ((f3.trans f4).trans (FrD.of s)) (d4.same s) r q4)
      | false => exact (if_neg Bool.false_ne_true).mpr (k _ _ H3 n2 f3 d3 (.bl false) ((if_neg Bool.false_ne_true).mp q2))
theorem qd_chain {op op' : CmpOp} {r r' : R2} {f g : PyData → PyData → Option PyData} {a b c : Expr} {wa wb wc : ED} {pos : Pos} (ho : OpR X (compareOp op) r) (h : Pu2 X.K r f) (ho' : OpR X (compareOp op') r') (h' : Pu2 X.K r' g) (ha : PD X a wa) (hb : PD X b wb) (hc : PD X c wc)
    (hm : lastMarks [op, op'] [b, c] = false := by with_unfolding_all rfl) : PD X (.Compare a [op, op'] [b, c] pos) (eChain f g wa wb wc) := qd_mk (pe_chain ho ho' ha hb hc hm) (rd_chain h h')
theorem qs_app' {i : Nat} {w : ED} {st : Stmt} (hst : PS X st (tDrop (tBM X.K "list" rAppend (tVar i) (tCons (tW X.K w) tNil)))) : PSD X st (sApp i w) := qs_mk hst fun {dk OB H0 O H σ ρ n E D} S hw k => by
  obtain ⟨xs, e1, q⟩ := hw
  obtain ⟨v, z1, p, us, rfl, h1, h2, h3, h4, h5⟩ := S.sl _ _ e1
  refine ⟨_, z1, .inl ⟨rfl, _, .inl (.inl h4)⟩, rd_W S q fun v d H1 n1 f1 d1 r1 ⟨ll, q1⟩ => ?_⟩
  have nA : ¬ dkA dk p := h3.nA
  have h4' := f1 _ _ nA h4
  have S1 := S.step f1 d1
  have s1 := S.hid f1
  refine ⟨p, us, v, rfl, rfl, h4', by have z := lim_le; rw [h5.len]; omega, ?_⟩
  refine k.nx O _ _ _ n1 (S1.mut e1 rfl rfl z1 h1 h2 h3 nt_lst (s' := .l (xs ++ [d])) ⟨p, _, rfl, h1, h2, h3, upd_same, ?_⟩) ?_ q1
  · rw [hid_upd h1]
    exact RpAll.app (RpAll.same s1 _ _ h5) (.cons r1 .nil)
  · rw [hid_upd h1]
    exact s1
def sExt (i : Nat) (e : ED) : SD := fun ρ n E => ∃ xs, ρ[i]? = some (some (.l xs)) ∧ e ρ n fun x n1 => ∃ ys, x = .list ys ∧ xs.length + ys.length ≤ lim ∧ E.nx (ρ.set i (some (.l (xs ++ ys)))) n1
theorem qs_ext' {i : Nat} {w : ED} {st : Stmt} (hst : PS X st (tDrop (tBM X.K "list" rExtend (tVar i) (tCons (tW X.K w) tNil)))) : PSD X st (sExt i w) := qs_mk hst fun {dk OB H0 O H σ ρ n E D} S hw k => by
  obtain ⟨xs, e1, q⟩ := hw
  obtain ⟨v, z1, p, us, rfl, h1, h2, h3, h4, h5⟩ := S.sl _ _ e1
  refine ⟨_, z1, .inl ⟨rfl, _, .inl (.inl h4)⟩, rd_W S q fun v d H1 n1 f1 d1 r1 ⟨ys, ey, ll, q1⟩ => ?_⟩
  subst ey
  cases r1 with
  | @lst a ws _ ha hb =>
  have nA : ¬ dkA dk p := h3.nA
  have h4' := f1 _ _ nA h4
  have S1 := S.step f1 d1
  have s1 := S.hid f1
  refine ⟨p, a, us, ws, rfl, rfl, h4', hid_le _ _ ha, by have z := lim_le; rw [h5.len, hb.len]; omega, ?_⟩
  refine k.nx O _ _ _ n1 (S1.mut e1 rfl rfl z1 h1 h2 h3 nt_lst (s' := .l (xs ++ ys)) ⟨p, _, rfl, h1, h2, h3, upd_same, ?_⟩) ?_ q1
  · rw [hid_upd h1]
    exact RpAll.app (RpAll.same s1 _ _ h5) hb
  · rw [hid_upd h1]
    exact s1
end
end My

namespace My
open PySem PySem.Spec PyProof.Rows L2
end My

namespace My
open PySem PySem.Spec PyProof.Rows L2

theorem ofA_scan {v : Value} (h : v.scannable = true) (n : Nat) : ofAClassStatement n v = pure false := by
  cases v with
  | ref a => cases h
  | _ => cases n <;> rfl
theorem hbv_scan {v : Value} (h : v.scannable = true) (n : Nat) : ∃ b, hashByValue n v = pure b := by
  cases v with
  | ref a => cases h
  | none => exact ⟨_, by cases n <;> rfl⟩
  | bool b => exact ⟨_, by cases n <;> rfl⟩
  | int i t => exact ⟨_, by cases n <;> rfl⟩
  | str x t => exact ⟨_, by cases n <;> rfl⟩
  | bytes x t => exact ⟨_, by cases n <;> rfl⟩
  | _ => cases h
def Scan {P : Program} {w : World} {K : Type} [DecidableEq K] (knd : KeyKind P w K) : Prop := ∀ k v, knd.is k v = true → v.scannable = true
theorem scan_str (P : Program) (w : World) : Scan (strKind P w) := fun k v h => by
  obtain ⟨t, rfl⟩ := Value.isStrOf_shape (x := k) (v := v) h
  rfl

section
variable {P : Program} {w : World} {K : Type} [DecidableEq K] {knd : KeyKind P w K} {A : Around} {E : Value → Shared → Prop} {s : Shared}
theorem items_scan (S : Scan knd) : ∀ {k : List K} {vs : List Value}, ItemsAre knd k vs → ∀ v ∈ vs, v.scannable = true
  | _, _, .nil, _, hv => nomatch hv
  | _, _, .cons h1 t, v, hv => (List.mem_cons.mp hv).elim (fun e => e ▸ S _ _ h1) fun hv => items_scan S t v hv
theorem ofA_tup (S : Scan knd) {k : List K} {b : Addr} {Q : Bool → Shared → Prop} (hk : IsTupleKey knd s.heap k b) (h : Q false s) : wpAny (model P w) A (ofAClassStatement 8 (.ref b)) Q E s := by
  have ty := hk.typeIs
  obtain ⟨o, its, n, ho, _, hd, hi⟩ := hk
  unfold ofAClassStatement
  refine wpAny_bind (wpAny_typeOf ty ?_)
  dsimp only
  have e : (("tuple" : String) == "tuple") = true := by decide
  simp only [e, if_true, Bool.not_true, Bool.false_eq_true, if_false]
  try refine wpAny_bind (wpAny_pure ?_)
  try simp only [Bool.not_true, Bool.false_eq_true, if_false]
  refine wpAny_bind (m := seqItems? (.ref b)) (wpAny_seqItems ho hd ?_)
  dsimp only
  refine wpAny_bind ?_
  rw [← Array.forIn_toList]
  refine wpAny_forIn_list _ (fun left r z => z = s ∧ r.1 = none ∧ ∀ v ∈ left, v.scannable = true) _ ?_ ?_ _ _ ⟨rfl, rfl, items_scan S hi⟩
  · rintro v left r z ⟨rfl, hr, hall⟩
    rw [ofA_scan (hall v List.mem_cons_self)]
    refine wpAny_bind (wpAny_pure ?_)
    simp only [Bool.false_eq_true, if_false]
    exact wpAny_pure ⟨rfl, rfl, fun u hu => hall u (List.mem_cons_of_mem _ hu)⟩
  · rintro ⟨r, _⟩ z ⟨rfl, hr, _⟩
    obtain rfl : r = none := hr
    exact wpAny_pure h
theorem hbv_tup (S : Scan knd) {k : List K} {b : Addr} {Q : Bool → Shared → Prop} (hk : IsTupleKey knd s.heap k b) (h : ∀ c, Q c s) : wpAny (model P w) A (hashByValue 8 (.ref b)) Q E s := by
  have ty := hk.typeIs
  obtain ⟨o, its, n, ho, _, hd, hi⟩ := hk
  unfold hashByValue
  refine wpAny_bind (wpAny_specialOf ty F.slot_tuple_hash.lookup ?_)
  refine wpAny_bind (m := seqItems? (.ref b)) (wpAny_seqItems ho hd ?_)
  refine wpAny_bind ?_
  show wpAny _ _ (forIn its _ _) _ _ s
  rw [← Array.forIn_toList]
  refine wpAny_forIn_list _ (fun left r z => z = s ∧ (r.1 = none ∨ ∃ c, r.1 = some c) ∧ ∀ v ∈ left, v.scannable = true) _ ?_ ?_ _ _ ⟨rfl, .inl rfl, items_scan S hi⟩
  · rintro v left r z ⟨rfl, _, hall⟩
    obtain ⟨c, e⟩ := hbv_scan (hall v List.mem_cons_self) 7
    rw [e]
    refine wpAny_bind (wpAny_pure ?_)
    cases c with
    | true =>
      simp only [Bool.not_true, Bool.false_eq_true, if_false]
      exact wpAny_pure ⟨rfl, .inl rfl, fun u hu => hall u (List.mem_cons_of_mem _ hu)⟩
    | false =>
      simp only [Bool.not_false, if_true]
      exact wpAny_pure (wpAny_pure (h _))
  · rintro ⟨r, _⟩ z ⟨rfl, hr, _⟩
    rcases hr with hr | ⟨c, hr⟩
    · obtain rfl : r = none := hr
      exact wpAny_pure (h _)
    · obtain rfl : r = some c := hr
      exact wpAny_pure (h _)
theorem unseen (S : Scan knd) {k : List K} {b : Addr} {Q : Bool → Shared → Prop} (hk : IsTupleKey knd s.heap k b) {ys : List Value} (hy : ∀ y ∈ ys, ∃ k' c, y = Value.ref c ∧ IsTupleKey knd s.heap k' c) (h : Q false s) :
    wpAny (model P w) A (searchCouldBeSeen (.ref b) ys) Q E s := by
  unfold searchCouldBeSeen
  refine wpAny_bind (wpAny_forIn_list _ (fun left r z => z = s ∧ r.1 = none ∧ ∀ y ∈ left, ∃ k' c, y = Value.ref c ∧ IsTupleKey knd s.heap k' c) _ ?_ ?_ _ _ ⟨rfl, rfl, hy⟩)
  · rintro v left r z ⟨rfl, _, hall⟩
    obtain ⟨k', c, rfl, hc⟩ := hall v List.mem_cons_self
    have next : ∀ y ∈ left, ∃ k' c, y = Value.ref c ∧ IsTupleKey knd z.heap k' c := fun u hu => hall u (List.mem_cons_of_mem _ hu)
    dsimp only
    by_cases hv : (b == c || (carriedByValue (.ref b) && carriedByValue (.ref c))) = true
    · exact wp_if_pos hv (wpAny_pure ⟨rfl, rfl, next⟩)
    · refine wp_if_neg hv (wpAny_bind (wpAny_eqIsQuiet_tuple hk ?_))
      simp only [Bool.not_true, Bool.false_eq_true, if_false]
      refine wpAny_bind (wpAny_eqIsQuiet_tuple hc ?_)
      simp only [Bool.not_true, Bool.false_eq_true, if_false]
      refine wpAny_bind (ofA_tup S hk ?_)
      simp only [Bool.false_eq_true, if_false]
      refine wpAny_bind (ofA_tup S hc ?_)
      simp only [Bool.false_eq_true, if_false]
      exact wpAny_pure ⟨rfl, rfl, next⟩
  · rintro ⟨r, _⟩ z ⟨rfl, hr, _⟩
    obtain rfl : r = none := hr
    exact wpAny_pure h

theorem step_dummy (m : Nat) : ∀ (n : Nat) (p : SetTable.Probe), (nth m p n).dummy = p.dummy
  | 0, _ => rfl
  | n + 1, p => (step_dummy m n (adv m p)).trans (by unfold adv; split <;> rfl)
abbrev stn (m : Nat) (h : Int) (n : Nat) : SetTable.Probe := nth m (runAt m (SetTable.bits h % (m + 1)) (SetTable.bits h)) n
theorem probe_says {t : SetTable} {hs : List Int} (T : TabOk t hs) {g : Nat → Int} {h : Int} {c K : Nat} (hc : c ≤ K) (hf : K < 10 * SetTable.turns t.mask) (hK : way t.mask h K ∉ t.place.toList)
    (hin : ∀ q, q < K → way t.mask h q ∈ t.place.toList) :
    (∃ q i, c ≤ q ∧ q < K ∧ t.place.toList[i]? = some (way t.mask h q) ∧ g i = h ∧ (∀ q' i', c ≤ q' → q' < q → t.place.toList[i']? = some (way t.mask h q') → g i' ≠ h) ∧
      t.probe g h (stn t.mask h c) = some (.candidate (way t.mask h q) i (stn t.mask h (q + 1)))) ∨
    ((∀ q' i', c ≤ q' → q' < K → t.place.toList[i']? = some (way t.mask h q') → g i' ≠ h) ∧ t.probe g h (stn t.mask h c) = some (.empty (way t.mask h K) none)) := by
  have sh : ∀ q, nth t.mask (stn t.mask h c) q = stn t.mask h (c + q) := fun q => (nth_add t.mask c _ q).symm
  have shj : ∀ q, (nth t.mask (stn t.mask h c) q).j = way t.mask h (c + q) := fun q => congrArg SetTable.Probe.j (sh q)
  have cK : c + (K - c) = K := by omega
  have fwd : ∀ {q' : Nat}, c ≤ q' → way t.mask h q' = (nth t.mask (stn t.mask h c) (q' - c)).j := fun {q'} l => by rw [shj, show c + (q' - c) = q' by omega]
  rcases go_spec t T.ris T.dm g h (10 * SetTable.turns t.mask) (K - c) (stn t.mask h c) (step_dummy _ _ _) (by omega) (fun q hq => by rw [shj]; exact hin _ (by omega)) (by rw [shj, cK]; exact hK) with ⟨q, i, hq, hi, hg, hno, e⟩ | ⟨hno, e⟩
  · refine .inl ⟨c + q, i, by omega, by omega, by rw [← shj]; exact hi, hg, fun q' i' l1 l2 hp => hno (q' - c) i' (by omega) (by rw [← fwd l1]; exact hp), ?_⟩
    rw [← shj, show c + q + 1 = c + (q + 1) by omega, ← sh]
    exact e
  · refine .inr ⟨fun q' i' l1 l2 hp => hno (q' - c) i' (by omega) (by rw [← fwd l1]; exact hp), ?_⟩
    have ek : way t.mask h K = (nth t.mask (stn t.mask h c) (K - c)).j := fwd hc
    rw [ek]
    exact e

def rows (knd : KeyKind P w K) (L : List (Addr × List K)) : List (Int × Value) := L.map fun p => (tupleKeyHash knd p.2, .ref p.1)
structure Tab (knd : KeyKind P w K) (h : Heap) (a : Addr) (L : List (Addr × List K)) (es : Array (Int × Value)) (ep : Nat) (t : SetTable) : Prop where
  ob : ∃ o, h.get? a = some o ∧ o.ExactSet ∧ o.data = .set es ep t
  rw_ : es.toList = rows knd L
  tab : TabOk t (L.map fun p => tupleKeyHash knd p.2)
  nd : (L.map (·.2)).Nodup
  led : w.params.followText "set-order" = true ∨ t.led = true
  room : L.length * 5 < t.mask * 3
  few : L.length < 64
variable {a : Addr} {L : List (Addr × List K)} {es : Array (Int × Value)} {ep : Nat} {t : SetTable}
theorem Tab.count {h : Heap} (R : Tab knd h a L es ep t) : es.size = L.length := by
  rw [← Array.length_toList, R.rw_]
  exact List.length_map ..
theorem Tab.slots {h : Heap} (R : Tab knd h a L es ep t) : t.place.toList.length = L.length := by
  rw [Array.length_toList, R.tab.sz, List.length_map]
theorem Tab.fits {h : Heap} (R : Tab knd h a L es ep t) : t.fits es.size = true := by
  have h1 := R.slots
  rw [Array.length_toList] at h1
  have h2 := R.count
  have h3 := R.room
  unfold SetTable.fits SetTable.fill
  rw [R.tab.dm]
  simp
  omega
theorem Tab.odd {h : Heap} (R : Tab knd h a L es ep t) : ¬ t.gaveWay = true := by
  unfold SetTable.gaveWay
  rw [mask_odd R.tab.mok]
  decide
theorem Tab.at_ {h : Heap} (R : Tab knd h a L es ep t) {i : Nat} {p : Addr × List K} (e : L[i]? = some p) : es[i]? = some (tupleKeyHash knd p.2, .ref p.1) := by
  rw [← Array.getElem?_toList, R.rw_]
  show (L.map _)[i]? = _
  rw [List.getElem?_map, e]
  rfl
def Ans (knd : KeyKind P w K) (L : List (Addr × List K)) (t : SetTable) (k : List K) (Q : SetFound → Shared → Prop) (s : Shared) : Prop :=
  (k ∈ L.map (·.2) → Q (.there none) s) ∧
  (k ∉ L.map (·.2) → ∀ n, way t.mask (tupleKeyHash knd k) n ∉ t.place.toList → (∀ q, q < n → way t.mask (tupleKeyHash knd k) q ∈ t.place.toList) → Q (.free (way t.mask (tupleKeyHash knd k) n) false) s)
theorem search_go (S : Scan knd) (R : Tab knd s.heap a L es ep t) (tup : ∀ p ∈ L, IsTupleKey knd s.heap p.2 p.1) {x : Addr} {k : List K} (hx : IsTupleKey knd s.heap k x) (hu : A.units < cLine) {n : Nat} (hf : n < 10 * SetTable.turns t.mask)
    (hK : way t.mask (tupleKeyHash knd k) n ∉ t.place.toList) (hin : ∀ q, q < n → way t.mask (tupleKeyHash knd k) q ∈ t.place.toList) {Q : SetFound → Shared → Prop} (hQ : Ans knd L t k Q s) :
    ∀ (f c : Nat) (st : Option SetTable.Probe), st.getD (t.probeStart (tupleKeyHash knd k)) = stn t.mask (tupleKeyHash knd k) c → c ≤ n → n - c < f →
      (∀ (i : Nat) p, L[i]? = some p → p.2 = k → ∃ q, c ≤ q ∧ q < n ∧ t.place.toList[i]? = some (way t.mask (tupleKeyHash knd k) q)) →
      wpAny (model P w) A (setSearchFrom a (.ref x) (tupleKeyHash knd k) true f st) Q E s
  | 0, _, _, _, _, hlt, _ => absurd hlt (Nat.not_lt_zero _)
  | f + 1, c, st, hst, hc, hlt, hre => by
    obtain ⟨o, ho, hex, hd⟩ := R.ob
    have hash_at : ∀ (i : Nat) (p : Addr × List K), L[i]? = some p → (es[i]?.map fun e : Int × Value => e.1).getD 0 = tupleKeyHash knd p.2 := fun i p e => by
      rw [R.at_ e]
      rfl
    have same_hash : ∀ {i0 : Nat} {p0 : Addr × List K}, L[i0]? = some p0 → p0.2 = k → (es[i0]?.map fun e : Int × Value => e.1).getD 0 = tupleKeyHash knd k := fun h0 e0 => by rw [hash_at _ _ h0, e0]
    rw [setSearchFrom_succ]
    refine wpAny_bind (wpAny_setState_of ho hd R.fits ?_)
    dsimp only
    refine wp_if_neg R.odd ?_
    try refine wpAny_bind (wpAny_pure ?_)
    rw [hst]
    rcases probe_says (g := fun i => (es[i]?.map fun e : Int × Value => e.1).getD 0) R.tab hc hf hK hin with ⟨q, i, l1, l2, hi, hg, hno, e⟩ | ⟨hno, e⟩
    · rw [e]
      dsimp only
      have il : i < L.length := by
        rw [← R.slots]
        exact (List.getElem?_eq_some_iff.mp hi).1
      obtain ⟨p, hp⟩ : ∃ p, L[i]? = some p := ⟨L[i], List.getElem?_eq_getElem il⟩
      have pm : p ∈ L := List.mem_of_getElem? hp
      have live : t.slot (way t.mask (tupleKeyHash knd k) q) = .live i := slot_live R.tab.ris hi
      have on : wpAny (model P w) A (searchRest a (.ref x) (tupleKeyHash knd k) true f es t (way t.mask (tupleKeyHash knd k) q) i (stn t.mask (tupleKeyHash knd k) (q + 1))) Q E s := by
        unfold searchRest
        rw [R.at_ hp]
        dsimp only
        refine wpAny_bind (wpAny_holding (wpAny_eqBool_tuple hu (tup p pm) hx (wpAny_bind (wpAny_setState_of ho hd R.fits ?_))))
        dsimp only
        by_cases pk : p.2 = k
        · exact wp_if_pos (by rw [decide_eq_true pk]; rfl) (wpAny_pure (hQ.1 (List.mem_map.mpr ⟨p, pm, pk⟩)))
        · refine wp_if_neg (by rw [decide_eq_false pk]; decide) ?_
          try refine wpAny_bind (wpAny_pure ?_)
          rw [sameMem]
          dsimp only
          simp only [if_true, live, R.at_ hp]
          refine wpAny_bind (wpAny_isSame_ref_self (wpAny_bind (wpAny_pure ?_)))
          simp only [if_true]
          refine wp_if_neg (by rw [decide_eq_false pk]; decide) (search_go S R tup hx hu hf hK hin hQ f (q + 1) _ rfl (by omega) (by omega) fun i0 p0 h0 e0 => ?_)
          obtain ⟨q0, m1, m2, m3⟩ := hre i0 p0 h0 e0
          refine ⟨q0, Nat.lt_of_not_le fun le => ?_, m2, m3⟩
          rcases Nat.lt_or_eq_of_le le with lt | rfl
          · exact hno q0 i0 m1 lt m3 (same_hash h0 e0)
          · have two := (slot_live R.tab.ris m3).symm.trans live
            injection two with two
            rw [two, hp] at h0
            exact pk ((congrArg Prod.snd (Option.some.inj h0)).trans e0)
      by_cases ld : t.led = true
      · refine wp_if_neg (by rw [ld]; decide) ?_
        try refine wpAny_bind (wpAny_pure ?_)
        exact on
      · refine wp_if_pos (by simp [ld]) (wpAny_bind (unseen S hx (fun y hy => ?_) ?_))
        · obtain ⟨r, hr, rfl⟩ := List.mem_map.mp hy
          have hr2 : r ∈ es.toList := by
            have : r ∈ es ∧ r.1 = tupleKeyHash knd k := by simpa using hr
            simpa using this.1
          rw [R.rw_] at hr2
          obtain ⟨p2, m2, rfl⟩ := List.mem_map.mp hr2
          exact ⟨p2.2, p2.1, rfl, tup p2 m2⟩
        · refine wp_if_neg (by decide) ?_
          try refine wpAny_bind (wpAny_pure ?_)
          exact on
    · rw [e]
      dsimp only
      refine wpAny_pure (hQ.2 (fun hm => ?_) n hK hin)
      obtain ⟨p0, h0, e0⟩ := List.mem_map.mp hm
      obtain ⟨i0, hi0⟩ := List.getElem?_of_mem h0
      obtain ⟨q0, m1, m2, m3⟩ := hre i0 p0 hi0 e0
      exact hno q0 i0 m1 m2 m3 (same_hash hi0 e0)
theorem search_all (S : Scan knd) (R : Tab knd s.heap a L es ep t) (tup : ∀ p ∈ L, IsTupleKey knd s.heap p.2 p.1) {x : Addr} {k : List K} (hx : IsTupleKey knd s.heap k x) (hu : A.units < cLine) {Q : SetFound → Shared → Prop} (hQ : Ans knd L t k Q s) :
    wpAny (model P w) A (setSearch a (.ref x) (tupleKeyHash knd k) true) Q E s := by
  have rm := R.room
  obtain ⟨n, hf, hK, hin⟩ := R.tab.first (by rw [List.length_map]; omega) (tupleKeyHash knd k)
  have far : 10 * SetTable.turns t.mask ≤ 1420 := by
    unfold SetTable.turns
    rcases R.tab.mok with e | e | e <;> omega
  unfold setSearch
  refine search_go S R tup hx hu hf hK hin hQ 100000 0 none rfl (Nat.zero_le _) (by omega) fun i p hp e => ?_
  have hi : (L.map fun p => tupleKeyHash knd p.2)[i]? = some (tupleKeyHash knd k) := by
    rw [List.getElem?_map, hp, ← e]
    rfl
  have il : i < t.place.toList.length := by
    rw [R.slots]
    exact (List.getElem?_eq_some_iff.mp hp).1
  obtain ⟨q, hq, eq⟩ := R.tab.before hK hi (List.getElem?_eq_getElem il)
  exact ⟨q, Nat.zero_le _, hq, by rw [List.getElem?_eq_getElem il, eq]⟩

theorem rows_at {es : Array (Int × Value)} (hr : es.toList = rows knd L) (i : Nat) : es[i]? = (L[i]?).map fun p => (tupleKeyHash knd p.2, Value.ref p.1) := by
  rw [← Array.getElem?_toList, hr]
  exact List.getElem?_map ..
theorem range_back {α : Type} (l : List α) : ∀ n, n ≤ l.length → (List.range n).filterMap (fun i => l[i]?) = l.take n
  | 0, _ => by simp
  | n + 1, h => by
    have hn : n < l.length := h
    rw [List.range_succ, List.filterMap_append, range_back l n (Nat.le_of_lt hn), List.take_add_one, List.getElem?_eq_getElem hn]
    simp [List.getElem?_eq_getElem hn]
theorem by_order {es : Array (Int × Value)} (hr : es.toList = rows knd L) {order : Array Nat} (hp : order.toList.Perm (List.range L.length)) :
    ∃ L2 : List (Addr × List K), (order.filterMap (es[·]?)).toList = rows knd L2 ∧ L2.Perm L ∧ L2.map (fun p => tupleKeyHash knd p.2) = order.toList.map fun i => (es.map fun e : Int × Value => e.1).getD i 0 := by
  refine ⟨order.toList.filterMap (fun i => L[i]?), ?_, ?_, ?_⟩
  · have e : (fun i : Nat => es[i]?) = fun i : Nat => (L[i]?).map fun p : Addr × List K => (tupleKeyHash knd p.2, Value.ref p.1) := funext (rows_at hr)
    rw [Array.toList_filterMap, e]
    unfold rows
    rw [List.map_filterMap]
  · have h1 := hp.filterMap fun i => L[i]?
    rw [range_back L L.length (Nat.le_refl _), List.take_length] at h1
    exact h1
  · have each : ∀ l : List Nat, (∀ i ∈ l, i < L.length) → (l.filterMap fun i => L[i]?).map (fun p => tupleKeyHash knd p.2) = l.map fun i => (es.map fun e : Int × Value => e.1).getD i 0 := by
      intro l
      induction l with
      | nil => intro _; rfl
      | cons i l ih =>
        intro h
        have hi := h i List.mem_cons_self
        rw [List.filterMap_cons_some (List.getElem?_eq_getElem hi), List.map_cons, List.map_cons, ih fun j hj => h j (List.mem_cons_of_mem _ hj)]
        have q := rows_at hr i
        rw [List.getElem?_eq_getElem hi] at q
        congr 1
        simp [Array.getD_eq_getD_getElem?, q]
    exact each _ fun i hi => List.mem_range.mp (hp.mem_iff.mp hi)
theorem relay_tab {o : Obj} (ho : s.heap.get? a = some o) (hex : o.ExactSet) (hd : o.data = .set es ep t) (hr : es.toList = rows knd L) (hsz : t.place.size = es.size) (hdm : t.dummies = #[]) (hfl : es.size ≤ t.mask)
    (nd : (L.map (·.2)).Nodup) (led : w.params.followText "set-order" = true ∨ t.led = true) (few : L.length < 64) {wanted M : Nat} (hw : SetTable.sizeAbove wanted - 1 = M) (hM : MaskOk M) (hw2 : SetTable.sizeAbove wanted ≤ 128)
    (hn : L.length * 5 < M * 3) {Q : Unit → Shared → Prop} (hQ : ∀ h' L' es' ep' t', Heap.SameBut a s.heap h' → Tab knd h' a L' es' ep' t' → L'.Perm L → Q () { s with heap := h' }) : wpAny (model P w) A (setRelay a wanted) Q E s := by
  have cnt : es.size = L.length := by
    rw [← Array.length_toList, hr]
    exact List.length_map ..
  have fit : t.fits es.size = true := by
    unfold SetTable.fits SetTable.fill
    rw [hdm]
    simp
    omega
  obtain ⟨t', order, e, hp, T, em, el, _, _⟩ := relaid_ok t (hs := es.map fun e : Int × Value => e.1) (wanted := wanted) hw hM (by rw [Array.size_map]; omega)
  rw [Array.size_map, cnt] at hp
  obtain ⟨L2, r1, r2, r3⟩ := by_order hr hp
  rw [← r3] at T
  have cnt2 : (order.filterMap (es[·]?)).size = es.size := by
    rw [← Array.length_toList, r1, cnt, ← r2.length_eq]
    exact List.length_map ..
  rw [setRelay_eq]
  refine wpAny_bind (wpAny_setState_of ho hd fit ?_)
  dsimp only
  refine wp_if_neg (by rw [sizeLine_eq]; omega) ?_
  try refine wpAny_bind (wpAny_pure ?_)
  rw [e]
  dsimp only
  refine wpAny_bind (wp_if_neg (by rw [cnt2]; simp) ?_)
  try refine wpAny_bind (wpAny_pure ?_)
  refine wpAny_pure ?_
  dsimp only
  refine wpAny_storeSet_of ho hd ?_ (by rw [cnt2, cnt, sizeLine_eq]; omega)
  exact hQ _ L2 _ _ t' (Heap.SameBut.update ..) ⟨⟨_, store_at ho hd, ⟨hex.1, hex.2.1, hex.2.2⟩, rfl⟩, r1, T, (r2.map (·.2)).nodup_iff.mpr nd, by rw [el]; exact led, by rw [r2.length_eq, em]; exact hn, by rw [r2.length_eq]; exact few⟩ r2
theorem TabOk.off {t : SetTable} {hs : List Int} (T : TabOk t hs) : TabOk { t with plain := false } hs := ⟨T.ris, T.dm, T.sz, T.mok, T.bd, T.reach⟩
def Put (knd : KeyKind P w K) (h h' : Heap) (a : Addr) (L : List (Addr × List K)) (x : Addr) (k : List K) (L' : List (Addr × List K)) : Prop :=
  Heap.SameBut a h h' ∧ (∃ es ep t, Tab knd h' a L' es ep t) ∧ (k ∈ L.map (·.2) → L' = L) ∧ (k ∉ L.map (·.2) → L'.Perm ((x, k) :: L))
theorem add_tab (S : Scan knd) (R : Tab knd s.heap a L es ep t) (tup : ∀ p ∈ L, IsTupleKey knd s.heap p.2 p.1) {x : Addr} {k : List K} (hx : IsTupleKey knd s.heap k x) (hu : A.units < cLine) (room : L.length + 1 < 64) {Q : Bool → Shared → Prop}
    (hQ : ∀ b h' L', Put knd s.heap h' a L x k L' → Q b { s with heap := h' }) : wpAny (model P w) A (setAddHashed a (.ref x) (tupleKeyHash knd k)) Q E s := by
  obtain ⟨o, ho, hex, hd⟩ := R.ob
  have cnt := R.count
  have rm := R.room
  unfold setAddHashed
  refine wpAny_holding ?_
  rw [show (100000 : Nat) = 99999 + 1 from rfl, setAddHashedIn_succ]
  refine wpAny_bind (wpAny_setState_of ho hd R.fits ?_)
  dsimp only
  refine wp_if_neg (by simp [byScan, Value.scannable]) ?_
  try refine wpAny_bind (wpAny_pure ?_)
  refine wpAny_bind (search_all S R tup hx hu ⟨fun hm => ?_, fun hm n hK hin => ?_⟩)
  · exact wpAny_pure (hQ false s.heap L ⟨Heap.SameBut.refl a s.heap, ⟨es, ep, t, R⟩, fun _ => rfl, fun z => absurd hm z⟩)
  · dsimp only
    refine wpAny_bind (wpAny_setState_of ho hd R.fits ?_)
    dsimp only
    obtain ⟨q1, q2, q3, q4, q5, q6, q7, q8, q9⟩ := R.tab.put hK hin
    obtain ⟨i, ei⟩ : ∃ i, i = SetTable.below t.place (way t.mask (tupleKeyHash knd k) n) := ⟨_, rfl⟩
    obtain ⟨L1, e1⟩ : ∃ L1, L1 = L.take i ++ (x, k) :: L.drop i := ⟨_, rfl⟩
    have pm : L1.Perm ((x, k) :: L) := by
      have z : (L.take i ++ (x, k) :: L.drop i).Perm ((x, k) :: (L.take i ++ L.drop i)) := List.perm_middle
      rw [List.take_append_drop] at z
      rw [e1]
      exact z
    have len1 : L1.length = L.length + 1 := pm.length_eq
    have hin1 : (SetTable.insertAt es (t.put (way t.mask (tupleKeyHash knd k) n)).snd (tupleKeyHash knd k, Value.ref x)).toList = rows knd L1 := by
      rw [q1, ← ei, SetTable.toList_insertAt, R.rw_, e1]
      unfold rows
      rw [List.map_append, List.map_cons, List.map_take, List.map_drop]
    have hs1 : L1.map (fun p => tupleKeyHash knd p.2) = (L.map fun p => tupleKeyHash knd p.2).take i ++ tupleKeyHash knd k :: (L.map fun p => tupleKeyHash knd p.2).drop i := by
      rw [e1, List.map_append, List.map_cons, List.map_take, List.map_drop]
    rw [← ei, ← hs1] at q3
    rw [List.length_map] at q9
    have nd1 : (L1.map (·.2)).Nodup := (pm.map (·.2)).nodup_iff.mpr (List.nodup_cons.mpr ⟨hm, R.nd⟩)
    generalize SetTable.insertAt es (t.put (way t.mask (tupleKeyHash knd k) n)).snd (tupleKeyHash knd k, Value.ref x) = es1 at hin1 ⊢
    have cnt1 : es1.size = L.length + 1 := by
      rw [← Array.length_toList, hin1, ← len1]
      exact List.length_map ..
    have tail : ∀ t1 : SetTable, TabOk t1 (L1.map fun p => tupleKeyHash knd p.2) → t1.mask = t.mask → t1.led = t.led → t1.fill = L.length + 1 →
        wpAny (model P w) A (do
          storeSet a es1 t1
          if (!false && t1.tooFull) = true then do
            setRelay a (SetTable.grown (es.size + 1))
            pure true
          else pure true) Q E s := by
      intro t1 T1 m1 l1 f1
      refine wpAny_bind (wpAny_storeSet_of ho hd ?_ (by rw [cnt1, sizeLine_eq]; omega))
      have ho1 := store_at (es' := es1) (t' := t1) ho hd
      have sb : Heap.SameBut a s.heap (s.heap.update a (Obj.putSet es1 t1)) := Heap.SameBut.update ..
      have led1 : w.params.followText "set-order" = true ∨ t1.led = true := by rw [l1]; exact R.led
      by_cases full : t1.tooFull = true
      · refine wp_if_pos (by rw [full]; rfl) ?_
        have big : (L.length + 1) * 5 ≥ t1.mask * 3 := by
          have z := full
          unfold SetTable.tooFull at z
          rw [decide_eq_true_eq, f1] at z
          exact z
        have two : (t.mask = 7 ∧ L.length = 4) ∨ (t.mask = 31 ∧ L.length = 18) := by
          rcases R.tab.mok with e | e | e
          · rw [m1, e] at big; rw [e] at rm; exact .inl ⟨e, by omega⟩
          · rw [m1, e] at big; rw [e] at rm; exact .inr ⟨e, by omega⟩
          · rw [m1, e] at big; omega
        have sz1 : t1.place.size = es1.size := by rw [T1.sz, List.length_map, len1, cnt1]
        have go : ∀ M, SetTable.sizeAbove (SetTable.grown (L.length + 1)) = M + 1 → MaskOk M → M ≤ 127 → (L.length + 1) * 5 < M * 3 → wpAny (model P w) A (setRelay a (SetTable.grown (es.size + 1)))
            (fun _ z => wpAny (model P w) A (pure true) Q E z) E { s with heap := s.heap.update a (Obj.putSet es1 t1) } := fun M g1 g2 g3 g4 => by
          rw [cnt]
          refine relay_tab (s := { s with heap := s.heap.update a (Obj.putSet es1 t1) }) ho1 ⟨hex.1, hex.2.1, hex.2.2⟩ rfl hin1 sz1 T1.dm (by rw [cnt1, m1]; omega) nd1 led1 (by rw [len1]; exact room) (M := M) (by omega) g2 (by omega) (by rw [len1]; exact g4) fun h2 L2 es2 ep2 t2 sb2 R2 pm2 => ?_
          exact wpAny_pure (hQ true h2 L2 ⟨sb.trans sb2, ⟨es2, ep2, t2, R2⟩, fun z => absurd z hm, fun _ => pm2.trans pm⟩)
        refine wpAny_bind ?_
        rcases two with ⟨_, e2⟩ | ⟨_, e2⟩
        · exact go 31 (by rw [e2]; exact size_20) (.inr (.inl rfl)) (by decide) (by omega)
        · exact go 127 (by rw [e2]; exact size_76) (.inr (.inr rfl)) (by decide) (by omega)
      · refine wp_if_neg (by simp [full]) (wpAny_pure (hQ true _ L1 ⟨sb, ⟨es1, _, t1, ⟨_, ho1, ⟨hex.1, hex.2.1, hex.2.2⟩, rfl⟩, hin1, T1, nd1, led1, ?_, by rw [len1]; exact room⟩, fun z => absurd z hm, fun _ => pm⟩))
        have z := full
        unfold SetTable.tooFull at z
        rw [decide_eq_true_eq, f1] at z
        rw [len1]
        omega
    generalize (t.put (way t.mask (tupleKeyHash knd k) n)).fst = t1 at q3 q4 q5 q6 q9 ⊢
    by_cases pl : t1.plain = true
    · refine wp_if_pos pl (wpAny_bind (hbv_tup S hx fun c => ?_))
      cases c with
      | true =>
        simp only [if_true]
        exact tail t1 q3 q4 q5 q9
      | false =>
        simp only [Bool.false_eq_true, if_false]
        exact tail _ (TabOk.off q3) q4 q5 q9
    · refine wp_if_neg pl (wpAny_bind (wpAny_pure ?_))
      simp only [if_true]
      exact tail t1 q3 q4 q5 q9
end
end My

namespace My
open PySem PySem.Spec PyProof.Rows L2
structure Tot {α : Type} (lt : α → α → Bool) : Prop where
  irr : ∀ x, lt x x = false
  tri : ∀ x y, lt x y = false → lt y x = false → x = y
  trans : ∀ x y z, lt x y = true → lt y z = true → lt x z = true
theorem Tot.asym {α : Type} {lt : α → α → Bool} (T : Tot lt) {x y : α} (h : lt x y = true) : lt y x = false := by
  cases q : lt y x with
  | false => rfl
  | true =>
    have z := T.trans x y x h q
    rw [T.irr] at z
    cases z
theorem Tot.swo {α : Type} {lt : α → α → Bool} (T : Tot lt) : SrtO.Swo lt := ⟨fun x y h => T.asym h, fun x y z h1 h2 => by
  cases q : lt z x with
  | false => rfl
  | true =>
    cases r : lt y z with
    | true =>
      have c := T.trans y z x r q
      rw [h1] at c
      cases c
    | false =>
      obtain rfl := T.tri y z r h2
      rw [q] at h1
      cases h1⟩
theorem Tot.of_inj {α β : Type} {lt : β → β → Bool} (T : Tot lt) (f : α → β) (inj : ∀ x y, f x = f y → x = y) : Tot fun x y => lt (f x) (f y) :=
  ⟨fun x => T.irr _, fun x y h1 h2 => inj _ _ (T.tri _ _ h1 h2), fun x y z => T.trans _ _ _⟩
def lexL {α : Type} [DecidableEq α] (lt : α → α → Bool) : List α → List α → Bool
  | [], [] => false
  | [], _ :: _ => true
  | _ :: _, [] => false
  | x :: xs, y :: ys => if x = y then lexL lt xs ys else lt x y
theorem Tot.lex {α : Type} [DecidableEq α] {lt : α → α → Bool} (T : Tot lt) : Tot (lexL lt) := by
  refine ⟨fun x => ?_, fun x => ?_, fun x => ?_⟩
  · induction x with
    | nil => rfl
    | cons a x ih => unfold lexL; rw [if_pos rfl]; exact ih
  · induction x with
    | nil =>
      intro y h1 h2
      cases y with
      | nil => rfl
      | cons b y => cases h1
    | cons a x ih =>
      intro y h1 h2
      cases y with
      | nil => cases h2
      | cons b y =>
        unfold lexL at h1 h2
        by_cases e : a = b
        · subst e
          rw [if_pos rfl] at h1 h2
          rw [ih y h1 h2]
        · rw [if_neg e] at h1
          rw [if_neg (fun z => e z.symm)] at h2
          exact absurd (T.tri a b h1 h2) e
  · induction x with
    | nil =>
      intro y z h1 h2
      cases y with
      | nil => cases h1
      | cons b y =>
        cases z with
        | nil => cases h2
        | cons c z => rfl
    | cons a x ih =>
      intro y z h1 h2
      cases y with
      | nil => cases h1
      | cons b y =>
        cases z with
        | nil => cases h2
        | cons c z =>
          unfold lexL at h1 h2 ⊢
          by_cases e1 : a = b
          · subst e1
            rw [if_pos rfl] at h1
            by_cases e2 : a = c
            · subst e2
              rw [if_pos rfl] at h2 ⊢
              exact ih y z h1 h2
            · rw [if_neg e2] at h2 ⊢
              exact h2
          · rw [if_neg e1] at h1
            by_cases e2 : b = c
            · subst e2
              rw [if_neg e1]
              exact h1
            · rw [if_neg e2] at h2
              have h3 := T.trans a b c h1 h2
              have e3 : ¬ a = c := fun q => by
                subst q
                rw [T.irr] at h3
                cases h3
              rw [if_neg e3]
              exact h3
theorem tot_nat : Tot fun x y : Nat => decide (x < y) := ⟨fun x => by simp, fun x y h1 h2 => by simp at h1 h2; omega, fun x y z h1 h2 => by simp at h1 h2 ⊢; omega⟩
def ltS (x y : Str) : Bool := lexL (fun a b : Nat => decide (a < b)) x.cps.toList y.cps.toList
theorem tot_str : Tot ltS := tot_nat.lex.of_inj (fun x : Str => x.cps.toList) fun x y h => by
  obtain ⟨⟨x⟩⟩ := x
  obtain ⟨⟨y⟩⟩ := y
  simp at h
  rw [h]
def ltK (x y : List Str) : Bool := lexL ltS x y
theorem tot_key : Tot ltK := tot_str.lex
theorem lt_list : ∀ x y : List Nat, decide (x < y) = lexL (fun a b : Nat => decide (a < b)) x y
  | [], [] => by simp [lexL]
  | [], b :: y => by simp [lexL]
  | a :: x, [] => by simp [lexL]
  | a :: x, b :: y => by
    unfold lexL
    by_cases e : a = b
    · subst e
      rw [if_pos rfl, ← lt_list x y]
      simp [List.cons_lt_cons_iff]
    · rw [if_neg e]
      simp [List.cons_lt_cons_iff, e]
theorem ltS_eq (x y : Str) : decide (x.cps.toList < y.cps.toList) = ltS x y := lt_list _ _
def Asc {α : Type} (lt : α → α → Bool) (l : List α) : Prop := l.Pairwise fun x y => lt x y = true
theorem asc_uniq {α : Type} {lt : α → α → Bool} (T : Tot lt) : ∀ {l m : List α}, Asc lt l → Asc lt m → (∀ x, x ∈ l ↔ x ∈ m) → l = m
  | [], [], _, _, _ => rfl
  | [], y :: m, _, _, h => absurd ((h y).mpr List.mem_cons_self) (by simp)
  | x :: l, [], _, _, h => absurd ((h x).mp List.mem_cons_self) (by simp)
  | x :: l, y :: m, hl, hm, h => by
    have hl' := List.pairwise_cons.mp hl
    have hm' := List.pairwise_cons.mp hm
    have e : x = y := by
      rcases List.mem_cons.mp ((h x).mp List.mem_cons_self) with e | hx
      · exact e
      · rcases List.mem_cons.mp ((h y).mpr List.mem_cons_self) with e | hy
        · exact e.symm
        · have a := T.asym (hl'.1 y hy)
          rw [hm'.1 x hx] at a
          cases a
    subst e
    rw [asc_uniq T hl'.2 hm'.2 fun z => ⟨fun hz => ?_, fun hz => ?_⟩]
    · rcases List.mem_cons.mp ((h z).mp (List.mem_cons_of_mem _ hz)) with q | q
      · subst q
        have a := hl'.1 z hz
        rw [T.irr] at a
        cases a
      · exact q
    · rcases List.mem_cons.mp ((h z).mpr (List.mem_cons_of_mem _ hz)) with q | q
      · subst q
        have a := hm'.1 z hz
        rw [T.irr] at a
        cases a
      · exact q
theorem asc_of {α : Type} {lt : α → α → Bool} (T : Tot lt) {l : List α} (hs : l.Pairwise fun x y => lt y x = false) (nd : l.Nodup) : Asc lt l := by
  have h := List.pairwise_and_iff.mpr ⟨hs, nd⟩
  refine List.Pairwise.imp (fun {x y} q => ?_) h
  cases z : lt x y with
  | true => rfl
  | false => exact absurd (T.tri x y z q.1) q.2
end My

namespace My
open PySem PySem.Spec PyProof.Rows L2
def sOf : Value → Str
  | .str x _ => x
  | _ => Str.empty
section
variable {P : Program} {w : World} {A : Around} {E : Value → Shared → Prop} {s : Shared}
theorem one_str (c : Bool) {x y : Str} {t u : Tok} {Q : Bool → Shared → Prop} (h : Q (ltS x y) s) : wpAny (model P w) A (oneLt' c (.str x t) (.str y u)) Q E s := by
  rw [← ltS_eq] at h
  cases c with
  | true => exact oneLt_str h
  | false => exact PySem.W.kat_one _ _ (PySem.P.lt_str (Q := PySem.W.BoolBack Q) h)
theorem sortable_strs {a : Addr} {vs : List Value} (h2 : 2 ≤ vs.length) (hv : ∀ v ∈ vs, ∃ x t, v = Value.str x t) : SrtO.SortableO P w A s a vs fun v u => ltS (sOf v) (sOf u) := by
  intro h' _
  refine ⟨oneType', fun Q E hq => PySem.W.kas_kind (T := .type "str") h2 (fun v hm => ?_) (by rfl) (by rfl) hq, fun p q hp hq => ?_⟩
  · obtain ⟨x, t, rfl⟩ := hv v hm
    exact PySem.W.Looks.now
  · obtain ⟨x, t, e1⟩ := hv _ hp
    obtain ⟨y, u, e2⟩ := hv _ hq
    rw [keyLt'_oneType, e1, e2]
    refine one_str true ⟨rfl, ?_⟩
    show _ = ltS (sOf p.1) (sOf q.1)
    rw [e1, e2]
    rfl
theorem lex_strs {b fin : Bool} {Q : Bool → Shared → Prop} : ∀ {xs ys : List Value} {ns ms : List Str} (i : Nat), StrsAre xs ns → StrsAre ys ms → fin = decide (xs.length < ys.length) → Q (ltK ns ms) s → PySem.W.KatLex P w A b fin Q (xs.zip ys) i s
  | [], [], _, _, _, .nil, .nil, hf, h => by
    rw [hf]
    exact h
  | [], _ :: _, _, _, _, .nil, .cons _ _ _, hf, h => by
    rw [hf]
    exact h
  | _ :: _, [], _, _, _, .cons _ _ _, .nil, hf, h => by
    rw [hf]
    exact h
  | _ :: xs, _ :: ys, _, _, i, .cons x t hx, .cons y u hy, hf, h => by
    refine PySem.W.kat_cons (wpAny_eqBool_str ?_)
    refine PySem.W.kat_go (fun e => ?_) (fun e => ?_)
    · have exy := of_decide_eq_true e
      subst exy
      refine PySem.W.kat_yes (lex_strs (i + 1) hx hy (by rw [hf]; simp) ?_)
      unfold ltK lexL at h
      rw [if_pos rfl] at h
      exact h
    · have exy := of_decide_eq_false e
      refine PySem.W.kat_no (one_str _ ?_)
      unfold ltK lexL at h
      rw [if_neg exy] at h
      exact h
def TupK (h : Heap) (v : Value) (k : List Str) : Prop := ∃ a o its n, v = Value.ref a ∧ h.get? a = some o ∧ o.cls = .type "tuple" ∧ o.data = .seq its n ∧ StrsAre its.toList k
theorem TupK.keeps {h h' : Heap} {v : Value} {k : List Str} (x : TupK h v k) (kp : ∀ b o, h.get? b = some o → o.cls = .type "tuple" → h'.get? b = some o) : TupK h' v k := by
  obtain ⟨a, o, its, n, e, ho, hc, r⟩ := x
  exact ⟨a, o, its, n, e, kp _ _ ho hc, hc, r⟩
theorem firsts_str {h : Heap} {k : Value → List Str} : ∀ {vs : List Value}, (∀ v ∈ vs, TupK h v (k v) ∧ k v ≠ []) → ∃ fs : List Value, PySem.W.KatTups h vs fs ∧ fs.length = vs.length ∧ ∀ f ∈ fs, ∃ x t, f = Value.str x t
  | [], _ => ⟨[], PySem.W.KatTups.nil, rfl, fun _ m => nomatch m⟩
  | v :: vs, hp => by
    obtain ⟨fs, h1, h2, h3⟩ := firsts_str fun u m => hp u (List.mem_cons_of_mem _ m)
    obtain ⟨⟨a, o, its, n, rfl, ho, hc, hd, hS⟩, ne⟩ := hp v List.mem_cons_self
    obtain ⟨l⟩ := its
    cases hk : k (.ref a) with
    | nil => exact absurd hk ne
    | cons x ks =>
      rw [hk] at hS
      cases hS with
      | cons y t r => exact ⟨.str x t :: fs, PySem.W.KatTups.cons ho hc hd rfl h1, by rw [List.length_cons, List.length_cons, h2], fun f m => (List.mem_cons.mp m).elim (fun e => ⟨_, _, e⟩) (h3 f)⟩
theorem sortable_tups {a : Addr} {vs : List Value} {k : Value → List Str} (h0 : 0 < vs.length) (hp : ∀ v ∈ vs, TupK s.heap v (k v) ∧ k v ≠ []) (ha : ∀ o, s.heap.get? a = some o → o.cls ≠ .type "tuple") :
    SrtO.SortableO P w A s a vs fun v u => ltK (k v) (k u) := by
  intro h' keep
  have hp' : ∀ v ∈ vs, TupK h' v (k v) ∧ k v ≠ [] := fun v hm => ⟨(hp v hm).1.keeps fun b o e c => keep b o (fun z => ha o (by rw [← z]; exact e) c) e, (hp v hm).2⟩
  obtain ⟨fs, h1, h2, h3⟩ := firsts_str hp'
  refine ⟨tuples' true, fun Q E hq => ?_, fun p q hm hm' => ?_⟩
  · refine PySem.W.kat_kind (T := .type "str") h1 (by omega) (fun f hm => ?_) (by rfl) ?_
    · obtain ⟨x, t, rfl⟩ := h3 f hm
      exact PySem.W.Looks.now
    · have e : (Value.type "str" != Value.type "tuple") = true := by decide +kernel
      rw [e]
      exact hq
  · obtain ⟨a1, o1, i1, n1, e1, g1, c1, d1, S1⟩ := (hp' _ hm).1
    obtain ⟨a2, o2, i2, n2, e2, g2, c2, d2, S2⟩ := (hp' _ hm').1
    show wpAny (model P w) A (keyLt' (tuples' true) p.1 q.1) (fun r s' => s' = _ ∧ r = ltK (k p.1) (k q.1)) _ _
    generalize k p.1 = k1 at S1 ⊢
    generalize k q.1 = k2 at S2 ⊢
    rw [e1, e2]
    exact PySem.W.kat_lt g1 d1 g2 d2 (lex_strs 0 S1 S2 (by simp) ⟨rfl, rfl⟩)
end
end My

namespace My
open PySem PySem.Spec PyProof.Rows L2
def eS (e : Int × Value) : Str := sOf e.2
def GoodS (w : World) (e : Int × Value) : Prop := ∃ x tk, e = (hashStr w x, Value.str x tk)
structure TabS (w : World) (h : Heap) (a : Addr) (xs : List Str) (es : Array (Int × Value)) (ep : Nat) (t : SetTable) : Prop where
  ob : ∃ o, h.get? a = some o ∧ o.ExactSet ∧ o.data = .set es ep t
  good : ∀ e ∈ es.toList, GoodS w e
  eq : es.toList.map eS = xs
  nd : xs.Nodup
  fit : t.fits es.size = true
  ris : Ris t.place.toList
  led : w.params.followText "set-order" = true ∨ t.led = true
  few : xs.length < 64
section
variable {P : Program} {w : World} {A : Around} {E : Value → Shared → Prop} {s : Shared} {a : Addr} {xs : List Str} {es : Array (Int × Value)} {ep : Nat} {t : SetTable}
theorem goodS_elems {l : List (Int × Value)} (g : ∀ e ∈ l, GoodS w e) : ElemsOf (PySem.strKind P w) l := fun e he => by
  obtain ⟨x, tk, rfl⟩ := g e he
  exact ⟨⟨x, strKind_is P w x tk, rfl⟩, rfl⟩
theorem goodS_is {e : Int × Value} (g : GoodS w e) (k : Str) : (PySem.strKind P w).is k e.2 = true ↔ eS e = k := by
  obtain ⟨x, tk, rfl⟩ := g
  show Value.isStrOf k (.str x tk) = true ↔ x = k
  simp [Value.isStrOf]
theorem TabS.count {h : Heap} (R : TabS w h a xs es ep t) : es.size = xs.length := by
  rw [← R.eq, List.length_map, Array.length_toList]
def PutS (w : World) (h h' : Heap) (a : Addr) (xs : List Str) (k : Str) (xs' : List Str) : Prop :=
  Heap.SameBut a h h' ∧ (∃ es ep t, TabS w h' a xs' es ep t) ∧ (k ∈ xs → xs' = xs) ∧ (k ∉ xs → xs'.Perm (k :: xs))
theorem store_strs {g : Bool → Sem Unit} (hg : ∀ (b : Bool) (z : Shared) (Q' : Unit → Shared → Prop), Q' () z → wpAny (model P w) A (g b) Q' E z) {o : Obj} (ho : s.heap.get? a = some o) (hex : o.ExactSet) (hd : o.data = .set es ep t)
    {es1 : Array (Int × Value)} {t1 : SetTable} (good : ∀ e ∈ es1.toList, GoodS w e) (nd : (es1.toList.map eS).Nodup) (few : es1.size < 64) (fit : t1.fits es1.size = true) (ris : Ris t1.place.toList)
    (led : w.params.followText "set-order" = true ∨ t1.led = true) {dummy : Bool} {R : Option Bool → Shared → Prop}
    (hR : ∀ h' xs', Heap.SameBut a s.heap h' → (∃ es ep t, TabS w h' a xs' es ep t) → xs'.Perm (es1.toList.map eS) → R (some true) { s with heap := h' }) :
    wpAny (model P w) A (do
      storeSet a es1 t1
      if (!dummy && t1.tooFull) = true then do
        g (relayAll t1 es1 (SetTable.grown es1.size)).2.2
        storeSet a (relayAll t1 es1 (SetTable.grown es1.size)).1 (relayAll t1 es1 (SetTable.grown es1.size)).2.1
        pure (some true)
      else pure (some true)) R E s := by
  have few' : es1.size < scanBound := by unfold scanBound; omega
  refine wpAny_bind (wpAny_storeSet_of ho hd ?_ (fits_of_scanBound few'))
  have ho1 := store_at (es' := es1) (t' := t1) ho hd
  have sb := Heap.SameBut.update s.heap a (Obj.putSet es1 t1)
  split
  · have pm := relayAll_perm t1 es1 (SetTable.grown es1.size)
    have f2 := relayAll_fits t1 es1 (SetTable.grown es1.size)
    have r2 := relayAll_ris t1 es1 (SetTable.grown es1.size)
    have l2 := relayAll_led t1 es1 (SetTable.grown es1.size)
    generalize relayAll t1 es1 (SetTable.grown es1.size) = Z at pm f2 r2 l2 ⊢
    obtain ⟨es2, t2, gave⟩ := Z
    dsimp only at pm f2 r2 l2 ⊢
    have cnt : es2.size = es1.size := by rw [← Array.length_toList, pm.length_eq, Array.length_toList]
    refine wpAny_bind (hg _ _ _ (wpAny_bind (wpAny_storeSet_of ho1 rfl ?_ (fits_of_scanBound (by rw [cnt]; exact few')))))
    refine wpAny_pure (hR _ _ (sb.trans (Heap.SameBut.update _ a _)) ⟨es2, _, t2, ⟨_, store_at ho1 rfl, hex, rfl⟩, fun e he => good e (pm.mem_iff.mp he), rfl, (pm.map eS).nodup_iff.mpr nd, f2, r2, by rw [l2]; exact led, ?_⟩ (pm.map eS))
    rw [List.length_map, Array.length_toList, cnt]
    exact few
  · refine wpAny_pure (hR _ _ sb ⟨es1, _, t1, ⟨_, ho1, hex, rfl⟩, good, rfl, nd, fit, ris, led, ?_⟩ (List.Perm.refl _))
    rw [List.length_map, Array.length_toList]
    exact few
theorem add_str (R : TabS w s.heap a xs es ep t) (room : xs.length + 1 < 64) {k : Str} {tk : Tok} {Q : Bool → Shared → Prop} (hQ : ∀ b h' xs', PutS w s.heap h' a xs k xs' → Q b { s with heap := h' }) :
    wpAny (model P w) A (setAddHashed a (.str k tk) (hashStr w k)) Q E s := by
  obtain ⟨o, ho, hex, hd⟩ := R.ob
  have cnt := R.count
  have el : ElemsOf (PySem.strKind P w) es.toList := goodS_elems R.good
  have hkey : (PySem.strKind P w).is k (.str k tk) = true := strKind_is P w k tk
  have hsc : (Value.str k tk).scannable = true := rfl
  have small : es.size < scanBound := by unfold scanBound; omega
  have quiet : ∀ (b : Bool) (z : Shared) (Q' : Unit → Shared → Prop), Q' () z → wpAny (model P w) A (match b with | true => rule "set.scan.the-table-gave-way" | false => pure ()) Q' E z :=
    fun b z Q' q => by cases b <;> first | exact wpAny_pure q | exact wpAny_rule q
  unfold setAddHashed setAddHashedIn
  refine wpAny_holding (wpAny_bind (wpAny_setState_of ho hd R.fit ?_))
  dsimp only
  rw [byScan_of hsc small el]
  simp only [↓reduceIte]
  unfold setAddByScan
  refine wpAny_bind (wpAny_bind (wpAny_rule (wpAny_bind (wpAny_setScan_of hkey ho hd R.fit el ?_))))
  cases hfi : List.findIdx? (fun e => (PySem.strKind P w).is k e.2) es.toList with
  | some j =>
    dsimp only
    obtain ⟨hj, pj, _⟩ := List.findIdx?_eq_some_iff_getElem.mp hfi
    have mem : k ∈ xs := by
      rw [← R.eq]
      exact List.mem_map.mpr ⟨es.toList[j], List.getElem_mem hj, (goodS_is (P := P) (R.good _ (List.getElem_mem hj)) k).mp pj⟩
    exact wpAny_pure (wpAny_pure (hQ _ s.heap xs ⟨Heap.SameBut.refl a s.heap, ⟨es, ep, t, R⟩, fun _ => rfl, fun z => absurd mem z⟩))
  | none =>
    dsimp only
    have nm : k ∉ xs := fun z => by
      rw [← R.eq] at z
      obtain ⟨e, he, q⟩ := List.mem_map.mp z
      have c := List.findIdx?_eq_none_iff.mp hfi e he
      rw [(goodS_is (P := P) (R.good e he) k).mpr q] at c
      cases c
    have pm := layNew_perm t es (hashStr w k) (.str k tk)
    have f1 := layNew_fits t es (hashStr w k) (.str k tk)
    have r1 := layNew_ris t es (hashStr w k) (.str k tk) R.ris
    have l1 := layNew_led t es (hashStr w k) (.str k tk)
    generalize layNew t es (hashStr w k) (.str k tk) = Z at pm f1 r1 l1 ⊢
    obtain ⟨es1, t1, dummy, gave⟩ := Z
    dsimp only at pm f1 r1 l1 ⊢
    rw [Array.toList_push] at pm
    have pc : es1.toList.Perm ((hashStr w k, Value.str k tk) :: es.toList) := pm.trans (List.perm_append_singleton _ _)
    have pk : (es1.toList.map eS).Perm (k :: xs) := by
      have z := pc.map eS
      rw [List.map_cons, R.eq] at z
      exact z
    have good : ∀ e ∈ es1.toList, GoodS w e := fun e he => (List.mem_cons.mp (pc.mem_iff.mp he)).elim (fun z => ⟨k, tk, z⟩) (R.good e)
    have nd : (es1.toList.map eS).Nodup := pk.nodup_iff.mpr (List.nodup_cons.mpr ⟨nm, R.nd⟩)
    have few : es1.size < 64 := by
      have z := pc.length_eq
      rw [Array.length_toList, List.length_cons, Array.length_toList] at z
      omega
    have led : w.params.followText "set-order" = true ∨ t1.led = true := R.led.imp id fun z => by rw [l1]; exact z
    have fin : ∀ h' xs', Heap.SameBut a s.heap h' → (∃ es ep t, TabS w h' a xs' es ep t) → xs'.Perm (es1.toList.map eS) → Q true { s with heap := h' } := fun h' xs' sb r p => hQ true h' xs' ⟨sb, r, fun z => absurd z nm, fun _ => p.trans pk⟩
    refine wpAny_bind (quiet _ _ _ ?_)
    split
    · refine wpAny_bind ?_
      rw [hashByValue_scannable 8 hsc]
      refine wpAny_pure (store_strs quiet ho hex hd good nd few ?_ ?_ ?_ fun h' xs' sb r p => wpAny_pure (fin h' xs' sb r p))
      · first | (split <;> first | exact f1 | exact SetTable.fits_plain_off f1) | exact f1
      · first | (split <;> exact r1) | exact r1
      · first | (split <;> exact led) | exact led
    · refine wpAny_bind (wpAny_pure ?_)
      simp only [↓reduceIte]
      exact store_strs quiet ho hex hd good nd few f1 r1 led fun h' xs' sb r p => wpAny_pure (fin h' xs' sb r p)
end
end My

namespace My
open PySem PySem.Spec PyProof.Rows L2
def SetS (w : World) (a : Addr) (xs : List Str) : HO := .ext fun h => ∃ es ep t, TabS w h a xs es ep t
def SetT (P : Program) (w : World) (a : Addr) (L : List (Addr × List Str)) : HO := .ext fun h => ∃ es ep t, Tab (PySem.strKind P w) h a L es ep t
def SetM (P : Program) (w : World) (a : Addr) (L : List (Addr × List Key)) : HO := .ext fun h => ∃ es ep t, Tab (mixKind P w) h a L es ep t
section
variable {P : Program} {w : World} {A : Around} {E : Value → Shared → Prop} {s : Shared} {h h' : Heap} {H : Hp} {a : Addr} {xs : List Str} {L : List (Addr × List Str)} {es : Array (Int × Value)} {ep : Nat} {t : SetTable}
theorem TabS.at_ (R : TabS w h a xs es ep t) (k : ∀ o, h.get? a = some o → h'.get? a = some o) : TabS w h' a xs es ep t := by
  obtain ⟨o, ho, r⟩ := R.ob
  exact ⟨⟨o, k o ho, r⟩, R.good, R.eq, R.nd, R.fit, R.ris, R.led, R.few⟩
theorem Tab.to (R : Tab (PySem.strKind P w) h a L es ep t) (k : ∀ o, h.get? a = some o → h'.get? a = some o) : Tab (PySem.strKind P w) h' a L es ep t := by
  obtain ⟨o, ho, r⟩ := R.ob
  exact ⟨⟨o, k o ho, r⟩, R.rw_, R.tab, R.nd, R.led, R.room, R.few⟩
theorem Tab.toM {L : List (Addr × List Key)} (R : Tab (mixKind P w) h a L es ep t) (k : ∀ o, h.get? a = some o → h'.get? a = some o) : Tab (mixKind P w) h' a L es ep t := by
  obtain ⟨o, ho, r⟩ := R.ob
  exact ⟨⟨o, k o ho, r⟩, R.rw_, R.tab, R.nd, R.led, R.room, R.few⟩
theorem setM_ok {L : List (Addr × List Key)} (R : ∃ es ep t, Tab (mixKind P w) h a L es ep t) : ObjOk P w H h a (SetM P w a L) := by
  refine ⟨R, ?_, fun h1 h2 ⟨es, ep, t, q⟩ k => ⟨es, ep, t, q.toM k⟩⟩
  obtain ⟨_, _, _, q⟩ := R
  obtain ⟨o, ho, _⟩ := q.ob
  exact ⟨o, ho⟩
theorem setM_at {L : List (Addr × List Key)} (ok : HOk P w H h) (e : H a = some (SetM P w a L)) : ∃ es ep t, Tab (mixKind P w) h a L es ep t := (ok a _ e).1
theorem tabM_new (ho : h.get? a = some { cls := .type "set", dict := none, data := .set #[] 0 (.fresh 0 0 (!w.params.followText "set-order")) }) : Tab (mixKind P w) h a [] #[] 0 (.fresh 0 0 (!w.params.followText "set-order")) where
  ob := ⟨_, ho, ⟨rfl, rfl, rfl⟩, rfl⟩
  rw_ := rfl
  tab := ⟨List.Pairwise.nil, rfl, rfl, .inl rfl, (fun x z => nomatch z), fun i h j z => nomatch z⟩
  nd := List.nodup_nil
  led := by
    show _ ∨ (!w.params.followText "set-order") = true
    cases w.params.followText "set-order" <;> simp
  room := by
    show 0 * 5 < 7 * 3
    decide
  few := by decide
theorem setS_ok (R : ∃ es ep t, TabS w h a xs es ep t) : ObjOk P w H h a (SetS w a xs) := by
  refine ⟨R, ?_, fun h1 h2 ⟨es, ep, t, q⟩ k => ⟨es, ep, t, q.at_ k⟩⟩
  obtain ⟨_, _, _, q⟩ := R
  obtain ⟨o, ho, _⟩ := q.ob
  exact ⟨o, ho⟩
theorem setT_ok (R : ∃ es ep t, Tab (PySem.strKind P w) h a L es ep t) : ObjOk P w H h a (SetT P w a L) := by
  refine ⟨R, ?_, fun h1 h2 ⟨es, ep, t, q⟩ k => ⟨es, ep, t, q.to k⟩⟩
  obtain ⟨_, _, _, q⟩ := R
  obtain ⟨o, ho, _⟩ := q.ob
  exact ⟨o, ho⟩
theorem setS_at (ok : HOk P w H h) (e : H a = some (SetS w a xs)) : ∃ es ep t, TabS w h a xs es ep t := (ok a _ e).1
theorem setT_at (ok : HOk P w H h) (e : H a = some (SetT P w a L)) : ∃ es ep t, Tab (PySem.strKind P w) h a L es ep t := (ok a _ e).1
theorem tabS_new (ho : h.get? a = some { cls := .type "set", dict := none, data := .set #[] 0 (.fresh 0 0 (!w.params.followText "set-order")) }) : TabS w h a [] #[] 0 (.fresh 0 0 (!w.params.followText "set-order")) where
  ob := ⟨_, ho, ⟨rfl, rfl, rfl⟩, rfl⟩
  good := fun e z => by simp at z
  eq := rfl
  nd := List.nodup_nil
  fit := rfl
  ris := List.Pairwise.nil
  led := by
    show _ ∨ (!w.params.followText "set-order") = true
    cases w.params.followText "set-order" <;> simp
  few := by decide
theorem tabT_new (ho : h.get? a = some { cls := .type "set", dict := none, data := .set #[] 0 (.fresh 0 0 (!w.params.followText "set-order")) }) : Tab (PySem.strKind P w) h a [] #[] 0 (.fresh 0 0 (!w.params.followText "set-order")) where
  ob := ⟨_, ho, ⟨rfl, rfl, rfl⟩, rfl⟩
  rw_ := rfl
  tab := ⟨List.Pairwise.nil, rfl, rfl, .inl rfl, (fun x z => nomatch z), fun i h j z => nomatch z⟩
  nd := List.nodup_nil
  led := by
    show _ ∨ (!w.params.followText "set-order") = true
    cases w.params.followText "set-order" <;> simp
  room := by
    show 0 * 5 < 7 * 3
    decide
  few := by decide

theorem sorted_set_by {ltv : Value → Value → Bool} (O : SrtO.Swo ltv) (hh : A.handled = none) (ha : SetAt s.heap a es ep t) (hf : t.fits es.size = true) (few : es.size < 64) (r : Ris t.place.toList) (hl : w.params.followText "set-order" = true ∨ t.led = true)
    (hS : ∀ (vs : List Value) (z : Shared) (l : Addr), vs.Perm (es.toList.map (·.2)) → (∀ b o, s.heap.get? b = some o → b ≠ l ∧ z.heap.get? b = some o) → z.heap.get? l = some (seqObj "list" vs.toArray 0) → 2 ≤ vs.length → SrtO.SortableO P w A.in1.in1 z l vs ltv) {Q : Value → Shared → Prop}
    (hQ : ∀ z p (out : List Value) (c : Nat), (∀ b o, s.heap.get? b = some o → z.heap.get? b = some o) → z.gens = s.gens → z.os = s.os → s.heap.objs.size ≤ p → z.heap.get? p = some (seqObj "list" out.toArray c) → SrtO.Srtd ltv out → out.Perm (es.toList.map (·.2)) → Q (.ref p) z) :
    wpAny (model P w) A (call (.builtin "sorted") [.ref a]) Q E s := by
  refine Calls.call_function_entry kind_sorted plain_sorted entry_sorted (args_sorted1 _) ?_
  unfold Builtin.«sorted»
  refine wpAny_bind (m := checkCount "sorted" 1 1 _) (wpAny_pure (wpAny_bind (collect_set (A := A.in1) hh ha hf (by unfold scanBound; omega) r hl fun z vs kp hz g1 o1 pm => ?_)))
  have cnt : vs.length = es.size := by rw [pm.length_eq, List.length_map, Array.length_toList]
  refine wpAny_bind (wpAny_newList ?_ (by rw [sizeLine_eq]; omega))
  have at_ : (z.heap.push (seqObj "list" vs.toArray 0)).get? z.heap.objs.size = some (seqObj "list" vs.toArray 0) := Heap.get?_push_size _ rfl
  have keep : ∀ b o, s.heap.get? b = some o → b ≠ z.heap.objs.size ∧ (z.heap.push (seqObj "list" vs.toArray 0)).get? b = some o := fun b o e => ⟨Nat.ne_of_lt (Heap.lt_size (kp b o e)), Heap.get?_push_of_some _ (kp b o e)⟩
  refine wpAny_bind (wpAny_holding (wpAny_call_entry slot_list_sort ⟨_, at_, rfl⟩ entry_list_sort
    (SrtO.list_sort_ord (s := { z with heap := z.heap.push (seqObj "list" vs.toArray 0) }) O at_ (by rw [sizeLine_eq]; omega) (fun h2 => hS vs { z with heap := z.heap.push (seqObj "list" vs.toArray 0) } z.heap.objs.size pm keep at_ h2) fun out hs hb => ⟨_, rfl, ?_⟩) (args_list_sort _)))
  obtain ⟨c, hc⟩ := sortedHeap_at (vs := vs) (out := out.toArray) at_
  refine wpAny_pure ⟨_, rfl, hQ _ z.heap.objs.size out c (fun b o e => ?_) g1 o1 hz hc hs (hb.perm.trans pm)⟩
  have lt := Heap.lt_size (kp b o e)
  show (sortedHeap (z.heap.push (seqObj "list" vs.toArray 0)) z.heap.objs.size vs out.toArray).get? b = some o
  rw [sortedHeap_old (Nat.ne_of_lt lt) (by rw [size_push']; exact Nat.lt_succ_of_lt lt)]
  exact (keep b o e).2
end
def rSortS (w : World) : List V → Hp → VK → Prop := fun vs H Q => ∃ (a : Addr) (ts : List Str), vs = [V.ref a] ∧ H a = some (SetS w a ts) ∧
  ∀ (ys : List Str) (p : Addr), Asc ltS ys → ys.Perm ts → H p = none → Q (.ref p) (upd H p (.lst (ys.map V.str)))
def rSortT (K : PySem.W.Frag) (P : Program) (w : World) : List V → Hp → VK → Prop := fun vs H Q => ∃ (a : Addr) (L : List (Addr × List Str)), vs = [V.ref a] ∧ H a = some (SetT P w a L) ∧ (∀ q ∈ L, SqT K H q.1 (q.2.map V.str) ∧ q.2 ≠ []) ∧
  ∀ (L' : List (Addr × List Str)) (p : Addr), L'.Perm L → Asc ltK (L'.map (·.2)) → H p = none → Q (.ref p) (upd H p (.lst (L'.map fun q => V.ref q.1)))
section
variable {X : Cx}
theorem vals_strs : ∀ {us : List Value}, (∀ u ∈ us, ∃ x t, u = Value.str x t) → Vals (us.map fun u => V.str (sOf u)) us
  | [], _ => .nil
  | u :: us, h => by
    obtain ⟨x, t, rfl⟩ := h u List.mem_cons_self
    exact .cons ⟨t, rfl⟩ (vals_strs fun v m => h v (List.mem_cons_of_mem _ m))
theorem cr_sortS (hc : X.calm = true) : CallR X (.builtin "sorted") (rSortS X.w) := by
  intro pins s σ H vs us Q I r h
  obtain ⟨a, ts, rfl, ha, q⟩ := h
  obtain ⟨u, rfl, ru⟩ := vals1 r
  cases (show u = Value.ref a from ru)
  obtain ⟨es, ep, t, R⟩ := setS_at I.hok ha
  obtain ⟨o, ho, hex, hd⟩ := R.ob
  have cnt := R.count
  have few := R.few
  have texts : ∀ vs : List Value, vs.Perm (es.toList.map (·.2)) → ∀ v ∈ vs, ∃ x t, v = Value.str x t := fun vs pm v hv => by
    obtain ⟨e, he, rfl⟩ := List.mem_map.mp (pm.mem_iff.mp hv)
    obtain ⟨x, tk, rfl⟩ := R.good e he
    exact ⟨x, tk, rfl⟩
  refine sorted_set_by (ltv := fun v u => ltS (sOf v) (sOf u)) ⟨fun x y => tot_str.swo.asym _ _, fun x y z => tot_str.swo.tr _ _ _⟩ (I.ok.hd hc) ⟨o, ho, hex.1, hd⟩ R.fit (by omega) R.ris R.led (fun vs z l pm kp hl h2 => sortable_strs h2 (texts vs pm)) fun z p out c kp hg hos hp hat hs pm => ?_
  have hn : H p = none := I.hok.fresh hp
  have pS : (out.map sOf).Perm ts := by
    have z := pm.map sOf
    rw [List.map_map] at z
    rw [← R.eq]
    exact z
  have len : out.length ≤ sizeLine := by
    have z := pS.length_eq
    rw [List.length_map] at z
    rw [sizeLine_eq]
    omega
  have hz : z.heap.get? p = some { cls := .type "list", data := .seq out.toArray c } := hat
  have str : ∀ v ∈ out, ∃ x t, v = Value.str x t := texts out pm
  have new : ObjOk X.prog X.w (upd H p (.lst ((out.map sOf).map V.str))) z.heap p (.lst ((out.map sOf).map V.str)) := ⟨by rw [List.length_map, List.length_map]; exact len, out, c, by rw [List.map_map]; exact vals_strs str, hz⟩
  have I3 : Inv X pins σ (upd H p (.lst ((out.map sOf).map V.str))) z := I.call' (ch := []) hos (Un.laid kp hp hn) (I.hok.laid kp hp new) (by rw [hg]; exact I.bare) fun _ m => nomatch m
  exact ⟨.ref p, _, I3, rfl, q (out.map sOf) p (asc_of tot_str (List.pairwise_map.mpr hs) (pS.nodup_iff.mpr R.nd)) pS hn⟩
theorem tup_at {pins : List (Addr × Obj)} {σ : L2.St} {H : Hp} {s : Shared} (I : Inv X pins σ H s) {b : Addr} {k : List Str} (h : SqT X.K H b (k.map V.str)) : TupK s.heap (.ref b) k ∧ IsTupleKey (PySem.strKind X.prog X.w) s.heap k b := by
  obtain ⟨its, rv, ⟨o, ho, hc, n, hd⟩, _⟩ := I.tuple h
  have S := strsAre_of rv
  refine ⟨⟨b, o, _, n, rfl, ho, hc, hd, by simpa using S⟩, o, _, n, ho, hc, hd, ?_⟩
  have go : ∀ {vs : List Value} {ks : List Str}, StrsAre vs ks → PySem.ItemsAre (PySem.strKind X.prog X.w) ks vs := by
    intro vs ks q
    induction q with
    | nil => exact .nil
    | cons y t _ ih => exact .cons (strKind_is X.prog X.w y t) ih
  exact go (by simpa using S)
theorem tupM_at {pins : List (Addr × Obj)} {σ : L2.St} {H : Hp} {s : Shared} (I : Inv X pins σ H s) {b : Addr} {k : List Key} (h : SqT X.K H b (k.map kV)) : IsTupleKey (mixKind X.prog X.w) s.heap k b := by
  obtain ⟨its, rv, ⟨o, ho, hc, n, hd⟩, _⟩ := I.tuple h
  exact ⟨o, _, n, ho, hc, hd, by simpa using items_are rv⟩
theorem map_str_inj : ∀ {k m : List Str}, k.map V.str = m.map V.str → k = m
  | [], [], _ => rfl
  | [], _ :: _, h => by simp at h
  | _ :: _, [], h => by simp at h
  | x :: k, y :: m, h => by
    rw [List.map_cons, List.map_cons] at h
    obtain ⟨h1, h2⟩ := List.cons.inj h
    rw [V.str.inj h1, map_str_inj h2]
def kOf (L : List (Addr × List Str)) (v : Value) : List Str := match v with
  | .ref b => ((L.find? fun q => q.1 == b).map (·.2)).getD []
  | _ => []
def pOf (L : List (Addr × List Str)) (v : Value) : Addr × List Str := (match v with | .ref b => b | _ => 0, kOf L v)
theorem kOf_at {L : List (Addr × List Str)} (one : ∀ p ∈ L, ∀ q ∈ L, p.1 = q.1 → p.2 = q.2) {q : Addr × List Str} (hq : q ∈ L) : kOf L (.ref q.1) = q.2 := by
  show ((L.find? fun p => p.1 == q.1).map (·.2)).getD [] = q.2
  cases e : L.find? fun p => p.1 == q.1 with
  | none => exact absurd (List.find?_eq_none.mp e q hq) (by simp)
  | some p =>
    have h1 : p.1 = q.1 := by simpa using List.find?_some e
    exact one p (List.mem_of_find?_eq_some e) q hq h1
theorem cr_sortT (hc : X.calm = true) : CallR X (.builtin "sorted") (rSortT X.K X.prog X.w) := by
  intro pins s σ H vs us Q I r h
  obtain ⟨a, L, rfl, ha, ht, q⟩ := h
  obtain ⟨u, rfl, ru⟩ := vals1 r
  cases (show u = Value.ref a from ru)
  obtain ⟨es, ep, t, R⟩ := setT_at I.hok ha
  obtain ⟨o, ho, hex, hd⟩ := R.ob
  have cnt := R.count
  have few := R.few
  have one : ∀ p ∈ L, ∀ q ∈ L, p.1 = q.1 → p.2 = q.2 := fun p hp q hq e => by
    have h1 := (ht p hp).1
    rw [e] at h1
    exact map_str_inj (I.tuple_inj h1 (ht q hq).1)
  have vals : es.toList.map (·.2) = L.map fun p => Value.ref p.1 := by
    rw [R.rw_]
    unfold rows
    rw [List.map_map]
    rfl
  have each : ∀ vs : List Value, vs.Perm (es.toList.map (·.2)) → ∀ v ∈ vs, ∃ p ∈ L, v = Value.ref p.1 ∧ kOf L v = p.2 := fun vs pm v hv => by
    rw [vals] at pm
    obtain ⟨p, hp, rfl⟩ := List.mem_map.mp (pm.mem_iff.mp hv)
    exact ⟨p, hp, rfl, kOf_at one hp⟩
  refine sorted_set_by (ltv := fun v u => ltK (kOf L v) (kOf L u)) ⟨fun x y => tot_key.swo.asym _ _, fun x y z => tot_key.swo.tr _ _ _⟩ (I.ok.hd hc) ⟨o, ho, hex.1, hd⟩ R.fits (by omega) R.tab.ris R.led (fun vs z l pm kp hl h2 => ?_) fun z p out c kp hg hos hp hat hs pm => ?_
  · refine sortable_tups (by omega) (fun v hv => ?_) fun o' e' c' => ?_
    · obtain ⟨p, hp, rfl, e⟩ := each vs pm v hv
      rw [e]
      exact ⟨(tup_at I (ht p hp).1).1.keeps fun b o e _ => (kp b o e).2, (ht p hp).2⟩
    · rw [hl] at e'
      cases e'
      exact absurd (Value.type.inj c') (by decide)
  · have hn : H p = none := I.hok.fresh hp
    have refs : ∀ v ∈ out, v = Value.ref (pOf L v).1 := fun v hv => by
      obtain ⟨p, _, rfl, _⟩ := each out pm v hv
      rfl
    have back : (es.toList.map (·.2)).map (pOf L) = L := by
      rw [vals, List.map_map]
      refine (List.map_congr_left fun p hp => ?_).trans (List.map_id L)
      exact Prod.ext rfl (kOf_at one hp)
    have pL : (out.map (pOf L)).Perm L := by
      have z := pm.map (pOf L)
      rw [back] at z
      exact z
    have len : out.length ≤ sizeLine := by
      have z := pL.length_eq
      rw [List.length_map] at z
      rw [sizeLine_eq]
      omega
    have asc : Asc ltK ((out.map (pOf L)).map (·.2)) := asc_of tot_key (by
      rw [List.map_map]
      exact List.pairwise_map.mpr hs) ((pL.map (·.2)).nodup_iff.mpr R.nd)
    have rel : ∀ l : List Value, (∀ v ∈ l, v = Value.ref (pOf L v).1) → Vals ((l.map (pOf L)).map fun q => V.ref q.1) l := by
      intro l
      induction l with
      | nil => intro _; exact .nil
      | cons v l ih => intro h; exact .cons (h v List.mem_cons_self) (ih fun u hu => h u (List.mem_cons_of_mem _ hu))
    have hz : z.heap.get? p = some { cls := .type "list", data := .seq out.toArray c } := hat
    have new : ObjOk X.prog X.w (upd H p (.lst ((out.map (pOf L)).map fun q => V.ref q.1))) z.heap p (.lst ((out.map (pOf L)).map fun q => V.ref q.1)) := ⟨by rw [List.length_map, List.length_map]; exact len, out, c, rel out refs, hz⟩
    exact ⟨.ref p, _, I.call' (ch := []) hos (Un.laid kp hp hn) (I.hok.laid kp hp new) (by rw [hg]; exact I.bare) (fun _ m => nomatch m), rfl, q _ p pL asc hn⟩
end
end My

namespace My
open PySem PySem.Spec PyProof.Rows L2
abbrev set0 (w : World) : Obj := { cls := .type "set", dict := none, data := .set #[] 0 (.fresh 0 0 (!w.params.followText "set-order")) }
structure Fill (P : Program) (w : World) (A : Around) (h0 : Heap) (a : Addr) (items : Array Value) (C : Type) (F : Heap → C → Prop) (J : Nat → C → Prop) : Prop where
  moves : ∀ h h' c, F h c → (∀ o, h.get? a = some o → h'.get? a = some o) → F h' c
  add : ∀ (A' : Around) (i : Nat) (v : Value) (c : C) (z : Shared) (Q : Bool → Shared → Prop) (E : Value → Shared → Prop), A'.units ≤ A.units + 8 → items[i]? = some v → F z.heap c → J i c → (∀ b o, h0.get? b = some o → z.heap.get? b = some o) →
    (∀ b h' tk c', Heap.SameBut a z.heap h' → z.toks ≤ tk → F h' c' → J (i + 1) c' → Q b { z with heap := h', toks := tk }) → wpAny (model P w) A' (setAdd a v) Q E z
section
variable {P : Program} {w : World} {A B : Around} {E : Value → Shared → Prop} {h0 : Heap} {a : Addr} {items : Array Value} {C : Type} {F : Heap → C → Prop} {J : Nat → C → Prop}
theorem fill_loop (K : Fill P w B h0 a items C F J) (hu : A.units + 1 ≤ B.units + 8) {I : Addr} {fp wr : List Addr} {G : Array GenState → Array GenState → Prop} {Pv : Nat → Value → Prop} {St : Nat → Shared → Prop} {R : Result → Shared → Prop}
    (W : WalksS P w A.in1 I fp wr G items.size Pv St) (hf : a ∉ fp) (hv : ∀ i v, Pv i v → items[i]? = some v) (ha : h0.get? a = none) (hw : ∀ b ∈ wr, h0.get? b = none) :
    ∀ (k i : Nat) (s : Shared) (c : C), items.size - i = k → i ≤ items.size → St i s → (∀ b o, h0.get? b = some o → s.heap.get? b = some o) → F s.heap c → J i c →
      (∀ s' c', Moved (a :: wr) G s s' → F s'.heap c' → J items.size c' → (∀ b o, h0.get? b = some o → s'.heap.get? b = some o) → R (.ok (.ret .none)) s') →
      codeAny (model P w) A (.builtin "set.update.loop" ⟨[.ref a, .ref I], []⟩) R s := by
  have aw : a ∉ wr := fun z => hf (W.sub _ z)
  have up : ∀ b ∈ wr, b ∈ a :: wr := fun b z => List.mem_cons_of_mem _ z
  have kept : ∀ {s s' : Shared}, Moved wr G s s' → (∀ b o, h0.get? b = some o → s.heap.get? b = some o) → ∀ b o, h0.get? b = some o → s'.heap.get? b = some o := fun m k b o e =>
    m.heap b o (fun z => by rw [hw b z] at e; cases e) (k b o e)
  intro k
  induction k with
  | zero =>
    intro i s c hk hi st kp hF hJ hR
    obtain rfl : i = items.size := by omega
    refine codeAny_builtin PyProof.Rows.F.entry_set_update_loop ?_
    rw [Around.under_plainId PyProof.Rows.F.plain_set_update_loop _]
    show wpAny _ A.in1 (pyNext (.ref I) >>= _) _ _ s
    refine wpAny_bind (W.done s _ _ st fun s' m => ?_)
    exact wpAny_pure (hR s' c (m.mono up) (K.moves _ _ _ hF fun o e => m.heap a o aw e) hJ (kept m kp))
  | succ k ih =>
    intro i s c hk hi st kp hF hJ hR
    have lt : i < items.size := by omega
    refine codeAny_builtin PyProof.Rows.F.entry_set_update_loop ?_
    rw [Around.under_plainId PyProof.Rows.F.plain_set_update_loop _]
    show wpAny _ A.in1 (pyNext (.ref I) >>= _) _ _ s
    refine wpAny_bind (W.item i s _ _ lt st fun v s1 pv st1 m => ?_)
    show wpAny _ A.in1 (holding [v] (setAdd a v) >>= _) _ _ s1
    refine wpAny_bind (wpAny_holding (K.add A.in1 i v c s1 _ _ hu (hv i v pv) (K.moves _ _ _ hF fun o e => m.heap a o aw e) hJ (kept m kp) fun b h2 tk c2 sb lk hF2 hJ2 => ?_))
    have kp2 : ∀ b o, h0.get? b = some o → h2.get? b = some o := fun b o e => (sb.2 b (fun z => by rw [z, ha] at e; cases e)).trans (kept m kp b o e)
    refine wpAny_pure ⟨plainId_quiet PyProof.Rows.F.plain_set_update_loop _, ih (i + 1) _ c2 (by omega) lt (W.frame _ s1 _ _ st1 lk fun b hb o e => ?_) kp2 hF2 hJ2 fun s3 c3 m3 hF3 hJ3 kp3 => ?_⟩
    · rw [sb.2 b (fun z => hf (by rw [← z]; exact hb))]
      exact e
    · refine hR s3 c3 (Moved.trans W.gtrans ((m.mono up).then_heap lk fun b o hb e => ?_) m3) hF3 hJ3 kp3
      rw [sb.2 b (fun z => hb (by rw [z]; exact List.mem_cons_self))]
      exact e
set_option maxHeartbeats 4000000 in
theorem set_of {s : Shared} {l : Addr} {Q : Value → Shared → Prop} (hh : A.handled = none) (hl : s.heap.IsList l items ∨ s.heap.IsTuple l items) (K : Fill P w A s.heap s.heap.objs.size items C F J) {c0 : C}
    (hF : ∀ h, h.get? s.heap.objs.size = some (set0 w) → F h c0) (hJ : J 0 c0)
    (h : ∀ (h' : Heap) (tk : Nat) (c : C), F h' c → J items.size c → (∀ b o, s.heap.get? b = some o → h'.get? b = some o) → Q (.ref s.heap.objs.size) { s with heap := h', toks := tk }) :
    wpAny (model P w) A (call (.type "set") [.ref l]) Q E s := by
  obtain ⟨c1, tl, hmro⟩ := PySem.F.called_set.mro
  have hmade := PySem.F.called_set.made
  have hsub := PySem.F.called_set.sub
  refine wpAny_call (codeAny_of_tree ?_)
  show wpAny _ _ (callAny (.type "set") _) _ _ _
  refine wpAny_pure ⟨Code.quiet_builtin _ (by decide +kernel), codeAny_builtin PySem.F.entry_type_call ?_⟩
  rw [Around.under_plain (weight_type_call_type "set" [.ref l] []) rfl]
  have h1 := PySem.F.called_set.notType
  have h2 := PySem.F.called_set.canCreate
  have hct := PySem.F.typeCall_set_1 (.ref l)
  repeat (any_goals (first | assumption | wp_step))
  refine codeAny_mono (code_set_led1 (.ref l) (E := E) (Q₁ := fun v z => v = .ref s.heap.objs.size ∧ z = { s with heap := s.heap.push (set0 w) }) ⟨rfl, rfl⟩) fun r z hr => ?_
  cases r with
  | error e => exact hr
  | ok fl =>
    cases fl with
    | ret v =>
      obtain ⟨rfl, rfl⟩ := hr
      have hS : (s.heap.push (set0 w)).get? s.heap.objs.size = some (set0 w) := Heap.get?_push_size _ rfl
      have hT : Shared.TypeIs { s with heap := s.heap.push (set0 w) } (.ref s.heap.objs.size) "set" := ⟨_, hS, rfl⟩
      have hli := PySem.F.called_set.init.lookup
      have hbi := PySem.F.called_set.init.bind (.ref s.heap.objs.size)
      repeat (any_goals (first | assumption | wp_step))
      refine codeAny_mono (codeAny_call_builtin (R := wants (fun r z => r = .none ∧ ∃ h' tk c, z = { s with heap := h', toks := tk } ∧ F h' c ∧ J items.size c ∧ (∀ b o, s.heap.get? b = some o → h'.get? b = some o)) E)
        PySem.F.called_set.init.plain PySem.F.entry_set_init (check_set_init_1 hT ?_)) fun r z hr => ?_
      · have gone : ∀ b, s.heap.objs.size ≤ b → s.heap.get? b = none := fun b hb => by
          cases q : s.heap.get? b with
          | none => rfl
          | some o => exact absurd (Nat.lt_of_lt_of_le (Heap.lt_size q) hb) (Nat.lt_irrefl _)
        have h3 : A.in1.in1.in1.handled = none := by simp [hh]
        have z1 : (s.heap.push (set0 w)).objs.size = s.heap.objs.size + 1 := Heap.size_push ..
        have run : ∀ (ob : Obj) (Pv : Nat → Value → Prop) (St : Nat → Shared → Prop), l < s.heap.objs.size →
            WalksS P w A.in1.in1.in1 (s.heap.push (set0 w)).objs.size [(s.heap.push (set0 w)).objs.size, l] [(s.heap.push (set0 w)).objs.size] (fun a b => b = a) items.size Pv St → (∀ i v, Pv i v → items[i]? = some v) →
            St 0 { s with heap := (s.heap.push (set0 w)).push ob } →
            ∀ (R : Result → Shared → Prop), (∀ h' tk c, F h' c → J items.size c → (∀ b o, s.heap.get? b = some o → h'.get? b = some o) → R (.ok (.ret .none)) { s with heap := h', toks := tk }) →
            codeAny (model P w) A.in1.in1 (.builtin "set.update.loop" ⟨[.ref s.heap.objs.size, .ref (s.heap.push (set0 w)).objs.size], []⟩) R { s with heap := (s.heap.push (set0 w)).push ob } := by
          intro ob Pv St ll W hv st R hR
          have hget : ((s.heap.push (set0 w)).push ob).get? s.heap.objs.size = some (set0 w) := Heap.get?_push_of_some _ hS
          refine fill_loop K (by show A.units + 1 + 1 + 1 ≤ _; omega) W ?_ hv (gone _ (Nat.le_refl _)) (fun b hb => gone b ?_) (items.size - 0) 0 _ c0 rfl (Nat.zero_le _) st (fun b o e => Heap.get?_push_of_some _ (Heap.get?_push_of_some _ e)) (hF _ hget) hJ fun s' c m hF' hJ' kp => ?_
          · rw [z1]
            simp only [List.mem_cons, List.not_mem_nil, or_false, not_or]
            exact ⟨Nat.ne_of_lt (Nat.lt_succ_self _), Nat.ne_of_gt ll⟩
          · rw [List.mem_singleton.mp hb, z1]
            exact Nat.le_succ _
          · obtain ⟨hp, gn, dr, tk, os⟩ := s'
            have eg := m.gens
            have ed := m.drawn
            have eo := m.os
            dsimp only at eg ed eo
            subst eg ed eo
            exact hR hp tk c hF' hJ' kp
        rcases hl with hl | hl
        · obtain ⟨ol, hol, hcl, nl, hdl⟩ := hl
          obtain ⟨oc, od, oda, osl⟩ := ol
          simp only at hcl hdl
          subst hcl hdl
          have ll := Heap.lt_size hol
          have hne2 : l ≠ (s.heap.push (set0 w)).objs.size := by
            rw [z1]
            exact Nat.ne_of_lt (Nat.lt_succ_of_lt ll)
          have hol' : (s.heap.push (set0 w)).get? l = some { cls := .type "list", dict := od, data := .seq items nl, slots := osl } := Heap.get?_push_of_some _ hol
          have hsls := PySem.F.sub_list_set
          have hslf := PySem.F.sub_list_frozenset
          have hne : (Value.type "list" == Value.type "dict") = false := by decide
          have hl1 : (s.heap.push (set0 w)).IsList l items := ⟨_, hol', rfl, nl, rfl⟩
          unfold Builtin.«set.__init__» noKeywords Builtin.Frozenset.updateFrom
          generalize hPI : pyIter = PI
          wp_walk
          subst hPI
          refine wpAny_pyIter_list hl1 (wpAny_bind (wpAny_runValue ?_))
          refine run _ _ _ ll ((Walks.list h3 _ l hne2 items).toS) (fun i v e => e) ⟨⟨_, Heap.get?_push_size _ rfl, rfl, rfl⟩, hl1.push _⟩ _ fun h' tk c hF' hJ' kp => ?_
          refine wpAny_pure ?_
          exact wpAny_pure ⟨rfl, h', tk, c, rfl, hF', hJ', kp⟩
        · obtain ⟨ol, hol, hcl, nl, hdl⟩ := hl
          obtain ⟨oc, od, oda, osl⟩ := ol
          simp only at hcl hdl
          subst hcl hdl
          have ll := Heap.lt_size hol
          have hne2 : l ≠ (s.heap.push (set0 w)).objs.size := by
            rw [z1]
            exact Nat.ne_of_lt (Nat.lt_succ_of_lt ll)
          have hol' : (s.heap.push (set0 w)).get? l = some { cls := .type "tuple", dict := od, data := .seq items nl, slots := osl } := Heap.get?_push_of_some _ hol
          have hsls := PySem.F.sub_tuple_set
          have hslf := PySem.F.sub_tuple_frozenset
          have hne : (Value.type "tuple" == Value.type "dict") = false := by decide
          have hl1 : (s.heap.push (set0 w)).IsTuple l items := ⟨_, hol', rfl, nl, rfl⟩
          unfold Builtin.«set.__init__» noKeywords Builtin.Frozenset.updateFrom
          generalize hPI : pyIter = PI
          wp_walk
          subst hPI
          refine wpAny_pyIter_tuple hl1 (wpAny_bind (wpAny_runValue ?_))
          refine run _ _ _ ll ((Walks.tuple h3 _ l hne2 items).toS) (fun i v e => e) ⟨⟨_, Heap.get?_push_size _ rfl, rfl, rfl⟩, hl1.push _⟩ _ fun h' tk c hF' hJ' kp => ?_
          refine wpAny_pure ?_
          exact wpAny_pure ⟨rfl, h', tk, c, rfl, hF', hJ', kp⟩
      · cases r with
        | error e => exact hr
        | ok fl2 =>
          cases fl2 with
          | ret r =>
            obtain ⟨rfl, h', tk, c, rfl, hF', hJ', kp⟩ := hr
            repeat (any_goals (first | assumption | wp_step))
            exact h _ _ _ hF' hJ' kp
          | _ => exact hr.elim
    | _ => exact hr.elim
end
end My

namespace My
open PySem PySem.Spec PyProof.Rows L2
def AddS (xs : List Str) (k : Str) (xs' : List Str) : Prop := (k ∈ xs → xs' = xs) ∧ (k ∉ xs → xs'.Perm (k :: xs))
def AddT (L : List (Addr × List Str)) (b : Addr) (k : List Str) (L' : List (Addr × List Str)) : Prop := (k ∈ L.map (·.2) → L' = L) ∧ (k ∉ L.map (·.2) → L'.Perm ((b, k) :: L))
def AddM (L : List (Addr × List Key)) (b : Addr) (k : List Key) (L' : List (Addr × List Key)) : Prop := (k ∈ L.map (·.2) → L' = L) ∧ (k ∉ L.map (·.2) → L'.Perm ((b, k) :: L))
theorem AddM.keys {L L' : List (Addr × List Key)} {b : Addr} {k : List Key} (h : AddM L b k L') (x : List Key) : x ∈ L'.map (·.2) ↔ x = k ∨ x ∈ L.map (·.2) := by
  by_cases c : k ∈ L.map (·.2)
  · rw [h.1 c]
    exact ⟨.inr, fun z => z.elim (fun e => by rw [e]; exact c) id⟩
  · rw [((h.2 c).map (·.2)).mem_iff, List.map_cons, List.mem_cons]
theorem AddM.len {L L' : List (Addr × List Key)} {b : Addr} {k : List Key} (h : AddM L b k L') : L'.length ≤ L.length + 1 := by
  by_cases c : k ∈ L.map (·.2)
  · rw [h.1 c]
    omega
  · rw [(h.2 c).length_eq]
    exact Nat.le_refl _
theorem AddM.sub {L L' : List (Addr × List Key)} {b : Addr} {k : List Key} (h : AddM L b k L') {p : Addr × List Key} (hp : p ∈ L') : p = (b, k) ∨ p ∈ L := by
  by_cases c : k ∈ L.map (·.2)
  · rw [h.1 c] at hp
    exact .inr hp
  · exact List.mem_cons.mp ((h.2 c).mem_iff.mp hp)
theorem scan_mix (P : Program) (w : World) : Scan (mixKind P w) := fun k v h => by
  rw [mixKind_is] at h
  cases k with
  | inr x =>
    obtain ⟨t, rfl⟩ := Value.isStrOf_shape (x := x) (v := v) h
    rfl
  | inl i =>
    cases v with
    | int j t => rfl
    | _ => exact absurd h (by simp [keyIs, Value.isInt])
theorem AddS.mem {xs xs' : List Str} {k : Str} (h : AddS xs k xs') (x : Str) : x ∈ xs' ↔ x = k ∨ x ∈ xs := by
  by_cases c : k ∈ xs
  · rw [h.1 c]
    exact ⟨.inr, fun z => z.elim (fun e => e ▸ c) id⟩
  · rw [(h.2 c).mem_iff]
    exact List.mem_cons
theorem AddS.len {xs xs' : List Str} {k : Str} (h : AddS xs k xs') : xs'.length ≤ xs.length + 1 := by
  by_cases c : k ∈ xs
  · rw [h.1 c]
    omega
  · rw [(h.2 c).length_eq]
    exact Nat.le_refl _
theorem AddT.keys {L L' : List (Addr × List Str)} {b : Addr} {k : List Str} (h : AddT L b k L') (x : List Str) : x ∈ L'.map (·.2) ↔ x = k ∨ x ∈ L.map (·.2) := by
  by_cases c : k ∈ L.map (·.2)
  · rw [h.1 c]
    exact ⟨.inr, fun z => z.elim (fun e => e ▸ c) id⟩
  · rw [((h.2 c).map (·.2)).mem_iff]
    exact List.mem_cons
theorem AddT.sub {L L' : List (Addr × List Str)} {b : Addr} {k : List Str} (h : AddT L b k L') {p : Addr × List Str} (hp : p ∈ L') : p = (b, k) ∨ p ∈ L := by
  by_cases c : k ∈ L.map (·.2)
  · rw [h.1 c] at hp
    exact .inr hp
  · exact List.mem_cons.mp ((h.2 c).mem_iff.mp hp)
theorem AddT.len {L L' : List (Addr × List Str)} {b : Addr} {k : List Str} (h : AddT L b k L') : L'.length ≤ L.length + 1 := by
  by_cases c : k ∈ L.map (·.2)
  · rw [h.1 c]
    omega
  · rw [(h.2 c).length_eq]
    exact Nat.le_refl _
section
variable {P : Program} {w : World} {A : Around} {E : Value → Shared → Prop} {s : Shared} {a : Addr}
theorem setAdd_str {xs : List Str} {es : Array (Int × Value)} {ep : Nat} {t : SetTable} (R : TabS w s.heap a xs es ep t) (room : xs.length + 1 < 64) {k : Str} {tk : Tok} {Q : Bool → Shared → Prop}
    (hQ : ∀ b h' tk xs', s.toks ≤ tk → PutS w s.heap h' a xs k xs' → Q b { s with heap := h', toks := tk }) : wpAny (model P w) A (setAdd a (.str k tk)) Q E s := by
  unfold setAdd
  refine wpAny_holding (wpAny_bind ((PySem.strKind P w).pyHash (strKind_is P w k tk) ?_))
  exact add_str (s := { s with toks := s.toks + 1 }) R room fun b h' xs' p => hQ b h' _ xs' (Nat.le_succ _) p
theorem setAdd_tup {L : List (Addr × List Str)} {es : Array (Int × Value)} {ep : Nat} {t : SetTable} (R : Tab (PySem.strKind P w) s.heap a L es ep t) (tup : ∀ p ∈ L, IsTupleKey (PySem.strKind P w) s.heap p.2 p.1) (room : L.length + 1 < 64) {b : Addr} {k : List Str}
    (hb : IsTupleKey (PySem.strKind P w) s.heap k b) (hu : A.units < cLine) {Q : Bool → Shared → Prop} (hQ : ∀ c h' tk L', s.toks ≤ tk → Put (PySem.strKind P w) s.heap h' a L b k L' → Q c { s with heap := h', toks := tk }) :
    wpAny (model P w) A (setAdd a (.ref b)) Q E s := by
  unfold setAdd
  refine wpAny_holding (wpAny_bind (wpAny_pyHash_tuple hu hb ?_))
  exact add_tab (s := { s with toks := s.toks + (k.length + 1) }) (scan_str P w) R tup hb hu room fun c h' L' p => hQ c h' _ L' (Nat.le_add_right _ _) p
end
section
variable {P : Program} {w : World} {A : Around} {E : Value → Shared → Prop} {s : Shared} {a : Addr}
theorem setAdd_tupM {L : List (Addr × List Key)} {es : Array (Int × Value)} {ep : Nat} {t : SetTable} (R : Tab (mixKind P w) s.heap a L es ep t) (tup : ∀ p ∈ L, IsTupleKey (mixKind P w) s.heap p.2 p.1) (room : L.length + 1 < 64) {b : Addr} {k : List Key}
    (hb : IsTupleKey (mixKind P w) s.heap k b) (hu : A.units < cLine) {Q : Bool → Shared → Prop} (hQ : ∀ c h' tk L', s.toks ≤ tk → Put (mixKind P w) s.heap h' a L b k L' → Q c { s with heap := h', toks := tk }) :
    wpAny (model P w) A (setAdd a (.ref b)) Q E s := by
  unfold setAdd
  refine wpAny_holding (wpAny_bind (wpAny_pyHash_tuple hu hb ?_))
  exact add_tab (s := { s with toks := s.toks + (k.length + 1) }) (scan_mix P w) R tup hb hu room fun c h' L' p => hQ c h' _ L' (Nat.le_add_right _ _) p
end
section
variable {X : Cx}
theorem seq_at {pins : List (Addr × Obj)} {σ : L2.St} {H : Hp} {s : Shared} (I : Inv X pins σ H s) {l : Addr} {vs : List V} (h : SqL X.K H l vs ∨ SqT X.K H l vs) : ∃ its : List Value, Vals vs its ∧ (s.heap.IsList l its.toArray ∨ s.heap.IsTuple l its.toArray) := by
  rcases h with h | h
  · obtain ⟨its, rv, hl, _⟩ := I.list h
    exact ⟨its, rv, .inl hl.isList⟩
  · obtain ⟨its, rv, ⟨o, ho, hc, n, hd⟩, _⟩ := I.tuple h
    exact ⟨its, rv, .inr ⟨o, ho, hc, n, hd⟩⟩
theorem take_mem {α : Type} {l : List α} {i : Nat} {x : α} (h : l[i]? = some x) (y : α) : y ∈ l.take (i + 1) ↔ y = x ∨ y ∈ l.take i := by
  rw [List.take_add_one, h]
  simp [or_comm]
end
end My

namespace SrtO
open PySem PySem.Spec PyProof.Rows
section
variable {prog : Program} {w : World} {A : Around} {E : Value → Shared → Prop} {s : Shared}
theorem my_collect_tup {l : Addr} {vs : List Value} {Q : List Value → Shared → Prop} (hl : IsTup s.heap l vs.toArray)
    (h : Q vs { s with heap := (s.heap.push (seqObj "list" #[] 0)).update s.heap.objs.size (Obj.mapSeq (· ++ vs.toArray)) }) (hsz : vs.length ≤ sizeLine) :
    wpAny (model prog w) A (collect (.ref l)) Q E s := by
  obtain ⟨o, ho, hc, n, hd⟩ := id hl
  unfold collect
  refine wpAny_bind (wpAny_runValue (codeAny_builtin entry_proto_collect' ?_))
  show wpAny _ _ (do again (.builtin "list.__iadd__" ⟨[← newList [], .ref l], []⟩)) _ _ s
  refine wpAny_bind (wpAny_newList (wpAny_pure ⟨Code.quiet_builtin _ (by decide +kernel), codeAny_builtin entry_list_iadd' ?_⟩))
  show wpAny _ _ (Builtin.List.listExtendWith (.ref s.heap.objs.size) (.ref l) (.ref s.heap.objs.size)) _ _ { s with heap := s.heap.push (seqObj "list" #[] 0) }
  unfold Builtin.List.listExtendWith
  have ho' : (s.heap.push (seqObj "list" #[] 0)).get? l = some o := Heap.get?_push_of_some _ ho
  refine wpAny_bind (wpAny_typeOf (T := "tuple") ⟨o, ho', hc⟩ ?_)
  have ht : (Value.type "tuple" == Value.type "tuple") = true := by rfl
  rw [if_pos (by rw [ht]; simp)]
  refine wpAny_bind (listItems_at ho' hd ?_)
  refine wpAny_bind (listItems_at (xs := #[]) (n := 0) (Heap.get?_push_size _ rfl) rfl ?_)
  rw [if_neg (by simp)]
  refine wpAny_bind (listUpdate_at (xs := #[]) (n := 0) (Heap.get?_push_size _ rfl) rfl ?_ (Nat.zero_le _) (by show (#[] ++ vs.toArray).size ≤ sizeLine + 1; simp only [Array.size_append, List.size_toArray, List.length_nil]; omega))
  refine wpAny_pure ?_
  show wpAny (model prog w) A (do
      let o ← load s.heap.objs.size
      match o.data with
      | .seq xs _ => pure xs.toList
      | _ => unsupported "internal:collect") Q E { s with heap := (s.heap.push (seqObj "list" #[] 0)).update s.heap.objs.size (Obj.mapSeq (· ++ vs.toArray)) }
  refine wpAny_bind (wpAny_load (get?_update_seq (Heap.get?_push_size _ rfl) _) ?_)
  show wpAny _ _ (pure ((#[] : Array Value) ++ vs.toArray).toList) Q E _
  rw [show ((#[] : Array Value) ++ vs.toArray).toList = vs by simp]
  exact wpAny_pure h
theorem my_sorted_tup {l : Addr} {vs : List Value} {ltv : Value → Value → Bool} {Q : Value → Shared → Prop} (O : Swo ltv) (hl : IsTup s.heap l vs.toArray) (hz : vs.length ≤ sizeLine)
    (hS : 2 ≤ vs.length → ∀ (h₁ : Heap) (a : Addr), h₁.get? a = some (seqObj "list" vs.toArray 0) → (∀ b o, s.heap.get? b = some o → b ≠ a ∧ h₁.get? b = some o) → SortableO prog w A.in1.in1 { s with heap := h₁ } a vs ltv)
    (h : ∀ out : List Value, Srtd ltv out → Stb ltv out vs → Q (.ref (s.heap.objs.size + 1)) { s with heap := sortedAll s.heap vs out.toArray }) :
    wpAny (model prog w) A (call (.builtin "sorted") [.ref l]) Q E s := by
  refine Calls.call_function_entry kind_sorted plain_sorted entry_sorted (args_sorted1 _) ?_
  unfold Builtin.«sorted»
  refine wpAny_bind (m := checkCount "sorted" 1 1 _) (wpAny_pure ?_)
  refine wpAny_bind (my_collect_tup hl ?_ hz)
  refine wpAny_bind (wpAny_newList ?_ hz)
  have hsz : ((s.heap.push (seqObj "list" #[] 0)).update s.heap.objs.size (Obj.mapSeq (· ++ vs.toArray))).objs.size = s.heap.objs.size + 1 := by
    rw [Heap.size_update, size_push']
  have hoL : (((s.heap.push (seqObj "list" #[] 0)).update s.heap.objs.size (Obj.mapSeq (· ++ vs.toArray))).push (seqObj "list" vs.toArray 0)).get? (s.heap.objs.size + 1) = some (seqObj "list" vs.toArray 0) := by
    rw [← hsz]; exact Heap.get?_push_size _ rfl
  have keep : ∀ b o, s.heap.get? b = some o → b ≠ s.heap.objs.size + 1 ∧ (((s.heap.push (seqObj "list" #[] 0)).update s.heap.objs.size (Obj.mapSeq (· ++ vs.toArray))).push (seqObj "list" vs.toArray 0)).get? b = some o := fun b o q => by
    have hlt : b < s.heap.objs.size := Heap.lt_size q
    refine ⟨Nat.ne_of_lt (Nat.lt_succ_of_lt hlt), Heap.get?_push_of_some _ ?_⟩
    rw [Heap.get?_update_ne _ _ _ _ (Nat.ne_of_lt hlt)]
    exact Heap.get?_push_of_some _ q
  show wpAny _ _ _ _ _ { s with heap := ((s.heap.push (seqObj "list" #[] 0)).update s.heap.objs.size (Obj.mapSeq (· ++ vs.toArray))).push (seqObj "list" vs.toArray 0) }
  rw [hsz]
  refine wpAny_bind (wpAny_holding (wpAny_call_entry slot_list_sort ⟨_, hoL, rfl⟩ entry_list_sort (list_sort_ord O hoL hz (fun h2 => hS h2 _ _ hoL keep) fun out hs hb => ⟨_, rfl, ?_⟩) (args_list_sort _)))
  exact wpAny_pure ⟨_, rfl, h out hs hb⟩
end
end SrtO
namespace My
open PySem PySem.Spec PyProof.Rows L2
theorem refs_vals : ∀ {L : List (Addr × List Str)} {its : List Value}, Vals (L.map fun q => V.ref q.1) its → its = L.map fun p => Value.ref p.1
  | [], _, h => by
    cases h
    rfl
  | p :: r, _, h => by
    cases h with
    | cons h1 h2 =>
      rw [refs_vals h2]
      cases h1
      rfl
section
variable {X : Cx}
end
end My

namespace My
open PySem PySem.Spec PyProof.Rows L2
theorem nd_le {α : Type} [DecidableEq α] : ∀ {l D : List α}, l.Nodup → (∀ x ∈ l, x ∈ D) → l.length ≤ D.length
  | [], _, _, _ => Nat.zero_le _
  | x :: l, D, hn, hs => by
    obtain ⟨h1, h2⟩ := List.nodup_cons.mp hn
    have hx : x ∈ D := hs x List.mem_cons_self
    have ih := nd_le (D := D.erase x) h2 fun y hy => (List.mem_erase_of_ne fun e => h1 (by rw [← e]; exact hy)).2 (hs y (List.mem_cons_of_mem _ hy))
    have e := List.length_erase_of_mem hx
    have hp : 0 < D.length := List.length_pos_of_mem hx
    rw [List.length_cons]
    omega
def rSetOfT2 (K : PySem.W.Frag) (P : Program) (w : World) : List V → Hp → VK → Prop := fun vs H Q => ∃ (l : Addr) (ks : List (Addr × List Str)), vs = [V.ref l] ∧ (SqL K H l (ks.map fun p => V.ref p.1) ∨ SqT K H l (ks.map fun p => V.ref p.1)) ∧ (∀ ys : List (List Str), ys.Nodup → (∀ y ∈ ys, y ∈ ks.map (·.2)) → ys.length < 63) ∧
  (∀ p ∈ ks, SqT K H p.1 (p.2.map V.str)) ∧
  ∀ (a : Addr) (L : List (Addr × List Str)), (∀ p ∈ L, p ∈ ks) → (∀ k, k ∈ L.map (·.2) ↔ k ∈ ks.map (·.2)) → H a = none → Q (.ref a) (upd H a (SetT P w a L))
section
variable {X : Cx}
theorem cr_setT2 (hc : X.calm = true) (hu : X.A.units + 64 < cLine) : CallR X (.type "set") (rSetOfT2 X.K X.prog X.w) := by
  intro pins s σ H vs us Q I r h
  obtain ⟨l, ks, rfl, hl, few, hk, q⟩ := h
  obtain ⟨u, rfl, ru⟩ := vals1 r
  cases (show u = Value.ref l from ru)
  obtain ⟨its, rv, hl⟩ := seq_at I hl
  have cnt : its.toArray.size = ks.length := by
    have z := rv.length
    rw [List.length_map] at z
    simp [← z]
  have tup : ∀ p ∈ ks, IsTupleKey (PySem.strKind X.prog X.w) s.heap p.2 p.1 := fun p hp => (tup_at I (hk p hp)).2
  have carry : ∀ {z : Shared} {p : Addr × List Str}, (∀ b o, s.heap.get? b = some o → z.heap.get? b = some o) → IsTupleKey (PySem.strKind X.prog X.w) s.heap p.2 p.1 → IsTupleKey (PySem.strKind X.prog X.w) z.heap p.2 p.1 := fun kp ⟨o, its, n, ho, r⟩ => ⟨o, its, n, kp _ _ ho, r⟩
  refine set_of (C := List (Addr × List Str)) (F := fun h L => ∃ es ep t, Tab (PySem.strKind X.prog X.w) h s.heap.objs.size L es ep t) (J := fun i L => (∀ p ∈ L, p ∈ ks) ∧ (∀ k, k ∈ L.map (·.2) ↔ k ∈ (ks.take i).map (·.2))) (I.ok.hd hc) hl
    ⟨fun h h' c ⟨es, ep, t, R⟩ k => ⟨es, ep, t, R.to k⟩, fun A' i v c z Q' E' hu' hv ⟨es, ep, t, R⟩ ⟨j1, j2⟩ kp hQ => ?_⟩ (c0 := []) (fun h e => ⟨_, _, _, tabT_new e⟩) ⟨fun p z => (nomatch z), fun k => by simp⟩ fun h' tk c hF ⟨j1, j2⟩ kp => ?_
  · have hv' : its[i]? = some v := by simpa using hv
    have hi : i < ks.length := by
      rw [← cnt]
      exact (Array.getElem?_eq_some_iff.mp hv).1
    obtain ⟨u, hu2, ru⟩ := rv.get (i := i) (x := V.ref ks[i].1) (by rw [List.getElem?_map, List.getElem?_eq_getElem hi]; rfl)
    rw [hv'] at hu2
    cases hu2
    cases (show v = Value.ref ks[i].1 from ru)
    have mk : ks[i] ∈ ks := List.getElem_mem hi
    have room := few (c.map (·.2)) R.nd fun y hy => by
      obtain ⟨q, hq, e⟩ := List.mem_map.mp hy
      exact List.mem_map.mpr ⟨q, j1 q hq, e⟩
    rw [List.length_map] at room
    refine setAdd_tup R (fun p hp => carry kp (tup p (j1 p hp))) (by omega) (k := ks[i].2) (carry kp (tup _ mk)) (by omega) fun b h' tk L' lk ⟨sb, R', p1, p2⟩ => hQ b h' tk L' sb lk R' ⟨fun p hp => ?_, fun k => ?_⟩
    · rcases AddT.sub (L := c) ⟨p1, p2⟩ hp with e | e
      · rw [e]
        exact mk
      · exact j1 p e
    · rw [AddT.keys (L := c) (b := ks[i].1) ⟨p1, p2⟩ k, j2 k, List.map_take, List.map_take, take_mem (l := ks.map (·.2)) (x := ks[i].2) (by rw [List.getElem?_map, List.getElem?_eq_getElem hi]; rfl)]
  · have hn : H s.heap.objs.size = none := I.hok.fresh (Nat.le_refl _)
    rw [cnt] at j2
    exact ⟨.ref _, _, I.laid (t' := tk) kp (Nat.le_refl _) (setT_ok hF), rfl, q _ c j1 (fun k => by rw [j2 k, List.take_length]) hn⟩
end
end My

namespace My
open PySem PySem.Spec PyProof.Rows L2
def marks (m : Nat) : Nat → Nat → Nat → Nat
  | 0, _, M => M
  | k + 1, x, M => marks m k ((x * 5 + 1) % (m + 1)) (M ||| 1 <<< x)
theorem lcgI_next (m x : Nat) : ∀ k, lcgI m ((x * 5 + 1) % (m + 1)) k = lcgI m x (k + 1)
  | 0 => rfl
  | k + 1 => congrArg (fun z => (z * 5 + 1) % (m + 1)) (lcgI_next m x k)
theorem bit_one {x j : Nat} : (1 <<< x).testBit j = decide (x = j) := by
  rw [Nat.one_shiftLeft]
  exact Nat.testBit_two_pow
theorem marks_bit {m j : Nat} : ∀ (k x M : Nat), (marks m k x M).testBit j = true → M.testBit j = true ∨ ∃ i, i < k ∧ lcgI m x i = j
  | 0, _, _, h => .inl h
  | k + 1, x, M, h => by
    rcases marks_bit k _ _ h with c | ⟨i, l, e⟩
    · rw [Nat.testBit_or, Bool.or_eq_true, bit_one, decide_eq_true_iff] at c
      rcases c with c | c
      · exact .inl c
      · exact .inr ⟨0, Nat.succ_pos k, c⟩
    · exact .inr ⟨i + 1, Nat.succ_lt_succ l, by rw [← lcgI_next]; exact e⟩
theorem lcgI_plus (m x a : Nat) : ∀ k, lcgI m (lcgI m x a) k = lcgI m x (a + k)
  | 0 => rfl
  | k + 1 => congrArg (fun z => (z * 5 + 1) % (m + 1)) (lcgI_plus m x a k)
structure MaskW (m : Nat) : Prop where
  odd : m % 2 = 1
  far : m ≤ 9000
  meets : ∀ (h : Int) (j : Nat), j ≤ m → ∃ n, n ≤ m + 12 ∧ runI m (SetTable.bits h) n = j
theorem maskW_of {m : Nat} (odd : m % 2 = 1) (far : m ≤ 9000) (all : marks m (m + 1) 0 0 = 2 ^ (m + 1) - 1) (per : lcgI m 0 (m + 1) = 0) : MaskW m := by
  have hit : ∀ j, j ≤ m → ∃ i, i ≤ m ∧ lcgI m 0 i = j := fun j hj => by
    have b : (marks m (m + 1) 0 0).testBit j = true := by
      rw [all, Nat.testBit_two_pow_sub_one]
      exact decide_eq_true (Nat.lt_succ_of_le hj)
    rcases marks_bit _ _ _ b with c | ⟨i, l, e⟩
    · rw [Nat.zero_testBit] at c
      cases c
    · exact ⟨i, Nat.le_of_lt_succ l, e⟩
  have again : ∀ k, lcgI m 0 (m + 1 + k) = lcgI m 0 k := fun k => by
    rw [← lcgI_plus, per]
  refine ⟨odd, far, fun h j hj => ?_⟩
  obtain ⟨a, ha, ea⟩ := hit _ (runI_le m (SetTable.bits h) 12)
  obtain ⟨b, hb, eb⟩ := hit j hj
  have go : ∀ k, runI m (SetTable.bits h) (12 + k) = lcgI m 0 (a + k) := fun k => by
    rw [runI_tail (bits_lt h), ← ea, lcgI_plus]
  by_cases c : a ≤ b
  · refine ⟨12 + (b - a), by omega, ?_⟩
    rw [go, show a + (b - a) = b by omega]
    exact eb
  · refine ⟨12 + (m + 1 + b - a), by omega, ?_⟩
    rw [go, show a + (m + 1 + b - a) = m + 1 + b by omega, again]
    exact eb
theorem mw7 : MaskW 7 := maskW_of rfl (by decide) (by decide +kernel) (by decide +kernel)
theorem mw31 : MaskW 31 := maskW_of rfl (by decide) (by decide +kernel) (by decide +kernel)
theorem mw127 : MaskW 127 := maskW_of rfl (by decide) (by decide +kernel) (by decide +kernel)
theorem mw511 : MaskW 511 := maskW_of rfl (by decide) (by decide +kernel) (by decide +kernel)
theorem mw2047 : MaskW 2047 := maskW_of rfl (by decide) (by decide +kernel) (by decide +kernel)
theorem mw8191 : MaskW 8191 := maskW_of rfl (by decide) (by decide +kernel) (by decide +kernel)
theorem slot_met {m : Nat} (W : MaskW m) (h : Int) {j : Nat} (hj : j ≤ m) : ∃ k, k < 10 * SetTable.turns m ∧ way m h k = j := by
  obtain ⟨n, hn, e⟩ := W.meets h j hj
  obtain ⟨k, hk, e2⟩ := run_nth m (SetTable.bits h) n
  refine ⟨k, by unfold SetTable.turns; omega, ?_⟩
  show (nth m _ k).j = j
  rw [e2]
  exact e
theorem way_in (m : Nat) (h : Int) (k : Nat) : way m h k ≤ m := by
  have i : SetTable.bits h % (m + 1) ≤ m := Nat.le_of_lt_succ (Nat.mod_lt _ (Nat.succ_pos m))
  have r := (runEnd_bd i).1
  have g := (runEnd_bd i).2.1
  have z := nth_in (m := m) k (runAt m (SetTable.bits h % (m + 1)) (SetTable.bits h)) (show SetTable.bits h % (m + 1) + (SetTable.runEnd m (SetTable.bits h % (m + 1)) - SetTable.bits h % (m + 1)) ≤ m by omega)
  exact Nat.le_trans (Nat.le_add_right _ _) z
structure TabW (t : SetTable) (hs : List Int) : Prop where
  mw : MaskW t.mask
  ris : Ris t.place.toList
  dm : t.dummies = #[]
  sz : t.place.size = hs.length
  bd : ∀ x ∈ t.place.toList, x ≤ t.mask
  reach : ∀ (i : Nat) (h : Int) (j : Nat), hs[i]? = some h → t.place.toList[i]? = some j → ∃ k, way t.mask h k = j ∧ ∀ k', k' < k → way t.mask h k' ∈ t.place.toList
theorem way_first {p : Nat → Prop} {k : Nat} (hk : p k) : ∃ K, K ≤ k ∧ p K ∧ ∀ k', k' < K → ¬ p k' := st_least k hk
theorem TabW.first {t : SetTable} {hs : List Int} (T : TabW t hs) (l : hs.length ≤ t.mask) (h : Int) : ∃ K, K < 10 * SetTable.turns t.mask ∧ way t.mask h K ∉ t.place.toList ∧ ∀ k, k < K → way t.mask h k ∈ t.place.toList := by
  obtain ⟨j, lj, nj⟩ := st_missing t.place.toList (t.mask + 1) (by
    rw [Array.length_toList, T.sz]
    omega)
  obtain ⟨k, lk, e⟩ := slot_met T.mw h (Nat.le_of_lt_succ lj)
  obtain ⟨K, a, b, c⟩ := way_first (p := fun k => way t.mask h k ∉ t.place.toList) (k := k) (by rw [e]; exact nj)
  exact ⟨K, Nat.lt_of_le_of_lt a lk, b, fun k' l' => Classical.byContradiction (c k' l')⟩
theorem TabW.before {t : SetTable} {hs : List Int} (T : TabW t hs) {h : Int} {K i j : Nat} (hK : way t.mask h K ∉ t.place.toList) (hi : hs[i]? = some h) (hj : t.place.toList[i]? = some j) : ∃ k, k < K ∧ way t.mask h k = j := by
  obtain ⟨k, e, up⟩ := T.reach i h j hi hj
  refine ⟨k, Nat.lt_of_not_le fun le => ?_, e⟩
  rcases Nat.lt_or_eq_of_le le with c | c
  · exact hK (up K c)
  · exact hK (by rw [c, e]; exact List.mem_of_getElem? hj)
theorem TabW.off {t : SetTable} {hs : List Int} (T : TabW t hs) : TabW { t with plain := false } hs := ⟨T.mw, T.ris, T.dm, T.sz, T.bd, T.reach⟩
theorem TabW.put {t : SetTable} {hs : List Int} (T : TabW t hs) {h : Int} {j K : Nat} (ej : way t.mask h K = j) (nj : j ∉ t.place.toList) (up : ∀ k, k < K → way t.mask h k ∈ t.place.toList) :
    (t.put j).2 = SetTable.below t.place j ∧ SetTable.below t.place j ≤ hs.length ∧ TabW (t.put j).1 (hs.take (SetTable.below t.place j) ++ h :: hs.drop (SetTable.below t.place j)) ∧ (t.put j).1.mask = t.mask ∧ (t.put j).1.led = t.led ∧ (t.put j).1.fill = hs.length + 1 := by
  have cut := (below_cut T.ris j).1
  have l1 : SetTable.below t.place j ≤ t.place.toList.length := cut
  have l2 : SetTable.below t.place j ≤ hs.length := by
    rw [← T.sz]
    exact cut
  have pl := put_place t j
  have sz : (t.put j).1.place.size = hs.length + 1 := by
    rw [← Array.length_toList, pl, len_ins _ l1, Array.length_toList, T.sz]
  have more : ∀ x ∈ t.place.toList, x ∈ (t.put j).1.place.toList := fun x hx => by
    rw [pl]
    exact mem_ins.mpr (.inr hx)
  have wider : ∀ {h' : Int} {j' : Nat}, (∃ k, way t.mask h' k = j' ∧ ∀ k', k' < k → way t.mask h' k' ∈ t.place.toList) → ∃ k, way t.mask h' k = j' ∧ ∀ k', k' < k → way t.mask h' k' ∈ (t.put j).1.place.toList := fun ⟨k, e, z⟩ => ⟨k, e, fun k' l => more _ (z k' l)⟩
  refine ⟨rfl, l2, ⟨T.mw, ris_insert T.ris fun e => nj (List.mem_of_getElem? ((Array.getElem?_toList).trans e)), put_dm T.dm j, ?_, fun x hx => ?_, fun i h' j' e1 e2 => ?_⟩, rfl, rfl, ?_⟩
  · rw [len_ins _ l2, sz]
  · rw [pl] at hx
    rcases mem_ins.mp hx with rfl | hx
    · rw [← ej]
      exact way_in _ _ _
    · exact T.bd x hx
  · rw [tins_get hs l2] at e1
    rw [pl, tins_get _ l1] at e2
    rcases Nat.lt_trichotomy i (SetTable.below t.place j) with c | c | c
    · rw [if_pos c] at e1 e2
      exact wider (T.reach i h' j' e1 e2)
    · rw [if_neg (by omega), if_pos c] at e1 e2
      cases e1
      cases e2
      exact wider ⟨K, ej, up⟩
    · rw [if_neg (by omega), if_neg (by omega)] at e1 e2
      exact wider (T.reach (i - 1) h' j' e1 e2)
  · show (t.put j).1.place.size + (t.put j).1.dummies.size = hs.length + 1
    rw [sz, put_dm T.dm j]
    rfl
theorem own_step {m : Nat} (W : MaskW m) {done : List Int} {owner : Array (Option Nat)} (O : Own m done owner) (l : done.length ≤ m) (h : Int) :
    ∃ j, stepF m (some (owner, done.length)) h = some (owner.setIfInBounds j (some done.length), done.length + 1) ∧ Own m (done ++ [h]) (owner.setIfInBounds j (some done.length)) := by
  obtain ⟨ps, lp, cover⟩ := O.ps
  obtain ⟨f, lf, nf⟩ := st_missing ps (m + 1) (by omega)
  have ff : oAt owner f = none := Classical.byContradiction fun c => nf (cover f (Nat.le_of_lt_succ lf) c)
  obtain ⟨n, ln, en⟩ := W.meets h f (Nat.le_of_lt_succ lf)
  have at_ : way m h (L2.off m (SetTable.bits h % (m + 1)) (SetTable.bits h) n) = f := by
    show (nth m _ _).j = f
    rw [nth_off, itL_run]
    exact en
  obtain ⟨K, lK, eK, bK⟩ := way_first (p := fun k => oAt owner (way m h k) = none) (k := L2.off m (SetTable.bits h % (m + 1)) (SetTable.bits h) n) (by rw [at_]; exact ff)
  have found := free_spec m owner (SetTable.turns m) n (SetTable.bits h % (m + 1)) (SetTable.bits h) K (by unfold SetTable.turns; omega) lK (fun k lk => by
    cases c : oAt owner (nth m (runAt m (SetTable.bits h % (m + 1)) (SetTable.bits h)) k).j with
    | none => exact absurd c (bK k lk)
    | some _ => rfl) (by rw [show oAt owner (nth m (runAt m (SetTable.bits h % (m + 1)) (SetTable.bits h)) K).j = none from eK]; rfl)
  have inM := way_in m h K
  generalize hj : way m h K = j at inM eK
  rw [show (nth m (runAt m (SetTable.bits h % (m + 1)) (SetTable.bits h)) K).j = j from hj] at found
  have js : j < owner.size := by
    rw [O.sz]
    exact Nat.lt_succ_of_le inM
  have self := oAt_set_self (some done.length) js
  have stays : ∀ {i : Nat}, oAt owner i ≠ none → oAt (owner.setIfInBounds j (some done.length)) i = oAt owner i := fun {i} hi => oAt_set_ne _ fun e => hi (by rw [e]; exact eK)
  have full : ∀ {i : Nat}, oAt owner i ≠ none → oAt (owner.setIfInBounds j (some done.length)) i ≠ none := fun {i} hi => by
    rw [stays hi]
    exact hi
  refine ⟨j, stepF_some found, ⟨by rw [Array.size_setIfInBounds]; exact O.sz, fun i k hi e => ?_, fun k hk => ?_, ⟨j :: ps, by simp [lp], fun i hi e => ?_⟩⟩⟩
  · by_cases c : i = j
    · subst c
      rw [self] at e
      cases e
      exact ⟨h, K, by simp, hj, fun k' l' => full (bK k' l')⟩
    · rw [oAt_set_ne _ c] at e
      obtain ⟨h', K', a, b, d⟩ := O.at_ i k hi e
      exact ⟨h', K', (List.getElem?_append_left (List.getElem?_eq_some_iff.mp a).1).trans a, b, fun k' l' => full (d k' l')⟩
  · by_cases c : k < done.length
    · obtain ⟨i, hi, e⟩ := O.all k c
      exact ⟨i, hi, (stays (by rw [e]; exact Option.some_ne_none k)).trans e⟩
    · have ek : k = done.length := by
        rw [List.length_append, List.length_singleton] at hk
        omega
      exact ⟨j, inM, by rw [self, ek]⟩
  · by_cases c : i = j
    · exact List.mem_cons.mpr (.inl c)
    · rw [oAt_set_ne _ c] at e
      exact List.mem_cons_of_mem _ (cover i hi e)
theorem own_all {m : Nat} (W : MaskW m) : ∀ (rest done : List Int) (owner : Array (Option Nat)), Own m done owner → done.length + rest.length ≤ m → ∃ owner', rest.foldl (stepF m) (some (owner, done.length)) = some (owner', (done ++ rest).length) ∧ Own m (done ++ rest) owner'
  | [], done, owner, O, _ => ⟨owner, by rw [List.append_nil]; rfl, by rw [List.append_nil]; exact O⟩
  | h :: rest, done, owner, O, l => by
    rw [List.length_cons] at l
    obtain ⟨j, e, O1⟩ := own_step W O (by omega) h
    have e1 : done.length + 1 = (done ++ [h]).length := by simp
    obtain ⟨o2, f, O2⟩ := own_all W rest (done ++ [h]) _ O1 (by rw [← e1]; omega)
    rw [List.append_assoc] at f O2
    refine ⟨o2, ?_, O2⟩
    rw [List.foldl_cons, e, e1]
    exact f
theorem relaid_w (t : SetTable) {hs : Array Int} {wanted M : Nat} (hw : SetTable.sizeAbove wanted - 1 = M) (W : MaskW M) (l : hs.size ≤ M) :
    ∃ t' order, t.relaid hs wanted = some (t', order) ∧ order.toList.Perm (List.range hs.size) ∧ TabW t' (order.toList.map fun i => hs.getD i 0) ∧ t'.mask = M ∧ t'.led = t.led := by
  obtain ⟨owner, f, O⟩ := own_all W hs.toList [] _ (Own.init M) (by rw [List.length_nil, Array.length_toList, Nat.zero_add]; exact l)
  rw [List.nil_append] at f O
  have lay : SetTable.layClean M hs = some owner := by
    rw [layClean_eq]
    exact congrArg (Option.map (·.1)) f
  have ris := ris_live (fun j => owner.getD j none) (List.range (M + 1)) (by
    unfold Ris
    first | exact List.pairwise_lt_range | exact List.pairwise_lt_range _)
  have r1 : Ris ((liveOf M owner).map (·.1)) := ris.1
  have r2 : ∀ x ∈ (liveOf M owner).map (·.1), x ∈ List.range (M + 1) := ris.2
  obtain ⟨ps, lp, cover⟩ := O.ps
  have seat : ∀ k, k < hs.size → ∃ j, (j, k) ∈ liveOf M owner := fun k hk => by
    obtain ⟨j, a, b⟩ := O.all k (by rw [Array.length_toList]; exact hk)
    exact ⟨j, (mem_live O.sz).mpr ⟨a, b⟩⟩
  have nd : ((liveOf M owner).map (·.1)).Nodup := List.Pairwise.imp (fun h => Nat.ne_of_lt h) r1
  have len : (liveOf M owner).length = hs.size := by
    have hz : hs.toList.length = hs.size := Array.length_toList
    have up := nat_nodup_len ((liveOf M owner).map (·.1)) ps nd fun x hx => by
      obtain ⟨⟨y, k⟩, hq, e⟩ := List.mem_map.mp hx
      obtain ⟨a, b⟩ := (mem_live O.sz).mp hq
      rw [← e]
      exact cover y a (by rw [b]; exact Option.some_ne_none k)
    have dn := nat_nodup_len (List.range hs.size) ((liveOf M owner).map (·.2)) List.nodup_range fun k hk => by
      obtain ⟨j, m⟩ := seat k (List.mem_range.mp hk)
      exact List.mem_map.mpr ⟨(j, k), m, rfl⟩
    rw [List.length_map, lp] at up
    rw [List.length_map, List.length_range] at dn
    omega
  refine ⟨tabOf t M owner, ((liveOf M owner).map (·.2)).toArray, by rw [relaid_eq, hw, lay]; rfl, ?_, ⟨W, r1, rfl, ?_, fun x hx => Nat.le_of_lt_succ (List.mem_range.mp (r2 x hx)), fun i h j e1 e2 => ?_⟩, rfl, rfl⟩
  · refine perm_range hs.size _ (by show ((liveOf M owner).map (·.2)).length = _; rw [List.length_map]; exact len) fun k hk => ?_
    obtain ⟨j, m⟩ := seat k hk
    exact List.mem_map.mpr ⟨(j, k), m, rfl⟩
  · show ((liveOf M owner).map (·.1)).toArray.size = (((liveOf M owner).map (·.2)).map fun i => hs.getD i 0).length
    simp
  · have e1' : (((liveOf M owner).map (·.2)).map fun i => hs.getD i 0)[i]? = some h := e1
    have e2' : ((liveOf M owner).map (·.1))[i]? = some j := e2
    rw [List.map_map, List.getElem?_map] at e1'
    rw [List.getElem?_map] at e2'
    obtain ⟨⟨y, k⟩, hq, ey⟩ := Option.map_eq_some_iff.mp e2'
    rw [hq] at e1'
    cases ey
    have eh : hs.getD k 0 = h := Option.some.inj e1'
    obtain ⟨a, b⟩ := (mem_live O.sz).mp (List.mem_of_getElem? hq)
    obtain ⟨h0, K, c1, c2, c3⟩ := O.at_ y k a b
    have e0 : h0 = h := by
      rw [← eh, Array.getD_eq_getD_getElem?, ← Array.getElem?_toList, c1]
      rfl
    rw [e0] at c2 c3
    refine ⟨K, c2, fun k' l' => ?_⟩
    show way M h k' ∈ (liveOf M owner).map (·.1)
    obtain ⟨k2, e3⟩ := Option.ne_none_iff_exists'.mp (c3 k' l')
    exact List.mem_map.mpr ⟨(way M h k', k2), (mem_live O.sz).mpr ⟨way_in _ _ _, e3⟩, rfl⟩
end My

namespace My
open PySem PySem.Spec PyProof.Rows L2
def hN (w : World) (k : NestedKey) : Int := k.hash w
def IsN (h : Heap) (k : NestedKey) (b : Addr) : Prop := NestedIs h k (.ref b) ∧ k.depth ≤ 8
section
variable {P : Program} {w : World} {A : Around} {E : Value → Shared → Prop} {s : Shared}
def SizeW (m : Nat) : Prop := m = 7 ∨ m = 31 ∨ m = 127 ∨ m = 511 ∨ m = 2047 ∨ m = 8191
theorem SizeW.mw {m : Nat} (h : SizeW m) : MaskW m := by
  rcases h with e | e | e | e | e | e <;> subst e
  · exact mw7
  · exact mw31
  · exact mw127
  · exact mw511
  · exact mw2047
  · exact mw8191
theorem SizeW.le {m : Nat} (h : SizeW m) : m ≤ 8191 := by
  rcases h with e | e | e | e | e | e <;> omega
theorem size_308 : SetTable.sizeAbove (SetTable.grown 77) = 512 := by decide +kernel
theorem size_1228 : SetTable.sizeAbove (SetTable.grown 307) = 2048 := by decide +kernel
theorem size_4916 : SetTable.sizeAbove (SetTable.grown 1229) = 8192 := by decide +kernel
theorem probe_w {t : SetTable} {hs : List Int} (T : TabW t hs) {g : Nat → Int} {h : Int} {c K : Nat} (hc : c ≤ K) (hf : K < 10 * SetTable.turns t.mask) (hK : way t.mask h K ∉ t.place.toList)
    (hin : ∀ q, q < K → way t.mask h q ∈ t.place.toList) :
    (∃ q i, c ≤ q ∧ q < K ∧ t.place.toList[i]? = some (way t.mask h q) ∧ g i = h ∧ (∀ q' i', c ≤ q' → q' < q → t.place.toList[i']? = some (way t.mask h q') → g i' ≠ h) ∧
      t.probe g h (stn t.mask h c) = some (.candidate (way t.mask h q) i (stn t.mask h (q + 1)))) ∨
    ((∀ q' i', c ≤ q' → q' < K → t.place.toList[i']? = some (way t.mask h q') → g i' ≠ h) ∧ t.probe g h (stn t.mask h c) = some (.empty (way t.mask h K) none)) := by
  have sh : ∀ q, nth t.mask (stn t.mask h c) q = stn t.mask h (c + q) := fun q => (nth_add t.mask c _ q).symm
  have shj : ∀ q, (nth t.mask (stn t.mask h c) q).j = way t.mask h (c + q) := fun q => congrArg SetTable.Probe.j (sh q)
  have cK : c + (K - c) = K := by omega
  have fwd : ∀ {q' : Nat}, c ≤ q' → way t.mask h q' = (nth t.mask (stn t.mask h c) (q' - c)).j := fun {q'} l => by rw [shj, show c + (q' - c) = q' by omega]
  rcases go_spec t T.ris T.dm g h (10 * SetTable.turns t.mask) (K - c) (stn t.mask h c) (step_dummy _ _ _) (by omega) (fun q hq => by rw [shj]; exact hin _ (by omega)) (by rw [shj, cK]; exact hK) with ⟨q, i, hq, hi, hg, hno, e⟩ | ⟨hno, e⟩
  · refine .inl ⟨c + q, i, by omega, by omega, by rw [← shj]; exact hi, hg, fun q' i' l1 l2 hp => hno (q' - c) i' (by omega) (by rw [← fwd l1]; exact hp), ?_⟩
    rw [← shj, show c + q + 1 = c + (q + 1) by omega, ← sh]
    exact e
  · refine .inr ⟨fun q' i' l1 l2 hp => hno (q' - c) i' (by omega) (by rw [← fwd l1]; exact hp), ?_⟩
    have ek : way t.mask h K = (nth t.mask (stn t.mask h c) (K - c)).j := fwd hc
    rw [ek]
    exact e
theorem quiet_n {k : NestedKey} {a : Addr} {Q : Bool → Shared → Prop} (hk : IsN s.heap k a) (h : Q true s) : wpAny (model P w) A (eqIsQuiet 8 (.ref a)) Q E s := quiet_key k _ 8 s hk.1 hk.2 A E Q h
theorem eqBool_n {x y : NestedKey} {a b : Addr} {Q : Bool → Shared → Prop} (hu : A.units + 8 < cLine) (hx : IsN s.heap x a) (hy : IsN s.heap y b) (h : Q (decide (x = y)) s) : wpAny (model P w) A (eqBool (.ref a) (.ref b)) Q E s :=
  (nestedKind P w).eqBool hu hx hy h
def OfAat (P : Program) (w : World) (n : Nat) (s : Shared) (v : Value) : Prop := ∀ (A : Around) (E : Value → Shared → Prop) (Q : Bool → Shared → Prop), Q false s → wpAny (model P w) A (ofAClassStatement n v) Q E s
def Hbvat (P : Program) (w : World) (n : Nat) (s : Shared) (v : Value) : Prop := ∀ (A : Around) (E : Value → Shared → Prop) (Q : Bool → Shared → Prop), (∀ c, Q c s) → wpAny (model P w) A (hashByValue n v) Q E s
theorem OfAat.scan {n : Nat} {v : Value} (h : v.scannable = true) : OfAat P w n s v := fun A E Q q => by
  rw [ofA_scan h]
  exact wpAny_pure q
theorem Hbvat.scan {n : Nat} {v : Value} (h : v.scannable = true) : Hbvat P w n s v := fun A E Q q => by
  obtain ⟨b, e⟩ := hbv_scan h n
  rw [e]
  exact wpAny_pure (q b)
theorem OfAat.tuple {n : Nat} {a : Addr} {o : Obj} {vs : Array Value} {m : Nat} (ho : s.heap.get? a = some o) (hc : o.cls = .type "tuple") (hd : o.data = .seq vs m) (hq : ∀ v ∈ vs.toList, OfAat P w n s v) : OfAat P w (n + 1) s (.ref a) := fun A E Q h => by
  have ty : s.TypeIs (.ref a) "tuple" := ⟨o, ho, hc⟩
  unfold ofAClassStatement
  refine wpAny_bind (wpAny_typeOf ty ?_)
  dsimp only
  have e : (("tuple" : String) == "tuple") = true := by decide
  simp only [e, if_true, Bool.not_true, Bool.false_eq_true, if_false]
  try refine wpAny_bind (wpAny_pure ?_)
  try simp only [Bool.not_true, Bool.false_eq_true, if_false]
  refine wpAny_bind (m := seqItems? (.ref a)) (wpAny_seqItems ho hd ?_)
  dsimp only
  refine wpAny_bind ?_
  rw [← Array.forIn_toList]
  refine wpAny_forIn_list _ (fun left r z => z = s ∧ r.1 = none ∧ ∀ v ∈ left, OfAat P w n s v) _ ?_ ?_ _ _ ⟨rfl, rfl, hq⟩
  · rintro v left r z ⟨rfl, hr, hall⟩
    refine wpAny_bind (hall v List.mem_cons_self _ _ _ ?_)
    simp only [Bool.false_eq_true, if_false]
    exact wpAny_pure ⟨rfl, rfl, fun u hu => hall u (List.mem_cons_of_mem _ hu)⟩
  · rintro ⟨r, _⟩ z ⟨rfl, hr, _⟩
    obtain rfl : r = none := hr
    exact wpAny_pure h
theorem Hbvat.tuple {n : Nat} {a : Addr} {o : Obj} {vs : Array Value} {m : Nat} (ho : s.heap.get? a = some o) (hc : o.cls = .type "tuple") (hd : o.data = .seq vs m) (hq : ∀ v ∈ vs.toList, Hbvat P w n s v) : Hbvat P w (n + 1) s (.ref a) := fun A E Q h => by
  have ty : s.TypeIs (.ref a) "tuple" := ⟨o, ho, hc⟩
  unfold hashByValue
  refine wpAny_bind (wpAny_specialOf ty F.slot_tuple_hash.lookup ?_)
  refine wpAny_bind (m := seqItems? (.ref a)) (wpAny_seqItems ho hd ?_)
  refine wpAny_bind ?_
  show wpAny _ _ (forIn vs _ _) _ _ s
  rw [← Array.forIn_toList]
  refine wpAny_forIn_list _ (fun left r z => z = s ∧ (r.1 = none ∨ ∃ c, r.1 = some c) ∧ ∀ v ∈ left, Hbvat P w n s v) _ ?_ ?_ _ _ ⟨rfl, .inl rfl, hq⟩
  · rintro v left r z ⟨rfl, _, hall⟩
    refine wpAny_bind (hall v List.mem_cons_self _ _ _ fun c => ?_)
    cases c with
    | true =>
      simp only [Bool.not_true, Bool.false_eq_true, if_false]
      exact wpAny_pure ⟨rfl, .inl rfl, fun u hu => hall u (List.mem_cons_of_mem _ hu)⟩
    | false =>
      simp only [Bool.not_false, if_true]
      exact wpAny_pure (wpAny_pure (h _))
  · rintro ⟨r, _⟩ z ⟨rfl, hr, _⟩
    rcases hr with hr | ⟨c, hr⟩
    · obtain rfl : r = none := hr
      exact wpAny_pure (h _)
    · obtain rfl : r = some c := hr
      exact wpAny_pure (h _)
mutual
theorem ofA_key : ∀ (k : NestedKey) (v : Value) (n : Nat), NestedIs s.heap k v → k.depth ≤ n → OfAat P w n s v
  | .none, _, n, x, _ => by cases x; exact .scan rfl
  | .num i, _, n, x, _ => by cases x <;> exact .scan rfl
  | .text y, _, n, x, _ => by cases x; exact .scan rfl
  | .tup ks, _, n, x, hn => by
    cases x with
    | tup hg hc hd hk =>
      simp only [NestedKey.depth] at hn
      cases n with
      | zero => omega
      | succ n => exact .tuple hg hc hd (ofA_keys ks _ n hk (by omega))
theorem ofA_keys : ∀ (ks : List NestedKey) (vs : List Value) (n : Nat), NestedAll s.heap ks vs → NestedKey.depthAll ks ≤ n → ∀ v ∈ vs, OfAat P w n s v
  | [], _, n, x, _, v, hv => by cases x; cases hv
  | k :: ks, _, n, x, hn, v, hv => by
    cases x with
    | cons x1 x2 =>
      simp only [NestedKey.depthAll] at hn
      rcases List.mem_cons.mp hv with e | hv
      · rw [e]; exact ofA_key k _ n x1 (by omega)
      · exact ofA_keys ks _ n x2 (by omega) v hv
end
mutual
theorem hbv_key : ∀ (k : NestedKey) (v : Value) (n : Nat), NestedIs s.heap k v → k.depth ≤ n → Hbvat P w n s v
  | .none, _, n, x, _ => by cases x; exact .scan rfl
  | .num i, _, n, x, _ => by cases x <;> exact .scan rfl
  | .text y, _, n, x, _ => by cases x; exact .scan rfl
  | .tup ks, _, n, x, hn => by
    cases x with
    | tup hg hc hd hk =>
      simp only [NestedKey.depth] at hn
      cases n with
      | zero => omega
      | succ n => exact .tuple hg hc hd (hbv_keys ks _ n hk (by omega))
theorem hbv_keys : ∀ (ks : List NestedKey) (vs : List Value) (n : Nat), NestedAll s.heap ks vs → NestedKey.depthAll ks ≤ n → ∀ v ∈ vs, Hbvat P w n s v
  | [], _, n, x, _, v, hv => by cases x; cases hv
  | k :: ks, _, n, x, hn, v, hv => by
    cases x with
    | cons x1 x2 =>
      simp only [NestedKey.depthAll] at hn
      rcases List.mem_cons.mp hv with e | hv
      · rw [e]; exact hbv_key k _ n x1 (by omega)
      · exact hbv_keys ks _ n x2 (by omega) v hv
end
theorem ofA_n {k : NestedKey} {b : Addr} {Q : Bool → Shared → Prop} (hk : IsN s.heap k b) (h : Q false s) : wpAny (model P w) A (ofAClassStatement 8 (.ref b)) Q E s := ofA_key k _ 8 hk.1 hk.2 A E Q h
theorem hbv_n {k : NestedKey} {b : Addr} {Q : Bool → Shared → Prop} (hk : IsN s.heap k b) (h : ∀ c, Q c s) : wpAny (model P w) A (hashByValue 8 (.ref b)) Q E s := hbv_key k _ 8 hk.1 hk.2 A E Q h
theorem unseenN {k : NestedKey} {b : Addr} {Q : Bool → Shared → Prop} (hk : IsN s.heap k b) {ys : List Value} (hy : ∀ y ∈ ys, ∃ k' c, y = Value.ref c ∧ IsN s.heap k' c) (h : Q false s) :
    wpAny (model P w) A (searchCouldBeSeen (.ref b) ys) Q E s := by
  unfold searchCouldBeSeen
  refine wpAny_bind (wpAny_forIn_list _ (fun left r z => z = s ∧ r.1 = none ∧ ∀ y ∈ left, ∃ k' c, y = Value.ref c ∧ IsN s.heap k' c) _ ?_ ?_ _ _ ⟨rfl, rfl, hy⟩)
  · rintro v left r z ⟨rfl, _, hall⟩
    obtain ⟨k', c, rfl, hc⟩ := hall v List.mem_cons_self
    have next : ∀ y ∈ left, ∃ k' c, y = Value.ref c ∧ IsN z.heap k' c := fun u hu => hall u (List.mem_cons_of_mem _ hu)
    dsimp only
    by_cases hv : (b == c || (carriedByValue (.ref b) && carriedByValue (.ref c))) = true
    · exact wp_if_pos hv (wpAny_pure ⟨rfl, rfl, next⟩)
    · refine wp_if_neg hv (wpAny_bind (quiet_n hk ?_))
      simp only [Bool.not_true, Bool.false_eq_true, if_false]
      refine wpAny_bind (quiet_n hc ?_)
      simp only [Bool.not_true, Bool.false_eq_true, if_false]
      refine wpAny_bind (ofA_n hk ?_)
      simp only [Bool.false_eq_true, if_false]
      refine wpAny_bind (ofA_n hc ?_)
      simp only [Bool.false_eq_true, if_false]
      exact wpAny_pure ⟨rfl, rfl, next⟩
  · rintro ⟨r, _⟩ z ⟨rfl, hr, _⟩
    obtain rfl : r = none := hr
    exact wpAny_pure h

def rowsN (w : World) (L : List (Addr × NestedKey)) : List (Int × Value) := L.map fun p => (hN w p.2, .ref p.1)
structure TabN (w : World) (h : Heap) (a : Addr) (L : List (Addr × NestedKey)) (es : Array (Int × Value)) (ep : Nat) (t : SetTable) : Prop where
  ob : ∃ o, h.get? a = some o ∧ o.ExactSet ∧ o.data = .set es ep t
  rw_ : es.toList = rowsN w L
  msk : SizeW t.mask
  tab : TabW t (L.map fun p => hN w p.2)
  nd : (L.map (·.2)).Nodup
  led : w.params.followText "set-order" = true ∨ t.led = true
  room : L.length * 5 < t.mask * 3
  few : L.length < 4000
variable {a : Addr} {L : List (Addr × NestedKey)} {es : Array (Int × Value)} {ep : Nat} {t : SetTable}
theorem TabN.count {h : Heap} (R : TabN w h a L es ep t) : es.size = L.length := by
  rw [← Array.length_toList, R.rw_]
  exact List.length_map ..
theorem TabN.slots {h : Heap} (R : TabN w h a L es ep t) : t.place.toList.length = L.length := by
  rw [Array.length_toList, R.tab.sz, List.length_map]
theorem TabN.fits {h : Heap} (R : TabN w h a L es ep t) : t.fits es.size = true := by
  have h1 := R.slots
  rw [Array.length_toList] at h1
  have h2 := R.count
  have h3 := R.room
  unfold SetTable.fits SetTable.fill
  rw [R.tab.dm]
  simp
  omega
theorem TabN.odd {h : Heap} (R : TabN w h a L es ep t) : ¬ t.gaveWay = true := by
  unfold SetTable.gaveWay
  rw [R.tab.mw.odd]
  decide
theorem TabN.at_ {h : Heap} (R : TabN w h a L es ep t) {i : Nat} {p : Addr × NestedKey} (e : L[i]? = some p) : es[i]? = some (hN w p.2, .ref p.1) := by
  rw [← Array.getElem?_toList, R.rw_]
  show (L.map _)[i]? = _
  rw [List.getElem?_map, e]
  rfl
def AnsN (w : World) (L : List (Addr × NestedKey)) (t : SetTable) (k : NestedKey) (Q : SetFound → Shared → Prop) (s : Shared) : Prop :=
  (k ∈ L.map (·.2) → Q (.there none) s) ∧
  (k ∉ L.map (·.2) → ∀ n, way t.mask (hN w k) n ∉ t.place.toList → (∀ q, q < n → way t.mask (hN w k) q ∈ t.place.toList) → Q (.free (way t.mask (hN w k) n) false) s)
theorem search_goN (R : TabN w s.heap a L es ep t) (tup : ∀ p ∈ L, IsN s.heap p.2 p.1) {x : Addr} {k : NestedKey} (hx : IsN s.heap k x) (hu : A.units + 8 < cLine) {n : Nat} (hf : n < 10 * SetTable.turns t.mask)
    (hK : way t.mask (hN w k) n ∉ t.place.toList) (hin : ∀ q, q < n → way t.mask (hN w k) q ∈ t.place.toList) {Q : SetFound → Shared → Prop} (hQ : AnsN w L t k Q s) :
    ∀ (f c : Nat) (st : Option SetTable.Probe), st.getD (t.probeStart (hN w k)) = stn t.mask (hN w k) c → c ≤ n → n - c < f →
      (∀ (i : Nat) p, L[i]? = some p → p.2 = k → ∃ q, c ≤ q ∧ q < n ∧ t.place.toList[i]? = some (way t.mask (hN w k) q)) →
      wpAny (model P w) A (setSearchFrom a (.ref x) (hN w k) true f st) Q E s
  | 0, _, _, _, _, hlt, _ => absurd hlt (Nat.not_lt_zero _)
  | f + 1, c, st, hst, hc, hlt, hre => by
    obtain ⟨o, ho, hex, hd⟩ := R.ob
    have hash_at : ∀ (i : Nat) (p : Addr × NestedKey), L[i]? = some p → (es[i]?.map fun e : Int × Value => e.1).getD 0 = hN w p.2 := fun i p e => by
      rw [R.at_ e]
      rfl
    have same_hash : ∀ {i0 : Nat} {p0 : Addr × NestedKey}, L[i0]? = some p0 → p0.2 = k → (es[i0]?.map fun e : Int × Value => e.1).getD 0 = hN w k := fun h0 e0 => by rw [hash_at _ _ h0, e0]
    rw [setSearchFrom_succ]
    refine wpAny_bind (wpAny_setState_of ho hd R.fits ?_)
    dsimp only
    refine wp_if_neg R.odd ?_
    try refine wpAny_bind (wpAny_pure ?_)
    rw [hst]
    rcases probe_w (g := fun i => (es[i]?.map fun e : Int × Value => e.1).getD 0) R.tab hc hf hK hin with ⟨q, i, l1, l2, hi, hg, hno, e⟩ | ⟨hno, e⟩
    · rw [e]
      dsimp only
      have il : i < L.length := by
        rw [← R.slots]
        exact (List.getElem?_eq_some_iff.mp hi).1
      obtain ⟨p, hp⟩ : ∃ p, L[i]? = some p := ⟨L[i], List.getElem?_eq_getElem il⟩
      have pm : p ∈ L := List.mem_of_getElem? hp
      have live : t.slot (way t.mask (hN w k) q) = .live i := slot_live R.tab.ris hi
      have on : wpAny (model P w) A (searchRest a (.ref x) (hN w k) true f es t (way t.mask (hN w k) q) i (stn t.mask (hN w k) (q + 1))) Q E s := by
        unfold searchRest
        rw [R.at_ hp]
        dsimp only
        refine wpAny_bind (wpAny_holding (eqBool_n hu (tup p pm) hx (wpAny_bind (wpAny_setState_of ho hd R.fits ?_))))
        dsimp only
        by_cases pk : p.2 = k
        · exact wp_if_pos (by rw [decide_eq_true pk]; rfl) (wpAny_pure (hQ.1 (List.mem_map.mpr ⟨p, pm, pk⟩)))
        · refine wp_if_neg (by rw [decide_eq_false pk]; decide) ?_
          try refine wpAny_bind (wpAny_pure ?_)
          rw [sameMem]
          dsimp only
          simp only [if_true, live, R.at_ hp]
          refine wpAny_bind (wpAny_isSame_ref_self (wpAny_bind (wpAny_pure ?_)))
          simp only [if_true]
          refine wp_if_neg (by rw [decide_eq_false pk]; decide) (search_goN R tup hx hu hf hK hin hQ f (q + 1) _ rfl (by omega) (by omega) fun i0 p0 h0 e0 => ?_)
          obtain ⟨q0, m1, m2, m3⟩ := hre i0 p0 h0 e0
          refine ⟨q0, Nat.lt_of_not_le fun le => ?_, m2, m3⟩
          rcases Nat.lt_or_eq_of_le le with lt | rfl
          · exact hno q0 i0 m1 lt m3 (same_hash h0 e0)
          · have two := (slot_live R.tab.ris m3).symm.trans live
            injection two with two
            rw [two, hp] at h0
            exact pk ((congrArg Prod.snd (Option.some.inj h0)).trans e0)
      by_cases ld : t.led = true
      · refine wp_if_neg (by rw [ld]; decide) ?_
        try refine wpAny_bind (wpAny_pure ?_)
        exact on
      · refine wp_if_pos (by simp [ld]) (wpAny_bind (unseenN hx (fun y hy => ?_) ?_))
        · obtain ⟨r, hr, rfl⟩ := List.mem_map.mp hy
          have hr2 : r ∈ es.toList := by
            have : r ∈ es ∧ r.1 = hN w k := by simpa using hr
            simpa using this.1
          rw [R.rw_] at hr2
          obtain ⟨p2, m2, rfl⟩ := List.mem_map.mp hr2
          exact ⟨p2.2, p2.1, rfl, tup p2 m2⟩
        · refine wp_if_neg (by decide) ?_
          try refine wpAny_bind (wpAny_pure ?_)
          exact on
    · rw [e]
      dsimp only
      refine wpAny_pure (hQ.2 (fun hm => ?_) n hK hin)
      obtain ⟨p0, h0, e0⟩ := List.mem_map.mp hm
      obtain ⟨i0, hi0⟩ := List.getElem?_of_mem h0
      obtain ⟨q0, m1, m2, m3⟩ := hre i0 p0 hi0 e0
      exact hno q0 i0 m1 m2 m3 (same_hash hi0 e0)
theorem search_allN (R : TabN w s.heap a L es ep t) (tup : ∀ p ∈ L, IsN s.heap p.2 p.1) {x : Addr} {k : NestedKey} (hx : IsN s.heap k x) (hu : A.units + 8 < cLine) {Q : SetFound → Shared → Prop} (hQ : AnsN w L t k Q s) :
    wpAny (model P w) A (setSearch a (.ref x) (hN w k) true) Q E s := by
  have rm := R.room
  obtain ⟨n, hf, hK, hin⟩ := R.tab.first (by rw [List.length_map]; omega) (hN w k)
  have far : 10 * SetTable.turns t.mask ≤ 90150 := by
    have z := R.tab.mw.far
    unfold SetTable.turns
    omega
  unfold setSearch
  refine search_goN R tup hx hu hf hK hin hQ 100000 0 none rfl (Nat.zero_le _) (by omega) fun i p hp e => ?_
  have hi : (L.map fun p => hN w p.2)[i]? = some (hN w k) := by
    rw [List.getElem?_map, hp, ← e]
    rfl
  have il : i < t.place.toList.length := by
    rw [R.slots]
    exact (List.getElem?_eq_some_iff.mp hp).1
  obtain ⟨q, hq, eq⟩ := R.tab.before hK hi (List.getElem?_eq_getElem il)
  exact ⟨q, Nat.zero_le _, hq, by rw [List.getElem?_eq_getElem il, eq]⟩

theorem rowsN_at {es : Array (Int × Value)} (hr : es.toList = rowsN w L) (i : Nat) : es[i]? = (L[i]?).map fun p => (hN w p.2, Value.ref p.1) := by
  rw [← Array.getElem?_toList, hr]
  exact List.getElem?_map ..
theorem by_orderN {es : Array (Int × Value)} (hr : es.toList = rowsN w L) {order : Array Nat} (hp : order.toList.Perm (List.range L.length)) :
    ∃ L2 : List (Addr × NestedKey), (order.filterMap (es[·]?)).toList = rowsN w L2 ∧ L2.Perm L ∧ L2.map (fun p => hN w p.2) = order.toList.map fun i => (es.map fun e : Int × Value => e.1).getD i 0 := by
  refine ⟨order.toList.filterMap (fun i => L[i]?), ?_, ?_, ?_⟩
  · have e : (fun i : Nat => es[i]?) = fun i : Nat => (L[i]?).map fun p : Addr × NestedKey => (hN w p.2, Value.ref p.1) := funext (rowsN_at hr)
    rw [Array.toList_filterMap, e]
    unfold rowsN
    rw [List.map_filterMap]
  · have h1 := hp.filterMap fun i => L[i]?
    rw [range_back L L.length (Nat.le_refl _), List.take_length] at h1
    exact h1
  · have each : ∀ l : List Nat, (∀ i ∈ l, i < L.length) → (l.filterMap fun i => L[i]?).map (fun p => hN w p.2) = l.map fun i => (es.map fun e : Int × Value => e.1).getD i 0 := by
      intro l
      induction l with
      | nil => intro _; rfl
      | cons i l ih =>
        intro h
        have hi := h i List.mem_cons_self
        rw [List.filterMap_cons_some (List.getElem?_eq_getElem hi), List.map_cons, List.map_cons, ih fun j hj => h j (List.mem_cons_of_mem _ hj)]
        have q := rowsN_at hr i
        rw [List.getElem?_eq_getElem hi] at q
        congr 1
        simp [Array.getD_eq_getD_getElem?, q]
    exact each _ fun i hi => List.mem_range.mp (hp.mem_iff.mp hi)
theorem relay_tabN {o : Obj} (ho : s.heap.get? a = some o) (hex : o.ExactSet) (hd : o.data = .set es ep t) (hr : es.toList = rowsN w L) (hsz : t.place.size = es.size) (hdm : t.dummies = #[]) (hfl : es.size ≤ t.mask)
    (nd : (L.map (·.2)).Nodup) (led : w.params.followText "set-order" = true ∨ t.led = true) (few : L.length < 4000) {wanted M : Nat} (hw : SetTable.sizeAbove wanted - 1 = M) (hM : SizeW M) (hw2 : SetTable.sizeAbove wanted ≤ 8192)
    (hn : L.length * 5 < M * 3) {Q : Unit → Shared → Prop} (hQ : ∀ h' L' es' ep' t', Heap.SameBut a s.heap h' → TabN w h' a L' es' ep' t' → L'.Perm L → Q () { s with heap := h' }) : wpAny (model P w) A (setRelay a wanted) Q E s := by
  have cnt : es.size = L.length := by
    rw [← Array.length_toList, hr]
    exact List.length_map ..
  have fit : t.fits es.size = true := by
    unfold SetTable.fits SetTable.fill
    rw [hdm]
    simp
    omega
  obtain ⟨t', order, e, hp, T, em, el⟩ := relaid_w t (hs := es.map fun e : Int × Value => e.1) (wanted := wanted) hw hM.mw (by rw [Array.size_map]; omega)
  rw [Array.size_map, cnt] at hp
  obtain ⟨L2, r1, r2, r3⟩ := by_orderN hr hp
  rw [← r3] at T
  have cnt2 : (order.filterMap (es[·]?)).size = es.size := by
    rw [← Array.length_toList, r1, cnt, ← r2.length_eq]
    exact List.length_map ..
  rw [setRelay_eq]
  refine wpAny_bind (wpAny_setState_of ho hd fit ?_)
  dsimp only
  refine wp_if_neg (by rw [sizeLine_eq]; omega) ?_
  try refine wpAny_bind (wpAny_pure ?_)
  rw [e]
  dsimp only
  refine wpAny_bind (wp_if_neg (by rw [cnt2]; simp) ?_)
  try refine wpAny_bind (wpAny_pure ?_)
  refine wpAny_pure ?_
  dsimp only
  refine wpAny_storeSet_of ho hd ?_ (by rw [cnt2, cnt, sizeLine_eq]; omega)
  exact hQ _ L2 _ _ t' (Heap.SameBut.update ..) ⟨⟨_, store_at ho hd, ⟨hex.1, hex.2.1, hex.2.2⟩, rfl⟩, r1, by rw [em]; exact hM, T, (r2.map (·.2)).nodup_iff.mpr nd, by rw [el]; exact led, by rw [r2.length_eq, em]; exact hn, by rw [r2.length_eq]; exact few⟩ r2
def PutN (w : World) (h h' : Heap) (a : Addr) (L : List (Addr × NestedKey)) (x : Addr) (k : NestedKey) (L' : List (Addr × NestedKey)) : Prop :=
  Heap.SameBut a h h' ∧ (∃ es ep t, TabN w h' a L' es ep t) ∧ (k ∈ L.map (·.2) → L' = L) ∧ (k ∉ L.map (·.2) → L'.Perm ((x, k) :: L))
theorem add_tabN (R : TabN w s.heap a L es ep t) (tup : ∀ p ∈ L, IsN s.heap p.2 p.1) {x : Addr} {k : NestedKey} (hx : IsN s.heap k x) (hu : A.units + 8 < cLine) (room : L.length + 1 < 4000) {Q : Bool → Shared → Prop}
    (hQ : ∀ b h' L', PutN w s.heap h' a L x k L' → Q b { s with heap := h' }) : wpAny (model P w) A (setAddHashed a (.ref x) (hN w k)) Q E s := by
  obtain ⟨o, ho, hex, hd⟩ := R.ob
  have cnt := R.count
  have rm := R.room
  unfold setAddHashed
  refine wpAny_holding ?_
  rw [show (100000 : Nat) = 99999 + 1 from rfl, setAddHashedIn_succ]
  refine wpAny_bind (wpAny_setState_of ho hd R.fits ?_)
  dsimp only
  refine wp_if_neg (by simp [byScan, Value.scannable]) ?_
  try refine wpAny_bind (wpAny_pure ?_)
  refine wpAny_bind (search_allN R tup hx hu ⟨fun hm => ?_, fun hm n hK hin => ?_⟩)
  · exact wpAny_pure (hQ false s.heap L ⟨Heap.SameBut.refl a s.heap, ⟨es, ep, t, R⟩, fun _ => rfl, fun z => absurd hm z⟩)
  · dsimp only
    refine wpAny_bind (wpAny_setState_of ho hd R.fits ?_)
    dsimp only
    obtain ⟨q1, q2, q3, q4, q5, q9⟩ := R.tab.put (h := hN w k) (K := n) rfl hK hin
    obtain ⟨i, ei⟩ : ∃ i, i = SetTable.below t.place (way t.mask (hN w k) n) := ⟨_, rfl⟩
    obtain ⟨L1, e1⟩ : ∃ L1, L1 = L.take i ++ (x, k) :: L.drop i := ⟨_, rfl⟩
    have pm : L1.Perm ((x, k) :: L) := by
      have z : (L.take i ++ (x, k) :: L.drop i).Perm ((x, k) :: (L.take i ++ L.drop i)) := List.perm_middle
      rw [List.take_append_drop] at z
      rw [e1]
      exact z
    have len1 : L1.length = L.length + 1 := pm.length_eq
    have hin1 : (SetTable.insertAt es (t.put (way t.mask (hN w k) n)).snd (hN w k, Value.ref x)).toList = rowsN w L1 := by
      rw [q1, ← ei, SetTable.toList_insertAt, R.rw_, e1]
      unfold rowsN
      rw [List.map_append, List.map_cons, List.map_take, List.map_drop]
    have hs1 : L1.map (fun p => hN w p.2) = (L.map fun p => hN w p.2).take i ++ hN w k :: (L.map fun p => hN w p.2).drop i := by
      rw [e1, List.map_append, List.map_cons, List.map_take, List.map_drop]
    rw [← ei, ← hs1] at q3
    rw [List.length_map] at q9
    have nd1 : (L1.map (·.2)).Nodup := (pm.map (·.2)).nodup_iff.mpr (List.nodup_cons.mpr ⟨hm, R.nd⟩)
    generalize SetTable.insertAt es (t.put (way t.mask (hN w k) n)).snd (hN w k, Value.ref x) = es1 at hin1 ⊢
    have cnt1 : es1.size = L.length + 1 := by
      rw [← Array.length_toList, hin1, ← len1]
      exact List.length_map ..
    have tail : ∀ t1 : SetTable, TabW t1 (L1.map fun p => hN w p.2) → t1.mask = t.mask → t1.led = t.led → t1.fill = L.length + 1 →
        wpAny (model P w) A (do
          storeSet a es1 t1
          if (!false && t1.tooFull) = true then do
            setRelay a (SetTable.grown (es.size + 1))
            pure true
          else pure true) Q E s := by
      intro t1 T1 m1 l1 f1
      refine wpAny_bind (wpAny_storeSet_of ho hd ?_ (by rw [cnt1, sizeLine_eq]; omega))
      have ho1 := store_at (es' := es1) (t' := t1) ho hd
      have sb : Heap.SameBut a s.heap (s.heap.update a (Obj.putSet es1 t1)) := Heap.SameBut.update ..
      have led1 : w.params.followText "set-order" = true ∨ t1.led = true := by rw [l1]; exact R.led
      by_cases full : t1.tooFull = true
      · refine wp_if_pos (by rw [full]; rfl) ?_
        have big : (L.length + 1) * 5 ≥ t1.mask * 3 := by
          have z := full
          unfold SetTable.tooFull at z
          rw [decide_eq_true_eq, f1] at z
          exact z
        have five : (t.mask = 7 ∧ L.length = 4) ∨ (t.mask = 31 ∧ L.length = 18) ∨ (t.mask = 127 ∧ L.length = 76) ∨ (t.mask = 511 ∧ L.length = 306) ∨ (t.mask = 2047 ∧ L.length = 1228) := by
          rcases R.msk with e | e | e | e | e | e <;> rw [m1, e] at big <;> rw [e] at rm
          · exact .inl ⟨e, by omega⟩
          · exact .inr (.inl ⟨e, by omega⟩)
          · exact .inr (.inr (.inl ⟨e, by omega⟩))
          · exact .inr (.inr (.inr (.inl ⟨e, by omega⟩)))
          · exact .inr (.inr (.inr (.inr ⟨e, by omega⟩)))
          · omega
        have sz1 : t1.place.size = es1.size := by rw [T1.sz, List.length_map, len1, cnt1]
        have go : ∀ M, SetTable.sizeAbove (SetTable.grown (L.length + 1)) = M + 1 → SizeW M → M ≤ 8191 → (L.length + 1) * 5 < M * 3 → wpAny (model P w) A (setRelay a (SetTable.grown (es.size + 1)))
            (fun _ z => wpAny (model P w) A (pure true) Q E z) E { s with heap := s.heap.update a (Obj.putSet es1 t1) } := fun M g1 g2 g3 g4 => by
          rw [cnt]
          refine relay_tabN (s := { s with heap := s.heap.update a (Obj.putSet es1 t1) }) ho1 ⟨hex.1, hex.2.1, hex.2.2⟩ rfl hin1 sz1 T1.dm (by rw [cnt1, m1]; omega) nd1 led1 (by rw [len1]; exact room) (M := M) (by omega) g2 (by omega) (by rw [len1]; exact g4) fun h2 L2 es2 ep2 t2 sb2 R2 pm2 => ?_
          exact wpAny_pure (hQ true h2 L2 ⟨sb.trans sb2, ⟨es2, ep2, t2, R2⟩, fun z => absurd z hm, fun _ => pm2.trans pm⟩)
        refine wpAny_bind ?_
        rcases five with ⟨_, e2⟩ | ⟨_, e2⟩ | ⟨_, e2⟩ | ⟨_, e2⟩ | ⟨_, e2⟩
        · exact go 31 (by rw [e2]; exact size_20) (.inr (.inl rfl)) (by decide) (by omega)
        · exact go 127 (by rw [e2]; exact size_76) (.inr (.inr (.inl rfl))) (by decide) (by omega)
        · exact go 511 (by rw [e2]; exact size_308) (.inr (.inr (.inr (.inl rfl)))) (by decide) (by omega)
        · exact go 2047 (by rw [e2]; exact size_1228) (.inr (.inr (.inr (.inr (.inl rfl))))) (by decide) (by omega)
        · exact go 8191 (by rw [e2]; exact size_4916) (.inr (.inr (.inr (.inr (.inr rfl))))) (by decide) (by omega)
      · refine wp_if_neg (by simp [full]) (wpAny_pure (hQ true _ L1 ⟨sb, ⟨es1, _, t1, ⟨_, ho1, ⟨hex.1, hex.2.1, hex.2.2⟩, rfl⟩, hin1, by rw [m1]; exact R.msk, T1, nd1, led1, ?_, by rw [len1]; exact room⟩, fun z => absurd z hm, fun _ => pm⟩))
        have z := full
        unfold SetTable.tooFull at z
        rw [decide_eq_true_eq, f1] at z
        rw [len1]
        omega
    generalize (t.put (way t.mask (hN w k) n)).fst = t1 at q3 q4 q5 q9 ⊢
    by_cases pl : t1.plain = true
    · refine wp_if_pos pl (wpAny_bind (hbv_n hx fun c => ?_))
      cases c with
      | true =>
        simp only [if_true]
        exact tail t1 q3 q4 q5 q9
      | false =>
        simp only [Bool.false_eq_true, if_false]
        exact tail _ (TabW.off q3) q4 q5 q9
    · refine wp_if_neg pl (wpAny_bind (wpAny_pure ?_))
      simp only [if_true]
      exact tail t1 q3 q4 q5 q9
end
end My

namespace My
open PySem PySem.Spec PyProof.Rows L2
open PySem.W (alike alikeAll dataLt keyToks keyToksAll dataLt_tuple dataLt_str dataLt_all_yes dataLt_all_no SortsAt AllAlike Sortable EachIs dataKind dataKind_some dataLe sortLe_total)
mutual
theorem depth_data : ∀ k : NestedKey, k.data.depth = k.depth
  | .none => rfl
  | .num _ => rfl
  | .text _ => rfl
  | .tup ks => by
    simp only [NestedKey.data, NestedKey.depth, PyData.depth, depth_datas ks]
theorem depth_datas : ∀ ks : List NestedKey, PyData.depthAll (NestedKey.datas ks) = NestedKey.depthAll ks
  | [] => rfl
  | k :: ks => by
    simp only [NestedKey.datas, NestedKey.depthAll, PyData.depthAll, depth_data k, depth_datas ks]
end
section
variable {h : Heap}
mutual
theorem reads_key : ∀ (k : NestedKey) (v : Value) (as : List Addr), Reads h v k.data as → as = [] ∧ NestedIs h k v
  | .none, _, _, x => by
    simp only [NestedKey.data] at x
    cases x
    exact ⟨rfl, .none⟩
  | .num i, _, _, x => by
    simp only [NestedKey.data] at x
    cases x
    exact ⟨rfl, .int _ _⟩
  | .text y, _, _, x => by
    simp only [NestedKey.data] at x
    cases x
    exact ⟨rfl, .text _ _⟩
  | .tup ks, _, _, x => by
    simp only [NestedKey.data] at x
    cases x with
    | tuple h1 h2 h3 h4 =>
      obtain ⟨e, n⟩ := reads_keys ks _ _ h4
      exact ⟨e, .tup h1 h2 h3 n⟩
theorem reads_keys : ∀ (ks : List NestedKey) (vs : List Value) (as : List Addr), ReadsAll h vs (NestedKey.datas ks) as → as = [] ∧ NestedAll h ks vs
  | [], _, _, x => by
    simp only [NestedKey.datas] at x
    cases x
    exact ⟨rfl, .nil⟩
  | k :: ks, _, _, x => by
    simp only [NestedKey.datas] at x
    cases x with
    | cons x1 x2 =>
      obtain ⟨e1, n1⟩ := reads_key k _ _ x1
      obtain ⟨e2, n2⟩ := reads_keys ks _ _ x2
      exact ⟨by rw [e1, e2]; rfl, .cons n1 n2⟩
end
end
structure EnN {α : Type} [DecidableEq α] (enc : α → PyData) (lt : α → α → Bool) : Prop where
  al : ∀ x y, alike (enc x) (enc y) = true
  eq : ∀ x y, PyData.eqv (enc x) (enc y) = decide (x = y)
  lt : ∀ x y, dataLt (enc x) (enc y) = lt x y
section
variable {α : Type} [DecidableEq α] {enc : α → PyData} {lt : α → α → Bool}
theorem EnN.toks (E : EnN enc lt) : ∀ xs ys : List α, PyProof.Rows.lexLt itemOrd (keyToksAll (xs.map enc)) (keyToksAll (ys.map enc)) = lexL lt xs ys
  | [], [] => by
    simp only [List.map_nil, keyToksAll]
    rfl
  | [], y :: ys => by
    simp only [List.map_nil, List.map_cons, keyToksAll]
    rfl
  | x :: xs, [] => by
    simp only [List.map_nil, List.map_cons, keyToksAll]
    rfl
  | x :: xs, y :: ys => by
    rw [List.map_cons, List.map_cons]
    have e := E.eq x y
    by_cases c : x = y
    · rw [decide_eq_true c] at e
      rw [dataLt_all_yes (E.al x y) e, E.toks xs ys]
      unfold lexL
      rw [if_pos c]
      cases xs <;> cases ys <;> rfl
    · rw [decide_eq_false c] at e
      rw [dataLt_all_no (E.al x y) e, E.lt]
      unfold lexL
      rw [if_neg c]
theorem EnN.alAll (E : EnN enc lt) : ∀ xs ys : List α, alikeAll (xs.map enc) (ys.map enc) = true
  | [], _ => by simp [alikeAll]
  | x :: xs, [] => by simp [alikeAll]
  | x :: xs, y :: ys => by
    rw [List.map_cons, List.map_cons]
    simp only [alikeAll, E.al x y, E.alAll xs ys, Bool.and_self]
theorem EnN.eqAll (E : EnN enc lt) : ∀ xs ys : List α, PyData.eqvAll (xs.map enc) (ys.map enc) = decide (xs = ys)
  | [], [] => by simp [PyData.eqvAll]
  | [], y :: ys => by simp [PyData.eqvAll]
  | x :: xs, [] => by simp [PyData.eqvAll]
  | x :: xs, y :: ys => by
    rw [List.map_cons, List.map_cons]
    simp only [PyData.eqvAll, E.eq x y, E.eqAll xs ys, List.cons.injEq, Bool.decide_and]
theorem EnN.tup (E : EnN enc lt) : EnN (fun xs : List α => PyData.tuple (xs.map enc)) (lexL lt) where
  al := fun xs ys => by
    simp only [alike]
    exact E.alAll xs ys
  eq := fun xs ys => by
    simp only [PyData.eqv]
    exact E.eqAll xs ys
  lt := fun xs ys => by
    rw [dataLt_tuple]
    exact E.toks xs ys
end
theorem enN_str : EnN PyData.str ltS where
  al := fun x y => by simp [alike]
  eq := fun x y => by
    simp only [PyData.eqv]
    rw [Bool.eq_iff_iff]
    simp
  lt := fun x y => by rw [dataLt_str, ltS_eq]
abbrev AK := Addr × NestedKey
def SetN (w : World) (a : Addr) (L : List AK) : HO := .ext fun h => ∃ es ep t, TabN w h a L es ep t
def AddN (L : List AK) (b : Addr) (k : NestedKey) (L' : List AK) : Prop := (k ∈ L.map (·.2) → L' = L) ∧ (k ∉ L.map (·.2) → L'.Perm ((b, k) :: L))
theorem AddN.keys {L L' : List AK} {b : Addr} {k : NestedKey} (h : AddN L b k L') (x : NestedKey) : x ∈ L'.map (·.2) ↔ x = k ∨ x ∈ L.map (·.2) := by
  by_cases c : k ∈ L.map (·.2)
  · rw [h.1 c]
    exact ⟨.inr, fun z => z.elim (fun e => e ▸ c) id⟩
  · rw [((h.2 c).map (·.2)).mem_iff]
    exact List.mem_cons
theorem AddN.sub {L L' : List AK} {b : Addr} {k : NestedKey} (h : AddN L b k L') {p : AK} (hp : p ∈ L') : p = (b, k) ∨ p ∈ L := by
  by_cases c : k ∈ L.map (·.2)
  · rw [h.1 c] at hp
    exact .inr hp
  · exact List.mem_cons.mp ((h.2 c).mem_iff.mp hp)
theorem AddN.len {L L' : List AK} {b : Addr} {k : NestedKey} (h : AddN L b k L') : L'.length ≤ L.length + 1 := by
  by_cases c : k ∈ L.map (·.2)
  · rw [h.1 c]
    omega
  · rw [(h.2 c).length_eq]
    exact Nat.le_refl _
section
variable {P : Program} {w : World} {A : Around} {E : Value → Shared → Prop} {s : Shared} {h h' : Heap} {H : Hp} {a : Addr} {L : List AK} {es : Array (Int × Value)} {ep : Nat} {t : SetTable}
theorem TabN.to (R : TabN w h a L es ep t) (k : ∀ o, h.get? a = some o → h'.get? a = some o) : TabN w h' a L es ep t := by
  obtain ⟨o, ho, r⟩ := R.ob
  exact ⟨⟨o, k o ho, r⟩, R.rw_, R.msk, R.tab, R.nd, R.led, R.room, R.few⟩
theorem setN_ok (R : ∃ es ep t, TabN w h a L es ep t) : ObjOk P w H h a (SetN w a L) := by
  refine ⟨R, ?_, fun h1 h2 ⟨es, ep, t, q⟩ k => ⟨es, ep, t, q.to k⟩⟩
  obtain ⟨_, _, _, q⟩ := R
  obtain ⟨o, ho, _⟩ := q.ob
  exact ⟨o, ho⟩
theorem setN_at (ok : HOk P w H h) (e : H a = some (SetN w a L)) : ∃ es ep t, TabN w h a L es ep t := (ok a _ e).1
theorem tabN_new (ho : h.get? a = some { cls := .type "set", dict := none, data := .set #[] 0 (.fresh 0 0 (!w.params.followText "set-order")) }) : TabN w h a [] #[] 0 (.fresh 0 0 (!w.params.followText "set-order")) where
  ob := ⟨_, ho, ⟨rfl, rfl, rfl⟩, rfl⟩
  rw_ := rfl
  msk := .inl rfl
  tab := ⟨mw7, List.Pairwise.nil, rfl, rfl, (fun x z => nomatch z), fun i h j z => nomatch z⟩
  nd := List.nodup_nil
  led := by
    show _ ∨ (!w.params.followText "set-order") = true
    cases w.params.followText "set-order" <;> simp
  room := by
    show 0 * 5 < 7 * 3
    decide
  few := by decide
theorem setAdd_N (R : TabN w s.heap a L es ep t) (tup : ∀ p ∈ L, IsN s.heap p.2 p.1) (room : L.length + 1 < 4000) {b : Addr} {k : NestedKey} (hb : IsN s.heap k b) (hu : A.units + 9 < cLine) {Q : Bool → Shared → Prop}
    (hQ : ∀ c h' tk L', s.toks ≤ tk → Heap.SameBut a s.heap h' → (∃ es ep t, TabN w h' a L' es ep t) → AddN L b k L' → Q c { s with heap := h', toks := tk }) :
    wpAny (model P w) A (setAdd a (.ref b)) Q E s := by
  unfold setAdd
  refine wpAny_holding (wpAny_bind ((nestedKind P w).pyHash (k := k) (show A.units + 8 < cLine by omega) hb ?_))
  exact add_tabN (s := { s with toks := s.toks + k.draws }) (k := k) R tup hb (by omega) room fun c h' L1 p => hQ c h' _ L1 (Nat.le_add_right _ _) p.1 p.2.1 p.2.2
end
def ltKy (x y : NestedKey) : Bool := dataLt x.data y.data
theorem swo_data : SrtO.Swo (fun x y : PyData => dataLt x y) := by
  have T := sortLe_total (listOrd itemOrd) false keyToks
  refine ⟨fun x y h => ?_, fun x y z h k => ?_⟩
  · rcases T.total x y with c | c
    · exact (Bool.not_eq_true' _).mp c
    · have c' : dataLt x y = false := (Bool.not_eq_true' _).mp c
      rw [h] at c'
      cases c'
  · have q := T.trans x y z ((Bool.not_eq_true' _).mpr h) ((Bool.not_eq_true' _).mpr k)
    exact (Bool.not_eq_true' _).mp q
def rSortN (K : PySem.W.Frag) (w : World) : List V → Hp → VK → Prop := fun vs H Q => ∃ (a : Addr) (L : List AK), vs = [V.ref a] ∧ H a = some (SetN w a L) ∧ (∀ q ∈ L, Dp K H (.ref q.1) q.2.data ∧ q.2.depth ≤ 8) ∧ (∀ p ∈ L, ∀ q ∈ L, alike p.2.data q.2.data = true) ∧ ((∀ q ∈ L, ∃ k ks, q.2 = .tup (k :: ks)) ∨ L.length ≤ 1) ∧
  ∀ (L' : List AK) (p : Addr), L'.Perm L → (L.map (·.2)).Nodup → (L'.map (·.2)).Pairwise (fun x y => ltKy y x = false) → H p = none → Q (.ref p) (upd H p (.lst (L'.map fun q => V.ref q.1)))
section
variable {P : Program} {w : World} {A : Around} {s : Shared}
theorem each_same {R : Value → PyData → Prop} {f : Value → PyData} : ∀ {vs : List Value}, (∀ v ∈ vs, R v (f v)) → EachIs R vs (vs.map f)
  | [], _ => .nil
  | v :: vs, h => .cons (h v List.mem_cons_self) (each_same fun u hu => h u (List.mem_cons_of_mem _ hu))
theorem sortable_N {a : Addr} {vs : List Value} {k : Value → NestedKey} (h2 : 2 ≤ vs.length) (hp : ∀ v ∈ vs, (∃ b, v = .ref b ∧ Reads s.heap (.ref b) (k v).data []) ∧ (∃ x xs, k v = .tup (x :: xs)) ∧ (k v).depth ≤ 8) (hal : ∀ v ∈ vs, ∀ u ∈ vs, alike (k v).data (k u).data = true)
    (ha : ∀ o, s.heap.get? a = some o → o.cls = .type "list") (hu : A.units + 8 < cLine) : SrtO.SortableO P w A s a vs fun v u => ltKy (k v) (k u) := by
  intro h' keep
  have rd : ∀ v ∈ vs, ∃ as, Reads h' v (k v).data as := fun v hv => by
    obtain ⟨⟨b, e, r⟩, _⟩ := hp v hv
    rw [← e] at r
    exact ⟨[], PySem.W.Reads.keepBut keep ha _ _ _ (hal v hv v hv) r (by simp)⟩
  have al : AllAlike (vs.map fun v => (k v).data) := fun d hd d' hd' => by
    obtain ⟨v, hv, rfl⟩ := List.mem_map.mp hd
    obtain ⟨v', hv', rfl⟩ := List.mem_map.mp hd'
    exact hal v hv v' hv'
  have S := SortsAt.data (prog := P) (w := w) (A := A) (s := { s with heap := h' }) (vs := vs) (ds := vs.map fun v => (k v).data) (each_same rd) al (.inl fun d hd => by
    obtain ⟨v, hv, rfl⟩ := List.mem_map.mp hd
    obtain ⟨x, xs, e⟩ := (hp v hv).2.1
    exact ⟨x.data, NestedKey.datas xs, by rw [e]; rfl⟩) fun d hd => by
    obtain ⟨v, hv, rfl⟩ := List.mem_map.mp hd
    have z := (hp v hv).2.2
    rw [depth_data]
    omega
  obtain ⟨kd, lt, kind⟩ := S.kind
  refine ⟨kd, fun Q E hq => kind h2 E hq, fun p q hp1 hq1 => ?_⟩
  obtain ⟨as, ra⟩ := rd _ hp1
  obtain ⟨bs, rb⟩ := rd _ hq1
  exact lt _ _ _ _ _ (dataKind_some al (List.mem_map.mpr ⟨_, hp1, rfl⟩) ra) (dataKind_some al (List.mem_map.mpr ⟨_, hq1, rfl⟩) rb) ⟨rfl, rfl⟩
end
def nOf (L : List AK) (v : Value) : NestedKey := match v with
  | .ref b => ((L.find? fun q => q.1 == b).map (·.2)).getD .none
  | _ => .none
def pN (L : List AK) (v : Value) : AK := (match v with | .ref b => b | _ => 0, nOf L v)
theorem nOf_at {L : List AK} (one : ∀ p ∈ L, ∀ q ∈ L, p.1 = q.1 → p.2 = q.2) {q : AK} (hq : q ∈ L) : nOf L (.ref q.1) = q.2 := by
  show ((L.find? fun p => p.1 == q.1).map (·.2)).getD .none = q.2
  cases e : L.find? fun p => p.1 == q.1 with
  | none => exact absurd (List.find?_eq_none.mp e q hq) (by simp)
  | some p =>
    have h1 : p.1 = q.1 := by simpa using List.find?_some e
    exact one p (List.mem_of_find?_eq_some e) q hq h1
section
variable {P : Program} {w : World} {A : Around} {E : Value → Shared → Prop} {s : Shared} {a : Addr} {es : Array (Int × Value)} {ep : Nat} {t : SetTable}
theorem sorted_set_big {ltv : Value → Value → Bool} (O : SrtO.Swo ltv) (hh : A.handled = none) (ha : SetAt s.heap a es ep t) (hf : t.fits es.size = true) (few : es.size < 4000) (r : Ris t.place.toList) (hl : w.params.followText "set-order" = true ∨ t.led = true)
    (hS : ∀ (vs : List Value) (z : Shared) (l : Addr), vs.Perm (es.toList.map (·.2)) → (∀ b o, s.heap.get? b = some o → b ≠ l ∧ z.heap.get? b = some o) → z.heap.get? l = some (seqObj "list" vs.toArray 0) → 2 ≤ vs.length → SrtO.SortableO P w A.in1.in1 z l vs ltv) {Q : Value → Shared → Prop}
    (hQ : ∀ z p (out : List Value) (c : Nat), (∀ b o, s.heap.get? b = some o → z.heap.get? b = some o) → z.gens = s.gens → z.os = s.os → s.heap.objs.size ≤ p → z.heap.get? p = some (seqObj "list" out.toArray c) → SrtO.Srtd ltv out → out.Perm (es.toList.map (·.2)) → Q (.ref p) z) :
    wpAny (model P w) A (call (.builtin "sorted") [.ref a]) Q E s := by
  refine Calls.call_function_entry kind_sorted plain_sorted entry_sorted (args_sorted1 _) ?_
  unfold Builtin.«sorted»
  refine wpAny_bind (m := checkCount "sorted" 1 1 _) (wpAny_pure (wpAny_bind (collect_set (A := A.in1) hh ha hf (by unfold scanBound; omega) r hl fun z vs kp hz g1 o1 pm => ?_)))
  have cnt : vs.length = es.size := by rw [pm.length_eq, List.length_map, Array.length_toList]
  refine wpAny_bind (wpAny_newList ?_ (by rw [sizeLine_eq]; omega))
  have at_ : (z.heap.push (seqObj "list" vs.toArray 0)).get? z.heap.objs.size = some (seqObj "list" vs.toArray 0) := Heap.get?_push_size _ rfl
  have keep : ∀ b o, s.heap.get? b = some o → b ≠ z.heap.objs.size ∧ (z.heap.push (seqObj "list" vs.toArray 0)).get? b = some o := fun b o e => ⟨Nat.ne_of_lt (Heap.lt_size (kp b o e)), Heap.get?_push_of_some _ (kp b o e)⟩
  refine wpAny_bind (wpAny_holding (wpAny_call_entry slot_list_sort ⟨_, at_, rfl⟩ entry_list_sort
    (SrtO.list_sort_ord (s := { z with heap := z.heap.push (seqObj "list" vs.toArray 0) }) O at_ (by rw [sizeLine_eq]; omega) (fun h2 => hS vs { z with heap := z.heap.push (seqObj "list" vs.toArray 0) } z.heap.objs.size pm keep at_ h2) fun out hs hb => ⟨_, rfl, ?_⟩) (args_list_sort _)))
  obtain ⟨c, hc⟩ := sortedHeap_at (vs := vs) (out := out.toArray) at_
  refine wpAny_pure ⟨_, rfl, hQ _ z.heap.objs.size out c (fun b o e => ?_) g1 o1 hz hc hs (hb.perm.trans pm)⟩
  have lt := Heap.lt_size (kp b o e)
  show (sortedHeap (z.heap.push (seqObj "list" vs.toArray 0)) z.heap.objs.size vs out.toArray).get? b = some o
  rw [sortedHeap_old (Nat.ne_of_lt lt) (by rw [size_push']; exact Nat.lt_succ_of_lt lt)]
  exact (keep b o e).2
end
section
variable {X : Cx}
theorem dpN_at {pins : List (Addr × Obj)} {σ : L2.St} {H : Hp} {s : Shared} (I : Inv X pins σ H s) {b : Addr} {k : NestedKey} (h : Dp X.K H (.ref b) k.data) (d : k.depth ≤ 8) : Reads s.heap (.ref b) k.data [] ∧ IsN s.heap k b := by
  obtain ⟨as, r⟩ := Dp.reads I _ _ (.ref b) h rfl
  obtain ⟨e, n⟩ := reads_key _ _ _ r
  rw [e] at r
  exact ⟨r, n, d⟩
theorem cr_sortN (hc : X.calm = true) (hu : X.A.units + 64 < cLine) : CallR X (.builtin "sorted") (rSortN X.K X.w) := by
  intro pins s σ H vs us Q I r h
  obtain ⟨a, L, rfl, ha, ht, hal, hne, q⟩ := h
  obtain ⟨u, rfl, ru⟩ := vals1 r
  cases (show u = Value.ref a from ru)
  obtain ⟨es, ep, t, R⟩ := setN_at I.hok ha
  obtain ⟨o, ho, hex, hd⟩ := R.ob
  have cnt := R.count
  have few := R.few
  have one : ∀ p ∈ L, ∀ q ∈ L, p.1 = q.1 → p.2 = q.2 := fun p hp q hq e => by
    have h1 := (dpN_at I (ht p hp).1 (ht p hp).2).2.1
    rw [e] at h1
    exact NestedIs.inj _ _ _ h1 (dpN_at I (ht q hq).1 (ht q hq).2).2.1
  have vals : es.toList.map (·.2) = L.map fun p => Value.ref p.1 := by
    rw [R.rw_]
    unfold rowsN
    rw [List.map_map]
    rfl
  have each : ∀ vs : List Value, vs.Perm (es.toList.map (·.2)) → ∀ v ∈ vs, ∃ p ∈ L, v = Value.ref p.1 ∧ nOf L v = p.2 := fun vs pm v hv => by
    rw [vals] at pm
    obtain ⟨p, hp, rfl⟩ := List.mem_map.mp (pm.mem_iff.mp hv)
    exact ⟨p, hp, rfl, nOf_at one hp⟩
  refine sorted_set_big (ltv := fun v u => ltKy (nOf L v) (nOf L u)) ⟨fun x y => swo_data.asym _ _, fun x y z => swo_data.tr _ _ _⟩ (I.ok.hd hc) ⟨o, ho, hex.1, hd⟩ R.fits (by omega) R.tab.ris R.led (fun vs z l pm kp hl h2 => ?_) fun z p out c kp hg hos hp hat hs pm => ?_
  · have ne : ∀ q ∈ L, ∃ k ks, q.2 = .tup (k :: ks) := by
      rcases hne with k | k
      · exact k
      · have e := pm.length_eq
        rw [vals, List.length_map] at e
        omega
    refine sortable_N h2 (fun v hv => ?_) (fun v hv v' hv' => ?_) (fun o' e' => ?_) (by
      show X.A.units + 1 + 1 + 8 < cLine
      omega)
    · obtain ⟨p, hp, rfl, e⟩ := each vs pm v hv
      rw [e]
      exact ⟨⟨p.1, rfl, PyProof.Rows.Reads.keeps (fun b o e => (kp b o e).2) (dpN_at I (ht p hp).1 (ht p hp).2).1⟩, ne p hp, (ht p hp).2⟩
    · obtain ⟨p, hp, _, e⟩ := each vs pm v hv
      obtain ⟨p', hp', _, e'⟩ := each vs pm v' hv'
      rw [e, e']
      exact hal p hp p' hp'
    · rw [hl] at e'
      cases e'
      rfl
  · have hn : H p = none := I.hok.fresh hp
    have refs : ∀ v ∈ out, v = Value.ref (pN L v).1 := fun v hv => by
      obtain ⟨p, _, rfl, _⟩ := each out pm v hv
      rfl
    have back : (es.toList.map (·.2)).map (pN L) = L := by
      rw [vals, List.map_map]
      refine (List.map_congr_left fun p hp => ?_).trans (List.map_id L)
      exact Prod.ext rfl (nOf_at one hp)
    have pL : (out.map (pN L)).Perm L := by
      have z := pm.map (pN L)
      rw [back] at z
      exact z
    have len : out.length ≤ sizeLine := by
      have z := pL.length_eq
      rw [List.length_map] at z
      rw [sizeLine_eq]
      omega
    have srt : ((out.map (pN L)).map (·.2)).Pairwise (fun x y => ltKy y x = false) := by
      rw [List.map_map]
      exact List.pairwise_map.mpr hs
    have rel : ∀ l : List Value, (∀ v ∈ l, v = Value.ref (pN L v).1) → Vals ((l.map (pN L)).map fun q => V.ref q.1) l := by
      intro l
      induction l with
      | nil => intro _; exact .nil
      | cons v l ih => intro h; exact .cons (h v List.mem_cons_self) (ih fun u hu => h u (List.mem_cons_of_mem _ hu))
    have hz : z.heap.get? p = some { cls := .type "list", data := .seq out.toArray c } := hat
    have new : ObjOk X.prog X.w (upd H p (.lst ((out.map (pN L)).map fun q => V.ref q.1))) z.heap p (.lst ((out.map (pN L)).map fun q => V.ref q.1)) := ⟨by rw [List.length_map, List.length_map]; exact len, out, c, rel out refs, hz⟩
    exact ⟨.ref p, _, I.call' (ch := []) hos (Un.laid kp hp hn) (I.hok.laid kp hp new) (by rw [hg]; exact I.bare) (fun _ m => nomatch m), rfl, q _ p pL R.nd srt hn⟩
end
end My

namespace My
open PySem PySem.Spec PyProof.Rows L2
def New0 (P : Program) (w : World) (D : Addr) (o : HO) : Prop := o = SetS w D [] ∨ o = SetT P w D [] ∨ o = SetM P w D [] ∨ o = SetN w D []
def AddO (K : PySem.W.Frag) (P : Program) (w : World) (D : Addr) (y : V) (H : Hp) (N : Hp → Prop) : Prop :=
  (∃ (k : Str) (xs : List Str), y = .str k ∧ H D = some (SetS w D xs) ∧ xs.length + 1 < 64 ∧ ∀ xs', AddS xs k xs' → N (upd H D (SetS w D xs'))) ∨
  (∃ (b : Addr) (k : List Str) (L : List (Addr × List Str)), y = .ref b ∧ SqT K H b (k.map V.str) ∧ H D = some (SetT P w D L) ∧ (∀ p ∈ L, SqT K H p.1 (p.2.map V.str)) ∧ L.length + 1 < 64 ∧ ∀ L', AddT L b k L' → N (upd H D (SetT P w D L'))) ∨
  (∃ (b : Addr) (k : List Key) (L : List (Addr × List Key)), y = .ref b ∧ SqT K H b (k.map kV) ∧ H D = some (SetM P w D L) ∧ (∀ p ∈ L, SqT K H p.1 (p.2.map kV)) ∧ L.length + 1 < 64 ∧ ∀ L', AddM L b k L' → N (upd H D (SetM P w D L'))) ∨
  (∃ (b : Addr) (k : NestedKey) (L : List AK), y = .ref b ∧ Dp K H (.ref b) k.data ∧ k.depth ≤ 8 ∧ H D = some (SetN w D L) ∧ (∀ p ∈ L, Dp K H (.ref p.1) p.2.data ∧ p.2.depth ≤ 8) ∧ L.length + 1 < 4000 ∧ ∀ L', AddN L b k L' → N (upd H D (SetN w D L')))
section
variable {X : Cx}
theorem set_add_by {P : Program} {w : World} {A : Around} {E : Value → Shared → Prop} {z : Shared} {D : Addr} {u : Value} {Q : Value → Shared → Prop} (hT : z.TypeIs (.ref D) "set") (h : wpAny (model P w) A.in1 (setAdd D u) (fun _ z' => Q .none z') E z) :
    wpAny (model P w) A (call (.builtin "set.add") [.ref D, u]) Q E z := by
  refine wpAny_call_entry F.slot_set_add hT F.entry_set_add ?_ (F.args_set_add_2 _ _)
  unfold Builtin.«set.add» Builtin.Frozenset.oneOther
  simp only [List.isEmpty_nil, bind_assoc]
  unfold Builtin.Frozenset.addrOf
  refine wpAny_bind (wpAny_pure ?_)
  try dsimp only
  refine wpAny_bind (wpAny_pure ?_)
  try dsimp only
  refine wpAny_bind ?_
  refine wpAny_mono h (fun b z' hz => ?_) fun _ _ e => e
  exact wpAny_pure ⟨_, rfl, hz⟩
theorem add_ok {pins : List (Addr × Obj)} {σ : L2.St} {H : Hp} {s : Shared} {E : Value → Shared → Prop} {D : Addr} {y : V} {u : Value} {N : Hp → Prop} {Q : Value → Shared → Prop} (I : Inv X pins σ H s) (hu : X.A.units + 64 < cLine)
    (h : AddO X.K X.prog X.w D y H N) (r : RelV y u) (hQ : ∀ s' H', Inv X pins σ H' s' → N H' → Q .none s') : wpAny (model X.prog X.w) X.A (call (.builtin "set.add") [.ref D, u]) Q E s := by
  rcases h with ⟨k, xs, rfl, hD, few, n⟩ | ⟨b, k, L, rfl, hb, hD, hk, few, n⟩ | ⟨b, k, L, rfl, hb, hD, hk, few, n⟩ | ⟨b, k, L, rfl, hb, dep, hD, hk, few, n⟩
  · obtain ⟨tk, rfl⟩ := r
    obtain ⟨es, ep, t, R⟩ := setS_at I.hok hD
    obtain ⟨o, ho, hex, _⟩ := R.ob
    refine set_add_by ⟨o, ho, hex.1⟩ (setAdd_str R few fun c h' tk' xs' lk ⟨sb, R', p⟩ => ?_)
    have ex : ∃ u, h'.get? D = some u := by
      obtain ⟨_, _, _, q⟩ := R'
      obtain ⟨o', ho', _⟩ := q.ob
      exact ⟨o', ho'⟩
    exact hQ _ _ (I.write (x := D) (e := D) (t' := tk') (by rw [hD]; trivial) (.inl rfl) (fun c u hc hh => (sb.2 c hc).trans hh) ex (setS_ok R')) (n xs' p)
  · cases (show u = Value.ref b from r)
    obtain ⟨es, ep, t, R⟩ := setT_at I.hok hD
    obtain ⟨o, ho, hex, _⟩ := R.ob
    refine set_add_by ⟨o, ho, hex.1⟩ (setAdd_tup R (fun p hp => (tup_at I (hk p hp)).2) few (tup_at I hb).2 (by show X.A.units + 1 < cLine; omega) fun c h' tk' L' lk ⟨sb, R', p⟩ => ?_)
    have ex : ∃ u, h'.get? D = some u := by
      obtain ⟨_, _, _, q⟩ := R'
      obtain ⟨o', ho', _⟩ := q.ob
      exact ⟨o', ho'⟩
    exact hQ _ _ (I.write (x := D) (e := D) (t' := tk') (by rw [hD]; trivial) (.inl rfl) (fun c u hc hh => (sb.2 c hc).trans hh) ex (setT_ok R')) (n L' p)
  · cases (show u = Value.ref b from r)
    obtain ⟨es, ep, t, R⟩ := setM_at I.hok hD
    obtain ⟨o, ho, hex, _⟩ := R.ob
    refine set_add_by ⟨o, ho, hex.1⟩ (setAdd_tupM R (fun p hp => tupM_at I (hk p hp)) few (tupM_at I hb) (by show X.A.units + 1 < cLine; omega) fun c h' tk' L' lk ⟨sb, R', p⟩ => ?_)
    have ex : ∃ u, h'.get? D = some u := by
      obtain ⟨_, _, _, q⟩ := R'
      obtain ⟨o', ho', _⟩ := q.ob
      exact ⟨o', ho'⟩
    exact hQ _ _ (I.write (x := D) (e := D) (t' := tk') (by rw [hD]; trivial) (.inl rfl) (fun c u hc hh => (sb.2 c hc).trans hh) ex (setM_ok R')) (n L' p)
  · cases (show u = Value.ref b from r)
    obtain ⟨es, ep, t, R⟩ := setN_at I.hok hD
    obtain ⟨o, ho, hex, _⟩ := R.ob
    refine set_add_by ⟨o, ho, hex.1⟩ (setAdd_N R (fun p hp => (dpN_at I (hk p hp).1 (hk p hp).2).2) few (dpN_at I hb dep).2 (by show X.A.units + 1 + 9 < cLine; omega) fun c h' tk' L' lk sb R' p => ?_)
    have ex : ∃ u, h'.get? D = some u := by
      obtain ⟨_, _, _, q⟩ := R'
      obtain ⟨o', ho', _⟩ := q.ob
      exact ⟨o', ho'⟩
    exact hQ _ _ (I.write (x := D) (e := D) (t' := tk') (by rw [hD]; trivial) (.inl rfl) (fun c u hc hh => (sb.2 c hc).trans hh) ex (setN_ok R')) (n L' p)
end
end My

namespace My
open PySem PySem.Spec PyProof.Rows L2
def turnOf (p : Pos) (tg : Expr) (ifs : List Expr) (inner : Sem Unit) (c : Code) (it : Value) (env : Env) : Sem Fin := do
  standAt p
  match ← pyNext it with
  | none => pure (.done .next)
  | some v =>
    letOwnedTupleGo tg it v
    assign tg env v
    let mut ok := true
    for c in ifs do
      if ok then ok ← isTrue c env (eval c env)
    if ok then inner
    again c
abbrev testsIn (ifs : List Expr) (env : Env) : Sem Bool := forIn ifs true fun c r => if r = true then do let ok ← isTrue c env (eval c env); pure (ForInStep.yield ok) else pure (ForInStep.yield r)
abbrev No : Value → Shared → Prop := fun _ _ => False
section
variable {P : Program} {w : World} {A : Around} {R : Result → Shared → Prop} {s : Shared}
theorem no_any {α : Type} {t : Sem α} {Q Q' : α → Shared → Prop} {E : Value → Shared → Prop} (h : wpAny (model P w) A t Q No s) (f : ∀ a z, Q a z → Q' a z) : wpAny (model P w) A t Q' E s := wpAny_mono h f fun _ _ z => z.elim
theorem loop_by {e tg : Expr} {k : Nat} {it acc : Value} {env : Env} {p : Pos} {ifs : List Expr} {inner : Sem Unit} (ht : compTurn e k it acc env = turnOf p tg ifs inner (.compLoop e k it acc env) it env)
    (hv : A.under (.compLoop e k it acc env) = A) (hd : (model P w).den (.compLoop e k it acc env) = (compTurn e k it acc env).onRaise fun x => do noteFrame x env; theTreesLotGoes x) (I : Nat → Shared → Prop)
    (turn : ∀ n z, I n z → wpAny (model P w) A (pyNext it) (fun r z1 => match r with
      | none => R (.ok .next) z1
      | some v => wpAny (model P w) A (letOwnedTupleGo tg it v) (fun _ z2 => wpAny (model P w) A (assign tg env v) (fun _ z3 => wpAny (model P w) A (testsIn ifs env) (fun ok z4 =>
          if ok = true then wpAny (model P w) A inner (fun _ z5 => ∃ m, m < n ∧ I m z5) No z4 else ∃ m, m < n ∧ I m z4) No z3) No z2) No z1) No z) (n : Nat) (h : I n s) :
    codeAny (model P w) A (.compLoop e k it acc env) R s := by
  refine codeAny_loop rfl I (fun n z hI => ?_) n h
  rw [hv, hd]
  refine wpAny_noted ?_
  rw [ht]
  unfold turnOf
  refine wpAny_bind (wpAny_standAt (wpAny_bind (no_any (turn n z hI) fun r z1 h1 => ?_)))
  cases r with
  | none => exact wpAny_pure h1
  | some v =>
    refine wpAny_bind (no_any h1 fun _ z2 h2 => wpAny_bind (no_any h2 fun _ z3 h3 => wpAny_bind (no_any h3 fun ok z4 h4 => ?_)))
    cases ok with
    | false => exact wpAny_pure ⟨rfl, h4⟩
    | true => exact wpAny_bind (no_any h4 fun _ z5 h5 => wpAny_pure ⟨rfl, h5⟩)
end
abbrev TIn := L2.St → Hp → (Hp → Prop) → Prop
def InnerOk (B : Cx) (vs : List Nat) (inner : Sem Unit) (ti : TIn) : Prop :=
  ∀ (pins : List (Addr × Obj)) (σ : L2.St) (H : Hp) (z : Shared) (N : Hp → Prop), Inv B pins σ H z → ti σ H N →
    wpAny (model B.prog B.w) B.A inner (fun _ z' => ∃ σ' H', Inv B pins σ' H' z' ∧ σ'.length = σ.length ∧ (∀ (j : Nat) (v : V), j ∉ vs → σ[j]? = some (some v) → σ'[j]? = some (some v)) ∧ N H') No z
def Turns (J : It) (g : TG) (tt : TT) (ti : TIn) (vs : List Nat) (σ : L2.St) (W : Nat → Nat → Hp → Prop) (Last : Hp → Prop) : Prop :=
  ∀ i m H, W i m H → (J.stop i H ∧ Last H) ∨ (J.go i H ∧ ∃ Nx : Hp → Prop, (∀ H', Nx H' → ∃ m', m' < m ∧ W (i + 1) m' H') ∧
    ∀ x H', J.yld i H x H' → g x (wipe σ vs) H' fun σ2 H2 => wipe σ2 vs = wipe σ vs ∧ tt σ2 H2 fun b H3 => if b = true then ti σ2 H3 Nx else Nx H3)
theorem block_walk {B : Cx} {tg e : Expr} {J : It} {fp : List Addr} {it : Addr} {tn : Nat → Heap → Prop} {g : TG} {tt : TT} {ti : TIn} {vs : List Nat} {ifs : List Expr} {inner : Sem Unit} {p : Pos} {k m0 : Nat} {acc : Value} {W : Nat → Nat → Hp → Prop} {Last : Hp → Prop}
    {pins : List (Addr × Obj)} {σ : L2.St} {H : Hp} {s : Shared} (hx : B.xe = No) (hc : B.calm = true) (T : Turn B.prog B.w B.K tg J fp it tn) (pg : PG B tg g) (pt : PTs B ifs tt) (pin : InnerOk B vs inner ti)
    (ht : compTurn e k (.ref it) acc B.env = turnOf p tg ifs inner (.compLoop e k (.ref it) acc B.env) (.ref it) B.env)
    (hv : B.A.under (.compLoop e k (.ref it) acc B.env) = B.A) (hd : (model B.prog B.w).den (.compLoop e k (.ref it) acc B.env) = (compTurn e k (.ref it) acc B.env).onRaise fun x => do noteFrame x B.env; theTreesLotGoes x)
    (stat : ∀ {σ' : L2.St} {H' : Hp} {z : Shared}, Inv B pins σ' H' z → (∀ b ∈ fp, H' b = none) → ∀ b ∈ fp, FpOk B pins H' b)
    (I0 : Inv B pins (wipe σ vs) H s) (st0 : tn 0 s.heap) (n0 : ∀ b ∈ fp, H b = none) (w0 : W 0 m0 H) (tu : Turns J g tt ti vs σ W Last) :
    codeAny (model B.prog B.w) B.A (.compLoop e k (.ref it) acc B.env) (fun r z => r = .ok .next ∧ ∃ H', Inv B pins (wipe σ vs) H' z ∧ Last H') s := by
  refine loop_by ht hv hd (fun n z => ∃ i G, Inv B pins (wipe σ vs) G z ∧ tn i z.heap ∧ (∀ b ∈ fp, G b = none) ∧ W i n G) ?_ m0 ⟨0, H, I0, st0, n0, w0⟩
  rintro n z ⟨i, G, IG, st, nf, hw⟩
  rcases tu i n G hw with ⟨stop, fin⟩ | ⟨go, Nx, hNx, step⟩
  · refine no_any (T.done B rfl rfl rfl hc i pins z _ G No IG (stat IG nf) st stop) fun r z1 ⟨hr, I1⟩ => ?_
    rw [hr]
    exact ⟨rfl, G, I1, fin⟩
  · refine no_any (T.item B rfl rfl rfl hc i pins z _ G No IG (stat IG nf) st go) fun r z1 ⟨u, hr, h1⟩ => ?_
    subst hr
    refine no_any h1 fun _ z2 ⟨x, G2, I2, r2, y2, st2, nf2⟩ => ?_
    have run1 := pg.run _ z2 _ G2 x u _ (I2.pinned (stat I2 nf2) (T.obj _ _ st2)) r2 (step x G2 y2)
    rw [hx] at run1
    refine no_any run1 fun _ z3 ⟨σ3, G3, I3, e3, q3⟩ => ?_
    have run2 := pt.run _ z3 σ3 G3 _ I3 q3
    rw [hx] at run2
    refine no_any run2 fun b z4 ⟨G4, I4, q4⟩ => ?_
    have back : ∀ {σ' : L2.St} {G' : Hp} {z' : Shared}, Inv B (pins ++ pinsAt fp z2.heap) σ' G' z' → σ'.length = σ3.length → (∀ (j : Nat) (v : V), j ∉ vs → σ3[j]? = some (some v) → σ'[j]? = some (some v)) → Nx G' →
        ∃ m, m < n ∧ ∃ i G, Inv B pins (wipe σ vs) G z' ∧ tn i z'.heap ∧ (∀ b ∈ fp, G b = none) ∧ W i m G := by
      intro σ' G' z' I' hl hk nx
      obtain ⟨m', hm, w'⟩ := hNx G' nx
      have held : ∀ b ∈ fp, ∀ o, z2.heap.get? b = some o → z'.heap.get? b = some o ∧ G' b = none := fun b hb o eo =>
        have q := I'.pin (b, o) (List.mem_append_right _ (List.mem_append_right _ (mem_pinsAt hb eo)))
        ⟨q.1, q.2.1⟩
      refine ⟨m', hm, i + 1, G', I'.unpinned.weak ?_ (fun j v ev => ?_), T.keep _ _ _ st2 fun b hb o eo => (held b hb o eo).1, fun b hb => ?_, w'⟩
      · rw [hl, ← e3, wipe_length]
      · rw [← e3] at ev
        obtain ⟨e1, e2⟩ := wipe_some ev
        exact hk j v e2 e1
      · obtain ⟨o, eo, _⟩ := T.obj _ _ st2 b hb
        exact (held b hb o eo).2
    cases b with
    | false =>
      rw [if_neg Bool.false_ne_true] at q4 ⊢
      exact back I4 rfl (fun j v _ e => e) q4
    | true =>
      rw [if_pos rfl] at q4 ⊢
      exact no_any (pin _ σ3 G4 z4 Nx I4 q4) fun _ z5 ⟨σ5, G5, I5, l5, k5, n5⟩ => back I5 l5 k5 n5
end My

namespace My
open PySem PySem.Spec PyProof.Rows L2
def tSet (P : Program) (w : World) (wi : TI) (g : TG) (tt : TT) (ti : Addr → TIn) (vs : List Nat) : TE := fun σ H Q =>
  wi σ H fun J H1 => ∀ D, H1 D = none → ∃ o0, New0 P w D o0 ∧ ∃ (W : Nat → Nat → Hp → Prop) (m0 : Nat), W 0 m0 (upd H1 D o0) ∧ Turns J g tt (ti D) vs σ W fun H' => Q (.ref D) H'
section
variable {X : Cx}
abbrev InBlk (X : Cx) (scope : Scope) (F : Cx → Prop) : Prop := ∀ (s : Shared) (H : Hp) (C : Addr) (cl : List (Str × Addr)) (fp : List Addr), F (X.blk s H scope (compEnvC scope cl C X.env) fp)
theorem pe_set_of {elt tg iter : Expr} {ifs : List Expr} {rest : List Comprehension} {scope : Scope} {own : List (Str × Nat)} {pos : Pos} {wi : TI} {g : TG} {tt : TT} {ti : Addr → TIn} {inner : Value → Env → Sem Unit} (hc : X.calm = true) (hN : X.N.Nodup)
    (ht : ∀ it acc env, compTurn (.SetComp elt (⟨tg, iter, ifs, 0⟩ :: rest) scope pos) 0 it acc env = turnOf iter.pos tg ifs (inner acc env) (.compLoop (.SetComp elt (⟨tg, iter, ifs, 0⟩ :: rest) scope pos) 0 it acc env) it env)
    (hi : PI X tg iter wi) (ok : BlkOk X.N X.env.scope scope own) (hg : InBlk X scope fun B => PG B tg g) (htt : InBlk X scope fun B => PTs B ifs tt) (hin : InBlk X scope fun B => ∀ D : Addr, InnerOk B (own.map (·.2)) (inner (.ref D) B.env) (ti D))
    (hs : ∀ x, foldedSetIterable iter X.env x = pure x := by intro _; rfl) : PE X (.SetComp elt (⟨tg, iter, ifs, 0⟩ :: rest) scope pos) (tSet X.prog X.w wi g tt ti (own.map (·.2))) := by
  refine ⟨fun pins s σ H Q I h => ?_⟩
  rw [PpSet.eval_SetComp]
  have free : ∀ y ∈ scope.names, y.2 = .free → ∃ c, X.env.cells.lookup y.1 = some c := fun y hy e => I.ok.has _ (by
    rcases ok.free y hy e with k | k
    · exact .inl k
    · exact .inr k)
  refine wpAny_comprehension_free (use := none) rfl hs (closure_ok free) ok.kind (fun y hy e => by rw [ok.uniq y hy, e]) (thn (hi.run pins s σ H _ I h) fun xv z1 h1 => thn h1 fun itv z2 h2 => ?_)
  obtain ⟨it, fp, tn, J, H2, rfl, I2, T, st2, f2, q⟩ := h2
  refine PpSet.newSet_ok (newEnv_comp ?_)
  have hDn : H2 z2.heap.objs.size = none := I2.hok.fresh (Nat.le_refl _)
  obtain ⟨o0, hnew, W, m0, w0, tu⟩ := q _ hDn
  generalize hz3 : ({ z2 with heap := z2.heap.push { cls := .type "set", dict := none, data := .set #[] 0 (.fresh 0 0 (!X.w.params.followText "set-order")) } } : Shared) = z3
  have e3 : z3.heap = z2.heap.push (set0 X.w) := by rw [← hz3]
  have at3 : z3.heap.get? z2.heap.objs.size = some (set0 X.w) := by
    rw [e3]
    exact Heap.get?_push_size _ rfl
  have new : ObjOk X.prog X.w (upd H2 z2.heap.objs.size o0) z3.heap z2.heap.objs.size o0 := by
    rcases hnew with rfl | rfl | rfl | rfl
    · exact setS_ok ⟨_, _, _, tabS_new at3⟩
    · exact setT_ok ⟨_, _, _, tabT_new at3⟩
    · exact setM_ok ⟨_, _, _, tabM_new at3⟩
    · exact setN_ok ⟨_, _, _, tabN_new at3⟩
  have I3 : Inv X pins σ (upd H2 z2.heap.objs.size o0) z3 := by
    rw [← hz3] at new ⊢
    exact I2.laid (t' := z2.toks) (fun b o e => Heap.get?_push_of_some _ e) (Nat.le_refl _) new
  have f3 : ∀ b ∈ fp, FpOk X pins (upd H2 z2.heap.objs.size o0) b ∧ b < z3.heap.objs.size := fun b hb => by
    obtain ⟨o, eo, _⟩ := T.obj _ _ st2 b hb
    have lt := Heap.lt_size eo
    refine ⟨⟨?_, (f2 b hb).2⟩, ?_⟩
    · rw [upd_ne (Nat.ne_of_lt lt)]
      exact (f2 b hb).1
    · rw [e3, Heap.size_push]
      exact Nat.lt_succ_of_lt lt
  generalize z2.heap.objs.size = D at *
  have I4 := block_start I3 ok hN f3
  show codeAny _ _ (.compStart (.SetComp elt (⟨tg, iter, ifs, 0⟩ :: rest) scope pos) 0 (.ref it) (.ref D) (compEnvC scope (cellsFrom (z3.heap.objs.size + 1) scope.names (cloFrom X.env.cells scope.names [])) z3.heap.objs.size X.env)) (compPost (model X.prog X.w) X.A X.xe none (EP X pins σ Q) (.ref D) z3.heap.objs.size) { z3 with heap := pushCells (z3.heap.push { cls := .type "dict", data := .dict #[] }) scope.names }
  have qg := hg z3 (upd H2 D o0) z3.heap.objs.size (cellsFrom (z3.heap.objs.size + 1) scope.names (cloFrom X.env.cells scope.names [])) fp
  have qt := htt z3 (upd H2 D o0) z3.heap.objs.size (cellsFrom (z3.heap.objs.size + 1) scope.names (cloFrom X.env.cells scope.names [])) fp
  have qi := hin z3 (upd H2 D o0) z3.heap.objs.size (cellsFrom (z3.heap.objs.size + 1) scope.names (cloFrom X.env.cells scope.names [])) fp D
  dsimp only at qi
  generalize hce : compEnvC scope (cellsFrom (z3.heap.objs.size + 1) scope.names (cloFrom X.env.cells scope.names [])) z3.heap.objs.size X.env = ce at I4 qg qt qi ⊢
  have cL : ce.locals = z3.heap.objs.size := by
    rw [← hce]
    rfl
  generalize hz4 : ({ z3 with heap := pushCells (z3.heap.push { cls := .type "dict", data := .dict #[] }) scope.names } : Shared) = z4 at I4 ⊢
  have st4 : tn 0 z4.heap := T.keep _ _ _ st2 fun b _ o e => by
    rw [← hz4]
    refine pushCells_keeps _ _ _ _ (Heap.get?_push_of_some _ ?_)
    rw [e3]
    exact Heap.get?_push_of_some _ e
  have walk := block_walk (B := X.blk z3 (upd H2 D o0) scope ce fp) (k := 0) (acc := .ref D) rfl hc T qg qt qi (ht _ _ _) rfl rfl
    (fun {σ' H' z} I' hn b hb => ⟨hn b hb, (I'.ok.exf b hb).1, I'.ok.exfs b hb, .inl hb, fun x c e => (I'.ok.exf b hb).2 x c e, fun p hp => absurd (show p ∈ ([] : List (Addr × Obj)) ++ [] from hp) (by simp)⟩) I4 st4 (fun b hb => (f3 b hb).1.1) w0 tu
  have loop : codeAny (model X.prog X.w) X.A (.compLoop (.SetComp elt (⟨tg, iter, ifs, 0⟩ :: rest) scope pos) 0 (.ref it) (.ref D) ce) (compPost (model X.prog X.w) X.A X.xe none (EP X pins σ Q) (.ref D) z3.heap.objs.size) z4 := by
    refine codeAny_mono walk fun r z ⟨hr, G, IG, qG⟩ => ?_
    rw [hr]
    have IX : Inv X pins σ G z := I3.call' (ch := fp) IG.os IG.base IG.hok IG.bare fun b hb => ⟨(f3 b hb).1.2.2.2.1, (f3 b hb).1.2.1, (f3 b hb).1.2.2.2.2.1, (f3 b hb).1.2.2.2.2.2⟩
    have nC : G z3.heap.objs.size = none := by
      rw [← cL]
      exact IG.free
    obtain ⟨m, hn, _⟩ := IG.loc
    have hn : z.heap.Ns ce.locals m := hn
    rw [cL] at hn
    obtain ⟨k0, k1, k2, k3, k4, k5⟩ := I3.fpOk (Nat.le_refl _) nC
    exact ⟨m, hn, fun h' sb => ⟨.ref D, G, IX.turned (t' := z.toks) (fun b o hb e => (sb.2 b hb).trans e) k0 k1 k3 k4 k5, rfl, qG⟩⟩
  exact PpSet.codeAny_compStart_set loop (T.self X.A 0 _ _ _ st4 loop)
end
end My

namespace My
open PySem PySem.Spec PyProof.Rows L2
section
variable {X : Cx}
def inAdd (elt : Expr) (acc : Value) (env : Env) : Sem Unit := do
  let v ← eval elt env
  standAt elt.pos
  let _ ← call (.builtin "set.add") [acc, v]
def tiAdd (K : PySem.W.Frag) (P : Program) (w : World) (te : TE) (D : Addr) : TIn := fun σ H N => te σ H fun y H4 => AddO K P w D y H4 N
theorem in_add {B : Cx} {elt : Expr} {te : TE} {D : Addr} {vs : List Nat} (hx : B.xe = No) (hu : B.A.units + 64 < cLine) (he : PE B elt te) : InnerOk B vs (inAdd elt (.ref D) B.env) (tiAdd B.K B.prog B.w te D) := by
  intro pins σ H z N I h
  unfold inAdd
  have run1 := he.run pins z σ H _ I h
  rw [hx] at run1
  refine wpAny_bind (no_any run1 fun u z1 ⟨y, H1, I1, r1, q1⟩ => wpAny_bind (wpAny_standAt ?_))
  exact wpAny_bind (add_ok I1 hu q1 r1 fun z2 H2 I2 n2 => wpAny_pure ⟨σ, H2, I2, rfl, fun _ _ _ e => e, n2⟩)
theorem pe_sq {elt tg iter : Expr} {ifs : List Expr} {scope : Scope} {own : List (Str × Nat)} {pos : Pos} {wi : TI} {g : TG} {tt : TT} {te : TE} (hc : X.calm = true) (hN : X.N.Nodup) (hu : X.A.units + 64 < cLine)
    (hi : PI X tg iter wi) (ok : BlkOk X.N X.env.scope scope own) (hg : ∀ (s : Shared) (H : Hp) (C : Addr) (cl : List (Str × Addr)) (fp : List Addr), PG (X.blk s H scope (compEnvC scope cl C X.env) fp) tg g) (htt : ∀ (s : Shared) (H : Hp) (C : Addr) (cl : List (Str × Addr)) (fp : List Addr), PTs (X.blk s H scope (compEnvC scope cl C X.env) fp) ifs tt) (he : ∀ (s : Shared) (H : Hp) (C : Addr) (cl : List (Str × Addr)) (fp : List Addr), PE (X.blk s H scope (compEnvC scope cl C X.env) fp) elt te)
    (hs : ∀ x, foldedSetIterable iter X.env x = pure x := by intro _; rfl) : PE X (.SetComp elt [⟨tg, iter, ifs, 0⟩] scope pos) (tSet X.prog X.w wi g tt (tiAdd X.K X.prog X.w te) (own.map (·.2))) :=
  pe_set_of (inner := inAdd elt) hc hN (fun it acc env => rfl) hi ok hg htt (fun s H C cl fp D => in_add rfl hu (he s H C cl fp)) hs
def inTwo (elt t0 i0 t1 i1 : Expr) (ifs0 ifs1 : List Expr) (scope : Scope) (pos : Pos) (acc : Value) (env : Env) : Sem Unit := do
  let x ← eval i1 env
  standAt i1.pos
  let x ← foldedSetIterable i1 env x
  let _ ← runOwn (.compStart (.SetComp elt [⟨t0, i0, ifs0, 0⟩, ⟨t1, i1, ifs1, 0⟩] scope pos) 1 (← holding [x] (pyIter x)) acc env) env
def tiTwo (wi1 : TI) (g1 : TG) (tt1 : TT) (ti1 : Addr → TIn) (vs1 : List Nat) (D : Addr) : TIn := fun σ H N =>
  wi1 σ H fun J1 H4 => ∃ (W1 : Nat → Nat → Hp → Prop) (m1 : Nat), W1 0 m1 H4 ∧ Turns J1 g1 tt1 (ti1 D) vs1 σ W1 N
theorem turn_two (elt t0 i0 t1 i1 : Expr) (ifs0 ifs1 : List Expr) (scope : Scope) (pos : Pos) (it acc : Value) (env : Env) :
    compTurn (.SetComp elt [⟨t0, i0, ifs0, 0⟩, ⟨t1, i1, ifs1, 0⟩] scope pos) 0 it acc env = turnOf i0.pos t0 ifs0 (inTwo elt t0 i0 t1 i1 ifs0 ifs1 scope pos acc env) (.compLoop (.SetComp elt [⟨t0, i0, ifs0, 0⟩, ⟨t1, i1, ifs1, 0⟩] scope pos) 0 it acc env) it env := by
  unfold turnOf inTwo
  simp only [bind_assoc]
  rfl
theorem turn_two1 (elt t0 i0 t1 i1 : Expr) (ifs0 ifs1 : List Expr) (scope : Scope) (pos : Pos) (it acc : Value) (env : Env) :
    compTurn (.SetComp elt [⟨t0, i0, ifs0, 0⟩, ⟨t1, i1, ifs1, 0⟩] scope pos) 1 it acc env = turnOf i1.pos t1 ifs1 (inAdd elt acc env) (.compLoop (.SetComp elt [⟨t0, i0, ifs0, 0⟩, ⟨t1, i1, ifs1, 0⟩] scope pos) 1 it acc env) it env := rfl
theorem start_two {P : Program} {w : World} {A : Around} {R : Result → Shared → Prop} {s : Shared} {elt t0 i0 t1 i1 : Expr} {ifs0 ifs1 : List Expr} {scope : Scope} {pos : Pos} {it acc : Value} {env : Env}
    (h : codeAny (model P w) A (.compLoop (.SetComp elt [⟨t0, i0, ifs0, 0⟩, ⟨t1, i1, ifs1, 0⟩] scope pos) 1 it acc env) R s)
    (again : ∀ E, wpAny (model P w) A (pyIter it) (fun it' z => codeAny (model P w) A (.compLoop (.SetComp elt [⟨t0, i0, ifs0, 0⟩, ⟨t1, i1, ifs1, 0⟩] scope pos) 1 it' acc env) R z) E s) :
    codeAny (model P w) A (.compStart (.SetComp elt [⟨t0, i0, ifs0, 0⟩, ⟨t1, i1, ifs1, 0⟩] scope pos) 1 it acc env) R s := by
  refine codeAny_of_tree ?_
  show wpAny _ _ ((compStart (.SetComp elt [⟨t0, i0, ifs0, 0⟩, ⟨t1, i1, ifs1, 0⟩] scope pos) 1 it acc env).onRaise (fun x => do noteFrame x env; standAt theWindowsPlace)) _ _ s
  refine wpAny_notedAt ?_
  unfold compStart
  show wpAny _ _ (ask >>= _) _ _ s
  refine wpAny_bind (wpAny_askSetting (wpAny_ite ?_))
  split
  · first
      | exact wpAny_pure (And.intro rfl h)
      | exact wpAny_bind (wpAny_pure (wpAny_pure (And.intro rfl h)))
  · refine wpAny_bind (wpAny_rule ?_)
    first
      | exact wpAny_bind (wpAny_standAt (wpAny_bind (wpAny_mono (again _) (fun _ _ q => wpAny_pure (And.intro rfl q)) fun _ _ e => e)))
      | (show wpAny _ _ (standAt i1.pos >>= _) _ _ s
         exact wpAny_bind (wpAny_standAt (wpAny_bind (wpAny_mono (again _) (fun _ _ q => wpAny_pure (And.intro rfl q)) fun _ _ e => e))))
theorem in_two {B : Cx} {elt t0 i0 t1 i1 : Expr} {ifs0 ifs1 : List Expr} {scope : Scope} {pos : Pos} {te : TE} {D : Addr} {vs vs1 : List Nat} {wi1 : TI} {g1 : TG} {tt1 : TT} (hx : B.xe = No) (hc : B.calm = true) (hu : B.A.units + 64 < cLine) (hv : ∀ i ∈ vs1, i ∈ vs)
    (hi1 : PI B t1 i1 wi1) (hg1 : PG B t1 g1) (ht1 : PTs B ifs1 tt1) (he : PE B elt te) (hs1 : ∀ env x, foldedSetIterable i1 env x = pure x) :
    InnerOk B vs (inTwo elt t0 i0 t1 i1 ifs0 ifs1 scope pos (.ref D) B.env) (tiTwo wi1 g1 tt1 (tiAdd B.K B.prog B.w te) vs1 D) := by
  intro pins σ H z N I h
  unfold inTwo
  have run1 := hi1.run pins z σ H _ I h
  rw [hx] at run1
  refine wpAny_bind (no_any run1 fun u z1 h1 => wpAny_bind (wpAny_standAt (wpAny_bind (wpAny_of_eq (hs1 B.env u) (wpAny_bind (wpAny_holding (no_any h1 fun itv z2 h2 => ?_)))))))
  obtain ⟨it, fp, tn, J, H2, rfl, I2, T, st2, f2, W1, m1, w1, tu⟩ := h2
  refine wpAny_bind (wpAny_runOwn ?_ (by intro x; cases x))
  rw [Around.mark_none]
  have walk := block_walk (B := B) (k := 1) (acc := .ref D) (vs := vs1) (e := .SetComp elt [⟨t0, i0, ifs0, 0⟩, ⟨t1, i1, ifs1, 0⟩] scope pos) hx hc T hg1 ht1 (in_add hx hu he) (turn_two1 _ _ _ _ _ _ _ _ _ _ _ _) rfl rfl
    (fun {σ' H' z'} _ hn b hb => ⟨hn b hb, (f2 b hb).2⟩) (I2.weak (wipe_length σ vs1) fun j v e => (wipe_some e).1) st2 (fun b hb => (f2 b hb).1) w1 tu
  have walk' := codeAny_mono walk (R' := fun r z' => match r with
    | .ok f => wpAny (model B.prog B.w) B.A (pure () : Sem Unit) (fun _ z' => ∃ σ' H', Inv B pins σ' H' z' ∧ σ'.length = σ.length ∧ (∀ (j : Nat) (v : V), j ∉ vs → σ[j]? = some (some v) → σ'[j]? = some (some v)) ∧ N H') No z'
    | .error e => cameBackBy (model B.prog B.w) B.A B.env No e z') fun r z3 ⟨hr, G, IG, nG⟩ => by
      rw [hr]
      exact wpAny_pure ⟨_, G, IG, wipe_length σ vs1, fun j v hj e => by rw [wipe_out fun m => hj (hv j m)]; exact e, nG⟩
  exact start_two walk' fun E => T.self B.A 0 _ _ _ st2 walk'
theorem pe_sq2 {elt t0 i0 t1 i1 : Expr} {ifs0 ifs1 : List Expr} {scope : Scope} {own : List (Str × Nat)} {vs1 : List Nat} {pos : Pos} {wi wi1 : TI} {g g1 : TG} {tt tt1 : TT} {te : TE} (hc : X.calm = true) (hN : X.N.Nodup) (hu : X.A.units + 64 < cLine)
    (hi : PI X t0 i0 wi) (ok : BlkOk X.N X.env.scope scope own) (hv : ∀ i ∈ vs1, i ∈ own.map (·.2)) (hg : ∀ (s : Shared) (H : Hp) (C : Addr) (cl : List (Str × Addr)) (fp : List Addr), PG (X.blk s H scope (compEnvC scope cl C X.env) fp) t0 g) (ht : ∀ (s : Shared) (H : Hp) (C : Addr) (cl : List (Str × Addr)) (fp : List Addr), PTs (X.blk s H scope (compEnvC scope cl C X.env) fp) ifs0 tt)
    (hi1 : ∀ (s : Shared) (H : Hp) (C : Addr) (cl : List (Str × Addr)) (fp : List Addr), PI (X.blk s H scope (compEnvC scope cl C X.env) fp) t1 i1 wi1) (hg1 : ∀ (s : Shared) (H : Hp) (C : Addr) (cl : List (Str × Addr)) (fp : List Addr), PG (X.blk s H scope (compEnvC scope cl C X.env) fp) t1 g1) (ht1 : ∀ (s : Shared) (H : Hp) (C : Addr) (cl : List (Str × Addr)) (fp : List Addr), PTs (X.blk s H scope (compEnvC scope cl C X.env) fp) ifs1 tt1) (he : ∀ (s : Shared) (H : Hp) (C : Addr) (cl : List (Str × Addr)) (fp : List Addr), PE (X.blk s H scope (compEnvC scope cl C X.env) fp) elt te)
    (hs : ∀ x, foldedSetIterable i0 X.env x = pure x := by intro _; rfl) (hs1 : ∀ env x, foldedSetIterable i1 env x = pure x := by intro _ _; rfl) :
    PE X (.SetComp elt [⟨t0, i0, ifs0, 0⟩, ⟨t1, i1, ifs1, 0⟩] scope pos) (tSet X.prog X.w wi g tt (tiTwo wi1 g1 tt1 (tiAdd X.K X.prog X.w te) vs1) (own.map (·.2))) :=
  pe_set_of (inner := inTwo elt t0 i0 t1 i1 ifs0 ifs1 scope pos) hc hN (fun it acc env => turn_two _ _ _ _ _ _ _ _ _ _ _ _) hi ok hg ht
    (fun s H C cl fp D => in_two rfl hc hu hv (hi1 s H C cl fp) (hg1 s H C cl fp) (ht1 s H C cl fp) (he s H C cl fp) hs1) hs
end
end My

namespace My
open PySem PySem.Spec PyProof.Rows L2
variable [TbC]
def insU {α : Type} (lt : α → α → Bool) (x : α) : List α → List α
  | [] => [x]
  | y :: ys => if lt y x = true then y :: insU lt x ys else x :: y :: ys
def sortU {α : Type} (lt : α → α → Bool) : List α → List α
  | [] => []
  | x :: r => insU lt x (sortU lt r)
omit [TbC] in
theorem insU_perm {α : Type} {lt : α → α → Bool} {x : α} : ∀ l : List α, (insU lt x l).Perm (x :: l)
  | [] => List.Perm.refl _
  | y :: ys => by
    unfold insU
    split
    · exact ((insU_perm ys).cons y).trans (List.Perm.swap x y ys)
    · exact List.Perm.refl _
omit [TbC] in
theorem sortU_perm {α : Type} {lt : α → α → Bool} : ∀ l : List α, (sortU lt l).Perm l
  | [] => List.Perm.refl _
  | x :: r => (insU_perm _).trans ((sortU_perm r).cons x)
omit [TbC] in
theorem ntrans {α : Type} {lt : α → α → Bool} (T : Tot lt) {a b c : α} (h1 : lt b a = false) (h2 : lt c b = false) : lt c a = false := by
  cases h : lt c a with
  | false => rfl
  | true =>
    cases k : lt a b with
    | true =>
      rw [T.trans _ _ _ h k] at h2
      cases h2
    | false =>
      have e := T.tri _ _ k h1
      subst e
      rw [h] at h2
      cases h2
omit [TbC] in
theorem insU_pw {α : Type} {lt : α → α → Bool} (T : Tot lt) {x : α} : ∀ {l : List α}, l.Pairwise (fun x y => lt y x = false) → (insU lt x l).Pairwise (fun x y => lt y x = false)
  | [], _ => List.pairwise_singleton _ _
  | y :: ys, h => by
    rw [List.pairwise_cons] at h
    unfold insU
    split
    · rename_i c
      refine List.pairwise_cons.mpr ⟨fun z hz => ?_, insU_pw T h.2⟩
      rcases List.mem_cons.mp ((insU_perm ys).mem_iff.mp hz) with e | hz
      · rw [e]
        exact T.asym c
      · exact h.1 z hz
    · rename_i c
      have c' : lt y x = false := Bool.eq_false_iff.mpr c
      refine List.pairwise_cons.mpr ⟨fun z hz => ?_, List.pairwise_cons.mpr h⟩
      rcases List.mem_cons.mp hz with e | hz
      · rw [e]
        exact c'
      · exact ntrans T c' (h.1 z hz)
omit [TbC] in
theorem sortU_srt {α : Type} {lt : α → α → Bool} (T : Tot lt) : ∀ l : List α, (sortU lt l).Pairwise (fun x y => lt y x = false)
  | [] => List.Pairwise.nil
  | x :: r => insU_pw T (sortU_srt T r)
omit [TbC] in
theorem sortU_asc {α : Type} {lt : α → α → Bool} (T : Tot lt) {l : List α} (nd : l.Nodup) : Asc lt (sortU lt l) :=
  asc_of T (sortU_srt T l) ((sortU_perm l).nodup_iff.mpr nd)
omit [TbC] in
theorem sortU_is {α : Type} [DecidableEq α] {lt : α → α → Bool} (T : Tot lt) {l ys : List α} (nd : l.Nodup) (asc : Asc lt ys) (mem : ∀ x, x ∈ ys ↔ x ∈ l) : ys = sortU lt l :=
  asc_uniq T asc (sortU_asc T nd) fun x => (mem x).trans (sortU_perm l).mem_iff.symm
def addU {α : Type} [DecidableEq α] (acc : List α) (k : α) : List α := if k ∈ acc then acc else acc ++ [k]
omit [TbC] in
theorem addU_mem {α : Type} [DecidableEq α] {acc : List α} {k x : α} : x ∈ addU acc k ↔ x = k ∨ x ∈ acc := by
  unfold addU
  split
  · exact ⟨.inr, fun h => h.elim (fun e => by rw [e]; assumption) id⟩
  · rw [List.mem_append, List.mem_singleton]
    exact Or.comm
omit [TbC] in
theorem addU_nd {α : Type} [DecidableEq α] {acc : List α} {k : α} (h : acc.Nodup) : (addU acc k).Nodup := by
  unfold addU
  split
  · exact h
  · rename_i c
    exact List.nodup_append.mpr ⟨h, by simp, fun a ha b hb e => c (by rw [List.mem_singleton] at hb; rw [← hb, ← e]; exact ha)⟩
omit [TbC] in
theorem addU_grow {α : Type} [DecidableEq α] {acc : List α} {k : α} : acc.length ≤ (addU acc k).length := by
  unfold addU
  split
  · exact Nat.le_refl _
  · rw [List.length_append]
    omega
def ddU {α : Type} [DecidableEq α] (l : List α) : List α := l.foldl addU []
omit [TbC] in
theorem ddU_from {α : Type} [DecidableEq α] : ∀ (l acc : List α), acc.Nodup → (l.foldl addU acc).Nodup ∧ ∀ x, x ∈ l.foldl addU acc ↔ x ∈ acc ∨ x ∈ l
  | [], acc, h => ⟨h, fun x => by simp⟩
  | k :: l, acc, h => by
    obtain ⟨a, b⟩ := ddU_from l (addU acc k) (addU_nd h)
    refine ⟨a, fun x => ?_⟩
    rw [List.foldl_cons, b x, addU_mem, List.mem_cons]
    constructor
    · rintro ((h | h) | h)
      · exact .inr (.inl h)
      · exact .inl h
      · exact .inr (.inr h)
    · rintro (h | h | h)
      · exact .inl (.inr h)
      · exact .inl (.inl h)
      · exact .inr h
omit [TbC] in
theorem ddU_nd {α : Type} [DecidableEq α] (l : List α) : (ddU l).Nodup := (ddU_from l [] List.nodup_nil).1
omit [TbC] in
theorem ddU_mem {α : Type} [DecidableEq α] {l : List α} {x : α} : x ∈ ddU l ↔ x ∈ l := by
  rw [ddU, (ddU_from l [] List.nodup_nil).2 x]
  simp
def vS : PyData → Option Str
  | .str x => some x
  | _ => none
def strsD : List PyData → Option (List Str)
  | [] => some []
  | .str x :: r => (strsD r).map (x :: ·)
  | _ => none
def vT : PyData → Option (List Str)
  | .tuple xs => match strsD xs with
    | some (k :: ks) => some (k :: ks)
    | _ => none
  | _ => none
def bS (x : Str) : PyData := .str x
def bT' (k : List Str) : PyData := .tuple (k.map PyData.str)
omit [TbC] in
theorem rps_strs {K : PySem.W.Frag} {H : Hp} : ∀ {us : List V} {ds : List PyData} {ks : List Str}, RpAll K H us ds → strsD ds = some ks → us = ks.map V.str ∧ ds = ks.map PyData.str
  | _, _, _, .nil, e => by cases e; exact ⟨rfl, rfl⟩
  | _, _, _, .cons (d := d) h t, e => by
    cases d with
    | str b =>
      obtain ⟨r, e1, e2⟩ := Option.map_eq_some_iff.mp e
      subst e2
      cases h
      obtain ⟨a, b⟩ := rps_strs t e1
      exact ⟨by rw [a, List.map_cons], by rw [List.map_cons, ← b]⟩
    | _ => cases e
omit [TbC] in
theorem rp_T {K : PySem.W.Frag} {H : Hp} {v : V} {d : PyData} {k : List Str} (h : Rp K H v d) (e : vT d = some k) : ∃ a, v = .ref a ∧ SqT K H a (k.map V.str) ∧ k ≠ [] ∧ d = bT' k := by
  cases d with
  | tuple xs =>
    cases h with
    | tup hs ha =>
      cases c : strsD xs with
      | none => simp [vT, c] at e
      | some ks =>
        cases ks with
        | nil => simp [vT, c] at e
        | cons x r =>
          simp [vT, c] at e
          subst e
          obtain ⟨a, b⟩ := rps_strs ha c
          refine ⟨_, rfl, by rw [← a]; exact hs, List.cons_ne_nil _ _, by rw [b]; rfl⟩
  | _ => cases e
omit [TbC] in
theorem rps_back {K : PySem.W.Frag} {H : Hp} : ∀ ks : List Str, RpAll K H (ks.map V.str) (ks.map PyData.str)
  | [] => .nil
  | x :: r => .cons (.str x) (rps_back r)
structure SB (P : Program) (w : World) (K : PySem.W.Frag) (α : Type) [DecidableEq α] where
  view : PyData → Option α
  Acc : (Addr → Bool) → Addr → List α → Hp → Prop
  noL : ∀ {O D acc H}, Acc O D acc H → (∀ us, H D ≠ some (.lst us)) ∧ (∀ us, H D ≠ some (.dK us)) ∧ ∀ w L, H D ≠ some (DicN w D L)
  use : ∀ {O D acc H}, Acc O D acc H → ∃ o, H D = some o ∧ NoTup D o
  new : ∀ {O H D}, H D = none → ∃ o0, New0 P w D o0 ∧ Acc (add O D) D [] (upd H D o0)
  keep : ∀ {O D acc H H'}, Acc O D acc H → H' D = H D → Same (hid O H) (hid O H') → Acc O D acc H'
  put : ∀ {O D acc H y dy k} {N : Hp → Prop}, Acc O D acc H → O D = true → Rp K (hid O H) y dy → view dy = some k → acc.length < 62 → (∀ o, Acc O D (addU acc k) (upd H D o) → N (upd H D o)) → AddO K P w D y H N
structure SK (P : Program) (w : World) (K : PySem.W.Frag) (α : Type) [DecidableEq α] extends SB P w K α where
  back : α → PyData
  lt : α → α → Bool
  tot : Tot lt
  srt : ∀ {O D acc H} {Q : VK}, Acc O D acc H → acc.Nodup → (∀ p vs, H p = none → RpAll K (hid O H) vs ((sortU lt acc).map back) → Q (.ref p) (upd H p (.lst vs))) → rSortS w [.ref D] H Q ∨ rSortT K P w [.ref D] H Q
def skS (P : Program) (w : World) (K : PySem.W.Frag) : SK P w K Str where
  view := vS
  back := bS
  lt := ltS
  tot := tot_str
  Acc := fun _ D acc H => ∃ xs, H D = some (SetS w D xs) ∧ (∀ x, x ∈ xs ↔ x ∈ acc) ∧ xs.length ≤ acc.length
  noL := fun ⟨xs, h, _⟩ => ⟨fun us e => (by rw [h] at e; cases e), fun us e => (by rw [h] at e; cases e), fun w L' e => dicN_no (h.symm.trans e) fun g ⟨es, ep, t, R⟩ => (by obtain ⟨o', ho, _, hd'⟩ := R.ob; exact ⟨o', _, _, _, ho, hd'⟩)⟩
  use := fun ⟨xs, h, _⟩ => ⟨_, h, nt_ext fun g o vs hg hd ⟨es, ep, t, R⟩ => by
    obtain ⟨o', ho, _, hd'⟩ := R.ob
    rw [hg] at ho
    cases ho
    rw [hd] at hd'
    cases hd'⟩
  new := fun {O H D} _ => ⟨_, .inl rfl, [], upd_same, fun _ => Iff.rfl, Nat.le_refl _⟩
  keep := fun ⟨xs, h, r⟩ e _ => ⟨xs, e.trans h, r⟩
  put := fun {O D acc H y dy k N} ⟨xs, h, m, l⟩ _ r e few n => by
    cases dy with
    | str x =>
      cases e
      cases r
      refine .inl ⟨_, xs, rfl, h, by omega, fun xs' a => n _ ⟨xs', upd_same, fun z => ?_, ?_⟩⟩
      · rw [a.mem, addU_mem, m]
      · by_cases c : k ∈ acc
        · rw [a.1 ((m k).mpr c)]
          exact Nat.le_trans l addU_grow
        · have z := a.len
          unfold addU
          rw [if_neg c, List.length_append]
          show _ ≤ acc.length + 1
          omega
    | _ => cases e
  srt := fun {O D acc H Q} ⟨xs, h, m, l⟩ nd q => .inl ⟨D, xs, rfl, h, fun ys p asc pm np => q p _ np (by
    rw [← sortU_is tot_str nd asc fun x => pm.mem_iff.trans (m x)]
    exact rps_back ys)⟩
omit [TbC] in
theorem strs_nd {ks : List Str} (h : ks ≠ []) {P : Prop} (e : dictable (ks.map PyData.str) = true) : P := by
  cases ks with
  | nil => exact absurd rfl h
  | cons x r => cases e
omit [TbC] in
theorem rps_keys {K : PySem.W.Frag} {H : Hp} : ∀ {L : List (Addr × List Str)}, (∀ q ∈ L, SqT K H q.1 (q.2.map V.str) ∧ q.2 ≠ []) → RpAll K H (L.map fun q => V.ref q.1) ((L.map (·.2)).map bT')
  | [], _ => .nil
  | q :: r, h => .cons (.tup (h q List.mem_cons_self).1 (rps_back q.2) fun e => strs_nd (h q List.mem_cons_self).2 e) (rps_keys fun z m => h z (List.mem_cons_of_mem _ m))
def loopD {α : Type} (g : GD) (p : TD) (body : DEnv → α → M α) (ρ0 : DEnv) : List PyData → α → M α
  | [], a => fun n Q => Q a n
  | x :: xs, a => fun n Q => ∃ ρ', g x ρ0 = some ρ' ∧ p ρ' n fun b n1 => if b = true then body ρ' a n1 fun a' n2 => loopD g p body ρ0 xs a' n2 Q else loopD g p body ρ0 xs a n1 Q
def putW {α : Type} [DecidableEq α] (view : PyData → Option α) (e : ED) : DEnv → List α → M (List α) := fun ρ acc n Q => e ρ n fun y n1 => ∃ k, view y = some k ∧ acc.length < 62 ∧ Q (addU acc k) n1
section
variable {X : Cx} {α : Type} [DecidableEq α]
def InW (kd : SB X.prog X.w X.K α) (ti : Addr → TIn) (b : DEnv → List α → M (List α)) : Prop := ∀ {dk OB H0 O H D σ ρ n acc} {N : Hp → Prop} {Qd},
  StR X.K dk OB H0 O H σ ρ n → O D = true → NotDk dk D → H0 D = none → kd.Acc O D acc H → acc.Nodup → b ρ acc n Qd →
  (∀ acc' H' n', Same (hid O H) (hid O H') → (∀ b o, b ≠ D → ¬ dkA dk b → H b = some o → H' b = some o) → DkOk dk n' H' → kd.Acc O D acc' H' → acc'.Nodup → Qd acc' n' → N H') → ti D σ H N
theorem inW_put {kd : SB X.prog X.w X.K α} {e : ED} : InW kd (tiAdd X.K X.prog X.w (tW X.K e)) (putW kd.view e) := by
  intro dk OB H0 O H D σ ρ n acc N Qd S hO nd h0 A nda hb q
  refine rd_W S hb fun y dy H1 n1 f1 d1 r1 ⟨k, ek, few, q1⟩ => ?_
  have nA : ¬ dkA dk D := nd.nA
  have s1 := S.hid f1
  have hD : H1 D = H D := by
    cases c : H D with
    | none => exact absurd c (S.dom.ne hO)
    | some o => exact f1 _ _ nA c
  refine kd.put (kd.keep A hD s1) hO r1 ek few fun o A' => q (addU acc k) _ n1 ?_ ?_ (d1.upd nd ((S.step f1 d1).dom _ hO)) A' (addU_nd nda) q1
  · rw [hid_upd hO]
    exact s1
  · exact fun b o nb na h => by
      rw [upd_ne nb]
      exact f1 _ _ na h
theorem turns_D {kd : SB X.prog X.w X.K α} {g : GD} {p : TD} {body : DEnv → List α → M (List α)} {vs own : List Nat} {ti : Addr → TIn} (hvs : ∀ i ∈ vs, i ∈ own) (hb : InW kd ti body)
    {dk : Option DkI} {OB : Addr → Bool} {H0 : Hp} {O : Addr → Bool} {H1 : Hp} {D : Addr} {σ : L2.St} {ρ : DEnv} {n1 : Nat} {acc : List α} {xs : List PyData} {J : It} {Last : Hp → Prop} {Qd : List α → Nat → Prop}
    (S : StR X.K dk OB H0 O H1 σ ρ n1) (hO : O D = true) (nd : NotDk dk D) (h0 : H0 D = none) (A : kd.Acc O D acc H1) (nda : acc.Nodup) (io : ItOk X.K O H1 J xs)
    (q : loopD g p body (wipeD ρ own) xs acc n1 Qd)
    (last : ∀ acc' H' n', Same (hid O H1) (hid O H') → (∀ b o, b ≠ D → ¬ dkA dk b → H1 b = some o → H' b = some o) → DkOk dk n' H' → kd.Acc O D acc' H' → acc'.Nodup → Qd acc' n' → Last H') :
    ∃ (W : Nat → Nat → Hp → Prop) (m0 : Nat), W 0 m0 H1 ∧ Turns J (tWG X.K vs g) (tWT X.K p) (ti D) own σ W Last := by
  have nA : ¬ dkA dk D := nd.nA
  have free : ∀ (j : Nat) (y : Sv), ρ[j]? = some (some y) → y.own = true → σ[j]? ≠ some (some (.ref D)) := fun j y e oy es => by
    obtain ⟨v, z1, z2⟩ := S.sl j y e
    rw [es] at z1
    cases z1
    cases y with
    | d x => cases oy
    | l xs =>
      obtain ⟨r, us, z, k1, k2, k3, k4, k5⟩ := z2
      cases z
      exact (kd.noL A).1 us k4
    | k xs =>
      obtain ⟨r, us, z, k1, k2, k3, k4, k5⟩ := z2
      cases z
      exact (kd.noL A).2.1 us k4
    | t xs =>
      obtain ⟨r, us, z, k1, k2, k3, k4, k5⟩ := z2
      cases z
      exact (kd.noL A).2.2 _ us k4
    | dk => cases oy
  have keepS : ∀ {H' n'}, Same (hid O H1) (hid O H') → (∀ b o, b ≠ D → ¬ dkA dk b → H1 b = some o → H' b = some o) → DkOk dk n' H' → (∃ o, H' D = some o ∧ NoTup D o) → StR X.K dk OB H0 O H' σ ρ n' := fun {H' n'} s f d hd => by
    refine ⟨S.len, S.ob, S.od, fun b h => ?_, S.dkO, fun b o h e => ?_, d, fun j y e => ?_, S.dis⟩
    · by_cases c : b = D
      · rw [c]
        exact hd
      · by_cases c2 : dkA dk b
        · exact d.domT c2
        · obtain ⟨o, e, t⟩ := S.dom b h
          exact ⟨o, f b o c c2 e, t⟩
    · have bD : b ≠ D := fun z => by rw [z, h0] at e; cases e
      exact f b o bD h (S.fr b o h e)
    · obtain ⟨v, e1, e2⟩ := S.sl j y e
      refine ⟨v, e1, ?_⟩
      have np : ∀ p, NotDk dk p → ¬ dkA dk p := fun p z => z.nA
      cases y with
      | d x => exact Rp.same s _ _ e2
      | l xs =>
        obtain ⟨r, us, rfl, k1, k2, k3, k4, k5⟩ := e2
        exact ⟨r, us, rfl, k1, k2, k3, f _ _ (fun z => free j (.l xs) e rfl (by rw [← z]; exact e1)) (np r k3) k4, RpAll.same s _ _ k5⟩
      | k xs =>
        obtain ⟨r, us, rfl, k1, k2, k3, k4, k5⟩ := e2
        exact ⟨r, us, rfl, k1, k2, k3, f _ _ (fun z => free j (.k xs) e rfl (by rw [← z]; exact e1)) (np r k3) k4, RpKvs.same s _ _ k5⟩
      | t xs =>
        obtain ⟨r, us, rfl, k1, k2, k3, k4, k5⟩ := e2
        exact ⟨r, us, rfl, k1, k2, k3, f _ _ (fun z => free j (.t xs) e rfl (by rw [← z]; exact e1)) (np r k3) k4, ⟨RpTk.same s k5.1, k5.2⟩⟩
      | dk => exact e2
  let Wt : Nat → Hp → Prop := fun i H2 => ∃ acc2 n2, Same (hid O H1) (hid O H2) ∧ (∀ b o, b ≠ D → ¬ dkA dk b → H1 b = some o → H2 b = some o) ∧ DkOk dk n2 H2 ∧ kd.Acc O D acc2 H2 ∧ acc2.Nodup ∧ loopD g p body (wipeD ρ own) (xs.drop i) acc2 n2 Qd
  refine ⟨fun i m H2 => m = xs.length - i ∧ i ≤ xs.length ∧ Wt i H2, xs.length, ⟨by simp, Nat.zero_le _, acc, n1, Same.refl _, fun b o _ _ h => h, S.dok, A, nda, q⟩, ?_⟩
  rintro i m H2 ⟨rfl, hi, acc2, n2, s2, f2, d2, A2, nd2, q2⟩
  have hD2 : H2 D ≠ none := by
    obtain ⟨o, e, _⟩ := kd.use A2
    rw [e]
    exact fun z => nomatch z
  have S2 := keepS s2 f2 d2 (kd.use A2)
  have itr := io i O H2 s2 S2.dom
  by_cases hlt : i < xs.length
  · obtain ⟨go, yl⟩ := itr.1 hlt
    refine .inr ⟨go, Wt (i + 1), fun H' w => ⟨xs.length - (i + 1), by omega, rfl, hlt, w⟩, fun x H3 y => ?_⟩
    obtain ⟨d, ed, s3, rx⟩ := yl x H3 y
    have ex : xs.drop i = d :: xs.drop (i + 1) := by
      rw [List.drop_eq_getElem_cons hlt]
      congr 1
      rw [List.getElem?_eq_getElem hlt] at ed
      exact Option.some.inj ed
    rw [ex] at q2
    obtain ⟨ρ', eg, q3⟩ := q2
    have S3 := S2.step (FrD.of s3) (S2.dok.same s3)
    refine ⟨dk, OB, H0, O, wipeD ρ own, n2, d, ρ', S3.wipe own, rx, eg, fun σ2 b2 S4 => ⟨wipe_but hvs b2, dk, OB, H0, O, ρ', n2, _, S4, q3, fun b H4 n3 f4 d4 q4 => ?_⟩⟩
    have f24 : FrD dk H2 H4 := (FrD.of s3).trans f4
    have s24 := hid_fr S2.dO f24
    have hD4 : H4 D = H2 D := by
      cases c : H2 D with
      | none => exact absurd c hD2
      | some o => exact f24 _ _ nA c
    have A4 := kd.keep A2 hD4 s24
    cases b with
    | true =>
      exact (if_pos rfl).mpr (hb (S4.step f4 d4) hO nd h0 A4 nd2 ((if_pos rfl).mp q4) fun acc5 H5 n5 s5 f5 d5 A5 nd5 q5 => ⟨acc5, n5, (s2.trans s24).trans s5, fun b o k1 k2 k3 => f5 b o k1 k2 (f24 b o k2 (f2 b o k1 k2 k3)), d5, A5, nd5, q5⟩)
    | false => exact (if_neg Bool.false_ne_true).mpr ⟨acc2, n3, s2.trans s24, fun b o k1 k2 k3 => f24 b o k2 (f2 b o k1 k2 k3), d4, A4, nd2, (if_neg Bool.false_ne_true).mp q4⟩
  · have e : i = xs.length := by omega
    subst e
    rw [List.drop_length] at q2
    exact .inl ⟨itr.2 (Nat.le_refl _), last acc2 H2 n2 s2 f2 d2 A2 nd2 q2⟩
def twoW {α : Type} (it1 : AD) (g1 : GD) (p1 : TD) (body : DEnv → α → M α) (vs1 : List Nat) : DEnv → α → M α := fun ρ acc n Q => it1 ρ n fun ys n1 => loopD g1 p1 body (wipeD ρ vs1) ys acc n1 Q
theorem inW_two {kd : SB X.prog X.w X.K α} {it1 : AD} {g1 : GD} {p1 : TD} {body : DEnv → List α → M (List α)} {ti : Addr → TIn} {vs vs1 : List Nat} (hvs : ∀ i ∈ vs, i ∈ vs1) (hb : InW kd ti body) : InW kd (tiTwo (tWI X.K it1) (tWG X.K vs g1) (tWT X.K p1) ti vs1) (twoW it1 g1 p1 body vs1) := by
  intro dk OB H0 O H D σ ρ n acc N Qd S hO nd h0 A nda hq q
  refine ⟨dk, OB, H0, O, ρ, n, _, S, hq, fun J H1 n1 xs f1 d1 io q1 => ?_⟩
  have nA : ¬ dkA dk D := nd.nA
  have s1 := S.hid f1
  have hD : H1 D = H D := by
    cases c : H D with
    | none => exact absurd c (S.dom.ne hO)
    | some o => exact f1 _ _ nA c
  exact turns_D hvs hb (S.step f1 d1) hO nd h0 (kd.keep A hD s1) nda io q1 fun acc' H' n' s' f' d' A' nd' q' => q acc' H' n' (s1.trans s') (fun b o k1 k2 k3 => f' b o k1 k2 (f1 b o k2 k3)) d' A' nd' q'
def eSort {α : Type} (kd_back : α → PyData) (lt : α → α → Bool) (it : AD) (g : GD) (p : TD) (body : DEnv → List α → M (List α)) (own : List Nat) : ED := fun ρ n Q => it ρ n fun xs n1 => loopD g p body (wipeD ρ own) xs [] n1 fun acc n2 => Q (.list ((sortU lt acc).map kd_back)) n2
abbrev rSortU (K : PySem.W.Frag) (P : Program) (w : World) : List V → Hp → VK → Prop := fun xs H Q => rSortS w xs H Q ∨ rSortT K P w xs H Q
omit [TbC] in
theorem cr_sortU (hc : X.calm = true) : CallR X (.builtin "sorted") (rSortU X.K X.prog X.w) := CallR.or (cr_sortS hc) (cr_sortT hc)
theorem rd_sort {kd : SK X.prog X.w X.K α} {it : AD} {g : GD} {p : TD} {body : DEnv → List α → M (List α)} {vs own : List Nat} {ti : Addr → TIn} (hvs : ∀ i ∈ vs, i ∈ own) (hb : InW kd.toSB ti body) :
    RdE X.K (tCB (rSortU X.K X.prog X.w) (tCons (tSet X.prog X.w (tWI X.K it) (tWG X.K vs g) (tWT X.K p) ti own) tNil)) (eSort kd.back kd.lt it g p body own) := by
  intro dk OB H0 O H σ ρ n Q Qd S hw k
  refine ⟨dk, OB, H0, O, ρ, n, _, S, hw, fun J H1 n1 xs f1 d1 io hq D nD => ?_⟩
  obtain ⟨o0, hnew, A0⟩ := kd.new (O := O) nD
  have S1 := S.step f1 d1
  have SA := S1.acc (o := o0) nD (by
    obtain ⟨o, e, t⟩ := kd.use A0
    rw [upd_same] at e
    rw [Option.some.inj e]
    exact t)
  have e0 : Same (hid O H1) (hid (add O D) (upd H1 D o0)) := by
    rw [hid_add nD]
    exact Same.refl _
  have io' : ItOk X.K (add O D) (upd H1 D o0) J xs := fun i O' H' s dm => io i O' H' (e0.trans s) dm
  have tu := turns_D (own := own) hvs hb SA add_self (d1.new nD) (S1.fresh nD) A0 List.nodup_nil io' hq (Last := fun H' => (rSortU X.K X.prog X.w) [.ref D] H' Q) fun acc' H' n' s' f' d' A' nd' q' => ?_
  · obtain ⟨W, m0, w0, t⟩ := tu
    exact ⟨o0, hnew, W, m0, w0, t⟩
  · refine kd.srt A' nd' fun q vs nq r => ?_
    have f12 : FrD dk H1 H' := fun b o h1 h2 => f' b o (ne_of_none h2 nD) h1 (same_new nD _ _ h2)
    have dm : Dom O H' := (S1.step f12 d').dom
    have r' : RpAll X.K (hid O H') vs ((sortU kd.lt acc').map kd.back) := RpAll.same (hid_sub fun b h => add_of h) _ _ r
    exact k _ _ _ n' ((f1.trans f12).trans (FrD.of (same_new nq))) (d'.same (same_new nq)) (.lst (hid_new dm nq) (RpAll.same (hid_same (same_new nq)) _ _ r')) q'
end
end My

namespace My
open PySem PySem.Spec PyProof.Rows L2
variable [TbC]
def GPure (g : GD) : Prop := ∀ x ρ ρ', g x ρ = some ρ' → ∀ (j : Nat) (y : Sv), ρ'[j]? = some (some y) → y.own = true → ρ[j]? = some (some y)
omit [TbC] in
theorem gp_name (i : Nat) : GPure (gN i) := fun x ρ ρ' e j y h o => by
  cases e
  by_cases c : i = j
  · subst c
    by_cases l : i < ρ.length
    · rw [List.getElem?_set_self l] at h
      cases h
      cases o
    · rw [List.getElem?_eq_none (by rw [List.length_set]; omega)] at h
      cases h
  · rw [List.getElem?_set_ne c] at h
    exact h
omit [TbC] in
theorem wipeD_get {ρ : DEnv} {j : Nat} {y : Sv} : ∀ {own : List Nat}, (wipeD ρ own)[j]? = some (some y) → ρ[j]? = some (some y) ∧ j ∉ own
  | [], h => ⟨h, by simp⟩
  | v :: vs, h => by
    unfold wipeD at h
    by_cases hi : v = j
    · subst hi
      by_cases hv : v < (wipeD ρ vs).length
      · rw [List.getElem?_set_self hv] at h; cases h
      · rw [List.getElem?_eq_none (by rw [List.length_set]; omega)] at h; cases h
    · rw [List.getElem?_set_ne hi] at h
      obtain ⟨h1, h2⟩ := wipeD_get h
      exact ⟨h1, by simp only [List.mem_cons, not_or]; exact ⟨fun e => hi e.symm, h2⟩⟩
def Free (σ : L2.St) (ρ : DEnv) (D : Addr) : Prop := ∀ (j : Nat) (y : Sv), ρ[j]? = some (some y) → y.own = true → σ[j]? ≠ some (some (.ref D))
omit [TbC] in
theorem free_in {σ σ2 : L2.St} {ρ ρ' : DEnv} {D : Addr} {g : GD} {x : PyData} {vs own : List Nat} (f : Free σ ρ D) (gp : GPure g) (e : g x (wipeD ρ own) = some ρ') (hvs : ∀ i ∈ vs, i ∈ own) (b : But vs (wipe σ own) σ2) : Free σ2 ρ' D := fun j y h o es => by
  obtain ⟨h1, h2⟩ := wipeD_get (gp x _ ρ' e j y h o)
  rw [b.2 j (fun m => h2 (hvs j m))] at es
  exact f j y h1 o (wipe_some es).1
def appW (e : ED) : DEnv → List PyData → M (List PyData) := fun ρ acc n Q => e ρ n fun y n1 => acc.length < lim ∧ Q (acc ++ [y]) n1
def bodyL (K : PySem.W.Frag) (te : TE) (D : Addr) : L2.St → Hp → (Hp → Prop) → Prop := fun σ H N => te σ H fun y H4 => ∃ acc, H4 D = some (.lst acc) ∧ acc.length < sizeLine ∧ N (upd H4 D (.lst (acc ++ [y])))
section
variable {K : PySem.W.Frag}
def LAcc (K : PySem.W.Frag) (O : Addr → Bool) (D : Addr) (acc : List PyData) (H : Hp) : Prop := ∃ us, H D = some (.lst us) ∧ RpAll K (hid O H) us acc
def InL (K : PySem.W.Frag) (ti : Addr → L2.St → Hp → (Hp → Prop) → Prop) (b : DEnv → List PyData → M (List PyData)) : Prop := ∀ {dk OB H0 O H D σ ρ n acc} {N : Hp → Prop} {Qd : List PyData → Nat → Prop},
  StR K dk OB H0 O H σ ρ n → O D = true → NotDk dk D → H0 D = none → Free σ ρ D → LAcc K O D acc H → b ρ acc n Qd →
  (∀ acc' H' n', Same (hid O H) (hid O H') → (∀ b o, b ≠ D → ¬ dkA dk b → H b = some o → H' b = some o) → DkOk dk n' H' → LAcc K O D acc' H' → Qd acc' n' → N H') → ti D σ H N
theorem inL_app {e : ED} : InL K (bodyL K (tW K e)) (appW e) := by
  intro dk OB H0 O H D σ ρ n acc N Qd S hO nd h0 free A hb q
  obtain ⟨us, hD, ha⟩ := A
  refine rd_W S hb fun y dy H1 n1 f1 d1 r1 ⟨few, q1⟩ => ?_
  have nA : ¬ dkA dk D := nd.nA
  have s1 := S.hid f1
  have hD1 := f1 _ _ nA hD
  refine ⟨us, hD1, ?_, q (acc ++ [dy]) _ n1 ?_ (fun b o nb na h => ?_) (d1.upd nd ((S.step f1 d1).dom _ hO)) ⟨us ++ [y], upd_same, ?_⟩ q1⟩
  · have z := lim_le
    rw [ha.len]
    omega
  · rw [hid_upd hO]
    exact s1
  · rw [upd_ne nb]
    exact f1 _ _ na h
  · rw [hid_upd hO]
    exact RpAll.app (RpAll.same s1 _ _ ha) (.cons r1 .nil)
theorem turns_L {g : GD} {p : TD} {body : DEnv → List PyData → M (List PyData)} {vs own : List Nat} {ti : Addr → L2.St → Hp → (Hp → Prop) → Prop} (hvs : ∀ i ∈ vs, i ∈ own) (gp : GPure g) (hb : InL K ti body)
    {dk : Option DkI} {OB : Addr → Bool} {H0 : Hp} {O : Addr → Bool} {H1 : Hp} {D : Addr} {σ : L2.St} {ρ : DEnv} {n1 : Nat} {acc : List PyData} {xs : List PyData} {J : It} {Last : Hp → Prop} {Qd : List PyData → Nat → Prop}
    (S : StR K dk OB H0 O H1 σ ρ n1) (hO : O D = true) (nd : NotDk dk D) (h0 : H0 D = none) (free : Free σ ρ D) (A : LAcc K O D acc H1) (io : ItOk K O H1 J xs)
    (q : loopD g p body (wipeD ρ own) xs acc n1 Qd)
    (last : ∀ acc' H' n', Same (hid O H1) (hid O H') → (∀ b o, b ≠ D → ¬ dkA dk b → H1 b = some o → H' b = some o) → DkOk dk n' H' → LAcc K O D acc' H' → Qd acc' n' → Last H') :
    ∃ W : Nat → Nat → Hp → Prop, (∃ m, W 0 m H1) ∧ ∀ i m H, W i m H → (J.stop i H ∧ Last H) ∨ (J.go i H ∧ ∃ Nx : Hp → Prop, (∀ H', Nx H' → ∃ m', m' < m ∧ W (i + 1) m' H') ∧ ∀ x H', J.yld i H x H' → tWG K vs g x (wipe σ own) H' fun σ2 H2 => wipe σ2 own = wipe σ own ∧ tWT K p σ2 H2 fun b H3 =>
      if b = true then ti D σ2 H3 Nx else Nx H3) := by
  have nA : ¬ dkA dk D := nd.nA
  have keepS : ∀ {H' n'}, Same (hid O H1) (hid O H') → (∀ b o, b ≠ D → ¬ dkA dk b → H1 b = some o → H' b = some o) → DkOk dk n' H' → (∃ o, H' D = some o ∧ NoTup D o) → StR K dk OB H0 O H' σ ρ n' := fun {H' n'} s f d hd => by
    refine ⟨S.len, S.ob, S.od, fun b h => ?_, S.dkO, fun b o h e => ?_, d, fun j y e => ?_, S.dis⟩
    · by_cases c : b = D
      · rw [c]
        exact hd
      · by_cases c2 : dkA dk b
        · exact d.domT c2
        · obtain ⟨o, e, t⟩ := S.dom b h
          exact ⟨o, f b o c c2 e, t⟩
    · have bD : b ≠ D := fun z => by rw [z, h0] at e; cases e
      exact f b o bD h (S.fr b o h e)
    · obtain ⟨v, e1, e2⟩ := S.sl j y e
      refine ⟨v, e1, ?_⟩
      have np : ∀ p, NotDk dk p → ¬ dkA dk p := fun p z => z.nA
      cases y with
      | d x => exact Rp.same s _ _ e2
      | l xs =>
        obtain ⟨r, us, rfl, k1, k2, k3, k4, k5⟩ := e2
        exact ⟨r, us, rfl, k1, k2, k3, f _ _ (fun z => free j (.l xs) e rfl (by rw [← z]; exact e1)) (np r k3) k4, RpAll.same s _ _ k5⟩
      | k xs =>
        obtain ⟨r, us, rfl, k1, k2, k3, k4, k5⟩ := e2
        exact ⟨r, us, rfl, k1, k2, k3, f _ _ (fun z => free j (.k xs) e rfl (by rw [← z]; exact e1)) (np r k3) k4, RpKvs.same s _ _ k5⟩
      | t xs =>
        obtain ⟨r, us, rfl, k1, k2, k3, k4, k5⟩ := e2
        exact ⟨r, us, rfl, k1, k2, k3, f _ _ (fun z => free j (.t xs) e rfl (by rw [← z]; exact e1)) (np r k3) k4, ⟨RpTk.same s k5.1, k5.2⟩⟩
      | dk => exact e2
  let Wt : Nat → Hp → Prop := fun i H2 => ∃ acc2 n2, Same (hid O H1) (hid O H2) ∧ (∀ b o, b ≠ D → ¬ dkA dk b → H1 b = some o → H2 b = some o) ∧ DkOk dk n2 H2 ∧ LAcc K O D acc2 H2 ∧ loopD g p body (wipeD ρ own) (xs.drop i) acc2 n2 Qd
  refine ⟨fun i m H2 => m = xs.length - i ∧ i ≤ xs.length ∧ Wt i H2, ⟨xs.length, by simp, Nat.zero_le _, acc, n1, Same.refl _, fun b o _ _ h => h, S.dok, A, q⟩, ?_⟩
  rintro i m H2 ⟨rfl, hi, acc2, n2, s2, f2, d2, A2, q2⟩
  have hD2 : ∃ o, H2 D = some o ∧ NoTup D o := by
    obtain ⟨us, e, _⟩ := A2
    exact ⟨_, e, nt_lst⟩
  have S2 := keepS s2 f2 d2 hD2
  have itr := io i O H2 s2 S2.dom
  by_cases hlt : i < xs.length
  · obtain ⟨go, yl⟩ := itr.1 hlt
    refine .inr ⟨go, Wt (i + 1), fun H' w => ⟨xs.length - (i + 1), by omega, rfl, hlt, w⟩, fun x H3 y => ?_⟩
    obtain ⟨d, ed, s3, rx⟩ := yl x H3 y
    have ex : xs.drop i = d :: xs.drop (i + 1) := by
      rw [List.drop_eq_getElem_cons hlt]
      congr 1
      rw [List.getElem?_eq_getElem hlt] at ed
      exact Option.some.inj ed
    rw [ex] at q2
    obtain ⟨ρ', eg, q3⟩ := q2
    have S3 := S2.step (FrD.of s3) (S2.dok.same s3)
    refine ⟨dk, OB, H0, O, wipeD ρ own, n2, d, ρ', S3.wipe own, rx, eg, fun σ2 b2 S4 => ⟨wipe_but hvs b2, dk, OB, H0, O, ρ', n2, _, S4, q3, fun b H4 n3 f4 d4 q4 => ?_⟩⟩
    have f24 : FrD dk H2 H4 := (FrD.of s3).trans f4
    have s24 := hid_fr S2.dO f24
    have A4 : LAcc K O D acc2 H4 := by
      obtain ⟨us, e, r⟩ := A2
      exact ⟨us, f24 _ _ nA e, RpAll.same s24 _ _ r⟩
    cases b with
    | true =>
      exact (if_pos rfl).mpr (hb (S4.step f4 d4) hO nd h0 (free_in free gp eg hvs b2) A4 ((if_pos rfl).mp q4) fun acc5 H5 n5 s5 f5 d5 A5 q5 => ⟨acc5, n5, (s2.trans s24).trans s5, fun b o k1 k2 k3 => f5 b o k1 k2 (f24 b o k2 (f2 b o k1 k2 k3)), d5, A5, q5⟩)
    | false => exact (if_neg Bool.false_ne_true).mpr ⟨acc2, n3, s2.trans s24, fun b o k1 k2 k3 => f24 b o k2 (f2 b o k1 k2 k3), d4, A4, (if_neg Bool.false_ne_true).mp q4⟩
  · have e : i = xs.length := by omega
    subst e
    rw [List.drop_length] at q2
    exact .inl ⟨itr.2 (Nat.le_refl _), last acc2 H2 n2 s2 f2 d2 A2 q2⟩
def eLc2 (it : AD) (g : GD) (p : TD) (it1 : AD) (g1 : GD) (p1 : TD) (e : ED) (own vs1 : List Nat) : ED := fun ρ n Q => it ρ n fun xs n1 =>
  loopD g p (twoW it1 g1 p1 (appW e) vs1) (wipeD ρ own) xs [] n1 fun ys n2 => Q (.list ys) n2
theorem rd_lc2 {it it1 : AD} {g g1 : GD} {p p1 : TD} {e : ED} {own vs vs1 w1 : List Nat} (hvs : ∀ i ∈ vs, i ∈ own) (hw1 : ∀ i ∈ w1, i ∈ vs1) (gp : GPure g) (gp1 : GPure g1) :
    RdE K (tLc2 (tWI K it) (tWG K vs g) (tWT K p) (tWI K it1) (tWG K w1 g1) (tWT K p1) (tW K e) own vs1) (eLc2 it g p it1 g1 p1 e own vs1) := by
  intro dk OB H0 O H σ ρ n Q Qd S hw k
  refine ⟨dk, OB, H0, O, ρ, n, _, S, hw, fun J H1 n1 xs f1 d1 io hq D nD => ?_⟩
  have S1 := S.step f1 d1
  have SA := S1.acc (o := .lst []) nD nt_lst
  have e0 : Same (hid O H1) (hid (add O D) (upd H1 D (.lst []))) := by
    rw [hid_add nD]
    exact Same.refl _
  have io' : ItOk K (add O D) (upd H1 D (.lst [])) J xs := fun i O' H' s dm => io i O' H' (e0.trans s) dm
  have inner : InL K (fun D σ2 H3 Nx => tWI K it1 σ2 H3 fun J1 H4 => ∃ W1 : Nat → Nat → Hp → Prop, (∃ m, W1 0 m H4) ∧ ∀ j k H, W1 j k H →
      (J1.stop j H ∧ Nx H) ∨ (J1.go j H ∧ ∃ Nx1 : Hp → Prop, (∀ H', Nx1 H' → ∃ k', k' < k ∧ W1 (j + 1) k' H') ∧ ∀ x H', J1.yld j H x H' → tWG K w1 g1 x (wipe σ2 vs1) H' fun σ3 H5 => wipe σ3 vs1 = wipe σ2 vs1 ∧ tWT K p1 σ3 H5 fun b H6 =>
        if b = true then bodyL K (tW K e) D σ3 H6 Nx1 else Nx1 H6)) (twoW it1 g1 p1 (appW e) vs1) := by
    intro dk OB H0 O H D σ ρ n acc N Qd S hO nd h0 free A hq q
    refine ⟨dk, OB, H0, O, ρ, n, _, S, hq, fun J H1 n1 xs f1 d1 io q1 => ?_⟩
    have nA : ¬ dkA dk D := nd.nA
    have s1 := S.hid f1
    have A1 : LAcc K O D acc H1 := by
      obtain ⟨us, e, r⟩ := A
      exact ⟨us, f1 _ _ nA e, RpAll.same s1 _ _ r⟩
    exact turns_L hw1 gp1 inL_app (S.step f1 d1) hO nd h0 free A1 io q1 fun acc' H' n' s' f' d' A' q' => q acc' H' n' (s1.trans s') (fun b o k1 k2 k3 => f' b o k1 k2 (f1 b o k2 k3)) d' A' q'
  exact turns_L hvs gp inner SA add_self (d1.new nD) (S1.fresh nD) (S1.nohold nD) ⟨[], upd_same, .nil⟩ io' hq fun acc' H' n' s' f' d' A' q' => by
    obtain ⟨us, e, r⟩ := A'
    have f12 : FrD dk H1 H' := fun b o h1 h2 => f' b o (ne_of_none h2 nD) h1 (same_new nD _ _ h2)
    exact k _ _ H' n' (f1.trans f12) d' (.lst (hid_at (S1.dom.new nD) e) (RpAll.same (hid_sub fun b h => add_of h) _ _ r)) q'
end
section
variable {X : Cx}
theorem qd_lc2 {elt tg iter tg1 iter1 : Expr} {ifs ifs1 : List Expr} {scope : Scope} {own : List (Str × Nat)} {vs1 : List Nat} {pos : Pos} {it it1 : AD} {g g1 : GD} {p p1 : TD} {e : ED} {vs w1 : List Nat} (hc : X.calm = true) (hN : X.N.Nodup) (hi : PDI X tg iter it) (ok : BlkOk X.N X.env.scope scope own) (hv : ∀ i ∈ vs1, i ∈ own.map (·.2))
    (hvs : ∀ i ∈ vs, i ∈ own.map (·.2)) (hw1 : ∀ i ∈ w1, i ∈ vs1) (gp : GPure g) (gp1 : GPure g1)
    (hg : ∀ (s : Shared) (H : Hp) (C : Addr) (cl : List (Str × Addr)) (fp : List Addr), PDG (X.blk s H scope (compEnvC scope cl C X.env) fp) tg vs g) (ht : ∀ (s : Shared) (H : Hp) (C : Addr) (cl : List (Str × Addr)) (fp : List Addr), PTs (X.blk s H scope (compEnvC scope cl C X.env) fp) ifs (tWT X.K p))
    (hi1 : ∀ (s : Shared) (H : Hp) (C : Addr) (cl : List (Str × Addr)) (fp : List Addr), PDI (X.blk s H scope (compEnvC scope cl C X.env) fp) tg1 iter1 it1)
    (hg1 : ∀ (s : Shared) (H : Hp) (C : Addr) (cl : List (Str × Addr)) (fp : List Addr), PDG (X.blk s H scope (compEnvC scope cl C X.env) fp) tg1 w1 g1) (ht1 : ∀ (s : Shared) (H : Hp) (C : Addr) (cl : List (Str × Addr)) (fp : List Addr), PTs (X.blk s H scope (compEnvC scope cl C X.env) fp) ifs1 (tWT X.K p1))
    (he : ∀ (s : Shared) (H : Hp) (C : Addr) (cl : List (Str × Addr)) (fp : List Addr), PD (X.blk s H scope (compEnvC scope cl C X.env) fp) elt e) (hs : ∀ x, foldedSetIterable iter X.env x = pure x := by intro _; rfl) (hs1 : ∀ env x, foldedSetIterable iter1 env x = pure x := by intro _ _; rfl) :
    PD X (.ListComp elt [⟨tg, iter, ifs, 0⟩, ⟨tg1, iter1, ifs1, 0⟩] scope pos) (eLc2 it g p it1 g1 p1 e (own.map (·.2)) vs1) := qd_mk (pe_lc2 hc hN hi ok hv hg ht hi1 hg1 ht1 he hs hs1) (rd_lc2 hvs hw1 gp gp1)
section
variable {α : Type} [DecidableEq α]
theorem qd_sort2 (kd : SK X.prog X.w X.K α) {elt tg iter tg1 iter1 : Expr} {ifs ifs1 : List Expr} {scope : Scope} {own : List (Str × Nat)} {vs1 : List Nat} {q1 pos pos2 : Pos} {it it1 : AD} {g g1 : GD} {p p1 : TD} {e : ED} {vs w1 : List Nat} (hg0 : Gl X "sorted") (hm0 : X.mg "sorted" = none) (hc : X.calm = true) (hN : X.N.Nodup) (hu : X.A.units + 64 < cLine) (hi : PDI X tg iter it) (ok : BlkOk X.N X.env.scope scope own)
    (hv : ∀ i ∈ vs1, i ∈ own.map (·.2)) (hvs : ∀ i ∈ vs, i ∈ own.map (·.2)) (hw1 : ∀ i ∈ w1, i ∈ vs1)
    (hg : ∀ (s : Shared) (H : Hp) (C : Addr) (cl : List (Str × Addr)) (fp : List Addr), PDG (X.blk s H scope (compEnvC scope cl C X.env) fp) tg vs g) (ht : ∀ (s : Shared) (H : Hp) (C : Addr) (cl : List (Str × Addr)) (fp : List Addr), PTs (X.blk s H scope (compEnvC scope cl C X.env) fp) ifs (tWT X.K p))
    (hi1 : ∀ (s : Shared) (H : Hp) (C : Addr) (cl : List (Str × Addr)) (fp : List Addr), PDI (X.blk s H scope (compEnvC scope cl C X.env) fp) tg1 iter1 it1)
    (hg1 : ∀ (s : Shared) (H : Hp) (C : Addr) (cl : List (Str × Addr)) (fp : List Addr), PDG (X.blk s H scope (compEnvC scope cl C X.env) fp) tg1 w1 g1) (ht1 : ∀ (s : Shared) (H : Hp) (C : Addr) (cl : List (Str × Addr)) (fp : List Addr), PTs (X.blk s H scope (compEnvC scope cl C X.env) fp) ifs1 (tWT X.K p1))
    (he : ∀ (s : Shared) (H : Hp) (C : Addr) (cl : List (Str × Addr)) (fp : List Addr), PD (X.blk s H scope (compEnvC scope cl C X.env) fp) elt e) (hs : ∀ x, foldedSetIterable iter X.env x = pure x := by intro _; rfl) (hs1 : ∀ env x, foldedSetIterable iter1 env x = pure x := by intro _ _; rfl)
    (h1 : starEach [.SetComp elt [⟨tg, iter, ifs, 0⟩, ⟨tg1, iter1, ifs1, 0⟩] scope pos] X.env = (false, eval (.SetComp elt [⟨tg, iter, ifs, 0⟩, ⟨tg1, iter1, ifs1, 0⟩] scope pos) X.env) :: starEach [] X.env := by rfl) :
    PD X (.Call (.Name "sorted" q1) [.SetComp elt [⟨tg, iter, ifs, 0⟩, ⟨tg1, iter1, ifs1, 0⟩] scope pos] [] pos2) (eSort kd.back kd.lt it g p (twoW it1 g1 p1 (putW kd.view e) vs1) (own.map (·.2))) :=
  qd_mk (pe_callB (cr_sortU hc) hg0 hm0 PyProof.Rows.boot_sorted (pa_cons (pe_sq2 hc hN hu hi ok hv hg ht hi1 hg1 ht1 he hs hs1) pa_nil h1) (he := h1)) (rd_sort hvs (inW_two hw1 inW_put))
def viewAll (view : PyData → Option α) : List PyData → Option (List α)
  | [] => some []
  | d :: ds => (view d).bind fun k => (viewAll view ds).map (k :: ·)
def eSortSet (kd_view : PyData → Option α) (kd_back : α → PyData) (lt : α → α → Bool) (e : ED) : ED := fun ρ n Q => e ρ n fun x n1 => ∃ xs ks, (x = .list xs ∨ x = .tuple xs) ∧ viewAll kd_view xs = some ks ∧ (ddU ks).length < 63 ∧ Q (.list ((sortU lt (ddU ks)).map kd_back)) n1
end
omit [TbC] in
theorem rps_viewS {K : PySem.W.Frag} {H : Hp} : ∀ {us : List V} {ds : List PyData} {ks : List Str}, RpAll K H us ds → viewAll vS ds = some ks → us = ks.map V.str
  | _, _, _, .nil, e => by cases e; rfl
  | _, _, _, .cons (d := d) h t, e => by
    obtain ⟨k, e1, e2⟩ := Option.bind_eq_some_iff.mp e
    obtain ⟨r, e3, e4⟩ := Option.map_eq_some_iff.mp e2
    subst e4
    cases d with
    | str b =>
      cases e1
      cases h
      rw [rps_viewS t e3, List.map_cons]
    | _ => cases e1
omit [TbC] in
theorem rps_viewT {K : PySem.W.Frag} {H : Hp} : ∀ {us : List V} {ds : List PyData} {ks : List (List Str)}, RpAll K H us ds → viewAll vT ds = some ks → ∃ L : List (Addr × List Str), us = L.map (fun q => V.ref q.1) ∧ L.map (·.2) = ks ∧ ∀ q ∈ L, SqT K H q.1 (q.2.map V.str) ∧ q.2 ≠ []
  | _, _, _, .nil, e => by
    cases e
    exact ⟨[], rfl, rfl, fun q h => nomatch h⟩
  | _, _, _, .cons (d := d) h t, e => by
    obtain ⟨k, e1, e2⟩ := Option.bind_eq_some_iff.mp e
    obtain ⟨r, e3, e4⟩ := Option.map_eq_some_iff.mp e2
    subst e4
    obtain ⟨a, rfl, hs, ne, _⟩ := rp_T h e1
    obtain ⟨L, z1, z2, z3⟩ := rps_viewT t e3
    refine ⟨(a, k) :: L, by rw [z1, List.map_cons], by rw [List.map_cons, z2], fun q hq => ?_⟩
    rcases List.mem_cons.mp hq with rfl | hq
    · exact ⟨hs, ne⟩
    · exact z3 q hq
theorem qd_sortsetT {e : Expr} {w : ED} {p1 p2 q1 q2 : Pos} (hu : X.A.units + 64 < cLine) (hc : X.calm = true) (hg0 : Gl X "sorted") (hm0 : X.mg "sorted" = none) (hg1 : Gl X "set") (hm1 : X.mg "set" = none) (he : PD X e w)
    (h1 : starEach [e] X.env = (false, eval e X.env) :: starEach [] X.env := by rfl) (h2 : starEach [.Call (.Name "set" p1) [e] [] p2] X.env = (false, eval (.Call (.Name "set" p1) [e] [] p2) X.env) :: starEach [] X.env := by rfl) :
    PD X (.Call (.Name "sorted" q1) [.Call (.Name "set" p1) [e] [] p2] [] q2) (eSortSet vT bT' ltK w) :=
  qd_mk (pe_callB (cr_sortU hc) hg0 hm0 PyProof.Rows.boot_sorted (pa_cons (pe_callTy (cr_setT2 hc hu) hg1 hm1 PyProof.Rows.boot_set (pa_cons he pa_nil h1) (he := h1)) pa_nil h2) (he := h2)) fun {dk OB H0 O H σ ρ n Q Qd} S hw k => rd_W S hw fun v d H1 n1 f1 d1 r1 ⟨xs, ks, ex, ek, few, q⟩ => by
    have dm := (S.step f1 d1).dom
    obtain ⟨a, us, rfl, hs, ha⟩ : ∃ a us, v = .ref a ∧ (SqL X.K H1 a us ∨ SqT X.K H1 a us) ∧ RpAll X.K (hid O H1) us xs := by
      rcases ex with rfl | rfl
      · cases r1 with
        | lst hs ha => exact ⟨_, _, rfl, .inl (.inl (.inl (hid_le _ _ hs))), ha⟩
      · cases r1 with
        | tup hs ha => exact ⟨_, _, rfl, .inr (same_seqT hid_le hs), ha⟩
    obtain ⟨L, rfl, el, hl⟩ := rps_viewT ha ek
    have ll : L.length = ks.length := by
      have z := congrArg List.length el
      rw [List.length_map] at z
      exact z
    refine ⟨a, L, rfl, hs, (fun ys nd sub => Nat.lt_of_le_of_lt (nd_le nd fun y hy => ddU_mem.mpr (by rw [← el]; exact sub y hy)) few), fun p hp => same_seqT hid_le (hl p hp).1, fun b M hM hk nb => .inr ⟨b, M, rfl, upd_same, fun p hp => ?_, fun L' p pm asc np => ?_⟩⟩
    · exact ⟨same_seqT (same_new nb) (same_seqT hid_le (hl p (hM p hp)).1), (hl p (hM p hp)).2⟩
    have e2 : L'.map (·.2) = sortU ltK (ddU ks) := sortU_is tot_key (ddU_nd ks) asc fun x => (((pm.map (·.2)).mem_iff).trans (hk x)).trans (by rw [el]; exact ddU_mem.symm)
    have s1 := (same_new (o := SetT X.prog X.w b M) nb).trans (same_new (o := .lst (L'.map fun q => V.ref q.1)) np)
    refine k _ _ _ n1 (f1.trans (FrD.of s1)) (d1.same s1) (.lst (hid_at ?_ upd_same) ?_) q
    · exact (dm.same (same_new nb)).new np
    · rw [← e2]
      exact rps_keys fun z hz => ⟨same_seqT (hid_same s1) (hl z (hM z (pm.mem_iff.mp hz))).1, (hl z (hM z (pm.mem_iff.mp hz))).2⟩
end
end My

namespace My
open PySem PySem.Spec PyProof.Rows L2
variable [TbC]
open RZ (ItzT iZipA pi_zipA)
def reprOk (x : PyData) : Prop := flatD x = true ∧ x.showable = true ∧ x.depth ≤ 60 ∧ x.shown.length ≤ sizeLine
def eRepr (w : ED) : ED := fun ρ n Q => w ρ n fun x n1 => reprOk x ∧ Q (.str x.shown) n1
theorem qd_repr {X : Cx} {e : Expr} {w : ED} {p pos : Pos} (hgu : X.A.guards = some []) (hu : X.A.units + 64 < cLine) (hg : Gl X "repr") (hm : X.mg "repr" = none) (he : PD X e w) (h1 : starEach [e] X.env = (false, eval e X.env) :: starEach [] X.env := by rfl) : PD X (.Call (.Name "repr" p) [e] [] pos) (eRepr w) :=
  qd_mk (pe_callB (cr_repr hgu hu) hg hm boot_repr (pa_cons he pa_nil h1) (he := h1)) fun S hw k => rd_W S hw fun v d H1 n1 f1 d1 r1 ⟨⟨a, b, c, e⟩, q⟩ => ⟨v, d, rfl, Rp.dp _ _ a (Rp.same hid_le _ _ r1), b, c, e, k _ _ H1 n1 f1 d1 (.str _) q⟩
end My

namespace My
open PySem PySem.Spec PyProof.Rows L2
variable [TbC]
def rSortTL (K : PySem.W.Frag) : List V → Hp → VK → Prop := fun vs H Q => ∃ (a : Addr) (L : List (Addr × List Str)), vs = [V.ref a] ∧ (SqL K H a (L.map fun q => V.ref q.1) ∨ SqT K H a (L.map fun q => V.ref q.1)) ∧ (∀ q ∈ L, SqT K H q.1 (q.2.map V.str) ∧ q.2 ≠ []) ∧
  ∀ (L' : List (Addr × List Str)) (p : Addr), L'.Perm L → (L'.map (·.2)).Pairwise (fun x y => ltK y x = false) → H p = none → Q (.ref p) (upd H p (.lst (L'.map fun q => V.ref q.1)))
section
variable {X : Cx}
omit [TbC] in
theorem cr_sortTL (hc : X.calm = true) : CallR X (.builtin "sorted") (rSortTL X.K) := by
  intro pins s σ H vs us Q I r h
  obtain ⟨a, L, rfl, ha, ht, q⟩ := h
  obtain ⟨u, rfl, ru⟩ := vals1 r
  cases (show u = Value.ref a from ru)
  have one : ∀ p ∈ L, ∀ q ∈ L, p.1 = q.1 → p.2 = q.2 := fun p hp q hq e => by
    have h1 := (ht p hp).1
    rw [e] at h1
    exact map_str_inj (I.tuple_inj h1 (ht q hq).1)
  have main : ∀ its : List Value, Vals (L.map fun q => V.ref q.1) its → its.length ≤ sizeLine →
      ((∀ out : List Value, SrtO.Srtd (fun v u => ltK (kOf L v) (kOf L u)) out → SrtO.Stb (fun v u => ltK (kOf L v) (kOf L u)) out its → EP X pins σ Q (.ref (s.heap.objs.size + 1)) { s with heap := PyProof.Rows.sortedAll s.heap its out.toArray }) →
        (2 ≤ its.length → ∀ (h₁ : Heap) (b : Addr), h₁.get? b = some (seqObj "list" its.toArray 0) → (∀ c o, s.heap.get? c = some o → c ≠ b ∧ h₁.get? c = some o) → SrtO.SortableO X.prog X.w X.A.in1.in1 { s with heap := h₁ } b its (fun v u => ltK (kOf L v) (kOf L u))) →
        wpAny (model X.prog X.w) X.A (call (.builtin "sorted") [.ref a]) (EP X pins σ Q) X.xe s) →
      wpAny (model X.prog X.w) X.A (call (.builtin "sorted") [.ref a]) (EP X pins σ Q) X.xe s := by
    intro its rv hz run
    have ln := rv.length
    rw [List.length_map] at ln
    have vals : its = L.map fun p => Value.ref p.1 := refs_vals rv
    have each : ∀ v ∈ its, ∃ p ∈ L, v = Value.ref p.1 ∧ kOf L v = p.2 := fun v hv => by
      rw [vals] at hv
      obtain ⟨p, hp, rfl⟩ := List.mem_map.mp hv
      exact ⟨p, hp, rfl, kOf_at one hp⟩
    refine run (fun out hs pm => ?_) fun h2 h₁ b hb kp => ?_
    · have refs : ∀ v ∈ out, v = Value.ref (pOf L v).1 := fun v hv => by
        obtain ⟨p, _, rfl, _⟩ := each v (pm.perm.mem_iff.mp hv)
        rfl
      have back : its.map (pOf L) = L := by
        rw [vals, List.map_map]
        refine (List.map_congr_left fun p hp => ?_).trans (List.map_id L)
        exact Prod.ext rfl (kOf_at one hp)
      have pL : (out.map (pOf L)).Perm L := by
        have z := pm.perm.map (pOf L)
        rw [back] at z
        exact z
      have len : ((out.map (pOf L)).map fun q => V.ref q.1).length ≤ sizeLine := by
        rw [List.length_map, pL.length_eq, ln]
        exact hz
      have rel : ∀ l : List Value, (∀ v ∈ l, v = Value.ref (pOf L v).1) → Vals ((l.map (pOf L)).map fun q => V.ref q.1) l := by
        intro l
        induction l with
        | nil => intro _; exact .nil
        | cons v l ih => intro h; exact .cons (h v List.mem_cons_self) (ih fun u hu => h u (List.mem_cons_of_mem _ hu))
      have srt : ((out.map (pOf L)).map (·.2)).Pairwise (fun x y => ltK y x = false) := by
        rw [List.map_map, List.pairwise_map]
        exact hs
      obtain ⟨ep, he'⟩ := PyProof.Rows.sortedAll_at s.heap its out.toArray
      exact ⟨.ref _, upd H (s.heap.objs.size + 1) (.lst ((out.map (pOf L)).map fun q => V.ref q.1)), I.laid (t' := s.toks) (fun _ _ => PyProof.Rows.sortedAll_old) (Nat.le_succ _) ⟨len, out, ep, rel out refs, he'⟩, rfl, q _ _ pL srt (I.hok.fresh (Nat.le_succ _))⟩
    · refine sortable_tups (s := { s with heap := h₁ }) (by omega) (fun v hv => ?_) fun o' e' c' => ?_
      · obtain ⟨p, hp, rfl, e⟩ := each v hv
        rw [e]
        exact ⟨(tup_at I (ht p hp).1).1.keeps fun b o e _ => (kp b o e).2, (ht p hp).2⟩
      · have e2 : some o' = some _ := e'.symm.trans hb
        cases e2
        exact absurd (Value.type.inj c') (by decide)
  rcases ha with ha | ha
  · obtain ⟨its, rv, hl, hz⟩ := I.list ha
    rw [List.length_map] at hz
    have ln := rv.length
    rw [List.length_map] at ln
    exact main its rv (by omega) fun h1 h2 => SrtO.sorted_ord (ltv := fun v u => ltK (kOf L v) (kOf L u)) ⟨fun x y => tot_key.swo.asym _ _, fun x y z => tot_key.swo.tr _ _ _⟩ hl.isList (by omega) h2 h1
  · obtain ⟨its, rv, hl, hz⟩ := I.tuple ha
    rw [List.length_map] at hz
    have ln := rv.length
    rw [List.length_map] at ln
    exact main its rv (by omega) fun h1 h2 => SrtO.my_sorted_tup (ltv := fun v u => ltK (kOf L v) (kOf L u)) ⟨fun x y => tot_key.swo.asym _ _, fun x y z => tot_key.swo.tr _ _ _⟩ hl (by omega) h2 h1
omit [TbC] in
theorem sort_uniq {α : Type} {lt : α → α → Bool} (T : Tot lt) : ∀ {l m : List α}, l.Perm m → l.Pairwise (fun x y => lt y x = false) → m.Pairwise (fun x y => lt y x = false) → l = m
  | [], m, p, _, _ => (List.nil_perm.mp p).symm ▸ rfl
  | x :: l, [], p, _, _ => by
    have z := p.length_eq
    cases z
  | x :: l, y :: m, p, hl, hm => by
    rw [List.pairwise_cons] at hl hm
    have e : x = y := by
      have h1 : x ∈ y :: m := p.mem_iff.mp List.mem_cons_self
      have h2 : y ∈ x :: l := p.mem_iff.mpr List.mem_cons_self
      rcases List.mem_cons.mp h1 with e | h1
      · exact e
      · rcases List.mem_cons.mp h2 with e | h2
        · exact e.symm
        · exact T.tri _ _ (hm.1 x h1) (hl.1 y h2)
    subst e
    rw [sort_uniq T (List.Perm.cons_inv p) hl.2 hm.2]
def sortTD : List PyData → Option PyData
  | [.list xs] => (viewAll vT xs).map fun ks => .list ((sortU ltK ks).map bT')
  | [.tuple xs] => (viewAll vT xs).map fun ks => .list ((sortU ltK ks).map bT')
  | _ => none
omit [TbC] in
theorem pu_sortT {K : PySem.W.Frag} : PuN K (rSortTL K) sortTD := by
  intro O H xs ds dz Q dm r e k
  obtain ⟨zs, ks, hx, ek, rfl, v, rfl, r1⟩ : ∃ zs ks, (ds = [.list zs] ∨ ds = [.tuple zs]) ∧ viewAll vT zs = some ks ∧ dz = .list ((sortU ltK ks).map bT') ∧ ∃ v, xs = [v] ∧ Rp K (hid O H) v (ds.headD .none) := by
    match ds, e with
    | [.list zs], e =>
      obtain ⟨ks, e1, e2⟩ := Option.map_eq_some_iff.mp e
      obtain ⟨v, ev, rv⟩ := rps1 r
      exact ⟨zs, ks, .inl rfl, e1, e2.symm, v, ev, rv⟩
    | [.tuple zs], e =>
      obtain ⟨ks, e1, e2⟩ := Option.map_eq_some_iff.mp e
      obtain ⟨v, ev, rv⟩ := rps1 r
      exact ⟨zs, ks, .inr rfl, e1, e2.symm, v, ev, rv⟩
  obtain ⟨a, us, rfl, hs, ha⟩ : ∃ a us, v = .ref a ∧ (SqL K H a us ∨ SqT K H a us) ∧ RpAll K (hid O H) us zs := by
    rcases hx with rfl | rfl
    · cases r1 with
      | lst hs ha => exact ⟨_, _, rfl, .inl (.inl (.inl (hid_le _ _ hs))), ha⟩
    · cases r1 with
      | tup hs ha => exact ⟨_, _, rfl, .inr (same_seqT hid_le hs), ha⟩
  obtain ⟨L, rfl, el, hl⟩ := rps_viewT ha ek
  refine ⟨a, L, rfl, hs, fun q hq => ⟨same_seqT hid_le (hl q hq).1, (hl q hq).2⟩, fun L' p pm srt np => ?_⟩
  have e2 : L'.map (·.2) = sortU ltK ks := sort_uniq tot_key (((pm.map (·.2)).trans (by rw [el])).trans (sortU_perm ks).symm) srt (sortU_srt tot_key ks)
  have s1 := same_new (o := .lst (L'.map fun q => V.ref q.1)) np
  refine k _ _ s1 (.lst (hid_new dm np) ?_)
  rw [← e2]
  exact rps_keys fun z hz => ⟨same_seqT (hid_same s1) (hl z (pm.mem_iff.mp hz)).1, (hl z (pm.mem_iff.mp hz)).2⟩
end
def spLaw (K : PySem.W.Frag) : Sp := fun vs H Q _ => ∃ (a : Addr) (ns : List Int), vs = [.ref a] ∧ SqL K H a (ns.map V.int) ∧ ns.length ≤ 63 ∧ (∀ p ∈ TbC.T, H p.1 = some (.tbl #[])) ∧ ∀ H', Q (.bl true) H'
def endL : EndsD := ⟨fun _ _ => False, fun x _ => x = .bool true, fun _ _ => False, fun _ _ => False⟩
end My

namespace My
open PySem PySem.Spec PyProof.Rows L2
variable [TbC]
def startL0 (N : List Str) : DEnv := List.replicate N.length none
theorem law_ok0 {P : Program} {w : World} {K : PySem.W.Frag} {mg : Str → Option Value} {base : Heap} {st : Stmt} {f : Addr} {fd : FuncData} {N : List Str} {k : Nat} {W : SD} (hN : 1 ≤ N.length) (F : Fun K "law" "law" st f fd) (S : FnScope N ["_law_script"] (defScope st))
    (hw : ∀ (cdv : Value) (A : Around) (outer : List Env) (s : Shared) (H : Hp) (E : XK), A.guards = some [] → Room k (A.deeper (envOfC "law" (defScope st) s.heap.objs.size f cdv)) → PSDs (cxOf CX0 P w K mg base N "law" (defScope st) f cdv A outer s H E).nox (defBody st) W)
    (hF : W (startL0 N) 0 endL) : RunG P w K mg base (k + 1) f fd ["_law_script"] (spLaw K) := by
  refine runG F S (fun vs H Q E h => ?_) (fun cdv A outer s H vs Q E hgu hr h => ?_)
  · obtain ⟨a, ns, rfl, _⟩ := h
    rfl
  · obtain ⟨a, ns, rfl, hS, hn, hT, q⟩ := h
    refine ⟨_, hw cdv A outer s H E hgu hr, ?_⟩
    have tb : TbOk H := fun p hp => LamX.TabS.nil (q := p.2) (hT p hp)
    have ow : ∀ b, tA b → decide (b ∈ (TbC.T.map fun p => p.1)) = true := fun b ⟨x, hx⟩ => decide_eq_true (List.mem_map.mpr ⟨_, hx, rfl⟩)
    refine ⟨none, fun b => decide (b ∈ (TbC.T.map fun p => p.1)), H, fun b => decide (b ∈ (TbC.T.map fun p => p.1)), startL0 N, 0, endL, ?_, hF, ?_⟩
    · have dm : Dom (fun b => decide (b ∈ (TbC.T.map fun p => p.1))) H := fun b e => by
        obtain ⟨p, hp, rfl⟩ := List.mem_map.mp (of_decide_eq_true e)
        exact ⟨_, hT p hp, nt_tbl⟩
      have no : ∀ {i : Nat} {s : Sv}, (startL0 N)[i]? = some (some s) → False := fun {i s} e => by
        unfold startL0 at e
        rw [List.getElem?_replicate] at e
        split at e <;> cases e
      refine ⟨?_, fun _ h => h, dm, dm, fun b h => ?_, FrD.refl H, ⟨trivial, tb⟩, fun i s e => (no e).elim, fun i j p s s' ne e1 e2 o1 o2 => (no e1).elim⟩
      · unfold L2.start startL0
        simp only [List.length_set, List.length_append, List.length_cons, List.length_map, List.length_nil, List.length_replicate]
        omega
      · rcases h with ⟨E, e, e2⟩ | h
        · cases e
        · exact ow b h
    · refine ⟨fun _ _ _ _ _ _ _ z => z.elim, fun v x H' n' f d r z => ?_, fun _ _ _ _ _ _ _ z => z.elim, fun _ _ _ _ _ _ _ z => z.elim⟩
      have z' : x = .bool true := z
      subst z'
      cases r
      exact q H'
end My

namespace My
open PySem PySem.Spec PyProof.Rows L2
open PySem.W (dataLt iter_listW kla_obj kla_fn kla_callFunE kla_codeExpr rcLt_alike)
theorem refs_as : ∀ {as : List Addr} {its : List Value}, Vals (as.map V.ref) its → its = as.map Value.ref
  | [], _, r => by cases r; rfl
  | a :: as, _, r => by
    cases r with
    | cons h t =>
      cases (show _ = Value.ref a from h)
      rw [List.map_cons, refs_as t]
def lamBt (ks : List Int) (i j : Nat) : Bool := dataLt (.int (ks.getD i 0)) (.int (ks.getD j 0))
section
variable {X : Cx} {pins : List (Addr × Obj)} {σ : L2.St} {H : Hp} {s : Shared}
theorem lam_call {A : Around} {f c' : Addr} {q x : Str} {params : Arguments} {body : Expr} {scope : Scope} {pm ctv : Value} {k : Nat} {t : TE} {v : V} {u : Value} {Q : VK} {E : Value → Shared → Prop}
    (I : Inv X pins σ H s) (hA : A.frames = X.A.frames) (hf : s.heap.get? f = some (kla_obj "<lambda>" q params body scope [] pm c' ctv)) (hco : H c' = some (LamX.CodeO c' q)) (S : FnScope [x] [x] scope)
    (hb : bindArgs (kla_fn "<lambda>" q params body scope [] pm (.ref c') ctv) ⟨[u], []⟩ = pure [(x, u)]) (hr : Room (k + 1) A) (r : RelV v u)
    (body_ : ∀ (A : Around) (outer : List Env) (s : Shared) (H : Hp) (E : XK), Room k (A.deeper (envOfC q scope s.heap.objs.size f (.ref c'))) → PE (cxOf CX0 X.prog X.w X.K X.mg X.base [x] q scope f (.ref c') A outer s H E) body t)
    (ht : t [some v] H Q) : wpAny (model X.prog X.w) A (call (.ref f) [u]) (fun u' s' => EP X pins σ Q u' s' ∧ ∀ b o, s.heap.get? b = some o → H b = none → b ∉ frs X.stack → s'.heap.get? b = some o) E s := by
  have e0 : Env0 X.prog X.w X.K X.mg X.base A X.stack s H := ⟨hA.trans I.ok.frames, I.ok.mod, I.bs, Nat.le_trans I.ok.bsz I.sz, I.stack, I.stkFree, I.hok, I.bare⟩
  obtain ⟨⟨oc, us, tq, hoc, hdc, hvc⟩, _, _⟩ := I.hok c' _ hco
  have rv : Vals [v] [u] := .cons r .nil
  have kinds : ∀ y ∈ [x].zip [u], scope.names.lookup y.1 = some .local ∨ (scope.names.lookup y.1 = some .cell ∧ ((cellsFrom (s.heap.objs.size + 1) scope.names []).lookup y.1).isSome = true) := by
    intro y hy
    rw [List.mem_singleton.mp hy]
    exact (S.par x List.mem_cons_self).imp id fun z => ⟨z, PySem.W.cellsFrom_some _ _ _ (.inl z)⟩
  have main : codeAny (model X.prog X.w) A (.call (.ref f) ⟨[u], []⟩) (CR CX0 X.stack X.prog X.w H s Q fun _ _ _ => False) s := by
    refine kla_callFunE hr.depth hf rfl S.co S.gen rfl ⟨c', oc, us, tq, rfl, hoc, hdc, hvc⟩ ?_
    rw [hb]
    refine wpAny_pure (wpAny_newFunctionEnv_cells S.kind kinds fun env he s1 y => ?_)
    subst he
    refine ⟨I.nolimit.keeps y.toInCall.keep, kla_codeExpr ?_⟩
    refine wpAny_mono ((body_ A X.stack s H (fun _ _ _ => False) (hr.deeper _)).run [] s1 _ H Q (inv_start S hr.hd e0 rfl rv y) ht) (fun w s' hq => ?_) fun _ _ hq => hq
    obtain ⟨v', H', J, r', q'⟩ := hq
    exact ⟨v', H', J.os, J.bare, J.base, J.hok, r', q'⟩
  refine wpAny_call (codeAny_mono main fun r s' hq => ?_)
  cases r with
  | error e => exact (show False from hq).elim
  | ok fl =>
    cases fl with
    | ret u =>
      refine ⟨I.after hq, ?_⟩
      obtain ⟨_, _, _, _, un, _⟩ := hq
      exact fun b o e n nf => un.keep b o e n nf nofun
    | next => exact False.elim hq
    | brk => exact False.elim hq
    | cont => exact False.elim hq
theorem min_lam {p f c' : Addr} {q x : Str} {params : Arguments} {body : Expr} {scope : Scope} {pm ctv : Value} {k : Nat} {t : TE} {as : List Addr} {ks : List Int} {Q : VK} {E : Value → Shared → Prop}
    (I : Inv X pins σ H s) (hc : X.calm = true) (hp : SqL X.K H p (as.map V.ref)) (ne : as ≠ []) (hl : ks.length = as.length)
    (hf : s.heap.get? f = some (kla_obj "<lambda>" q params body scope [] pm c' ctv)) (hfn : H f = none) (hfr : f ∉ frs X.stack) (hco : H c' = some (LamX.CodeO c' q)) (S : FnScope [x] [x] scope)
    (hb : ∀ u : Value, bindArgs (kla_fn "<lambda>" q params body scope [] pm (.ref c') ctv) ⟨[u], []⟩ = pure [(x, u)]) (hr : Room (k + 2) X.A)
    (body_ : ∀ (A : Around) (outer : List Env) (s : Shared) (H : Hp) (E : XK), Room k (A.deeper (envOfC q scope s.heap.objs.size f (.ref c'))) → PE (cxOf CX0 X.prog X.w X.K X.mg X.base [x] q scope f (.ref c') A outer s H E) body t)
    (ht : ∀ (i : Nat) (a : Addr) (z : Int) (Q : VK), as[i]? = some a → ks[i]? = some z → Q (.int z) H → t [some (.ref a)] H Q)
    (hQ : ∀ a, as[argBest (lamBt ks) (as.length - 1)]? = some a → Q (.ref a) H) :
    wpAny (model X.prog X.w) X.A (call (.builtin "min") [.ref p] [(Str.ofString "key", .ref f)]) (EP X pins σ Q) E s := by
  have hh : X.A.handled = none := I.ok.hd hc
  obtain ⟨its, rv, pl, hz⟩ := I.list hp
  have ei : its = as.map Value.ref := refs_as rv
  refine call_min_walkK (iter_listW (A := X.A.in1) hh pl.isList fun s2 e W st hfp hw hk => ?_)
  have J2 : Inv X pins σ H s2 ∧ s2.heap.get? f = some (kla_obj "<lambda>" q params body scope [] pm c' ctv) := by
    subst e
    exact ⟨I.kept (t' := s.toks) fun b o h => Heap.get?_push_of_some _ h, Heap.get?_push_of_some _ hf⟩
  have itFree : H s.heap.objs.size = none := I.hok.fresh (Nat.le_refl _)
  have sFree : H s2.heap.objs.size = none := J2.1.hok.fresh (Nat.le_refl _)
  have sz : s.heap.objs.size ≤ s2.heap.objs.size := by
    subst e
    show _ ≤ (s.heap.push _).objs.size
    rw [Heap.size_push]
    exact Nat.le_succ _
  have fpk : ∀ b ∈ [s2.heap.objs.size, s.heap.objs.size], FpOk X pins H b ∧ b ∉ frs X.stack ∧ b ≠ f := fun b hb => by
    have ge : s.heap.objs.size ≤ b ∧ H b = none := by
      rcases List.mem_cons.mp hb with z | z
      · rw [z]
        exact ⟨sz, sFree⟩
      · rw [List.mem_singleton.mp z]
        exact ⟨Nat.le_refl _, itFree⟩
    refine ⟨I.fpOk ge.1 ge.2, fun z => ?_, fun z => absurd (Heap.lt_size hf) (by rw [← z]; exact Nat.not_lt.mpr ge.1)⟩
    rcases List.mem_cons.mp (I.stkSub b z) with z | z
    · exact absurd I.lt (by rw [← z]; exact Nat.not_lt.mpr ge.1)
    · exact I.nofs ge.1 z
  have len : its.toArray.size = as.length := by rw [List.size_toArray, ei, List.length_map]
  have pos : 0 < as.length := List.length_pos_iff.mpr ne
  refine ⟨_, _, _, _, _, _, _, fun s' => Inv X pins σ H s' ∧ s'.heap.get? f = some (kla_obj "<lambda>" q params body scope [] pm c' ctv), fun i v _ => ∃ z tk, ks[i]? = some z ∧ v = Value.int z tk, lamBt ks, rfl, W, st, hfp, by omega, ⟨fun a b h m => ?_, fun _ _ _ _ h _ => h, fun i v a o Q' E' hi hv h sti ho kk => ?_, fun i j ki kj a Q' E' h hki hkj h' => ?_⟩, J2, fun v s' hv h => ?_⟩
  · obtain ⟨hp', g', d', t', os'⟩ := b
    have e1 : g' = a.gens := m.gens
    have e2 : d' = a.drawn := m.drawn
    have e3 : os' = a.os := m.os
    subst e1 e2 e3
    exact ⟨h.1.turnedL (fun b o nb q => m.heap b o nb q) fun b hb => (fpk b hb).1, m.heap f _ (fun z => (fpk f z).2.2 rfl) h.2⟩
  · have ev : ∃ c, as[i]? = some c ∧ v = .ref c := by
      have hv' : its.toArray[i]? = some v := hv
      rw [ei] at hv'
      have hv2 : (as.map Value.ref)[i]? = some v := by simpa using hv'
      rw [List.getElem?_map] at hv2
      obtain ⟨c, h1, h2⟩ := Option.map_eq_some_iff.mp hv2
      exact ⟨c, h1, h2.symm⟩
    obtain ⟨c, ec, rfl⟩ := ev
    have li : i < ks.length := by
      rw [hl]
      exact (List.getElem?_eq_some_iff.mp ec).1
    refine wpAny_mono (lam_call (A := X.A.in1) (v := .ref c) (Q := fun v H' => v = .int ks[i] ∧ H' = H) (E := E') h.1 rfl h.2 hco S (hb _) hr.in1 rfl body_ (ht i c _ _ ec (List.getElem?_eq_getElem li) ⟨rfl, rfl⟩)) (fun w s' hq => ?_) fun _ _ hq => hq
    obtain ⟨⟨v', H', P', r', rfl, rfl⟩, kp⟩ := hq
    obtain ⟨tk, rfl⟩ := r'
    have pin : ∀ b ∈ [s2.heap.objs.size, s.heap.objs.size], ∀ o, a.heap.get? b = some o → s'.heap.get? b = some o := fun b hb o e => kp b o e (fpk b hb).1.1 (fpk b hb).2.1
    refine kk _ s' ⟨P', kp f _ h.2 hfn hfr⟩ ⟨?_, ?_⟩ (pin _ List.mem_cons_self _ ho) ⟨_, tk, List.getElem?_eq_getElem li, rfl⟩ fun _ _ h => h
    · exact sti.1.at fun o e => pin _ (List.mem_cons_of_mem _ List.mem_cons_self) o e
    · obtain ⟨its', rv', pl', _⟩ := P'.list hp
      rw [show its' = its from (refs_as rv').trans ei.symm] at pl'
      exact pl'.isList
  · obtain ⟨z1, t1, e1, rfl⟩ := hki
    obtain ⟨z2, t2, e2, rfl⟩ := hkj
    refine rcLt_alike (.int z1) (.int z2) X.A.in1 a _ _ [] [] (.int _ _) (.int _ _) rfl nofun ?_ X.prog X.w E' Q' ?_
    · have := hr.un
      show X.A.units + 1 + min _ _ < cLine
      have m0 : min (PyData.int z1).depth (PyData.int z2).depth ≤ 1 := by
        refine Nat.le_trans (Nat.min_le_left _ _) ?_
        simp [PyData.depth]
      omega
    · unfold lamBt at h'
      rw [List.getD_eq_getElem?_getD, List.getD_eq_getElem?_getD, e1, e2] at h'
      exact h'
  · rw [len] at hv
    have hv' : its.toArray[argBest (lamBt ks) (as.length - 1)]? = some v := hv
    rw [ei] at hv'
    have hv2 : (as.map Value.ref)[argBest (lamBt ks) (as.length - 1)]? = some v := by simpa using hv'
    rw [List.getElem?_map] at hv2
    obtain ⟨c, h1, rfl⟩ := Option.map_eq_some_iff.mp hv2
    exact ⟨.ref c, H, h.1, rfl, hQ c h1⟩
end
end My

namespace My
open PySem PySem.Spec PyProof.Rows L2
variable [TbC]
open RZ (ItzT pyNext_zipT_item call_zipT)
def ItzK (K : PySem.W.Frag) (a b : Addr) : It := { ItzT K a b with yld := fun i H v H' => ∃ (T : Addr) (x y : V) (o : HO), v = .ref T ∧ H T = none ∧ KTup T [x, y] o ∧ H' = upd H T o ∧ (∀ xs, SqT K H a xs → xs[i]? = some x) ∧ ∀ ys, SqT K H b ys → ys[i]? = some y }
omit [TbC] in
theorem turn_zipK {P : Program} {w : World} {K : PySem.W.Frag} {elts : List Expr} {kk : Nat} {tpos : Pos} {a b z TI TO i1 i2 : Addr} (D : ZipApart z TI TO i1 i2 a b) :
    Turn P w K (.Tuple elts kk tpos) (ItzK K a b) [z, TI, TO, i1, i2] z (fun i h => IsZip h z TI TO .none ∧ IsPair h TI (.ref i1) (.ref i2) ∧ (∃ x y, IsPair h TO x y) ∧ h.IsTupleIter i1 a i ∧ h.IsTupleIter i2 b i) where
  mem := (RZ.turn_zipT (P := P) (w := w) (K := K) (elts := elts) (kk := kk) (tpos := tpos) D).mem
  obj := (RZ.turn_zipT (P := P) (w := w) (K := K) (elts := elts) (kk := kk) (tpos := tpos) D).obj
  keep := (RZ.turn_zipT (P := P) (w := w) (K := K) (elts := elts) (kk := kk) (tpos := tpos) D).keep
  done := (RZ.turn_zipT (P := P) (w := w) (K := K) (elts := elts) (kk := kk) (tpos := tpos) D).done
  self := (RZ.turn_zipT (P := P) (w := w) (K := K) (elts := elts) (kk := kk) (tpos := tpos) D).self
  item := by
    intro X hP hw hK _ i pins s σ H E I hf st ⟨xs, ys, x, y, qx, qy, hx, hy⟩
    subst hP hw hK
    obtain ⟨hz, hTI, ⟨_, _, hTO⟩, h1, h2⟩ := st
    obtain ⟨its, rv, p, _⟩ := I.tuple qx
    obtain ⟨its2, rv2, p2, _⟩ := I.tuple qy
    obtain ⟨u, hu, ru⟩ := rv.get hx
    obtain ⟨u2, hu2, ru2⟩ := rv2.get hy
    have five : ∀ {c : Addr}, c ∉ [z, TI, TO, i1, i2] → c ≠ z ∧ c ≠ TI ∧ c ≠ TO ∧ c ≠ i1 ∧ c ≠ i2 := fun {c} h => by simpa using h
    have below : ∀ c ∈ [z, TI, TO, i1, i2], c < s.heap.objs.size := fun c hc => by
      obtain ⟨o1, e1, _⟩ := h1
      obtain ⟨o2, e2, _⟩ := h2
      simp only [List.mem_cons, List.not_mem_nil, or_false] at hc
      rcases hc with rfl | rfl | rfl | rfl | rfl
      · exact Heap.lt_size hz
      · exact Heap.lt_size hTI
      · exact Heap.lt_size hTO
      · exact Heap.lt_size e1
      · exact Heap.lt_size e2
    refine pyNext_zipT_item D hz hTI hTO h1 h2 p p2 (x := u) (y := u2) (by simpa using hu) (by simpa using hu2) fun h' z' TO' h1' h2' hT _ hk => ⟨_, rfl, wpAny_letOwnedTupleGo_zip (s := { s with heap := h' }) z' fun h'' z'' sb => ?_⟩
    have nz : s.heap.objs.size ≠ z := Nat.ne_of_gt (below z (by simp))
    have new : ObjOk X.prog X.w (upd H s.heap.objs.size (.frz { cls := .type "tuple", data := .seq [u, u2].toArray } (.tup [x, y]))) h'' s.heap.objs.size (.frz { cls := .type "tuple", data := .seq [u, u2].toArray } (.tup [x, y])) :=
      ktup_new (show 2 ≤ sizeLine by decide) (.cons ru (.cons ru2 .nil)) ((sb.2 _ nz).trans hT)
    refine ⟨.ref s.heap.objs.size, _, I.turnedNew (t' := s.toks) (ch := [z, TI, TO, i1, i2]) (fun c o hb q => ?_) hf (Nat.le_refl _) new, rfl, ⟨_, x, y, _, rfl, I.hok.fresh (Nat.le_refl _), ⟨_, _, rfl⟩, rfl, fun l hl => by rw [I.tuple_inj hl qx]; exact hx, fun l hl => by rw [I.tuple_inj hl qy]; exact hy⟩, ⟨z'', (sb.2 _ D.TIz).trans (hk _ _ D.TIz D.TITO D.TIi1 D.TIi2 hTI), ⟨u, u2, (sb.2 _ D.TOz).trans TO'⟩, h1'.at fun o q => (sb.2 _ D.i1z).trans q, h2'.at fun o q => (sb.2 _ D.i2z).trans q⟩, fun c hc => ?_⟩
    · obtain ⟨n1, n2, n3, n4, n5⟩ := five hb
      exact (sb.2 c n1).trans (hk c o n1 n3 n4 n5 q)
    · rw [upd_ne (Nat.ne_of_lt (below c hc))]
      exact (hf c hc).1
def iZipK (K : PySem.W.Frag) (ta : TA) : TI := fun σ H R => ta σ H fun vs H1 => ∃ a b xs ys, vs = [.ref a, .ref b] ∧ SqT K H1 a xs ∧ SqT K H1 b ys ∧ R (ItzK K a b) H1
omit [TbC] in
theorem pi_zipK {X : Cx} {e e2 : Expr} {ta : TA} {p pos tpos : Pos} {elts : List Expr} {kk : Nat} (hg : Gl X "zip") (hm : X.mg "zip" = none) (ha : PA X [e, e2] ta)
    (hs : starEach [e, e2] X.env = (false, eval e X.env) :: starEach [e2] X.env := by rfl) (hpl : (backTo pos (starEach [e2] X.env)).any (·.1) = false := by rfl) : PI X (.Tuple elts kk tpos) (.Call (.Name "zip" p) [e, e2] [] pos) (iZipK X.K ta) := ⟨fun pins s σ H R I h => by
  refine Call_ (ld_blt I hg hm PyProof.Rows.boot_zip (PyProof.Rows.callWith_type1 (thn (ha.run pos pins s σ H _ I h) fun us s1 ⟨vs, H1, I1, r1, a, b, xs, ys, ex, qx, qy, q⟩ => ?_) hs hpl))
  subst ex
  cases r1 with
  | cons r rr =>
  cases rr with
  | cons r' rr =>
  cases rr
  cases r
  cases r'
  obtain ⟨its, rv, p1, _⟩ := I1.tuple qx
  obtain ⟨its2, rv2, p2, _⟩ := I1.tuple qy
  obtain ⟨o1, ho1, _⟩ := id p1
  obtain ⟨o2, ho2, _⟩ := id p2
  refine call_zipT (show s1.heap.IsTuple a its.toArray from p1) (show s1.heap.IsTuple b its2.toArray from p2) fun h' hz hTI hTO h1 h2 _ hk => wpAny_pyIter_zip hz ?_
  refine ⟨_, [s1.heap.objs.size + 4, s1.heap.objs.size + 2, s1.heap.objs.size + 3, s1.heap.objs.size, s1.heap.objs.size + 1], _, _, H1, rfl, I1.kept (t' := s1.toks) hk, turn_zipK (PySem.W.ktu_apart s1.heap.objs.size a b (Heap.lt_size ho1) (Heap.lt_size ho2)), ⟨hz, hTI, ⟨_, _, hTO⟩, h1, h2⟩, fun c hc => ?_, q⟩
  have hle : s1.heap.objs.size ≤ c := by
    have hc' : c = s1.heap.objs.size + 4 ∨ c = s1.heap.objs.size + 2 ∨ c = s1.heap.objs.size + 3 ∨ c = s1.heap.objs.size ∨ c = s1.heap.objs.size + 1 := by simpa using hc
    rcases hc' with z | z | z | z | z <;> rw [z] <;> first | exact Nat.le_refl _ | exact Nat.le_add_right _ _
  exact I1.fpOk hle (I1.hok.fresh hle)⟩
omit [TbC] in
theorem it_zipK {K : PySem.W.Frag} {O : Addr → Bool} {H1 : Hp} {a b : Addr} {us ws : List V} {xs ys : List PyData} (h1 : SqT K (hid O H1) a us) (r1 : RpAll K (hid O H1) us xs) (h2 : SqT K (hid O H1) b ws) (r2 : RpAll K (hid O H1) ws ys) :
    ItOk K O H1 (ItzK K a b) ((xs.zip ys).map fun p => .tuple [p.1, p.2]) := fun i O' H' s dm => by
  have q1 : SqT K H' a us := same_seqT hid_le (same_seqT s h1)
  have q2 : SqT K H' b ws := same_seqT hid_le (same_seqT s h2)
  rw [List.length_map, List.length_zip]
  refine ⟨fun l => ?_, fun l => ⟨us, ws, q1, q2, by rw [r1.len, r2.len]; omega⟩⟩
  have l1 : i < us.length := by rw [r1.len]; omega
  have l2 : i < ws.length := by rw [r2.len]; omega
  refine ⟨⟨us, ws, us[i], ws[i], q1, q2, List.getElem?_eq_getElem l1, List.getElem?_eq_getElem l2⟩, fun x H'' ⟨T, x1, y1, o, e, nT, kt, eH, g1, g2⟩ => ?_⟩
  subst e eH
  obtain ⟨d1, e1, z1⟩ := r1.get (g1 us q1)
  obtain ⟨d2, e2, z2⟩ := r2.get (g2 ws q2)
  have st := same_new (o := o) nT
  have s' := s.trans (hid_same (O := O') st)
  have at_ := hid_new (o := o) dm nT
  refine ⟨.tuple [d1, d2], ?_, st, .tup (kt.rd at_) (.cons (Rp.same s' _ _ z1) (.cons (Rp.same s' _ _ z2) .nil)) fun _ => kt.pl at_⟩
  rw [List.getElem?_map, (List.getElem?_zip_eq_some (z := (d1, d2))).mpr ⟨e1, e2⟩]
  rfl
def iZk (w : AD) : AD := fun ρ n Q => w ρ n fun ds n1 => ∃ xs ys, ds = [.tuple xs, .tuple ys] ∧ Q ((xs.zip ys).map fun p => .tuple [p.1, p.2]) n1
theorem qdi_zipK {X : Cx} {e e2 : Expr} {w : AD} {p pos tpos : Pos} {elts : List Expr} {kk : Nat} (hg : Gl X "zip") (hm : X.mg "zip" = none) (ha : PDA X [e, e2] w) (hs : starEach [e, e2] X.env = (false, eval e X.env) :: starEach [e2] X.env := by rfl) (hpl : (backTo pos (starEach [e2] X.env)).any (·.1) = false := by rfl) :
    PDI X (.Tuple elts kk tpos) (.Call (.Name "zip" p) [e, e2] [] pos) (iZk w) := qdi_mk (pi_zipK hg hm ha hs hpl) fun S hw k => rda_W S hw fun vs ds H1 n1 f1 d1 r1 ⟨xs, ys, ed, q⟩ => by
  subst ed
  cases r1 with
  | cons a r2 =>
  cases r2 with
  | cons b r3 =>
  cases r3
  cases a with
  | tup h1 a1 _ =>
  cases b with
  | tup h2 a2 _ =>
  exact ⟨_, _, _, _, rfl, same_seqT hid_le h1, same_seqT hid_le h2, k _ H1 n1 _ f1 d1 (it_zipK h1 a1 h2 a2) q⟩
end My

namespace My
open PySem PySem.Spec PyProof.Rows L2
section
variable {prog : Program} {w : World} {A : Around} {E : Value → Shared → Prop} {s : Shared} {zz TI TO j1 j2 : Addr} {fa fb : List Addr} {na nb i : Nat} {Pa Pb : Nat → Value → Prop} {Sa Sb : Nat → Heap → Prop}
end
end My

namespace My
open PySem PySem.Spec PyProof.Rows L2
abbrev PairsAt (Pa Pb : Nat → Value → Prop) (h : Heap) (Ts : List Addr) : Prop := ∀ (k : Nat) (T : Addr), Ts[k]? = some T → ∃ x y, Pa k x ∧ Pb k y ∧ IsTupOf2 h T x y
structure ZipIn (N : Nat) (zz TI TO j1 j2 : Addr) (Pa Pb : Nat → Value → Prop) (Sa Sb : Nat → Heap → Prop) (i : Nat) (h : Heap) (Ts : List Addr) : Prop where
  owner : (IsZip h zz TI TO .none ∧ ∃ a b, IsTupOf2 h TO a b) ∨ ∃ T f, IsZipHeld h zz TI TO T f ∧ T ∈ Ts
  ti : IsTupOf2 h TI (.ref j1) (.ref j2)
  sa : Sa i h
  sb : Sb i h
  len : Ts.length = i
  pairs : PairsAt Pa Pb h Ts
  above : ∀ T ∈ Ts, N ≤ T
  below : ∀ T ∈ Ts, T < h.objs.size
  size : N ≤ h.objs.size
  rise : Ts.Pairwise (· < ·)
section
variable {prog : Program} {w : World} {A : Around} {E : Value → Shared → Prop} {s : Shared} {N : Nat} {L zz TI TO j1 j2 : Addr} {fa fb : List Addr} {na nb i : Nat} {Pa Pb : Nat → Value → Prop} {Sa Sb : Nat → Heap → Prop} {Ts : List Addr}
end
end My

namespace My
open PySem PySem.Spec PyProof.Rows L2
section
variable {prog : Program} {w : World} {A : Around} {E : Value → Shared → Prop} {s : Shared} {N : Nat} {L zz TI TO j1 j2 : Addr} {fa fb : List Addr} {na nb i : Nat} {Pa Pb : Nat → Value → Prop} {Sa Sb : Nat → Heap → Prop} {Ts : List Addr}
end
end My

namespace My
open PySem PySem.Spec PyProof.Rows L2
end My

namespace My
open PySem PySem.Spec PyProof.Rows L2

theorem place {i : Int} {n : Nat} (h : 0 < n) : ∃ j : Nat, i % (n : Int) = (j : Int) ∧ j < n := by
  have h1 : 0 ≤ i % (n : Int) := Int.emod_nonneg i (by omega)
  have h2 : i % (n : Int) < (n : Int) := Int.emod_lt_of_pos i (by omega)
  exact ⟨(i % (n : Int)).toNat, by omega, by omega⟩
end My

namespace My
open PySem PySem.Spec PyProof.Rows L2
open TL (tl joinL join_eq tl_join)
def six : List Nat := [97, 98, 99, 109, 121, 122]
structure Wd0 (x : Str) : Prop where
  pos : 0 < (tl x).length
  few : (tl x).length ≤ 8
  of : ∀ c ∈ tl x, c ∈ six
structure Wd (x : Str) : Prop where
  pos : 0 < (tl x).length
  few : (tl x).length ≤ 8
  of : ∀ c ∈ tl x, c ∈ 113 :: six
def tq (x : Str) : Nat := ((tl x).reverse.takeWhile (· == 113)).length
end My

namespace My
open PySem PySem.Spec PyProof.Rows L2
open TL (tl)
end My

namespace My
open PySem PySem.Spec PyProof.Rows L2
open TL (tl len_tl tl_append)
end My

namespace My
open PySem PySem.Spec PyProof.Rows L2
open TL (tl len_tl tl_append)
def KindAt (H : Hp) (t : Addr × Str × Nat) : Prop := H t.1 = some (.tup [.str t.2.1, .int (t.2.2 : Int)]) ∧ Wd t.2.1 ∧ 0 < t.2.2 ∧ t.2.2 ≤ 4
theorem Fr.free {d b : Addr} {H H2 : Hp} (f : Fr d H H2) (n : H2 b = none) (hd : b ≠ d) : H b = none := by
  cases e : H b with
  | none => rfl
  | some o =>
    rw [f b o hd e] at n
    cases n
theorem KindAt.fr {d : Addr} {H H2 : Hp} {t : Addr × Str × Nat} (h : KindAt H t) (f : Fr d H H2) (hd : t.1 ≠ d) : KindAt H2 t := ⟨f _ _ hd h.1, h.2⟩
structure Blt2 (mg : Str → Option Value) : Prop where
  tuple : mg "tuple" = none
  sorted : mg "sorted" = none
  set : mg "set" = none
  dict : mg "dict" = none
  isi : mg "isinstance" = none
  str : mg "str" = none
  all : mg "all" = none
end My

namespace My
open PySem PySem.Spec PyProof.Rows L2
open TL (tl len_tl tl_append)
end My

namespace My
open PySem PySem.Spec PyProof.Rows L2
variable [TbC]
def truthD : PyData → Option Bool
  | .none => some false
  | .bool b => some b
  | .int i => some (i != 0)
  | .str z => if z.length ≤ lim then some ((z.length : Int) != 0) else none
  | .list xs => some (!xs.isEmpty)
  | .tuple xs => some (!xs.isEmpty)
  | .dict _ => none
def bTr (w : ED) : TD := fun ρ n Q => w ρ n fun x n1 => ∃ b, truthD x = some b ∧ Q b n1
section
variable {X : Cx}
omit [TbC] in
theorem rps_empty {K : PySem.W.Frag} {H : Hp} {us : List V} {xs : List PyData} (h : RpAll K H us xs) : us.isEmpty = xs.isEmpty := by
  cases h <;> rfl
theorem qdt_truth {e : Expr} {w : ED} (h : PD X e w) (he : ∀ whole, isTrue e X.env whole = (do let v ← whole; standAt e.pos; holding [v] (truthy v)) := by intro _; rfl) : PDT X e (bTr w) := qdt_mk (pt_truth h he) fun S hw k => rd_W S hw fun v d H1 n1 f1 d1 r1 ⟨b, e, q⟩ => by
  refine ⟨b, ?_, k b H1 n1 f1 d1 q⟩
  cases d with
  | none => cases r1; cases e; rfl
  | bool _ => cases r1; cases e; rfl
  | int _ => cases r1; cases e; rfl
  | str z =>
    cases r1
    obtain ⟨c, e⟩ := ite_some e
    subst e
    exact ⟨Nat.le_trans c lim_le, rfl⟩
  | list xs =>
    cases e
    cases r1 with
    | lst h1 a1 => exact .inl ⟨_, .inl (.inl (hid_le _ _ h1)), by rw [rps_empty a1]⟩
  | tuple xs =>
    cases e
    cases r1 with
    | tup h1 a1 _ => exact .inr (.inl ⟨_, same_seqT hid_le h1, by rw [rps_empty a1]⟩)
  | dict _ => cases e
def sortSD : List PyData → Option PyData
  | [.list xs] => match viewAll vS xs with
    | some ks => if ks.length < 64 then some (.list ((sortU ltS ks).map bS)) else none
    | none => none
  | _ => none
omit [TbC] in
theorem rising_pw : ∀ {ys : List Str} {p : Str}, risingS p ys = true → (p :: ys).Pairwise fun x y => ltS y x = false
  | [], p, _ => List.pairwise_singleton _ _
  | x :: r, p, h => by
    have h' : (!ltCps x.cps.toList p.cps.toList && risingS x r) = true := h
    rw [Bool.and_eq_true, Bool.not_eq_true'] at h'
    have ih := rising_pw (ys := r) (p := x) h'.2
    have e : ltS x p = false := by
      rw [← ltS_eq, ← h'.1]
      exact (ltCps_eq _ _).symm
    refine List.pairwise_cons.mpr ⟨fun y hy => ?_, ih⟩
    rcases List.mem_cons.mp hy with rfl | hy
    · exact e
    · have e2 := (List.pairwise_cons.mp ih).1 y hy
      cases z : ltS y p with
      | false => rfl
      | true =>
        cases k : ltS x y with
        | true =>
          rw [tot_str.trans _ _ _ k z] at e
          cases e
        | false =>
          have w := tot_str.tri _ _ k e2
          subst w
          rw [z] at e
          cases e
omit [TbC] in
theorem sortedS_pw {ys : List Str} (h : sortedS ys = true) : ys.Pairwise fun x y => ltS y x = false := by
  cases ys with
  | nil => exact List.Pairwise.nil
  | cons x r => exact rising_pw h
omit [TbC] in
theorem pu_sortS {K : PySem.W.Frag} : PuN K (rSortedS K) sortSD := by
  intro O H xs ds dz Q dm r e k
  match ds, e with
  | [.list zs], e =>
    have e' : (match viewAll vS zs with
      | some ks => if ks.length < 64 then some (PyData.list ((sortU ltS ks).map bS)) else none
      | none => none) = some dz := e
    cases c : viewAll vS zs with
    | none =>
      rw [c] at e'
      cases e'
    | some ks =>
      rw [c] at e'
      obtain ⟨few, e'⟩ := ite_some e'
      subst e'
      obtain ⟨v, rfl, r1⟩ := rps1 r
      cases r1 with
      | lst h1 a1 =>
      have eu := rps_viewS a1 c
      subst eu
      refine ⟨_, ks, rfl, .inl (.inl (hid_le _ _ h1)), few, fun ys p pm srt np => ?_⟩
      have e2 : ys = sortU ltS ks := sort_uniq tot_str (pm.trans (sortU_perm ks).symm) (sortedS_pw srt) (sortU_srt tot_str ks)
      subst e2
      exact k _ _ (same_new np) (.lst (hid_new dm np) (rps_back _))
end
section
variable {P : Program} {w : World} {K : PySem.W.Frag} {mg : Str → Option Value} {base : Heap} {f : Addr} {fd : FuncData} {ps : List Str} {k : Nat}
end
end My

namespace My
open PySem PySem.Spec PyProof.Rows L2
variable [TbC]
section
variable {X : Cx}
theorem qs_setLc2 {i : Nat} {y : Str} {py : Pos} {elt tg iter tg1 iter1 : Expr} {ifs ifs1 : List Expr} {scope : Scope} {own : List (Str × Nat)} {vs1 : List Nat} {pos spos : Pos} {it it1 : AD} {g g1 : GD} {p p1 : TD} {e : ED} {vs w1 : List Nat} (hc : X.calm = true) (hN : X.N.Nodup) (hy : X.N[i]? = some y) (hyl : X.env.scope.names.lookup y = some .local)
    (hsw : swapsWith (.ListComp elt [⟨tg, iter, ifs, 0⟩, ⟨tg1, iter1, ifs1, 0⟩] scope pos) (some (.Name y py)) spos.line X.env = pure true) (hi : PDI X tg iter it) (ok : BlkOk X.N X.env.scope scope own) (hv : ∀ i ∈ vs1, i ∈ own.map (·.2))
    (hvs : ∀ i ∈ vs, i ∈ own.map (·.2)) (hw1 : ∀ i ∈ w1, i ∈ vs1) (gp : GPure g) (gp1 : GPure g1)
    (hg : ∀ (s : Shared) (H : Hp) (C : Addr) (cl : List (Str × Addr)) (fp : List Addr), PDG (X.blk s H scope (compEnvC scope cl C X.env) fp) tg vs g) (ht : ∀ (s : Shared) (H : Hp) (C : Addr) (cl : List (Str × Addr)) (fp : List Addr), PTs (X.blk s H scope (compEnvC scope cl C X.env) fp) ifs (tWT X.K p))
    (hi1 : ∀ (s : Shared) (H : Hp) (C : Addr) (cl : List (Str × Addr)) (fp : List Addr), PDI (X.blk s H scope (compEnvC scope cl C X.env) fp) tg1 iter1 it1)
    (hg1 : ∀ (s : Shared) (H : Hp) (C : Addr) (cl : List (Str × Addr)) (fp : List Addr), PDG (X.blk s H scope (compEnvC scope cl C X.env) fp) tg1 w1 g1) (ht1 : ∀ (s : Shared) (H : Hp) (C : Addr) (cl : List (Str × Addr)) (fp : List Addr), PTs (X.blk s H scope (compEnvC scope cl C X.env) fp) ifs1 (tWT X.K p1))
    (he : ∀ (s : Shared) (H : Hp) (C : Addr) (cl : List (Str × Addr)) (fp : List Addr), PD (X.blk s H scope (compEnvC scope cl C X.env) fp) elt e) (hs : ∀ x, foldedSetIterable iter X.env x = pure x := by intro _; rfl) (hs1 : ∀ env x, foldedSetIterable iter1 env x = pure x := by intro _ _; rfl) :
    PSD X (.Assign [.Name y py] (.ListComp elt [⟨tg, iter, ifs, 0⟩, ⟨tg1, iter1, ifs1, 0⟩] scope pos) spos) (sSet i (eLc2 it g p it1 g1 p1 e (own.map (·.2)) vs1)) := qs_mk (ps_setLc2 hc hN hy hyl hsw hi ok hv hg ht hi1 hg1 ht1 he hs hs1) fun S hw k => rd_lc2 hvs hw1 gp gp1 S hw fun v d H1 n1 f1 d1 r1 q1 =>
  k.nx _ _ _ _ _ ((S.step f1 d1).set r1) (S.hid f1) q1
theorem qd_sort2S {elt tg iter tg1 iter1 : Expr} {ifs ifs1 : List Expr} {scope : Scope} {own : List (Str × Nat)} {vs1 : List Nat} {q1 pos pos2 : Pos} {it it1 : AD} {g g1 : GD} {p p1 : TD} {e : ED} {vs w1 : List Nat} (hg0 : Gl X "sorted") (hm0 : X.mg "sorted" = none) (hc : X.calm = true) (hN : X.N.Nodup) (hu : X.A.units + 64 < cLine) (hi : PDI X tg iter it) (ok : BlkOk X.N X.env.scope scope own)
    (hv : ∀ i ∈ vs1, i ∈ own.map (·.2)) (hvs : ∀ i ∈ vs, i ∈ own.map (·.2)) (hw1 : ∀ i ∈ w1, i ∈ vs1)
    (hg : ∀ (s : Shared) (H : Hp) (C : Addr) (cl : List (Str × Addr)) (fp : List Addr), PDG (X.blk s H scope (compEnvC scope cl C X.env) fp) tg vs g) (ht : ∀ (s : Shared) (H : Hp) (C : Addr) (cl : List (Str × Addr)) (fp : List Addr), PTs (X.blk s H scope (compEnvC scope cl C X.env) fp) ifs (tWT X.K p))
    (hi1 : ∀ (s : Shared) (H : Hp) (C : Addr) (cl : List (Str × Addr)) (fp : List Addr), PDI (X.blk s H scope (compEnvC scope cl C X.env) fp) tg1 iter1 it1)
    (hg1 : ∀ (s : Shared) (H : Hp) (C : Addr) (cl : List (Str × Addr)) (fp : List Addr), PDG (X.blk s H scope (compEnvC scope cl C X.env) fp) tg1 w1 g1) (ht1 : ∀ (s : Shared) (H : Hp) (C : Addr) (cl : List (Str × Addr)) (fp : List Addr), PTs (X.blk s H scope (compEnvC scope cl C X.env) fp) ifs1 (tWT X.K p1))
    (he : ∀ (s : Shared) (H : Hp) (C : Addr) (cl : List (Str × Addr)) (fp : List Addr), PD (X.blk s H scope (compEnvC scope cl C X.env) fp) elt e) (hs : ∀ x, foldedSetIterable iter X.env x = pure x := by intro _; rfl) (hs1 : ∀ env x, foldedSetIterable iter1 env x = pure x := by intro _ _; rfl)
    (h1 : starEach [.SetComp elt [⟨tg, iter, ifs, 0⟩, ⟨tg1, iter1, ifs1, 0⟩] scope pos] X.env = (false, eval (.SetComp elt [⟨tg, iter, ifs, 0⟩, ⟨tg1, iter1, ifs1, 0⟩] scope pos) X.env) :: starEach [] X.env := by rfl) :
    PD X (.Call (.Name "sorted" q1) [.SetComp elt [⟨tg, iter, ifs, 0⟩, ⟨tg1, iter1, ifs1, 0⟩] scope pos] [] pos2) (eSort bS ltS it g p (twoW it1 g1 p1 (putW vS e) vs1) (own.map (·.2))) :=
  qd_sort2 (skS X.prog X.w X.K) hg0 hm0 hc hN hu hi ok hv hvs hw1 hg ht hi1 hg1 ht1 he hs hs1 h1
end
end My

namespace My
open PySem PySem.Spec PyProof.Rows L2
variable [TbC]
abbrev DKv := List (PyData × PyData)
def keyOf : PyData → Option Key
  | .int i => some (.inl i)
  | .str x => some (.inr x)
  | _ => none
def hasK (p : PyData × PyData) (k : Key) : Bool := decide (keyOf p.1 = some k)
def valD (ds : DKv) (k : Key) : Option PyData := (ds.find? fun p => hasK p k).map (·.2)
def putD (ds : DKv) (k : Key) (x : PyData) : DKv := if (ds.any fun p => hasK p k) = true then ds.map (fun p => if hasK p k = true then (p.1, x) else p) else ds ++ [(kD k, x)]
def mergeD (ds more : DKv) : DKv := more.foldl (fun acc p => match keyOf p.1 with
  | some k => putD acc k p.2
  | none => acc) ds
omit [TbC] in
theorem keyOf_kD (k : Key) : keyOf (kD k) = some k := by cases k <;> rfl
omit [TbC] in
theorem hasK_kD (k0 k : Key) (d : PyData) : hasK (kD k0, d) k = decide (k0 = k) := by
  unfold hasK
  rw [keyOf_kD]
  exact decide_eq_decide.mpr ⟨Option.some.inj, fun e => by rw [e]⟩
section
variable {K : PySem.W.Frag} {H : Hp}
omit [TbC] in
theorem keyOf_V {v : V} {d : PyData} {k : Key} (r : Rp K H v d) (e : keyOf d = some k) : v = kV k := by
  cases d with
  | int i => cases r; cases e; rfl
  | str x => cases r; cases e; rfl
  | none => cases e
  | bool _ => cases e
  | list _ => cases e
  | tuple _ => cases e
  | dict _ => cases e
omit [TbC] in
theorem kvs_len : ∀ {ds : DKv} {kvs : List (Key × V)}, RpKvs K H kvs ds → kvs.length = ds.length
  | [], _, h => by cases h; rfl
  | _ :: ds, _, h => by
    cases h with
    | cons h1 h2 => rw [List.length_cons, List.length_cons, kvs_len h2]
omit [TbC] in
theorem kvs_val (k : Key) : ∀ {ds : DKv} {kvs : List (Key × V)}, RpKvs K H kvs ds → (valV kvs k = none ∧ valD ds k = none) ∨ ∃ v d, valV kvs k = some v ∧ valD ds k = some d ∧ Rp K H v d
  | [], _, h => by cases h; exact .inl ⟨rfl, rfl⟩
  | _ :: ds, _, h => by
    cases h with
    | @cons k0 v kvs d ds h1 h2 =>
    have ef : valD ((kD k0, d) :: ds) k = if k0 = k then some d else valD ds k := by
      unfold valD
      rw [List.find?_cons, hasK_kD]
      by_cases e : k0 = k
      · rw [decide_eq_true e, if_pos e]
        rfl
      · rw [decide_eq_false e, if_neg e]
    by_cases e : k0 = k
    · exact .inr ⟨v, d, valV_pos e, by rw [ef, if_pos e], h1⟩
    · rw [ef, if_neg e, valV_neg (p := (k0, v)) e]
      exact kvs_val k h2
omit [TbC] in
theorem kvs_any (k : Key) : ∀ {ds : DKv} {kvs : List (Key × V)}, RpKvs K H kvs ds → (kvs.any fun kv => decide (kv.1 = k)) = ds.any fun p => hasK p k
  | [], _, h => by cases h; rfl
  | _ :: ds, _, h => by
    cases h with
    | @cons k0 v kvs d ds h1 h2 => rw [List.any_cons, List.any_cons, kvs_any k h2, hasK_kD]
omit [TbC] in
theorem kvs_snoc {k : Key} {v : V} {x : PyData} (r : Rp K H v x) : ∀ {ds : DKv} {kvs : List (Key × V)}, RpKvs K H kvs ds → RpKvs K H (kvs ++ [(k, v)]) (ds ++ [(kD k, x)])
  | [], _, h => by cases h; exact .cons r .nil
  | _ :: ds, _, h => by
    cases h with
    | cons h1 h2 => exact .cons h1 (kvs_snoc r h2)
omit [TbC] in
theorem kvs_map {k : Key} {v : V} {x : PyData} (r : Rp K H v x) : ∀ {ds : DKv} {kvs : List (Key × V)}, RpKvs K H kvs ds → RpKvs K H (kvs.map fun kv => if kv.1 = k then (kv.1, v) else kv) (ds.map fun p => if hasK p k = true then (p.1, x) else p)
  | [], _, h => by cases h; exact .nil
  | _ :: ds, _, h => by
    cases h with
    | @cons k0 v0 kvs d ds h1 h2 =>
    rw [List.map_cons, List.map_cons, hasK_kD]
    by_cases e : k0 = k
    · rw [decide_eq_true e, if_pos e, if_pos rfl]
      exact .cons r (kvs_map r h2)
    · rw [decide_eq_false e, if_neg e, if_neg Bool.false_ne_true]
      exact .cons h1 (kvs_map r h2)
omit [TbC] in
theorem kvs_put {k : Key} {v : V} {x : PyData} (r : Rp K H v x) {ds : DKv} {kvs : List (Key × V)} (h : RpKvs K H kvs ds) : RpKvs K H (putK kvs k v) (putD ds k x) := by
  unfold putK putD
  rw [kvs_any k h]
  split
  · exact kvs_map r h
  · exact kvs_snoc r h
end
def eGet (wo we wf : ED) : ED := fun ρ n Q => wo ρ n fun o n1 => ∃ ds, o = .dict ds ∧ we ρ n1 fun y n2 => wf ρ n2 fun z n3 => ∃ k, keyOf y = some k ∧ Q ((valD ds k).getD z) n3
theorem rd_get {K : PySem.W.Frag} {wo we wf : ED} : RdE K (tDGet2 (tW K wo) (tW K we) (tW K wf)) (eGet wo we wf) := fun {dk OB H0 O H σ ρ n Q Qd} S hw k => rd_W S hw fun v o H1 n1 f1 d1 r1 ⟨ds, eo, q1⟩ => by
  subst eo
  cases r1 with
  | @dic a ob kvs _ h1 a1 =>
  refine ⟨a, rfl, .inl ⟨kvs, .inr ⟨ob, hid_le _ _ h1⟩⟩, rd_W (S.step f1 d1) q1 fun y dy H2 n2 f2 d2 r2 q2 => rd_W (S.step (f1.trans f2) d2) q2 fun z dz H3 n3 f3 d3 r3 ⟨key, ek, q3⟩ => ?_⟩
  have s := hid_fr S.dO (f2.trans f3)
  have h3 := s _ _ h1
  refine ⟨valV kvs key, by rw [keyOf_V r2 ek]; exact .inl ⟨kvs, key, .inr ⟨ob, hid_le _ _ h3⟩, rfl, rfl⟩, ?_⟩
  rcases kvs_val key (RpKvs.same s _ _ a1) with ⟨e1, e2⟩ | ⟨u, d, e1, e2, r⟩
  · rw [e1]
    rw [e2] at q3
    exact k _ _ H3 n3 (f1.trans (f2.trans f3)) d3 r3 q3
  · rw [e1]
    rw [e2] at q3
    exact k _ _ H3 n3 (f1.trans (f2.trans f3)) d3 r q3
def inKD (neg : Bool) (x y : PyData) : Option PyData := match y with
  | .dict ds => (keyOf x).map fun k => .bool (if neg = true then !(valD ds k).isSome else (valD ds k).isSome)
  | _ => none
def rInK (neg : Bool) : R2 := fun y x H Q => ∃ a o, x = .ref a ∧ DGet H a y o ∧ Q (.bl (if neg = true then !Option.isSome o else Option.isSome o)) H
omit [TbC] in
theorem pu_inK {K : PySem.W.Frag} {neg : Bool} : Pu2 K (rInK neg) (inKD neg) := by
  intro O H x y dx dy dz Q dm rx ry e k
  cases dy with
  | dict ds =>
    obtain ⟨key, ek, e2⟩ := Option.map_eq_some_iff.mp e
    cases ry with
    | @dic a ob kvs _ h1 a1 =>
    refine ⟨a, valV kvs key, rfl, by rw [keyOf_V rx ek]; exact .inl ⟨kvs, key, .inr ⟨ob, hid_le _ _ h1⟩, rfl, rfl⟩, ?_⟩
    have es : (valV kvs key).isSome = (valD ds key).isSome := by
      rcases kvs_val key a1 with ⟨z1, z2⟩ | ⟨u, d, e1, e3, r⟩
      · rw [z1, z2]
        rfl
      · rw [e1, e3]
        rfl
    rw [es]
    subst e2
    exact k _ H (Same.refl _) (.bl _)
  | _ => cases e
section
variable {X : Cx}
theorem qd_get {o e f : Expr} {wo we wf : ED} {apos cpos : Pos} (hu : X.A.units + 64 < cLine) (ho : PD X o wo) (he : PD X e we) (hf : PD X f wf) (m : M2 X o "get" apos e f cpos := by exact ⟨rfl, rfl, rfl, rfl⟩) : PD X (.Call (.Attribute o "get" apos) [e, f] [] cpos) (eGet wo we wf) :=
  qd_mk (pe_dget2 (by omega) ho he hf m) rd_get
theorem qd_inK {a b : Expr} {wa wb : ED} {pos : Pos} (hu : X.A.units + 64 < cLine) (ha : PD X a wa) (hb : PD X b wb) (hm : behindInMarks .In b = false := by rfl) : PD X (.Compare a [.In] [b] pos) (eOp (inKD false) wa wb) :=
  qd_mk (t := tOp (rInK false) (tW X.K wa) (tW X.K wb)) (pe_cmp (pc_din (by omega) ha hb) hm) (rd_op pu_inK)
end
end My

namespace My
open PySem PySem.Spec PyProof.Rows L2
variable [TbC]
section
variable {K : PySem.W.Frag} {H : Hp}
omit [TbC] in
theorem kvs_merge : ∀ {more : DKv} {kv2 : List (Key × V)} {ds : DKv} {kvs : List (Key × V)}, RpKvs K H kv2 more → RpKvs K H kvs ds → RpKvs K H (mergeK kvs kv2) (mergeD ds more)
  | [], _, _, _, h, g => by cases h; exact g
  | _ :: more, _, ds, _, h, g => by
    cases h with
    | @cons k v kv2 d _ h1 h2 =>
    have e : mergeD ds ((kD k, d) :: more) = mergeD (putD ds k d) more := by
      show mergeD (match keyOf (kD k) with
        | some k => putD ds k d
        | none => ds) more = _
      rw [keyOf_kD]
    rw [e]
    show RpKvs K H (mergeK (putK _ k v) kv2) _
    exact kvs_merge h2 (kvs_put h1 g)
def pairD : PyData → Option (PyData × PyData)
  | .tuple [x, y] => (keyOf x).map fun _ => (x, y)
  | _ => none
def pairsD : List PyData → Option DKv
  | [] => some []
  | d :: ds => (pairD d).bind fun p => (pairsD ds).map (p :: ·)
omit [TbC] in
theorem kD_of : ∀ {x : PyData} {k : Key}, keyOf x = some k → kD k = x
  | .int _, _, e => by cases e; rfl
  | .str _, _, e => by cases e; rfl
  | .none, _, e => by cases e
  | .bool _, _, e => by cases e
  | .list _, _, e => by cases e
  | .tuple _, _, e => by cases e
  | .dict _, _, e => by cases e
omit [TbC] in
theorem rp_pair {v : V} {d x y : PyData} (r : Rp K H v d) (e : pairD d = some (x, y)) : ∃ (a : Addr) (k : Key) (u : V), v = .ref a ∧ SqT K H a [kV k, u] ∧ x = kD k ∧ Rp K H u y := by
  match d, e with
  | .tuple [x', y'], e =>
    obtain ⟨k, ek, e2⟩ := Option.map_eq_some_iff.mp e
    cases e2
    cases r with
    | @tup a us _ h1 h2 _ =>
    cases h2 with
    | cons r1 h2 =>
    cases h2 with
    | @cons u _ _ _ r2 h2 =>
    cases h2
    rw [keyOf_V r1 ek] at h1
    exact ⟨a, k, u, rfl, h1, (kD_of ek).symm, r2⟩
omit [TbC] in
theorem rps_pairs : ∀ {ds : List PyData} {us : List V} {kvs : DKv}, RpAll K H us ds → pairsD ds = some kvs → ∃ (ps : List Addr) (kv : List (Key × V)), us = ps.map V.ref ∧ Paired (fun p (e : Key × V) => SqT K H p [kV e.1, e.2]) ps kv ∧ RpKvs K H kv kvs
  | [], _, _, h, e => by
    cases h
    cases e
    exact ⟨[], [], rfl, .nil, .nil⟩
  | d :: ds, _, _, h, e => by
    cases h with
    | cons h1 h2 =>
    obtain ⟨⟨x, y⟩, e1, e2⟩ := Option.bind_eq_some_iff.mp e
    obtain ⟨kvs, e3, rfl⟩ := Option.map_eq_some_iff.mp e2
    obtain ⟨a, k, u, rfl, ht, rfl, r⟩ := rp_pair h1 e1
    obtain ⟨ps, kv, rfl, g1, g2⟩ := rps_pairs h2 e3
    exact ⟨a :: ps, (k, u) :: kv, rfl, .cons ht g1, .cons r g2⟩
end
omit [TbC] in
theorem paired_le {K : PySem.W.Frag} {H H' : Hp} (e : Same H H') : ∀ {ps : List Addr} {es : List (Key × V)}, Paired (fun p (e : Key × V) => SqT K H p [kV e.1, e.2]) ps es → Paired (fun p (e : Key × V) => SqT K H' p [kV e.1, e.2]) ps es
  | _, _, .nil => .nil
  | _, _, .cons h t => .cons (same_seqT e h) (paired_le e t)
def rDictS (K : PySem.W.Frag) : List V → Hp → VK → Prop := fun xs H Q => ∃ (a : Addr) (ps : List Addr) (kvs : List (Key × V)), xs = [.ref a] ∧ SqL K H a (ps.map V.ref) ∧ Paired (fun p kv => SqT K H p [kV kv.1, kv.2]) ps kvs ∧
  ∀ p, H p = none → Q (.ref p) (upd H p (.dK (mergeK [] kvs)))
def rDictP (K : PySem.W.Frag) : List V → Hp → VK → Prop := fun xs H Q => ∃ (a : Addr) (ps : List Addr) (kvs : List (Key × V)), xs = [.ref a] ∧ SqT K H a (ps.map V.ref) ∧ Pl K H a ∧ Paired (fun p kv => SqT K H p [kV kv.1, kv.2]) ps kvs ∧
  ∀ p, H p = none → Q (.ref p) (upd H p (.dK (mergeK [] kvs)))
section
variable {X : Cx}
omit [TbC] in
theorem plain_of {pins : List (Addr × Obj)} {σ : L2.St} {H : Hp} {s : Shared} (I : Inv X pins σ H s) {a : Addr} {xs : List V} (h : SqT X.K H a xs) (p : Pl X.K H a) : ∃ its : List Value, Vals xs its ∧ PlainSeq "tuple" s.heap a its.toArray ∧ xs.length ≤ sizeLine := by
  obtain ⟨its, r, ⟨o, e, hc, n, hd⟩, hz⟩ := I.tuple h
  refine ⟨its, r, ⟨o, n, e, hc, ?_, hd⟩, hz⟩
  rcases p with ⟨o', u, e', d⟩ | ⟨o', e', d⟩
  · obtain ⟨z, _⟩ := I.hok a _ e'
    rw [e] at z
    cases z
    exact d
  · have z := I.kIn a o' e'
    rw [e] at z
    cases z
    exact d
omit [TbC] in
theorem call_dictTP (hc : X.calm = true) : CallR X (.type "dict") (rDictP X.K) := by
  intro pins s σ H xs us Q I r h
  obtain ⟨a, ps, kvs, rfl, ha, hk, hp, q⟩ := h
  obtain ⟨u, rfl, rx⟩ := vals1 r
  cases (show u = Value.ref a from rx)
  obtain ⟨its, r', pl, hz⟩ := plain_of I ha hk
  have er := refs_at r'
  obtain ⟨prs, pv, rel, l1, l2, hpv⟩ := pairs_vals I hp
  have cnt : its.length = ps.length := by rw [er, List.length_map]
  have hz' : ps.length ≤ sizeLine := by rw [← List.length_map (f := V.ref)]; exact hz
  refine PySem.call_dict_pairs (knd := mixKind X.prog X.w) (kvs := prs) (PySem.PairArg.tuple a its.toArray (fun j => ps.getD j 0) pv) (I.ok.hd hc) ⟨pl, ⟨by rw [List.size_toArray, cnt, l1], fun j k v e => ?_⟩⟩ ⟨by rw [l1, l2], fun i k v e => ?_⟩ (by rw [l1]; exact hz') fun h' tk hd kp => ?_
  · obtain ⟨⟨b, e1, e2⟩, _⟩ := hpv j k v e
    have eb : ps.getD j 0 = b := by rw [List.getD_eq_getElem?_getD, e1]; rfl
    refine ⟨?_, .inl ?_⟩
    · show its.toArray[j]? = some (Value.ref (ps.getD j 0))
      rw [eb, er]
      simp [e1]
    · show s.heap.IsTuple (ps.getD j 0) #[k, v]
      rw [eb]
      exact e2
  · obtain ⟨_, qk, e3, e4⟩ := hpv i k v e
    exact ⟨qk, e3, e4⟩
  · have hm : (s.heap.objs.size == sysModules) = false := beq_eq_false_iff_ne.mpr (Nat.ne_of_gt I.big)
    have hlen : (mergeK [] kvs).length ≤ sizeLine := by
      refine Nat.le_trans (length_mergeK kvs []) ?_
      rw [List.length_nil, Nat.zero_add, rel.length, l2]
      exact hz'
    exact ⟨.ref s.heap.objs.size, _, I.laid (t' := tk) (fun b o e => kp b o (fun z => nomatch z) e) (Nat.le_refl _) (show ObjOk X.prog X.w _ _ _ (.dK (mergeK [] kvs)) from ⟨hlen, hm, merged [] prs, KV.merge rel .nil, hd⟩), rfl, q _ (I.hok.fresh (Nat.le_refl _))⟩
omit [TbC] in
theorem call_dictS (hc : X.calm = true) : CallR X (.type "dict") (rDictS X.K) := call_dictP hc
def rDictA (K : PySem.W.Frag) : List V → Hp → VK → Prop := fun xs H Q => rDictS K xs H Q ∨ rDictP K xs H Q ∨ ∃ (a : Addr) (kvs : List (Key × V)), xs = [.ref a] ∧ Rd H a (.dK kvs) ∧ ∀ p, H p = none → Q (.ref p) (upd H p (.dK kvs))
omit [TbC] in
theorem call_dictA (hc : X.calm = true) : CallR X (.type "dict") (rDictA X.K) := CallR.or (call_dictS hc) (CallR.or (call_dictTP hc) call_dictD)
omit [TbC] in
theorem pairs_dictable : ∀ {ds : List PyData} {kvs : DKv}, pairsD ds = some kvs → dictable ds = true
  | [], _, _ => rfl
  | d :: ds, _, e => by
    obtain ⟨p, e1, e2⟩ := Option.bind_eq_some_iff.mp e
    obtain ⟨kvs, e3, _⟩ := Option.map_eq_some_iff.mp e2
    have z : pairLike d = true := by
      match d, e1 with
      | .tuple [x, y], _ => rfl
    show (pairLike d && dictable ds) = true
    rw [z, pairs_dictable e3]
    rfl
def dictD1 : List PyData → Option PyData
  | [.list xs] => (pairsD xs).map fun kvs => .dict (mergeD [] kvs)
  | [.tuple xs] => (pairsD xs).map fun kvs => .dict (mergeD [] kvs)
  | [.dict ds] => some (.dict ds)
  | _ => none
omit [TbC] in
theorem dict_made {K : PySem.W.Frag} {O : Addr → Bool} {H : Hp} {xs : List V} {ds : List PyData} {es : DKv} {Q : VK} (r : RpAll K (hid O H) xs ds) (e : dictD1 ds = some (.dict es)) (k : ∀ kvs p, RpKvs K (hid O H) kvs es → H p = none → Q (.ref p) (upd H p (.dK kvs))) : rDictA K xs H Q := by
  match ds, e with
  | [.list zs], e =>
    obtain ⟨kvs, e1, e2⟩ := Option.map_eq_some_iff.mp e
    cases e2
    obtain ⟨v, rfl, r1⟩ := rps1 r
    cases r1 with
    | lst h1 a1 =>
    obtain ⟨ps, kv, rfl, g1, g2⟩ := rps_pairs a1 e1
    exact .inl ⟨_, ps, kv, rfl, .inl (.inl (hid_le _ _ h1)), paired_le hid_le g1, fun p np => k _ p (kvs_merge g2 .nil) np⟩
  | [.tuple zs], e =>
    obtain ⟨kvs, e1, e2⟩ := Option.map_eq_some_iff.mp e
    cases e2
    obtain ⟨v, rfl, r1⟩ := rps1 r
    cases r1 with
    | tup h1 a1 hp =>
    obtain ⟨ps, kv, rfl, g1, g2⟩ := rps_pairs a1 e1
    refine .inr (.inl ⟨_, ps, kv, rfl, same_seqT hid_le h1, ?_, paired_le hid_le g1, fun p np => k _ p (kvs_merge g2 .nil) np⟩)
    exact (hp (pairs_dictable e1)).same hid_le
  | [.dict zs], e =>
    cases e
    obtain ⟨v, rfl, r1⟩ := rps1 r
    cases r1 with
    | dic h1 a1 => exact .inr (.inr ⟨_, _, rfl, .inr ⟨_, hid_le _ _ h1⟩, fun p np => k _ p a1 np⟩)
omit [TbC] in
theorem dictD1_dict {ds : List PyData} {z : PyData} (e : dictD1 ds = some z) : ∃ es, z = .dict es := by
  match ds, e with
  | [.list zs], e =>
    obtain ⟨kvs, e1, e2⟩ := Option.map_eq_some_iff.mp e
    exact ⟨_, e2.symm⟩
  | [.tuple zs], e =>
    obtain ⟨kvs, e1, e2⟩ := Option.map_eq_some_iff.mp e
    exact ⟨_, e2.symm⟩
  | [.dict zs], e => exact ⟨_, (Option.some.inj e).symm⟩
def lockV (Q : VK) : VK := fun v H => ∃ (d : Addr) (u : HO), v = .ref d ∧ H d = some u ∧ Mut (some u) ∧ ∀ od, Q v (upd H d (.frz od u))
omit [TbC] in
theorem CallR.lock {X : Cx} {f : Value} {r : List V → Hp → VK → Prop} (h : CallR X f r) : CallR X f (fun xs H Q => r xs H (lockV Q)) := by
  intro pins s σ H xs us Q I rs q
  refine thn (h pins s σ H xs us (lockV Q) I rs q) fun v s1 ⟨x, H1, I1, rx, d, u, ex, hd, mu, k⟩ => ?_
  obtain ⟨od, I2⟩ := I1.lock hd mu
  exact ⟨x, _, I2, rx, k od⟩
omit [TbC] in
theorem PE.lock {X : Cx} {e : Expr} {t : TE} (h : PE X e t) : PE X e (fun σ H Q => t σ H (lockV Q)) := ⟨fun pins s σ H Q I q => by
  refine thn (h.run pins s σ H (lockV Q) I q) fun v s1 ⟨x, H1, I1, rx, d, u, ex, hd, mu, k⟩ => ?_
  obtain ⟨od, I2⟩ := I1.lock hd mu
  exact ⟨x, _, I2, rx, k od⟩⟩
omit [TbC] in
theorem upd_upd {H : Hp} {p : Addr} {a b : HO} : upd (upd H p a) p b = upd H p b := by
  funext c
  by_cases h : c = p
  · rw [h, upd_same, upd_same]
  · rw [upd_ne h, upd_ne h, upd_ne h]
def rDictL (K : PySem.W.Frag) : List V → Hp → VK → Prop := fun xs H Q => rDictA K xs H (lockV Q)
omit [TbC] in
theorem pu_dict {K : PySem.W.Frag} : PuN K (rDictL K) dictD1 := by
  intro O H xs ds dz Q dm r e k
  obtain ⟨es, rfl⟩ := dictD1_dict e
  refine dict_made r e fun kvs p g np => ⟨p, .dK kvs, rfl, upd_same, trivial, fun od => ?_⟩
  rw [upd_upd]
  have st := same_new (o := .frz od (.dK kvs)) np
  exact k _ _ st (.dic (hid_new dm np) (RpKvs.same (hid_same st) _ _ g))
def sMakeK (i : Nat) (w : AD) : SD := fun ρ n E => w ρ n fun xs n1 => ∃ ds, dictD1 xs = some (.dict ds) ∧ E.nx (ρ.set i (some (.k ds))) n1
theorem qs_makeK {i : Nat} {x : Str} {e : Expr} {es : List Expr} {w : AD} {pos pos' p1 p2 : Pos} (hc : X.calm = true) (hg : Gl X "dict") (hm : X.mg "dict" = none) (hN : X.N.Nodup) (hi : X.N[i]? = some x) (hx : Loc X.env.scope x) (he : PDA X (e :: es) w)
    (hs : swapsWith (.Call (.Name "dict" p1) (e :: es) [] p2) (some (.Name x pos')) pos.line X.env = pure false := by rfl) (h1 : starEach (e :: es) X.env = (false, eval e X.env) :: starEach es X.env := by rfl) (hpl : (backTo p2 (starEach es X.env)).any (·.1) = false := by rfl)
    (hf : X.fn x = true ∨ X.env.scope.names.lookup x = some .local := by first | exact .inl rfl | exact .inr rfl | assumption) : PSD X (.Assign [.Name x pos'] (.Call (.Name "dict" p1) (e :: es) [] p2) pos) (sMakeK i w) :=
  qs_mk (ps_set hN hi hx (pe_callTy (call_dictA hc) hg hm boot_dict he (he := h1) (hpl := hpl)) hs hf) fun {dk OB H0 O H σ ρ n E D} S hw k => rda_W S hw fun vs ds H1 n1 f1 d1 r1 ⟨es, ee, q1⟩ => dict_made r1 ee fun kvs p g np => by
  have S1 := S.step f1 d1
  refine k.nx (add O p) _ _ _ n1 (S1.new np (s := .k es) rfl nt_dK ⟨p, kvs, rfl, add_self, S1.fresh np, S1.dok.new np, upd_same, ?_⟩) ?_ q1
  · rw [hid_add np]
    exact g
  · rw [hid_add np]
    exact S.hid f1
def sPutK (i : Nat) (wk wv : ED) : SD := fun ρ n E => ∃ ds, ρ[i]? = some (some (.k ds)) ∧ wv ρ n fun x n1 => wk ρ n1 fun y n2 => ∃ key, keyOf y = some key ∧ ds.length < lim ∧ E.nx (ρ.set i (some (.k (putD ds key x)))) n2
theorem qs_putK {i : Nat} {o e f : Expr} {wk wv : ED} {pos pos' : Pos} (hu : X.A.units + 64 < cLine) (h0 : PE X o (tVar i)) (hk : PD X f wk) (hv : PD X e wv)
    (hst : PS X (.Assign [.Subscript o f pos'] e pos) (tAsg (tW X.K wv) (gSub (tVar i) (tW X.K wk) rSetD)) := by first | exact ps_asg (by assumption) (pg_sub (by assumption) (by assumption) (set_dict (by omega)))) : PSD X (.Assign [.Subscript o f pos'] e pos) (sPutK i wk wv) := qs_mk hst fun {dk OB H0 O H σ ρ n E D} S hw k => by
  obtain ⟨ds, e1, q⟩ := hw
  obtain ⟨v0, z1, p, kv, rfl, h1, h2, h3, h4, h5⟩ := S.sl _ _ e1
  refine rd_W S q fun v x H1 n1 f1 d1 r1 q1 => ⟨.ref p, z1, rd_W (S.step f1 d1) q1 fun y dy H2 n2 f2 d2 r2 ⟨key, ek, ll, q2⟩ => ?_⟩
  have nA : ¬ dkA dk p := h3.nA
  have h4' := (f1.trans f2) _ _ nA h4
  have S2 := S.step (f1.trans f2) d2
  have s2 := S.hid (f1.trans f2)
  unfold rSetD
  refine ⟨p, _, rfl, .inl ⟨kv, key, h4', keyOf_V r2 ek, by have z := lim_le; rw [kvs_len h5]; omega, rfl⟩, ?_⟩
  refine k.nx O _ _ _ n2 (S2.mut e1 rfl rfl z1 h1 h2 h3 nt_dK (s' := .k (putD ds key x)) ⟨p, _, rfl, h1, h2, h3, upd_same, ?_⟩) ?_ q2
  · rw [hid_upd h1]
    exact kvs_put (Rp.same (hid_fr S.dO f2) _ _ r1) (RpKvs.same s2 _ _ h5)
  · rw [hid_upd h1]
    exact s2
omit [TbC] in
theorem pss_lockS {X : Cx} {sts : List Stmt} {t : TS} (h : PSs X sts t) : PSs X sts (fun D σ H => ∃ (d : Addr) (u : HO), H d = some u ∧ Mut (some u) ∧ ∀ od, t D σ (upd H d (.frz od u))) := ⟨fun pins s σ H D I ⟨d, u, hd, mu, k⟩ => by
  obtain ⟨od, I2⟩ := I.lock hd mu
  exact h.run pins s σ _ D I2 (k od)⟩
omit [TbC] in
theorem hid_frz {O : Addr → Bool} {H : Hp} {p : Addr} {o : HO} (h : O p = true) : Same (My.hid O H) (My.hid (rem O p) (upd H p o)) := fun b u e => by
  have z := hid_out e
  have n : b ≠ p := fun c => by rw [c, h] at z; cases z
  refine hid_at ?_ (by rw [upd_ne n]; exact hid_le _ _ e)
  unfold rem
  rw [z]
  rfl
theorem StR.giveF {K : PySem.W.Frag} {dk : Option DkI} {OB : Addr → Bool} {H0 : Hp} {O : Addr → Bool} {H : Hp} {σ : L2.St} {ρ : DEnv} {n : Nat} (S : StR K dk OB H0 O H σ ρ n) {i : Nat} {p : Addr} {s : Sv} {x : PyData} {o : HO} (hr : ρ[i]? = some (some s)) (ho : s.own = true) (hs : σ[i]? = some (some (.ref p))) (hO : O p = true) (h0 : H0 p = none) (hd : NotDk dk p) (new : Rp K (My.hid (rem O p) (upd H p o)) (.ref p) x) : StR K dk OB H0 (rem O p) (upd H p o) σ (ρ.set i (some (.d x))) n where
  len := by rw [List.length_set, S.len]
  ob := fun b h => rem_ne (S.ob b h) fun e => S.od.ne h (by rw [e]; exact h0)
  od := S.od
  dom := fun b h => by
    have nb : b ≠ p := fun c => by rw [c, rem_self] at h; cases h
    rw [upd_ne nb]
    exact S.dom b (rem_of h)
  dkO := S.dkO
  fr := fun b u h e => by
    rw [upd_ne (fun z => by rw [z, h0] at e; cases e)]
    exact S.fr b u h e
  dok := S.dok.upd hd (S.dom p hO)
  sl := fun j y e => by
    have li : i < ρ.length := (List.getElem?_eq_some_iff.mp hr).1
    by_cases c : i = j
    · subst c
      rw [List.getElem?_set_self li] at e
      cases e
      exact ⟨_, hs, new⟩
    · rw [List.getElem?_set_ne c] at e
      obtain ⟨v, e1, e2⟩ := S.sl j y e
      have sm : Same (My.hid O H) (My.hid (rem O p) (upd H p o)) := hid_frz hO
      refine ⟨v, e1, ?_⟩
      cases y with
      | d x => exact Rp.same sm _ _ e2
      | l xs =>
        obtain ⟨q, vs, rfl, h1, h2, h3, h4, h5⟩ := e2
        have nq : q ≠ p := fun z => S.dis i j p s (.l xs) c hr e ho rfl hs (by rw [← z]; exact e1)
        exact ⟨q, vs, rfl, rem_ne h1 nq, h2, h3, by rw [upd_ne nq]; exact h4, RpAll.same sm _ _ h5⟩
      | k xs =>
        obtain ⟨q, vs, rfl, h1, h2, h3, h4, h5⟩ := e2
        have nq : q ≠ p := fun z => S.dis i j p s (.k xs) c hr e ho rfl hs (by rw [← z]; exact e1)
        exact ⟨q, vs, rfl, rem_ne h1 nq, h2, h3, by rw [upd_ne nq]; exact h4, RpKvs.same sm _ _ h5⟩
      | t xs =>
        obtain ⟨q, vs, rfl, h1, h2, h3, h4, h5⟩ := e2
        have nq : q ≠ p := fun z => S.dis i j p s (.t xs) c hr e ho rfl hs (by rw [← z]; exact e1)
        exact ⟨q, vs, rfl, rem_ne h1 nq, h2, h3, by rw [upd_ne nq]; exact h4, ⟨RpTk.same sm h5.1, h5.2⟩⟩
      | dk => exact e2
  dis := fun a b q u w ne e1 e2 o1 o2 f1 f2 => by
    have li : i < ρ.length := (List.getElem?_eq_some_iff.mp hr).1
    have z : ∀ {j : Nat} {y : Sv}, (ρ.set i (some (.d x)))[j]? = some (some y) → y.own = true → ρ[j]? = some (some y) := fun {j y} e o => by
      by_cases c : i = j
      · subst c
        rw [List.getElem?_set_self li] at e
        cases e
        cases o
      · rw [List.getElem?_set_ne c] at e
        exact e
    exact S.dis a b q u w ne (z e1 o1) (z e2 o2) o1 o2 f1 f2
def sGiveK (i : Nat) (b : SD) : SD := fun ρ n E => ∃ ds, ρ[i]? = some (some (.k ds)) ∧ b (ρ.set i (some (.d (.dict ds)))) n E
theorem qss_giveK {sts : List Stmt} {b : SD} (i : Nat) (h : PSDs X sts b) : PSDs X sts (sGiveK i b) := qss_mk (pss_lockS h) fun {dk OB H0 O H σ ρ n E D} S hw k => by
  obtain ⟨xs, e1, q⟩ := hw
  obtain ⟨v, z1, p, us, rfl, h1, h2, h3, h4, h5⟩ := S.sl _ _ e1
  refine ⟨p, .dK us, h4, trivial, fun od => ?_⟩
  have sm : Same (My.hid O H) (My.hid (rem O p) (upd H p (.frz od (.dK us)))) := hid_frz h1
  exact ⟨_, _, _, rem O p, _, n, E, S.giveF (o := .frz od (.dK us)) e1 rfl z1 h1 h2 h3 (.dic (hid_at rem_self upd_same) (RpKvs.same sm _ _ h5)), q, k.mono sm⟩
def eOIn (neg : Bool) (i : Nat) (wa : ED) : ED := fun ρ n Q => ∃ ds, ρ[i]? = some (some (.k ds)) ∧ wa ρ n fun y n1 => ∃ k, keyOf y = some k ∧ Q (.bool (if neg = true then !(valD ds k).isSome else (valD ds k).isSome)) n1
theorem rd_oin {K : PySem.W.Frag} {neg : Bool} {i : Nat} {wa : ED} : RdE K (tOp (rInK neg) (tW K wa) (tVar i)) (eOIn neg i wa) := fun {dk OB H0 O H σ ρ n Q Qd} S hw k => by
  obtain ⟨ds, e1, q⟩ := hw
  obtain ⟨v0, z1, p, kv, rfl, h1, h2, h3, h4, h5⟩ := S.sl _ _ e1
  refine rd_W S q fun v d H1 n1 f1 d1 r1 ⟨key, ek, q1⟩ => ⟨.ref p, z1, ?_⟩
  have nA : ¬ dkA dk p := h3.nA
  have h4' := f1 _ _ nA h4
  refine ⟨p, valV kv key, rfl, by rw [keyOf_V r1 ek]; exact DGet.k h4', ?_⟩
  have es : (valV kv key).isSome = (valD ds key).isSome := by
    rcases kvs_val key h5 with ⟨z1, z2⟩ | ⟨u, d, e1, e3, r⟩
    · rw [z1, z2]
      rfl
    · rw [e1, e3]
      rfl
  rw [es]
  exact k _ _ H1 n1 f1 d1 (.bl _) q1
theorem rdt_E {K : PySem.W.Frag} {t : TE} {w : ED} (h : RdE K t w) : RdT K (tB t) (bT w) := fun S hw k => h S hw fun v d H1 n1 f1 d1 r1 ⟨b, e, q⟩ => by
  subst e
  cases r1
  exact ⟨b, rfl, k b H1 n1 f1 d1 q⟩
theorem qdt_onotin {i : Nat} {a b : Expr} {wa : ED} {pos : Pos} (hu : X.A.units + 64 < cLine) (ha : PD X a wa) (h0 : PE X b (tVar i)) (hm : behindInMarks .NotIn b = false := by rfl) : PDT X (.Compare a [.NotIn] [b] pos) (bT (eOIn true i wa)) := qdt_mk (t := tB (tOp (rInK true) (tW X.K wa) (tVar i))) (pt_cmp (pc_dnotin (by omega) ha h0) hm) (rdt_E rd_oin)
def eOGet (i : Nat) (we wf : ED) : ED := fun ρ n Q => ∃ ds, ρ[i]? = some (some (.k ds)) ∧ we ρ n fun y n1 => wf ρ n1 fun z n2 => ∃ k, keyOf y = some k ∧ Q ((valD ds k).getD z) n2
theorem rd_oget {K : PySem.W.Frag} {i : Nat} {we wf : ED} : RdE K (tDGet2 (tVar i) (tW K we) (tW K wf)) (eOGet i we wf) := fun {dk OB H0 O H σ ρ n Q Qd} S hw k => by
  obtain ⟨ds, e1, q⟩ := hw
  obtain ⟨v0, z1, p, kv, rfl, h1, h2, h3, h4, h5⟩ := S.sl _ _ e1
  refine ⟨.ref p, z1, p, rfl, .inl ⟨kv, .inl h4⟩, rd_W S q fun y dy H1 n1 f1 d1 r1 q1 => rd_W (S.step f1 d1) q1 fun z dz H2 n2 f2 d2 r2 ⟨key, ek, q2⟩ => ?_⟩
  have nA : ¬ dkA dk p := h3.nA
  have h4' := (f1.trans f2) _ _ nA h4
  refine ⟨valV kv key, by rw [keyOf_V r1 ek]; exact DGet.k h4', ?_⟩
  rcases kvs_val key (RpKvs.same (hid_fr S.dO (f1.trans f2)) _ _ h5) with ⟨e1, e2⟩ | ⟨u, d, e1, e2, r⟩
  · rw [e1]
    rw [e2] at q2
    exact k _ _ H2 n2 (f1.trans f2) d2 r2 q2
  · rw [e1]
    rw [e2] at q2
    exact k _ _ H2 n2 (f1.trans f2) d2 r q2
theorem qd_oget {i : Nat} {o e f : Expr} {we wf : ED} {apos cpos : Pos} (hu : X.A.units + 64 < cLine) (h0 : PE X o (tVar i)) (he : PD X e we) (hf : PD X f wf) (m : M2 X o "get" apos e f cpos := by exact ⟨rfl, rfl, rfl, rfl⟩) : PD X (.Call (.Attribute o "get" apos) [e, f] [] cpos) (eOGet i we wf) :=
  qd_mk (pe_dget2 (by omega) h0 he hf m) rd_oget
def eOLen (i : Nat) : ED := fun ρ n Q => ∃ ds, ρ[i]? = some (some (.k ds)) ∧ Q (.int (ds.length : Int)) n
theorem qd_olen {i : Nat} {e : Expr} {p pos : Pos} (hg : Gl X "len") (hm : X.mg "len" = none) (h0 : PE X e (tVar i)) (h1 : starEach [e] X.env = (false, eval e X.env) :: starEach [] X.env := by rfl) : PD X (.Call (.Name "len" p) [e] [] pos) (eOLen i) :=
  qd_mk (pe_callB call_lenD hg hm PySem.boot_len (pa_cons h0 pa_nil h1) (he := h1)) fun {dk OB H0 O H σ ρ n Q Qd} S hw k => by
  obtain ⟨ds, e1, q⟩ := hw
  obtain ⟨v0, z1, p, kv, rfl, h1, h2, h3, h4, h5⟩ := S.sl _ _ e1
  refine ⟨.ref p, z1, p, kv, rfl, h4, ?_⟩
  rw [kvs_len h5]
  exact k _ _ H n (FrD.refl H) S.dok (.int _) q
end
end My

namespace My
open PySem PySem.Spec PyProof.Rows L2
abbrev EF := DEnv → Option PyData
abbrev AF := DEnv → Option (List PyData)
abbrev TF := DEnv → Option Bool
abbrev OF := DEnv → Option (Option Int)
def IsE (w : ED) (f : EF) : Prop := ∀ (ρ : DEnv) (n : Nat) (Q : PyData → Nat → Prop) (d : PyData), f ρ = some d → Q d n → w ρ n Q
def IsA (w : AD) (f : AF) : Prop := ∀ (ρ : DEnv) (n : Nat) (Q : List PyData → Nat → Prop) (d : List PyData), f ρ = some d → Q d n → w ρ n Q
def IsB (w : TD) (f : TF) : Prop := ∀ (ρ : DEnv) (n : Nat) (Q : Bool → Nat → Prop) (d : Bool), f ρ = some d → Q d n → w ρ n Q
def IsO (w : DEnv → M (Option Int)) (f : OF) : Prop := ∀ (ρ : DEnv) (n : Nat) (Q : Option Int → Nat → Prop) (d : Option Int), f ρ = some d → Q d n → w ρ n Q
theorem bind_is {α β : Type} {x : Option α} {f : α → Option β} {b : β} (h : x.bind f = some b) : ∃ a, x = some a ∧ f a = some b := Option.bind_eq_some_iff.mp h
theorem map_is {α β : Type} {x : Option α} {f : α → β} {b : β} (h : x.map f = some b) : ∃ a, x = some a ∧ f a = b := Option.map_eq_some_iff.mp h
theorem ite_is {α : Type} {c : Prop} [Decidable c] {x : Option α} {b : α} (h : (if c then x else none) = some b) : c ∧ x = some b := by
  by_cases k : c
  · rw [if_pos k] at h
    exact ⟨k, h⟩
  · rw [if_neg k] at h
    cases h
def fC (d : PyData) : EF := fun _ => some d
theorem is_c {d : PyData} : IsE (eC d) (fC d) := fun ρ n Q x e q => by
  cases e
  exact q
def getF (o : Option (Option Sv)) : Option PyData := match o with
  | some (some (.d x)) => some x
  | _ => none
def fV (i : Nat) : EF := fun ρ => getF ρ[i]?
theorem getF_is {o : Option (Option Sv)} {x : PyData} (h : getF o = some x) : o = some (some (.d x)) := by
  match o, h with
  | some (some (.d y)), h =>
    cases h
    rfl
theorem is_v {i : Nat} : IsE (eV i) (fV i) := fun ρ n Q x e q => ⟨x, getF_is e, q⟩
def fN : AF := fun _ => some []
def fCo (f : EF) (g : AF) : AF := fun ρ => (f ρ).bind fun x => (g ρ).map (x :: ·)
theorem is_n : IsA aN fN := fun ρ n Q x e q => by
  cases e
  exact q
theorem is_co {w : ED} {ws : AD} {f : EF} {g : AF} (h : IsE w f) (k : IsA ws g) : IsA (aC w ws) (fCo f g) := fun ρ n Q d e q => by
  obtain ⟨x, e1, e2⟩ := bind_is e
  obtain ⟨xs, e3, rfl⟩ := map_is e2
  exact h ρ n _ x e1 (k ρ n _ xs e3 q)
def fTup (a : AF) : EF := fun ρ => (a ρ).bind fun xs => if xs.length ≤ lim then some (.tuple xs) else none
def fLst (a : AF) : EF := fun ρ => (a ρ).bind fun xs => if xs.length ≤ lim then some (.list xs) else none
theorem is_tup {ws : AD} {g : AF} (k : IsA ws g) : IsE (eTup ws) (fTup g) := fun ρ n Q d e q => by
  obtain ⟨xs, e1, e2⟩ := bind_is e
  obtain ⟨c, e3⟩ := ite_is e2
  cases e3
  exact k ρ n _ xs e1 ⟨c, q⟩
theorem is_lst {ws : AD} {g : AF} (k : IsA ws g) : IsE (eLst ws) (fLst g) := fun ρ n Q d e q => by
  obtain ⟨xs, e1, e2⟩ := bind_is e
  obtain ⟨c, e3⟩ := ite_is e2
  cases e3
  exact k ρ n _ xs e1 ⟨c, q⟩
def fOp (F : PyData → PyData → Option PyData) (a b : EF) : EF := fun ρ => (a ρ).bind fun x => (b ρ).bind fun y => F x y
theorem is_op {F : PyData → PyData → Option PyData} {a b : ED} {f g : EF} (h : IsE a f) (k : IsE b g) : IsE (eOp F a b) (fOp F f g) := fun ρ n Q d e q => by
  obtain ⟨x, e1, e2⟩ := bind_is e
  obtain ⟨y, e3, e4⟩ := bind_is e2
  exact h ρ n _ x e1 (k ρ n _ y e3 ⟨d, e4, q⟩)
def fCall (F : List PyData → Option PyData) (a : AF) : EF := fun ρ => (a ρ).bind F
theorem is_call {F : List PyData → Option PyData} {ws : AD} {g : AF} (k : IsA ws g) : IsE (eCall F ws) (fCall F g) := fun ρ n Q d e q => by
  obtain ⟨x, e1, e2⟩ := bind_is e
  exact k ρ n _ x e1 ⟨d, e2, q⟩
def asB : PyData → Option Bool
  | .bool b => some b
  | _ => none
theorem asB_is {d : PyData} {b : Bool} (h : asB d = some b) : d = .bool b := by
  cases d with
  | bool c => cases h; rfl
  | _ => cases h
def tfE (f : EF) : TF := fun ρ => (f ρ).bind asB
theorem is_tfE {w : ED} {f : EF} (h : IsE w f) : IsB (bT w) (tfE f) := fun ρ n Q b e q => by
  obtain ⟨x, e1, e2⟩ := bind_is e
  exact h ρ n _ x e1 ⟨b, asB_is e2, q⟩
def tfTr (f : EF) : TF := fun ρ => (f ρ).bind truthD
theorem is_tfTr {w : ED} {f : EF} (h : IsE w f) : IsB (bTr w) (tfTr f) := fun ρ n Q b e q => by
  obtain ⟨x, e1, e2⟩ := bind_is e
  exact h ρ n _ x e1 ⟨b, e2, q⟩
def tfYes : TF := fun _ => some true
theorem is_tfYes : IsB bYes tfYes := fun ρ n Q b e q => by
  cases e
  exact q
def tfNot (f : TF) : TF := fun ρ => (f ρ).map (!·)
theorem is_tfNot {w : TD} {f : TF} (h : IsB w f) : IsB (bNot w) (tfNot f) := fun ρ n Q b e q => by
  obtain ⟨x, e1, e2⟩ := map_is e
  subst e2
  exact h ρ n _ x e1 q
def tfAnd (f g : TF) : TF := fun ρ => (f ρ).bind fun b => if b = true then g ρ else some false
def tfOr (f g : TF) : TF := fun ρ => (f ρ).bind fun b => if b = true then some true else g ρ
theorem is_tfAnd {u w : TD} {f g : TF} (h : IsB u f) (k : IsB w g) : IsB (bAnd u w) (tfAnd f g) := fun ρ n Q b e q => by
  obtain ⟨x, e1, e2⟩ := bind_is e
  refine h ρ n _ x e1 ?_
  cases x with
  | true => exact k ρ n _ b e2 q
  | false =>
    cases e2
    exact q
theorem is_tfOr {u w : TD} {f g : TF} (h : IsB u f) (k : IsB w g) : IsB (bOr u w) (tfOr f g) := fun ρ n Q b e q => by
  obtain ⟨x, e1, e2⟩ := bind_is e
  refine h ρ n _ x e1 ?_
  cases x with
  | true =>
    cases e2
    exact q
  | false => exact k ρ n _ b e2 q
def fAnd (f g : EF) : EF := fun ρ => ((f ρ).bind asB).bind fun b => if b = true then g ρ else some (.bool false)
theorem asB2 {o : Option PyData} {b : Bool} (h : o.bind asB = some b) : o = some (.bool b) := by
  obtain ⟨x, e1, e2⟩ := bind_is h
  rw [e1, asB_is e2]
theorem is_and {u w : ED} {f g : EF} (h : IsE u f) (k : IsE w g) : IsE (eAnd u w) (fAnd f g) := fun ρ n Q d e q => by
  obtain ⟨x, e1, e2⟩ := bind_is e
  refine h ρ n _ _ (asB2 e1) ⟨x, rfl, ?_⟩
  cases x with
  | true => exact k ρ n _ d e2 q
  | false =>
    cases e2
    exact q
def fIf (c : TF) (f g : EF) : EF := fun ρ => (c ρ).bind fun b => if b = true then f ρ else g ρ
theorem is_if {c : TD} {u w : ED} {t : TF} {f g : EF} (h0 : IsB c t) (h : IsE u f) (k : IsE w g) : IsE (eIf c u w) (fIf t f g) := fun ρ n Q d e q => by
  obtain ⟨x, e1, e2⟩ := bind_is e
  refine h0 ρ n _ x e1 ?_
  cases x with
  | true => exact h ρ n _ d e2 q
  | false => exact k ρ n _ d e2 q
def ofN : OF := fun _ => some none
def ofS (f : EF) : OF := fun ρ => (f ρ).bind fun x => match x with
  | .int i => some (some i)
  | _ => none
theorem is_ofN : IsO oN ofN := fun ρ n Q d e q => by
  cases e
  exact q
theorem is_ofS {w : ED} {f : EF} (h : IsE w f) : IsO (oS w) (ofS f) := fun ρ n Q d e q => by
  obtain ⟨x, e1, e2⟩ := bind_is e
  cases x with
  | int i =>
    cases e2
    exact h ρ n _ _ e1 ⟨i, rfl, q⟩
  | _ => cases e2
def fSl (F : PyData → Option Int → Option Int → Option PyData) (a : EF) (lo hi : OF) : EF := fun ρ => (a ρ).bind fun x => (lo ρ).bind fun l => (hi ρ).bind fun h => F x l h
theorem is_sl {F : PyData → Option Int → Option Int → Option PyData} {a : ED} {lo hi : DEnv → M (Option Int)} {f : EF} {g k : OF} (h1 : IsE a f) (h2 : IsO lo g) (h3 : IsO hi k) : IsE (eSl F a lo hi) (fSl F f g k) := fun ρ n Q d e q => by
  obtain ⟨x, e1, e⟩ := bind_is e
  obtain ⟨y, e2, e⟩ := bind_is e
  obtain ⟨z, e3, e⟩ := bind_is e
  exact h1 ρ n _ x e1 (h2 ρ n _ y e2 (h3 ρ n _ z e3 ⟨d, e, q⟩))
def fChain (F G : PyData → PyData → Option PyData) (a b c : EF) : EF := fun ρ => (a ρ).bind fun x => (b ρ).bind fun y => ((F x y).bind asB).bind fun k => if k = true then (c ρ).bind fun z => G y z else some (.bool false)
theorem is_chain {F G : PyData → PyData → Option PyData} {a b c : ED} {f g h : EF} (h1 : IsE a f) (h2 : IsE b g) (h3 : IsE c h) : IsE (eChain F G a b c) (fChain F G f g h) := fun ρ n Q d e q => by
  obtain ⟨x, e1, e⟩ := bind_is e
  obtain ⟨y, e2, e⟩ := bind_is e
  obtain ⟨k, e3, e⟩ := bind_is e
  refine h1 ρ n _ x e1 (h2 ρ n _ y e2 ⟨k, asB2 e3, ?_⟩)
  cases k with
  | true =>
    obtain ⟨z, e4, e5⟩ := bind_is e
    exact h3 ρ n _ z e4 ⟨d, e5, q⟩
  | false =>
    cases e
    exact q
def fIsi (c : String → Bool) (f : EF) : EF := fun ρ => (f ρ).bind fun x => if noDict x = true then some (.bool (c (tyS x))) else none
theorem is_isi {c : String → Bool} {w : ED} {f : EF} (h : IsE w f) : IsE (eIsi c w) (fIsi c f) := fun ρ n Q d e q => by
  obtain ⟨x, e1, e2⟩ := bind_is e
  obtain ⟨k, e3⟩ := ite_is e2
  cases e3
  exact h ρ n _ x e1 ⟨k, q⟩
def afV (f : EF) : AF := fun ρ => (f ρ).bind itemsD
theorem is_afV {w : ED} {f : EF} (h : IsE w f) : IsA (iV w) (afV f) := fun ρ n Q d e q => by
  obtain ⟨x, e1, e2⟩ := bind_is e
  exact h ρ n _ x e1 ⟨d, e2, q⟩
def rngF : List PyData → Option (List PyData)
  | [.int m] => if -(2 ^ 62) ≤ m ∧ m < 2 ^ 62 then some (rangeD m) else none
  | _ => none
def afR (f : AF) : AF := fun ρ => (f ρ).bind rngF
theorem is_afR {w : AD} {f : AF} (h : IsA w f) : IsA (iR w) (afR f) := fun ρ n Q d e q => by
  obtain ⟨x, e1, e2⟩ := bind_is e
  match x, e2 with
  | [.int m], e2 =>
    obtain ⟨c, e3⟩ := ite_is e2
    cases e3
    exact h ρ n _ _ e1 ⟨m, rfl, c.1, c.2, q⟩
def zipKF : List PyData → Option (List PyData)
  | [.tuple xs, .tuple ys] => some ((xs.zip ys).map fun p => .tuple [p.1, p.2])
  | _ => none
def afZk (f : AF) : AF := fun ρ => (f ρ).bind zipKF
theorem is_afZk {w : AD} {f : AF} (h : IsA w f) : IsA (iZk w) (afZk f) := fun ρ n Q d e q => by
  obtain ⟨x, e1, e2⟩ := bind_is e
  match x, e2 with
  | [.tuple xs, .tuple ys], e2 =>
    cases e2
    exact h ρ n _ _ e1 ⟨xs, ys, rfl, q⟩
def lcF (st : PyData → Option (Option PyData)) : List PyData → Option (List PyData)
  | [] => some []
  | x :: xs => (st x).bind fun o => (lcF st xs).map fun r => match o with
    | some y => y :: r
    | none => r
def stF (g : GD) (p : TF) (e : EF) (ρ0 : DEnv) : PyData → Option (Option PyData) := fun x => (g x ρ0).bind fun ρ' => (p ρ').bind fun b => if b = true then (e ρ').map some else some none
theorem is_lcD {g : GD} {p : TD} {e : ED} {pf : TF} {ef : EF} (hp : IsB p pf) (he : IsE e ef) {ρ0 : DEnv} {n : Nat} {Q : List PyData → Nat → Prop} : ∀ {xs acc r : List PyData}, lcF (stF g pf ef ρ0) xs = some r → Q (acc ++ r) n → lcD g p e ρ0 xs acc n Q
  | [], acc, r, h, q => by
    cases h
    rw [List.append_nil] at q
    exact q
  | x :: xs, acc, r, h, q => by
    obtain ⟨o, e1, h⟩ := bind_is h
    obtain ⟨r1, e2, e3⟩ := map_is h
    obtain ⟨ρ', e4, e1⟩ := bind_is e1
    obtain ⟨b, e5, e1⟩ := bind_is e1
    refine ⟨ρ', e4, hp ρ' n _ b e5 ?_⟩
    cases b with
    | true =>
      obtain ⟨y, e6, e7⟩ := map_is e1
      subst e7
      have e3' : y :: r1 = r := e3
      refine he ρ' n _ y e6 (is_lcD hp he (acc := acc ++ [y]) e2 ?_)
      rw [List.append_assoc]
      show Q (acc ++ (y :: r1)) n
      rw [e3']
      exact q
    | false =>
      cases e1
      have e3' : r1 = r := e3
      exact is_lcD hp he e2 (by rw [e3']; exact q)
def fLc (it : AF) (g : GD) (p : TF) (e : EF) (own : List Nat) : EF := fun ρ => (it ρ).bind fun xs => if xs.length ≤ lim then (lcF (stF g p e (wipeD ρ own)) xs).map .list else none
theorem is_lc {it : AD} {g : GD} {p : TD} {e : ED} {own : List Nat} {itf : AF} {pf : TF} {ef : EF} (hi : IsA it itf) (hp : IsB p pf) (he : IsE e ef) : IsE (eLc it g p e own) (fLc itf g pf ef own) := fun ρ n Q d h q => by
  obtain ⟨xs, e1, h⟩ := bind_is h
  obtain ⟨c, h⟩ := ite_is h
  obtain ⟨r, e2, rfl⟩ := map_is h
  exact hi ρ n _ xs e1 ⟨c, is_lcD hp he e2 q⟩
def flF (st : PyData → Option (List PyData)) : List PyData → Option (List PyData)
  | [] => some []
  | x :: xs => (st x).bind fun o => (flF st xs).map fun r => o ++ r
def stB (g : GD) (p : TF) (fb : DEnv → Option (List PyData)) (ρ0 : DEnv) : PyData → Option (List PyData) := fun x => (g x ρ0).bind fun ρ' => (p ρ').bind fun b => if b = true then fb ρ' else some []
structure Gath (α : Type) where
  put : α → List PyData → α
  ok : α → List PyData → Prop
  put0 : ∀ a, put a [] = a
  putA : ∀ a xs ys, ok a (xs ++ ys) → put a (xs ++ ys) = put (put a xs) ys
  okA : ∀ a xs ys, ok a (xs ++ ys) → ok a xs ∧ ok (put a xs) ys
def IsBd {α : Type} (G : Gath α) (body : DEnv → α → M α) (fb : DEnv → Option (List PyData)) : Prop := ∀ (ρ : DEnv) (a : α) (n : Nat) (Q : α → Nat → Prop) (ys : List PyData), fb ρ = some ys → G.ok a ys → Q (G.put a ys) n → body ρ a n Q
theorem is_loop {α : Type} {G : Gath α} {g : GD} {p : TD} {pf : TF} {body : DEnv → α → M α} {fb : DEnv → Option (List PyData)} (hp : IsB p pf) (hb : IsBd G body fb) {ρ0 : DEnv} {n : Nat} {Q : α → Nat → Prop} :
    ∀ {xs : List PyData} {a : α} {ys : List PyData}, flF (stB g pf fb ρ0) xs = some ys → G.ok a ys → Q (G.put a ys) n → loopD g p body ρ0 xs a n Q
  | [], a, ys, h, _, q => by
    cases h
    rw [G.put0] at q
    exact q
  | x :: xs, a, ys, h, ok, q => by
    obtain ⟨o, e1, h⟩ := bind_is h
    obtain ⟨r, e2, rfl⟩ := map_is h
    obtain ⟨ρ', e4, e1⟩ := bind_is e1
    obtain ⟨b, e5, e1⟩ := bind_is e1
    obtain ⟨ok1, ok2⟩ := G.okA _ _ _ ok
    rw [G.putA _ _ _ ok] at q
    refine ⟨ρ', e4, hp ρ' n _ b e5 ?_⟩
    cases b with
    | true => exact hb ρ' a n _ o e1 ok1 (is_loop hp hb e2 ok2 q)
    | false =>
      cases e1
      rw [G.put0] at ok2 q
      exact is_loop hp hb e2 ok2 q
def fTwo (it1 : AF) (g1 : GD) (p1 : TF) (fb : DEnv → Option (List PyData)) (vs1 : List Nat) : DEnv → Option (List PyData) := fun ρ => (it1 ρ).bind fun ys => flF (stB g1 p1 fb (wipeD ρ vs1)) ys
theorem is_two {α : Type} {G : Gath α} {it1 : AD} {g1 : GD} {p1 : TD} {itf : AF} {pf : TF} {body : DEnv → α → M α} {fb : DEnv → Option (List PyData)} {vs1 : List Nat} (hi : IsA it1 itf) (hp : IsB p1 pf) (hb : IsBd G body fb) : IsBd G (twoW it1 g1 p1 body vs1) (fTwo itf g1 pf fb vs1) := fun ρ a n Q ys h ok q => by
  obtain ⟨xs, e1, e2⟩ := bind_is h
  exact hi ρ n _ xs e1 (is_loop hp hb e2 ok q)
def fOne (e : EF) : DEnv → Option (List PyData) := fun ρ => (e ρ).map fun y => [y]
def gaL : Gath (List PyData) where
  put := fun a ys => a ++ ys
  ok := fun a ys => a.length + ys.length ≤ lim
  put0 := fun a => List.append_nil a
  putA := fun a xs ys _ => (List.append_assoc a xs ys).symm
  okA := fun a xs ys h => by
    rw [List.length_append] at h
    rw [List.length_append]
    exact ⟨by omega, by omega⟩
theorem is_app {e : ED} {ef : EF} (he : IsE e ef) : IsBd gaL (appW e) (fOne ef) := fun ρ a n Q ys h ok q => by
  obtain ⟨y, e1, rfl⟩ := map_is h
  have ok' : a.length + 1 ≤ lim := ok
  exact he ρ n _ y e1 ⟨ok', q⟩
def fLc2 (it : AF) (g : GD) (p : TF) (fb : DEnv → Option (List PyData)) (own : List Nat) : EF := fun ρ => (it ρ).bind fun xs => (flF (stB g p fb (wipeD ρ own)) xs).bind fun ys => if ys.length ≤ lim then some (.list ys) else none
theorem is_lc2 {it it1 : AD} {g g1 : GD} {p p1 : TD} {e : ED} {own vs1 : List Nat} {itf it1f : AF} {pf p1f : TF} {ef : EF} (hi : IsA it itf) (hp : IsB p pf) (hi1 : IsA it1 it1f) (hp1 : IsB p1 p1f) (he : IsE e ef) : IsE (eLc2 it g p it1 g1 p1 e own vs1) (fLc2 itf g pf (fTwo it1f g1 p1f (fOne ef) vs1) own) := fun ρ n Q d h q => by
  obtain ⟨xs, e1, h⟩ := bind_is h
  obtain ⟨ys, e2, h⟩ := bind_is h
  obtain ⟨c, h⟩ := ite_is h
  cases h
  exact hi ρ n _ xs e1 (is_loop (G := gaL) hp (is_two hi1 hp1 (is_app he)) e2 (by show 0 + _ ≤ _; omega) q)
theorem fold_grow {α : Type} [DecidableEq α] : ∀ (ks acc : List α), acc.length ≤ (ks.foldl addU acc).length
  | [], acc => Nat.le_refl _
  | k :: ks, acc => Nat.le_trans addU_grow (fold_grow ks (addU acc k))
theorem viewAll_app {α : Type} {view : PyData → Option α} : ∀ {xs ys : List PyData} {ks : List α}, viewAll view (xs ++ ys) = some ks → ∃ k1 k2, viewAll view xs = some k1 ∧ viewAll view ys = some k2 ∧ ks = k1 ++ k2
  | [], ys, ks, h => ⟨[], ks, rfl, h, rfl⟩
  | x :: xs, ys, ks, h => by
    obtain ⟨k, e1, h⟩ := bind_is h
    obtain ⟨r, e2, rfl⟩ := map_is h
    obtain ⟨k1, k2, e3, e4, rfl⟩ := viewAll_app (xs := xs) e2
    exact ⟨k :: k1, k2, by show (view x).bind _ = _; rw [e1, e3]; rfl, e4, rfl⟩
def gaS {α : Type} [DecidableEq α] (view : PyData → Option α) : Gath (List α) where
  put := fun a ys => ((viewAll view ys).getD []).foldl addU a
  ok := fun a ys => ∃ ks, viewAll view ys = some ks ∧ (ks.foldl addU a).length < 62
  put0 := fun a => rfl
  putA := fun a xs ys ⟨ks, e, l⟩ => by
    obtain ⟨k1, k2, e1, e2, rfl⟩ := viewAll_app e
    rw [e, e1, e2]
    exact List.foldl_append ..
  okA := fun a xs ys ⟨ks, e, l⟩ => by
    obtain ⟨k1, k2, e1, e2, rfl⟩ := viewAll_app e
    rw [List.foldl_append] at l
    exact ⟨⟨k1, e1, Nat.lt_of_le_of_lt (fold_grow _ _) l⟩, k2, e2, by rw [e1]; exact l⟩
theorem is_put {α : Type} [DecidableEq α] {view : PyData → Option α} {e : ED} {ef : EF} (he : IsE e ef) : IsBd (gaS view) (putW view e) (fOne ef) := fun ρ a n Q ys h ok q => by
  obtain ⟨y, e1, rfl⟩ := map_is h
  obtain ⟨ks, e2, l⟩ := ok
  obtain ⟨k, e3, e4⟩ := bind_is e2
  cases e4
  have q' : Q (((viewAll view [y]).getD []).foldl addU a) n := q
  rw [e2] at q'
  exact he ρ n _ y e1 ⟨k, e3, Nat.lt_of_le_of_lt addU_grow l, q'⟩
def srtF {α : Type} [DecidableEq α] (view : PyData → Option α) (back : α → PyData) (lt : α → α → Bool) (ys : List PyData) : Option PyData := (viewAll view ys).bind fun ks => if (ddU ks).length < 62 then some (.list ((sortU lt (ddU ks)).map back)) else none
def fSort {α : Type} [DecidableEq α] (view : PyData → Option α) (back : α → PyData) (lt : α → α → Bool) (it : AF) (g : GD) (p : TF) (fb : DEnv → Option (List PyData)) (own : List Nat) : EF := fun ρ => (it ρ).bind fun xs => (flF (stB g p fb (wipeD ρ own)) xs).bind (srtF view back lt)
theorem is_sort {α : Type} [DecidableEq α] {view : PyData → Option α} {back : α → PyData} {lt : α → α → Bool} {it : AD} {g : GD} {p : TD} {body : DEnv → List α → M (List α)} {own : List Nat} {itf : AF} {pf : TF} {fb : DEnv → Option (List PyData)} (hi : IsA it itf) (hp : IsB p pf) (hb : IsBd (gaS view) body fb) :
    IsE (eSort back lt it g p body own) (fSort view back lt itf g pf fb own) := fun ρ n Q d h q => by
  obtain ⟨xs, e1, h⟩ := bind_is h
  obtain ⟨ys, e2, h⟩ := bind_is h
  obtain ⟨ks, e3, h⟩ := bind_is h
  obtain ⟨c, h⟩ := ite_is h
  cases h
  refine hi ρ n _ xs e1 (is_loop (G := gaS view) hp hb e2 ⟨ks, e3, c⟩ ?_)
  show Q (.list ((sortU lt (((viewAll view ys).getD []).foldl addU [])).map back)) n
  rw [e3]
  exact q
def setsF {α : Type} [DecidableEq α] (view : PyData → Option α) (back : α → PyData) (lt : α → α → Bool) : PyData → Option PyData
  | .list xs => (viewAll view xs).bind fun ks => if (ddU ks).length < 63 then some (.list ((sortU lt (ddU ks)).map back)) else none
  | .tuple xs => (viewAll view xs).bind fun ks => if (ddU ks).length < 63 then some (.list ((sortU lt (ddU ks)).map back)) else none
  | _ => none
def fSortSet {α : Type} [DecidableEq α] (view : PyData → Option α) (back : α → PyData) (lt : α → α → Bool) (f : EF) : EF := fun ρ => (f ρ).bind (setsF view back lt)
theorem is_sortSet {α : Type} [DecidableEq α] {view : PyData → Option α} {back : α → PyData} {lt : α → α → Bool} {e : ED} {f : EF} (he : IsE e f) : IsE (eSortSet view back lt e) (fSortSet view back lt f) := fun ρ n Q d h q => by
  obtain ⟨x, e1, h⟩ := bind_is h
  match x, h with
  | .list xs, h =>
    obtain ⟨ks, e3, h⟩ := bind_is h
    obtain ⟨c, h⟩ := ite_is h
    cases h
    exact he ρ n _ _ e1 ⟨xs, ks, .inl rfl, e3, c, q⟩
  | .tuple xs, h =>
    obtain ⟨ks, e3, h⟩ := bind_is h
    obtain ⟨c, h⟩ := ite_is h
    cases h
    exact he ρ n _ _ e1 ⟨xs, ks, .inr rfl, e3, c, q⟩
def getKF (ds : DKv) (y z : PyData) : Option PyData := (keyOf y).map fun k => (valD ds k).getD z
def asK : PyData → Option DKv
  | .dict ds => some ds
  | _ => none
theorem asK_is {d : PyData} {ds : DKv} (h : asK d = some ds) : d = .dict ds := by
  cases d with
  | dict c => cases h; rfl
  | _ => cases h
def fGet (o a b : EF) : EF := fun ρ => ((o ρ).bind asK).bind fun ds => (a ρ).bind fun y => (b ρ).bind fun z => getKF ds y z
theorem is_get {o a b : ED} {fo fa fb : EF} (h1 : IsE o fo) (h2 : IsE a fa) (h3 : IsE b fb) : IsE (eGet o a b) (fGet fo fa fb) := fun ρ n Q d e q => by
  obtain ⟨ds, e1, e⟩ := bind_is e
  obtain ⟨x, e0, e1⟩ := bind_is e1
  rw [asK_is e1] at e0
  obtain ⟨y, e2, e⟩ := bind_is e
  obtain ⟨z, e3, e⟩ := bind_is e
  obtain ⟨k, e4, rfl⟩ := map_is e
  exact h1 ρ n _ _ e0 ⟨ds, rfl, h2 ρ n _ y e2 (h3 ρ n _ z e3 ⟨k, e4, q⟩)⟩
def ownK (o : Option (Option Sv)) : Option DKv := match o with
  | some (some (.k ds)) => some ds
  | _ => none
theorem ownK_is {o : Option (Option Sv)} {ds : DKv} (h : ownK o = some ds) : o = some (some (.k ds)) := by
  match o, h with
  | some (some (.k y)), h =>
    cases h
    rfl
def ownL (o : Option (Option Sv)) : Option (List PyData) := match o with
  | some (some (.l ds)) => some ds
  | _ => none
theorem ownL_is {o : Option (Option Sv)} {ds : List PyData} (h : ownL o = some ds) : o = some (some (.l ds)) := by
  match o, h with
  | some (some (.l y)), h =>
    cases h
    rfl
def inKF (neg : Bool) (ds : DKv) (y : PyData) : Option PyData := (keyOf y).map fun k => .bool (if neg = true then !(valD ds k).isSome else (valD ds k).isSome)
def fOIn (neg : Bool) (i : Nat) (a : EF) : EF := fun ρ => (ownK ρ[i]?).bind fun ds => (a ρ).bind fun y => inKF neg ds y
theorem is_oin {neg : Bool} {i : Nat} {a : ED} {f : EF} (h : IsE a f) : IsE (eOIn neg i a) (fOIn neg i f) := fun ρ n Q d e q => by
  obtain ⟨ds, e1, e⟩ := bind_is e
  obtain ⟨y, e2, e⟩ := bind_is e
  obtain ⟨k, e4, rfl⟩ := map_is e
  exact ⟨ds, ownK_is e1, h ρ n _ y e2 ⟨k, e4, q⟩⟩
def fOGet (i : Nat) (a b : EF) : EF := fun ρ => (ownK ρ[i]?).bind fun ds => (a ρ).bind fun y => (b ρ).bind fun z => getKF ds y z
theorem is_oget {i : Nat} {a b : ED} {f g : EF} (h : IsE a f) (k : IsE b g) : IsE (eOGet i a b) (fOGet i f g) := fun ρ n Q d e q => by
  obtain ⟨ds, e1, e⟩ := bind_is e
  obtain ⟨y, e2, e⟩ := bind_is e
  obtain ⟨z, e3, e⟩ := bind_is e
  obtain ⟨kk, e4, rfl⟩ := map_is e
  exact ⟨ds, ownK_is e1, h ρ n _ y e2 (k ρ n _ z e3 ⟨kk, e4, q⟩)⟩
def fOLen (i : Nat) : EF := fun ρ => (ownK ρ[i]?).map fun ds => .int (ds.length : Int)
theorem is_olen {i : Nat} : IsE (eOLen i) (fOLen i) := fun ρ n Q d e q => by
  obtain ⟨ds, e1, rfl⟩ := map_is e
  exact ⟨ds, ownK_is e1, q⟩
instance reprDec (x : PyData) : Decidable (reprOk x) := by unfold reprOk; exact inferInstance
def fRepr (f : EF) : EF := fun ρ => (f ρ).bind fun x => if reprOk x then some (.str x.shown) else none
theorem is_repr {w : ED} {f : EF} (h : IsE w f) : IsE (eRepr w) (fRepr f) := fun ρ n Q d e q => by
  obtain ⟨x, e1, e2⟩ := bind_is e
  obtain ⟨c, e3⟩ := ite_is e2
  cases e3
  exact h ρ n _ x e1 ⟨c, q⟩
inductive Fl where
  | nx (ρ : DEnv) | rt (d : PyData) | bk (ρ : DEnv) | ct (ρ : DEnv)
abbrev SF := DEnv → Option Fl
def Fl.ends (E : EndsD) (n : Nat) : Fl → Prop
  | .nx ρ => E.nx ρ n
  | .rt d => E.rt d n
  | .bk ρ => E.bk ρ n
  | .ct ρ => E.ct ρ n
def IsS (w : SD) (f : SF) : Prop := ∀ (ρ : DEnv) (n : Nat) (E : EndsD) (r : Fl), f ρ = some r → r.ends E n → w ρ n E
def fNil : SF := fun ρ => some (.nx ρ)
theorem is_nil : IsS sNil fNil := fun ρ n E r e q => by
  cases e
  exact q
def fSeq (a b : SF) : SF := fun ρ => (a ρ).bind fun r => match r with
  | .nx ρ' => b ρ'
  | .rt d => some (.rt d)
  | .bk ρ' => some (.bk ρ')
  | .ct ρ' => some (.ct ρ')
theorem is_seq {a b : SD} {f g : SF} (h : IsS a f) (k : IsS b g) : IsS (sSeq a b) (fSeq f g) := fun ρ n E r e q => by
  obtain ⟨x, e1, e2⟩ := bind_is e
  refine h ρ n _ x e1 ?_
  cases x with
  | nx ρ' => exact k ρ' n E r e2 q
  | rt d => cases e2; exact q
  | bk d => cases e2; exact q
  | ct d => cases e2; exact q
def fSet (i : Nat) (e : EF) : SF := fun ρ => (e ρ).map fun x => .nx (ρ.set i (some (.d x)))
theorem is_set {i : Nat} {e : ED} {f : EF} (h : IsE e f) : IsS (sSet i e) (fSet i f) := fun ρ n E r e q => by
  obtain ⟨x, e1, rfl⟩ := map_is e
  exact h ρ n _ x e1 q
def fAsg (e : EF) (g : GD) : SF := fun ρ => (e ρ).bind fun x => (g x ρ).map .nx
theorem is_asg {e : ED} {g : GD} {f : EF} (h : IsE e f) : IsS (sAsg e g) (fAsg f g) := fun ρ n E r e q => by
  obtain ⟨x, e1, e⟩ := bind_is e
  obtain ⟨ρ', e2, rfl⟩ := map_is e
  exact h ρ n _ x e1 ⟨ρ', e2, q⟩
def fRet (e : EF) : SF := fun ρ => (e ρ).map .rt
theorem is_ret {e : ED} {f : EF} (h : IsE e f) : IsS (sRet e) (fRet f) := fun ρ n E r e q => by
  obtain ⟨x, e1, rfl⟩ := map_is e
  exact h ρ n _ x e1 q
def fIfS (c : TF) (a b : SF) : SF := fun ρ => (c ρ).bind fun x => if x = true then a ρ else b ρ
theorem is_ifS {c : TD} {a b : SD} {t : TF} {f g : SF} (h0 : IsB c t) (h : IsS a f) (k : IsS b g) : IsS (sIf c a b) (fIfS t f g) := fun ρ n E r e q => by
  obtain ⟨x, e1, e2⟩ := bind_is e
  refine h0 ρ n _ x e1 ?_
  cases x with
  | true => exact h ρ n E r e2 q
  | false => exact k ρ n E r e2 q
def forF (g : GD) (b : SF) : List PyData → SF
  | [] => fun ρ => some (.nx ρ)
  | x :: xs => fun ρ => (g x ρ).bind fun ρ1 => (b ρ1).bind fun r => match r with
    | .nx ρ2 => forF g b xs ρ2
    | .ct ρ2 => forF g b xs ρ2
    | .bk ρ2 => some (.nx ρ2)
    | .rt d => some (.rt d)
theorem is_for1 {g : GD} {b : SD} {f : SF} (h : IsS b f) : ∀ xs : List PyData, IsS (sFor1 g b xs) (forF g f xs)
  | [] => fun ρ n E r e q => by
    cases e
    exact q
  | x :: xs => fun ρ n E r e q => by
    obtain ⟨ρ1, e1, e⟩ := bind_is e
    obtain ⟨y, e2, e⟩ := bind_is e
    refine ⟨ρ1, e1, h ρ1 n _ y e2 ?_⟩
    cases y with
    | nx ρ2 => exact is_for1 h xs ρ2 n E r e q
    | ct ρ2 => exact is_for1 h xs ρ2 n E r e q
    | bk ρ2 => cases e; exact q
    | rt d => cases e; exact q
def fFor (it : AF) (g : GD) (b : SF) : SF := fun ρ => (it ρ).bind fun xs => forF g b xs ρ
theorem is_for {it : AD} {g : GD} {b : SD} {itf : AF} {f : SF} (hi : IsA it itf) (h : IsS b f) : IsS (sFor it g b) (fFor itf g f) := fun ρ n E r e q => by
  obtain ⟨xs, e1, e2⟩ := bind_is e
  exact hi ρ n _ xs e1 (is_for1 h xs ρ n E r e2 q)
def fNewL (i : Nat) : SF := fun ρ => some (.nx (ρ.set i (some (.l []))))
theorem is_newL {i : Nat} : IsS (sNewL i) (fNewL i) := fun ρ n E r e q => by
  cases e
  exact q
def fApp (i : Nat) (e : EF) : SF := fun ρ => (ownL ρ[i]?).bind fun xs => (e ρ).bind fun x => if xs.length < lim then some (.nx (ρ.set i (some (.l (xs ++ [x]))))) else none
theorem is_apps {i : Nat} {e : ED} {f : EF} (h : IsE e f) : IsS (sApp i e) (fApp i f) := fun ρ n E r e q => by
  obtain ⟨xs, e1, e⟩ := bind_is e
  obtain ⟨x, e2, e⟩ := bind_is e
  obtain ⟨c, e⟩ := ite_is e
  cases e
  exact ⟨xs, ownL_is e1, h ρ n _ x e2 ⟨c, q⟩⟩
def asL : PyData → Option (List PyData)
  | .list ds => some ds
  | _ => none
theorem asL_is {d : PyData} {ds : List PyData} (h : asL d = some ds) : d = .list ds := by
  cases d with
  | list c => cases h; rfl
  | _ => cases h
def fExt (i : Nat) (e : EF) : SF := fun ρ => (ownL ρ[i]?).bind fun xs => ((e ρ).bind asL).bind fun ys => if xs.length + ys.length ≤ lim then some (.nx (ρ.set i (some (.l (xs ++ ys))))) else none
theorem is_ext {i : Nat} {e : ED} {f : EF} (h : IsE e f) : IsS (sExt i e) (fExt i f) := fun ρ n E r e q => by
  obtain ⟨xs, e1, e⟩ := bind_is e
  obtain ⟨ys, e2, e⟩ := bind_is e
  obtain ⟨x, e0, e2⟩ := bind_is e2
  rw [asL_is e2] at e0
  obtain ⟨c, e⟩ := ite_is e
  cases e
  exact ⟨xs, ownL_is e1, h ρ n _ _ e0 ⟨ys, rfl, c, q⟩⟩
def fGive (i : Nat) (b : SF) : SF := fun ρ => (ownL ρ[i]?).bind fun xs => b (ρ.set i (some (.d (.list xs))))
theorem is_give {i : Nat} {b : SD} {f : SF} (h : IsS b f) : IsS (sGive i b) (fGive i f) := fun ρ n E r e q => by
  obtain ⟨xs, e1, e⟩ := bind_is e
  exact ⟨xs, ownL_is e1, h _ n E r e q⟩
def fMakeK (i : Nat) (a : AF) : SF := fun ρ => (a ρ).bind fun xs => ((dictD1 xs).bind asK).map fun ds => .nx (ρ.set i (some (.k ds)))
theorem is_makeK {i : Nat} {w : AD} {a : AF} (h : IsA w a) : IsS (sMakeK i w) (fMakeK i a) := fun ρ n E r e q => by
  obtain ⟨xs, e1, e⟩ := bind_is e
  obtain ⟨ds, e2, rfl⟩ := map_is e
  obtain ⟨x, e3, e4⟩ := bind_is e2
  rw [asK_is e4] at e3
  exact h ρ n _ xs e1 ⟨ds, e3, q⟩
def fPutK (i : Nat) (k v : EF) : SF := fun ρ => (ownK ρ[i]?).bind fun ds => (v ρ).bind fun x => (k ρ).bind fun y => (keyOf y).bind fun key => if ds.length < lim then some (.nx (ρ.set i (some (.k (putD ds key x))))) else none
theorem is_putK {i : Nat} {k v : ED} {f g : EF} (h : IsE k f) (h' : IsE v g) : IsS (sPutK i k v) (fPutK i f g) := fun ρ n E r e q => by
  obtain ⟨ds, e1, e⟩ := bind_is e
  obtain ⟨x, e2, e⟩ := bind_is e
  obtain ⟨y, e3, e⟩ := bind_is e
  obtain ⟨key, e4, e⟩ := bind_is e
  obtain ⟨c, e⟩ := ite_is e
  cases e
  exact ⟨ds, ownK_is e1, h' ρ n _ x e2 (h ρ n _ y e3 ⟨key, e4, c, q⟩)⟩
def fGiveK (i : Nat) (b : SF) : SF := fun ρ => (ownK ρ[i]?).bind fun xs => b (ρ.set i (some (.d (.dict xs))))
theorem is_giveK {i : Nat} {b : SD} {f : SF} (h : IsS b f) : IsS (sGiveK i b) (fGiveK i f) := fun ρ n E r e q => by
  obtain ⟨xs, e1, e⟩ := bind_is e
  exact ⟨xs, ownK_is e1, h _ n E r e q⟩
def outF : Fl → Option PyData
  | .rt d => some d
  | .nx _ => some .none
  | _ => none
def envF (N : Nat) (ds : List PyData) : DEnv := ds.map (fun d => some (.d d)) ++ List.replicate (N - ds.length) none
def fnF (k N : Nat) (S : SF) : List PyData → Option PyData := fun ds => if ds.length = k then (S (envF N ds)).bind outF else none
theorem fn_okF [TbC] {P : Program} {w : World} {K : PySem.W.Frag} {mg : Str → Option Value} {base : Heap} {x qual : Str} {st : Stmt} {f : Addr} {fd : FuncData} {N ps : List Str} {k : Nat} {S : SF} {W : SD} (a b : Nat) (F : Fun K x qual st f fd) (Sc : FnScope N ps (defScope st)) (ha : ps.length = a) (hb : N.length = b)
    (hw : ∀ (cdv : Value) (A : Around) (outer : List Env) (s : Shared) (H : Hp) (E : XK), Room k (A.deeper (envOfC qual (defScope st) s.heap.objs.size f cdv)) → PSDs (cxOf CX0 P w K mg base N qual (defScope st) f cdv A outer s H E).nox (defBody st) W)
    (hp : IsS W S) : FnOk P w K mg base CX0 (k + 1) f fd ps (spP K (fnF a b S)) := fn_ok F Sc hw fun ds d e => by
  obtain ⟨l, e⟩ := ite_is e
  obtain ⟨r, e1, e2⟩ := bind_is e
  refine ⟨by rw [ha]; exact l, ?_⟩
  have e1' : S (startD N ds) = some r := by
    unfold startD
    rw [hb]
    exact e1
  refine hp (startD N ds) 0 (endD d) r e1' ?_
  cases r with
  | nx ρ => cases e2; rfl
  | rt x => cases e2; rfl
  | bk ρ => cases e2
  | ct ρ => cases e2
end My

namespace My
open PySem PySem.Spec PyProof.Rows L2
variable [TbC]
def isC (T S : String) : Bool := decide (S = T) || (decide (T = "int") && decide (S = "bool"))
section
variable {X : Cx}
end
section
variable {X : Cx}
def PuM (K : PySem.W.Frag) (r : V → List V → Hp → VK → Prop) (f : Str → List PyData → Option PyData) : Prop := ∀ {O H z xs ds dz} {Q : VK}, Dom O H → RpAll K (hid O H) xs ds → f z ds = some dz → (∀ v H', Same H H' → Rp K (hid O H') v dz → Q v H') → r (.str z) xs H Q
def eMeth (f : Str → List PyData → Option PyData) (wo : ED) (ws : AD) : ED := fun ρ n Q => wo ρ n fun x n1 => ∃ z, x = .str z ∧ ws ρ n1 fun xs n2 => ∃ d, f z xs = some d ∧ Q d n2
theorem rd_meth {K : PySem.W.Frag} {r : V → List V → Hp → VK → Prop} {f : Str → List PyData → Option PyData} {wo : ED} {ws : AD} (h : PuM K r f) : RdE K (tBM K "str" r (tW K wo) (tWA K ws)) (eMeth f wo ws) := fun S hw k => rd_W S hw fun v d H1 n1 f1 d1 r1 ⟨z, e, q⟩ => by
  subst e
  cases r1
  refine ⟨rfl, rda_W (S.step f1 d1) q fun vs ds H2 n2 f2 d2 r2 ⟨dz, ez, q2⟩ => ?_⟩
  exact h (S.step (f1.trans f2) d2).dom r2 ez fun v' H' s r => k _ _ H' n2 ((f1.trans f2).trans (FrD.of s)) (d2.same s) r q2
def startsD (z : Str) : List PyData → Option PyData
  | [.str b] => some (.bool (Txt.startswith z b))
  | _ => none
omit [TbC] in
theorem pu_starts {K : PySem.W.Frag} : PuM K (fun x xs H Q => ∃ a b, x = .str a ∧ xs = [.str b] ∧ Q (.bl (Txt.startswith a b)) H) startsD := fun {O H z xs ds dz Q} dm r e k => by
  match ds, e with
  | [.str b], e =>
    cases e
    obtain ⟨v, rfl, r1⟩ := rps1 r
    cases r1
    exact ⟨z, b, rfl, rfl, k _ H (Same.refl H) (.bl _)⟩
end
section
variable {K : PySem.W.Frag}
end
def asS : PyData → Option Str
  | .str z => some z
  | _ => none
omit [TbC] in
theorem asS_is {d : PyData} {b : Str} (h : asS d = some b) : d = .str b := by
  cases d with
  | str c => cases h; rfl
  | _ => cases h
def fMeth (f : Str → List PyData → Option PyData) (o : EF) (a : AF) : EF := fun ρ => ((o ρ).bind asS).bind fun z => (a ρ).bind fun xs => f z xs
omit [TbC] in
theorem is_meth {f : Str → List PyData → Option PyData} {wo : ED} {ws : AD} {o : EF} {a : AF} (h : IsE wo o) (k : IsA ws a) : IsE (eMeth f wo ws) (fMeth f o a) := fun ρ n Q d e q => by
  obtain ⟨z, e1, e⟩ := bind_is e
  obtain ⟨x, e0, e1⟩ := bind_is e1
  rw [asS_is e1] at e0
  obtain ⟨xs, e2, e⟩ := bind_is e
  exact h ρ n _ _ e0 ⟨z, rfl, k ρ n _ xs e2 ⟨d, e, q⟩⟩
omit [TbC] in
theorem lt64 {a c : Nat} (h : a + 64 < c) : a + 1 < c := by omega
end My

namespace My
open PySem PySem.Spec PyProof.Rows L2
variable [TbC]
section
variable {X : Cx}
theorem PD.weak {e : Expr} {w w' : ED} (h : PD X e w) (k : ∀ ρ n Q, w' ρ n Q → w ρ n Q) : PD X e w' := qd_mk h fun S hw kk => rd_W S (k _ _ _ hw) kk
def aK (ds : List PyData) : AD := fun _ n Q => Q ds n
theorem qdk_nil : PDA X [] (aK []) := qda_nil
theorem qdk_cons {e : Expr} {es : List Expr} {d : PyData} {ds : List PyData} (h : PD X e (eC d)) (hs : PDA X es (aK ds)) (h1 : starEach (e :: es) X.env = (false, eval e X.env) :: starEach es X.env := by rfl) : PDA X (e :: es) (aK (d :: ds)) := qda_mk (qda_cons h hs h1) fun S hw k => rda_W S (w := aC (eC d) (aK ds)) hw k
theorem qdk_tup {es : List Expr} {ds : List PyData} {x1} {pos : Pos} (h : PDA X es (aK ds)) (l : ds.length ≤ lim := by decide) : PD X (.Tuple es x1 pos) (eC (.tuple ds)) := PD.weak (qd_tup h) fun ρ n Q q => ⟨l, q⟩
end
end My

namespace My
open PySem PySem.Spec PyProof.Rows L2
variable [TbC]
section
variable {K : PySem.W.Frag} {H : Hp}
omit [TbC] in
theorem rp_key : ∀ k : Key, Rp K H (kV k) (kD k)
  | .inl i => .int i
  | .inr x => .str x
omit [TbC] in
theorem kvs_at : ∀ {ds : DKv} {kvs : List (Key × V)} {i : Nat} {k : Key} {v : V}, RpKvs K H kvs ds → kvs[i]? = some (k, v) → ∃ d, ds[i]? = some (kD k, d) ∧ Rp K H v d
  | [], _, i, k, v, h, e => by cases h; simp at e
  | _ :: ds, _, i, k, v, h, e => by
    cases h with
    | cons h1 h2 =>
      cases i with
      | zero =>
        simp at e
        obtain ⟨e1, e2⟩ := e
        subst e1 e2
        exact ⟨_, rfl, h1⟩
      | succ i =>
        obtain ⟨d, e1, e2⟩ := kvs_at (i := i) (k := k) (v := v) h2 (by simpa using e)
        exact ⟨d, by simpa using e1, e2⟩
variable {O : Addr → Bool}
omit [TbC] in
theorem not_dictable_key {k : Key} {d : PyData} {P : Prop} (h : dictable [kD k, d] = true) : P := by
  cases k with
  | inl i => exact absurd h Bool.false_ne_true
  | inr x => exact absurd h Bool.false_ne_true
omit [TbC] in
theorem it_items {a : Addr} {o : Obj} {kvs : List (Key × V)} {ds : DKv} (hd : hid O H a = some (.frz o (.dK kvs))) (h : RpKvs K (hid O H) kvs ds) : ItOk K O H (Iti a o kvs) (ds.map fun p => .tuple [p.1, p.2]) := fun i O' H' s dm => by
  have q : H' a = some (.frz o (.dK kvs)) := hid_le _ _ (s _ _ hd)
  have el : (ds.map fun p => PyData.tuple [p.1, p.2]).length = kvs.length := by rw [List.length_map, kvs_len h]
  refine ⟨fun l => ⟨⟨q, by omega⟩, fun x H'' ⟨T, k, v, ek, ex, nT, eH⟩ => ?_⟩, fun l => ⟨q, by omega⟩⟩
  subst ex eH
  obtain ⟨d, e1, r⟩ := kvs_at h ek
  have st := same_new (o := .tup [kV k, v]) nT
  refine ⟨.tuple [kD k, d], by rw [List.getElem?_map, e1]; rfl, st, .tup (.inl (.inl (hid_new dm nT))) (.cons (rp_key k) (.cons (Rp.same (s.trans (hid_same st)) _ _ r) .nil)) fun c => not_dictable_key c⟩
end
section
variable {X : Cx} {tg : Expr}
def iKi (w : ED) : AD := fun ρ n Q => w ρ n fun x n1 => ∃ ds, x = .dict ds ∧ Q (ds.map fun p => .tuple [p.1, p.2]) n1
theorem qdi_items {elts : List Expr} {kk : Nat} {tpos : Pos} {e : Expr} {w : ED} {apos cpos : Pos} (h : PD X e w) (hbase : attributeBase e "items" X.env (eval e X.env) = eval e X.env := by rfl) (hline : (apos.endLine == cpos.line) = true := by rfl) : PDI X (.Tuple elts kk tpos) (.Call (.Attribute e "items" apos) [] [] cpos) (iKi w) := qdi_mk (pi_items h hbase hline) fun S hw k => rd_W S hw fun v d H1 n1 f1 d1 r1 ⟨ds, e, q⟩ => by
  subst e
  cases r1 with
  | dic hs ha => exact ⟨_, _, _, rfl, hid_le _ _ hs, k _ H1 n1 _ f1 d1 (it_items hs ha) q⟩
theorem qd_dic0 {pos : Pos} : PD X (.Dict [] [] pos) (eC (.dict [])) := qd_mk (PE.lock pe_dnewK) fun {dk OB H0 O H σ ρ n Q Qd} S hw k => fun p np => ⟨p, .dK [], rfl, upd_same, trivial, fun od => by
  rw [upd_upd]
  obtain ⟨a, b, c, e⟩ := new_rp S (o := .frz od (.dK [])) np
  exact k _ _ _ n c e (.dic a .nil) hw⟩
end
def afKi (f : EF) : AF := fun ρ => ((f ρ).bind asK).map fun ds => ds.map fun p => .tuple [p.1, p.2]
omit [TbC] in
theorem is_afKi {w : ED} {f : EF} (h : IsE w f) : IsA (iKi w) (afKi f) := fun ρ n Q d e q => by
  obtain ⟨ds, e1, rfl⟩ := map_is e
  obtain ⟨x, e0, e1⟩ := bind_is e1
  rw [asK_is e1] at e0
  exact h ρ n _ _ e0 ⟨ds, rfl, q⟩
end My

namespace My
open PySem PySem.Spec PyProof.Rows L2
section
open PySem.SeqAt
open PySem.AutoSeq1 (wpAny_loadPart')
open PySem.MeetsSeq PySem.MeetsSeq2 PySem.MeetsSeq3
end
end My

namespace My
open PySem PySem.Spec PyProof.Rows L2
section
variable {X : Cx}
end
end My

namespace My
open PySem PySem.Spec PyProof.Rows L2
variable [TbC]
section
variable {K : PySem.W.Frag} {H : Hp}
end
section
variable {X : Cx}
end
omit [TbC] in
theorem OpR.or {X : Cx} {f : Value → Value → Sem Value} {r r' : R2} (h : OpR X f r) (h' : OpR X f r') : OpR X f (fun x y H Q => r x y H Q ∨ r' x y H Q) := by
  intro pins s σ H x y v u Q I rx ry q
  rcases q with q | q
  · exact h pins s σ H x y v u Q I rx ry q
  · exact h' pins s σ H x y v u Q I rx ry q
section
variable {K : PySem.W.Frag}
end
end My

namespace My
open PySem PySem.Spec PyProof.Rows L2
variable [TbC]
section
variable {K : PySem.W.Frag} {O : Addr → Bool} {H1 : Hp}
end
section
variable {X : Cx}
def sNever : SD := fun _ _ _ => False
theorem qs_never {st : Stmt} : PSD X st sNever := qs_mk ps_never fun _ hw _ => hw.elim
end
def fBad : SF := fun _ => none
omit [TbC] in
theorem is_bad : IsS sNever fBad := fun _ _ _ _ e => by cases e
end My

namespace My
open PySem PySem.Spec PyProof.Rows L2
variable [TbC]
section
variable {X : Cx}
end
section
variable {X : Cx}
end
section
variable {X : Cx}
end
end My

namespace My
open PySem PySem.Spec PyProof.Rows L2
variable [TbC]
theorem StR.take {K : PySem.W.Frag} {dk : Option DkI} {OB : Addr → Bool} {H0 : Hp} {O : Addr → Bool} {H : Hp} {σ : L2.St} {ρ : DEnv} {n : Nat} (S : StR K dk OB H0 O H σ ρ n) {i : Nat} {p : Addr} {s : Sv} (ho : s.own = true) (free : ∀ (j : Nat) (y : Sv), ρ[j]? = some (some y) → y.own = true → σ[j]? ≠ some (some (.ref p))) (new : SlR K dk H0 O H (.ref p) s) : StR K dk OB H0 O H (σ.set i (some (.ref p))) (ρ.set i (some s)) n where
  len := by rw [List.length_set, List.length_set, S.len]
  ob := S.ob
  od := S.od
  dom := S.dom
  dkO := S.dkO
  fr := S.fr
  dok := S.dok
  sl := fun j y e => by
    by_cases c : i = j
    · subst c
      by_cases li : i < ρ.length
      · rw [List.getElem?_set_self li] at e
        cases e
        exact ⟨_, List.getElem?_set_self (by rw [S.len]; exact li), new⟩
      · rw [List.getElem?_eq_none (by rw [List.length_set]; omega)] at e
        cases e
    · rw [List.getElem?_set_ne c] at e ⊢
      exact S.sl j y e
  dis := fun a b q u w ne e1 e2 o1 o2 f1 f2 => by
    have at_ : ∀ {j : Nat} {y : Sv}, i = j → (ρ.set i (some s))[j]? = some (some y) → (σ.set i (some (V.ref p)))[j]? = some (some (.ref q)) → q = p := fun {j y} c e f => by
      subst c
      by_cases li : i < ρ.length
      · rw [List.getElem?_set_self (by rw [S.len]; exact li)] at f
        cases f
        rfl
      · rw [List.getElem?_eq_none (by rw [List.length_set]; omega)] at e
        cases e
    by_cases ca : i = a
    · have hq := at_ ca e1 f1
      have cb : i ≠ b := fun z => ne (ca.symm.trans z)
      rw [List.getElem?_set_ne cb] at e2 f2
      rw [hq] at f2
      exact free b _ e2 o2 f2
    · by_cases cb : i = b
      · have hq := at_ cb e2 f2
        rw [List.getElem?_set_ne ca] at e1 f1
        rw [hq] at f1
        exact free a _ e1 o1 f1
      · rw [List.getElem?_set_ne ca] at e1 f1
        rw [List.getElem?_set_ne cb] at e2 f2
        exact S.dis a b q u w ne e1 e2 o1 o2 f1 f2
end My

namespace My
open PySem PySem.Spec PyProof.Rows L2
variable [TbC]
section
variable {X : Cx}
end
end My

namespace My
open PySem PySem.Spec PyProof.Rows L2
open PySem.SeqAt
open PySem.W (alike AlikeAll dataLt iter_listW iter_tupleW cmpIn_lt cmpIn_gt moved_old readsAll_len argBest_fold minD maxD)
section
variable {prog : Program} {w : World} {A : Around} {E : Value → Shared → Prop} {s : Shared}
theorem min_list_ix {l : Addr} {vs : Array Value} {x : PyData} {xs : List PyData} {as : List Addr} {Q : Value → Shared → Prop} (hh : A.handled = none) (hl : s.heap.IsList l vs) (hr : ReadsAll s.heap vs.toList (x :: xs) as) (ha : AlikeAll (x :: xs)) (hu : A.units + 1 + PyData.depthAll (x :: xs) < cLine)
    (h : ∀ (i : Nat) v h' tk, vs[i]? = some v → (x :: xs)[i]? = some (minD x xs) → (∀ b o, s.heap.get? b = some o → h'.get? b = some o) → Q v { s with heap := h', toks := tk }) :
    wpAny (model prog w) A (call (.builtin "min") [.ref l]) Q E s := by
  have hn : vs.size = xs.length + 1 := readsAll_len hr
  refine call_min_walkH (iter_listW (A := A.in1) hh hl fun s₂ e W st hfp hw hk => ?_)
  refine ⟨_, _, _, _, _, _, _, s.heap, _, rfl, W, st, hfp, by omega, hw, hk, cmpIn_lt (A := A.in1) hr ha (by show A.units + 1 + _ < _; exact hu), fun v s' hP m => ?_⟩
  obtain ⟨h', tk, rfl, hk'⟩ := moved_old e rfl m
  have e1 : vs.size - 1 = xs.length := by omega
  obtain ⟨e3, e2⟩ := argBest_fold dataLt PyData.none x xs xs.length (Nat.le_refl _)
  rw [List.take_length] at e2
  rw [e1] at hP
  refine h _ v h' tk hP ?_ hk'
  unfold minD
  rw [← e2, List.getD_eq_getElem?_getD, List.getElem?_eq_getElem (by rw [List.length_cons]; omega)]
  rfl
theorem min_tuple_ix {l : Addr} {vs : Array Value} {x : PyData} {xs : List PyData} {as : List Addr} {Q : Value → Shared → Prop} (hh : A.handled = none) (hl : s.heap.IsTuple l vs) (hr : ReadsAll s.heap vs.toList (x :: xs) as) (ha : AlikeAll (x :: xs)) (hu : A.units + 1 + PyData.depthAll (x :: xs) < cLine)
    (h : ∀ (i : Nat) v h' tk, vs[i]? = some v → (x :: xs)[i]? = some (minD x xs) → (∀ b o, s.heap.get? b = some o → h'.get? b = some o) → Q v { s with heap := h', toks := tk }) :
    wpAny (model prog w) A (call (.builtin "min") [.ref l]) Q E s := by
  have hn : vs.size = xs.length + 1 := readsAll_len hr
  refine call_min_walkH (iter_tupleW (A := A.in1) hh hl fun s₂ e W st hfp hw hk => ?_)
  refine ⟨_, _, _, _, _, _, _, s.heap, _, rfl, W, st, hfp, by omega, hw, hk, cmpIn_lt (A := A.in1) hr ha (by show A.units + 1 + _ < _; exact hu), fun v s' hP m => ?_⟩
  obtain ⟨h', tk, rfl, hk'⟩ := moved_old e rfl m
  have e1 : vs.size - 1 = xs.length := by omega
  obtain ⟨e3, e2⟩ := argBest_fold dataLt PyData.none x xs xs.length (Nat.le_refl _)
  rw [List.take_length] at e2
  rw [e1] at hP
  refine h _ v h' tk hP ?_ hk'
  unfold minD
  rw [← e2, List.getD_eq_getElem?_getD, List.getElem?_eq_getElem (by rw [List.length_cons]; omega)]
  rfl
theorem max_tuple_ix {l : Addr} {vs : Array Value} {x : PyData} {xs : List PyData} {as : List Addr} {Q : Value → Shared → Prop} (hh : A.handled = none) (hl : s.heap.IsTuple l vs) (hr : ReadsAll s.heap vs.toList (x :: xs) as) (ha : AlikeAll (x :: xs)) (hu : A.units + 1 + PyData.depthAll (x :: xs) < cLine)
    (h : ∀ (i : Nat) v h' tk, vs[i]? = some v → (x :: xs)[i]? = some (maxD x xs) → (∀ b o, s.heap.get? b = some o → h'.get? b = some o) → Q v { s with heap := h', toks := tk }) :
    wpAny (model prog w) A (call (.builtin "max") [.ref l]) Q E s := by
  have hn : vs.size = xs.length + 1 := readsAll_len hr
  refine call_max_walkH (iter_tupleW (A := A.in1) hh hl fun s₂ e W st hfp hw hk => ?_)
  refine ⟨_, _, _, _, _, _, _, s.heap, _, rfl, W, st, hfp, by omega, hw, hk, cmpIn_gt (A := A.in1) hr ha (by show A.units + 1 + _ < _; exact hu), fun v s' hP m => ?_⟩
  obtain ⟨h', tk, rfl, hk'⟩ := moved_old e rfl m
  have e1 : vs.size - 1 = xs.length := by omega
  obtain ⟨e3, e2⟩ := argBest_fold (fun a b => dataLt b a) PyData.none x xs xs.length (Nat.le_refl _)
  rw [List.take_length] at e2
  rw [e1] at hP
  refine h _ v h' tk hP ?_ hk'
  unfold maxD
  rw [← e2, List.getD_eq_getElem?_getD, List.getElem?_eq_getElem (by rw [List.length_cons]; omega)]
  rfl
end
section
variable {X : Cx} {K : PySem.W.Frag}
def rMin (K : PySem.W.Frag) (F : PyData → List PyData → PyData) : List V → Hp → VK → Prop := fun vs H Q => ∃ p ys x xs, vs = [.ref p] ∧ (SqL K H p ys ∨ SqT K H p ys) ∧ DpAll K H ys (x :: xs) ∧ AlikeAll (x :: xs) ∧ PyData.depthAll (x :: xs) ≤ 60 ∧
  ∀ (k : Nat) (y : V), ys[k]? = some y → (x :: xs)[k]? = some (F x xs) → Q y H
def rMax (K : PySem.W.Frag) (F : PyData → List PyData → PyData) : List V → Hp → VK → Prop := fun vs H Q => ∃ p ys x xs, vs = [.ref p] ∧ SqT K H p ys ∧ DpAll K H ys (x :: xs) ∧ AlikeAll (x :: xs) ∧ PyData.depthAll (x :: xs) ≤ 60 ∧
  ∀ (k : Nat) (y : V), ys[k]? = some y → (x :: xs)[k]? = some (F x xs) → Q y H
theorem vals_at {vs : List V} {us : List Value} (r : Vals vs us) : ∀ {k : Nat} {u : Value}, us[k]? = some u → ∃ v, vs[k]? = some v ∧ RelV v u := by
  induction r with
  | nil => exact fun h => by simp at h
  | cons h t ih =>
    intro k u e
    cases k with
    | zero =>
      cases e
      exact ⟨_, rfl, h⟩
    | succ k => exact ih e
theorem cr_minD (hc : X.calm = true) (hu : X.A.units + 64 < cLine) : CallR X (.builtin "min") (rMin X.K minD) := by
  intro pins s σ H xs us Q I r h
  obtain ⟨p, ys, x, rest, rfl, hq, hd, ha, hp, q⟩ := h
  obtain ⟨u, rfl, rx⟩ := vals1 r
  cases rx
  have hh : X.A.handled = none := I.ok.hd hc
  rcases hq with hq | hq
  · obtain ⟨its, r', pl, hz⟩ := I.list hq
    obtain ⟨as, ra⟩ := Dp.readsAll I _ _ _ hd r'
    refine min_list_ix hh pl.isList (by simpa using ra) ha (by omega) fun i v h' tk hv hi hk => ?_
    obtain ⟨y, hy, ry⟩ := vals_at r' (by simpa using hv)
    exact ⟨y, H, I.kept (h' := h') (t' := tk) fun b o e => hk b o e, ry, q i y hy hi⟩
  · obtain ⟨its, r', pl, hz⟩ := I.tuple hq
    obtain ⟨as, ra⟩ := Dp.readsAll I _ _ _ hd r'
    refine min_tuple_ix hh pl (by simpa using ra) ha (by omega) fun i v h' tk hv hi hk => ?_
    obtain ⟨y, hy, ry⟩ := vals_at r' (by simpa using hv)
    exact ⟨y, H, I.kept (h' := h') (t' := tk) fun b o e => hk b o e, ry, q i y hy hi⟩
theorem cr_maxD (hc : X.calm = true) (hu : X.A.units + 64 < cLine) : CallR X (.builtin "max") (rMax X.K maxD) := by
  intro pins s σ H xs us Q I r h
  obtain ⟨p, ys, x, rest, rfl, hq, hd, ha, hp, q⟩ := h
  obtain ⟨u, rfl, rx⟩ := vals1 r
  cases rx
  have hh : X.A.handled = none := I.ok.hd hc
  obtain ⟨its, r', pl, hz⟩ := I.tuple hq
  obtain ⟨as, ra⟩ := Dp.readsAll I _ _ _ hd r'
  refine max_tuple_ix hh pl (by simpa using ra) ha (by omega) fun i v h' tk hv hi hk => ?_
  obtain ⟨y, hy, ry⟩ := vals_at r' (by simpa using hv)
  exact ⟨y, H, I.kept (h' := h') (t' := tk) fun b o e => hk b o e, ry, q i y hy hi⟩
def alikeB (xs : List PyData) : Bool := xs.all (fun x => xs.all fun y => alike x y) && xs.all fun x => match x with
  | .none => false
  | _ => true
theorem alikeB_is {xs : List PyData} (h : alikeB xs = true) : AlikeAll xs := by
  unfold alikeB at h
  rw [Bool.and_eq_true, List.all_eq_true, List.all_eq_true] at h
  exact ⟨fun x hx y hy => List.all_eq_true.mp (h.1 x hx) y hy, fun x hx e => by
    have z := h.2 x hx
    rw [e] at z
    cases z⟩
def minOkD (xs : List PyData) : Bool := flatAll xs && alikeB xs && decide (PyData.depthAll xs ≤ 60)
def minDD : List PyData → Option PyData
  | [.list (x :: xs)] => if minOkD (x :: xs) = true then some (minD x xs) else none
  | [.tuple (x :: xs)] => if minOkD (x :: xs) = true then some (minD x xs) else none
  | _ => none
def maxDD : List PyData → Option PyData
  | [.tuple (x :: xs)] => if minOkD (x :: xs) = true then some (maxD x xs) else none
  | _ => none
theorem minOk_is {xs : List PyData} (h : minOkD xs = true) : flatAll xs = true ∧ AlikeAll xs ∧ PyData.depthAll xs ≤ 60 := by
  unfold minOkD at h
  simp only [Bool.and_eq_true, decide_eq_true_eq] at h
  exact ⟨h.1.1, alikeB_is h.1.2, h.2⟩
theorem pu_min : PuN K (rMin K minD) minDD := by
  intro O H xs ds dz Q dm r e k
  match ds, e with
  | [.list (y :: ys)], e =>
    obtain ⟨c, e⟩ := ite_is e
    cases e
    obtain ⟨c1, c2, c3⟩ := minOk_is c
    obtain ⟨v, rfl, r1⟩ := rps1 r
    cases r1 with
    | lst h1 a1 =>
      have dp := RpAll.dp _ _ c1 (RpAll.same (H := hid O H) (H' := H) hid_le _ _ a1)
      refine ⟨_, _, y, ys, rfl, .inl (.inl (.inl (hid_le _ _ h1))), dp, c2, c3, fun j z hz hj => ?_⟩
      obtain ⟨v', e1, e2⟩ := a1.at hj
      rw [hz] at e1
      cases e1
      exact k _ H (Same.refl H) e2
  | [.tuple (y :: ys)], e =>
    obtain ⟨c, e⟩ := ite_is e
    cases e
    obtain ⟨c1, c2, c3⟩ := minOk_is c
    obtain ⟨v, rfl, r1⟩ := rps1 r
    cases r1 with
    | tup h1 a1 _ =>
      have dp := RpAll.dp _ _ c1 (RpAll.same (H := hid O H) (H' := H) hid_le _ _ a1)
      refine ⟨_, _, y, ys, rfl, .inr (same_seqT hid_le h1), dp, c2, c3, fun j z hz hj => ?_⟩
      obtain ⟨v', e1, e2⟩ := a1.at hj
      rw [hz] at e1
      cases e1
      exact k _ H (Same.refl H) e2
theorem pu_max : PuN K (rMax K maxD) maxDD := by
  intro O H xs ds dz Q dm r e k
  match ds, e with
  | [.tuple (y :: ys)], e =>
    obtain ⟨c, e⟩ := ite_is e
    cases e
    obtain ⟨c1, c2, c3⟩ := minOk_is c
    obtain ⟨v, rfl, r1⟩ := rps1 r
    cases r1 with
    | tup h1 a1 _ =>
      have dp := RpAll.dp _ _ c1 (RpAll.same (H := hid O H) (H' := H) hid_le _ _ a1)
      refine ⟨_, _, y, ys, rfl, same_seqT hid_le h1, dp, c2, c3, fun j z hz hj => ?_⟩
      obtain ⟨v', e1, e2⟩ := a1.at hj
      rw [hz] at e1
      cases e1
      exact k _ H (Same.refl H) e2
end
theorem boot_min : bootBuiltins "min" = some (.builtin "min") := by rfl
theorem boot_max : bootBuiltins "max" = some (.builtin "max") := by rfl
end My

namespace My
open PySem PySem.Spec PyProof.Rows L2
variable [TbC]
def sWhile (c : TD) (b : SD) : SD := fun ρ n E => ∃ I : Nat → DEnv → Nat → Prop, (∃ m, I m ρ n) ∧ ∀ m ρ n, I m ρ n → c ρ n fun t n1 => if t = true then b ρ n1 { E with nx := fun ρ' n' => ∃ m', m' < m ∧ I m' ρ' n', ct := fun ρ' n' => ∃ m', m' < m ∧ I m' ρ' n', bk := E.nx } else E.nx ρ n1
section
variable {X : Cx}
theorem qs_while {c : Expr} {body : List Stmt} {wc : TD} {b : SD} {pos : Pos} (hp : PassesOwn (model X.prog X.w) X.A X.env X.xe) (hc : PDT X c wc) (hb : PSDs X body b) : PSD X (.While c body [] pos) (sWhile wc b) := qs_mk (ps_while hp hc hb) (by
  intro dk OB H0 O H σ ρ n E D S hw k
  obtain ⟨I, ⟨m0, i0⟩, turn⟩ := hw
  refine ⟨fun m σ2 H2 => ∃ O2 ρ2 n2, StR X.K dk OB H0 O2 H2 σ2 ρ2 n2 ∧ Same (hid O H) (hid O2 H2) ∧ I m ρ2 n2, ⟨m0, O, ρ, n, S, Same.refl _, i0⟩, ?_⟩
  rintro m σ2 H2 ⟨O2, ρ2, n2, S2, s2, i2⟩
  refine ⟨dk, OB, H0, O2, ρ2, n2, _, S2, turn m ρ2 n2 i2, fun t H3 n3 f3 d3 q3 => ?_⟩
  have S3 := S2.step f3 d3
  have s3 := s2.trans (S2.hid f3)
  cases t with
  | true =>
    have q3' := (if_pos rfl).mp q3
    refine (if_pos rfl).mpr ⟨fun σ' H' => ∃ m', m' < m ∧ ∃ O' ρ' n', StR X.K dk OB H0 O' H' σ' ρ' n' ∧ Same (hid O H) (hid O' H') ∧ I m' ρ' n', fun σ' H' h => h, ?_⟩
    refine ⟨dk, OB, H0, O2, ρ2, n3, _, S3, q3', fun O' H' σ' ρ' n' S' s' ⟨m', l, i'⟩ => ⟨m', l, O', ρ', n', S', s3.trans s', i'⟩, k.rt, fun O' H' σ' ρ' n' S' s' q => k.nx O' H' σ' ρ' n' S' (s3.trans s') q, fun O' H' σ' ρ' n' S' s' ⟨m', l, i'⟩ => ⟨m', l, O', ρ', n', S', s3.trans s', i'⟩⟩
  | false => exact (if_neg Bool.false_ne_true).mpr (k.nx O2 H3 σ2 ρ2 n3 S3 s3 ((if_neg Bool.false_ne_true).mp q3)))
end
def whileF (c : TF) (b : SF) : Nat → SF
  | 0 => fun _ => none
  | k + 1 => fun ρ => (c ρ).bind fun t => if t = true then (b ρ).bind fun r => match r with
    | .nx ρ' => whileF c b k ρ'
    | .ct ρ' => whileF c b k ρ'
    | .bk ρ' => some (.nx ρ')
    | .rt d => some (.rt d) else some (.nx ρ)
omit [TbC] in
theorem is_while {c : TD} {b : SD} {t : TF} {f : SF} {N : Nat} (hc : IsB c t) (hb : IsS b f) : IsS (sWhile c b) (whileF t f N) := fun ρ n E r e q => by
  refine ⟨fun m ρ' n' => whileF t f m ρ' = some r ∧ n' = n, ⟨N, e, rfl⟩, ?_⟩
  rintro m ρ' n' ⟨e', rfl⟩
  cases m with
  | zero => cases e'
  | succ m =>
    obtain ⟨x, e1, e2⟩ := bind_is e'
    refine hc ρ' n' _ x e1 ?_
    cases x with
    | true =>
      rw [if_pos rfl] at e2
      obtain ⟨y, e3, e4⟩ := bind_is e2
      refine (if_pos rfl).mpr (hb ρ' n' _ y e3 ?_)
      cases y with
      | nx ρ2 => exact ⟨m, Nat.lt_succ_self m, e4, rfl⟩
      | ct ρ2 => exact ⟨m, Nat.lt_succ_self m, e4, rfl⟩
      | bk ρ2 => cases e4; exact q
      | rt d => cases e4; exact q
    | false =>
      rw [if_neg Bool.false_ne_true] at e2
      cases e2
      exact (if_neg Bool.false_ne_true).mpr q
def eFs (a : Str) (w : ED) : ED := fun ρ n Q => a.length ≤ lim ∧ w ρ n fun x n1 => ∃ i : Int, x = .int i ∧ i.natAbs.log2 < 1920 ∧ (a ++ toString i).length ≤ lim ∧ Q (.str (a ++ toString i)) n1
omit [TbC] in
theorem emp_app (a : Str) : Str.empty ++ a = a := by
  obtain ⟨c⟩ := a
  show (⟨#[] ++ c⟩ : Str) = ⟨c⟩
  rw [Array.empty_append]
theorem qd_fs {X : Cx} {a : Str} {e : Expr} {w : ED} {j : Nat} {p1 p2 p3 : Pos} (he : PD X e w) : PD X (.JoinedStr [.Constant (.str a) j p1, .FormattedValue e (-1) none p2] p3) (eFs a w) :=
  qd_mk (pe_joined (.cons pe_str (.cons (pe_fmt he) .nil))) fun {dk OB H0 O H σ ρ n Q Qd} S hw k => by
    obtain ⟨la, hw⟩ := hw
    refine ⟨a, rfl, ?_, rd_W S hw fun v d H1 n1 f1 d1 r1 q => ?_⟩
    · rw [emp_app]
      exact Nat.le_trans la lim_le
    · obtain ⟨i, rfl, c1, c3, q1⟩ := q
      cases r1
      refine .inr ⟨i, rfl, c1, _, rfl, ?_, ?_⟩
      · rw [emp_app]
        exact Nat.le_trans c3 lim_le
      · rw [emp_app]
        exact k _ _ H1 n1 f1 d1 (.str _) q1
def fFs (a : Str) (f : EF) : EF := fun ρ => (f ρ).bind fun x => match x with
  | .int i => if a.length ≤ lim ∧ i.natAbs.log2 < 1920 ∧ (a ++ toString i).length ≤ lim then some (.str (a ++ toString i)) else none
  | _ => none
omit [TbC] in
theorem is_fs {a : Str} {w : ED} {f : EF} (h : IsE w f) : IsE (eFs a w) (fFs a f) := fun ρ n Q d e q => by
  obtain ⟨x, e1, e2⟩ := bind_is e
  match x, e2 with
  | .int i, e2 =>
    obtain ⟨c, e3⟩ := ite_is e2
    cases e3
    exact ⟨c.1, h ρ n _ _ e1 ⟨i, rfl, c.2.1, c.2.2, q⟩⟩
section
variable {X : Cx}
def sAug (i : Nat) (w : ED) : SD := fun ρ n E => ∃ a : Int, ρ[i]? = some (some (.d (.int a))) ∧ w ρ n fun y n1 => ∃ b : Int, y = .int b ∧ E.nx (ρ.set i (some (.d (.int (a + b))))) n1
theorem qs_aug {i : Nat} {x : Str} {e : Expr} {w : ED} {pos pos' : Pos} (hN : X.N.Nodup) (hi : X.N[i]? = some x) (hx : Loc X.env.scope x) (he : PD X e w)
    (hf : X.fn x = true ∨ X.env.scope.names.lookup x = some .local := by first | exact .inl rfl | exact .inr rfl | assumption) : PSD X (.AugAssign (.Name x pos') .Add e pos) (sAug i w) := qs_mk (ps_aug hN hi hx he ip_add hf) fun {dk OB H0 O H σ ρ n E D} S hw k => by
  obtain ⟨a, e1, q⟩ := hw
  obtain ⟨v, z1, z2⟩ := S.sl _ _ e1
  cases z2
  refine ⟨.int a, z1, rd_W S q fun v d H1 n1 f1 d1 r1 ⟨b, eb, q1⟩ => ?_⟩
  subst eb
  cases r1
  exact ⟨a, b, rfl, rfl, k.nx _ _ _ _ _ ((S.step f1 d1).set (.int _)) (S.hid f1) q1⟩
end
def fAug (i : Nat) (e : EF) : SF := fun ρ => (getF ρ[i]?).bind fun a => (e ρ).bind fun b => match a, b with
  | .int x, .int y => some (.nx (ρ.set i (some (.d (.int (x + y))))))
  | _, _ => none
omit [TbC] in
theorem is_aug {i : Nat} {w : ED} {f : EF} (h : IsE w f) : IsS (sAug i w) (fAug i f) := fun ρ n E r e q => by
  obtain ⟨a, e1, e⟩ := bind_is e
  obtain ⟨b, e2, e⟩ := bind_is e
  match a, b, e with
  | .int x, .int y, e =>
    cases e
    exact ⟨x, getF_is e1, h ρ n _ _ e2 ⟨y, rfl, q⟩⟩
end My

namespace My
open PySem PySem.Spec PyProof.Rows L2
variable [TbC]
section
variable {X : Cx} {pins : List (Addr × Obj)} {σ : L2.St} {H : Hp} {s : Shared}
end
def lenKD : List PyData → Option PyData
  | [.dict kvs] => some (.int kvs.length)
  | _ => none
omit [TbC] in
theorem call_lenK {X : Cx} : CallR X (.builtin "len") (fun xs H Q => ∃ a kvs, xs = [V.ref a] ∧ Rd H a (.dK kvs) ∧ Q (.int kvs.length) H) := by
  intro pins s σ H xs us Q I r h
  obtain ⟨a, kvs, rfl, ha, q⟩ := h
  obtain ⟨u, rfl, ru⟩ := vals1 r
  cases ru
  exact d_len I ha fun t s' I' => ⟨.int kvs.length, H, I', ⟨t, rfl⟩, q⟩
omit [TbC] in
theorem rpKvs_len {K : PySem.W.Frag} {H : Hp} : ∀ {kvs : List (Key × V)} {ds : List (PyData × PyData)}, RpKvs K H kvs ds → kvs.length = ds.length
  | _, _, .nil => rfl
  | _, _, .cons _ t => congrArg Nat.succ (rpKvs_len t)
omit [TbC] in
theorem pu_lenK {K : PySem.W.Frag} : PuN K (fun xs H Q => ∃ a kvs, xs = [V.ref a] ∧ Rd H a (.dK kvs) ∧ Q (.int kvs.length) H) lenKD := by
  intro O H xs ds dz Q dm r e k
  match ds, e with
  | [.dict ys], e =>
    cases e
    obtain ⟨v, rfl, r1⟩ := rps1 r
    cases r1 with
    | dic h a =>
      refine ⟨_, _, rfl, .inr ⟨_, hid_le _ _ h⟩, ?_⟩
      rw [rpKvs_len a]
      exact k _ H (Same.refl H) (.int _)
end My

namespace My
open PySem PySem.Spec PyProof.Rows L2
open PySem.W (kla_fn kla_obj)
variable [TbC]
def lenKey : PyData → Option Int
  | .tuple (_ :: .list ys :: _) => if ys.length ≤ lim then some (ys.length : Int) else none
  | _ => none
def lenKeys : List PyData → Option (List Int)
  | [] => some []
  | d :: r => (lenKey d).bind fun k => (lenKeys r).map (k :: ·)
def minLenD : List PyData → Option PyData
  | [.list xs] => if xs = [] then none else (lenKeys xs).bind fun ks => xs[argBest (lamBt ks) (xs.length - 1)]?
  | _ => none
omit [TbC] in
theorem lenKeys_len : ∀ {xs : List PyData} {ks : List Int}, lenKeys xs = some ks → ks.length = xs.length
  | [], _, e => by cases e; rfl
  | d :: r, _, e => by
    obtain ⟨k, h1, h2⟩ := Option.bind_eq_some_iff.mp e
    obtain ⟨ks, h3, rfl⟩ := Option.map_eq_some_iff.mp h2
    rw [List.length_cons, List.length_cons, lenKeys_len h3]
omit [TbC] in
theorem lenKeys_at : ∀ {xs : List PyData} {ks : List Int} {i : Nat} {d : PyData} {z : Int}, lenKeys xs = some ks → xs[i]? = some d → ks[i]? = some z → lenKey d = some z
  | [], _, _, _, _, _, e2, _ => by simp at e2
  | d :: r, _, i, _, _, e, e2, e3 => by
    obtain ⟨k, h1, h2⟩ := Option.bind_eq_some_iff.mp e
    obtain ⟨ks, h3, rfl⟩ := Option.map_eq_some_iff.mp h2
    cases i with
    | zero =>
      cases e2
      cases e3
      exact h1
    | succ i => exact lenKeys_at h3 e2 e3
omit [TbC] in
theorem lenKey_rp {K : PySem.W.Frag} {H : Hp} {v : V} {d : PyData} {z : Int} (r : Rp K H v d) (e : lenKey d = some z) : ∃ a b x us ws, v = .ref a ∧ SqT K H a (x :: V.ref b :: us) ∧ SqL K H b ws ∧ z = (ws.length : Int) ∧ ws.length ≤ lim := by
  match d, e with
  | .tuple (x :: .list ys :: r'), e =>
    obtain ⟨l, e⟩ := ite_some e
    cases r with
    | tup h1 a1 _ =>
    cases a1 with
    | cons b1 b2 =>
    cases b2 with
    | cons c1 c2 =>
    cases c1 with
    | lst g1 g2 =>
    exact ⟨_, _, _, _, _, rfl, h1, .inl (.inl g1), by rw [← e, g2.len], by rw [g2.len]; exact l⟩
omit [TbC] in
theorem lenKeys_ref {K : PySem.W.Frag} {H : Hp} : ∀ {us : List V} {xs : List PyData} {ks : List Int}, RpAll K H us xs → lenKeys xs = some ks → ∃ as : List Addr, us = as.map V.ref
  | _, _, _, .nil, _ => ⟨[], rfl⟩
  | _, _, _, .cons h t, e => by
    obtain ⟨k, h1, h2⟩ := Option.bind_eq_some_iff.mp e
    obtain ⟨ks, h3, rfl⟩ := Option.map_eq_some_iff.mp h2
    obtain ⟨as, ea⟩ := lenKeys_ref t h3
    obtain ⟨a, _, _, _, _, ev, _⟩ := lenKey_rp h h1
    exact ⟨a :: as, by rw [ea, ev, List.map_cons]⟩
structure LamT (X : Cx) (c P : Addr) : Prop where
  tb : LamX.TabB X.base X.mg c P
  code : X.env.code = .ref c
  mem : (P, X.env.qual ++ "<lambda>") ∈ TbC.T
section
variable {X : Cx} {pins : List (Addr × Obj)} {σ : L2.St} {H : Hp} {s : Shared}
theorem lam_new {params : Arguments} {body : Expr} {scope : Scope} {pos : Pos} {c P : Addr} {Q E : Value → Shared → Prop} (I : Inv X pins σ H s) (L : LamT X c P) (t : TbOk H)
    (df : defaultsOf params X.env = ([], [])) (nf : ∀ y ∈ scope.names, y.2 ≠ .free) (cl : cloFrom X.env.cells scope.names [] = [])
    (k : ∀ (f c' : Addr) (pm ctv : Value) (H' : Hp) (s' : Shared), Inv X pins σ H' s' → FrD none H H' → TbOk H' → s'.heap.get? f = some (kla_obj "<lambda>" (X.env.qual ++ "<lambda>") params body scope [] pm c' ctv) → H' f = none → f ∉ frs X.stack →
      H' c' = some (LamX.CodeO c' (X.env.qual ++ "<lambda>")) → Q (.ref f) s') :
    wpAny (model X.prog X.w) X.A (eval (.Lambda params body scope pos) X.env) Q E s := by
  obtain ⟨ps, eP, tr, each⟩ := t _ L.mem
  have fr0 : ∀ y ∈ scope.names, y.2 = .free → ∃ c, X.env.cells.lookup y.1 = some c := fun y hy z => absurd z (nf y hy)
  have ePh : s.heap.get? P = some { cls := .none, data := .fields ps } := I.hok P _ eP
  have young : ∀ f, s.heap.objs.size ≤ f → f ∉ frs X.stack := fun f ge z => (List.mem_cons.mp (I.stkSub f z)).elim
    (fun e => absurd I.lt (by rw [← e]; exact Nat.not_lt.mpr ge)) (I.nofs ge)
  have gl := I.mod.glob.keeps I.bk
  have cd := L.tb.code.keeps I.bk
  have bm := L.tb.bm.keeps I.bk
  refine PySem.W.kla_eval df ?_
  cases hit : codeAmong pos ps.toList with
  | some cv =>
    obtain ⟨c', rfl, isC⟩ := each pos cv hit
    refine PySem.W.kla_makeFunctionHit (closure_ok fr0) I.ok.glob gl
      L.code cd ePh tr hit bm fun ctv g tk old sz => ?_
    rw [cl]
    exact k g.objs.size c' _ ctv H _ (I.kept fun b o e => Heap.get?_push_of_some _ (old b o e)) (FrD.refl H) t (Heap.get?_push_size _ rfl) (I.hok.fresh sz) (young _ sz) isC
  | none =>
    refine PySem.W.kla_makeFunction (closure_ok fr0) I.ok.glob gl
      L.code cd ePh tr hit L.tb.gP bm fun c' ctv g tk old ge lt rec_ tab => ?_
    rw [cl]
    obtain ⟨c2, oc, us, tq, e2, o1, o2, o3⟩ := rec_
    cases e2
    have sz : s.heap.objs.size ≤ g.objs.size := Nat.le_trans ge (Nat.le_of_lt lt)
    have nC : H c' = none := I.hok.fresh ge
    have J := LamX.inv_table (q := X.env.qual ++ "<lambda>") (t' := tk) (more := #[rawInt pos.line, rawInt pos.col, .ref c']) (h' := g.push (kla_obj "<lambda>" (X.env.qual ++ "<lambda>") params body scope [] ((X.mg "__name__").getD .none) c' ctv)) I eP
      (fun b o ne e => Heap.get?_push_of_some _ (old b o ne e)) (Heap.get?_push_of_some _ tab) ge ⟨oc, us, tq, Heap.get?_push_of_some _ o1, o2, o3⟩
    have stay : ∀ b o, b ≠ P → H b = some o → upd (upd H P (.tbl (ps ++ #[rawInt pos.line, rawInt pos.col, .ref c']))) c' (LamX.CodeO c' (X.env.qual ++ "<lambda>")) b = some o := fun b o ne e => by
      rw [upd_ne (ne_of_none e nC), upd_ne ne]
      exact e
    have lst : (ps ++ #[rawInt pos.line, rawInt pos.col, .ref c']).toList = ps.toList ++ [rawInt pos.line, rawInt pos.col, .ref c'] := by simp
    have tb : TbOk (upd (upd H P (.tbl (ps ++ #[rawInt pos.line, rawInt pos.col, .ref c']))) c' (LamX.CodeO c' (X.env.qual ++ "<lambda>"))) := fun y hy => by
      by_cases hb : y.1 = P
      · rw [show y.2 = X.env.qual ++ "<lambda>" from TbC.uq y hy _ L.mem hb, hb]
        refine ⟨_, by rw [upd_ne (ne_of_none eP nC), upd_same], by rw [lst]; exact PySem.TriplesOk_snoc _ _ _ _ tr, fun p' v hv => ?_⟩
        rw [lst] at hv
        rcases LamX.among_app _ tr hv with z | z
        · obtain ⟨c0, e1, e2⟩ := each p' v z
          refine ⟨c0, e1, stay c0 _ (fun w => ?_) e2⟩
          rw [w, eP] at e2
          cases e2
        · exact ⟨c', z, upd_same⟩
      · obtain ⟨qs, a1, a2, a3⟩ := t y hy
        refine ⟨qs, stay _ _ hb a1, a2, fun p' v hv => ?_⟩
        obtain ⟨c0, e1, e2⟩ := a3 p' v hv
        refine ⟨c0, e1, stay c0 _ (fun w => ?_) e2⟩
        rw [w, eP] at e2
        cases e2
    refine k g.objs.size c' _ ctv _ _ J (fun b o n e => stay b o (fun w => n (.inr (w.symm ▸ (⟨_, L.mem⟩ : tA P)))) e) tb (Heap.get?_push_size _ rfl) ?_ (young _ sz) upd_same
    rw [upd_ne (Nat.ne_of_gt lt), upd_ne (Nat.ne_of_gt (Nat.lt_of_lt_of_le (Heap.lt_size ePh) sz))]
    exact I.hok.fresh sz
end
section
variable {X : Cx}
abbrev tKey (K : PySem.W.Frag) : TE := tCB (fun xs H Q => ∃ p ys, xs = [.ref p] ∧ (SqL K H p ys ∨ SqT K H p ys) ∧ Q (.int ys.length) H) (tCons (tOp (rIx K) (tVar 0) (tC (.int 1))) tNil)
omit [TbC] in
theorem tKey_is {K : PySem.W.Frag} {H : Hp} {a b : Addr} {x : V} {us ws : List V} {Q : VK} (h1 : SqT K H a (x :: V.ref b :: us)) (h2 : SqL K H b ws) (q : Q (.int ws.length) H) : tKey K [some (.ref a)] H Q := by
  exact ⟨.ref a, rfl, .inr (.inl ⟨a, _, 1, .ref b, rfl, rfl, h1, (by
    have e : ixN (x :: V.ref b :: us).length 1 = some 1 := by
      unfold ixN
      simp
      omega
    unfold atI
    rw [e]
    rfl), b, ws, rfl, .inl h2, q⟩)⟩
theorem qd_minLen {e : Expr} {ws : AD} {p pos kp lpos : Pos} {params : Arguments} {body : Expr} {scope : Scope} {x : Str} {k : Nat} {c P : Addr} (hg : Gl X "min") (hm : X.mg "min" = none) (hc : X.calm = true) (ha : PDA X [e] ws) (L : LamT X c P) (S : FnScope [x] [x] scope) (hr : Room (k + 2) X.A)
    (df : defaultsOf params X.env = ([], [])) (hb : ∀ (q : Str) (pm cv ctv u : Value), bindArgs (kla_fn "<lambda>" q params body scope [] pm cv ctv) ⟨[u], []⟩ = pure [(x, u)])
    (cl : cloFrom X.env.cells scope.names [] = [])
    (body_ : ∀ (f c' : Addr) (A : Around) (outer : List Env) (s : Shared) (H : Hp) (E : XK), Room k (A.deeper (envOfC (X.env.qual ++ "<lambda>") scope s.heap.objs.size f (.ref c'))) → PE (cxOf CX0 X.prog X.w X.K X.mg X.base [x] (X.env.qual ++ "<lambda>") scope f (.ref c') A outer s H E) body (tKey X.K))
    (he : starEach [e] X.env = (false, eval e X.env) :: starEach [] X.env := by rfl) :
    PD X (.Call (.Name "min" p) [e] [⟨some "key", .Lambda params body scope lpos, kp⟩] pos) (eCall minLenD ws) := by
  refine ⟨fun pins s σ H Q I h => ?_⟩
  obtain ⟨dk, OB, H0, O, ρ, n, Qd, St, hw, kk⟩ := h
  refine wpAny_Call_Name_kw (ld_blt I hg hm boot_min ?_ (by decide) (by decide))
  have run := ha.run pos pins s σ H (fun vs H1 => ∃ n1 ds z, FrD dk H H1 ∧ DkOk dk n1 H1 ∧ RpAll X.K (hid O H1) vs ds ∧ minLenD ds = some z ∧ Qd z n1) I ⟨dk, OB, H0, O, ρ, n, _, St, hw, fun vs ds H1 n1 f1 d1 r1 ⟨z, ez, q⟩ => ⟨n1, ds, z, f1, d1, r1, ez, q⟩⟩
  refine callWith_kw (thn run fun us s1 ⟨vs, H1, I1, rv, n1, ds, z, f1, d1, r1, ez, q⟩ => ?_) (by rw [he]; rfl) (by rw [he]; rfl)
  obtain ⟨xs, rfl⟩ : ∃ xs, ds = [.list xs] := by
    match ds, ez with
    | [.list xs], _ => exact ⟨xs, rfl⟩
  obtain ⟨v, rfl, r2⟩ := rps1 r1
  obtain ⟨u, rfl, ru⟩ := vals1 rv
  have ez' : (if xs = [] then none else (lenKeys xs).bind fun ks => xs[argBest (lamBt ks) (xs.length - 1)]?) = some z := ez
  by_cases nx : xs = []
  · rw [if_pos nx] at ez'
    cases ez'
  rw [if_neg nx] at ez'
  obtain ⟨ks, ek, ez'⟩ := Option.bind_eq_some_iff.mp ez'
  cases r2 with
  | @lst l vs' _ hl al =>
  cases ru
  obtain ⟨as, rfl⟩ := lenKeys_ref al ek
  have len : as.length = xs.length := by rw [← al.len, List.length_map]
  show wpAny _ _ (evalAll [do let v ← eval (.Lambda params body scope lpos) X.env; standAt pos; pure v]) _ _ s1
  refine wpAny_evalAll_cons (wpAny_bind (lam_new I1 L d1.2 df S.nofree cl fun f c' pm ctv H2 s2 I2 f2 t2 hf hfn hfr hco => ?_))
  refine wpAny_bind (wpAny_standAt (wpAny_pure (wpAny_evalAll_nil ?_)))
  have d2 := d1.tab f2 t2
  have S2 := (St.step f1 d1).step f2.up d2
  have sm : Same (hid O H1) (hid O H2) := hid_fr St.dO f2.up
  have al2 := RpAll.same sm _ _ al
  have hl2 : SqL X.K H2 l (as.map V.ref) := .inl (.inl (hid_le _ _ (sm _ _ hl)))
  refine min_lam I2 hc hl2 (fun z => nx (by rw [z] at len; exact List.length_eq_zero_iff.mp len.symm)) ((lenKeys_len ek).trans len.symm) hf hfn hfr hco S (fun u => hb _ _ _ _ u) hr (body_ f c') (fun i a y Q' e1 e2 q' => ?_) fun a ea => ?_
  · have el : (as.map V.ref)[i]? = some (.ref a) := by rw [List.getElem?_map, e1]; rfl
    obtain ⟨d, h1, h2⟩ := al2.get el
    obtain ⟨a', b, x', us', ws', e3, t1, t2', rfl, _⟩ := lenKey_rp h2 (lenKeys_at ek h1 e2)
    cases e3
    exact tKey_is (same_seqT hid_le t1) (t2'.imp (Or.imp (hid_le _ _) fun ⟨o, z⟩ => ⟨o, hid_le _ _ z⟩) id) q'
  · rw [len] at ea
    have el : (as.map V.ref)[argBest (lamBt ks) (xs.length - 1)]? = some (.ref a) := by rw [List.getElem?_map, ea]; rfl
    obtain ⟨d, h1, h2⟩ := al2.get el
    rw [h1] at ez'
    cases ez'
    exact kk _ _ H2 n1 (f1.trans f2.up) d2 h2 q
end
section
variable {P : Program} {w : World} {K : PySem.W.Frag} {mg : Str → Option Value} {base : Heap} {x qual : Str} {st : Stmt} {f : Addr} {fd : FuncData} {N ps : List Str} {k : Nat}
theorem fn_okC {Fd : List PyData → Option PyData} {W : SD} (F : Fun K x qual st f fd) (S : FnScope N ps (defScope st))
    (hw : ∀ (A : Around) (outer : List Env) (s : Shared) (H : Hp) (E : XK), Room k (A.deeper (envOfC qual (defScope st) s.heap.objs.size f fd.code)) → PSDs (cxOf CX0 P w K mg base N qual (defScope st) f fd.code A outer s H E).nox (defBody st) W)
    (hF : ∀ ds d, Fd ds = some d → ds.length = ps.length ∧ W (startD N ds) 0 (endD d)) : FnOk P w K mg base CX0 (k + 1) f fd ps (spP K Fd) := by
  obtain ⟨oc, od, kV, doc, pm, an, cdv, ct, osl, rfl, lk, cd⟩ := F.ex
  refine fn_of lk cd S (fun vs H Q E h => ?_) fun A outer s H vs Q E hr h => ?_
  · obtain ⟨O, ds, d, _, r, e, _⟩ := h
    rw [r.len]
    exact (hF ds d e).1
  · obtain ⟨O, ds, d, dm, r, e, q⟩ := h
    refine ⟨_, (hw A outer s H E hr).nox, none, O, H, O, _, 0, endD d, str_start N dm r, (hF ds d e).2, ?_⟩
    refine ⟨fun O' H' σ' ρ' n' S' s' z => ?_, fun v d' H' n' f1 d1 r1 z => ?_, fun _ _ _ _ _ _ _ z => z.elim, fun _ _ _ _ _ _ _ z => z.elim⟩
    · cases (show d = .none from z)
      exact q .non H' S'.fr S'.dok.2 .non
    · cases (show d' = d from z)
      exact q v H' f1 d1.2 r1
theorem fn_okFc {S : SF} {W : SD} (a b : Nat) (F : Fun K x qual st f fd) (Sc : FnScope N ps (defScope st)) (ha : ps.length = a) (hb : N.length = b)
    (hw : ∀ (A : Around) (outer : List Env) (s : Shared) (H : Hp) (E : XK), Room k (A.deeper (envOfC qual (defScope st) s.heap.objs.size f fd.code)) → PSDs (cxOf CX0 P w K mg base N qual (defScope st) f fd.code A outer s H E).nox (defBody st) W)
    (hp : IsS W S) : FnOk P w K mg base CX0 (k + 1) f fd ps (spP K (fnF a b S)) := fn_okC F Sc hw fun ds d e => by
  obtain ⟨l, e⟩ := ite_is e
  obtain ⟨r, e1, e2⟩ := bind_is e
  refine ⟨by rw [ha]; exact l, ?_⟩
  have e1' : S (startD N ds) = some r := by
    unfold startD
    rw [hb]
    exact e1
  refine hp (startD N ds) 0 (endD d) r e1' ?_
  cases r with
  | nx ρ => cases e2; rfl
  | rt x => cases e2; rfl
  | bk ρ => cases e2
  | ct ρ => cases e2
end
end My

namespace My
open PySem PySem.Spec PyProof.Rows L2
open PySem.W (dataLt iter_listW rcLt_alike)
variable [TbC]
section
variable {X : Cx} {pins : List (Addr × Obj)} {σ : L2.St} {H : Hp} {s : Shared}
end
section
variable {X : Cx}
end
end My

namespace My
open PySem PySem.Spec PyProof.Rows L2
open PySem.W (alike dataLt)
variable [TbC]
structure NE (α : Type) [DecidableEq α] where
  key : α → NestedKey
  un : NestedKey → α
  enc : α → PyData
  view : PyData → Option α
  lt : α → α → Bool
  emp : α → Bool
  un_key : ∀ x, un (key x) = x
  data : ∀ x, (key x).data = enc x
  dep : ∀ x, (key x).depth ≤ 8
  tot : Tot lt
  en : EnN enc lt
  flat : ∀ x, flatD (enc x) = true
  back : ∀ d x, view d = some x → d = enc x
  ref : ∀ {K H v x}, Rp K H v (enc x) → ∃ a, v = .ref a
  more : ∀ x, emp x = false → ∃ k ks, key x = .tup (k :: ks)
section
variable {α : Type} [DecidableEq α]
abbrev AE (α : Type) := Addr × α
def NE.kA (c : NE α) (p : AE α) : AK := (p.1, c.key p.2)
omit [TbC] in
theorem NE.key_inj (c : NE α) {x y : α} (h : c.key x = c.key y) : x = y := by rw [← c.un_key x, h, c.un_key]
omit [TbC] in
theorem NE.mem_kA (c : NE α) {L : List (AE α)} {k : α} : c.key k ∈ (L.map c.kA).map (·.2) ↔ k ∈ L.map (·.2) := by
  constructor
  · intro m
    rw [List.map_map] at m
    obtain ⟨p, hp, e⟩ := List.mem_map.mp m
    exact List.mem_map.mpr ⟨p, hp, c.key_inj e⟩
  · intro m
    obtain ⟨p, hp, e⟩ := List.mem_map.mp m
    rw [List.map_map]
    exact List.mem_map.mpr ⟨p, hp, congrArg c.key e⟩
def NE.bk (c : NE α) (q : AK) : AE α := (q.1, c.un q.2)
omit [TbC] in
theorem NE.bk_kA (c : NE α) (M : List (AE α)) : (M.map c.kA).map c.bk = M := by
  rw [List.map_map]
  refine (List.map_congr_left fun q _ => ?_).trans (List.map_id M)
  show (q.1, c.un (c.key q.2)) = q
  rw [c.un_key]
omit [TbC] in
theorem NE.kA_bk (c : NE α) {M : List AK} (h : ∀ q ∈ M, ∃ r : AE α, q = c.kA r) : (M.map c.bk).map c.kA = M := by
  rw [List.map_map]
  refine (List.map_congr_left fun q hq => ?_).trans (List.map_id M)
  obtain ⟨r, rfl⟩ := h q hq
  show (r.1, c.key (c.un (c.key r.2))) = (r.1, c.key r.2)
  rw [c.un_key]
omit [TbC] in
theorem NE.mem2 (c : NE α) {M : List AK} (h : ∀ q ∈ M, ∃ r : AE α, q = c.kA r) {k : α} : k ∈ (M.map c.bk).map (·.2) ↔ c.key k ∈ M.map (·.2) := by
  rw [← c.mem_kA, c.kA_bk h]
omit [TbC] in
theorem NE.lt_key (c : NE α) (x y : α) : ltKy (c.key x) (c.key y) = c.lt x y := by
  unfold ltKy
  rw [c.data, c.data]
  exact c.en.lt x y
omit [TbC] in
theorem NE.dp (c : NE α) {K : PySem.W.Frag} {O : Addr → Bool} {H : Hp} {v : V} {x : α} (r : Rp K (hid O H) v (c.enc x)) : Dp K H v (c.key x).data := by
  rw [c.data]
  exact Rp.dp _ _ (c.flat x) (Rp.same hid_le _ _ r)
def NE.Acc (c : NE α) (w : World) (K : PySem.W.Frag) (O : Addr → Bool) (D : Addr) (acc : List α) (H : Hp) : Prop :=
  ∃ L : List (AE α), H D = some (SetN w D (L.map c.kA)) ∧ (∀ x, x ∈ L.map (·.2) ↔ x ∈ acc) ∧ L.length ≤ acc.length ∧ ∀ q ∈ L, Rp K (hid O H) (.ref q.1) (c.enc q.2)
omit [TbC] in
theorem NE.put (c : NE α) {P : Program} {w : World} {K : PySem.W.Frag} {O : Addr → Bool} {D : Addr} {acc : List α} {H : Hp} {y : V} {dy : PyData} {k : α} {N : Hp → Prop} (A : c.Acc w K O D acc H) (hO : O D = true) (r : Rp K (hid O H) y dy) (e : c.view dy = some k) (few : acc.length < 3900)
    (n : ∀ o, c.Acc w K O D (addU acc k) (upd H D o) → N (upd H D o)) : AddO K P w D y H N := by
  obtain ⟨L, h, m, l, t⟩ := A
  rw [c.back _ _ e] at r
  obtain ⟨a, rfl⟩ := c.ref r
  refine .inr (.inr (.inr ⟨a, c.key k, L.map c.kA, rfl, c.dp r, c.dep k, h, fun p hp => ?_, by rw [List.length_map]; omega, fun L1 ad => ?_⟩))
  · obtain ⟨q, hq, rfl⟩ := List.mem_map.mp hp
    exact ⟨c.dp (t q hq), c.dep q.2⟩
  · have all : ∀ q ∈ L1, ∃ r : AE α, q = c.kA r := fun q hq => by
      rcases ad.sub hq with e | hq
      · exact ⟨(a, k), e⟩
      · obtain ⟨r, _, e⟩ := List.mem_map.mp hq
        exact ⟨r, e.symm⟩
    refine n _ ⟨L1.map c.bk, by rw [c.kA_bk all]; exact upd_same, fun z => ?_, ?_, fun q hq => ?_⟩
    · rw [c.mem2 all, ad.keys, addU_mem, c.mem_kA, m]
      exact or_congr ⟨c.key_inj, congrArg c.key⟩ Iff.rfl
    · rw [List.length_map]
      by_cases cc : k ∈ acc
      · rw [ad.1 (c.mem_kA.mpr ((m k).mpr cc)), List.length_map]
        exact Nat.le_trans l addU_grow
      · have z := ad.len
        rw [List.length_map] at z
        unfold addU
        rw [if_neg cc, List.length_append]
        show _ ≤ acc.length + 1
        omega
    · rw [hid_upd hO]
      obtain ⟨q1, hq1, rfl⟩ := List.mem_map.mp hq
      rcases ad.sub hq1 with rfl | hq2
      · show Rp K (hid O H) (.ref a) (c.enc (c.un (c.key k)))
        rw [c.un_key]
        exact r
      · obtain ⟨r2, h2, rfl⟩ := List.mem_map.mp hq2
        show Rp K (hid O H) (.ref r2.1) (c.enc (c.un (c.key r2.2)))
        rw [c.un_key]
        exact t r2 h2
def skN (c : NE α) (P : Program) (w : World) (K : PySem.W.Frag) : SB P w K α where
  view := c.view
  Acc := c.Acc w K
  noL := fun ⟨xs, h, _⟩ => ⟨fun us e => (by rw [h] at e; cases e), fun us e => (by rw [h] at e; cases e), fun w L' e => dicN_no (h.symm.trans e) fun g ⟨es, ep, t, R⟩ => (by obtain ⟨o', ho, _, hd'⟩ := R.ob; exact ⟨o', _, _, _, ho, hd'⟩)⟩
  use := fun ⟨xs, h, _⟩ => ⟨_, h, nt_ext fun g o vs hg hd ⟨es, ep, t, R⟩ => by
    obtain ⟨o', ho, _, hd'⟩ := R.ob
    rw [hg] at ho
    cases ho
    rw [hd] at hd'
    cases hd'⟩
  new := fun {O H D} _ => ⟨_, .inr (.inr (.inr rfl)), [], upd_same, fun _ => Iff.rfl, Nat.le_refl _, fun q h => nomatch h⟩
  keep := fun ⟨L, h, m, l, t⟩ e s => ⟨L, e.trans h, m, l, fun q hq => Rp.same s _ _ (t q hq)⟩
  put := fun A hO r e few n => c.put A hO r e (by omega) n
def NE.ok (c : NE α) (acc : List α) : Bool := acc.all (fun x => !c.emp x) || decide (acc.length ≤ 1)
omit [TbC] in
theorem NE.ok_ne (c : NE α) {L : List (AE α)} {acc : List α} (h : c.ok acc = true) (m : ∀ x, x ∈ L.map (·.2) ↔ x ∈ acc) (l : L.length ≤ acc.length) : (∀ q ∈ L.map c.kA, ∃ k ks, q.2 = .tup (k :: ks)) ∨ (L.map c.kA).length ≤ 1 := by
  unfold NE.ok at h
  rcases Bool.or_eq_true_iff.mp h with d | d
  · refine .inl fun q hq => ?_
    obtain ⟨r, hr, rfl⟩ := List.mem_map.mp hq
    have z := List.all_eq_true.mp d _ ((m r.2).mp (List.mem_map.mpr ⟨r, hr, rfl⟩))
    exact c.more _ (by simpa using z)
  · rw [List.length_map]
    exact .inr (Nat.le_trans l (of_decide_eq_true d))
omit [TbC] in
theorem rps_N (c : NE α) {K : PySem.W.Frag} {H : Hp} : ∀ {L : List (AE α)}, (∀ q ∈ L, Rp K H (.ref q.1) (c.enc q.2)) → RpAll K H (L.map fun q => V.ref q.1) ((L.map (·.2)).map c.enc)
  | [], _ => .nil
  | q :: r, h => .cons (h q List.mem_cons_self) (rps_N c fun z m => h z (List.mem_cons_of_mem _ m))
omit [TbC] in
theorem NE.srt (c : NE α) {w : World} {K : PySem.W.Frag} {D : Addr} {H : Hp} {Q : VK} {O : Addr → Bool} {L : List (AE α)} {acc : List α} (h : H D = some (SetN w D (L.map c.kA))) (m : ∀ x, x ∈ L.map (·.2) ↔ x ∈ acc) (nda : acc.Nodup) (t : ∀ q ∈ L, Rp K (hid O H) (.ref q.1) (c.enc q.2))
    (ne : (∀ q ∈ L.map c.kA, ∃ k ks, q.2 = .tup (k :: ks)) ∨ (L.map c.kA).length ≤ 1)
    (q : ∀ (L' : List (AE α)) (p : Addr), L'.Perm L → L'.map (·.2) = sortU c.lt acc → H p = none → Q (.ref p) (upd H p (.lst (L'.map fun q => V.ref q.1)))) : rSortN K w [.ref D] H Q := by
  refine ⟨D, L.map c.kA, rfl, h, fun p hp => ?_, fun p hp p' hp' => ?_, ne, fun L1 p pm nd srt np => ?_⟩
  · obtain ⟨r, hr, rfl⟩ := List.mem_map.mp hp
    exact ⟨c.dp (t r hr), c.dep r.2⟩
  · obtain ⟨r, hr, rfl⟩ := List.mem_map.mp hp
    obtain ⟨r', hr', rfl⟩ := List.mem_map.mp hp'
    show alike (c.key r.2).data (c.key r'.2).data = true
    rw [c.data, c.data]
    exact c.en.al _ _
  · have all : ∀ z ∈ L1, ∃ r : AE α, z = c.kA r := fun z hz => by
      obtain ⟨r, _, e⟩ := List.mem_map.mp (pm.mem_iff.mp hz)
      exact ⟨r, e.symm⟩
    have pm2 : (L1.map c.bk).Perm L := by
      have z := pm.map c.bk
      rw [c.bk_kA] at z
      exact z
    have nd2 : ((L1.map c.bk).map (·.2)).Nodup := by
      refine List.Pairwise.of_map (S := fun x y => x ≠ y) c.key (fun x y h e => h (congrArg c.key e)) ?_
      have e : ((L1.map c.bk).map (·.2)).map c.key = L1.map (·.2) := by
        have z := congrArg (List.map Prod.snd) (c.kA_bk all)
        rw [List.map_map] at z
        rw [List.map_map]
        exact z
      rw [e]
      exact (pm.map (·.2)).nodup_iff.mpr nd
    have sr2 : ((L1.map c.bk).map (·.2)).Pairwise (fun x y => c.lt y x = false) := by
      have z := List.pairwise_map.mp srt
      rw [List.map_map, List.pairwise_map]
      refine (List.Pairwise.and_mem.mp z).imp fun {x y} ⟨hx, hy, h⟩ => ?_
      obtain ⟨rx, rfl⟩ := all x hx
      obtain ⟨ry, rfl⟩ := all y hy
      show c.lt (c.un (c.key ry.2)) (c.un (c.key rx.2)) = false
      rw [c.un_key, c.un_key, ← c.lt_key]
      exact h
    have e2 : (L1.map c.bk).map (·.2) = sortU c.lt acc := sortU_is c.tot nda (asc_of c.tot sr2 nd2) fun x => ((pm2.map (·.2)).mem_iff).trans (m x)
    have z := q (L1.map c.bk) p pm2 e2 np
    rw [List.map_map] at z
    exact z
def putN (view : PyData → Option α) (e : ED) : DEnv → List α → M (List α) := fun ρ acc n Q => e ρ n fun y n1 => ∃ k, view y = some k ∧ acc.length < 3900 ∧ Q (addU acc k) n1
def eSortN (c : NE α) (it : AD) (g : GD) (p : TD) (body : DEnv → List α → M (List α)) (own : List Nat) : ED := fun ρ n Q => it ρ n fun xs n1 => loopD g p body (wipeD ρ own) xs [] n1 fun acc n2 => c.ok acc = true ∧ Q (.list ((sortU c.lt acc).map c.enc)) n2
section
variable {X : Cx}
theorem inN_put {c : NE α} {e : ED} : InW (skN c X.prog X.w X.K) (tiAdd X.K X.prog X.w (tW X.K e)) (putN c.view e) := by
  intro dk OB H0 O H D σ ρ n acc N Qd S hO nd h0 A nda hb q
  refine rd_W S hb fun y dy H1 n1 f1 d1 r1 ⟨k, ek, few, q1⟩ => ?_
  have nA : ¬ dkA dk D := nd.nA
  have s1 := S.hid f1
  have hD : H1 D = H D := by
    cases c : H D with
    | none => exact absurd c (S.dom.ne hO)
    | some o => exact f1 _ _ nA c
  refine c.put ((skN c X.prog X.w X.K).keep A hD s1) hO r1 ek few fun o A' => q (addU acc k) _ n1 ?_ ?_ (d1.upd nd ((S.step f1 d1).dom _ hO)) A' (addU_nd nda) q1
  · rw [hid_upd hO]
    exact s1
  · exact fun b o nb na h => by
      rw [upd_ne nb]
      exact f1 _ _ na h
theorem rd_sortN {c : NE α} {it : AD} {g : GD} {p : TD} {body : DEnv → List α → M (List α)} {vs own : List Nat} {ti : Addr → TIn} (hvs : ∀ i ∈ vs, i ∈ own) (hb : InW (skN c X.prog X.w X.K) ti body) :
    RdE X.K (tCB (rSortN X.K X.w) (tCons (tSet X.prog X.w (tWI X.K it) (tWG X.K vs g) (tWT X.K p) ti own) tNil)) (eSortN c it g p body own) := by
  intro dk OB H0 O H σ ρ n Q Qd S hw k
  refine ⟨dk, OB, H0, O, ρ, n, _, S, hw, fun J H1 n1 xs f1 d1 io hq D nD => ?_⟩
  obtain ⟨o0, hnew, A0⟩ := (skN c X.prog X.w X.K).new (O := O) nD
  have S1 := S.step f1 d1
  have SA := S1.acc (o := o0) nD (by
    obtain ⟨o, e, t⟩ := (skN c X.prog X.w X.K).use A0
    rw [upd_same] at e
    rw [Option.some.inj e]
    exact t)
  have e0 : Same (hid O H1) (hid (add O D) (upd H1 D o0)) := by
    rw [hid_add nD]
    exact Same.refl _
  have io' : ItOk X.K (add O D) (upd H1 D o0) J xs := fun i O' H' s dm => io i O' H' (e0.trans s) dm
  have tu := turns_D (own := own) hvs hb SA add_self (d1.new nD) (S1.fresh nD) A0 List.nodup_nil io' hq (Last := fun H' => (rSortN X.K X.w) [.ref D] H' Q) fun acc' H' n' s' f' d' A' nd' q' => ?_
  · obtain ⟨W, m0, w0, t⟩ := tu
    exact ⟨o0, hnew, W, m0, w0, t⟩
  · obtain ⟨ok, q'⟩ := q'
    obtain ⟨L, h, m, l, t⟩ := A'
    refine c.srt h m nd' t (c.ok_ne ok m l) fun L' q pm e2 nq => ?_
    have f12 : FrD dk H1 H' := fun b o h1 h2 => f' b o (ne_of_none h2 nD) h1 (same_new nD _ _ h2)
    have dm : Dom O H' := (S1.step f12 d').dom
    have r : RpAll X.K (hid (add O D) H') (L'.map fun q => V.ref q.1) ((sortU c.lt acc').map c.enc) := by
      rw [← e2]
      exact rps_N c fun z hz => t z (pm.mem_iff.mp hz)
    have r' : RpAll X.K (hid O H') (L'.map fun q => V.ref q.1) ((sortU c.lt acc').map c.enc) := RpAll.same (hid_sub fun b h => add_of h) _ _ r
    exact k _ _ _ n' ((f1.trans f12).trans (FrD.of (same_new nq))) (d'.same (same_new nq)) (.lst (hid_new dm nq) (RpAll.same (hid_same (same_new nq)) _ _ r')) q'
theorem qd_sort1N (c : NE α) {elt tg iter : Expr} {ifs : List Expr} {scope : Scope} {own : List (Str × Nat)} {p1 pos pos2 : Pos} {it : AD} {g : GD} {p : TD} {e : ED} {vs : List Nat} (hg0 : Gl X "sorted") (hm0 : X.mg "sorted" = none) (hc : X.calm = true) (hN : X.N.Nodup) (hu : X.A.units + 64 < cLine) (hi : PDI X tg iter it) (ok : BlkOk X.N X.env.scope scope own) (hvs : ∀ i ∈ vs, i ∈ own.map (·.2))
    (hg : ∀ (s : Shared) (H : Hp) (C : Addr) (cl : List (Str × Addr)) (fp : List Addr), PDG (X.blk s H scope (compEnvC scope cl C X.env) fp) tg vs g) (ht : ∀ (s : Shared) (H : Hp) (C : Addr) (cl : List (Str × Addr)) (fp : List Addr), PTs (X.blk s H scope (compEnvC scope cl C X.env) fp) ifs (tWT X.K p))
    (he : ∀ (s : Shared) (H : Hp) (C : Addr) (cl : List (Str × Addr)) (fp : List Addr), PD (X.blk s H scope (compEnvC scope cl C X.env) fp) elt e) (hs : ∀ x, foldedSetIterable iter X.env x = pure x := by intro _; rfl)
    (h1 : starEach [.SetComp elt [⟨tg, iter, ifs, 0⟩] scope pos] X.env = (false, eval (.SetComp elt [⟨tg, iter, ifs, 0⟩] scope pos) X.env) :: starEach [] X.env := by rfl) :
    PD X (.Call (.Name "sorted" p1) [.SetComp elt [⟨tg, iter, ifs, 0⟩] scope pos] [] pos2) (eSortN c it g p (putN c.view e) (own.map (·.2))) :=
  qd_mk (pe_callB (cr_sortN hc hu) hg0 hm0 PyProof.Rows.boot_sorted (pa_cons (pe_sq hc hN hu hi ok hg ht he hs) pa_nil h1) (he := h1)) (rd_sortN hvs (inN_put (c := c)))
end
end
section
variable {α : Type} [DecidableEq α]
def gaN (view : PyData → Option α) : Gath (List α) where
  put := fun a ys => ((viewAll view ys).getD []).foldl addU a
  ok := fun a ys => ∃ ks, viewAll view ys = some ks ∧ (ks.foldl addU a).length < 3900
  put0 := fun a => rfl
  putA := fun a xs ys ⟨ks, e, l⟩ => by
    obtain ⟨k1, k2, e1, e2, rfl⟩ := viewAll_app e
    rw [e, e1, e2]
    exact List.foldl_append ..
  okA := fun a xs ys ⟨ks, e, l⟩ => by
    obtain ⟨k1, k2, e1, e2, rfl⟩ := viewAll_app e
    rw [List.foldl_append] at l
    exact ⟨⟨k1, e1, Nat.lt_of_le_of_lt (fold_grow _ _) l⟩, k2, e2, by rw [e1]; exact l⟩
omit [TbC] in
theorem is_putN {view : PyData → Option α} {e : ED} {ef : EF} (he : IsE e ef) : IsBd (gaN view) (putN view e) (fOne ef) := fun ρ a n Q ys h ok q => by
  obtain ⟨y, e1, rfl⟩ := map_is h
  obtain ⟨ks, e2, l⟩ := ok
  obtain ⟨k, e3, e4⟩ := bind_is e2
  cases e4
  have q' : Q (((viewAll view [y]).getD []).foldl addU a) n := q
  rw [e2] at q'
  exact he ρ n _ y e1 ⟨k, e3, Nat.lt_of_le_of_lt addU_grow l, q'⟩
def srtN (c : NE α) (ys : List PyData) : Option PyData := (viewAll c.view ys).bind fun ks => if (ddU ks).length < 3900 ∧ c.ok (ddU ks) = true then some (.list ((sortU c.lt (ddU ks)).map c.enc)) else none
def fSortN (c : NE α) (it : AF) (g : GD) (p : TF) (fb : DEnv → Option (List PyData)) (own : List Nat) : EF := fun ρ => (it ρ).bind fun xs => (flF (stB g p fb (wipeD ρ own)) xs).bind (srtN c)
omit [TbC] in
theorem is_sortN {c : NE α} {it : AD} {g : GD} {p : TD} {body : DEnv → List α → M (List α)} {own : List Nat} {itf : AF} {pf : TF} {fb : DEnv → Option (List PyData)} (hi : IsA it itf) (hp : IsB p pf) (hb : IsBd (gaN c.view) body fb) :
    IsE (eSortN c it g p body own) (fSortN c itf g pf fb own) := fun ρ n Q d h q => by
  obtain ⟨xs, e1, h⟩ := bind_is h
  obtain ⟨ys, e2, h⟩ := bind_is h
  obtain ⟨ks, e3, h⟩ := bind_is h
  obtain ⟨cc, h⟩ := ite_is h
  cases h
  refine hi ρ n _ xs e1 (is_loop (G := gaN c.view) hp hb e2 ⟨ks, e3, cc.1⟩ ?_)
  show c.ok (((viewAll c.view ys).getD []).foldl addU []) = true ∧ Q (.list ((sortU c.lt (((viewAll c.view ys).getD []).foldl addU [])).map c.enc)) n
  rw [e3]
  exact ⟨cc.2, q⟩
end
def kR (r : List Str) : NestedKey := .tup (r.map .text)
def kN (x : List (List Str)) : NestedKey := .tup (x.map kR)
def bN (x : List (List Str)) : PyData := .tuple (x.map bT')
def unT : NestedKey → Str
  | .text x => x
  | _ => ""
def unR : NestedKey → List Str
  | .tup ks => ks.map unT
  | _ => []
def unN : NestedKey → List (List Str)
  | .tup ks => ks.map unR
  | _ => []
omit [TbC] in
theorem un_kR (r : List Str) : unR (kR r) = r := by
  show (r.map NestedKey.text).map unT = r
  rw [List.map_map]
  exact (List.map_congr_left fun x _ => rfl).trans (List.map_id r)
omit [TbC] in
theorem un_kN (x : List (List Str)) : unN (kN x) = x := by
  show (x.map kR).map unR = x
  rw [List.map_map]
  exact (List.map_congr_left fun r _ => un_kR r).trans (List.map_id x)
omit [TbC] in
theorem data_strs : ∀ r : List Str, NestedKey.datas (r.map .text) = r.map PyData.str
  | [] => rfl
  | x :: r => by
    simp only [List.map_cons, NestedKey.datas, NestedKey.data, data_strs r]
omit [TbC] in
theorem data_R (r : List Str) : (kR r).data = bT' r := by
  unfold kR bT'
  rw [NestedKey.data, data_strs]
omit [TbC] in
theorem data_rows : ∀ x : List (List Str), NestedKey.datas (x.map kR) = x.map bT'
  | [] => rfl
  | r :: x => by
    simp only [List.map_cons, NestedKey.datas, data_R, data_rows x]
omit [TbC] in
theorem data_N (x : List (List Str)) : (kN x).data = bN x := by
  unfold kN bN
  rw [NestedKey.data, data_rows]
omit [TbC] in
theorem dep_strs : ∀ r : List Str, NestedKey.depthAll (r.map .text) = 0
  | [] => rfl
  | x :: r => by
    rw [List.map_cons, NestedKey.depthAll, dep_strs r]
    rfl
omit [TbC] in
theorem dep_R (r : List Str) : (kR r).depth = 1 := by
  rw [kR, NestedKey.depth, dep_strs]
omit [TbC] in
theorem dep_rows : ∀ x : List (List Str), NestedKey.depthAll (x.map kR) ≤ 1
  | [] => Nat.zero_le _
  | r :: x => by
    rw [List.map_cons, NestedKey.depthAll, dep_R]
    exact Nat.max_le.mpr ⟨Nat.le_refl _, dep_rows x⟩
def rowsD : List PyData → Option (List (List Str))
  | [] => some []
  | .tuple ys :: r => (strsD ys).bind fun k => (rowsD r).map (k :: ·)
  | _ => none
def vN : PyData → Option (List (List Str))
  | .tuple xs => rowsD xs
  | _ => none
omit [TbC] in
theorem strsDN_back : ∀ {ds : List PyData} {ks : List Str}, strsD ds = some ks → ds = ks.map PyData.str
  | [], _, e => by cases e; rfl
  | d :: ds, ks, e => by
    cases d with
    | str b =>
      obtain ⟨r, e1, rfl⟩ := Option.map_eq_some_iff.mp e
      rw [strsDN_back e1, List.map_cons]
    | _ => cases e
omit [TbC] in
theorem rowsDN_back : ∀ {ds : List PyData} {x : List (List Str)}, rowsD ds = some x → ds = x.map bT'
  | [], _, e => by cases e; rfl
  | d :: ds, x, e => by
    cases d with
    | tuple ys =>
      obtain ⟨k, e1, e2⟩ := Option.bind_eq_some_iff.mp e
      obtain ⟨r, e3, rfl⟩ := Option.map_eq_some_iff.mp e2
      rw [rowsDN_back e3, List.map_cons, strsDN_back e1]
      rfl
    | _ => cases e
omit [TbC] in
theorem flatN_strs : ∀ r : List Str, flatAll (r.map PyData.str) = true
  | [] => rfl
  | x :: r => by
    rw [List.map_cons]
    simp only [flatAll, flatD, flatN_strs r, Bool.and_self]
omit [TbC] in
theorem flatN_rows : ∀ x : List (List Str), flatAll (x.map bT') = true
  | [] => rfl
  | r :: x => by
    rw [List.map_cons]
    simp only [flatAll, bT', flatD, flatN_strs r, flatN_rows x, Bool.and_self]
def neN : NE (List (List Str)) where
  key := kN
  un := unN
  enc := bN
  view := vN
  lt := lexL ltK
  emp := List.isEmpty
  un_key := un_kN
  data := data_N
  dep := fun x => by
    have z := dep_rows x
    rw [kN, NestedKey.depth]
    omega
  tot := tot_key.lex
  en := enN_str.tup.tup
  flat := fun x => by
    simp only [bN, flatD]
    exact flatN_rows x
  back := fun d x e => by
    cases d with
    | tuple xs => rw [rowsDN_back (show rowsD xs = some x from e)]; rfl
    | _ => cases e
  ref := fun r => by
    cases r with
    | tup _ _ _ => exact ⟨_, rfl⟩
  more := fun x h => by
    cases x with
    | nil => cases h
    | cons y r => exact ⟨kR y, r.map kR, rfl⟩
end My

namespace My
open PySem PySem.Spec PyProof.Rows L2
section
variable {P : Program} {w : World} {h : Heap} {H : Hp} {a : Addr} {L : List TkE}
theorem keyTk_data (ks : List Str) : (keyTk ks).data = .tuple (ks.map PyData.str) := by
  have z : ∀ ks : List Str, NestedKey.datas (ks.map NestedKey.text) = ks.map PyData.str := by
    intro ks
    induction ks with
    | nil => simp only [List.map_nil, NestedKey.datas]
    | cons k ks ih => simp only [List.map_cons, NestedKey.datas, NestedKey.data, ih]
  unfold keyTk
  simp only [NestedKey.data, z]
theorem keyTk_inj {x y : List Str} (e : keyTk x = keyTk y) : x = y := by
  have z := congrArg NestedKey.data e
  rw [keyTk_data, keyTk_data] at z
  have z2 := PyData.tuple.inj z
  exact (List.map_inj_right fun a b q => PyData.str.inj q).mp z2
theorem keyTk_dep (ks : List Str) : (keyTk ks).depth ≤ 8 := by
  have z : ∀ ks : List Str, NestedKey.depthAll (ks.map NestedKey.text) ≤ 1 := by
    intro ks
    induction ks with
    | nil => simp [NestedKey.depthAll]
    | cons k ks ih =>
      simp only [List.map_cons, NestedKey.depthAll, NestedKey.depth]
      omega
  unfold keyTk
  simp only [NestedKey.depth]
  have := z ks
  omega
theorem dicN_ok (e : ∃ o es ep, h.get? a = some o ∧ o.ExactDict ∧ o.data = .dict es ep ∧ es.toList = L.map fun q => (⟨q.1.hash w, .ref q.2.1, .ref q.2.2⟩ : DictEntry)) : ObjOk P w H h a (DicN w a L) := by
  refine ⟨e, ?_, fun h1 h2 ⟨o, es, ep, q, r⟩ k => ⟨o, es, ep, k o q, r⟩⟩
  obtain ⟨o, _, _, q, _⟩ := e
  exact ⟨o, q⟩
theorem nt_dicN : NoTup a (DicN w a L) := nt_ext fun g o vs e hd ⟨o', es, ep, e', _, hd', _⟩ => by
  rw [e] at e'
  cases e'
  rw [hd] at hd'
  cases hd'
theorem dicN_at (ok : HOk P w H h) (e : H a = some (DicN w a L)) : ∃ o es ep, h.get? a = some o ∧ o.ExactDict ∧ o.data = .dict es ep ∧ es.toList = L.map fun q => (⟨q.1.hash w, .ref q.2.1, .ref q.2.2⟩ : DictEntry) := (ok a _ e).1
end
def TkOk (K : PySem.W.Frag) (H : Hp) (a : Addr) (L : List TkE) : Prop := (∀ q ∈ L, Dp K H (.ref q.2.1) q.1.data ∧ q.1.depth ≤ 8) ∧ (L.map (·.1)).Nodup ∧ (a == sysModules) = false
section
variable {X : Cx} {pins : List (Addr × Obj)} {σ : L2.St} {H : Hp} {s : Shared} {a b c : Addr} {L : List TkE} {k : NestedKey}
theorem tk_is (I : Inv X pins σ H s) (h : Dp X.K H (.ref b) k.data) (d : k.depth ≤ 8) : (nestedKind X.prog X.w).is s.heap k b := (dpN_at I h d).2
theorem dicN_keyed (I : Inv X pins σ H s) (e : H a = some (DicN X.w a L)) (t : TkOk X.K H a L) : s.heap.DictOfH (nestedKind X.prog X.w) a (L.map tkX) := by
  obtain ⟨o, es, ep, h1, h2, h3, h4⟩ := dicN_at I.hok e
  refine ⟨o, es, ep, h1, h2, h3, ?_, fun x hx => ?_, ?_⟩
  · rw [h4, List.map_map]
    rfl
  · obtain ⟨q, hq, rfl⟩ := List.mem_map.mp hx
    exact tk_is I (t.1 q hq).1 (t.1 q hq).2
  · rw [List.map_map]
    exact t.2.1
def tkFind (L : List TkE) (k : NestedKey) : Option Addr := (L.find? fun q => decide (q.1 = k)).map (·.2.2)
def tkStore (L : List TkE) (k : NestedKey) (b c : Addr) : List TkE := if (tkFind L k).isSome then L.map (fun q => if q.1 = k then (q.1, q.2.1, c) else q) else L ++ [(k, b, c)]
theorem tk_at : atKey (L.map tkX) k = (L.find? fun q => decide (q.1 = k)).map fun q => (q.2.1, Value.ref q.2.2) := by
  unfold atKey
  rw [List.find?_map, Option.map_map]
  rfl
theorem tk_stored : storedH (L.map tkX) k b (.ref c) = (tkStore L k b c).map tkX := by
  unfold storedH tkStore tkFind
  rw [tk_at, Option.isSome_map, Option.isSome_map]
  split
  · rw [List.map_map, List.map_map]
    refine List.map_congr_left fun q _ => ?_
    show putAt k (.ref c) (q.1, q.2.1, Value.ref q.2.2) = tkX (if q.1 = k then (q.1, q.2.1, c) else q)
    unfold putAt
    by_cases e : q.1 = k
    · rw [if_pos e, if_pos e]
      rfl
    · rw [if_neg e, if_neg e]
      rfl
  · rw [List.map_append]
    rfl
theorem pe_tnew {pos : Pos} : PE X (.Dict [] [] pos) (fun σ H Q => ∀ p, H p = none → (p == sysModules) = false → Q (.ref p) (upd H p (DicN X.w p []))) := ⟨fun pins s σ H Q I h =>
  wpAny_Dict_empty ⟨.ref s.heap.objs.size, _, I.laid (a := s.heap.objs.size) (o := DicN X.w s.heap.objs.size []) (t' := s.toks) (fun _ _ q => Heap.get?_push_of_some _ q) (Nat.le_refl _)
    (dicN_ok ⟨_, #[], 0, Heap.get?_push_size _ rfl, ⟨rfl, rfl, rfl⟩, rfl, rfl⟩), rfl, h _ (I.hok.fresh (Nat.le_refl _)) (beq_eq_false_iff_ne.mpr (Nat.ne_of_gt I.big))⟩⟩
def tTGet (X : Cx) (td ty tx : TE) : TE := fun σ H Q => td σ H fun x H1 => ∃ a L, x = .ref a ∧ H1 a = some (DicN X.w a L) ∧ ty σ H1 fun y H2 => tx σ H2 fun z H3 => ∃ b k, y = .ref b ∧ H3 a = some (DicN X.w a L) ∧ TkOk X.K H3 a L ∧ Dp X.K H3 (.ref b) k.data ∧ k.depth ≤ 8 ∧ Q (((tkFind L k).map V.ref).getD z) H3
theorem pe_tget {o e f : Expr} {td ty tx : TE} {apos cpos : Pos} (hu : X.A.units + 64 < cLine) (ho : PE X o td) (he : PE X e ty) (hf : PE X f tx) (m : M2 X o "get" apos e f cpos) : PE X (.Call (.Attribute o "get" apos) [e, f] [] cpos) (tTGet X td ty tx) := by
  refine ⟨fun pins s σ H Q I h => ?_⟩
  refine wpAny_Call_method m.base m.few m.line PySem.F.plainAttrs_dict PySem.F.slot_dict_get PySem.F.type_dict_get (thn (ho.run pins s σ H _ I h) fun u s1 ⟨x, H1, I1, rx, a, L, ex, d, q1⟩ => ?_)
  subst ex
  obtain rfl : u = Value.ref a := rx
  obtain ⟨ob, es, ep, h1, h2, _⟩ := dicN_at I1.hok d
  refine ⟨⟨ob, h1, h2.1⟩, fun b e => ?_, ?_⟩
  · cases e
    exact ⟨ob, h1, h2.2.1⟩
  rw [m.trees]
  refine Calls.callWith_builtin rfl (Calls.evalArgs_plain (Calls.spliced_cons (thn (he.run pins s1 σ H1 _ I1 q1) fun iv s2 ⟨y, H2, I2, ry, q2⟩ =>
    Calls.spliced_cons (thn (hf.run pins s2 σ H2 _ I2 q2) fun fv s3 ⟨z, H3, I3, rz, b, k, ey, ha, tk, hb, dep, q3⟩ => Calls.spliced_nil ?_))))
  subst ey
  obtain rfl : iv = Value.ref b := ry
  have kd := dicN_keyed I3 ha tk
  refine getOr_keyed (knd := nestedKind X.prog X.w) (show X.A.in1.units + 8 < cLine by show X.A.units + 1 + 8 < cLine; omega) (tk_is I3 hb dep) tk.2.2 ⟨_, kd, rfl⟩ ⟨_, H3, I3.tok _, ?_, q3⟩
  rw [valueAt_pairsH, tk_at]
  unfold tkFind
  cases L.find? fun q => decide (q.1 = k) with
  | none => exact rz
  | some q => rfl
def rSetT (K : PySem.W.Frag) (w : World) : TSet := fun o i v H Q => ∃ a L b k c, o = .ref a ∧ i = .ref b ∧ v = .ref c ∧ H a = some (DicN w a L) ∧ TkOk K H a L ∧ Dp K H (.ref b) k.data ∧ k.depth ≤ 8 ∧ L.length ≤ sizeLine ∧ Q (upd H a (DicN w a (tkStore L k b c)))
theorem set_tk (hu : X.A.units + 64 < cLine) : PSet X (rSetT X.K X.w) := by
  intro pins s σ H o i v ov iv u Q I ro ri rv h
  obtain ⟨a, L, b, k, c, rfl, rfl, rfl, ha, tk, hb, dep, few, q⟩ := h
  cases (show ov = Value.ref a from ro)
  cases (show iv = Value.ref b from ri)
  cases (show u = Value.ref c from rv)
  have kd := dicN_keyed I ha tk
  refine wpAny_setItem_heap (knd := nestedKind X.prog X.w) (hsz := by rw [List.length_map]; exact few) (show X.A.in1.units + 8 < cLine by show X.A.units + 1 + 8 < cLine; omega) (tk_is I hb dep) kd fun h' hm hs => ?_
  rw [tk_stored] at hm
  obtain ⟨o', es, ep, h1, h2, h3, h4, _⟩ := hm
  refine ⟨_, I.write (x := a) (e := a) (by rw [ha]; trivial) (.inl rfl) (fun c u hc hh => (hs.2 c hc).trans hh) ⟨o', h1⟩ (dicN_ok ⟨o', es, ep, h1, h2, h3, ?_⟩), q⟩
  rw [h4, List.map_map]
  rfl
theorem pe_tvals {o : Expr} {td : TE} {p apos mpos pos : Pos} (hc : X.calm = true) (hg : Gl X "list") (hm : X.mg "list" = none) (hd : PE X o td) (hbase : attributeBase o "values" X.env (eval o X.env) = eval o X.env := by rfl) (hline : (apos.endLine == mpos.line) = true := by rfl)
    (hs : starEach [Expr.Call (.Attribute o "values" apos) [] [] mpos] X.env = (false, eval (Expr.Call (.Attribute o "values" apos) [] [] mpos) X.env) :: starEach [] X.env := by rfl) :
    PE X (.Call (.Name "list" p) [.Call (.Attribute o "values" apos) [] [] mpos] [] pos) (fun σ H Q => td σ H fun x H1 => ∃ a L, x = .ref a ∧ (a == sysModules) = false ∧ H1 a = some (DicN X.w a L) ∧ L.length ≤ sizeLine ∧ ∀ p, H1 p = none → Q (.ref p) (upd H1 p (.lst (L.map fun q => V.ref q.2.2)))) := by
  refine ⟨fun pins s σ H Q I hq => wpAny_Call_Name_kw (ld_blt I hg hm PyProof.Rows.boot_list ?_)⟩
  refine PyProof.Rows.callWith_type1 ?_ hs rfl
  rw [hs]
  refine Calls.spliced_cons (wpAny_Call_method (T := "dict") (id := "dict.values") hbase rfl hline F.plainAttrs_dict F.slot_dict_values F.type_dict_values (thn (hd.run pins s σ H _ I hq) fun u s1 ⟨x, H1, I1, rx, d, L, ex, sy, ha, few, q⟩ => ?_))
  subst ex
  obtain rfl : u = Value.ref d := rx
  obtain ⟨ob, es, ep, h1, h2, h3, h4⟩ := dicN_at I1.hok ha
  have sz : es.size = L.length := by
    have z := congrArg List.length h4
    rw [List.length_map, Array.length_toList] at z
    exact z
  have ent : ∀ i (hi : i < es.size), ∃ q, L[i]? = some q ∧ es[i].val = Value.ref q.2.2 := fun i hi => by
    have e1 : es.toList[i]? = some es[i] := by rw [Array.getElem?_toList]; exact Array.getElem?_eq_getElem hi
    rw [h4, List.getElem?_map] at e1
    obtain ⟨q, e2, e3⟩ := Option.map_eq_some_iff.mp e1
    exact ⟨q, e2, by rw [← e3]⟩
  have tI : s1.TypeIs (.ref d) "dict" := ⟨ob, h1, h2.1⟩
  refine ⟨tI, fun b e => ?_, method_meetsIn F.slot_dict_values F.entry_dict_values rfl (PySem.evalArgs_none ⟨rfl, tI, F.args_dict_values_1 _, _, meets_dict_values_raw d sy, ⟨es, ep, ob, h1, h2, h3⟩, Calls.spliced_nil ?_⟩)⟩
  · cases e
    exact ⟨ob, h1, h2.2.1⟩
  have I2 : Inv X pins σ H1 { s1 with heap := s1.heap.push { cls := .type "dict_values", data := .fields #[.ref d] } } := I1.kept (t' := s1.toks) fun b ob q => Heap.get?_push_of_some _ q
  refine PySem.W.kdl_call (PySem.KdlSrc.rawValues (es := es) (ep := ep) (r := s1.heap.objs.size) (d := d)) (I1.ok.hd hc) ⟨⟨_, Heap.get?_push_size _ rfl, rfl, rfl⟩, ob, Heap.get?_push_of_some _ h1, h2, h3⟩ (by omega) fun h' tk acc' c' kp e it => ?_
  have ea : acc'.toList = L.map fun q => Value.ref q.2.2 := by
    have hl : acc'.toList.length = L.length := by rw [Array.length_toList, it.1]; exact sz
    apply List.ext_getElem?
    intro j
    rw [List.getElem?_map]
    cases hj : acc'.toList[j]? with
    | none =>
      have h1 := List.getElem?_eq_none_iff.mp hj
      rw [List.getElem?_eq_none (by omega)]
      rfl
    | some v =>
      obtain ⟨hi, hv⟩ := it.2 j v (by rw [← Array.getElem?_toList]; exact hj)
      obtain ⟨q, e1, e2⟩ := ent j hi
      rw [e1, hv, e2]
      rfl
  have eb : acc'.toList = (L.map fun q => q.2.2).map Value.ref := by rw [ea, List.map_map]; rfl
  have ec : (L.map fun q => V.ref q.2.2) = (L.map fun q => q.2.2).map V.ref := by rw [List.map_map]; rfl
  have rv : Vals (L.map fun q => V.ref q.2.2) acc'.toList := by rw [eb, ec]; exact vals_refs _
  refine ⟨.ref _, _, I2.laid (t' := tk) (o := .lst (L.map fun q => V.ref q.2.2)) kp (Nat.le_refl _) ?_, rfl, q _ (I2.hok.fresh (Nat.le_refl _))⟩
  exact ⟨by rw [List.length_map]; exact few, acc'.toList, c', rv, by rw [Array.toArray_toList]; exact e⟩
end
section
variable {K : PySem.W.Frag} {H : Hp} {L : List TkE} {kvs : List (List Str × PyData)}
theorem rpTk_len (h : RpTk K H L kvs) : L.length = kvs.length := Paired.length h
theorem rpTk_keys : ∀ {L : List TkE} {kvs : List (List Str × PyData)}, RpTk K H L kvs → L.map (·.1) = kvs.map fun p => keyTk p.1
  | _, _, .nil => rfl
  | _, _, .cons h t => by rw [List.map_cons, List.map_cons, h.1, rpTk_keys t]
theorem rpTk_ok {O : Addr → Bool} {a : Addr} (h : RpTk K (hid O H) L kvs) (n : (kvs.map (·.1)).Nodup ∧ (a == sysModules) = false) : TkOk K H a L := by
  refine ⟨?_, ?_, n.2⟩
  · have z : ∀ {L : List TkE} {kvs : List (List Str × PyData)}, RpTk K (hid O H) L kvs → ∀ q ∈ L, Dp K H (.ref q.2.1) q.1.data ∧ q.1.depth ≤ 8 := by
      intro L kvs h
      induction h with
      | nil => exact fun q hq => nomatch hq
      | @cons a b _ _ r t ih =>
        intro q hq
        rcases List.mem_cons.mp hq with rfl | hq
        · refine ⟨?_, by rw [r.1]; exact keyTk_dep _⟩
          rw [r.1, keyTk_data]
          exact Rp.dp _ _ (flatN_strs _) (Rp.same hid_le _ _ r.2.1)
        · exact ih q hq
    exact z h
  · rw [rpTk_keys h]
    have e : (kvs.map fun p => keyTk p.1) = (kvs.map (·.1)).map keyTk := by rw [List.map_map]; rfl
    rw [e]
    exact List.pairwise_map.mpr (n.1.imp fun h e => h (keyTk_inj e))
def tkVal (kvs : List (List Str × PyData)) (k : List Str) : Option PyData := (kvs.find? fun p => decide (p.1 = k)).map (·.2)
def tkPut (kvs : List (List Str × PyData)) (k : List Str) (x : PyData) : List (List Str × PyData) := if (tkVal kvs k).isSome then kvs.map (fun p => if p.1 = k then (p.1, x) else p) else kvs ++ [(k, x)]
theorem rpTk_val (k : List Str) : ∀ {L : List TkE} {kvs : List (List Str × PyData)}, RpTk K H L kvs → (tkFind L (keyTk k) = none ∧ tkVal kvs k = none) ∨ ∃ c d, tkFind L (keyTk k) = some c ∧ tkVal kvs k = some d ∧ Rp K H (.ref c) d
  | _, _, .nil => .inl ⟨rfl, rfl⟩
  | _, _, .cons (a := q) (b := p) (l₁ := L) (l₂ := kvs) h t => by
    unfold tkFind tkVal
    rw [List.find?_cons, List.find?_cons]
    by_cases e : p.1 = k
    · rw [decide_eq_true e, decide_eq_true (show q.1 = keyTk k by rw [h.1, e])]
      exact .inr ⟨_, _, rfl, rfl, h.2.2⟩
    · rw [decide_eq_false e, decide_eq_false (show ¬ q.1 = keyTk k from fun z => e (keyTk_inj (h.1.symm.trans z)))]
      exact rpTk_val k t
theorem rpTk_put {k : List Str} {b c : Addr} {x : PyData} (rb : Rp K H (.ref b) (.tuple (k.map PyData.str))) (rc : Rp K H (.ref c) x) (h : RpTk K H L kvs) : RpTk K H (tkStore L (keyTk k) b c) (tkPut kvs k x) := by
  have m : ∀ {L : List TkE} {kvs : List (List Str × PyData)}, RpTk K H L kvs → RpTk K H (L.map (fun q => if q.1 = keyTk k then (q.1, q.2.1, c) else q)) (kvs.map (fun p => if p.1 = k then (p.1, x) else p)) := by
    intro L kvs h
    induction h with
    | nil => exact .nil
    | @cons q p _ _ r t ih =>
      rw [List.map_cons, List.map_cons]
      refine .cons ?_ ih
      by_cases e : p.1 = k
      · rw [if_pos e, if_pos (show q.1 = keyTk k by rw [r.1, e])]
        exact ⟨r.1, r.2.1, rc⟩
      · rw [if_neg e, if_neg (fun z => e (keyTk_inj (r.1.symm.trans z)))]
        exact r
  unfold tkStore tkPut
  have es : (tkFind L (keyTk k)).isSome = (tkVal kvs k).isSome := by
    rcases rpTk_val k h with ⟨e1, e2⟩ | ⟨_, _, e1, e2, _⟩
    · rw [e1, e2]; rfl
    · rw [e1, e2]; rfl
  rw [es]
  split
  · exact m h
  · exact Paired.snoc h ⟨rfl, rb, rc⟩
theorem tkPut_nodup {k : List Str} {x : PyData} (n : (kvs.map (·.1)).Nodup) : ((tkPut kvs k x).map (·.1)).Nodup := by
  unfold tkPut
  split
  · rw [List.map_map]
    have e : (kvs.map ((·.1) ∘ fun p => if p.1 = k then (p.1, x) else p)) = kvs.map (·.1) := List.map_congr_left fun p _ => by
      show (if p.1 = k then (p.1, x) else p).1 = p.1
      split <;> rfl
    rw [e]
    exact n
  · rename_i c
    rw [List.map_append]
    refine List.nodup_append.mpr ⟨n, List.pairwise_singleton _ _, fun a ha b hb e => c ?_⟩
    obtain ⟨p, hp, rfl⟩ := List.mem_map.mp ha
    have e2 : p.1 = k := e.trans (List.mem_singleton.mp hb)
    unfold tkVal
    rw [Option.isSome_map, List.find?_isSome]
    exact ⟨p, hp, decide_eq_true e2⟩
theorem rpTk_vals : ∀ {L : List TkE} {kvs : List (List Str × PyData)}, RpTk K H L kvs → RpAll K H (L.map fun q => V.ref q.2.2) (kvs.map (·.2))
  | _, _, .nil => .nil
  | _, _, .cons h t => .cons h.2.2 (rpTk_vals t)
end
def keyT : PyData → Option (List Str)
  | .tuple xs => strsD xs
  | _ => none
def isRefD : PyData → Bool
  | .tuple _ => true
  | .list _ => true
  | .dict _ => true
  | _ => false
section
variable [TbC]
theorem rp_ref {K : PySem.W.Frag} {H : Hp} {v : V} {d : PyData} (h : Rp K H v d) (e : isRefD d = true) : ∃ a, v = .ref a := by
  cases d with
  | tuple _ => cases h; exact ⟨_, rfl⟩
  | list _ => cases h; exact ⟨_, rfl⟩
  | dict _ => cases h; exact ⟨_, rfl⟩
  | _ => cases e
theorem rp_keyT {K : PySem.W.Frag} {H : Hp} {v : V} {d : PyData} {k : List Str} (h : Rp K H v d) (e : keyT d = some k) : ∃ b, v = .ref b ∧ Rp K H (.ref b) (.tuple (k.map PyData.str)) := by
  cases d with
  | tuple xs =>
    obtain ⟨b, rfl⟩ := rp_ref h rfl
    refine ⟨b, rfl, ?_⟩
    have z : xs = k.map PyData.str := strsDN_back e
    rw [← z]
    exact h
  | _ => cases e
variable {X : Cx}
def sNewT (i : Nat) : SD := fun ρ n E => E.nx (ρ.set i (some (.t []))) n
theorem qs_newT {i : Nat} {x : Str} {pos pos' p1 : Pos} (hW : X.w = TbC.w) (hN : X.N.Nodup) (hi : X.N[i]? = some x) (hx : Loc X.env.scope x) (hs : swapsWith (.Dict [] [] p1) (some (.Name x pos')) pos.line X.env = pure false := by rfl)
    (hf : X.fn x = true ∨ X.env.scope.names.lookup x = some .local := by first | exact .inl rfl | exact .inr rfl | assumption) : PSD X (.Assign [.Name x pos'] (.Dict [] [] p1) pos) (sNewT i) := qs_mk (ps_set hN hi hx pe_tnew hs hf) fun {dk OB H0 O H σ ρ n E D} S hw k => fun p np sy => by
  rw [hW]
  refine k.nx (add O p) _ _ _ n (S.new np (s := .t []) rfl nt_dicN ⟨p, [], rfl, add_self, S.fresh np, S.dok.new np, upd_same, .nil, List.nodup_nil, sy⟩) ?_ hw
  rw [hid_add np]
  exact Same.refl _
def eTGet (i : Nat) (we wf : ED) : ED := fun ρ n Q => ∃ ds, ρ[i]? = some (some (.t ds)) ∧ we ρ n fun y n1 => wf ρ n1 fun z n2 => ∃ k, keyT y = some k ∧ Q ((tkVal ds k).getD z) n2
theorem qd_tget {i : Nat} {o e f : Expr} {we wf : ED} {apos cpos : Pos} (hW : X.w = TbC.w) (hu : X.A.units + 64 < cLine) (h0 : PE X o (tVar i)) (he : PD X e we) (hf : PD X f wf) (m : M2 X o "get" apos e f cpos := by exact ⟨rfl, rfl, rfl, rfl⟩) : PD X (.Call (.Attribute o "get" apos) [e, f] [] cpos) (eTGet i we wf) :=
  qd_mk (pe_tget hu h0 he hf m) fun {dk OB H0 O H σ ρ n Q Qd} S hw k => by
  obtain ⟨ds, e1, q⟩ := hw
  obtain ⟨v0, z1, p, L, rfl, h1, h2, h3, h4, h5, h6⟩ := S.sl _ _ e1
  rw [← hW] at h4
  refine ⟨.ref p, z1, p, L, rfl, h4, rd_W S q fun y dy H1 n1 f1 d1 r1 q1 => rd_W (S.step f1 d1) q1 fun z dz H2 n2 f2 d2 r2 ⟨key, ek, q2⟩ => ?_⟩
  have nA : ¬ dkA dk p := h3.nA
  have h4' := (f1.trans f2) _ _ nA h4
  have h5' := RpTk.same (hid_fr S.dO (f1.trans f2)) h5
  obtain ⟨b, rfl, rb⟩ := rp_keyT (Rp.same (hid_fr S.dO f2) _ _ r1) ek
  refine ⟨b, keyTk key, rfl, h4', rpTk_ok h5' h6, ?_, keyTk_dep _, ?_⟩
  · rw [keyTk_data]
    exact Rp.dp _ _ (flatN_strs _) (Rp.same hid_le _ _ rb)
  · rcases rpTk_val key h5' with ⟨e1, e2⟩ | ⟨u, d, e1, e2, r⟩
    · rw [e1]
      rw [e2] at q2
      exact k _ _ H2 n2 (f1.trans f2) d2 r2 q2
    · rw [e1]
      rw [e2] at q2
      exact k _ _ H2 n2 (f1.trans f2) d2 r q2
def eTVals (i : Nat) : ED := fun ρ n Q => ∃ ds, ρ[i]? = some (some (.t ds)) ∧ ds.length ≤ lim ∧ Q (.list (ds.map (·.2))) n
theorem qd_tvals {i : Nat} {o : Expr} {p apos mpos pos : Pos} (hW : X.w = TbC.w) (hc : X.calm = true) (hg : Gl X "list") (hm : X.mg "list" = none) (h0 : PE X o (tVar i)) (hbase : attributeBase o "values" X.env (eval o X.env) = eval o X.env := by rfl) (hline : (apos.endLine == mpos.line) = true := by rfl)
    (hs : starEach [Expr.Call (.Attribute o "values" apos) [] [] mpos] X.env = (false, eval (Expr.Call (.Attribute o "values" apos) [] [] mpos) X.env) :: starEach [] X.env := by rfl) :
    PD X (.Call (.Name "list" p) [.Call (.Attribute o "values" apos) [] [] mpos] [] pos) (eTVals i) := qd_mk (pe_tvals hc hg hm h0 hbase hline hs) fun {dk OB H0 O H σ ρ n Q Qd} S hw k => by
  obtain ⟨ds, e1, few, q⟩ := hw
  obtain ⟨v0, z1, p, L, rfl, h1, h2, h3, h4, h5, h6⟩ := S.sl _ _ e1
  rw [← hW] at h4
  refine ⟨.ref p, z1, p, L, rfl, h6.2, h4, by rw [rpTk_len h5]; exact Nat.le_trans few lim_le, fun l np => ?_⟩
  obtain ⟨a, b, c, e⟩ := new_rp S (o := .lst (L.map fun q => V.ref q.2.2)) np
  exact k _ _ _ n c e (.lst a (rpTk_vals (RpTk.same b h5))) q
def sPutT (i : Nat) (wk wv : ED) : SD := fun ρ n E => ∃ ds, ρ[i]? = some (some (.t ds)) ∧ wv ρ n fun x n1 => wk ρ n1 fun y n2 => ∃ key, keyT y = some key ∧ isRefD x = true ∧ ds.length < lim ∧ E.nx (ρ.set i (some (.t (tkPut ds key x)))) n2
theorem qs_putT {i : Nat} {o e f : Expr} {wk wv : ED} {pos pos' : Pos} (hW : X.w = TbC.w) (hu : X.A.units + 64 < cLine) (h0 : PE X o (tVar i)) (hk : PD X f wk) (hv : PD X e wv)
    (hst : PS X (.Assign [.Subscript o f pos'] e pos) (tAsg (tW X.K wv) (gSub (tVar i) (tW X.K wk) (rSetT X.K X.w)))) : PSD X (.Assign [.Subscript o f pos'] e pos) (sPutT i wk wv) := qs_mk hst fun {dk OB H0 O H σ ρ n E D} S hw k => by
  obtain ⟨ds, e1, q⟩ := hw
  obtain ⟨v0, z1, p, L, rfl, h1, h2, h3, h4, h5, h6⟩ := S.sl _ _ e1
  rw [← hW] at h4
  refine rd_W S q fun v x H1 n1 f1 d1 r1 q1 => ⟨.ref p, z1, rd_W (S.step f1 d1) q1 fun y dy H2 n2 f2 d2 r2 ⟨key, ek, ir, ll, q2⟩ => ?_⟩
  have nA : ¬ dkA dk p := h3.nA
  have h4' := (f1.trans f2) _ _ nA h4
  have S2 := S.step (f1.trans f2) d2
  have s2 := S.hid (f1.trans f2)
  have h5' := RpTk.same s2 h5
  obtain ⟨b, rfl, rb⟩ := rp_keyT r2 ek
  obtain ⟨c, rfl⟩ := rp_ref r1 ir
  have r1' := Rp.same (hid_fr S.dO f2) _ _ r1
  unfold rSetT
  refine ⟨p, L, b, keyTk key, c, rfl, rfl, rfl, h4', rpTk_ok h5' h6, ?_, keyTk_dep _, by rw [rpTk_len h5]; exact Nat.le_of_lt (Nat.lt_of_lt_of_le ll lim_le), ?_⟩
  · rw [keyTk_data]
    exact Rp.dp _ _ (flatN_strs _) (Rp.same hid_le _ _ rb)
  refine k.nx O _ _ _ n2 (S2.mut e1 rfl rfl z1 h1 h2 h3 nt_dicN (s' := .t (tkPut ds key x)) ⟨p, _, rfl, h1, h2, h3, by rw [← hW]; exact upd_same, ?_, tkPut_nodup h6.1, h6.2⟩) ?_ q2
  · rw [hid_upd h1]
    exact rpTk_put rb r1' h5'
  · rw [hid_upd h1]
    exact s2
end
def ownT (o : Option (Option Sv)) : Option (List (List Str × PyData)) := match o with
  | some (some (.t ds)) => some ds
  | _ => none
theorem ownT_is {o : Option (Option Sv)} {ds : List (List Str × PyData)} (h : ownT o = some ds) : o = some (some (.t ds)) := by
  match o, h with
  | some (some (.t y)), h =>
    cases h
    rfl
def fNewT (i : Nat) : SF := fun ρ => some (.nx (ρ.set i (some (.t []))))
theorem is_newT {i : Nat} : IsS (sNewT i) (fNewT i) := fun ρ n E r e q => by
  cases e
  exact q
def fTGet (i : Nat) (a b : EF) : EF := fun ρ => (ownT ρ[i]?).bind fun ds => (a ρ).bind fun y => (b ρ).bind fun z => (keyT y).map fun k => (tkVal ds k).getD z
theorem is_tget {i : Nat} {a b : ED} {f g : EF} (h : IsE a f) (k : IsE b g) : IsE (eTGet i a b) (fTGet i f g) := fun ρ n Q d e q => by
  obtain ⟨ds, e1, e⟩ := bind_is e
  obtain ⟨y, e2, e⟩ := bind_is e
  obtain ⟨z, e3, e⟩ := bind_is e
  obtain ⟨kk, e4, rfl⟩ := map_is e
  exact ⟨ds, ownT_is e1, h ρ n _ y e2 (k ρ n _ z e3 ⟨kk, e4, q⟩)⟩
def fTVals (i : Nat) : EF := fun ρ => (ownT ρ[i]?).bind fun ds => if ds.length ≤ lim then some (.list (ds.map (·.2))) else none
theorem is_tvals {i : Nat} : IsE (eTVals i) (fTVals i) := fun ρ n Q d e q => by
  obtain ⟨ds, e1, e⟩ := bind_is e
  obtain ⟨c, e⟩ := ite_is e
  cases e
  exact ⟨ds, ownT_is e1, c, q⟩
def fPutT (i : Nat) (k v : EF) : SF := fun ρ => (ownT ρ[i]?).bind fun ds => (v ρ).bind fun x => (k ρ).bind fun y => (keyT y).bind fun key => if isRefD x = true ∧ ds.length < lim then some (.nx (ρ.set i (some (.t (tkPut ds key x))))) else none
theorem is_putT {i : Nat} {k v : ED} {f g : EF} (h : IsE k f) (h' : IsE v g) : IsS (sPutT i k v) (fPutT i f g) := fun ρ n E r e q => by
  obtain ⟨ds, e1, e⟩ := bind_is e
  obtain ⟨x, e2, e⟩ := bind_is e
  obtain ⟨y, e3, e⟩ := bind_is e
  obtain ⟨key, e4, e⟩ := bind_is e
  obtain ⟨c, e⟩ := ite_is e
  cases e
  exact ⟨ds, ownT_is e1, h' ρ n _ x e2 (h ρ n _ y e3 ⟨key, e4, c.1, c.2, q⟩)⟩
end My

namespace My
open PySem PySem.Spec PyProof.Rows L2
open LiI (putT putT_off putT_at paired_ix)
variable [TbC]
section
variable {X : Cx} {pins : List (Addr × Obj)} {σ : L2.St} {H : Hp} {s : Shared}
omit [TbC] in
theorem tups_laid {h' : Heap} {tk : Nat} {kvs : List (Key × V)} {as : List Addr} {es : Array DictEntry} (I : Inv X pins σ H s) (old : ∀ b o, s.heap.get? b = some o → h'.get? b = some o) (len : as.length = kvs.length) (G : DT.Made es s.heap.objs.size h' as)
    (ent : ∀ (j : Nat) (e : DictEntry) (p : Key × V), es[j]? = some e → kvs[j]? = some p → RelV (kV p.1) e.key ∧ RelV p.2 e.val) :
    (∀ b o, H b = some o → putT H as kvs b = some o) ∧ Paired (fun (t : Addr) (q : Key × V) => putT H as kvs t = some (.tup [kV q.1, q.2])) as kvs ∧ Inv X pins σ (putT H as kvs) { s with heap := h', toks := tk } := by
  have nd : as.Nodup := G.rise.imp fun h => Nat.ne_of_lt h
  have fresh : ∀ t ∈ as, H t = none := fun t ht => I.hok.fresh (Nat.le_of_lt (G.above t ht))
  have at_ := putT_at as kvs H len nd
  have keep : ∀ b o, H b = some o → putT H as kvs b = some o := fun b o e => by
    rw [putT_off as kvs H (fun z => by rw [fresh b z] at e; cases e)]
    exact e
  have young : ∀ b o, s.heap.get? b = some o → b ∉ as := fun b o e z => Nat.lt_irrefl _ (Nat.lt_trans (Heap.lt_size e) (G.above b z))
  refine ⟨keep, at_, I.call' (ch := []) rfl ⟨fun b o e _ _ _ => old b o e, fun b o e _ _ _ => ⟨o.slots, old b o e⟩, fun b o e n _ => by rw [putT_off as kvs H (young b o e)]; exact n, fun b o e _ => ⟨o, old b o e⟩, fun b xs e => keep b _ e, fun b o u e => keep b _ e, fun b ps e => ⟨#[], by rw [keep b _ e, Array.append_empty]⟩⟩ (fun b u e => ?_) I.bare nofun⟩
  by_cases hb : b ∈ as
  · obtain ⟨j, p, e1, e2, e3⟩ := paired_ix at_ hb
    rw [e3] at e
    cases e
    obtain ⟨en, f1, f2⟩ := G.pairs j b e1
    obtain ⟨g1, g2⟩ := ent j en p f1 e2
    exact ⟨by show 2 ≤ sizeLine; decide, [en.key, en.val], .cons g1 (.cons g2 .nil), _, f2, rfl, _, rfl⟩
  · rw [putT_off as kvs H hb] at e
    have z := I.hok b u e
    exact z.stay (fun d v _ y => old d v y) (fun d y => keep d _ y) (fun d xs y => keep d _ y)
omit [TbC] in
theorem pairs_get {P : Program} {w : World} {es : List DictEntry} {vs : List (Key × Value)} (h : Pairs (mixKind P w) es vs) : ∀ {j : Nat} {e : DictEntry} {q : Key × Value}, es[j]? = some e → vs[j]? = some q → keyIs q.1 e.key = true ∧ e.val = q.2 := by
  induction h with
  | nil => exact fun e1 _ => by simp at e1
  | cons a b _ ih =>
    intro j e q e1 e2
    cases j with
    | zero =>
      cases e1
      cases e2
      exact ⟨a, b⟩
    | succ j => exact ih e1 e2
omit [TbC] in
theorem sort_tups {A : Around} {b : Addr} {L : List (Addr × List Str)} {E : Value → Shared → Prop} {Q : Value → Shared → Prop} (I : Inv X pins σ H s) (nb : s.heap.objs.size ≤ b) (hl : L.length ≤ lim) (nd : (L.map (·.1)).Nodup) (ne : ∀ q ∈ L, q.2 ≠ [] ∧ H q.1 = some (.tup (q.2.map V.str)))
    {h2 : Heap} (old : ∀ c o, s.heap.get? c = some o → h2.get? c = some o) (ob : h2.get? b = some (seqObj "list" (L.map fun q => Value.ref q.1).toArray 0))
    (q : ∀ (L' : List (Addr × List Str)) (h3 : Heap), L'.Perm L → (L'.map (·.2)).Pairwise (fun x y => ltK y x = false) → Inv X pins σ (upd H b (.lst (L'.map fun q => V.ref q.1))) { s with heap := h3 } → Q .none { s with heap := h3 }) :
    wpAny (model X.prog X.w) A (call (.builtin "list.sort") [.ref b]) Q E { s with heap := h2 } := by
  have one : ∀ p ∈ L, ∀ r ∈ L, p.1 = r.1 → p.2 = r.2 := fun p hp r hr e => by
    obtain ⟨i, hi⟩ := List.mem_iff_getElem?.mp hp
    obtain ⟨j, hj⟩ := List.mem_iff_getElem?.mp hr
    have e1 : (L.map (·.1))[i]? = some p.1 := by rw [List.getElem?_map, hi]; rfl
    have e2 : (L.map (·.1))[j]? = some p.1 := by rw [List.getElem?_map, hj, e]; rfl
    have e3 := (List.getElem?_inj (List.getElem?_eq_some_iff.mp e1).1 nd).mp (e1.trans e2.symm)
    subst e3
    rw [hi] at hj
    cases hj
    rfl
  have few : (L.map fun q => Value.ref q.1).length ≤ sizeLine := by
    rw [List.length_map]
    exact Nat.le_trans hl lim_le
  have each : ∀ v ∈ (L.map fun q => Value.ref q.1), ∃ p ∈ L, v = Value.ref p.1 ∧ kOf L v = p.2 := fun v hv => by
    obtain ⟨p, hp, rfl⟩ := List.mem_map.mp hv
    exact ⟨p, hp, rfl, kOf_at one hp⟩
  refine wpAny_call_entry PyProof.Rows.slot_list_sort ⟨_, ob, rfl⟩ PyProof.Rows.entry_list_sort
    (SrtO.list_sort_ord (ltv := fun v u => ltK (kOf L v) (kOf L u)) ⟨fun x y => tot_key.swo.asym _ _, fun x y z => tot_key.swo.tr _ _ _⟩ ob few (fun h2' => ?_) fun out hs pm => ⟨.none, rfl, ?_⟩) (PyProof.Rows.args_list_sort _)
  · refine sortable_tups (s := { s with heap := h2 }) (by omega) (fun v hv => ?_) fun o' e' c' => ?_
    · obtain ⟨p, hp, rfl, e⟩ := each v hv
      rw [e]
      exact ⟨(tup_at I (.inl (.inl (ne p hp).2))).1.keeps fun b o e _ => old b o e, (ne p hp).1⟩
    · have e2 : some o' = some _ := e'.symm.trans ob
      cases e2
      exact absurd (Value.type.inj c') (by decide)
  · have back : (L.map fun q => Value.ref q.1).map (pOf L) = L := by
      rw [List.map_map]
      refine (List.map_congr_left fun p hp => ?_).trans (List.map_id L)
      exact Prod.ext rfl (kOf_at one hp)
    have pL : (out.map (pOf L)).Perm L := by
      have z := pm.perm.map (pOf L)
      rw [back] at z
      exact z
    have refs : ∀ v ∈ out, v = Value.ref (pOf L v).1 := fun v hv => by
      obtain ⟨p, _, rfl, _⟩ := each v (pm.perm.mem_iff.mp hv)
      rfl
    have rel : ∀ l : List Value, (∀ v ∈ l, v = Value.ref (pOf L v).1) → Vals ((l.map (pOf L)).map fun q => V.ref q.1) l := by
      intro l
      induction l with
      | nil => intro _; exact .nil
      | cons v l ih => intro h; exact .cons (h v List.mem_cons_self) (ih fun u hu => h u (List.mem_cons_of_mem _ hu))
    have srt : ((out.map (pOf L)).map (·.2)).Pairwise (fun x y => ltK y x = false) := by
      rw [List.map_map, List.pairwise_map]
      exact hs
    obtain ⟨ep, he'⟩ := PyProof.Rows.sortedHeap_at (out := out.toArray) ob
    refine q (out.map (pOf L)) _ pL srt (I.laid (t' := s.toks) (fun c o e => ?_) nb ⟨?_, out, ep, rel out refs, he'⟩)
    · rw [PyProof.Rows.sortedHeap_old (fun z => by rw [z] at e; exact absurd (Heap.lt_size e) (Nat.not_lt.mpr nb)) (Heap.lt_size (old c o e))]
      exact old c o e
    · rw [List.length_map, pL.length_eq]
      exact Nat.le_trans hl lim_le
end
def rSortItems : V → Hp → VK → Prop := fun x H Q => ∃ (d : Addr) (o : Obj) (kvs : List (Str × Str)), x = .ref d ∧ H d = some (.frz o (.dK (kvs.map fun p => (Sum.inr p.1, V.str p.2)))) ∧ kvs.length ≤ lim ∧
  ∀ (H' : Hp) (l : Addr) (L : List (Addr × List Str)), Same H H' → H' l = some (.lst (L.map fun q => V.ref q.1)) → H l = none → (∀ q ∈ L, q.2 ≠ [] ∧ H' q.1 = some (.tup (q.2.map V.str))) → (L.map (·.2)).Perm (kvs.map fun p => [p.1, p.2]) → (L.map (·.2)).Pairwise (fun x y => ltK y x = false) → Q (.ref l) H'
omit [TbC] in
theorem pe_sortItems {X : Cx} {e : Expr} {te : TE} {p apos cpos pos : Pos} (hc : X.calm = true) (he : PE X e te) (hg : Gl X "sorted") (hm : X.mg "sorted" = none) (hbase : attributeBase e "items" X.env (eval e X.env) = eval e X.env := by rfl) (hline : (apos.endLine == cpos.line) = true := by rfl)
    (hs : starEach [.Call (.Attribute e "items" apos) [] [] cpos] X.env = (false, eval (.Call (.Attribute e "items" apos) [] [] cpos) X.env) :: starEach [] X.env := by rfl) :
    PE X (.Call (.Name "sorted" p) [.Call (.Attribute e "items" apos) [] [] cpos] [] pos) (fun σ H Q => te σ H fun x H1 => rSortItems x H1 Q) := by
  refine ⟨fun pins s σ H Q I hq => wpAny_Call_Name_kw (ld_blt I hg hm boot_sorted ?_)⟩
  refine PyProof.Rows.callWith_builtin1 ?_ hs rfl
  rw [hs]
  refine Calls.spliced_cons (wpAny_Call_method (T := "dict") (id := "dict.items") hbase rfl hline F.plainAttrs_dict F.slot_dict_items F.type_dict_items (thn (he.run pins s σ H _ I hq) fun u s1 ⟨x, H1, I1, rx, d, oz, kvs, ex, hd, few, q⟩ => ?_))
  subst ex
  obtain rfl : u = Value.ref d := rx
  obtain ⟨_, hz, hs0, vs, kv, hdo⟩ := I1.hok d _ hd
  have I2 : Inv X pins σ H1 { s1 with heap := s1.heap.push { cls := .type "dict_items", data := .fields #[.ref d] } } := I1.kept (t' := s1.toks) fun b ob q => Heap.get?_push_of_some _ q
  refine ⟨hdo.typeIs, hdo.mapOf.noDict, method_meetsIn F.slot_dict_items F.entry_dict_items rfl (PySem.evalArgs_none ⟨rfl, hdo.typeIs, F.args_dict_items_1 _, _, meets_dict_items (mixKind X.prog X.w) d hs0, ⟨vs, hdo⟩, Calls.spliced_nil ?_⟩)⟩
  obtain ⟨o, es, ep, ho, hx, hdat, _, prs, _⟩ := hdo
  have lv : kvs.length = vs.length := by
    have z := Paired.length kv
    rw [List.length_map] at z
    exact z
  have le : es.size = vs.length := by
    have z := prs.length
    rw [Array.length_toList] at z
    exact z
  have nS : es.size ≤ sizeLine := by
    rw [le, ← lv]
    exact Nat.le_trans few lim_le
  refine DT.sortedI (es := es) (ep := ep) (I1.ok.hd hc) ⟨_, Heap.get?_push_size _ rfl, rfl, rfl⟩ ⟨o, Heap.get?_push_of_some _ ho, hx, hdat⟩ nS fun h' tk as hk hlt hl hG => ?_
  obtain ⟨k1, k2, J⟩ := tups_laid (tk := tk) (kvs := kvs.map fun p => (Sum.inr p.1, V.str p.2)) I2 hk (by rw [List.length_map]; omega) hG fun j e p e1 e2 => by
    obtain ⟨r, e3, e4, e5⟩ := paired_get kv e2
    have e1' : es.toList[j]? = some e := by rw [Array.getElem?_toList]; exact e1
    obtain ⟨g1, g2⟩ := pairs_get prs e1' e3
    exact ⟨by rw [e4]; exact relV_key g1, by rw [g2]; exact e5⟩
  have la : as.length = kvs.length := by omega
  let L : List (Addr × List Str) := as.zip (kvs.map fun p => [p.1, p.2])
  have m1 : L.map (·.1) = as := List.map_fst_zip (by rw [List.length_map]; omega)
  have m2 : L.map (·.2) = kvs.map fun p => [p.1, p.2] := List.map_snd_zip (by rw [List.length_map]; omega)
  have eR : as.map Value.ref = L.map fun q => Value.ref q.1 := by
    rw [← m1, List.map_map]
    rfl
  rw [eR]
  have isT : ∀ q ∈ L, q.2 ≠ [] ∧ putT H1 as (kvs.map fun p => (Sum.inr p.1, V.str p.2)) q.1 = some (.tup (q.2.map V.str)) := fun q hq => by
    obtain ⟨j, hj⟩ := List.mem_iff_getElem?.mp hq
    obtain ⟨j1, j2⟩ := List.getElem?_zip_eq_some.mp hj
    rw [List.getElem?_map] at j2
    obtain ⟨p, p1, p2⟩ := Option.map_eq_some_iff.mp j2
    obtain ⟨y, y1, y2⟩ := paired_get k2 j1
    rw [List.getElem?_map, p1] at y1
    cases y1
    rw [← p2, y2]
    exact ⟨List.cons_ne_nil _ _, rfl⟩
  refine sort_tups (A := X.A.in1) J (Nat.le_refl _) ?_ ?_ isT (fun c o e => Heap.get?_push_of_some _ e) (Heap.get?_push_size _ rfl) fun L' h3 pm srt J3 => ?_
  · show L.length ≤ lim
    rw [← List.length_map (f := (·.1)), m1, la]
    exact few
  · rw [m1]
    exact hG.rise.imp fun h => Nat.ne_of_lt h
  · have fr : putT H1 as (kvs.map fun p => (Sum.inr p.1, V.str p.2)) h'.objs.size = none := J.hok.fresh (Nat.le_refl _)
    refine ⟨.ref h'.objs.size, _, J3, rfl, q _ _ L' (fun b o e => same_new fr b o (k1 b o e)) upd_same ?_ (fun z hz => ?_) ?_ srt⟩
    · cases c : H1 h'.objs.size with
      | none => rfl
      | some o =>
        rw [k1 _ _ c] at fr
        cases fr
    · have z1 := isT z (pm.mem_iff.mp hz)
      exact ⟨z1.1, same_new fr _ _ z1.2⟩
    · rw [← m2]
      exact pm.map _
section
variable {X : Cx}
def strKV : List (PyData × PyData) → Option (List (Str × Str))
  | [] => some []
  | (.str x, .str y) :: r => (strKV r).map ((x, y) :: ·)
  | _ => none
def sortItemsD : List PyData → Option PyData
  | [.dict ds] => (strKV ds).bind fun kvs => if kvs.length ≤ lim then some (.list ((sortU ltK (kvs.map fun p => [p.1, p.2])).map bT')) else none
  | _ => none
omit [TbC] in
theorem strKV_rp {K : PySem.W.Frag} {H : Hp} : ∀ {ds : List (PyData × PyData)} {kvs : List (Str × Str)} {us : List (Key × V)}, RpKvs K H us ds → strKV ds = some kvs → us = kvs.map fun p => (Sum.inr p.1, V.str p.2)
  | [], _, _, r, e => by
    cases r
    cases e
    rfl
  | (.str x, .str y) :: ds, _, _, r, e => by
    obtain ⟨ks, e1, rfl⟩ := Option.map_eq_some_iff.mp e
    generalize hx : PyData.str x = dx at r
    cases r with
    | @cons k v kvs' _ _ h t =>
      cases k with
      | inl i => cases hx
      | inr z =>
        cases hx
        cases h
        rw [strKV_rp t e1, List.map_cons]
theorem qd_sortItems {e : Expr} {w : ED} {p apos cpos pos : Pos} (hc : X.calm = true) (hg : Gl X "sorted") (hm : X.mg "sorted" = none) (he : PD X e w) (hbase : attributeBase e "items" X.env (eval e X.env) = eval e X.env := by rfl) (hline : (apos.endLine == cpos.line) = true := by rfl)
    (hs : starEach [.Call (.Attribute e "items" apos) [] [] cpos] X.env = (false, eval (.Call (.Attribute e "items" apos) [] [] cpos) X.env) :: starEach [] X.env := by rfl) :
    PD X (.Call (.Name "sorted" p) [.Call (.Attribute e "items" apos) [] [] cpos] [] pos) (eCall sortItemsD (aC w aN)) := qd_mk (pe_sortItems hc he hg hm hbase hline hs) fun {dk OB H0 O H σ ρ n Q Qd} S hw k => rd_W S hw fun v d H1 n1 f1 d1 r1 ⟨z, ez, q⟩ => by
  cases d with
  | dict ds =>
    cases r1 with
    | @dic a o us _ hd ha =>
    obtain ⟨kvs, ek, e2⟩ := Option.bind_eq_some_iff.mp (show (strKV ds).bind _ = some z from ez)
    obtain ⟨few, e2⟩ := ite_some e2
    subst e2
    have eu := strKV_rp ha ek
    subst eu
    refine ⟨a, o, kvs, rfl, hid_le _ _ hd, few, fun H' l L sm hl nl ts pm srt => ?_⟩
    have S1 := S.step f1 d1
    have eL : L.map (·.2) = sortU ltK (kvs.map fun p => [p.1, p.2]) := sort_uniq tot_key (pm.trans (sortU_perm _).symm) srt (sortU_srt tot_key _)
    refine k _ _ H' n1 (f1.trans (FrD.of sm)) (d1.same sm) (.lst (hid_at (S1.dom.new nl) hl) ?_) q
    rw [← eL]
    exact rps_keys fun q hq => ⟨.inl (.inl (hid_at ((S1.dom.same sm).tup (ts q hq).2) (ts q hq).2)), (ts q hq).1⟩
  | _ => cases ez
end
end My

namespace My
open PySem PySem.Spec PyProof.Rows L2
variable [TbC]
def defF (F : List PyData → Option PyData) : List PyData → Option PyData := fun xs => F (xs ++ [.int 0])
theorem pu_fnD {K : PySem.W.Frag} {F : List PyData → Option PyData} {ts : TA} {ws : AD} {E : XK} (hs : RdA K ts ws) : RdE K (tCall (spP K F) [V.int 0] E ts) (eCall (defF F) ws) := fun {dk OB H0 O H σ ρ n Q Qd} S hw k =>
  hs S hw fun vs ds H1 n1 f1 d1 r1 ⟨z, ez, q⟩ => ⟨O, ds ++ [.int 0], z, (S.step f1 d1).car, RpAll.app r1 (.cons (.int 0) .nil), (show F (ds ++ [.int 0]) = some z from ez), fun v H' f t r => k v z H' n1 (f1.trans f.up) (d1.tab f t) r q⟩
theorem qd_callD {X : Cx} {CX : CXT} {k : Nat} {f : Addr} {fd : FuncData} {ps : List Str} {dv : List Value} {F : List PyData → Option PyData} {x : Str} {e : Expr} {es : List Expr} {ws : AD} {p pos : Pos} {E : XK} (G : FnOk X.prog X.w X.K X.mg X.base CX k f fd ps (spP X.K F)) (hr : Room k X.A) (hg : Gl X x) (hm : X.mg x = some (.ref f))
    (hk : PySem.W.keepIn X.K (.ref f) = true) (hb : Binds X.K fd ps dv) (hv : Vals [V.int 0] dv) (hx : Passes CX X E) (ha : PDA X (e :: es) ws) (hdb : (x == ("__debug__" : Str)) = false := by decide) (he : starEach (e :: es) X.env = (false, eval e X.env) :: starEach es X.env := by rfl) (hpl : (backTo pos (starEach es X.env)).any (·.1) = false := by rfl) :
    PD X (.Call (.Name x p) (e :: es) [] pos) (eCall (defF F) ws) := qd_mk (pe_call G hr hg hm hk hb hv hx ha hdb he hpl) (pu_fnD rda_W)
theorem fn_okFD {P : Program} {w : World} {K : PySem.W.Frag} {mg : Str → Option Value} {base : Heap} {x qual : Str} {st : Stmt} {f : Addr} {fd : FuncData} {N ps : List Str} {k : Nat} {S : SF} {W : SD} {dvs : List V} {kws : List (Str × V)} (a b : Nat) (F : FunD K x qual (defArgs st) (defBody st) (defScope st) dvs kws f fd) (Sc : FnScope N ps (defScope st)) (ha : ps.length = a) (hb : N.length = b)
    (hw : ∀ (cdv : Value) (A : Around) (outer : List Env) (s : Shared) (H : Hp) (E : XK), Room k (A.deeper (envOfC qual (defScope st) s.heap.objs.size f cdv)) → PSDs (cxOf CX0 P w K mg base N qual (defScope st) f cdv A outer s H E).nox (defBody st) W)
    (hp : IsS W S) : FnOk P w K mg base CX0 (k + 1) f fd ps (spP K (fnF a b S)) := by
  have hF : ∀ ds d, fnF a b S ds = some d → ds.length = ps.length ∧ W (startD N ds) 0 (endD d) := fun ds d e => by
    obtain ⟨l, e⟩ := ite_is e
    obtain ⟨r, e1, e2⟩ := bind_is e
    refine ⟨by rw [ha]; exact l, ?_⟩
    have e1' : S (startD N ds) = some r := by
      unfold startD
      rw [hb]
      exact e1
    refine hp (startD N ds) 0 (endD d) r e1' ?_
    cases r with
    | nx ρ => cases e2; rfl
    | rt x => cases e2; rfl
    | bk ρ => cases e2
    | ct ρ => cases e2
  refine F.ok Sc (fun vs H Q E h => ?_) (fun cdv A outer s H vs Q E hr h => ?_)
  · obtain ⟨O, ds, d, _, r, e, _⟩ := h
    rw [r.len]
    exact (hF ds d e).1
  · obtain ⟨O, ds, d, dm, r, e, q⟩ := h
    refine ⟨_, PSs.nox (hw cdv A outer s H E hr), none, O, H, O, _, 0, endD d, str_start N dm r, (hF ds d e).2, ?_⟩
    refine ⟨fun O' H' σ' ρ' n' S' s' z => ?_, fun v d' H' n' f1 d1 r1 z => ?_, fun _ _ _ _ _ _ _ z => z.elim, fun _ _ _ _ _ _ _ z => z.elim⟩
    · have z' : d = .none := z
      exact q .non H' S'.fr S'.dok.2 (by rw [z']; exact .non)
    · have z' : d' = d := z
      exact q v H' f1 d1.2 (by rw [← z']; exact r1)
theorem funD_mk {K : PySem.W.Frag} {x qual : Str} {st : Stmt} {f T : Addr} {oc : Value} {od an : Option Addr} {osl : Array (Option Value)} {kV doc pm cdv ct : Value} {o : Obj} {t : Tok} {m : Nat} (l : K.lookup f = some ⟨oc, od, .func (PySem.W.fnOf x qual (defArgs st) (defBody st) (defScope st) (.ref T) kV doc pm an cdv ct), osl⟩)
    (c : PySem.W.codeIn K cdv qual = true) (k : PySem.W.keepIn K (.ref f) = true) (lT : K.lookup T = some o) (oT : o.data = .seq #[.int 0 t] m) : FunD K x qual (defArgs st) (defBody st) (defScope st) [V.int 0] [] f (PySem.W.fnOf x qual (defArgs st) (defBody st) (defScope st) (.ref T) kV doc pm an cdv ct) :=
  ⟨⟨oc, od, .ref T, kV, doc, pm, an, cdv, ct, osl, rfl, l, c, .inr ⟨List.cons_ne_nil _ _, T, o, [.int 0 t], m, rfl, lT, oT, .cons ⟨t, rfl⟩ .nil⟩, .inl rfl⟩, k⟩
end My

namespace My
open PySem PySem.Spec PyProof.Rows L2
abbrev tabO : Obj := { cls := .none, data := .fields #[] }
def EnT (Ps : List Addr) (H : Hp) : Prop := ∀ b u, H b = some u → (b ∈ Ps ∧ u = .tbl #[]) ∨ ∃ o xs, u = .frz o (.lst xs)
theorem entry_tabs {P : Program} {w : World} {K : PySem.W.Frag} {s : Shared} {a : Addr} {vs : List Value} {ns : List Int} {Ps : List Addr} (KX : K.In s.heap) (ha : s.heap.get? a = some { cls := .type "list", data := .seq vs.toArray }) (hi : IntsAre vs ns) (hl : ns.length ≤ sizeLine)
    (hT : ∀ p ∈ Ps, s.heap.get? p = some tabO) (nT : ∀ p ∈ Ps, K.lookup p = none) :
    ∃ H : Hp, EnT Ps H ∧ (∀ p ∈ Ps, H p = some (.tbl #[])) ∧ SqL K H a (ns.map V.int) ∧ HOk P w H s.heap ∧ ∀ b u, H b = some u → (b = a ∨ b ∈ Ps) ∧ K.lookup b = none := by
  obtain ⟨H0, hO, hS, hok, hA⟩ := entry_heap (P := P) (w := w) KX ha hi hl
  have aT : a ∉ Ps := fun z => by
    have e := hT a z
    rw [ha] at e
    have q : Data.seq vs.toArray _ = Data.fields #[] := congrArg Obj.data (Option.some.inj e)
    cases q
  have at0 : ∀ {b : Addr}, b ∉ Ps → (if b ∈ Ps then some (HO.tbl #[]) else H0 b) = H0 b := fun h => if_neg h
  refine ⟨fun b => if b ∈ Ps then some (.tbl #[]) else H0 b, fun b u e => ?_, fun p hp => if_pos hp, ?_, fun b u e => ?_, fun b u e => ?_⟩
  · by_cases hb : b ∈ Ps
    · exact .inl ⟨hb, (Option.some.inj ((if_pos hb).symm.trans e)).symm⟩
    · rcases hO b with z | ⟨o, xs, z⟩
      · rw [(at0 hb).symm.trans e] at z
        cases z
      · exact .inr ⟨o, xs, Option.some.inj (((at0 hb).symm.trans e).symm.trans z)⟩
  · rcases hS with (z | ⟨o, z⟩) | z
    · exact .inl (.inl ((at0 aT).trans z))
    · exact .inl (.inr ⟨o, (at0 aT).trans z⟩)
    · exact .inr z
  · by_cases hb : b ∈ Ps
    · cases (if_pos hb).symm.trans e
      exact hT b hb
    · have z := (at0 hb).symm.trans e
      rcases hO b with y | ⟨o, xs, y⟩
      · rw [y] at z
        cases z
      · rw [y] at z
        cases z
        exact hok b _ y
  · by_cases hb : b ∈ Ps
    · exact ⟨.inr hb, nT b hb⟩
    · have z := hA b u ((at0 hb).symm.trans e)
      exact ⟨.inl z.1, z.2⟩
section
variable {P : Program} {w : World} {K : PySem.W.Frag} {mg : Str → Option Value}
abbrev BmT (base : Heap) (mg : Str → Option Value) (Ps : List Addr) : Prop := ∀ p ∈ Ps, base.BuiltinsAt mg p ∧ mainGlobals ≠ p
theorem law_atT {mb : Str → Option Value} {k : Nat} {fa a : Addr} {fd : FuncData} {x : Str} {sp : Sp} {s : Shared} {vs : List Value} {ns : List Int} {Ps : List Addr} (KX : K.In s.heap) (hns : s.heap.Ns mainGlobals mg) (hb : s.heap.Ns builtinsNs mb)
    (hbb : ∀ x : Str, x ≠ "__name__" → mb x = bootBuiltins x) (hlim : s.heap.NoLimit) (hg : s.gens = #[]) (ha : s.heap.get? a = some { cls := .type "list", data := .seq vs.toArray }) (hi : IntsAre vs ns) (hl : ns.length ≤ sizeLine)
    (hT : ∀ p ∈ Ps, s.heap.get? p = some tabO) (nT : ∀ p ∈ Ps, K.lookup p = none) (hC : ∀ p ∈ Ps, ∃ c, PySem.W.CodeHd s.heap c p)
    (hbm : ∃ (bm : Addr) (ob : Obj), mg "__builtins__" = some (.ref bm) ∧ bm ≠ builtinsNs ∧ s.heap.get? bm = some ob ∧ ob.cls = .type "module" ∧ ob.dict = some builtinsNs ∧ ob.data = .plain)
    (hr : Room k callerA) (F : ∀ base : Heap, K.In base → base.Ns mainGlobals mg → BmT base mg Ps → RunG P w K mg base k fa fd [x] sp) (hbind : ∀ (s : Shared) (u : Value), BindsTo s fd ⟨[u], []⟩ [(x, u)])
    (hsp : ∀ H : Hp, (∀ p ∈ Ps, H p = some (.tbl #[])) → SqL K H a (ns.map V.int) → sp [.ref a] H (fun v _ => v = .bl true) fun _ _ _ => False) :
    codeAny (model P w) callerA (.call (.ref fa) ⟨[.ref a], []⟩) (fun r s' => r = .ok (.ret (.bool true)) ∧ OldK s.heap s'.heap ∧ s'.os = s.os ∧ AllBare s'.gens) s := by
  obtain ⟨H, hE, hH, hS, hok, hA⟩ := entry_tabs (P := P) (w := w) KX ha hi hl hT nT
  have clear : ∀ {b : Addr}, (∀ u, H b = some u → False) → H b = none := fun {b} z => by
    cases q : H b with
    | none => rfl
    | some u => exact (z u q).elim
  have far : ∀ {b : Addr} {o : Obj}, s.heap.get? b = some o → (∀ vs n, o.data ≠ .seq vs n) → o.data ≠ .fields #[] → H b = none := fun {b o} e h1 h2 => clear fun u q => by
    rcases (hA b u q).1 with z | z
    · rw [z, ha] at e
      cases e
      exact h1 _ _ rfl
    · rw [hT b z] at e
      cases e
      exact h2 rfl
  have nsK : ∀ {b : Addr} {m : Str → Option Value}, s.heap.Ns b m → (hidT s.heap H).Ns b m := fun {b m} ⟨o, es, ep, e, dt, r⟩ => ⟨o, es, ep, hidT_get e (far e (fun _ _ z => by rw [dt] at z; cases z) fun z => by rw [dt] at z; cases z), dt, r⟩
  have hKb : K.In (hidT s.heap H) := fun b o e => hidT_get (KX b o e) (clear fun u q => by
    rw [(hA b u q).2] at e
    cases e)
  have BM : BmT (hidT s.heap H) mg Ps := fun p hp => by
    have hTp := hT p hp
    refine ⟨?_, fun z => ?_⟩
    · obtain ⟨bm, ob, b1, b2, b3, b4, b5, b6⟩ := hbm
      refine ⟨bm, ob, b1, b2, fun q => ?_, fun q => ?_, hidT_get b3 (far b3 (fun _ _ z => by rw [b6] at z; cases z) fun z => by rw [b6] at z; cases z), b4, b5, b6⟩
      · obtain ⟨o, es, ep, e, hd, _⟩ := hns
        rw [q, e] at b3
        cases b3
        rw [hd] at b6
        cases b6
      · rw [q, hTp] at b3
        cases b3
        cases b6
    · obtain ⟨o, es, ep, e, hd, _⟩ := hns
      rw [z, hTp] at e
      cases e
      cases hd
  obtain ⟨mc, l1, l2⟩ := hlim
  have e0 : Env0 P w K mg (hidT s.heap H) callerA [] s H := ⟨rfl, ⟨hKb, nsK hns, ⟨mb, nsK hb, hbb⟩, ⟨mc, nsK l1, l2⟩⟩, fun b o e => of_hidT e, Nat.le_of_eq (hidT_size _ _), trivial, (fun b z => nomatch z), hok, .of_eq hg⟩
  refine codeAny_mono ((F _ hKb (nsK hns) BM).go callerA [] s H ⟨[.ref a], []⟩ [.ref a] [.ref a] _ _ rfl hr e0 (hbind s (.ref a)) (.cons rfl .nil) (hsp H hH hS)) fun r s' h => ?_
  cases r with
  | error e => exact h.elim
  | ok fl =>
    cases fl with
    | next => exact h.elim
    | brk => exact h.elim
    | cont => exact h.elim
    | ret u =>
      obtain ⟨v, H', os, bare, un, hok', rv, q⟩ := h
      cases (show v = .bl true from q)
      cases (show u = Value.bool true from rv)
      have key : ∀ b o, b ∉ Ps → s.heap.get? b = some o → s'.heap.get? b = some o := fun b o nb e => by
        cases q : H b with
        | none => exact un.keep b o e q (fun z => nomatch z) (fun z => nomatch z)
        | some u =>
          rcases hE b u q with ⟨z, _⟩ | ⟨ob, xs, z⟩
          · exact absurd z nb
          · rw [z] at q
            have e1 := (hok b _ q).1
            rw [e] at e1
            cases e1
            exact (hok' b _ (un.frzs b o _ q)).1
      have grown : ∀ p ∈ Ps, ∃ more : Array Value, s'.heap.get? p = some { cls := .none, data := .fields more } := fun p hp => by
        obtain ⟨more, z⟩ := un.tbls p #[] (hH p hp)
        exact ⟨_, hok' p _ z⟩
      refine ⟨rfl, ⟨fun b o e => ?_, fun b o e => ?_⟩, os, bare⟩
      · by_cases hb : b ∈ Ps
        · obtain ⟨more, hm⟩ := grown b hb
          obtain ⟨c, C⟩ := hC b hb
          rw [hT b hb] at e
          cases e
          exact .inr (.inl ⟨(C.tab (hT b hb)).isCodeTable, rfl, #[], more, rfl, by rw [Array.empty_append]; exact hm⟩)
        · exact .inl (key b o hb e)
      · by_cases hb : b ∈ Ps
        · obtain ⟨more, hm⟩ := grown b hb
          exact ⟨_, hm⟩
        · exact ⟨o, key b o hb e⟩
end
theorem tab_ok {K : PySem.W.Frag} {base : Heap} {mg : Str → Option Value} {c P : Addr} (X : K.In base) (hh : PySem.W.codeHdIn K c P = true) (b : base.BuiltinsAt mg P ∧ mainGlobals ≠ P) : LamX.TabB base mg c P := ⟨PySem.W.codeHd_of_K X hh, b.1, b.2⟩
abbrev UqT (T : List (Addr × Str)) : Prop := ∀ p ∈ T, ∀ q ∈ T, p.1 = q.1 → p.2 = q.2
theorem walk_tn {T : List (Addr × Str)} (uq : UqT T) {l : PySem.W.OpenLaw} {k : Nat} {q : Program} {loose : List Str} {XP : (Str → Option Value) → Heap → Prop} {d : DefRec} {K : Params → PySem.W.Frag} {as : List Addr} {e : ∀ P, as = (K P).map (·.1)} {x : Str}
    (hn : l.most = some 63) (hdf : d.params.defaults = []) (hr : Room k callerA) (nT : ∀ w : World, ∀ p ∈ T.map (·.1), (K w.params).lookup p = none)
    (F : ∀ (w : World) (mg : Str → Option Value) (fa : Addr) (h : Heap), (K w.params).In h → h.Ns mainGlobals mg → mg d.name = some (.ref fa) →
      ∃ fd : FuncData, (∀ (s : Shared) (u : Value), BindsTo s fd ⟨[u], []⟩ [(x, u)]) ∧ (∀ p ∈ T.map (·.1), ∃ c, PySem.W.codeHdIn (K w.params) c p = true) ∧ ∀ base : Heap, (K w.params).In base → base.Ns mainGlobals mg → BmT base mg (T.map (·.1)) → RunG l.prog w (K w.params) mg base k fa fd [x] (@spLaw ⟨T, uq, w⟩ (K w.params))) :
    PySem.W.WalkO q loose XP (PySem.W.kmHook K as e (T.map (·.1))).says l.row.toRowW d [] (fun f vs => PySem.call f vs) := by
  refine Att.attach_call hn hdf fun w s₀ s₁ mg mb fa o pm cd doc a vs ns G Y ho hd hcd hmg hobj hints hlen hg => ?_
  have KX := PySem.W.km_in_of Y
  obtain ⟨fd, hb, hC, hF⟩ := F w mg fa _ KX G.T.g hmg
  exact law_atT KX G.T.g G.T.b G.T.builtins G.T.nolimit hg hobj hints (by rw [sizeLine_eq]; omega) (PySem.W.km_tabs_of Y) (nT w) (fun p hp => let ⟨c, h⟩ := hC p hp; ⟨c, PySem.W.codeHd_of_K KX h⟩) G.T.bmain hr hF hb fun H hH hS => ⟨a, ns, rfl, hS, hlen, fun p hp => hH p.1 (List.mem_map.mpr ⟨p, hp, rfl⟩), fun _ => rfl⟩
end My

namespace My
open PySem PySem.Spec PyProof.Rows L2
def top (i : Nat) : Stmt := PySem.Challenge.pw_corestore_k00_worked_examples.main.body.getD i (.Pass ⟨0, 0, 0, 0⟩)
abbrev sIsWord : Stmt := top 4
abbrev sUnk : Stmt := top 5
abbrev s_is_variable : Stmt := top 6
abbrev s_is_open : Stmt := top 7
abbrev sUnkS : Stmt := top 8
abbrev sRen : Stmt := top 9
abbrev s_store_of : Stmt := top 10
abbrev sStoreBy : Stmt := top 11
abbrev sFactBy : Stmt := top 12
abbrev s_plain : Stmt := top 13
abbrev s_next_states : Stmt := top 14
abbrev s_named : Stmt := top 15
abbrev s_knots : Stmt := top 16
abbrev s_touches : Stmt := top 17
abbrev s_variables : Stmt := top 19
abbrev s_lead : Stmt := top 21
abbrev s_widened : Stmt := top 22
abbrev s_all_widened : Stmt := top 23
abbrev s_choices_left : Stmt := top 24
abbrev s_choices_for : Stmt := top 25
abbrev s_goals : Stmt := top 26
abbrev s_with_goal : Stmt := top 27
abbrev s_folding : Stmt := top 29
abbrev s_widened_pairs : Stmt := top 30
abbrev s_core : Stmt := top 31
abbrev s_blocks : Stmt := top 32
abbrev s_assignments : Stmt := top 37
abbrev s_is_there : Stmt := top 38
abbrev s_unlike : Stmt := top 39
abbrev s_least : Stmt := top 41
abbrev s_outcome : Stmt := top 42
abbrev s_handed : Stmt := top 43
abbrev s_came : Stmt := top 44
abbrev s_settled : Stmt := top 45
abbrev s_made_one : Stmt := top 46
abbrev s_follows : Stmt := top 48
abbrev s_refuted : Stmt := top 49
abbrev s_atoms_by : Stmt := top 50
abbrev sLaw : Stmt := top 52
end My

set_option linter.unusedVariables false
namespace My
open PySem PySem.Spec PyProof.Rows L2
def S_is_unknown : SF :=
  (fSeq (fIfS (tfOr (tfNot (tfE (fIsi (isC "str") (fV 0)))) (tfNot (tfE (fMeth startsD (fV 0) (fCo (fC (.str "?")) fN))))) (fRet (fC (.bool false))) fNil)
    (fSeq (fSet 1 (fSl slD (fV 0) (ofS (fC (.int 1))) ofN))
    (fRet (fAnd (fChain (ltD fun i j => decide (i ≤ j)) (ltD fun i j => decide (i ≤ j)) (fC (.int 1)) (fCall lenD (fCo (fV 1) fN)) (fC (.int 5))) (fAnd (fOp neD (fOp ixD (fV 1) (fC (.int 0))) (fC (.str "0"))) (fCall allD (fCo (fLc (afV (fV 1)) (gN 2) tfYes (fOp (inD false) (fV 2) (fC (.str "0123456789"))) [2]) fN)))))))
def F_is_unknown : List PyData → Option PyData := fnF 1 3 S_is_unknown
end My

set_option linter.unusedVariables false
namespace My
open PySem PySem.Spec PyProof.Rows L2
def S_unknowns : SF :=
  (fRet (fCall tupD1 (fCo (fSort vS bS ltS (afV (fV 0)) (gN 1) tfYes (fTwo (afV (fSl slD (fV 1) (ofS (fC (.int 1))) ofN)) (gN 2) (tfE (fCall F_is_unknown (fCo (fV 2) fN))) (fOne (fV 2)) [2]) [1, 2]) fN)))
def F_unknowns : List PyData → Option PyData := fnF 1 3 S_unknowns
end My

set_option linter.unusedVariables false
namespace My
open PySem PySem.Spec PyProof.Rows L2
def S_named : SF :=
  (fSeq (fMakeK 3 (fCo (fV 0) fN))
    (fSeq (fFor (afV (fSl slD (fV 1) (ofS (fC (.int 1))) ofN)) (gN 4) (fIfS (tfAnd (tfE (fCall F_is_unknown (fCo (fV 4) fN))) (tfE (fOIn true 3 (fV 4)))) (fPutK 3 (fV 4) (fOp ixD (fV 2) (fOLen 3))) fNil))
    (fGiveK 3 (fRet (fV 3)))))
def F_named : List PyData → Option PyData := fnF 3 5 S_named
end My

set_option linter.unusedVariables false
namespace My
open PySem PySem.Spec PyProof.Rows L2
def S_fact_by : SF :=
  (fRet (fCall tupD1 (fCo (fLc (afV (fV 0)) (gN 2) tfYes (fGet (fV 1) (fV 2) (fV 2)) [2]) fN)))
def F_fact_by : List PyData → Option PyData := fnF 2 3 S_fact_by
end My

set_option linter.unusedVariables false
namespace My
open PySem PySem.Spec PyProof.Rows L2
def S_next_states : SF :=
  (fSeq (fNewL 2)
    (fSeq (fFor (afV (fV 0)) (gT 2 (gsC (gN 3) (gsC (gN 4) gsN))) (fFor (afV (fV 4)) (gN 5) (fSeq (fSet 6 (fCall F_named (fCo (fV 3) (fCo (fV 5) (fCo (fV 1) fN)))))
    (fApp 2 (fTup (fCo (fCall F_fact_by (fCo (fV 5) (fCo (fV 6) fN))) (fCo (fV 6) (fCo (fLc (afV (fV 4)) (gN 8) (tfE (fOp neD (fV 8) (fV 5))) (fV 8) [8]) fN))))))))
    (fGive 2 (fSeq (fSet 7 (fCall minDD (fCo (fLc (afV (fV 2)) (gN 9) tfYes (fOp ixD (fV 9) (fC (.int 0))) [9]) fN)))
    (fRet (fLc (afV (fV 2)) (gT 3 (gsC (gN 5) (gsC (gN 3) (gsC (gN 4) gsN)))) (tfE (fOp eqD (fV 5) (fV 7))) (fTup (fCo (fV 3) (fCo (fV 4) fN))) [5, 3, 4]))))))
def F_next_states : List PyData → Option PyData := fnF 2 10 S_next_states
end My

set_option linter.unusedVariables false
namespace My
open PySem PySem.Spec PyProof.Rows L2
def S_store_of : SF :=
  (fRet (fCall tupD1 (fCo (fSortSet vT bT' ltK (fV 0)) fN)))
def F_store_of : List PyData → Option PyData := fnF 1 1 S_store_of
end My

set_option linter.unusedVariables false
namespace My
open PySem PySem.Spec PyProof.Rows L2
def S_store_by : SF :=
  (fRet (fCall F_store_of (fCo (fLc (afV (fV 0)) (gN 2) tfYes (fCall F_fact_by (fCo (fV 2) (fCo (fV 1) fN))) [2]) fN)))
def F_store_by : List PyData → Option PyData := fnF 2 3 S_store_by
end My

set_option linter.unusedVariables false
namespace My
open PySem PySem.Spec PyProof.Rows L2
def S_plain : SF :=
  (fSeq (fSet 1 (fCall lenD (fCo (fCall F_unknowns (fCo (fV 0) fN)) fN)))
    (fSeq (fSet 2 (fCall sortSD (fCo (fLc (afR (fCo (fV 1) fN)) (gN 4) tfYes (fFs "?" (fOp addD (fV 4) (fC (.int 1)))) [4]) fN)))
    (fSeq (fSet 3 (fLst (fCo (fTup (fCo (fC (.dict [])) (fCo (fV 0) fN))) fN)))
    (fSeq (whileF (tfE (fOp (ltD fun i j => decide (i < j)) (fCall lenKD (fCo (fOp ixD (fOp ixD (fV 3) (fC (.int 0))) (fC (.int 0))) fN)) (fV 1))) (fSet 3 (fCall F_next_states (fCo (fV 3) (fCo (fV 2) fN)))) 1000000)
    (fRet (fCall minDD (fCo (fLc (afV (fV 3)) (gT 2 (gsC (gN 5) (gsC (gN 6) gsN))) tfYes (fCall F_store_by (fCo (fV 0) (fCo (fV 5) fN))) [5, 6]) fN)))))))
def F_plain : List PyData → Option PyData := fnF 1 7 S_plain
end My

set_option linter.unusedVariables false
namespace My
open PySem PySem.Spec PyProof.Rows L2
def S_is_open : SF :=
  (fRet (fOp (inD true) (fOp ixD (fV 0) (fC (.int 0))) (fC (.str "abcdefghijklmnopqrstuvwxyz"))))
def F_is_open : List PyData → Option PyData := fnF 1 1 S_is_open
end My

set_option linter.unusedVariables false
namespace My
open PySem PySem.Spec PyProof.Rows L2
def S_touches : SF :=
  (fRet (fCall anyD (fCo (fLc2 (afV (fV 0)) (gN 2) tfYes (fTwo (afV (fSl slD (fV 1) (ofS (fC (.int 1))) ofN)) (gN 3) (tfE (fCall F_is_open (fCo (fV 3) fN))) (fOne (fOp (inD false) (fV 3) (fV 2))) [3]) [2, 3]) fN)))
def F_touches : List PyData → Option PyData := fnF 2 4 S_touches
end My

set_option linter.unusedVariables false
namespace My
open PySem PySem.Spec PyProof.Rows L2
def S_knots : SF :=
  (fSeq (fSet 1 (fLst fN))
    (fSeq (fFor (afV (fV 0)) (gN 2) (fSeq (fSet 3 (fLc2 (afV (fV 1)) (gN 4) (tfE (fCall F_touches (fCo (fV 4) (fCo (fV 2) fN)))) (fTwo (afV (fV 4)) (gN 5) tfYes (fOne (fV 5)) [5]) [4, 5]))
    (fSet 1 (fOp addD (fLc (afV (fV 1)) (gN 4) (tfNot (tfE (fCall F_touches (fCo (fV 4) (fCo (fV 2) fN))))) (fV 4) [4]) (fLst (fCo (fOp addD (fV 3) (fLst (fCo (fV 2) fN))) fN))))))
    (fRet (fV 1))))
def F_knots : List PyData → Option PyData := fnF 1 6 S_knots
end My

set_option linter.unusedVariables false
namespace My
open PySem PySem.Spec PyProof.Rows L2
def S_with_goal : SF :=
  (fSeq (fIfS (tfOr (tfE (fOp neD (fOp ixD (fV 1) (fC (.int 0))) (fOp ixD (fV 2) (fC (.int 0))))) (tfE (fOp neD (fCall lenD (fCo (fV 1) fN)) (fCall lenD (fCo (fV 2) fN))))) (fRet (fC .none)) fNil)
    (fSeq (fMakeK 3 (fCo (fV 0) fN))
    (fSeq (fFor (afZk (fCo (fSl slD (fV 1) (ofS (fC (.int 1))) ofN) (fCo (fSl slD (fV 2) (ofS (fC (.int 1))) ofN) fN))) (gT 2 (gsC (gN 4) (gsC (gN 5) gsN))) (fSeq (fIfS (tfAnd (tfE (fOIn true 3 (fV 4))) (tfE (fCall F_is_open (fCo (fV 4) fN)))) (fPutK 3 (fV 4) (fV 5)) fNil)
    (fIfS (tfE (fOp neD (fOGet 3 (fV 4) (fV 4)) (fV 5))) (fRet (fC .none)) fNil)))
    (fGiveK 3 (fRet (fV 3))))))
def F_with_goal : List PyData → Option PyData := fnF 3 6 S_with_goal
end My

set_option linter.unusedVariables false
namespace My
open PySem PySem.Spec PyProof.Rows L2
def S_goals : SF :=
  (fRet (fLc (afV (fV 1)) (gN 3) (tfE (fOp (isND true) (fCall F_with_goal (fCo (fV 2) (fCo (fV 0) (fCo (fV 3) fN)))) (fC .none))) (fV 3) [3]))
def F_goals : List PyData → Option PyData := fnF 3 4 S_goals
end My

set_option linter.unusedVariables false
namespace My
open PySem PySem.Spec PyProof.Rows L2
def S_choices_left : SF :=
  (fRet (fLc (afV (fV 0)) (gT 2 (gsC (gN 3) (gsC (gN 4) gsN))) (tfE (fOp neD (fV 3) (fV 1))) (fTup (fCo (fV 3) (fCo (fCall F_goals (fCo (fV 3) (fCo (fV 4) (fCo (fV 2) fN)))) fN))) [3, 4]))
def F_choices_left : List PyData → Option PyData := fnF 3 5 S_choices_left
end My

set_option linter.unusedVariables false
namespace My
open PySem PySem.Spec PyProof.Rows L2
def S_widened (self_ : List PyData → Option PyData) : SF :=
  (fSeq (fIfS (tfNot (tfTr (fV 1))) (fRet (fV 0)) fNil)
    (fSeq (fAsg (fCall minLenD (fCo (fV 1) fN)) (gT 2 (gsC (gN 2) (gsC (gN 3) gsN))))
    (fSeq (fFor (afV (fV 3)) (gN 4) (fSeq (fSet 5 (fCall F_with_goal (fCo (fV 0) (fCo (fV 2) (fCo (fV 4) fN)))))
    (fSeq (fSet 6 (fCall self_ (fCo (fV 5) (fCo (fCall F_choices_left (fCo (fV 1) (fCo (fV 2) (fCo (fV 5) fN)))) fN))))
    (fIfS (tfE (fOp (isND true) (fV 6) (fC .none))) (fRet (fV 6)) fNil))))
    (fRet (fC .none)))))
def R_widened : Nat → List PyData → Option PyData
  | 0 => fun _ => none
  | D + 1 => fnF 2 7 (S_widened (R_widened D))
def F_widened : List PyData → Option PyData := R_widened 40
end My

set_option linter.unusedVariables false
namespace My
open PySem PySem.Spec PyProof.Rows L2
def S_choices_for : SF :=
  (fRet (fLc (afV (fV 0)) (gN 3) tfYes (fTup (fCo (fV 3) (fCo (fCall F_goals (fCo (fV 3) (fCo (fV 1) (fCo (fV 2) fN)))) fN))) [3]))
def F_choices_for : List PyData → Option PyData := fnF 3 4 S_choices_for
end My

set_option linter.unusedVariables false
namespace My
open PySem PySem.Spec PyProof.Rows L2
def S_lead : SF :=
  (fSeq (fSet 2 (fC (.dict [])))
    (fSeq (fFor (afV (fCall F_knots (fCo (fV 0) fN))) (gN 3) (fSeq (fSet 2 (fCall F_widened (fCo (fV 2) (fCo (fCall F_choices_for (fCo (fV 3) (fCo (fV 1) (fCo (fV 2) fN)))) fN))))
    (fIfS (tfE (fOp (isND false) (fV 2) (fC .none))) (fRet (fC .none)) fNil)))
    (fRet (fCall tupD1 (fCo (fCall sortItemsD (fCo (fV 2) fN)) fN)))))
def F_lead : List PyData → Option PyData := fnF 2 4 S_lead
end My

set_option linter.unusedVariables false
namespace My
open PySem PySem.Spec PyProof.Rows L2
def S_widened_pairs : SF :=
  (fSeq (fSet 2 (fCall dictD1 (fCo (fV 0) fN)))
    (fRet (fCall tupD1 (fCo (fLc (afV (fCall F_unknowns (fCo (fV 1) fN))) (gN 3) tfYes (fTup (fCo (fV 3) (fCo (fGet (fV 2) (fV 3) (fV 3)) fN))) [3]) fN))))
def F_widened_pairs : List PyData → Option PyData := fnF 2 4 S_widened_pairs
end My

set_option linter.unusedVariables false
namespace My
open PySem PySem.Spec PyProof.Rows L2
def S_folding : SF :=
  (fSeq (fFor (afV (fCall F_knots (fCo (fV 0) fN))) (gN 1) (fFor (afV (fCall F_unknowns (fCo (fV 1) fN))) (gN 2) (fSeq (fSet 3 (fCall F_lead (fCo (fV 1) (fCo (fLc (afV (fV 0)) (gN 4) (tfE (fOp (inD true) (fV 2) (fV 4))) (fV 4) [4]) fN))))
    (fIfS (tfE (fOp (isND true) (fV 3) (fC .none))) (fRet (fCall F_widened_pairs (fCo (fV 3) (fCo (fV 0) fN)))) fNil))))
    (fRet (fC .none)))
def F_folding : List PyData → Option PyData := fnF 1 5 S_folding
end My

set_option linter.unusedVariables false
namespace My
open PySem PySem.Spec PyProof.Rows L2
def S_renamed : SF :=
  (fRet (fCall F_store_by (fCo (fV 0) (fCo (fCall dictD1 (fCo (fV 1) fN)) fN))))
def F_renamed : List PyData → Option PyData := fnF 2 2 S_renamed
end My

set_option linter.unusedVariables false
namespace My
open PySem PySem.Spec PyProof.Rows L2
def S_core : SF :=
  (fSeq (fSet 1 (fCall F_folding (fCo (fV 0) fN)))
    (fSeq (whileF (tfE (fOp (isND true) (fV 1) (fC .none))) (fSeq (fSet 0 (fCall F_renamed (fCo (fV 0) (fCo (fV 1) fN))))
    (fSet 1 (fCall F_folding (fCo (fV 0) fN)))) 1000000)
    (fRet (fCall F_plain (fCo (fV 0) fN)))))
def F_core : List PyData → Option PyData := fnF 1 2 S_core
end My

set_option linter.unusedVariables false
namespace My
open PySem PySem.Spec PyProof.Rows L2
def S_blocks : SF :=
  (fRet (fCall tupD1 (fCo (fCall sortTD (fCo (fLc (afV (fCall F_knots (fCo (fV 0) fN))) (gN 1) (tfTr (fCall F_unknowns (fCo (fV 1) fN))) (fCall F_unknowns (fCo (fV 1) fN)) [1]) fN)) fN)))
def F_blocks : List PyData → Option PyData := fnF 1 2 S_blocks
end My

set_option linter.unusedVariables false
namespace My
open PySem PySem.Spec PyProof.Rows L2
def S_unlike : SF :=
  (fSeq (fAsg (fV 0) (gT 2 (gsC (gN 2) (gsC (gN 3) gsN))))
    (fSeq (fNewT 4)
    (fSeq (fFor (afV (fV 1)) (gN 5) (fIfS (tfE (fOp eqD (fOp ixD (fV 5) (fC (.int 0))) (fV 2))) (fSeq (fSet 6 (fCall tupD1 (fCo (fLc (afV (fV 3)) (gN 8) tfYes (fOp ixD (fV 5) (fOp addD (fV 8) (fC (.int 1)))) [8]) fN)))
    (fPutT 4 (fV 6) (fOp addD (fTGet 4 (fV 6) (fTup fN)) (fTup (fCo (fV 5) fN))))) fNil))
    (fSeq (fFor (afV (fTVals 4)) (gN 7) (fIfS (tfE (fOp (ltD fun i j => decide (j < i)) (fCall lenD (fCo (fV 7) fN)) (fC (.int 1)))) (fRet (fTup (fCo (fOp ixD (fV 7) (fC (.int 0))) (fCo (fOp ixD (fV 7) (fC (.int 1))) fN)))) fNil))
    (fRet (fC .none))))))
def F_unlike : List PyData → Option PyData := fnF 2 9 S_unlike
end My

set_option linter.unusedVariables false
namespace My
open PySem PySem.Spec PyProof.Rows L2
def S_made_one : SF :=
  (fSeq (fFor (afV (fV 1)) (gN 2) (fSeq (fSet 3 (fCall F_unlike (fCo (fV 2) (fCo (fV 0) fN))))
    (fIfS (tfE (fOp (isND true) (fV 3) (fC .none))) (fSeq (fSet 4 (fLc (afZk (fCo (fOp ixD (fV 3) (fC (.int 0))) (fCo (fOp ixD (fV 3) (fC (.int 1))) fN))) (gT 2 (gsC (gN 5) (gsC (gN 6) gsN))) (tfE (fOp neD (fV 5) (fV 6))) (fTup (fCo (fV 5) (fCo (fV 6) fN))) [5, 6]))
    (fRet (fTup (fCo (fCall minDD (fCo (fOp ixD (fV 4) (fC (.int 0))) fN)) (fCo (fCall maxDD (fCo (fOp ixD (fV 4) (fC (.int 0))) fN)) fN))))) fNil)))
    (fRet (fC .none)))
def F_made_one : List PyData → Option PyData := fnF 2 7 S_made_one
end My

set_option linter.unusedVariables false
namespace My
open PySem PySem.Spec PyProof.Rows L2
def S_is_word : SF :=
  (fSeq (fIfS (tfNot (tfE (fIsi (isC "str") (fV 0)))) (fRet (fC (.bool false))) fNil)
    (fRet (fAnd (fChain (ltD fun i j => decide (i ≤ j)) (ltD fun i j => decide (i ≤ j)) (fC (.int 1)) (fCall lenD (fCo (fV 0) fN)) (fC (.int 8))) (fCall allD (fCo (fLc (afV (fV 0)) (gN 1) tfYes (fOp (inD false) (fV 1) (fC (.str "abcdefghijklmnopqrstuvwxyz"))) [1]) fN)))))
def F_is_word : List PyData → Option PyData := fnF 1 2 S_is_word
end My

set_option linter.unusedVariables false
namespace My
open PySem PySem.Spec PyProof.Rows L2
def S_settled : SF :=
  (fSeq (fSet 2 (fC (.dict [])))
    (fSeq (fSet 3 (fCall F_made_one (fCo (fV 0) (fCo (fV 1) fN))))
    (fSeq (whileF (tfE (fOp (isND true) (fV 3) (fC .none))) (fSeq (fAsg (fV 3) (gT 2 (gsC (gN 4) (gsC (gN 5) gsN))))
    (fSeq (fIfS (tfE (fCall F_is_word (fCo (fV 4) fN))) (fRet (fTup (fCo (fC .none) (fCo (fV 2) fN)))) fNil)
    (fSeq (fSet 2 (fCall dictD1 (fCo (fOp addD (fLc (afKi (fV 2)) (gT 2 (gsC (gN 6) (gsC (gN 7) gsN))) tfYes (fTup (fCo (fV 6) (fCo (fIf (tfE (fOp eqD (fV 7) (fV 4))) (fV 5) (fV 7)) fN))) [6, 7]) (fLst (fCo (fTup (fCo (fV 4) (fCo (fV 5) fN))) fN))) fN)))
    (fSeq (fSet 0 (fCall F_store_by (fCo (fV 0) (fCo (fV 2) fN))))
    (fSet 3 (fCall F_made_one (fCo (fV 0) (fCo (fV 1) fN)))))))) 1000000)
    (fRet (fTup (fCo (fV 0) (fCo (fV 2) fN)))))))
def F_settled : List PyData → Option PyData := fnF 2 8 S_settled
end My

set_option linter.unusedVariables false
namespace My
open PySem PySem.Spec PyProof.Rows L2
def S_all_widened (self_ : List PyData → Option PyData) : SF :=
  (fSeq (fIfS (tfNot (tfTr (fV 1))) (fRet (fLst (fCo (fV 0) fN))) fNil)
    (fSeq (fAsg (fCall minLenD (fCo (fV 1) fN)) (gT 2 (gsC (gN 2) (gsC (gN 3) gsN))))
    (fSeq (fNewL 4)
    (fSeq (fFor (afV (fV 3)) (gN 5) (fSeq (fSet 6 (fCall F_with_goal (fCo (fV 0) (fCo (fV 2) (fCo (fV 5) fN)))))
    (fExt 4 (fCall self_ (fCo (fV 6) (fCo (fCall F_choices_left (fCo (fV 1) (fCo (fV 2) (fCo (fV 6) fN)))) fN))))))
    (fGive 4 (fRet (fV 4)))))))
def R_all_widened : Nat → List PyData → Option PyData
  | 0 => fun _ => none
  | D + 1 => fnF 2 7 (S_all_widened (R_all_widened D))
def F_all_widened : List PyData → Option PyData := R_all_widened 40
end My

set_option linter.unusedVariables false
namespace My
open PySem PySem.Spec PyProof.Rows L2
def S_assignments : SF :=
  (fSeq (fSet 2 (fCall F_all_widened (fCo (fC (.dict [])) (fCo (fCall F_choices_for (fCo (fV 0) (fCo (fV 1) (fCo (fC (.dict [])) fN)))) fN))))
    (fRet (fSortN neN (afV (fV 2)) (gN 3) tfYes (fOne (fCall tupD1 (fCo (fCall sortItemsD (fCo (fV 3) fN)) fN))) [3])))
def F_assignments : List PyData → Option PyData := fnF 2 4 S_assignments
end My

set_option linter.unusedVariables false
namespace My
open PySem PySem.Spec PyProof.Rows L2
def S_is_variable : SF :=
  (fRet (fAnd (fIsi (isC "str") (fV 0)) (fAnd (fOp eqD (fCall lenD (fCo (fV 0) fN)) (fC (.int 1))) (fOp (inD false) (fV 0) (fC (.str "ABCDEFGHIJKLMNOPQRSTUVWXYZ"))))))
def F_is_variable : List PyData → Option PyData := fnF 1 1 S_is_variable
end My

set_option linter.unusedVariables false
namespace My
open PySem PySem.Spec PyProof.Rows L2
def S_variables : SF :=
  (fRet (fSort vS bS ltS (afV (fV 0)) (gN 1) tfYes (fTwo (afV (fSl slD (fV 1) (ofS (fC (.int 1))) ofN)) (gN 2) (tfE (fCall F_is_variable (fCo (fV 2) fN))) (fOne (fV 2)) [2]) [1, 2]))
def F_variables : List PyData → Option PyData := fnF 1 3 S_variables
end My

set_option linter.unusedVariables false
namespace My
open PySem PySem.Spec PyProof.Rows L2
def S_came : SF :=
  (fSeq (fNewL 3)
    (fSeq (fFor (afV (fV 0)) (gT 2 (gsC (gN 4) (gsC (gN 5) gsN))) (fFor (afV (fCall F_assignments (fCo (fV 4) (fCo (fV 1) fN)))) (gN 6) (fSeq (fMakeK 7 (fCo (fV 6) fN))
    (fSeq (fFor (afV (fCall F_variables (fCo (fV 5) fN))) (gN 8) (fIfS (tfE (fOIn true 7 (fV 8))) (fSeq (fAug 2 (fC (.int 1)))
    (fPutK 7 (fV 8) (fFs "?" (fV 2)))) fNil))
    (fGiveK 7 (fExt 3 (fLc (afV (fV 5)) (gN 9) tfYes (fCall F_fact_by (fCo (fV 9) (fCo (fV 7) fN))) [9])))))))
    (fGive 3 (fRet (fCall F_store_of (fCo (fV 3) fN))))))
def F_came : List PyData → Option PyData := fnF 3 10 S_came
end My

set_option linter.unusedVariables false
namespace My
open PySem PySem.Spec PyProof.Rows L2
def S_handed : SF :=
  (fSeq (fAsg (fV 0) (gT 2 (gsC (gN 2) (gsC (gN 3) gsN))))
    (fRet (fOp ixD (fCall F_settled (fCo (fCall (defF F_came) (fCo (fV 2) (fCo (fV 1) fN))) (fCo (fV 3) fN))) (fC (.int 0)))))
def F_handed : List PyData → Option PyData := fnF 2 4 S_handed
end My

set_option linter.unusedVariables false
namespace My
open PySem PySem.Spec PyProof.Rows L2
def S_outcome : SF :=
  (fSeq (fSet 2 (fCall F_handed (fCo (fV 0) (fCo (fV 1) fN))))
    (fRet (fIf (tfE (fOp (isND false) (fV 2) (fC .none))) (fC .none) (fCall F_core (fCo (fV 2) fN)))))
def F_outcome : List PyData → Option PyData := fnF 2 3 S_outcome
end My

set_option linter.unusedVariables false
namespace My
open PySem PySem.Spec PyProof.Rows L2
def S_least : SF :=
  (fSeq (fSet 2 (fCall F_outcome (fCo (fV 0) (fCo (fV 1) fN))))
    (fSeq (fIfS (tfE (fOp (isND false) (fV 2) (fC .none))) fBad fNil)
    (fRet (fV 2))))
def F_least : List PyData → Option PyData := fnF 2 3 S_least
end My

set_option linter.unusedVariables false
namespace My
open PySem PySem.Spec PyProof.Rows L2
def S_atoms_by : SF :=
  (fRet (fCall tupD1 (fCo (fLc (afV (fV 0)) (gN 2) tfYes (fCall F_fact_by (fCo (fV 2) (fCo (fV 1) fN))) [2]) fN)))
def F_atoms_by : List PyData → Option PyData := fnF 2 3 S_atoms_by
end My

set_option linter.unusedVariables false
namespace My
open PySem PySem.Spec PyProof.Rows L2
def S_is_there : SF :=
  (fSeq (fSet 3 (fCall dictD1 (fCo (fV 1) fN)))
    (fRet (fOp (isND true) (fCall F_widened (fCo (fV 3) (fCo (fCall F_choices_for (fCo (fV 0) (fCo (fV 2) (fCo (fV 3) fN)))) fN))) (fC .none))))
def F_is_there : List PyData → Option PyData := fnF 3 4 S_is_there
end My

set_option linter.unusedVariables false
namespace My
open PySem PySem.Spec PyProof.Rows L2
def S_refuted (self_ : List PyData → Option PyData) : SF :=
  (fSeq (fAsg (fV 1) (gT 2 (gsC (gN 2) (gsC (gN 3) gsN))))
    (fSeq (fAsg (fV 0) (gT 2 (gsC (gN 4) (gsC (gN 5) gsN))))
    (fSeq (fAsg (fCall F_settled (fCo (fCall (defF F_came) (fCo (fV 4) (fCo (fCall F_store_of (fCo (fV 2) fN)) fN))) (fCo (fV 5) fN))) (gT 2 (gsC (gN 6) (gsC (gN 7) gsN))))
    (fSeq (fIfS (tfE (fOp (isND false) (fV 6) (fC .none))) (fRet (fC .none)) fNil)
    (fSeq (fIfS (tfE (fCall anyD (fCo (fLc (afV (fCall F_variables (fCo (fV 2) fN))) (gN 8) tfYes (fOp (inKD false) (fV 8) (fV 7)) [8]) fN))) (fRet (fCall self_ (fCo (fV 0) (fCo (fTup (fCo (fCall F_atoms_by (fCo (fV 2) (fCo (fV 7) fN))) (fCo (fCall F_atoms_by (fCo (fV 3) (fCo (fV 7) fN))) fN))) fN)))) fNil)
    (fSeq (fIfS (tfE (fCall F_is_there (fCo (fV 3) (fCo (fLc (afV (fCall F_variables (fCo (fV 2) fN))) (gN 8) tfYes (fTup (fCo (fV 8) (fCo (fV 8) fN))) [8]) (fCo (fV 6) fN))))) (fRet (fC .none)) fNil)
    (fRet (fV 2))))))))
def R_refuted : Nat → List PyData → Option PyData
  | 0 => fun _ => none
  | D + 1 => fnF 2 9 (S_refuted (R_refuted D))
def F_refuted : List PyData → Option PyData := R_refuted 40
end My

set_option linter.unusedVariables false
namespace My
open PySem PySem.Spec PyProof.Rows L2
def S_follows : SF :=
  (fRet (fOp (isND false) (fCall F_refuted (fCo (fV 0) (fCo (fV 1) fN))) (fC .none)))
def F_follows : List PyData → Option PyData := fnF 2 2 S_follows
end My

set_option maxRecDepth 1000000
set_option linter.unusedVariables false
set_option maxHeartbeats 4000000
namespace My
open PySem PySem.Spec PyProof.Rows L2
def S_law : SF :=
  (fSeq (fSet 1 (fTup (fCo (fTup (fCo (fC (.str "has")) (fCo (fC (.str "?3")) (fCo (fC (.str "ann")) fN)))) (fCo (fTup (fCo (fC (.str "has")) (fCo (fC (.str "?7")) (fCo (fC (.str "ann")) fN)))) (fCo (fTup (fCo (fC (.str "in")) (fCo (fC (.str "?3")) (fCo (fC (.str "rome")) fN)))) fN)))))
    (fSeq (fSet 2 (fTup (fCo (fTup (fCo (fC (.str "has")) (fCo (fC (.str "?1")) (fCo (fC (.str "ann")) fN)))) (fCo (fTup (fCo (fC (.str "in")) (fCo (fC (.str "?1")) (fCo (fC (.str "rome")) fN)))) fN))))
    (fSeq (fIfS (tfE (fOp neD (fRepr (fCall F_plain (fCo (fV 1) fN))) (fRepr (fTup (fCo (fTup (fCo (fC (.str "has")) (fCo (fC (.str "?1")) (fCo (fC (.str "ann")) fN)))) (fCo (fTup (fCo (fC (.str "has")) (fCo (fC (.str "?2")) (fCo (fC (.str "ann")) fN)))) (fCo (fTup (fCo (fC (.str "in")) (fCo (fC (.str "?1")) (fCo (fC (.str "rome")) fN)))) fN))))))) (fRet (fC (.bool false))) fNil)
    (fSeq (fIfS (tfE (fOp neD (fRepr (fCall F_lead (fCo (fV 1) (fCo (fTup (fCo (fTup (fCo (fC (.str "has")) (fCo (fC (.str "eve")) (fCo (fC (.str "ann")) fN)))) (fCo (fTup (fCo (fC (.str "in")) (fCo (fC (.str "eve")) (fCo (fC (.str "rome")) fN)))) fN))) fN)))) (fRepr (fTup (fCo (fTup (fCo (fC (.str "?3")) (fCo (fC (.str "eve")) fN))) (fCo (fTup (fCo (fC (.str "?7")) (fCo (fC (.str "eve")) fN))) fN)))))) (fRet (fC (.bool false))) fNil)
    (fSeq (fSet 3 (fLst (fCo (fCall F_folding (fCo (fV 1) fN)) (fCo (fCall F_core (fCo (fV 1) fN)) (fCo (fCall F_blocks (fCo (fV 1) fN)) fN)))))
    (fSeq (fIfS (tfE (fOp neD (fRepr (fV 3)) (fRepr (fLst (fCo (fTup (fCo (fTup (fCo (fC (.str "?3")) (fCo (fC (.str "?3")) fN))) (fCo (fTup (fCo (fC (.str "?7")) (fCo (fC (.str "?3")) fN))) fN))) (fCo (fV 2) (fCo (fTup (fCo (fTup (fCo (fC (.str "?3")) fN)) (fCo (fTup (fCo (fC (.str "?7")) fN)) fN))) fN))))))) (fRet (fC (.bool false))) fNil)
    (fSeq (fSet 4 (fTup (fCo (fTup (fCo (fTup (fCo (fC (.str "emp")) (fCo (fC (.str "A")) (fCo (fC (.str "B")) fN)))) fN)) (fCo (fTup (fCo (fTup (fCo (fC (.str "has")) (fCo (fC (.str "C")) (fCo (fC (.str "A")) fN)))) (fCo (fTup (fCo (fC (.str "in")) (fCo (fC (.str "C")) (fCo (fC (.str "B")) fN)))) fN))) fN))))
    (fSeq (fSet 5 (fTup (fCo (fTup (fCo (fC (.str "emp")) (fCo (fC (.str "ann")) (fCo (fC (.str "rome")) fN)))) (fCo (fTup (fCo (fC (.str "emp")) (fCo (fC (.str "bob")) (fCo (fC (.str "rome")) fN)))) fN))))
    (fSeq (fSet 6 (fC (.tuple [(.tuple [(.str "has"), (.str "?1"), (.str "ann")]), (.tuple [(.str "has"), (.str "?2"), (.str "bob")]), (.tuple [(.str "in"), (.str "?1"), (.str "rome")]), (.tuple [(.str "in"), (.str "?2"), (.str "rome")])])))
    (fSeq (fSet 7 (fLst (fCo (fCall F_least (fCo (fTup (fCo (fTup (fCo (fV 4) fN)) (fCo (fTup fN) fN))) (fCo (fV 5) fN))) (fCo (fCall F_least (fCo (fTup (fCo (fTup (fCo (fV 4) fN)) (fCo (fTup (fCo (fTup (fCo (fC (.str "has")) (fCo (fTup (fCo (fC (.int 1)) fN)) fN))) fN)) fN))) (fCo (fV 5) fN))) fN))))
    (fSeq (fIfS (tfE (fOp neD (fRepr (fV 7)) (fRepr (fLst (fCo (fV 6) (fCo (fV 6) fN)))))) (fRet (fC (.bool false))) fNil)
    (fSeq (fSet 6 (fTup (fCo (fTup (fCo (fC (.str "has")) (fCo (fC (.str "?1")) (fCo (fC (.str "ann")) fN)))) (fCo (fTup (fCo (fC (.str "has")) (fCo (fC (.str "?1")) (fCo (fC (.str "bob")) fN)))) (fCo (fTup (fCo (fC (.str "in")) (fCo (fC (.str "?1")) (fCo (fC (.str "rome")) fN)))) fN)))))
    (fSeq (fIfS (tfE (fOp neD (fRepr (fCall F_least (fCo (fTup (fCo (fTup (fCo (fV 4) fN)) (fCo (fTup (fCo (fTup (fCo (fC (.str "in")) (fCo (fTup (fCo (fC (.int 1)) fN)) fN))) fN)) fN))) (fCo (fV 5) fN)))) (fRepr (fV 6)))) (fRet (fC (.bool false))) fNil)
    (fSeq (fSet 8 (fTup (fCo (fTup (fCo (fC (.str "emp")) (fCo (fC (.str "A")) (fCo (fC (.str "B")) fN)))) fN)))
    (fSeq (fSet 3 (fLc (afV (fLst (fCo (fC (.str "D")) (fCo (fC (.str "A")) fN)))) (gN 9) tfYes (fCall F_follows (fCo (fTup (fCo (fTup (fCo (fV 4) fN)) (fCo (fTup fN) fN))) (fCo (fTup (fCo (fV 8) (fCo (fTup (fCo (fTup (fCo (fC (.str "in")) (fCo (fV 9) (fCo (fC (.str "B")) fN)))) fN)) fN))) fN))) [9]))
    (fRet (fOp eqD (fRepr (fV 3)) (fC (.str "[True, False]")))))))))))))))))))
theorem S_law_true : S_law (List.replicate 10 none) = some (.rt (.bool true)) := by kernel_rfl
section
variable [TbC] {P : Program} {w : World} {K : PySem.W.Frag} {mg : Str → Option Value} {base : Heap}
theorem sc_law : FnScope ["_law_script", "_law_shown", "_law_small", "_law_some", "_law_rule", "_law_begin", "_law_due", "_law_told", "_law_body", "_law_term"] ["_law_script"] (defScope sLaw) := ⟨rfl, rfl, rfl, by decide +kernel, rfl, by decide +kernel, by decide +kernel⟩
theorem okL_law {f : Addr} {fd : FuncData} (F : Fun K "law" "law" sLaw f fd) (z_repr : mg "repr" = none) {f_plain : Addr} {d_plain : FuncData} (G_plain : FnOk P w K mg base CX0 4 f_plain d_plain ["store"] (spP K F_plain)) (m_plain : mg "plain" = some (.ref f_plain)) (k_plain : PySem.W.keepIn K (.ref f_plain) = true) (b_plain : Binds K d_plain ["store"] []) {f_lead : Addr} {d_lead : FuncData} (G_lead : FnOk P w K mg base CX0 46 f_lead d_lead ["one", "other"] (spP K F_lead)) (m_lead : mg "lead" = some (.ref f_lead)) (k_lead : PySem.W.keepIn K (.ref f_lead) = true) (b_lead : Binds K d_lead ["one", "other"] []) {f_folding : Addr} {d_folding : FuncData} (G_folding : FnOk P w K mg base CX0 47 f_folding d_folding ["store"] (spP K F_folding)) (m_folding : mg "folding" = some (.ref f_folding)) (k_folding : PySem.W.keepIn K (.ref f_folding) = true) (b_folding : Binds K d_folding ["store"] []) {f_core : Addr} {d_core : FuncData} (G_core : FnOk P w K mg base CX0 48 f_core d_core ["store"] (spP K F_core)) (m_core : mg "core" = some (.ref f_core)) (k_core : PySem.W.keepIn K (.ref f_core) = true) (b_core : Binds K d_core ["store"] []) {f_blocks : Addr} {d_blocks : FuncData} (G_blocks : FnOk P w K mg base CX0 4 f_blocks d_blocks ["store"] (spP K F_blocks)) (m_blocks : mg "blocks" = some (.ref f_blocks)) (k_blocks : PySem.W.keepIn K (.ref f_blocks) = true) (b_blocks : Binds K d_blocks ["store"] []) {f_least : Addr} {d_least : FuncData} (G_least : FnOk P w K mg base CX0 50 f_least d_least ["book", "source"] (spP K F_least)) (m_least : mg "least" = some (.ref f_least)) (k_least : PySem.W.keepIn K (.ref f_least) = true) (b_least : Binds K d_least ["book", "source"] []) {f_follows : Addr} {d_follows : FuncData} (G_follows : FnOk P w K mg base CX0 89 f_follows d_follows ["book", "rule"] (spP K F_follows)) (m_follows : mg "follows" = some (.ref f_follows)) (k_follows : PySem.W.keepIn K (.ref f_follows) = true) (b_follows : Binds K d_follows ["book", "rule"] []) : RunG P w K mg base 90 f fd ["_law_script"] (spLaw K) :=
  law_ok0 (by decide) F sc_law (fun cdv A outer s H E hgu hr => by
    have hu := hr.units
    have hv := Room.u65 hr
    exact (qss_cons (qs_set (i := 1) sc_law.nd rfl (Or.inl rfl) (qd_tup (qda_cons (qd_tup (qda_cons qd_str (qda_cons qd_str (qda_cons qd_str qda_nil)))) (qda_cons (qd_tup (qda_cons qd_str (qda_cons qd_str (qda_cons qd_str qda_nil)))) (qda_cons (qd_tup (qda_cons qd_str (qda_cons qd_str (qda_cons qd_str qda_nil)))) qda_nil)))))
      (qss_cons (qs_set (i := 2) sc_law.nd rfl (Or.inl rfl) (qd_tup (qda_cons (qd_tup (qda_cons qd_str (qda_cons qd_str (qda_cons qd_str qda_nil)))) (qda_cons (qd_tup (qda_cons qd_str (qda_cons qd_str (qda_cons qd_str qda_nil)))) qda_nil))))
      (qss_cons (qs_if (qdt_cmp (op_neU hu) pu_ne (qd_repr hgu hu (by rfl) z_repr (qd_call G_plain (hr.mono (by decide)) rfl m_plain k_plain b_plain pass0 (qda_cons (qdv 1) qda_nil))) (qd_repr hgu hu (by rfl) z_repr (qd_tup (qda_cons (qd_tup (qda_cons qd_str (qda_cons qd_str (qda_cons qd_str qda_nil)))) (qda_cons (qd_tup (qda_cons qd_str (qda_cons qd_str (qda_cons qd_str qda_nil)))) (qda_cons (qd_tup (qda_cons qd_str (qda_cons qd_str (qda_cons qd_str qda_nil)))) qda_nil))))) (nomark _)) (qss_one (qs_ret qd_bl)) qss_nil)
      (qss_cons (qs_if (qdt_cmp (op_neU hu) pu_ne (qd_repr hgu hu (by rfl) z_repr (qd_call G_lead (hr.mono (by decide)) rfl m_lead k_lead b_lead pass0 (qda_cons (qdv 1) (qda_cons (qd_tup (qda_cons (qd_tup (qda_cons qd_str (qda_cons qd_str (qda_cons qd_str qda_nil)))) (qda_cons (qd_tup (qda_cons qd_str (qda_cons qd_str (qda_cons qd_str qda_nil)))) qda_nil))) qda_nil)))) (qd_repr hgu hu (by rfl) z_repr (qd_tup (qda_cons (qd_tup (qda_cons qd_str (qda_cons qd_str qda_nil))) (qda_cons (qd_tup (qda_cons qd_str (qda_cons qd_str qda_nil))) qda_nil)))) (nomark _)) (qss_one (qs_ret qd_bl)) qss_nil)
      (qss_cons (qs_set (i := 3) sc_law.nd rfl (Or.inl rfl) (qd_lst (qda_cons (qd_call G_folding (hr.mono (by decide)) rfl m_folding k_folding b_folding pass0 (qda_cons (qdv 1) qda_nil)) (qda_cons (qd_call G_core (hr.mono (by decide)) rfl m_core k_core b_core pass0 (qda_cons (qdv 1) qda_nil)) (qda_cons (qd_call G_blocks (hr.mono (by decide)) rfl m_blocks k_blocks b_blocks pass0 (qda_cons (qdv 1) qda_nil)) qda_nil)))))
      (qss_cons (qs_if (qdt_cmp (op_neU hu) pu_ne (qd_repr hgu hu (by rfl) z_repr (qdv 3)) (qd_repr hgu hu (by rfl) z_repr (qd_lst (qda_cons (qd_tup (qda_cons (qd_tup (qda_cons qd_str (qda_cons qd_str qda_nil))) (qda_cons (qd_tup (qda_cons qd_str (qda_cons qd_str qda_nil))) qda_nil))) (qda_cons (qdv 2) (qda_cons (qd_tup (qda_cons (qd_tup (qda_cons qd_str qda_nil)) (qda_cons (qd_tup (qda_cons qd_str qda_nil)) qda_nil))) qda_nil))))) (nomark _)) (qss_one (qs_ret qd_bl)) qss_nil)
      (qss_cons (qs_set (i := 4) sc_law.nd rfl (Or.inr rfl) (qd_tup (qda_cons (qd_tup (qda_cons (qd_tup (qda_cons qd_str (qda_cons qd_str (qda_cons qd_str qda_nil)))) qda_nil)) (qda_cons (qd_tup (qda_cons (qd_tup (qda_cons qd_str (qda_cons qd_str (qda_cons qd_str qda_nil)))) (qda_cons (qd_tup (qda_cons qd_str (qda_cons qd_str (qda_cons qd_str qda_nil)))) qda_nil))) qda_nil))))
      (qss_cons (qs_set (i := 5) sc_law.nd rfl (Or.inl rfl) (qd_tup (qda_cons (qd_tup (qda_cons qd_str (qda_cons qd_str (qda_cons qd_str qda_nil)))) (qda_cons (qd_tup (qda_cons qd_str (qda_cons qd_str (qda_cons qd_str qda_nil)))) qda_nil))))
      (qss_cons (qs_set (i := 6) sc_law.nd rfl (Or.inl rfl) (qdk_tup (qdk_cons (qdk_tup (qdk_cons qd_str (qdk_cons qd_str (qdk_cons qd_str qdk_nil)))) (qdk_cons (qdk_tup (qdk_cons qd_str (qdk_cons qd_str (qdk_cons qd_str qdk_nil)))) (qdk_cons (qdk_tup (qdk_cons qd_str (qdk_cons qd_str (qdk_cons qd_str qdk_nil)))) (qdk_cons (qdk_tup (qdk_cons qd_str (qdk_cons qd_str (qdk_cons qd_str qdk_nil)))) qdk_nil))))))
      (qss_cons (qs_set (i := 7) sc_law.nd rfl (Or.inl rfl) (qd_lst (qda_cons (qd_call G_least (hr.mono (by decide)) rfl m_least k_least b_least pass0 (qda_cons (qd_tup (qda_cons (qd_tup (qda_cons (qdv 4) qda_nil)) (qda_cons (qd_tup qda_nil) qda_nil))) (qda_cons (qdv 5) qda_nil))) (qda_cons (qd_call G_least (hr.mono (by decide)) rfl m_least k_least b_least pass0 (qda_cons (qd_tup (qda_cons (qd_tup (qda_cons (qdv 4) qda_nil)) (qda_cons (qd_tup (qda_cons (qd_tup (qda_cons qd_str (qda_cons (qd_tup (qda_cons qd_int qda_nil)) qda_nil))) qda_nil)) qda_nil))) (qda_cons (qdv 5) qda_nil))) qda_nil))))
      (qss_cons (qs_if (qdt_cmp (op_neU hu) pu_ne (qd_repr hgu hu (by rfl) z_repr (qdv 7)) (qd_repr hgu hu (by rfl) z_repr (qd_lst (qda_cons (qdv 6) (qda_cons (qdv 6) qda_nil)))) (nomark _)) (qss_one (qs_ret qd_bl)) qss_nil)
      (qss_cons (qs_set (i := 6) sc_law.nd rfl (Or.inl rfl) (qd_tup (qda_cons (qd_tup (qda_cons qd_str (qda_cons qd_str (qda_cons qd_str qda_nil)))) (qda_cons (qd_tup (qda_cons qd_str (qda_cons qd_str (qda_cons qd_str qda_nil)))) (qda_cons (qd_tup (qda_cons qd_str (qda_cons qd_str (qda_cons qd_str qda_nil)))) qda_nil)))))
      (qss_cons (qs_if (qdt_cmp (op_neU hu) pu_ne (qd_repr hgu hu (by rfl) z_repr (qd_call G_least (hr.mono (by decide)) rfl m_least k_least b_least pass0 (qda_cons (qd_tup (qda_cons (qd_tup (qda_cons (qdv 4) qda_nil)) (qda_cons (qd_tup (qda_cons (qd_tup (qda_cons qd_str (qda_cons (qd_tup (qda_cons qd_int qda_nil)) qda_nil))) qda_nil)) qda_nil))) (qda_cons (qdv 5) qda_nil)))) (qd_repr hgu hu (by rfl) z_repr (qdv 6)) (nomark _)) (qss_one (qs_ret qd_bl)) qss_nil)
      (qss_cons (qs_set (i := 8) sc_law.nd rfl (Or.inr rfl) (qd_tup (qda_cons (qd_tup (qda_cons qd_str (qda_cons qd_str (qda_cons qd_str qda_nil)))) qda_nil)))
      (qss_cons (qs_setLc (i := 3) (hyl := rfl) (hsw := rfl) (hy := rfl) (hc := rfl) (hN := sc_law.nd) (own := [("_law_term", 9)]) (qdi_val (qd_lst (qda_cons qd_str (qda_cons qd_str qda_nil)))) (blkOk_by (own := [("_law_term", 9)]) (N := ["_law_script", "_law_shown", "_law_small", "_law_some", "_law_rule", "_law_begin", "_law_due", "_law_told", "_law_body", "_law_term"]) (sc := (defScope sLaw)) (by decide +kernel)) (by decide) (fun _ _ _ _ _ => (qdg_name (i := 9) sc_law.nd rfl (Or.inl rfl))) (fun _ _ _ _ _ => qts_nil) (fun _ _ _ _ _ => (qd_call G_follows (hr.mono (by decide)) rfl m_follows k_follows b_follows pass0 (qda_cons (qd_tup (qda_cons (qd_tup (qda_cons (qdv 4) qda_nil)) (qda_cons (qd_tup qda_nil) qda_nil))) (qda_cons (qd_tup (qda_cons (qdv 8) (qda_cons (qd_tup (qda_cons (qd_tup (qda_cons qd_str (qda_cons (qdv 9) (qda_cons qd_str qda_nil)))) qda_nil)) qda_nil))) qda_nil)))))
      (qss_one (qs_ret (qd_cmp (op_eqU hu) pu_eq (qd_repr hgu hu (by rfl) z_repr (qdv 3)) qd_str (nomark _)))))))))))))))))))) (by exact (show IsS _ S_law from (is_seq (is_set (is_tup (is_co (is_tup (is_co is_c (is_co is_c (is_co is_c is_n)))) (is_co (is_tup (is_co is_c (is_co is_c (is_co is_c is_n)))) (is_co (is_tup (is_co is_c (is_co is_c (is_co is_c is_n)))) is_n))))) (is_seq (is_set (is_tup (is_co (is_tup (is_co is_c (is_co is_c (is_co is_c is_n)))) (is_co (is_tup (is_co is_c (is_co is_c (is_co is_c is_n)))) is_n)))) (is_seq (is_ifS (is_tfE (is_op (is_repr (is_call (is_co is_v is_n))) (is_repr (is_tup (is_co (is_tup (is_co is_c (is_co is_c (is_co is_c is_n)))) (is_co (is_tup (is_co is_c (is_co is_c (is_co is_c is_n)))) (is_co (is_tup (is_co is_c (is_co is_c (is_co is_c is_n)))) is_n))))))) (is_ret is_c) is_nil) (is_seq (is_ifS (is_tfE (is_op (is_repr (is_call (is_co is_v (is_co (is_tup (is_co (is_tup (is_co is_c (is_co is_c (is_co is_c is_n)))) (is_co (is_tup (is_co is_c (is_co is_c (is_co is_c is_n)))) is_n))) is_n)))) (is_repr (is_tup (is_co (is_tup (is_co is_c (is_co is_c is_n))) (is_co (is_tup (is_co is_c (is_co is_c is_n))) is_n)))))) (is_ret is_c) is_nil) (is_seq (is_set (is_lst (is_co (is_call (is_co is_v is_n)) (is_co (is_call (is_co is_v is_n)) (is_co (is_call (is_co is_v is_n)) is_n))))) (is_seq (is_ifS (is_tfE (is_op (is_repr is_v) (is_repr (is_lst (is_co (is_tup (is_co (is_tup (is_co is_c (is_co is_c is_n))) (is_co (is_tup (is_co is_c (is_co is_c is_n))) is_n))) (is_co is_v (is_co (is_tup (is_co (is_tup (is_co is_c is_n)) (is_co (is_tup (is_co is_c is_n)) is_n))) is_n))))))) (is_ret is_c) is_nil) (is_seq (is_set (is_tup (is_co (is_tup (is_co (is_tup (is_co is_c (is_co is_c (is_co is_c is_n)))) is_n)) (is_co (is_tup (is_co (is_tup (is_co is_c (is_co is_c (is_co is_c is_n)))) (is_co (is_tup (is_co is_c (is_co is_c (is_co is_c is_n)))) is_n))) is_n)))) (is_seq (is_set (is_tup (is_co (is_tup (is_co is_c (is_co is_c (is_co is_c is_n)))) (is_co (is_tup (is_co is_c (is_co is_c (is_co is_c is_n)))) is_n)))) (is_seq (is_set is_c) (is_seq (is_set (is_lst (is_co (is_call (is_co (is_tup (is_co (is_tup (is_co is_v is_n)) (is_co (is_tup is_n) is_n))) (is_co is_v is_n))) (is_co (is_call (is_co (is_tup (is_co (is_tup (is_co is_v is_n)) (is_co (is_tup (is_co (is_tup (is_co is_c (is_co (is_tup (is_co is_c is_n)) is_n))) is_n)) is_n))) (is_co is_v is_n))) is_n)))) (is_seq (is_ifS (is_tfE (is_op (is_repr is_v) (is_repr (is_lst (is_co is_v (is_co is_v is_n)))))) (is_ret is_c) is_nil) (is_seq (is_set (is_tup (is_co (is_tup (is_co is_c (is_co is_c (is_co is_c is_n)))) (is_co (is_tup (is_co is_c (is_co is_c (is_co is_c is_n)))) (is_co (is_tup (is_co is_c (is_co is_c (is_co is_c is_n)))) is_n))))) (is_seq (is_ifS (is_tfE (is_op (is_repr (is_call (is_co (is_tup (is_co (is_tup (is_co is_v is_n)) (is_co (is_tup (is_co (is_tup (is_co is_c (is_co (is_tup (is_co is_c is_n)) is_n))) is_n)) is_n))) (is_co is_v is_n)))) (is_repr is_v))) (is_ret is_c) is_nil) (is_seq (is_set (is_tup (is_co (is_tup (is_co is_c (is_co is_c (is_co is_c is_n)))) is_n))) (is_seq (is_set (is_lc (is_afV (is_lst (is_co is_c (is_co is_c is_n)))) is_tfYes (is_call (is_co (is_tup (is_co (is_tup (is_co is_v is_n)) (is_co (is_tup is_n) is_n))) (is_co (is_tup (is_co is_v (is_co (is_tup (is_co (is_tup (is_co is_c (is_co is_v (is_co is_c is_n)))) is_n)) is_n))) is_n))))) (is_ret (is_op (is_repr is_v) is_c)))))))))))))))))) (startL0 _) 0 endL _ S_law_true rfl)
end
end My

set_option linter.unusedVariables false
namespace My
open PySem PySem.Spec PyProof.Rows L2
section
variable [TbC] {P : Program} {w : World} {K : PySem.W.Frag} {mg : Str → Option Value} {base : Heap}
theorem sc_is_word : FnScope ["value", "sign"] ["value"] (defScope sIsWord) := ⟨rfl, rfl, rfl, by decide +kernel, rfl, by decide +kernel, by decide +kernel⟩
theorem okF_is_word {f : Addr} {fd : FuncData} (F : Fun K "is_word" "is_word" sIsWord f fd) (z_isinstance : mg "isinstance" = none) (z_str : mg "str" = none) (z_len : mg "len" = none) (z_all : mg "all" = none) (k_str : IsT K "str" (isC "str")) {t_LETTERS : Tok} (g_LETTERS : mg "LETTERS" = some (.str "abcdefghijklmnopqrstuvwxyz" t_LETTERS)) : FnOk P w K mg base CX0 1 f fd ["value"] (spP K F_is_word) :=
  show FnOk P w K mg base CX0 1 f fd ["value"] (spP K (fnF 1 2 S_is_word)) from
  fn_okF (S := S_is_word) 1 2 F sc_is_word rfl rfl (fun cdv A outer s H E hr => by
    have hu := hr.units
    have hv := Room.u65 hr
    exact (qss_cons (qs_if (qdt_not (qdt_val (qd_isi k_str (by rfl) z_isinstance (qdv 0) (by rfl) z_str boot_str))) (qss_one (qs_ret qd_bl)) qss_nil)
      (qss_one (qs_ret (qd_and (qd_chain op_le pu_cmp op_le pu_cmp qd_int (qd_callB cr_lenU pu_len (by rfl) z_len PySem.boot_len (qda_cons (qdv 0) qda_nil)) qd_int) (qd_one (qd_callB (cr_all rfl) pu_all (by rfl) z_all boot_all (qda_cons (qd_lc (own := [("sign", 1)]) rfl sc_is_word.nd (qdi_val (qdv 0)) (blkOk_by (own := [("sign", 1)]) (N := ["value", "sign"]) (sc := (defScope sIsWord)) (by decide +kernel)) (by decide) (fun _ _ _ _ _ => (qdg_name (i := 1) sc_is_word.nd rfl (Or.inl rfl))) (fun _ _ _ _ _ => qts_nil) (fun _ _ _ _ _ => (qd_cmp (op_inU hv) pu_in (qdv 1) (qd_glob rfl g_LETTERS) (by rfl)))) qda_nil))))))))
   (show IsS _ S_is_word from (is_seq (is_ifS (is_tfNot (is_tfE (is_isi is_v))) (is_ret is_c) is_nil) (is_ret (is_and (is_chain is_c (is_call (is_co is_v is_n)) is_c) (is_call (is_co (is_lc (is_afV is_v) is_tfYes (is_op is_v is_c)) is_n))))))

end
end My

set_option linter.unusedVariables false
namespace My
open PySem PySem.Spec PyProof.Rows L2
section
variable [TbC] {P : Program} {w : World} {K : PySem.W.Frag} {mg : Str → Option Value} {base : Heap}
theorem sc_is_unknown : FnScope ["value", "digits", "sign"] ["value"] (defScope sUnk) := ⟨rfl, rfl, rfl, by decide +kernel, rfl, by decide +kernel, by decide +kernel⟩
theorem okF_is_unknown {f : Addr} {fd : FuncData} (F : Fun K "is_unknown" "is_unknown" sUnk f fd) (z_isinstance : mg "isinstance" = none) (z_str : mg "str" = none) (z_len : mg "len" = none) (z_all : mg "all" = none) (k_str : IsT K "str" (isC "str")) {t_DIGITS : Tok} (g_DIGITS : mg "DIGITS" = some (.str "0123456789" t_DIGITS)) : FnOk P w K mg base CX0 1 f fd ["value"] (spP K F_is_unknown) :=
  show FnOk P w K mg base CX0 1 f fd ["value"] (spP K (fnF 1 3 S_is_unknown)) from
  fn_okF (S := S_is_unknown) 1 3 F sc_is_unknown rfl rfl (fun cdv A outer s H E hr => by
    have hu := hr.units
    have hv := Room.u65 hr
    exact (qss_cons (qs_if (qdt_W (qdw_or (qdt_not (qdt_val (qd_isi k_str (by rfl) z_isinstance (qdv 0) (by rfl) z_str boot_str))) (qdw_or1 (qdt_not (qdt_val (qd_mk (pe_bm PySem.F.plainAttrs_str PySem.F.slot_str_startswith PySem.F.type_str_startswith mt_startswith (qdv 0) (qda_cons qd_str qda_nil)) (rd_meth pu_starts))))))) (qss_one (qs_ret qd_bl)) qss_nil)
      (qss_cons (qs_set (i := 1) sc_is_unknown.nd rfl (Or.inl rfl) (qd_sl sl_U pu_sl (qdv 0) (qdo_some qd_int) qdo_none))
      (qss_one (qs_ret (qd_and (qd_chain op_le pu_cmp op_le pu_cmp qd_int (qd_callB cr_lenU pu_len (by rfl) z_len PySem.boot_len (qda_cons (qdv 1) qda_nil)) qd_int) (qd_and (qd_cmp (op_neU hu) pu_ne (qd_ix ix_seq pu_ix (qdv 1) qd_int) qd_str (nomark _)) (qd_one (qd_callB (cr_all rfl) pu_all (by rfl) z_all boot_all (qda_cons (qd_lc (own := [("sign", 2)]) rfl sc_is_unknown.nd (qdi_val (qdv 1)) (blkOk_by (own := [("sign", 2)]) (N := ["value", "digits", "sign"]) (sc := (defScope sUnk)) (by decide +kernel)) (by decide) (fun _ _ _ _ _ => (qdg_name (i := 2) sc_is_unknown.nd rfl (Or.inl rfl))) (fun _ _ _ _ _ => qts_nil) (fun _ _ _ _ _ => (qd_cmp (op_inU hv) pu_in (qdv 2) (qd_glob rfl g_DIGITS) (by rfl)))) qda_nil))))))))))
   (show IsS _ S_is_unknown from (is_seq (is_ifS (is_tfOr (is_tfNot (is_tfE (is_isi is_v))) (is_tfNot (is_tfE (is_meth is_v (is_co is_c is_n))))) (is_ret is_c) is_nil) (is_seq (is_set (is_sl is_v (is_ofS is_c) is_ofN)) (is_ret (is_and (is_chain is_c (is_call (is_co is_v is_n)) is_c) (is_and (is_op (is_op is_v is_c) is_c) (is_call (is_co (is_lc (is_afV is_v) is_tfYes (is_op is_v is_c)) is_n))))))))

end
end My

set_option linter.unusedVariables false
namespace My
open PySem PySem.Spec PyProof.Rows L2
section
variable [TbC] {P : Program} {w : World} {K : PySem.W.Frag} {mg : Str → Option Value} {base : Heap}
theorem sc_is_variable : FnScope ["value"] ["value"] (defScope s_is_variable) := ⟨rfl, rfl, rfl, by decide +kernel, rfl, by decide +kernel, by decide +kernel⟩
theorem okF_is_variable {f : Addr} {fd : FuncData} (F : Fun K "is_variable" "is_variable" s_is_variable f fd) (z_isinstance : mg "isinstance" = none) (z_str : mg "str" = none) (z_len : mg "len" = none) (k_str : IsT K "str" (isC "str")) {t_CAPITALS : Tok} (g_CAPITALS : mg "CAPITALS" = some (.str "ABCDEFGHIJKLMNOPQRSTUVWXYZ" t_CAPITALS)) : FnOk P w K mg base CX0 1 f fd ["value"] (spP K F_is_variable) :=
  show FnOk P w K mg base CX0 1 f fd ["value"] (spP K (fnF 1 1 S_is_variable)) from
  fn_okF (S := S_is_variable) 1 1 F sc_is_variable rfl rfl (fun cdv A outer s H E hr => by
    have hu := hr.units
    have hv := Room.u65 hr
    exact (qss_one (qs_ret (qd_and (qd_isi k_str (by rfl) z_isinstance (qdv 0) (by rfl) z_str boot_str) (qd_and (qd_cmp (op_eqU hu) pu_eq (qd_callB cr_lenU pu_len (by rfl) z_len PySem.boot_len (qda_cons (qdv 0) qda_nil)) qd_int (nomark _)) (qd_one (qd_cmp (op_inU hv) pu_in (qdv 0) (qd_glob rfl g_CAPITALS) (by rfl))))))))
   (show IsS _ S_is_variable from (is_ret (is_and (is_isi is_v) (is_and (is_op (is_call (is_co is_v is_n)) is_c) (is_op is_v is_c)))))

end
end My

set_option linter.unusedVariables false
namespace My
open PySem PySem.Spec PyProof.Rows L2
section
variable [TbC] {P : Program} {w : World} {K : PySem.W.Frag} {mg : Str → Option Value} {base : Heap}
theorem sc_is_open : FnScope ["part"] ["part"] (defScope s_is_open) := ⟨rfl, rfl, rfl, by decide +kernel, rfl, by decide +kernel, by decide +kernel⟩
theorem okF_is_open {f : Addr} {fd : FuncData} (F : Fun K "is_open" "is_open" s_is_open f fd) {t_LETTERS : Tok} (g_LETTERS : mg "LETTERS" = some (.str "abcdefghijklmnopqrstuvwxyz" t_LETTERS)) : FnOk P w K mg base CX0 1 f fd ["part"] (spP K F_is_open) :=
  show FnOk P w K mg base CX0 1 f fd ["part"] (spP K (fnF 1 1 S_is_open)) from
  fn_okF (S := S_is_open) 1 1 F sc_is_open rfl rfl (fun cdv A outer s H E hr => by
    have hu := hr.units
    have hv := Room.u65 hr
    exact (qss_one (qs_ret (qd_cmp (op_notInU hv) pu_notIn (qd_ix ix_seq pu_ix (qdv 0) qd_int) (qd_glob rfl g_LETTERS) (by rfl)))))
   (show IsS _ S_is_open from (is_ret (is_op (is_op is_v is_c) is_c)))

end
end My

set_option linter.unusedVariables false
namespace My
open PySem PySem.Spec PyProof.Rows L2
section
variable [TbC] {P : Program} {w : World} {K : PySem.W.Frag} {mg : Str → Option Value} {base : Heap}
theorem sc_store_of : FnScope ["facts"] ["facts"] (defScope s_store_of) := ⟨rfl, rfl, rfl, by decide +kernel, rfl, by decide +kernel, by decide +kernel⟩
theorem okF_store_of {f : Addr} {fd : FuncData} (F : Fun K "store_of" "store_of" s_store_of f fd) (z_tuple : mg "tuple" = none) (z_sorted : mg "sorted" = none) (z_set : mg "set" = none) : FnOk P w K mg base CX0 1 f fd ["facts"] (spP K F_store_of) :=
  show FnOk P w K mg base CX0 1 f fd ["facts"] (spP K (fnF 1 1 S_store_of)) from
  fn_okF (S := S_store_of) 1 1 F sc_store_of rfl rfl (fun cdv A outer s H E hr => by
    have hu := hr.units
    have hv := Room.u65 hr
    exact (qss_one (qs_ret (qd_callTy cr_tupU pu_tuple (by rfl) z_tuple boot_tuple (qda_cons (qd_sortsetT hu rfl (by rfl) z_sorted (by rfl) z_set (qdv 0)) qda_nil)))))
   (show IsS _ S_store_of from (is_ret (is_call (is_co (is_sortSet is_v) is_n))))

end
end My

set_option linter.unusedVariables false
namespace My
open PySem PySem.Spec PyProof.Rows L2
section
variable [TbC] {P : Program} {w : World} {K : PySem.W.Frag} {mg : Str → Option Value} {base : Heap}
theorem sc_fact_by : FnScope ["fact", "table", "part"] ["fact", "table"] (defScope sFactBy) := ⟨rfl, rfl, rfl, by decide +kernel, rfl, by decide +kernel, by decide +kernel⟩
theorem okF_fact_by {f : Addr} {fd : FuncData} (F : Fun K "fact_by" "fact_by" sFactBy f fd) (z_tuple : mg "tuple" = none) : FnOk P w K mg base CX0 1 f fd ["fact", "table"] (spP K F_fact_by) :=
  show FnOk P w K mg base CX0 1 f fd ["fact", "table"] (spP K (fnF 2 3 S_fact_by)) from
  fn_okF (S := S_fact_by) 2 3 F sc_fact_by rfl rfl (fun cdv A outer s H E hr => by
    have hu := hr.units
    have hv := Room.u65 hr
    exact (qss_one (qs_ret (qd_callTy cr_tupU pu_tuple (by rfl) z_tuple boot_tuple (qda_cons (qd_lc (own := [("part", 2)]) rfl sc_fact_by.nd (qdi_val (qdv 0)) (blkOk_by (own := [("part", 2)]) (N := ["fact", "table", "part"]) (sc := (defScope sFactBy)) (by decide +kernel)) (by decide) (fun _ _ _ _ _ => (qdg_name (i := 2) sc_fact_by.nd rfl (Or.inl rfl))) (fun _ _ _ _ _ => qts_nil) (fun _ _ _ _ _ => (qd_get hu (qdv 1) (qdv 2) (qdv 2)))) qda_nil)))))
   (show IsS _ S_fact_by from (is_ret (is_call (is_co (is_lc (is_afV is_v) is_tfYes (is_get is_v is_v is_v)) is_n))))

end
end My

set_option linter.unusedVariables false
namespace My
open PySem PySem.Spec PyProof.Rows L2
section
variable [TbC] {P : Program} {w : World} {K : PySem.W.Frag} {mg : Str → Option Value} {base : Heap}
theorem sc_unlike : FnScope ["key", "store", "relation", "columns", "groups", "fact", "mark", "group", "column"] ["key", "store"] (defScope s_unlike) := ⟨rfl, rfl, rfl, by decide +kernel, rfl, by decide +kernel, by decide +kernel⟩
theorem okF_unlike {f : Addr} {fd : FuncData} (F : Fun K "unlike" "unlike" s_unlike f fd) (hW : w = TbC.w) (z_tuple : mg "tuple" = none) (z_list : mg "list" = none) (z_len : mg "len" = none) : FnOk P w K mg base CX0 1 f fd ["key", "store"] (spP K F_unlike) :=
  show FnOk P w K mg base CX0 1 f fd ["key", "store"] (spP K (fnF 2 9 S_unlike)) from
  fn_okF (S := S_unlike) 2 9 F sc_unlike rfl rfl (fun cdv A outer s H E hr => by
    have hu := hr.units
    have hv := Room.u65 hr
    exact (qss_cons (qs_asg (qdv 0) (qdg_tup (n := 2) rfl (qdgs_cons (qdg_name (i := 2) sc_unlike.nd rfl (Or.inl rfl)) (qdgs_cons (qdg_name (i := 3) sc_unlike.nd rfl (Or.inl rfl)) qdgs_nil))))
      (qss_cons (qs_newT hW (i := 4) sc_unlike.nd rfl (Or.inl rfl))
      (qss_cons (qs_for PassesOwn.never rfl (qdi_val (qdv 1)) (qdg_name (i := 5) sc_unlike.nd rfl (Or.inr rfl)) (qss_one (qs_if (qdt_cmp (op_eqU hu) pu_eq (qd_ix ix_seq pu_ix (qdv 5) qd_int) (qdv 2) (nomark _)) (qss_cons (qs_set (i := 6) sc_unlike.nd rfl (Or.inl rfl) (qd_callTy cr_tupU pu_tuple (by rfl) z_tuple boot_tuple (qda_cons (qd_lc (own := [("column", 8)]) rfl sc_unlike.nd (qdi_val (qdv 3)) (blkOk_by (own := [("column", 8)]) (N := ["key", "store", "relation", "columns", "groups", "fact", "mark", "group", "column"]) (sc := (defScope s_unlike)) (by decide +kernel)) (by decide) (fun _ _ _ _ _ => (qdg_name (i := 8) sc_unlike.nd rfl (Or.inl rfl))) (fun _ _ _ _ _ => qts_nil) (fun _ _ _ _ _ => (qd_ix ix_seq pu_ix (qdv 5) (qd_op op_addU pu_add (qdv 8) qd_int)))) qda_nil)))
      (qss_one (qs_putT (i := 4) hW hu (pv 4) (qdv 6) (qd_op op_addU pu_add (qd_tget hW hu (pv 4) (qdv 6) (qd_tup qda_nil)) (qd_tup (qda_cons (qdv 5) qda_nil))) (ps_asg (qd_op op_addU pu_add (qd_tget hW hu (pv 4) (qdv 6) (qd_tup qda_nil)) (qd_tup (qda_cons (qdv 5) qda_nil))) (pg_sub (pv 4) (qdv 6) (set_tk hu)))))) qss_nil)))
      (qss_cons (qs_for PassesOwn.never rfl (qdi_val (qd_tvals hW rfl (by rfl) z_list (pv 4))) (qdg_name (i := 7) sc_unlike.nd rfl (Or.inl rfl)) (qss_one (qs_if (qdt_cmp op_gt pu_cmp (qd_callB cr_lenU pu_len (by rfl) z_len PySem.boot_len (qda_cons (qdv 7) qda_nil)) qd_int (nomark _)) (qss_one (qs_ret (qd_tup (qda_cons (qd_ix ix_seq pu_ix (qdv 7) qd_int) (qda_cons (qd_ix ix_seq pu_ix (qdv 7) qd_int) qda_nil))))) qss_nil)))
      (qss_one (qs_ret qd_non)))))))
   (show IsS _ S_unlike from (is_seq (is_asg is_v) (is_seq is_newT (is_seq (is_for (is_afV is_v) (is_ifS (is_tfE (is_op (is_op is_v is_c) is_v)) (is_seq (is_set (is_call (is_co (is_lc (is_afV is_v) is_tfYes (is_op is_v (is_op is_v is_c))) is_n))) (is_putT is_v (is_op (is_tget is_v (is_tup is_n)) (is_tup (is_co is_v is_n))))) is_nil)) (is_seq (is_for (is_afV is_tvals) (is_ifS (is_tfE (is_op (is_call (is_co is_v is_n)) is_c)) (is_ret (is_tup (is_co (is_op is_v is_c) (is_co (is_op is_v is_c) is_n)))) is_nil)) (is_ret is_c))))))

end
end My

set_option linter.unusedVariables false
namespace My
open PySem PySem.Spec PyProof.Rows L2
section
variable [TbC] {P : Program} {w : World} {K : PySem.W.Frag} {mg : Str → Option Value} {base : Heap}
theorem sc_unknowns : FnScope ["store", "fact", "part"] ["store"] (defScope sUnkS) := ⟨rfl, rfl, rfl, by decide +kernel, rfl, by decide +kernel, by decide +kernel⟩
theorem okF_unknowns {f : Addr} {fd : FuncData} (F : Fun K "unknowns" "unknowns" sUnkS f fd) (z_tuple : mg "tuple" = none) (z_sorted : mg "sorted" = none) {f_is_unknown : Addr} {d_is_unknown : FuncData} (G_is_unknown : FnOk P w K mg base CX0 1 f_is_unknown d_is_unknown ["value"] (spP K F_is_unknown)) (m_is_unknown : mg "is_unknown" = some (.ref f_is_unknown)) (k_is_unknown : PySem.W.keepIn K (.ref f_is_unknown) = true) (b_is_unknown : Binds K d_is_unknown ["value"] []) : FnOk P w K mg base CX0 2 f fd ["store"] (spP K F_unknowns) :=
  show FnOk P w K mg base CX0 2 f fd ["store"] (spP K (fnF 1 3 S_unknowns)) from
  fn_okF (S := S_unknowns) 1 3 F sc_unknowns rfl rfl (fun cdv A outer s H E hr => by
    have hu := hr.units
    have hv := Room.u65 hr
    exact (qss_one (qs_ret (qd_callTy cr_tupU pu_tuple (by rfl) z_tuple boot_tuple (qda_cons (qd_sort2S (by rfl) z_sorted (own := [("fact", 1), ("part", 2)]) (vs1 := [2]) rfl sc_unknowns.nd hu (qdi_val (qdv 0)) (blkOk_by (own := [("fact", 1), ("part", 2)]) (N := ["store", "fact", "part"]) (sc := (defScope sUnkS)) (by decide +kernel)) (by decide) (by decide) (by decide) (fun _ _ _ _ _ => (qdg_name (i := 1) sc_unknowns.nd rfl (Or.inl rfl))) (fun _ _ _ _ _ => qts_nil) (fun _ _ _ _ _ => (qdi_val (qd_sl sl_U pu_sl (qdv 1) (qdo_some qd_int) qdo_none))) (fun _ _ _ _ _ => (qdg_name (i := 2) sc_unknowns.nd rfl (Or.inl rfl))) (fun _ _ _ _ _ => (qts_one (qdt_val (qd_call G_is_unknown (hr.mono (by decide)) rfl m_is_unknown k_is_unknown b_is_unknown pass0 (qda_cons (qdv 2) qda_nil))))) (fun _ _ _ _ _ => (qdv 2))) qda_nil)))))
   (show IsS _ S_unknowns from (is_ret (is_call (is_co (is_sort (is_afV is_v) is_tfYes (is_two (is_afV (is_sl is_v (is_ofS is_c) is_ofN)) (is_tfE (is_call (is_co is_v is_n))) (is_put is_v))) is_n))))

end
end My

set_option linter.unusedVariables false
namespace My
open PySem PySem.Spec PyProof.Rows L2
section
variable [TbC] {P : Program} {w : World} {K : PySem.W.Frag} {mg : Str → Option Value} {base : Heap}
theorem sc_store_by : FnScope ["store", "table", "fact"] ["store", "table"] (defScope sStoreBy) := ⟨rfl, rfl, rfl, by decide +kernel, rfl, by decide +kernel, by decide +kernel⟩
theorem okF_store_by {f : Addr} {fd : FuncData} (F : Fun K "store_by" "store_by" sStoreBy f fd) {f_store_of : Addr} {d_store_of : FuncData} (G_store_of : FnOk P w K mg base CX0 1 f_store_of d_store_of ["facts"] (spP K F_store_of)) (m_store_of : mg "store_of" = some (.ref f_store_of)) (k_store_of : PySem.W.keepIn K (.ref f_store_of) = true) (b_store_of : Binds K d_store_of ["facts"] []) {f_fact_by : Addr} {d_fact_by : FuncData} (G_fact_by : FnOk P w K mg base CX0 1 f_fact_by d_fact_by ["fact", "table"] (spP K F_fact_by)) (m_fact_by : mg "fact_by" = some (.ref f_fact_by)) (k_fact_by : PySem.W.keepIn K (.ref f_fact_by) = true) (b_fact_by : Binds K d_fact_by ["fact", "table"] []) : FnOk P w K mg base CX0 2 f fd ["store", "table"] (spP K F_store_by) :=
  show FnOk P w K mg base CX0 2 f fd ["store", "table"] (spP K (fnF 2 3 S_store_by)) from
  fn_okF (S := S_store_by) 2 3 F sc_store_by rfl rfl (fun cdv A outer s H E hr => by
    have hu := hr.units
    have hv := Room.u65 hr
    exact (qss_one (qs_ret (qd_call G_store_of (hr.mono (by decide)) rfl m_store_of k_store_of b_store_of pass0 (qda_cons (qd_lc (own := [("fact", 2)]) rfl sc_store_by.nd (qdi_val (qdv 0)) (blkOk_by (own := [("fact", 2)]) (N := ["store", "table", "fact"]) (sc := (defScope sStoreBy)) (by decide +kernel)) (by decide) (fun _ _ _ _ _ => (qdg_name (i := 2) sc_store_by.nd rfl (Or.inl rfl))) (fun _ _ _ _ _ => qts_nil) (fun _ _ _ _ _ => (qd_call G_fact_by (hr.mono (by decide)) rfl m_fact_by k_fact_by b_fact_by pass0 (qda_cons (qdv 2) (qda_cons (qdv 1) qda_nil))))) qda_nil)))))
   (show IsS _ S_store_by from (is_ret (is_call (is_co (is_lc (is_afV is_v) is_tfYes (is_call (is_co is_v (is_co is_v is_n)))) is_n))))

end
end My

set_option linter.unusedVariables false
namespace My
open PySem PySem.Spec PyProof.Rows L2
section
variable [TbC] {P : Program} {w : World} {K : PySem.W.Frag} {mg : Str → Option Value} {base : Heap}
theorem sc_named : FnScope ["table", "fact", "names", "wider", "part"] ["table", "fact", "names"] (defScope s_named) := ⟨rfl, rfl, rfl, by decide +kernel, rfl, by decide +kernel, by decide +kernel⟩
theorem okF_named {f : Addr} {fd : FuncData} (F : Fun K "named" "named" s_named f fd) (z_dict : mg "dict" = none) (z_len : mg "len" = none) {f_is_unknown : Addr} {d_is_unknown : FuncData} (G_is_unknown : FnOk P w K mg base CX0 1 f_is_unknown d_is_unknown ["value"] (spP K F_is_unknown)) (m_is_unknown : mg "is_unknown" = some (.ref f_is_unknown)) (k_is_unknown : PySem.W.keepIn K (.ref f_is_unknown) = true) (b_is_unknown : Binds K d_is_unknown ["value"] []) : FnOk P w K mg base CX0 2 f fd ["table", "fact", "names"] (spP K F_named) :=
  show FnOk P w K mg base CX0 2 f fd ["table", "fact", "names"] (spP K (fnF 3 5 S_named)) from
  fn_okF (S := S_named) 3 5 F sc_named rfl rfl (fun cdv A outer s H E hr => by
    have hu := hr.units
    have hv := Room.u65 hr
    exact (qss_cons (qs_makeK (i := 3) rfl (by rfl) z_dict sc_named.nd rfl (Or.inl rfl) (qda_cons (qdv 0) qda_nil))
      (qss_cons (qs_for PassesOwn.never rfl (qdi_val (qd_sl sl_U pu_sl (qdv 1) (qdo_some qd_int) qdo_none)) (qdg_name (i := 4) sc_named.nd rfl (Or.inl rfl)) (qss_one (qs_if (qdt_W (qdw_and (qdt_val (qd_call G_is_unknown (hr.mono (by decide)) rfl m_is_unknown k_is_unknown b_is_unknown pass0 (qda_cons (qdv 4) qda_nil))) (qdw_and1 (qdt_onotin hu (qdv 4) (pv 3))))) (qss_one (qs_putK (i := 3) hu (pv 3) (qdv 4) (qd_ix ix_seq pu_ix (qdv 2) (qd_olen (by rfl) z_len (pv 3))) (ps_asg (qd_ix ix_seq pu_ix (qdv 2) (qd_olen (by rfl) z_len (pv 3))) (pg_sub (pv 3) (qdv 4) (set_dict (lt64 hu)))))) qss_nil)))
      (qss_giveK 3 (qss_one (qs_ret (qdv 3)))))))
   (show IsS _ S_named from (is_seq (is_makeK (is_co is_v is_n)) (is_seq (is_for (is_afV (is_sl is_v (is_ofS is_c) is_ofN)) (is_ifS (is_tfAnd (is_tfE (is_call (is_co is_v is_n))) (is_tfE (is_oin is_v))) (is_putK is_v (is_op is_v is_olen)) is_nil)) (is_giveK (is_ret is_v)))))

end
end My

set_option linter.unusedVariables false
namespace My
open PySem PySem.Spec PyProof.Rows L2
section
variable [TbC] {P : Program} {w : World} {K : PySem.W.Frag} {mg : Str → Option Value} {base : Heap}
theorem sc_touches : FnScope ["group", "fact", "row", "part"] ["group", "fact"] (defScope s_touches) := ⟨rfl, rfl, rfl, by decide +kernel, rfl, by decide +kernel, by decide +kernel⟩
theorem okF_touches {f : Addr} {fd : FuncData} (F : Fun K "touches" "touches" s_touches f fd) (z_any : mg "any" = none) {f_is_open : Addr} {d_is_open : FuncData} (G_is_open : FnOk P w K mg base CX0 1 f_is_open d_is_open ["part"] (spP K F_is_open)) (m_is_open : mg "is_open" = some (.ref f_is_open)) (k_is_open : PySem.W.keepIn K (.ref f_is_open) = true) (b_is_open : Binds K d_is_open ["part"] []) : FnOk P w K mg base CX0 2 f fd ["group", "fact"] (spP K F_touches) :=
  show FnOk P w K mg base CX0 2 f fd ["group", "fact"] (spP K (fnF 2 4 S_touches)) from
  fn_okF (S := S_touches) 2 4 F sc_touches rfl rfl (fun cdv A outer s H E hr => by
    have hu := hr.units
    have hv := Room.u65 hr
    exact (qss_one (qs_ret (qd_callB (cr_any rfl) pu_any (by rfl) z_any boot_any (qda_cons (qd_lc2 (own := [("row", 2), ("part", 3)]) (vs1 := [3]) rfl sc_touches.nd (qdi_val (qdv 0)) (blkOk_by (own := [("row", 2), ("part", 3)]) (N := ["group", "fact", "row", "part"]) (sc := (defScope s_touches)) (by decide +kernel)) (by decide) (by decide) (by decide) (gp_name 2) (gp_name 3) (fun _ _ _ _ _ => (qdg_name (i := 2) sc_touches.nd rfl (Or.inl rfl))) (fun _ _ _ _ _ => qts_nil) (fun _ _ _ _ _ => (qdi_val (qd_sl sl_U pu_sl (qdv 1) (qdo_some qd_int) qdo_none))) (fun _ _ _ _ _ => (qdg_name (i := 3) sc_touches.nd rfl (Or.inl rfl))) (fun _ _ _ _ _ => (qts_one (qdt_val (qd_call G_is_open (hr.mono (by decide)) rfl m_is_open k_is_open b_is_open pass0 (qda_cons (qdv 3) qda_nil))))) (fun _ _ _ _ _ => (qd_cmp (op_inU hv) pu_in (qdv 3) (qdv 2) (by rfl)))) qda_nil)))))
   (show IsS _ S_touches from (is_ret (is_call (is_co (is_lc2 (is_afV is_v) is_tfYes (is_afV (is_sl is_v (is_ofS is_c) is_ofN)) (is_tfE (is_call (is_co is_v is_n))) (is_op is_v is_v)) is_n))))

end
end My

set_option linter.unusedVariables false
namespace My
open PySem PySem.Spec PyProof.Rows L2
section
variable [TbC] {P : Program} {w : World} {K : PySem.W.Frag} {mg : Str → Option Value} {base : Heap}
theorem sc_variables : FnScope ["atoms", "atom", "term"] ["atoms"] (defScope s_variables) := ⟨rfl, rfl, rfl, by decide +kernel, rfl, by decide +kernel, by decide +kernel⟩
theorem okF_variables {f : Addr} {fd : FuncData} (F : Fun K "variables" "variables" s_variables f fd) (z_sorted : mg "sorted" = none) {f_is_variable : Addr} {d_is_variable : FuncData} (G_is_variable : FnOk P w K mg base CX0 1 f_is_variable d_is_variable ["value"] (spP K F_is_variable)) (m_is_variable : mg "is_variable" = some (.ref f_is_variable)) (k_is_variable : PySem.W.keepIn K (.ref f_is_variable) = true) (b_is_variable : Binds K d_is_variable ["value"] []) : FnOk P w K mg base CX0 2 f fd ["atoms"] (spP K F_variables) :=
  show FnOk P w K mg base CX0 2 f fd ["atoms"] (spP K (fnF 1 3 S_variables)) from
  fn_okF (S := S_variables) 1 3 F sc_variables rfl rfl (fun cdv A outer s H E hr => by
    have hu := hr.units
    have hv := Room.u65 hr
    exact (qss_one (qs_ret (qd_sort2S (by rfl) z_sorted (own := [("atom", 1), ("term", 2)]) (vs1 := [2]) rfl sc_variables.nd hu (qdi_val (qdv 0)) (blkOk_by (own := [("atom", 1), ("term", 2)]) (N := ["atoms", "atom", "term"]) (sc := (defScope s_variables)) (by decide +kernel)) (by decide) (by decide) (by decide) (fun _ _ _ _ _ => (qdg_name (i := 1) sc_variables.nd rfl (Or.inl rfl))) (fun _ _ _ _ _ => qts_nil) (fun _ _ _ _ _ => (qdi_val (qd_sl sl_U pu_sl (qdv 1) (qdo_some qd_int) qdo_none))) (fun _ _ _ _ _ => (qdg_name (i := 2) sc_variables.nd rfl (Or.inl rfl))) (fun _ _ _ _ _ => (qts_one (qdt_val (qd_call G_is_variable (hr.mono (by decide)) rfl m_is_variable k_is_variable b_is_variable pass0 (qda_cons (qdv 2) qda_nil))))) (fun _ _ _ _ _ => (qdv 2))))))
   (show IsS _ S_variables from (is_ret (is_sort (is_afV is_v) is_tfYes (is_two (is_afV (is_sl is_v (is_ofS is_c) is_ofN)) (is_tfE (is_call (is_co is_v is_n))) (is_put is_v)))))

end
end My

set_option linter.unusedVariables false
namespace My
open PySem PySem.Spec PyProof.Rows L2
section
variable [TbC] {P : Program} {w : World} {K : PySem.W.Frag} {mg : Str → Option Value} {base : Heap}
theorem sc_with_goal : FnScope ["table", "fact", "goal", "wider", "part", "aim"] ["table", "fact", "goal"] (defScope s_with_goal) := ⟨rfl, rfl, rfl, by decide +kernel, rfl, by decide +kernel, by decide +kernel⟩
theorem okF_with_goal {f : Addr} {fd : FuncData} (F : Fun K "with_goal" "with_goal" s_with_goal f fd) (z_len : mg "len" = none) (z_dict : mg "dict" = none) (z_zip : mg "zip" = none) {f_is_open : Addr} {d_is_open : FuncData} (G_is_open : FnOk P w K mg base CX0 1 f_is_open d_is_open ["part"] (spP K F_is_open)) (m_is_open : mg "is_open" = some (.ref f_is_open)) (k_is_open : PySem.W.keepIn K (.ref f_is_open) = true) (b_is_open : Binds K d_is_open ["part"] []) : FnOk P w K mg base CX0 2 f fd ["table", "fact", "goal"] (spP K F_with_goal) :=
  show FnOk P w K mg base CX0 2 f fd ["table", "fact", "goal"] (spP K (fnF 3 6 S_with_goal)) from
  fn_okF (S := S_with_goal) 3 6 F sc_with_goal rfl rfl (fun cdv A outer s H E hr => by
    have hu := hr.units
    have hv := Room.u65 hr
    exact (qss_cons (qs_if (qdt_W (qdw_or (qdt_cmp (op_neU hu) pu_ne (qd_ix ix_seq pu_ix (qdv 1) qd_int) (qd_ix ix_seq pu_ix (qdv 2) qd_int) (nomark _)) (qdw_or1 (qdt_cmp (op_neU hu) pu_ne (qd_callB cr_lenU pu_len (by rfl) z_len PySem.boot_len (qda_cons (qdv 1) qda_nil)) (qd_callB cr_lenU pu_len (by rfl) z_len PySem.boot_len (qda_cons (qdv 2) qda_nil)) (nomark _))))) (qss_one (qs_ret qd_non)) qss_nil)
      (qss_cons (qs_makeK (i := 3) rfl (by rfl) z_dict sc_with_goal.nd rfl (Or.inl rfl) (qda_cons (qdv 0) qda_nil))
      (qss_cons (qs_for PassesOwn.never rfl (qdi_zipK (by rfl) z_zip (qda_cons (qd_sl sl_U pu_sl (qdv 1) (qdo_some qd_int) qdo_none) (qda_cons (qd_sl sl_U pu_sl (qdv 2) (qdo_some qd_int) qdo_none) qda_nil))) (qdg_tup (n := 2) rfl (qdgs_cons (qdg_name (i := 4) sc_with_goal.nd rfl (Or.inl rfl)) (qdgs_cons (qdg_name (i := 5) sc_with_goal.nd rfl (Or.inl rfl)) qdgs_nil))) (qss_cons (qs_if (qdt_W (qdw_and (qdt_onotin hu (qdv 4) (pv 3)) (qdw_and1 (qdt_val (qd_call G_is_open (hr.mono (by decide)) rfl m_is_open k_is_open b_is_open pass0 (qda_cons (qdv 4) qda_nil)))))) (qss_one (qs_putK (i := 3) hu (pv 3) (qdv 4) (qdv 5) (ps_asg (qdv 5) (pg_sub (pv 3) (qdv 4) (set_dict (lt64 hu)))))) qss_nil)
      (qss_one (qs_if (qdt_cmp (op_neU hu) pu_ne (qd_oget hu (pv 3) (qdv 4) (qdv 4)) (qdv 5) (nomark _)) (qss_one (qs_ret qd_non)) qss_nil))))
      (qss_giveK 3 (qss_one (qs_ret (qdv 3))))))))
   (show IsS _ S_with_goal from (is_seq (is_ifS (is_tfOr (is_tfE (is_op (is_op is_v is_c) (is_op is_v is_c))) (is_tfE (is_op (is_call (is_co is_v is_n)) (is_call (is_co is_v is_n))))) (is_ret is_c) is_nil) (is_seq (is_makeK (is_co is_v is_n)) (is_seq (is_for (is_afZk (is_co (is_sl is_v (is_ofS is_c) is_ofN) (is_co (is_sl is_v (is_ofS is_c) is_ofN) is_n))) (is_seq (is_ifS (is_tfAnd (is_tfE (is_oin is_v)) (is_tfE (is_call (is_co is_v is_n)))) (is_putK is_v is_v) is_nil) (is_ifS (is_tfE (is_op (is_oget is_v is_v) is_v)) (is_ret is_c) is_nil))) (is_giveK (is_ret is_v))))))

end
end My

set_option linter.unusedVariables false
namespace My
open PySem PySem.Spec PyProof.Rows L2
section
variable [TbC] {P : Program} {w : World} {K : PySem.W.Frag} {mg : Str → Option Value} {base : Heap}
theorem sc_made_one : FnScope ["store", "keys", "key", "facts", "pairs", "one", "other"] ["store", "keys"] (defScope s_made_one) := ⟨rfl, rfl, rfl, by decide +kernel, rfl, by decide +kernel, by decide +kernel⟩
theorem okF_made_one {f : Addr} {fd : FuncData} (F : Fun K "made_one" "made_one" s_made_one f fd) (z_zip : mg "zip" = none) (z_min : mg "min" = none) (z_max : mg "max" = none) {f_unlike : Addr} {d_unlike : FuncData} (G_unlike : FnOk P w K mg base CX0 1 f_unlike d_unlike ["key", "store"] (spP K F_unlike)) (m_unlike : mg "unlike" = some (.ref f_unlike)) (k_unlike : PySem.W.keepIn K (.ref f_unlike) = true) (b_unlike : Binds K d_unlike ["key", "store"] []) : FnOk P w K mg base CX0 2 f fd ["store", "keys"] (spP K F_made_one) :=
  show FnOk P w K mg base CX0 2 f fd ["store", "keys"] (spP K (fnF 2 7 S_made_one)) from
  fn_okF (S := S_made_one) 2 7 F sc_made_one rfl rfl (fun cdv A outer s H E hr => by
    have hu := hr.units
    have hv := Room.u65 hr
    exact (qss_cons (qs_for PassesOwn.never rfl (qdi_val (qdv 1)) (qdg_name (i := 2) sc_made_one.nd rfl (Or.inl rfl)) (qss_cons (qs_set (i := 3) sc_made_one.nd rfl (Or.inl rfl) (qd_call G_unlike (hr.mono (by decide)) rfl m_unlike k_unlike b_unlike pass0 (qda_cons (qdv 2) (qda_cons (qdv 0) qda_nil))))
      (qss_one (qs_if (qdt_cmp op_notN pu_notN (qdv 3) qd_non (nomark _)) (qss_cons (qs_setLc (i := 4) (hyl := rfl) (hsw := rfl) (hy := rfl) (hc := rfl) (hN := sc_made_one.nd) (own := [("one", 5), ("other", 6)]) (qdi_zipK (by rfl) z_zip (qda_cons (qd_ix ix_seq pu_ix (qdv 3) qd_int) (qda_cons (qd_ix ix_seq pu_ix (qdv 3) qd_int) qda_nil))) (blkOk_by (own := [("one", 5), ("other", 6)]) (N := ["store", "keys", "key", "facts", "pairs", "one", "other"]) (sc := (defScope s_made_one)) (by decide +kernel)) (by decide) (fun _ _ _ _ _ => (qdg_tup (n := 2) rfl (qdgs_cons (qdg_name (i := 5) sc_made_one.nd rfl (Or.inl rfl)) (qdgs_cons (qdg_name (i := 6) sc_made_one.nd rfl (Or.inl rfl)) qdgs_nil)))) (fun _ _ _ _ _ => (qts_one (qdt_cmp (op_neU hu) pu_ne (qdv 5) (qdv 6) (nomark _)))) (fun _ _ _ _ _ => (qd_tup (qda_cons (qdv 5) (qda_cons (qdv 6) qda_nil)))))
      (qss_one (qs_ret (qd_tup (qda_cons (qd_callB (cr_minD rfl hu) pu_min (by rfl) z_min boot_min (qda_cons (qd_ix ix_seq pu_ix (qdv 4) qd_int) qda_nil)) (qda_cons (qd_callB (cr_maxD rfl hu) pu_max (by rfl) z_max boot_max (qda_cons (qd_ix ix_seq pu_ix (qdv 4) qd_int) qda_nil)) qda_nil)))))) qss_nil))))
      (qss_one (qs_ret qd_non))))
   (show IsS _ S_made_one from (is_seq (is_for (is_afV is_v) (is_seq (is_set (is_call (is_co is_v (is_co is_v is_n)))) (is_ifS (is_tfE (is_op is_v is_c)) (is_seq (is_set (is_lc (is_afZk (is_co (is_op is_v is_c) (is_co (is_op is_v is_c) is_n))) (is_tfE (is_op is_v is_v)) (is_tup (is_co is_v (is_co is_v is_n))))) (is_ret (is_tup (is_co (is_call (is_co (is_op is_v is_c) is_n)) (is_co (is_call (is_co (is_op is_v is_c) is_n)) is_n))))) is_nil))) (is_ret is_c)))

end
end My

set_option linter.unusedVariables false
namespace My
open PySem PySem.Spec PyProof.Rows L2
section
variable [TbC] {P : Program} {w : World} {K : PySem.W.Frag} {mg : Str → Option Value} {base : Heap}
theorem sc_atoms_by : FnScope ["atoms", "table", "atom"] ["atoms", "table"] (defScope s_atoms_by) := ⟨rfl, rfl, rfl, by decide +kernel, rfl, by decide +kernel, by decide +kernel⟩
theorem okF_atoms_by {f : Addr} {fd : FuncData} (F : Fun K "atoms_by" "atoms_by" s_atoms_by f fd) (z_tuple : mg "tuple" = none) {f_fact_by : Addr} {d_fact_by : FuncData} (G_fact_by : FnOk P w K mg base CX0 1 f_fact_by d_fact_by ["fact", "table"] (spP K F_fact_by)) (m_fact_by : mg "fact_by" = some (.ref f_fact_by)) (k_fact_by : PySem.W.keepIn K (.ref f_fact_by) = true) (b_fact_by : Binds K d_fact_by ["fact", "table"] []) : FnOk P w K mg base CX0 2 f fd ["atoms", "table"] (spP K F_atoms_by) :=
  show FnOk P w K mg base CX0 2 f fd ["atoms", "table"] (spP K (fnF 2 3 S_atoms_by)) from
  fn_okF (S := S_atoms_by) 2 3 F sc_atoms_by rfl rfl (fun cdv A outer s H E hr => by
    have hu := hr.units
    have hv := Room.u65 hr
    exact (qss_one (qs_ret (qd_callTy cr_tupU pu_tuple (by rfl) z_tuple boot_tuple (qda_cons (qd_lc (own := [("atom", 2)]) rfl sc_atoms_by.nd (qdi_val (qdv 0)) (blkOk_by (own := [("atom", 2)]) (N := ["atoms", "table", "atom"]) (sc := (defScope s_atoms_by)) (by decide +kernel)) (by decide) (fun _ _ _ _ _ => (qdg_name (i := 2) sc_atoms_by.nd rfl (Or.inl rfl))) (fun _ _ _ _ _ => qts_nil) (fun _ _ _ _ _ => (qd_call G_fact_by (hr.mono (by decide)) rfl m_fact_by k_fact_by b_fact_by pass0 (qda_cons (qdv 2) (qda_cons (qdv 1) qda_nil))))) qda_nil)))))
   (show IsS _ S_atoms_by from (is_ret (is_call (is_co (is_lc (is_afV is_v) is_tfYes (is_call (is_co is_v (is_co is_v is_n)))) is_n))))

end
end My

set_option linter.unusedVariables false
namespace My
open PySem PySem.Spec PyProof.Rows L2
section
variable [TbC] {P : Program} {w : World} {K : PySem.W.Frag} {mg : Str → Option Value} {base : Heap}
theorem sc_renamed : FnScope ["store", "pairs"] ["store", "pairs"] (defScope sRen) := ⟨rfl, rfl, rfl, by decide +kernel, rfl, by decide +kernel, by decide +kernel⟩
theorem okF_renamed {f : Addr} {fd : FuncData} (F : Fun K "renamed" "renamed" sRen f fd) (z_dict : mg "dict" = none) {f_store_by : Addr} {d_store_by : FuncData} (G_store_by : FnOk P w K mg base CX0 2 f_store_by d_store_by ["store", "table"] (spP K F_store_by)) (m_store_by : mg "store_by" = some (.ref f_store_by)) (k_store_by : PySem.W.keepIn K (.ref f_store_by) = true) (b_store_by : Binds K d_store_by ["store", "table"] []) : FnOk P w K mg base CX0 3 f fd ["store", "pairs"] (spP K F_renamed) :=
  show FnOk P w K mg base CX0 3 f fd ["store", "pairs"] (spP K (fnF 2 2 S_renamed)) from
  fn_okF (S := S_renamed) 2 2 F sc_renamed rfl rfl (fun cdv A outer s H E hr => by
    have hu := hr.units
    have hv := Room.u65 hr
    exact (qss_one (qs_ret (qd_call G_store_by (hr.mono (by decide)) rfl m_store_by k_store_by b_store_by pass0 (qda_cons (qdv 0) (qda_cons (qd_callTy (CallR.lock (call_dictA rfl)) pu_dict (by rfl) z_dict boot_dict (qda_cons (qdv 1) qda_nil)) qda_nil))))))
   (show IsS _ S_renamed from (is_ret (is_call (is_co is_v (is_co (is_call (is_co is_v is_n)) is_n)))))

end
end My

set_option linter.unusedVariables false
namespace My
open PySem PySem.Spec PyProof.Rows L2
section
variable [TbC] {P : Program} {w : World} {K : PySem.W.Frag} {mg : Str → Option Value} {base : Heap}
theorem sc_next_states : FnScope ["states", "names", "steps", "table", "left", "fact", "wider", "least", "other", "step"] ["states", "names"] (defScope s_next_states) := ⟨rfl, rfl, rfl, by decide +kernel, rfl, by decide +kernel, by decide +kernel⟩
theorem okF_next_states {f : Addr} {fd : FuncData} (F : Fun K "next_states" "next_states" s_next_states f fd) (z_min : mg "min" = none) {f_named : Addr} {d_named : FuncData} (G_named : FnOk P w K mg base CX0 2 f_named d_named ["table", "fact", "names"] (spP K F_named)) (m_named : mg "named" = some (.ref f_named)) (k_named : PySem.W.keepIn K (.ref f_named) = true) (b_named : Binds K d_named ["table", "fact", "names"] []) {f_fact_by : Addr} {d_fact_by : FuncData} (G_fact_by : FnOk P w K mg base CX0 1 f_fact_by d_fact_by ["fact", "table"] (spP K F_fact_by)) (m_fact_by : mg "fact_by" = some (.ref f_fact_by)) (k_fact_by : PySem.W.keepIn K (.ref f_fact_by) = true) (b_fact_by : Binds K d_fact_by ["fact", "table"] []) : FnOk P w K mg base CX0 3 f fd ["states", "names"] (spP K F_next_states) :=
  show FnOk P w K mg base CX0 3 f fd ["states", "names"] (spP K (fnF 2 10 S_next_states)) from
  fn_okF (S := S_next_states) 2 10 F sc_next_states rfl rfl (fun cdv A outer s H E hr => by
    have hu := hr.units
    have hv := Room.u65 hr
    exact (qss_cons (qs_newL (i := 2) sc_next_states.nd rfl (Or.inl rfl))
      (qss_cons (qs_for PassesOwn.never rfl (qdi_val (qdv 0)) (qdg_tup (n := 2) rfl (qdgs_cons (qdg_name (i := 3) sc_next_states.nd rfl (Or.inl rfl)) (qdgs_cons (qdg_name (i := 4) sc_next_states.nd rfl (Or.inl rfl)) qdgs_nil))) (qss_one (qs_for PassesOwn.never rfl (qdi_val (qdv 4)) (qdg_name (i := 5) sc_next_states.nd rfl (Or.inr rfl)) (qss_cons (qs_set (i := 6) sc_next_states.nd rfl (Or.inl rfl) (qd_call G_named (hr.mono (by decide)) rfl m_named k_named b_named pass0 (qda_cons (qdv 3) (qda_cons (qdv 5) (qda_cons (qdv 1) qda_nil)))))
      (qss_one (qs_app' (ps_expr (pe_bm PySem.F.plainAttrs_list PySem.F.slot_list_append PySem.F.type_list_append mt_append (pv 2) (pa_cons (qd_tup (qda_cons (qd_call G_fact_by (hr.mono (by decide)) rfl m_fact_by k_fact_by b_fact_by pass0 (qda_cons (qdv 5) (qda_cons (qdv 6) qda_nil))) (qda_cons (qdv 6) (qda_cons (qd_lc (own := [("other", 8)]) rfl sc_next_states.nd (qdi_val (qdv 4)) (blkOk_by (own := [("other", 8)]) (N := ["states", "names", "steps", "table", "left", "fact", "wider", "least", "other", "step"]) (sc := (defScope s_next_states)) (by decide +kernel)) (by decide) (fun _ _ _ _ _ => (qdg_name (i := 8) sc_next_states.nd rfl (Or.inl rfl))) (fun _ _ _ _ _ => (qts_one (qdt_cmp (op_neU hu) pu_ne (qdv 8) (qdv 5) (nomark _)))) (fun _ _ _ _ _ => (qdv 8))) qda_nil)))) pa_nil)))))))))
      (qss_give 2 (qss_cons (qs_set (i := 7) sc_next_states.nd rfl (Or.inr rfl) (qd_callB (cr_minD rfl hu) pu_min (by rfl) z_min boot_min (qda_cons (qd_lc (own := [("step", 9)]) rfl sc_next_states.nd (qdi_val (qdv 2)) (blkOk_by (own := [("step", 9)]) (N := ["states", "names", "steps", "table", "left", "fact", "wider", "least", "other", "step"]) (sc := (defScope s_next_states)) (by decide +kernel)) (by decide) (fun _ _ _ _ _ => (qdg_name (i := 9) sc_next_states.nd rfl (Or.inl rfl))) (fun _ _ _ _ _ => qts_nil) (fun _ _ _ _ _ => (qd_ix ix_seq pu_ix (qdv 9) qd_int))) qda_nil)))
      (qss_one (qs_ret (qd_lc (own := [("fact", 5), ("table", 3), ("left", 4)]) rfl sc_next_states.nd (qdi_val (qdv 2)) (blkOk_by (own := [("fact", 5), ("table", 3), ("left", 4)]) (N := ["states", "names", "steps", "table", "left", "fact", "wider", "least", "other", "step"]) (sc := (defScope s_next_states)) (by decide +kernel)) (by decide) (fun _ _ _ _ _ => (qdg_tup (n := 3) rfl (qdgs_cons (qdg_name (i := 5) sc_next_states.nd rfl (Or.inl rfl)) (qdgs_cons (qdg_name (i := 3) sc_next_states.nd rfl (Or.inl rfl)) (qdgs_cons (qdg_name (i := 4) sc_next_states.nd rfl (Or.inl rfl)) qdgs_nil))))) (fun _ _ _ _ _ => (qts_one (qdt_cmp (op_eqU hu) pu_eq (qdv 5) (qdv 7) (nomark _)))) (fun _ _ _ _ _ => (qd_tup (qda_cons (qdv 3) (qda_cons (qdv 4) qda_nil))))))))))))
   (show IsS _ S_next_states from (is_seq is_newL (is_seq (is_for (is_afV is_v) (is_for (is_afV is_v) (is_seq (is_set (is_call (is_co is_v (is_co is_v (is_co is_v is_n))))) (is_apps (is_tup (is_co (is_call (is_co is_v (is_co is_v is_n))) (is_co is_v (is_co (is_lc (is_afV is_v) (is_tfE (is_op is_v is_v)) is_v) is_n)))))))) (is_give (is_seq (is_set (is_call (is_co (is_lc (is_afV is_v) is_tfYes (is_op is_v is_c)) is_n))) (is_ret (is_lc (is_afV is_v) (is_tfE (is_op is_v is_v)) (is_tup (is_co is_v (is_co is_v is_n))))))))))

end
end My

set_option linter.unusedVariables false
namespace My
open PySem PySem.Spec PyProof.Rows L2
section
variable [TbC] {P : Program} {w : World} {K : PySem.W.Frag} {mg : Str → Option Value} {base : Heap}
theorem sc_knots : FnScope ["store", "groups", "fact", "near", "group", "row"] ["store"] (defScope s_knots) := ⟨rfl, rfl, rfl, by decide +kernel, rfl, by decide +kernel, by decide +kernel⟩
theorem okF_knots {f : Addr} {fd : FuncData} (F : Fun K "knots" "knots" s_knots f fd) {f_touches : Addr} {d_touches : FuncData} (G_touches : FnOk P w K mg base CX0 2 f_touches d_touches ["group", "fact"] (spP K F_touches)) (m_touches : mg "touches" = some (.ref f_touches)) (k_touches : PySem.W.keepIn K (.ref f_touches) = true) (b_touches : Binds K d_touches ["group", "fact"] []) : FnOk P w K mg base CX0 3 f fd ["store"] (spP K F_knots) :=
  show FnOk P w K mg base CX0 3 f fd ["store"] (spP K (fnF 1 6 S_knots)) from
  fn_okF (S := S_knots) 1 6 F sc_knots rfl rfl (fun cdv A outer s H E hr => by
    have hu := hr.units
    have hv := Room.u65 hr
    exact (qss_cons (qs_set (i := 1) sc_knots.nd rfl (Or.inl rfl) (qd_lst qda_nil))
      (qss_cons (qs_for PassesOwn.never rfl (qdi_val (qdv 0)) (qdg_name (i := 2) sc_knots.nd rfl (Or.inr rfl)) (qss_cons (qs_setLc2 (i := 3) (hyl := rfl) (hsw := rfl) (hy := rfl) (hc := rfl) (hN := sc_knots.nd) (own := [("group", 4), ("row", 5)]) (vs1 := [5]) (qdi_val (qdv 1)) (blkOk_by (own := [("group", 4), ("row", 5)]) (N := ["store", "groups", "fact", "near", "group", "row"]) (sc := (defScope s_knots)) (by decide +kernel)) (by decide) (by decide) (by decide) (gp_name 4) (gp_name 5) (fun _ _ _ _ _ => (qdg_name (i := 4) sc_knots.nd rfl (Or.inl rfl))) (fun _ _ _ _ _ => (qts_one (qdt_val (qd_call G_touches (hr.mono (by decide)) rfl m_touches k_touches b_touches pass0 (qda_cons (qdv 4) (qda_cons (qdv 2) qda_nil)))))) (fun _ _ _ _ _ => (qdi_val (qdv 4))) (fun _ _ _ _ _ => (qdg_name (i := 5) sc_knots.nd rfl (Or.inl rfl))) (fun _ _ _ _ _ => qts_nil) (fun _ _ _ _ _ => (qdv 5)))
      (qss_one (qs_set (i := 1) sc_knots.nd rfl (Or.inl rfl) (qd_op op_addU pu_add (qd_lc (own := [("group", 4)]) rfl sc_knots.nd (qdi_val (qdv 1)) (blkOk_by (own := [("group", 4)]) (N := ["store", "groups", "fact", "near", "group", "row"]) (sc := (defScope s_knots)) (by decide +kernel)) (by decide) (fun _ _ _ _ _ => (qdg_name (i := 4) sc_knots.nd rfl (Or.inl rfl))) (fun _ _ _ _ _ => (qts_one (qdt_not (qdt_val (qd_call G_touches (hr.mono (by decide)) rfl m_touches k_touches b_touches pass0 (qda_cons (qdv 4) (qda_cons (qdv 2) qda_nil))))))) (fun _ _ _ _ _ => (qdv 4))) (qd_lst (qda_cons (qd_op op_addU pu_add (qdv 3) (qd_lst (qda_cons (qdv 2) qda_nil))) qda_nil)))))))
      (qss_one (qs_ret (qdv 1))))))
   (show IsS _ S_knots from (is_seq (is_set (is_lst is_n)) (is_seq (is_for (is_afV is_v) (is_seq (is_set (is_lc2 (is_afV is_v) (is_tfE (is_call (is_co is_v (is_co is_v is_n)))) (is_afV is_v) is_tfYes is_v)) (is_set (is_op (is_lc (is_afV is_v) (is_tfNot (is_tfE (is_call (is_co is_v (is_co is_v is_n))))) is_v) (is_lst (is_co (is_op is_v (is_lst (is_co is_v is_n))) is_n)))))) (is_ret is_v))))

end
end My

set_option linter.unusedVariables false
namespace My
open PySem PySem.Spec PyProof.Rows L2
section
variable [TbC] {P : Program} {w : World} {K : PySem.W.Frag} {mg : Str → Option Value} {base : Heap}
theorem sc_goals : FnScope ["fact", "others", "table", "goal"] ["fact", "others", "table"] (defScope s_goals) := ⟨rfl, rfl, rfl, by decide +kernel, rfl, by decide +kernel, by decide +kernel⟩
theorem okF_goals {f : Addr} {fd : FuncData} (F : Fun K "goals" "goals" s_goals f fd) {f_with_goal : Addr} {d_with_goal : FuncData} (G_with_goal : FnOk P w K mg base CX0 2 f_with_goal d_with_goal ["table", "fact", "goal"] (spP K F_with_goal)) (m_with_goal : mg "with_goal" = some (.ref f_with_goal)) (k_with_goal : PySem.W.keepIn K (.ref f_with_goal) = true) (b_with_goal : Binds K d_with_goal ["table", "fact", "goal"] []) : FnOk P w K mg base CX0 3 f fd ["fact", "others", "table"] (spP K F_goals) :=
  show FnOk P w K mg base CX0 3 f fd ["fact", "others", "table"] (spP K (fnF 3 4 S_goals)) from
  fn_okF (S := S_goals) 3 4 F sc_goals rfl rfl (fun cdv A outer s H E hr => by
    have hu := hr.units
    have hv := Room.u65 hr
    exact (qss_one (qs_ret (qd_lc (own := [("goal", 3)]) rfl sc_goals.nd (qdi_val (qdv 1)) (blkOk_by (own := [("goal", 3)]) (N := ["fact", "others", "table", "goal"]) (sc := (defScope s_goals)) (by decide +kernel)) (by decide) (fun _ _ _ _ _ => (qdg_name (i := 3) sc_goals.nd rfl (Or.inl rfl))) (fun _ _ _ _ _ => (qts_one (qdt_cmp op_notN pu_notN (qd_call G_with_goal (hr.mono (by decide)) rfl m_with_goal k_with_goal b_with_goal pass0 (qda_cons (qdv 2) (qda_cons (qdv 0) (qda_cons (qdv 3) qda_nil)))) qd_non (nomark _)))) (fun _ _ _ _ _ => (qdv 3))))))
   (show IsS _ S_goals from (is_ret (is_lc (is_afV is_v) (is_tfE (is_op (is_call (is_co is_v (is_co is_v (is_co is_v is_n)))) is_c)) is_v)))

end
end My

set_option linter.unusedVariables false
namespace My
open PySem PySem.Spec PyProof.Rows L2
section
variable [TbC] {P : Program} {w : World} {K : PySem.W.Frag} {mg : Str → Option Value} {base : Heap}
theorem sc_widened_pairs : FnScope ["pairs", "store", "table", "name"] ["pairs", "store"] (defScope s_widened_pairs) := ⟨rfl, rfl, rfl, by decide +kernel, rfl, by decide +kernel, by decide +kernel⟩
theorem okF_widened_pairs {f : Addr} {fd : FuncData} (F : Fun K "widened_pairs" "widened_pairs" s_widened_pairs f fd) (z_dict : mg "dict" = none) (z_tuple : mg "tuple" = none) {f_unknowns : Addr} {d_unknowns : FuncData} (G_unknowns : FnOk P w K mg base CX0 2 f_unknowns d_unknowns ["store"] (spP K F_unknowns)) (m_unknowns : mg "unknowns" = some (.ref f_unknowns)) (k_unknowns : PySem.W.keepIn K (.ref f_unknowns) = true) (b_unknowns : Binds K d_unknowns ["store"] []) : FnOk P w K mg base CX0 3 f fd ["pairs", "store"] (spP K F_widened_pairs) :=
  show FnOk P w K mg base CX0 3 f fd ["pairs", "store"] (spP K (fnF 2 4 S_widened_pairs)) from
  fn_okF (S := S_widened_pairs) 2 4 F sc_widened_pairs rfl rfl (fun cdv A outer s H E hr => by
    have hu := hr.units
    have hv := Room.u65 hr
    exact (qss_cons (qs_set (i := 2) sc_widened_pairs.nd rfl (Or.inr rfl) (qd_callTy (CallR.lock (call_dictA rfl)) pu_dict (by rfl) z_dict boot_dict (qda_cons (qdv 0) qda_nil)))
      (qss_one (qs_ret (qd_callTy cr_tupU pu_tuple (by rfl) z_tuple boot_tuple (qda_cons (qd_lc (own := [("name", 3)]) rfl sc_widened_pairs.nd (qdi_val (qd_call G_unknowns (hr.mono (by decide)) rfl m_unknowns k_unknowns b_unknowns pass0 (qda_cons (qdv 1) qda_nil))) (blkOk_by (own := [("name", 3)]) (N := ["pairs", "store", "table", "name"]) (sc := (defScope s_widened_pairs)) (by decide +kernel)) (by decide) (fun _ _ _ _ _ => (qdg_name (i := 3) sc_widened_pairs.nd rfl (Or.inl rfl))) (fun _ _ _ _ _ => qts_nil) (fun _ _ _ _ _ => (qd_tup (qda_cons (qdv 3) (qda_cons (qd_get hu (qdv 2) (qdv 3) (qdv 3)) qda_nil))))) qda_nil))))))
   (show IsS _ S_widened_pairs from (is_seq (is_set (is_call (is_co is_v is_n))) (is_ret (is_call (is_co (is_lc (is_afV (is_call (is_co is_v is_n))) is_tfYes (is_tup (is_co is_v (is_co (is_get is_v is_v is_v) is_n)))) is_n)))))

end
end My

set_option linter.unusedVariables false
namespace My
open PySem PySem.Spec PyProof.Rows L2
section
variable [TbC] {P : Program} {w : World} {K : PySem.W.Frag} {mg : Str → Option Value} {base : Heap}
theorem sc_settled : FnScope ["store", "keys", "table", "pair", "less", "more", "name", "value"] ["store", "keys"] (defScope s_settled) := ⟨rfl, rfl, rfl, by decide +kernel, rfl, by decide +kernel, by decide +kernel⟩
theorem okF_settled {f : Addr} {fd : FuncData} (F : Fun K "settled" "settled" s_settled f fd) (z_dict : mg "dict" = none) {f_made_one : Addr} {d_made_one : FuncData} (G_made_one : FnOk P w K mg base CX0 2 f_made_one d_made_one ["store", "keys"] (spP K F_made_one)) (m_made_one : mg "made_one" = some (.ref f_made_one)) (k_made_one : PySem.W.keepIn K (.ref f_made_one) = true) (b_made_one : Binds K d_made_one ["store", "keys"] []) {f_is_word : Addr} {d_is_word : FuncData} (G_is_word : FnOk P w K mg base CX0 1 f_is_word d_is_word ["value"] (spP K F_is_word)) (m_is_word : mg "is_word" = some (.ref f_is_word)) (k_is_word : PySem.W.keepIn K (.ref f_is_word) = true) (b_is_word : Binds K d_is_word ["value"] []) {f_store_by : Addr} {d_store_by : FuncData} (G_store_by : FnOk P w K mg base CX0 2 f_store_by d_store_by ["store", "table"] (spP K F_store_by)) (m_store_by : mg "store_by" = some (.ref f_store_by)) (k_store_by : PySem.W.keepIn K (.ref f_store_by) = true) (b_store_by : Binds K d_store_by ["store", "table"] []) : FnOk P w K mg base CX0 3 f fd ["store", "keys"] (spP K F_settled) :=
  show FnOk P w K mg base CX0 3 f fd ["store", "keys"] (spP K (fnF 2 8 S_settled)) from
  fn_okF (S := S_settled) 2 8 F sc_settled rfl rfl (fun cdv A outer s H E hr => by
    have hu := hr.units
    have hv := Room.u65 hr
    exact (qss_cons (qs_set (i := 2) sc_settled.nd rfl (Or.inl rfl) qd_dic0)
      (qss_cons (qs_set (i := 3) sc_settled.nd rfl (Or.inl rfl) (qd_call G_made_one (hr.mono (by decide)) rfl m_made_one k_made_one b_made_one pass0 (qda_cons (qdv 0) (qda_cons (qdv 1) qda_nil))))
      (qss_cons (qs_while PassesOwn.never (qdt_cmp op_notN pu_notN (qdv 3) qd_non (nomark _)) (qss_cons (qs_asg (qdv 3) (qdg_tup (n := 2) rfl (qdgs_cons (qdg_name (i := 4) sc_settled.nd rfl (Or.inr rfl)) (qdgs_cons (qdg_name (i := 5) sc_settled.nd rfl (Or.inr rfl)) qdgs_nil))))
      (qss_cons (qs_if (qdt_val (qd_call G_is_word (hr.mono (by decide)) rfl m_is_word k_is_word b_is_word pass0 (qda_cons (qdv 4) qda_nil))) (qss_one (qs_ret (qd_tup (qda_cons qd_non (qda_cons (qdv 2) qda_nil))))) qss_nil)
      (qss_cons (qs_set (i := 2) sc_settled.nd rfl (Or.inl rfl) (qd_callTy (CallR.lock (call_dictA rfl)) pu_dict (by rfl) z_dict boot_dict (qda_cons (qd_op op_addU pu_add (qd_lc (own := [("name", 6), ("value", 7)]) rfl sc_settled.nd (qdi_items (qdv 2)) (blkOk_by (own := [("name", 6), ("value", 7)]) (N := ["store", "keys", "table", "pair", "less", "more", "name", "value"]) (sc := (defScope s_settled)) (by decide +kernel)) (by decide) (fun _ _ _ _ _ => (qdg_tup (n := 2) rfl (qdgs_cons (qdg_name (i := 6) sc_settled.nd rfl (Or.inl rfl)) (qdgs_cons (qdg_name (i := 7) sc_settled.nd rfl (Or.inl rfl)) qdgs_nil)))) (fun _ _ _ _ _ => qts_nil) (fun _ _ _ _ _ => (qd_tup (qda_cons (qdv 6) (qda_cons (qd_if (qdt_cmp (op_eqU hu) pu_eq (qdv 7) (qdv 4) (nomark _)) (qdv 5) (qdv 7)) qda_nil))))) (qd_lst (qda_cons (qd_tup (qda_cons (qdv 4) (qda_cons (qdv 5) qda_nil))) qda_nil))) qda_nil)))
      (qss_cons (qs_set (i := 0) sc_settled.nd rfl (Or.inl rfl) (qd_call G_store_by (hr.mono (by decide)) rfl m_store_by k_store_by b_store_by pass0 (qda_cons (qdv 0) (qda_cons (qdv 2) qda_nil))))
      (qss_one (qs_set (i := 3) sc_settled.nd rfl (Or.inl rfl) (qd_call G_made_one (hr.mono (by decide)) rfl m_made_one k_made_one b_made_one pass0 (qda_cons (qdv 0) (qda_cons (qdv 1) qda_nil))))))))))
      (qss_one (qs_ret (qd_tup (qda_cons (qdv 0) (qda_cons (qdv 2) qda_nil)))))))))
   (show IsS _ S_settled from (is_seq (is_set is_c) (is_seq (is_set (is_call (is_co is_v (is_co is_v is_n)))) (is_seq (is_while (is_tfE (is_op is_v is_c)) (is_seq (is_asg is_v) (is_seq (is_ifS (is_tfE (is_call (is_co is_v is_n))) (is_ret (is_tup (is_co is_c (is_co is_v is_n)))) is_nil) (is_seq (is_set (is_call (is_co (is_op (is_lc (is_afKi is_v) is_tfYes (is_tup (is_co is_v (is_co (is_if (is_tfE (is_op is_v is_v)) is_v is_v) is_n)))) (is_lst (is_co (is_tup (is_co is_v (is_co is_v is_n))) is_n))) is_n))) (is_seq (is_set (is_call (is_co is_v (is_co is_v is_n)))) (is_set (is_call (is_co is_v (is_co is_v is_n))))))))) (is_ret (is_tup (is_co is_v (is_co is_v is_n))))))))

end
end My

set_option linter.unusedVariables false
namespace My
open PySem PySem.Spec PyProof.Rows L2
section
variable [TbC] {P : Program} {w : World} {K : PySem.W.Frag} {mg : Str → Option Value} {base : Heap}
theorem sc_plain : FnScope ["store", "many", "names", "states", "number", "table", "_"] ["store"] (defScope s_plain) := ⟨rfl, rfl, rfl, by decide +kernel, rfl, by decide +kernel, by decide +kernel⟩
theorem okF_plain {f : Addr} {fd : FuncData} (F : Fun K "plain" "plain" s_plain f fd) (z_len : mg "len" = none) (z_sorted : mg "sorted" = none) (z_range : mg "range" = none) (z_min : mg "min" = none) {f_unknowns : Addr} {d_unknowns : FuncData} (G_unknowns : FnOk P w K mg base CX0 2 f_unknowns d_unknowns ["store"] (spP K F_unknowns)) (m_unknowns : mg "unknowns" = some (.ref f_unknowns)) (k_unknowns : PySem.W.keepIn K (.ref f_unknowns) = true) (b_unknowns : Binds K d_unknowns ["store"] []) {f_next_states : Addr} {d_next_states : FuncData} (G_next_states : FnOk P w K mg base CX0 3 f_next_states d_next_states ["states", "names"] (spP K F_next_states)) (m_next_states : mg "next_states" = some (.ref f_next_states)) (k_next_states : PySem.W.keepIn K (.ref f_next_states) = true) (b_next_states : Binds K d_next_states ["states", "names"] []) {f_store_by : Addr} {d_store_by : FuncData} (G_store_by : FnOk P w K mg base CX0 2 f_store_by d_store_by ["store", "table"] (spP K F_store_by)) (m_store_by : mg "store_by" = some (.ref f_store_by)) (k_store_by : PySem.W.keepIn K (.ref f_store_by) = true) (b_store_by : Binds K d_store_by ["store", "table"] []) : FnOk P w K mg base CX0 4 f fd ["store"] (spP K F_plain) :=
  show FnOk P w K mg base CX0 4 f fd ["store"] (spP K (fnF 1 7 S_plain)) from
  fn_okF (S := S_plain) 1 7 F sc_plain rfl rfl (fun cdv A outer s H E hr => by
    have hu := hr.units
    have hv := Room.u65 hr
    exact (qss_cons (qs_set (i := 1) sc_plain.nd rfl (Or.inl rfl) (qd_callB cr_lenU pu_len (by rfl) z_len PySem.boot_len (qda_cons (qd_call G_unknowns (hr.mono (by decide)) rfl m_unknowns k_unknowns b_unknowns pass0 (qda_cons (qdv 0) qda_nil)) qda_nil)))
      (qss_cons (qs_set (i := 2) sc_plain.nd rfl (Or.inl rfl) (qd_callB cr_sortedS pu_sortS (by rfl) z_sorted boot_sorted (qda_cons (qd_lc (own := [("number", 4)]) rfl sc_plain.nd (qdi_range (by rfl) z_range (qda_cons (qdv 1) qda_nil)) (blkOk_by (own := [("number", 4)]) (N := ["store", "many", "names", "states", "number", "table", "_"]) (sc := (defScope s_plain)) (by decide +kernel)) (by decide) (fun _ _ _ _ _ => (qdg_name (i := 4) sc_plain.nd rfl (Or.inl rfl))) (fun _ _ _ _ _ => qts_nil) (fun _ _ _ _ _ => (qd_fs (qd_op op_addU pu_add (qdv 4) qd_int)))) qda_nil)))
      (qss_cons (qs_set (i := 3) sc_plain.nd rfl (Or.inl rfl) (qd_lst (qda_cons (qd_tup (qda_cons qd_dic0 (qda_cons (qdv 0) qda_nil))) qda_nil)))
      (qss_cons (qs_while PassesOwn.never (qdt_cmp op_lt pu_cmp (qd_callB call_lenK pu_lenK (by rfl) z_len boot_len (qda_cons (qd_ix ix_seq pu_ix (qd_ix ix_seq pu_ix (qdv 3) qd_int) qd_int) qda_nil)) (qdv 1) (nomark _)) (qss_one (qs_set (i := 3) sc_plain.nd rfl (Or.inl rfl) (qd_call G_next_states (hr.mono (by decide)) rfl m_next_states k_next_states b_next_states pass0 (qda_cons (qdv 3) (qda_cons (qdv 2) qda_nil))))))
      (qss_one (qs_ret (qd_callB (cr_minD rfl hu) pu_min (by rfl) z_min boot_min (qda_cons (qd_lc (own := [("table", 5), ("_", 6)]) rfl sc_plain.nd (qdi_val (qdv 3)) (blkOk_by (own := [("table", 5), ("_", 6)]) (N := ["store", "many", "names", "states", "number", "table", "_"]) (sc := (defScope s_plain)) (by decide +kernel)) (by decide) (fun _ _ _ _ _ => (qdg_tup (n := 2) rfl (qdgs_cons (qdg_name (i := 5) sc_plain.nd rfl (Or.inl rfl)) (qdgs_cons (qdg_name (i := 6) sc_plain.nd rfl (Or.inl rfl)) qdgs_nil)))) (fun _ _ _ _ _ => qts_nil) (fun _ _ _ _ _ => (qd_call G_store_by (hr.mono (by decide)) rfl m_store_by k_store_by b_store_by pass0 (qda_cons (qdv 0) (qda_cons (qdv 5) qda_nil))))) qda_nil)))))))))
   (show IsS _ S_plain from (is_seq (is_set (is_call (is_co (is_call (is_co is_v is_n)) is_n))) (is_seq (is_set (is_call (is_co (is_lc (is_afR (is_co is_v is_n)) is_tfYes (is_fs (is_op is_v is_c))) is_n))) (is_seq (is_set (is_lst (is_co (is_tup (is_co is_c (is_co is_v is_n))) is_n))) (is_seq (is_while (is_tfE (is_op (is_call (is_co (is_op (is_op is_v is_c) is_c) is_n)) is_v)) (is_set (is_call (is_co is_v (is_co is_v is_n))))) (is_ret (is_call (is_co (is_lc (is_afV is_v) is_tfYes (is_call (is_co is_v (is_co is_v is_n)))) is_n))))))))

end
end My

set_option linter.unusedVariables false
namespace My
open PySem PySem.Spec PyProof.Rows L2
section
variable [TbC] {P : Program} {w : World} {K : PySem.W.Frag} {mg : Str → Option Value} {base : Heap}
theorem sc_choices_left : FnScope ["choices", "fact", "table", "later", "aims"] ["choices", "fact", "table"] (defScope s_choices_left) := ⟨rfl, rfl, rfl, by decide +kernel, rfl, by decide +kernel, by decide +kernel⟩
theorem okF_choices_left {f : Addr} {fd : FuncData} (F : Fun K "choices_left" "choices_left" s_choices_left f fd) {f_goals : Addr} {d_goals : FuncData} (G_goals : FnOk P w K mg base CX0 3 f_goals d_goals ["fact", "others", "table"] (spP K F_goals)) (m_goals : mg "goals" = some (.ref f_goals)) (k_goals : PySem.W.keepIn K (.ref f_goals) = true) (b_goals : Binds K d_goals ["fact", "others", "table"] []) : FnOk P w K mg base CX0 4 f fd ["choices", "fact", "table"] (spP K F_choices_left) :=
  show FnOk P w K mg base CX0 4 f fd ["choices", "fact", "table"] (spP K (fnF 3 5 S_choices_left)) from
  fn_okF (S := S_choices_left) 3 5 F sc_choices_left rfl rfl (fun cdv A outer s H E hr => by
    have hu := hr.units
    have hv := Room.u65 hr
    exact (qss_one (qs_ret (qd_lc (own := [("later", 3), ("aims", 4)]) rfl sc_choices_left.nd (qdi_val (qdv 0)) (blkOk_by (own := [("later", 3), ("aims", 4)]) (N := ["choices", "fact", "table", "later", "aims"]) (sc := (defScope s_choices_left)) (by decide +kernel)) (by decide) (fun _ _ _ _ _ => (qdg_tup (n := 2) rfl (qdgs_cons (qdg_name (i := 3) sc_choices_left.nd rfl (Or.inl rfl)) (qdgs_cons (qdg_name (i := 4) sc_choices_left.nd rfl (Or.inl rfl)) qdgs_nil)))) (fun _ _ _ _ _ => (qts_one (qdt_cmp (op_neU hu) pu_ne (qdv 3) (qdv 1) (nomark _)))) (fun _ _ _ _ _ => (qd_tup (qda_cons (qdv 3) (qda_cons (qd_call G_goals (hr.mono (by decide)) rfl m_goals k_goals b_goals pass0 (qda_cons (qdv 3) (qda_cons (qdv 4) (qda_cons (qdv 2) qda_nil)))) qda_nil))))))))
   (show IsS _ S_choices_left from (is_ret (is_lc (is_afV is_v) (is_tfE (is_op is_v is_v)) (is_tup (is_co is_v (is_co (is_call (is_co is_v (is_co is_v (is_co is_v is_n)))) is_n))))))

end
end My

set_option linter.unusedVariables false
namespace My
open PySem PySem.Spec PyProof.Rows L2
section
variable [TbC] {P : Program} {w : World} {K : PySem.W.Frag} {mg : Str → Option Value} {base : Heap}
theorem sc_choices_for : FnScope ["facts", "others", "table", "fact"] ["facts", "others", "table"] (defScope s_choices_for) := ⟨rfl, rfl, rfl, by decide +kernel, rfl, by decide +kernel, by decide +kernel⟩
theorem okF_choices_for {f : Addr} {fd : FuncData} (F : Fun K "choices_for" "choices_for" s_choices_for f fd) {f_goals : Addr} {d_goals : FuncData} (G_goals : FnOk P w K mg base CX0 3 f_goals d_goals ["fact", "others", "table"] (spP K F_goals)) (m_goals : mg "goals" = some (.ref f_goals)) (k_goals : PySem.W.keepIn K (.ref f_goals) = true) (b_goals : Binds K d_goals ["fact", "others", "table"] []) : FnOk P w K mg base CX0 4 f fd ["facts", "others", "table"] (spP K F_choices_for) :=
  show FnOk P w K mg base CX0 4 f fd ["facts", "others", "table"] (spP K (fnF 3 4 S_choices_for)) from
  fn_okF (S := S_choices_for) 3 4 F sc_choices_for rfl rfl (fun cdv A outer s H E hr => by
    have hu := hr.units
    have hv := Room.u65 hr
    exact (qss_one (qs_ret (qd_lc (own := [("fact", 3)]) rfl sc_choices_for.nd (qdi_val (qdv 0)) (blkOk_by (own := [("fact", 3)]) (N := ["facts", "others", "table", "fact"]) (sc := (defScope s_choices_for)) (by decide +kernel)) (by decide) (fun _ _ _ _ _ => (qdg_name (i := 3) sc_choices_for.nd rfl (Or.inl rfl))) (fun _ _ _ _ _ => qts_nil) (fun _ _ _ _ _ => (qd_tup (qda_cons (qdv 3) (qda_cons (qd_call G_goals (hr.mono (by decide)) rfl m_goals k_goals b_goals pass0 (qda_cons (qdv 3) (qda_cons (qdv 1) (qda_cons (qdv 2) qda_nil)))) qda_nil))))))))
   (show IsS _ S_choices_for from (is_ret (is_lc (is_afV is_v) is_tfYes (is_tup (is_co is_v (is_co (is_call (is_co is_v (is_co is_v (is_co is_v is_n)))) is_n))))))

end
end My

set_option linter.unusedVariables false
namespace My
open PySem PySem.Spec PyProof.Rows L2
section
variable [TbC] {P : Program} {w : World} {K : PySem.W.Frag} {mg : Str → Option Value} {base : Heap}
theorem sc_blocks : FnScope ["store", "knot"] ["store"] (defScope s_blocks) := ⟨rfl, rfl, rfl, by decide +kernel, rfl, by decide +kernel, by decide +kernel⟩
theorem okF_blocks {f : Addr} {fd : FuncData} (F : Fun K "blocks" "blocks" s_blocks f fd) (z_tuple : mg "tuple" = none) (z_sorted : mg "sorted" = none) {f_unknowns : Addr} {d_unknowns : FuncData} (G_unknowns : FnOk P w K mg base CX0 2 f_unknowns d_unknowns ["store"] (spP K F_unknowns)) (m_unknowns : mg "unknowns" = some (.ref f_unknowns)) (k_unknowns : PySem.W.keepIn K (.ref f_unknowns) = true) (b_unknowns : Binds K d_unknowns ["store"] []) {f_knots : Addr} {d_knots : FuncData} (G_knots : FnOk P w K mg base CX0 3 f_knots d_knots ["store"] (spP K F_knots)) (m_knots : mg "knots" = some (.ref f_knots)) (k_knots : PySem.W.keepIn K (.ref f_knots) = true) (b_knots : Binds K d_knots ["store"] []) : FnOk P w K mg base CX0 4 f fd ["store"] (spP K F_blocks) :=
  show FnOk P w K mg base CX0 4 f fd ["store"] (spP K (fnF 1 2 S_blocks)) from
  fn_okF (S := S_blocks) 1 2 F sc_blocks rfl rfl (fun cdv A outer s H E hr => by
    have hu := hr.units
    have hv := Room.u65 hr
    exact (qss_one (qs_ret (qd_callTy cr_tupU pu_tuple (by rfl) z_tuple boot_tuple (qda_cons (qd_callB (cr_sortTL rfl) pu_sortT (by rfl) z_sorted boot_sorted (qda_cons (qd_lc (own := [("knot", 1)]) rfl sc_blocks.nd (qdi_val (qd_call G_knots (hr.mono (by decide)) rfl m_knots k_knots b_knots pass0 (qda_cons (qdv 0) qda_nil))) (blkOk_by (own := [("knot", 1)]) (N := ["store", "knot"]) (sc := (defScope s_blocks)) (by decide +kernel)) (by decide) (fun _ _ _ _ _ => (qdg_name (i := 1) sc_blocks.nd rfl (Or.inl rfl))) (fun _ _ _ _ _ => (qts_one (qdt_truth (qd_call G_unknowns (hr.mono (by decide)) rfl m_unknowns k_unknowns b_unknowns pass0 (qda_cons (qdv 1) qda_nil))))) (fun _ _ _ _ _ => (qd_call G_unknowns (hr.mono (by decide)) rfl m_unknowns k_unknowns b_unknowns pass0 (qda_cons (qdv 1) qda_nil)))) qda_nil)) qda_nil)))))
   (show IsS _ S_blocks from (is_ret (is_call (is_co (is_call (is_co (is_lc (is_afV (is_call (is_co is_v is_n))) (is_tfTr (is_call (is_co is_v is_n))) (is_call (is_co is_v is_n))) is_n)) is_n))))

end
end My

set_option linter.unusedVariables false
namespace My
open PySem PySem.Spec PyProof.Rows L2
section
variable [TbC] {P : Program} {w : World} {K : PySem.W.Frag} {mg : Str → Option Value} {base : Heap}
theorem sc_widened : FnScope ["table", "choices", "fact", "row", "goal", "wider", "found"] ["table", "choices"] (defScope s_widened) := ⟨rfl, rfl, rfl, by decide +kernel, rfl, by decide +kernel, by decide +kernel⟩
theorem okR_widened {f : Addr} {fd : FuncData} (F : Fun K "widened" "widened" s_widened f fd) (z_min : mg "min" = none) (z_len : mg "len" = none) {f_with_goal : Addr} {d_with_goal : FuncData} (G_with_goal : FnOk P w K mg base CX0 2 f_with_goal d_with_goal ["table", "fact", "goal"] (spP K F_with_goal)) (m_with_goal : mg "with_goal" = some (.ref f_with_goal)) (k_with_goal : PySem.W.keepIn K (.ref f_with_goal) = true) (b_with_goal : Binds K d_with_goal ["table", "fact", "goal"] []) {f_choices_left : Addr} {d_choices_left : FuncData} (G_choices_left : FnOk P w K mg base CX0 4 f_choices_left d_choices_left ["choices", "fact", "table"] (spP K F_choices_left)) (m_choices_left : mg "choices_left" = some (.ref f_choices_left)) (k_choices_left : PySem.W.keepIn K (.ref f_choices_left) = true) (b_choices_left : Binds K d_choices_left ["choices", "fact", "table"] []) {cC cP : Addr} (TB : LamX.TabB base mg cC cP) (ce : fd.code = .ref cC) (tm : (cP, ("widened" : Str) ++ ".<locals>." ++ "<lambda>") ∈ TbC.T) (m_widened : mg "widened" = some (.ref f)) (k_widened : PySem.W.keepIn K (.ref f) = true) (b_widened : Binds K fd ["table", "choices"] []) : ∀ D : Nat, FnOk P w K mg base CX0 (5 + D) f fd ["table", "choices"] (spP K (R_widened D))
  | 0 => F.ok (k := 4) sc_widened (fun vs H Q E h => by obtain ⟨_, _, _, _, _, e, _⟩ := h; cases e) (fun cdv A outer s H vs Q E hr h => by obtain ⟨_, _, _, _, _, e, _⟩ := h; cases e)
  | D + 1 => by
    have G_widened := okR_widened F z_min z_len G_with_goal m_with_goal k_with_goal b_with_goal G_choices_left m_choices_left k_choices_left b_choices_left TB ce tm m_widened k_widened b_widened D
    show FnOk P w K mg base CX0 (5 + D + 1) f fd ["table", "choices"] (spP K (R_widened (D + 1)))
    exact fn_okFc (S := S_widened (R_widened D)) 2 7 F sc_widened rfl rfl (fun A outer s H E hr => by
      have hu := hr.units
      have hv := Room.u65 hr
      exact (qss_cons (qs_if (qdt_not (qdt_truth (qdv 1))) (qss_one (qs_ret (qdv 0))) qss_nil)
      (qss_cons (qs_asg (qd_minLen (k := 0) (by rfl) z_min rfl (qda_cons (qdv 1) qda_nil) ⟨TB, ce, tm⟩ ⟨rfl, rfl, rfl, by decide +kernel, rfl, by decide +kernel, by decide +kernel⟩ (hr.mono (by omega)) rfl (fun _ _ _ _ _ => rfl) rfl (fun f c2 A outer s H E hr2 => pe_callB call_len_seq (by rfl) z_len PySem.boot_len (pa_cons (pe_ix ix_seq (pv 0) pe_int (fun _ _ => rfl)) pa_nil))) (qdg_tup (n := 2) rfl (qdgs_cons (qdg_name (i := 2) sc_widened.nd rfl (Or.inl rfl)) (qdgs_cons (qdg_name (i := 3) sc_widened.nd rfl (Or.inl rfl)) qdgs_nil))))
      (qss_cons (qs_for PassesOwn.never rfl (qdi_val (qdv 3)) (qdg_name (i := 4) sc_widened.nd rfl (Or.inl rfl)) (qss_cons (qs_set (i := 5) sc_widened.nd rfl (Or.inl rfl) (qd_call G_with_goal (hr.mono (by omega)) rfl m_with_goal k_with_goal b_with_goal pass0 (qda_cons (qdv 0) (qda_cons (qdv 2) (qda_cons (qdv 4) qda_nil)))))
      (qss_cons (qs_set (i := 6) sc_widened.nd rfl (Or.inl rfl) (qd_call G_widened (hr.mono (by omega)) rfl m_widened k_widened b_widened pass0 (qda_cons (qdv 5) (qda_cons (qd_call G_choices_left (hr.mono (by omega)) rfl m_choices_left k_choices_left b_choices_left pass0 (qda_cons (qdv 1) (qda_cons (qdv 2) (qda_cons (qdv 5) qda_nil)))) qda_nil))))
      (qss_one (qs_if (qdt_cmp op_notN pu_notN (qdv 6) qd_non (nomark _)) (qss_one (qs_ret (qdv 6))) qss_nil)))))
      (qss_one (qs_ret qd_non))))))
     (show IsS _ (S_widened (R_widened D)) from (is_seq (is_ifS (is_tfNot (is_tfTr is_v)) (is_ret is_v) is_nil) (is_seq (is_asg (is_call (is_co is_v is_n))) (is_seq (is_for (is_afV is_v) (is_seq (is_set (is_call (is_co is_v (is_co is_v (is_co is_v is_n))))) (is_seq (is_set (is_call (is_co is_v (is_co (is_call (is_co is_v (is_co is_v (is_co is_v is_n)))) is_n)))) (is_ifS (is_tfE (is_op is_v is_c)) (is_ret is_v) is_nil)))) (is_ret is_c)))))
theorem okF_widened {f : Addr} {fd : FuncData} (F : Fun K "widened" "widened" s_widened f fd) (z_min : mg "min" = none) (z_len : mg "len" = none) {f_with_goal : Addr} {d_with_goal : FuncData} (G_with_goal : FnOk P w K mg base CX0 2 f_with_goal d_with_goal ["table", "fact", "goal"] (spP K F_with_goal)) (m_with_goal : mg "with_goal" = some (.ref f_with_goal)) (k_with_goal : PySem.W.keepIn K (.ref f_with_goal) = true) (b_with_goal : Binds K d_with_goal ["table", "fact", "goal"] []) {f_choices_left : Addr} {d_choices_left : FuncData} (G_choices_left : FnOk P w K mg base CX0 4 f_choices_left d_choices_left ["choices", "fact", "table"] (spP K F_choices_left)) (m_choices_left : mg "choices_left" = some (.ref f_choices_left)) (k_choices_left : PySem.W.keepIn K (.ref f_choices_left) = true) (b_choices_left : Binds K d_choices_left ["choices", "fact", "table"] []) {cC cP : Addr} (TB : LamX.TabB base mg cC cP) (ce : fd.code = .ref cC) (tm : (cP, ("widened" : Str) ++ ".<locals>." ++ "<lambda>") ∈ TbC.T) (m_widened : mg "widened" = some (.ref f)) (k_widened : PySem.W.keepIn K (.ref f) = true) (b_widened : Binds K fd ["table", "choices"] []) : FnOk P w K mg base CX0 45 f fd ["table", "choices"] (spP K F_widened) := okR_widened F z_min z_len G_with_goal m_with_goal k_with_goal b_with_goal G_choices_left m_choices_left k_choices_left b_choices_left TB ce tm m_widened k_widened b_widened 40

end
end My

set_option linter.unusedVariables false
namespace My
open PySem PySem.Spec PyProof.Rows L2
section
variable [TbC] {P : Program} {w : World} {K : PySem.W.Frag} {mg : Str → Option Value} {base : Heap}
theorem sc_all_widened : FnScope ["table", "choices", "fact", "row", "found", "goal", "wider"] ["table", "choices"] (defScope s_all_widened) := ⟨rfl, rfl, rfl, by decide +kernel, rfl, by decide +kernel, by decide +kernel⟩
theorem okR_all_widened {f : Addr} {fd : FuncData} (F : Fun K "all_widened" "all_widened" s_all_widened f fd) (z_min : mg "min" = none) (z_len : mg "len" = none) {f_with_goal : Addr} {d_with_goal : FuncData} (G_with_goal : FnOk P w K mg base CX0 2 f_with_goal d_with_goal ["table", "fact", "goal"] (spP K F_with_goal)) (m_with_goal : mg "with_goal" = some (.ref f_with_goal)) (k_with_goal : PySem.W.keepIn K (.ref f_with_goal) = true) (b_with_goal : Binds K d_with_goal ["table", "fact", "goal"] []) {f_choices_left : Addr} {d_choices_left : FuncData} (G_choices_left : FnOk P w K mg base CX0 4 f_choices_left d_choices_left ["choices", "fact", "table"] (spP K F_choices_left)) (m_choices_left : mg "choices_left" = some (.ref f_choices_left)) (k_choices_left : PySem.W.keepIn K (.ref f_choices_left) = true) (b_choices_left : Binds K d_choices_left ["choices", "fact", "table"] []) {cC cP : Addr} (TB : LamX.TabB base mg cC cP) (ce : fd.code = .ref cC) (tm : (cP, ("all_widened" : Str) ++ ".<locals>." ++ "<lambda>") ∈ TbC.T) (m_all_widened : mg "all_widened" = some (.ref f)) (k_all_widened : PySem.W.keepIn K (.ref f) = true) (b_all_widened : Binds K fd ["table", "choices"] []) : ∀ D : Nat, FnOk P w K mg base CX0 (5 + D) f fd ["table", "choices"] (spP K (R_all_widened D))
  | 0 => F.ok (k := 4) sc_all_widened (fun vs H Q E h => by obtain ⟨_, _, _, _, _, e, _⟩ := h; cases e) (fun cdv A outer s H vs Q E hr h => by obtain ⟨_, _, _, _, _, e, _⟩ := h; cases e)
  | D + 1 => by
    have G_all_widened := okR_all_widened F z_min z_len G_with_goal m_with_goal k_with_goal b_with_goal G_choices_left m_choices_left k_choices_left b_choices_left TB ce tm m_all_widened k_all_widened b_all_widened D
    show FnOk P w K mg base CX0 (5 + D + 1) f fd ["table", "choices"] (spP K (R_all_widened (D + 1)))
    exact fn_okFc (S := S_all_widened (R_all_widened D)) 2 7 F sc_all_widened rfl rfl (fun A outer s H E hr => by
      have hu := hr.units
      have hv := Room.u65 hr
      exact (qss_cons (qs_if (qdt_not (qdt_truth (qdv 1))) (qss_one (qs_ret (qd_lst (qda_cons (qdv 0) qda_nil)))) qss_nil)
      (qss_cons (qs_asg (qd_minLen (k := 0) (by rfl) z_min rfl (qda_cons (qdv 1) qda_nil) ⟨TB, ce, tm⟩ ⟨rfl, rfl, rfl, by decide +kernel, rfl, by decide +kernel, by decide +kernel⟩ (hr.mono (by omega)) rfl (fun _ _ _ _ _ => rfl) rfl (fun f c2 A outer s H E hr2 => pe_callB call_len_seq (by rfl) z_len PySem.boot_len (pa_cons (pe_ix ix_seq (pv 0) pe_int (fun _ _ => rfl)) pa_nil))) (qdg_tup (n := 2) rfl (qdgs_cons (qdg_name (i := 2) sc_all_widened.nd rfl (Or.inl rfl)) (qdgs_cons (qdg_name (i := 3) sc_all_widened.nd rfl (Or.inl rfl)) qdgs_nil))))
      (qss_cons (qs_newL (i := 4) sc_all_widened.nd rfl (Or.inl rfl))
      (qss_cons (qs_for PassesOwn.never rfl (qdi_val (qdv 3)) (qdg_name (i := 5) sc_all_widened.nd rfl (Or.inl rfl)) (qss_cons (qs_set (i := 6) sc_all_widened.nd rfl (Or.inl rfl) (qd_call G_with_goal (hr.mono (by omega)) rfl m_with_goal k_with_goal b_with_goal pass0 (qda_cons (qdv 0) (qda_cons (qdv 2) (qda_cons (qdv 5) qda_nil)))))
      (qss_one (qs_ext' (ps_expr (pe_bm PySem.F.plainAttrs_list PySem.F.slot_list_extend PySem.F.type_list_extend mt_extend (pv 4) (pa_cons (qd_call G_all_widened (hr.mono (by omega)) rfl m_all_widened k_all_widened b_all_widened pass0 (qda_cons (qdv 6) (qda_cons (qd_call G_choices_left (hr.mono (by omega)) rfl m_choices_left k_choices_left b_choices_left pass0 (qda_cons (qdv 1) (qda_cons (qdv 2) (qda_cons (qdv 6) qda_nil)))) qda_nil))) pa_nil)))))))
      (qss_give 4 (qss_one (qs_ret (qdv 4)))))))))
     (show IsS _ (S_all_widened (R_all_widened D)) from (is_seq (is_ifS (is_tfNot (is_tfTr is_v)) (is_ret (is_lst (is_co is_v is_n))) is_nil) (is_seq (is_asg (is_call (is_co is_v is_n))) (is_seq is_newL (is_seq (is_for (is_afV is_v) (is_seq (is_set (is_call (is_co is_v (is_co is_v (is_co is_v is_n))))) (is_ext (is_call (is_co is_v (is_co (is_call (is_co is_v (is_co is_v (is_co is_v is_n)))) is_n)))))) (is_give (is_ret is_v)))))))
theorem okF_all_widened {f : Addr} {fd : FuncData} (F : Fun K "all_widened" "all_widened" s_all_widened f fd) (z_min : mg "min" = none) (z_len : mg "len" = none) {f_with_goal : Addr} {d_with_goal : FuncData} (G_with_goal : FnOk P w K mg base CX0 2 f_with_goal d_with_goal ["table", "fact", "goal"] (spP K F_with_goal)) (m_with_goal : mg "with_goal" = some (.ref f_with_goal)) (k_with_goal : PySem.W.keepIn K (.ref f_with_goal) = true) (b_with_goal : Binds K d_with_goal ["table", "fact", "goal"] []) {f_choices_left : Addr} {d_choices_left : FuncData} (G_choices_left : FnOk P w K mg base CX0 4 f_choices_left d_choices_left ["choices", "fact", "table"] (spP K F_choices_left)) (m_choices_left : mg "choices_left" = some (.ref f_choices_left)) (k_choices_left : PySem.W.keepIn K (.ref f_choices_left) = true) (b_choices_left : Binds K d_choices_left ["choices", "fact", "table"] []) {cC cP : Addr} (TB : LamX.TabB base mg cC cP) (ce : fd.code = .ref cC) (tm : (cP, ("all_widened" : Str) ++ ".<locals>." ++ "<lambda>") ∈ TbC.T) (m_all_widened : mg "all_widened" = some (.ref f)) (k_all_widened : PySem.W.keepIn K (.ref f) = true) (b_all_widened : Binds K fd ["table", "choices"] []) : FnOk P w K mg base CX0 45 f fd ["table", "choices"] (spP K F_all_widened) := okR_all_widened F z_min z_len G_with_goal m_with_goal k_with_goal b_with_goal G_choices_left m_choices_left k_choices_left b_choices_left TB ce tm m_all_widened k_all_widened b_all_widened 40

end
end My

set_option linter.unusedVariables false
namespace My
open PySem PySem.Spec PyProof.Rows L2
section
variable [TbC] {P : Program} {w : World} {K : PySem.W.Frag} {mg : Str → Option Value} {base : Heap}
theorem sc_lead : FnScope ["one", "other", "table", "knot"] ["one", "other"] (defScope s_lead) := ⟨rfl, rfl, rfl, by decide +kernel, rfl, by decide +kernel, by decide +kernel⟩
theorem okF_lead {f : Addr} {fd : FuncData} (F : Fun K "lead" "lead" s_lead f fd) (z_tuple : mg "tuple" = none) (z_sorted : mg "sorted" = none) {f_knots : Addr} {d_knots : FuncData} (G_knots : FnOk P w K mg base CX0 3 f_knots d_knots ["store"] (spP K F_knots)) (m_knots : mg "knots" = some (.ref f_knots)) (k_knots : PySem.W.keepIn K (.ref f_knots) = true) (b_knots : Binds K d_knots ["store"] []) {f_widened : Addr} {d_widened : FuncData} (G_widened : FnOk P w K mg base CX0 45 f_widened d_widened ["table", "choices"] (spP K F_widened)) (m_widened : mg "widened" = some (.ref f_widened)) (k_widened : PySem.W.keepIn K (.ref f_widened) = true) (b_widened : Binds K d_widened ["table", "choices"] []) {f_choices_for : Addr} {d_choices_for : FuncData} (G_choices_for : FnOk P w K mg base CX0 4 f_choices_for d_choices_for ["facts", "others", "table"] (spP K F_choices_for)) (m_choices_for : mg "choices_for" = some (.ref f_choices_for)) (k_choices_for : PySem.W.keepIn K (.ref f_choices_for) = true) (b_choices_for : Binds K d_choices_for ["facts", "others", "table"] []) : FnOk P w K mg base CX0 46 f fd ["one", "other"] (spP K F_lead) :=
  show FnOk P w K mg base CX0 46 f fd ["one", "other"] (spP K (fnF 2 4 S_lead)) from
  fn_okF (S := S_lead) 2 4 F sc_lead rfl rfl (fun cdv A outer s H E hr => by
    have hu := hr.units
    have hv := Room.u65 hr
    exact (qss_cons (qs_set (i := 2) sc_lead.nd rfl (Or.inl rfl) qd_dic0)
      (qss_cons (qs_for PassesOwn.never rfl (qdi_val (qd_call G_knots (hr.mono (by decide)) rfl m_knots k_knots b_knots pass0 (qda_cons (qdv 0) qda_nil))) (qdg_name (i := 3) sc_lead.nd rfl (Or.inl rfl)) (qss_cons (qs_set (i := 2) sc_lead.nd rfl (Or.inl rfl) (qd_call G_widened (hr.mono (by decide)) rfl m_widened k_widened b_widened pass0 (qda_cons (qdv 2) (qda_cons (qd_call G_choices_for (hr.mono (by decide)) rfl m_choices_for k_choices_for b_choices_for pass0 (qda_cons (qdv 3) (qda_cons (qdv 1) (qda_cons (qdv 2) qda_nil)))) qda_nil))))
      (qss_one (qs_if (qdt_cmp op_isN pu_isN (qdv 2) qd_non (nomark _)) (qss_one (qs_ret qd_non)) qss_nil))))
      (qss_one (qs_ret (qd_callTy cr_tupU pu_tuple (by rfl) z_tuple boot_tuple (qda_cons (qd_sortItems rfl (by rfl) z_sorted (qdv 2)) qda_nil)))))))
   (show IsS _ S_lead from (is_seq (is_set is_c) (is_seq (is_for (is_afV (is_call (is_co is_v is_n))) (is_seq (is_set (is_call (is_co is_v (is_co (is_call (is_co is_v (is_co is_v (is_co is_v is_n)))) is_n)))) (is_ifS (is_tfE (is_op is_v is_c)) (is_ret is_c) is_nil))) (is_ret (is_call (is_co (is_call (is_co is_v is_n)) is_n))))))

end
end My

set_option linter.unusedVariables false
namespace My
open PySem PySem.Spec PyProof.Rows L2
section
variable [TbC] {P : Program} {w : World} {K : PySem.W.Frag} {mg : Str → Option Value} {base : Heap}
theorem sc_assignments : FnScope ["atoms", "facts", "tables", "table"] ["atoms", "facts"] (defScope s_assignments) := ⟨rfl, rfl, rfl, by decide +kernel, rfl, by decide +kernel, by decide +kernel⟩
theorem okF_assignments {f : Addr} {fd : FuncData} (F : Fun K "assignments" "assignments" s_assignments f fd) (z_sorted : mg "sorted" = none) (z_tuple : mg "tuple" = none) {f_all_widened : Addr} {d_all_widened : FuncData} (G_all_widened : FnOk P w K mg base CX0 45 f_all_widened d_all_widened ["table", "choices"] (spP K F_all_widened)) (m_all_widened : mg "all_widened" = some (.ref f_all_widened)) (k_all_widened : PySem.W.keepIn K (.ref f_all_widened) = true) (b_all_widened : Binds K d_all_widened ["table", "choices"] []) {f_choices_for : Addr} {d_choices_for : FuncData} (G_choices_for : FnOk P w K mg base CX0 4 f_choices_for d_choices_for ["facts", "others", "table"] (spP K F_choices_for)) (m_choices_for : mg "choices_for" = some (.ref f_choices_for)) (k_choices_for : PySem.W.keepIn K (.ref f_choices_for) = true) (b_choices_for : Binds K d_choices_for ["facts", "others", "table"] []) : FnOk P w K mg base CX0 46 f fd ["atoms", "facts"] (spP K F_assignments) :=
  show FnOk P w K mg base CX0 46 f fd ["atoms", "facts"] (spP K (fnF 2 4 S_assignments)) from
  fn_okF (S := S_assignments) 2 4 F sc_assignments rfl rfl (fun cdv A outer s H E hr => by
    have hu := hr.units
    have hv := Room.u65 hr
    exact (qss_cons (qs_set (i := 2) sc_assignments.nd rfl (Or.inl rfl) (qd_call G_all_widened (hr.mono (by decide)) rfl m_all_widened k_all_widened b_all_widened pass0 (qda_cons qd_dic0 (qda_cons (qd_call G_choices_for (hr.mono (by decide)) rfl m_choices_for k_choices_for b_choices_for pass0 (qda_cons (qdv 0) (qda_cons (qdv 1) (qda_cons qd_dic0 qda_nil)))) qda_nil))))
      (qss_one (qs_ret (qd_sort1N neN (by rfl) z_sorted (own := [("table", 3)]) rfl sc_assignments.nd hu (qdi_val (qdv 2)) (blkOk_by (own := [("table", 3)]) (N := ["atoms", "facts", "tables", "table"]) (sc := (defScope s_assignments)) (by decide +kernel)) (by decide) (fun _ _ _ _ _ => (qdg_name (i := 3) sc_assignments.nd rfl (Or.inl rfl))) (fun _ _ _ _ _ => qts_nil) (fun _ _ _ _ _ => (qd_callTy cr_tupU pu_tuple (by rfl) z_tuple boot_tuple (qda_cons (qd_sortItems rfl (by rfl) z_sorted (qdv 3)) qda_nil))))))))
   (show IsS _ S_assignments from (is_seq (is_set (is_call (is_co is_c (is_co (is_call (is_co is_v (is_co is_v (is_co is_c is_n)))) is_n)))) (is_ret (is_sortN (is_afV is_v) is_tfYes (is_putN (is_call (is_co (is_call (is_co is_v is_n)) is_n)))))))

end
end My

set_option linter.unusedVariables false
namespace My
open PySem PySem.Spec PyProof.Rows L2
section
variable [TbC] {P : Program} {w : World} {K : PySem.W.Frag} {mg : Str → Option Value} {base : Heap}
theorem sc_is_there : FnScope ["atoms", "pairs", "store", "table"] ["atoms", "pairs", "store"] (defScope s_is_there) := ⟨rfl, rfl, rfl, by decide +kernel, rfl, by decide +kernel, by decide +kernel⟩
theorem okF_is_there {f : Addr} {fd : FuncData} (F : Fun K "is_there" "is_there" s_is_there f fd) (z_dict : mg "dict" = none) {f_widened : Addr} {d_widened : FuncData} (G_widened : FnOk P w K mg base CX0 45 f_widened d_widened ["table", "choices"] (spP K F_widened)) (m_widened : mg "widened" = some (.ref f_widened)) (k_widened : PySem.W.keepIn K (.ref f_widened) = true) (b_widened : Binds K d_widened ["table", "choices"] []) {f_choices_for : Addr} {d_choices_for : FuncData} (G_choices_for : FnOk P w K mg base CX0 4 f_choices_for d_choices_for ["facts", "others", "table"] (spP K F_choices_for)) (m_choices_for : mg "choices_for" = some (.ref f_choices_for)) (k_choices_for : PySem.W.keepIn K (.ref f_choices_for) = true) (b_choices_for : Binds K d_choices_for ["facts", "others", "table"] []) : FnOk P w K mg base CX0 46 f fd ["atoms", "pairs", "store"] (spP K F_is_there) :=
  show FnOk P w K mg base CX0 46 f fd ["atoms", "pairs", "store"] (spP K (fnF 3 4 S_is_there)) from
  fn_okF (S := S_is_there) 3 4 F sc_is_there rfl rfl (fun cdv A outer s H E hr => by
    have hu := hr.units
    have hv := Room.u65 hr
    exact (qss_cons (qs_set (i := 3) sc_is_there.nd rfl (Or.inl rfl) (qd_callTy (CallR.lock (call_dictA rfl)) pu_dict (by rfl) z_dict boot_dict (qda_cons (qdv 1) qda_nil)))
      (qss_one (qs_ret (qd_cmp op_notN pu_notN (qd_call G_widened (hr.mono (by decide)) rfl m_widened k_widened b_widened pass0 (qda_cons (qdv 3) (qda_cons (qd_call G_choices_for (hr.mono (by decide)) rfl m_choices_for k_choices_for b_choices_for pass0 (qda_cons (qdv 0) (qda_cons (qdv 2) (qda_cons (qdv 3) qda_nil)))) qda_nil))) qd_non (nomark _))))))
   (show IsS _ S_is_there from (is_seq (is_set (is_call (is_co is_v is_n))) (is_ret (is_op (is_call (is_co is_v (is_co (is_call (is_co is_v (is_co is_v (is_co is_v is_n)))) is_n))) is_c))))

end
end My

set_option linter.unusedVariables false
namespace My
open PySem PySem.Spec PyProof.Rows L2
section
variable [TbC] {P : Program} {w : World} {K : PySem.W.Frag} {mg : Str → Option Value} {base : Heap}
theorem sc_folding : FnScope ["store", "knot", "name", "pairs", "fact"] ["store"] (defScope s_folding) := ⟨rfl, rfl, rfl, by decide +kernel, rfl, by decide +kernel, by decide +kernel⟩
theorem okF_folding {f : Addr} {fd : FuncData} (F : Fun K "folding" "folding" s_folding f fd) {f_knots : Addr} {d_knots : FuncData} (G_knots : FnOk P w K mg base CX0 3 f_knots d_knots ["store"] (spP K F_knots)) (m_knots : mg "knots" = some (.ref f_knots)) (k_knots : PySem.W.keepIn K (.ref f_knots) = true) (b_knots : Binds K d_knots ["store"] []) {f_unknowns : Addr} {d_unknowns : FuncData} (G_unknowns : FnOk P w K mg base CX0 2 f_unknowns d_unknowns ["store"] (spP K F_unknowns)) (m_unknowns : mg "unknowns" = some (.ref f_unknowns)) (k_unknowns : PySem.W.keepIn K (.ref f_unknowns) = true) (b_unknowns : Binds K d_unknowns ["store"] []) {f_lead : Addr} {d_lead : FuncData} (G_lead : FnOk P w K mg base CX0 46 f_lead d_lead ["one", "other"] (spP K F_lead)) (m_lead : mg "lead" = some (.ref f_lead)) (k_lead : PySem.W.keepIn K (.ref f_lead) = true) (b_lead : Binds K d_lead ["one", "other"] []) {f_widened_pairs : Addr} {d_widened_pairs : FuncData} (G_widened_pairs : FnOk P w K mg base CX0 3 f_widened_pairs d_widened_pairs ["pairs", "store"] (spP K F_widened_pairs)) (m_widened_pairs : mg "widened_pairs" = some (.ref f_widened_pairs)) (k_widened_pairs : PySem.W.keepIn K (.ref f_widened_pairs) = true) (b_widened_pairs : Binds K d_widened_pairs ["pairs", "store"] []) : FnOk P w K mg base CX0 47 f fd ["store"] (spP K F_folding) :=
  show FnOk P w K mg base CX0 47 f fd ["store"] (spP K (fnF 1 5 S_folding)) from
  fn_okF (S := S_folding) 1 5 F sc_folding rfl rfl (fun cdv A outer s H E hr => by
    have hu := hr.units
    have hv := Room.u65 hr
    exact (qss_cons (qs_for PassesOwn.never rfl (qdi_val (qd_call G_knots (hr.mono (by decide)) rfl m_knots k_knots b_knots pass0 (qda_cons (qdv 0) qda_nil))) (qdg_name (i := 1) sc_folding.nd rfl (Or.inl rfl)) (qss_one (qs_for PassesOwn.never rfl (qdi_val (qd_call G_unknowns (hr.mono (by decide)) rfl m_unknowns k_unknowns b_unknowns pass0 (qda_cons (qdv 1) qda_nil))) (qdg_name (i := 2) sc_folding.nd rfl (Or.inr rfl)) (qss_cons (qs_set (i := 3) sc_folding.nd rfl (Or.inl rfl) (qd_call G_lead (hr.mono (by decide)) rfl m_lead k_lead b_lead pass0 (qda_cons (qdv 1) (qda_cons (qd_lc (own := [("fact", 4)]) rfl sc_folding.nd (qdi_val (qdv 0)) (blkOk_by (own := [("fact", 4)]) (N := ["store", "knot", "name", "pairs", "fact"]) (sc := (defScope s_folding)) (by decide +kernel)) (by decide) (fun _ _ _ _ _ => (qdg_name (i := 4) sc_folding.nd rfl (Or.inl rfl))) (fun _ _ _ _ _ => (qts_one (qdt_cmp (op_notInU hv) pu_notIn (qdv 2) (qdv 4) (by rfl)))) (fun _ _ _ _ _ => (qdv 4))) qda_nil))))
      (qss_one (qs_if (qdt_cmp op_notN pu_notN (qdv 3) qd_non (nomark _)) (qss_one (qs_ret (qd_call G_widened_pairs (hr.mono (by decide)) rfl m_widened_pairs k_widened_pairs b_widened_pairs pass0 (qda_cons (qdv 3) (qda_cons (qdv 0) qda_nil))))) qss_nil))))))
      (qss_one (qs_ret qd_non))))
   (show IsS _ S_folding from (is_seq (is_for (is_afV (is_call (is_co is_v is_n))) (is_for (is_afV (is_call (is_co is_v is_n))) (is_seq (is_set (is_call (is_co is_v (is_co (is_lc (is_afV is_v) (is_tfE (is_op is_v is_v)) is_v) is_n)))) (is_ifS (is_tfE (is_op is_v is_c)) (is_ret (is_call (is_co is_v (is_co is_v is_n)))) is_nil)))) (is_ret is_c)))

end
end My

set_option linter.unusedVariables false
namespace My
open PySem PySem.Spec PyProof.Rows L2
section
variable [TbC] {P : Program} {w : World} {K : PySem.W.Frag} {mg : Str → Option Value} {base : Heap}
theorem sc_came : FnScope ["rules", "source", "many", "facts", "body", "head", "pairs", "table", "name", "atom"] ["rules", "source", "many"] (defScope s_came) := ⟨rfl, rfl, rfl, by decide +kernel, rfl, by decide +kernel, by decide +kernel⟩
theorem okF_came {f : Addr} {fd : FuncData} (F : FunD K "came" "came" (defArgs s_came) (defBody s_came) (defScope s_came) [V.int 0] [] f fd) (z_dict : mg "dict" = none) {f_assignments : Addr} {d_assignments : FuncData} (G_assignments : FnOk P w K mg base CX0 46 f_assignments d_assignments ["atoms", "facts"] (spP K F_assignments)) (m_assignments : mg "assignments" = some (.ref f_assignments)) (k_assignments : PySem.W.keepIn K (.ref f_assignments) = true) (b_assignments : Binds K d_assignments ["atoms", "facts"] []) {f_variables : Addr} {d_variables : FuncData} (G_variables : FnOk P w K mg base CX0 2 f_variables d_variables ["atoms"] (spP K F_variables)) (m_variables : mg "variables" = some (.ref f_variables)) (k_variables : PySem.W.keepIn K (.ref f_variables) = true) (b_variables : Binds K d_variables ["atoms"] []) {f_fact_by : Addr} {d_fact_by : FuncData} (G_fact_by : FnOk P w K mg base CX0 1 f_fact_by d_fact_by ["fact", "table"] (spP K F_fact_by)) (m_fact_by : mg "fact_by" = some (.ref f_fact_by)) (k_fact_by : PySem.W.keepIn K (.ref f_fact_by) = true) (b_fact_by : Binds K d_fact_by ["fact", "table"] []) {f_store_of : Addr} {d_store_of : FuncData} (G_store_of : FnOk P w K mg base CX0 1 f_store_of d_store_of ["facts"] (spP K F_store_of)) (m_store_of : mg "store_of" = some (.ref f_store_of)) (k_store_of : PySem.W.keepIn K (.ref f_store_of) = true) (b_store_of : Binds K d_store_of ["facts"] []) : FnOk P w K mg base CX0 47 f fd ["rules", "source", "many"] (spP K F_came) :=
  show FnOk P w K mg base CX0 47 f fd ["rules", "source", "many"] (spP K (fnF 3 10 S_came)) from
  fn_okFD (S := S_came) 3 10 F sc_came rfl rfl (fun cdv A outer s H E hr => by
    have hu := hr.units
    have hv := Room.u65 hr
    exact (qss_cons (qs_newL (i := 3) sc_came.nd rfl (Or.inl rfl))
      (qss_cons (qs_for PassesOwn.never rfl (qdi_val (qdv 0)) (qdg_tup (n := 2) rfl (qdgs_cons (qdg_name (i := 4) sc_came.nd rfl (Or.inl rfl)) (qdgs_cons (qdg_name (i := 5) sc_came.nd rfl (Or.inl rfl)) qdgs_nil))) (qss_one (qs_for PassesOwn.never rfl (qdi_val (qd_call G_assignments (hr.mono (by decide)) rfl m_assignments k_assignments b_assignments pass0 (qda_cons (qdv 4) (qda_cons (qdv 1) qda_nil)))) (qdg_name (i := 6) sc_came.nd rfl (Or.inl rfl)) (qss_cons (qs_makeK (i := 7) rfl (by rfl) z_dict sc_came.nd rfl (Or.inr rfl) (qda_cons (qdv 6) qda_nil))
      (qss_cons (qs_for PassesOwn.never rfl (qdi_val (qd_call G_variables (hr.mono (by decide)) rfl m_variables k_variables b_variables pass0 (qda_cons (qdv 5) qda_nil))) (qdg_name (i := 8) sc_came.nd rfl (Or.inl rfl)) (qss_one (qs_if (qdt_onotin hu (qdv 8) (pv 7)) (qss_cons (qs_aug (i := 2) sc_came.nd rfl (Or.inl rfl) qd_int)
      (qss_one (qs_putK (i := 7) hu (pv 7) (qdv 8) (qd_fs (qdv 2)) (ps_asg (qd_fs (qdv 2)) (pg_sub (pv 7) (qdv 8) (set_dict (lt64 hu))))))) qss_nil)))
      (qss_giveK 7 (qss_one (qs_ext' (ps_expr (pe_bm PySem.F.plainAttrs_list PySem.F.slot_list_extend PySem.F.type_list_extend mt_extend (pv 3) (pa_cons (qd_lc (own := [("atom", 9)]) rfl sc_came.nd (qdi_val (qdv 5)) (blkOk_by (own := [("atom", 9)]) (N := ["rules", "source", "many", "facts", "body", "head", "pairs", "table", "name", "atom"]) (sc := (defScope s_came)) (by decide +kernel)) (by decide) (fun _ _ _ _ _ => (qdg_name (i := 9) sc_came.nd rfl (Or.inl rfl))) (fun _ _ _ _ _ => qts_nil) (fun _ _ _ _ _ => (qd_call G_fact_by (hr.mono (by decide)) rfl m_fact_by k_fact_by b_fact_by pass0 (qda_cons (qdv 9) (qda_cons (qdv 7) qda_nil))))) pa_nil)))))))))))
      (qss_give 3 (qss_one (qs_ret (qd_call G_store_of (hr.mono (by decide)) rfl m_store_of k_store_of b_store_of pass0 (qda_cons (qdv 3) qda_nil))))))))
   (show IsS _ S_came from (is_seq is_newL (is_seq (is_for (is_afV is_v) (is_for (is_afV (is_call (is_co is_v (is_co is_v is_n)))) (is_seq (is_makeK (is_co is_v is_n)) (is_seq (is_for (is_afV (is_call (is_co is_v is_n))) (is_ifS (is_tfE (is_oin is_v)) (is_seq (is_aug is_c) (is_putK is_v (is_fs is_v))) is_nil)) (is_giveK (is_ext (is_lc (is_afV is_v) is_tfYes (is_call (is_co is_v (is_co is_v is_n)))))))))) (is_give (is_ret (is_call (is_co is_v is_n)))))))

end
end My

set_option linter.unusedVariables false
namespace My
open PySem PySem.Spec PyProof.Rows L2
section
variable [TbC] {P : Program} {w : World} {K : PySem.W.Frag} {mg : Str → Option Value} {base : Heap}
theorem sc_core : FnScope ["store", "pairs"] ["store"] (defScope s_core) := ⟨rfl, rfl, rfl, by decide +kernel, rfl, by decide +kernel, by decide +kernel⟩
theorem okF_core {f : Addr} {fd : FuncData} (F : Fun K "core" "core" s_core f fd) {f_folding : Addr} {d_folding : FuncData} (G_folding : FnOk P w K mg base CX0 47 f_folding d_folding ["store"] (spP K F_folding)) (m_folding : mg "folding" = some (.ref f_folding)) (k_folding : PySem.W.keepIn K (.ref f_folding) = true) (b_folding : Binds K d_folding ["store"] []) {f_renamed : Addr} {d_renamed : FuncData} (G_renamed : FnOk P w K mg base CX0 3 f_renamed d_renamed ["store", "pairs"] (spP K F_renamed)) (m_renamed : mg "renamed" = some (.ref f_renamed)) (k_renamed : PySem.W.keepIn K (.ref f_renamed) = true) (b_renamed : Binds K d_renamed ["store", "pairs"] []) {f_plain : Addr} {d_plain : FuncData} (G_plain : FnOk P w K mg base CX0 4 f_plain d_plain ["store"] (spP K F_plain)) (m_plain : mg "plain" = some (.ref f_plain)) (k_plain : PySem.W.keepIn K (.ref f_plain) = true) (b_plain : Binds K d_plain ["store"] []) : FnOk P w K mg base CX0 48 f fd ["store"] (spP K F_core) :=
  show FnOk P w K mg base CX0 48 f fd ["store"] (spP K (fnF 1 2 S_core)) from
  fn_okF (S := S_core) 1 2 F sc_core rfl rfl (fun cdv A outer s H E hr => by
    have hu := hr.units
    have hv := Room.u65 hr
    exact (qss_cons (qs_set (i := 1) sc_core.nd rfl (Or.inl rfl) (qd_call G_folding (hr.mono (by decide)) rfl m_folding k_folding b_folding pass0 (qda_cons (qdv 0) qda_nil)))
      (qss_cons (qs_while PassesOwn.never (qdt_cmp op_notN pu_notN (qdv 1) qd_non (nomark _)) (qss_cons (qs_set (i := 0) sc_core.nd rfl (Or.inl rfl) (qd_call G_renamed (hr.mono (by decide)) rfl m_renamed k_renamed b_renamed pass0 (qda_cons (qdv 0) (qda_cons (qdv 1) qda_nil))))
      (qss_one (qs_set (i := 1) sc_core.nd rfl (Or.inl rfl) (qd_call G_folding (hr.mono (by decide)) rfl m_folding k_folding b_folding pass0 (qda_cons (qdv 0) qda_nil))))))
      (qss_one (qs_ret (qd_call G_plain (hr.mono (by decide)) rfl m_plain k_plain b_plain pass0 (qda_cons (qdv 0) qda_nil)))))))
   (show IsS _ S_core from (is_seq (is_set (is_call (is_co is_v is_n))) (is_seq (is_while (is_tfE (is_op is_v is_c)) (is_seq (is_set (is_call (is_co is_v (is_co is_v is_n)))) (is_set (is_call (is_co is_v is_n))))) (is_ret (is_call (is_co is_v is_n))))))

end
end My

set_option linter.unusedVariables false
namespace My
open PySem PySem.Spec PyProof.Rows L2
section
variable [TbC] {P : Program} {w : World} {K : PySem.W.Frag} {mg : Str → Option Value} {base : Heap}
theorem sc_handed : FnScope ["book", "source", "rules", "keys"] ["book", "source"] (defScope s_handed) := ⟨rfl, rfl, rfl, by decide +kernel, rfl, by decide +kernel, by decide +kernel⟩
theorem okF_handed {f : Addr} {fd : FuncData} (F : Fun K "handed" "handed" s_handed f fd) {f_settled : Addr} {d_settled : FuncData} (G_settled : FnOk P w K mg base CX0 3 f_settled d_settled ["store", "keys"] (spP K F_settled)) (m_settled : mg "settled" = some (.ref f_settled)) (k_settled : PySem.W.keepIn K (.ref f_settled) = true) (b_settled : Binds K d_settled ["store", "keys"] []) {f_came : Addr} {d_came : FuncData} {w_came : List Value} (G_came : FnOk P w K mg base CX0 47 f_came d_came ["rules", "source", "many"] (spP K F_came)) (m_came : mg "came" = some (.ref f_came)) (k_came : PySem.W.keepIn K (.ref f_came) = true) (b_came : Binds K d_came ["rules", "source", "many"] w_came) (v_came : Vals [V.int 0] w_came) : FnOk P w K mg base CX0 48 f fd ["book", "source"] (spP K F_handed) :=
  show FnOk P w K mg base CX0 48 f fd ["book", "source"] (spP K (fnF 2 4 S_handed)) from
  fn_okF (S := S_handed) 2 4 F sc_handed rfl rfl (fun cdv A outer s H E hr => by
    have hu := hr.units
    have hv := Room.u65 hr
    exact (qss_cons (qs_asg (qdv 0) (qdg_tup (n := 2) rfl (qdgs_cons (qdg_name (i := 2) sc_handed.nd rfl (Or.inl rfl)) (qdgs_cons (qdg_name (i := 3) sc_handed.nd rfl (Or.inl rfl)) qdgs_nil))))
      (qss_one (qs_ret (qd_ix ix_seq pu_ix (qd_call G_settled (hr.mono (by decide)) rfl m_settled k_settled b_settled pass0 (qda_cons (qd_callD G_came (hr.mono (by decide)) rfl m_came k_came b_came v_came pass0 (qda_cons (qdv 2) (qda_cons (qdv 1) qda_nil))) (qda_cons (qdv 3) qda_nil))) qd_int)))))
   (show IsS _ S_handed from (is_seq (is_asg is_v) (is_ret (is_op (is_call (is_co (is_call (is_co is_v (is_co is_v is_n))) (is_co is_v is_n))) is_c))))

end
end My

set_option linter.unusedVariables false
namespace My
open PySem PySem.Spec PyProof.Rows L2
section
variable [TbC] {P : Program} {w : World} {K : PySem.W.Frag} {mg : Str → Option Value} {base : Heap}
theorem sc_outcome : FnScope ["book", "source", "store"] ["book", "source"] (defScope s_outcome) := ⟨rfl, rfl, rfl, by decide +kernel, rfl, by decide +kernel, by decide +kernel⟩
theorem okF_outcome {f : Addr} {fd : FuncData} (F : Fun K "outcome" "outcome" s_outcome f fd) {f_handed : Addr} {d_handed : FuncData} (G_handed : FnOk P w K mg base CX0 48 f_handed d_handed ["book", "source"] (spP K F_handed)) (m_handed : mg "handed" = some (.ref f_handed)) (k_handed : PySem.W.keepIn K (.ref f_handed) = true) (b_handed : Binds K d_handed ["book", "source"] []) {f_core : Addr} {d_core : FuncData} (G_core : FnOk P w K mg base CX0 48 f_core d_core ["store"] (spP K F_core)) (m_core : mg "core" = some (.ref f_core)) (k_core : PySem.W.keepIn K (.ref f_core) = true) (b_core : Binds K d_core ["store"] []) : FnOk P w K mg base CX0 49 f fd ["book", "source"] (spP K F_outcome) :=
  show FnOk P w K mg base CX0 49 f fd ["book", "source"] (spP K (fnF 2 3 S_outcome)) from
  fn_okF (S := S_outcome) 2 3 F sc_outcome rfl rfl (fun cdv A outer s H E hr => by
    have hu := hr.units
    have hv := Room.u65 hr
    exact (qss_cons (qs_set (i := 2) sc_outcome.nd rfl (Or.inl rfl) (qd_call G_handed (hr.mono (by decide)) rfl m_handed k_handed b_handed pass0 (qda_cons (qdv 0) (qda_cons (qdv 1) qda_nil))))
      (qss_one (qs_ret (qd_if (qdt_cmp op_isN pu_isN (qdv 2) qd_non (nomark _)) qd_non (qd_call G_core (hr.mono (by decide)) rfl m_core k_core b_core pass0 (qda_cons (qdv 2) qda_nil)))))))
   (show IsS _ S_outcome from (is_seq (is_set (is_call (is_co is_v (is_co is_v is_n)))) (is_ret (is_if (is_tfE (is_op is_v is_c)) is_c (is_call (is_co is_v is_n))))))

end
end My

set_option linter.unusedVariables false
namespace My
open PySem PySem.Spec PyProof.Rows L2
section
variable [TbC] {P : Program} {w : World} {K : PySem.W.Frag} {mg : Str → Option Value} {base : Heap}
theorem sc_least : FnScope ["book", "source", "store"] ["book", "source"] (defScope s_least) := ⟨rfl, rfl, rfl, by decide +kernel, rfl, by decide +kernel, by decide +kernel⟩
theorem okF_least {f : Addr} {fd : FuncData} (F : Fun K "least" "least" s_least f fd) {f_outcome : Addr} {d_outcome : FuncData} (G_outcome : FnOk P w K mg base CX0 49 f_outcome d_outcome ["book", "source"] (spP K F_outcome)) (m_outcome : mg "outcome" = some (.ref f_outcome)) (k_outcome : PySem.W.keepIn K (.ref f_outcome) = true) (b_outcome : Binds K d_outcome ["book", "source"] []) : FnOk P w K mg base CX0 50 f fd ["book", "source"] (spP K F_least) :=
  show FnOk P w K mg base CX0 50 f fd ["book", "source"] (spP K (fnF 2 3 S_least)) from
  fn_okF (S := S_least) 2 3 F sc_least rfl rfl (fun cdv A outer s H E hr => by
    have hu := hr.units
    have hv := Room.u65 hr
    exact (qss_cons (qs_set (i := 2) sc_least.nd rfl (Or.inl rfl) (qd_call G_outcome (hr.mono (by decide)) rfl m_outcome k_outcome b_outcome pass0 (qda_cons (qdv 0) (qda_cons (qdv 1) qda_nil))))
      (qss_cons (qs_if (qdt_cmp op_isN pu_isN (qdv 2) qd_non (nomark _)) (qss_one qs_never) qss_nil)
      (qss_one (qs_ret (qdv 2))))))
   (show IsS _ S_least from (is_seq (is_set (is_call (is_co is_v (is_co is_v is_n)))) (is_seq (is_ifS (is_tfE (is_op is_v is_c)) is_bad is_nil) (is_ret is_v))))

end
end My

set_option linter.unusedVariables false
namespace My
open PySem PySem.Spec PyProof.Rows L2
section
variable [TbC] {P : Program} {w : World} {K : PySem.W.Frag} {mg : Str → Option Value} {base : Heap}
theorem sc_refuted : FnScope ["book", "rule", "body", "head", "rules", "keys", "store", "table", "name"] ["book", "rule"] (defScope s_refuted) := ⟨rfl, rfl, rfl, by decide +kernel, rfl, by decide +kernel, by decide +kernel⟩
theorem okR_refuted {f : Addr} {fd : FuncData} (F : Fun K "refuted" "refuted" s_refuted f fd) (z_any : mg "any" = none) {f_settled : Addr} {d_settled : FuncData} (G_settled : FnOk P w K mg base CX0 3 f_settled d_settled ["store", "keys"] (spP K F_settled)) (m_settled : mg "settled" = some (.ref f_settled)) (k_settled : PySem.W.keepIn K (.ref f_settled) = true) (b_settled : Binds K d_settled ["store", "keys"] []) {f_came : Addr} {d_came : FuncData} {w_came : List Value} (G_came : FnOk P w K mg base CX0 47 f_came d_came ["rules", "source", "many"] (spP K F_came)) (m_came : mg "came" = some (.ref f_came)) (k_came : PySem.W.keepIn K (.ref f_came) = true) (b_came : Binds K d_came ["rules", "source", "many"] w_came) (v_came : Vals [V.int 0] w_came) {f_store_of : Addr} {d_store_of : FuncData} (G_store_of : FnOk P w K mg base CX0 1 f_store_of d_store_of ["facts"] (spP K F_store_of)) (m_store_of : mg "store_of" = some (.ref f_store_of)) (k_store_of : PySem.W.keepIn K (.ref f_store_of) = true) (b_store_of : Binds K d_store_of ["facts"] []) {f_variables : Addr} {d_variables : FuncData} (G_variables : FnOk P w K mg base CX0 2 f_variables d_variables ["atoms"] (spP K F_variables)) (m_variables : mg "variables" = some (.ref f_variables)) (k_variables : PySem.W.keepIn K (.ref f_variables) = true) (b_variables : Binds K d_variables ["atoms"] []) {f_atoms_by : Addr} {d_atoms_by : FuncData} (G_atoms_by : FnOk P w K mg base CX0 2 f_atoms_by d_atoms_by ["atoms", "table"] (spP K F_atoms_by)) (m_atoms_by : mg "atoms_by" = some (.ref f_atoms_by)) (k_atoms_by : PySem.W.keepIn K (.ref f_atoms_by) = true) (b_atoms_by : Binds K d_atoms_by ["atoms", "table"] []) {f_is_there : Addr} {d_is_there : FuncData} (G_is_there : FnOk P w K mg base CX0 46 f_is_there d_is_there ["atoms", "pairs", "store"] (spP K F_is_there)) (m_is_there : mg "is_there" = some (.ref f_is_there)) (k_is_there : PySem.W.keepIn K (.ref f_is_there) = true) (b_is_there : Binds K d_is_there ["atoms", "pairs", "store"] []) (m_refuted : mg "refuted" = some (.ref f)) (k_refuted : PySem.W.keepIn K (.ref f) = true) (b_refuted : Binds K fd ["book", "rule"] []) : ∀ D : Nat, FnOk P w K mg base CX0 (48 + D) f fd ["book", "rule"] (spP K (R_refuted D))
  | 0 => F.ok (k := 47) sc_refuted (fun vs H Q E h => by obtain ⟨_, _, _, _, _, e, _⟩ := h; cases e) (fun cdv A outer s H vs Q E hr h => by obtain ⟨_, _, _, _, _, e, _⟩ := h; cases e)
  | D + 1 => by
    have G_refuted := okR_refuted F z_any G_settled m_settled k_settled b_settled G_came m_came k_came b_came v_came G_store_of m_store_of k_store_of b_store_of G_variables m_variables k_variables b_variables G_atoms_by m_atoms_by k_atoms_by b_atoms_by G_is_there m_is_there k_is_there b_is_there m_refuted k_refuted b_refuted D
    show FnOk P w K mg base CX0 (48 + D + 1) f fd ["book", "rule"] (spP K (R_refuted (D + 1)))
    exact fn_okF (S := S_refuted (R_refuted D)) 2 9 F sc_refuted rfl rfl (fun cdv A outer s H E hr => by
      have hu := hr.units
      have hv := Room.u65 hr
      exact (qss_cons (qs_asg (qdv 1) (qdg_tup (n := 2) rfl (qdgs_cons (qdg_name (i := 2) sc_refuted.nd rfl (Or.inl rfl)) (qdgs_cons (qdg_name (i := 3) sc_refuted.nd rfl (Or.inl rfl)) qdgs_nil))))
      (qss_cons (qs_asg (qdv 0) (qdg_tup (n := 2) rfl (qdgs_cons (qdg_name (i := 4) sc_refuted.nd rfl (Or.inl rfl)) (qdgs_cons (qdg_name (i := 5) sc_refuted.nd rfl (Or.inl rfl)) qdgs_nil))))
      (qss_cons (qs_asg (qd_call G_settled (hr.mono (by omega)) rfl m_settled k_settled b_settled pass0 (qda_cons (qd_callD G_came (hr.mono (by omega)) rfl m_came k_came b_came v_came pass0 (qda_cons (qdv 4) (qda_cons (qd_call G_store_of (hr.mono (by omega)) rfl m_store_of k_store_of b_store_of pass0 (qda_cons (qdv 2) qda_nil)) qda_nil))) (qda_cons (qdv 5) qda_nil))) (qdg_tup (n := 2) rfl (qdgs_cons (qdg_name (i := 6) sc_refuted.nd rfl (Or.inl rfl)) (qdgs_cons (qdg_name (i := 7) sc_refuted.nd rfl (Or.inr rfl)) qdgs_nil))))
      (qss_cons (qs_if (qdt_cmp op_isN pu_isN (qdv 6) qd_non (nomark _)) (qss_one (qs_ret qd_non)) qss_nil)
      (qss_cons (qs_if (qdt_val (qd_callB (cr_any rfl) pu_any (by rfl) z_any boot_any (qda_cons (qd_lc (own := [("name", 8)]) rfl sc_refuted.nd (qdi_val (qd_call G_variables (hr.mono (by omega)) rfl m_variables k_variables b_variables pass0 (qda_cons (qdv 2) qda_nil))) (blkOk_by (own := [("name", 8)]) (N := ["book", "rule", "body", "head", "rules", "keys", "store", "table", "name"]) (sc := (defScope s_refuted)) (by decide +kernel)) (by decide) (fun _ _ _ _ _ => (qdg_name (i := 8) sc_refuted.nd rfl (Or.inl rfl))) (fun _ _ _ _ _ => qts_nil) (fun _ _ _ _ _ => (qd_inK hu (qdv 8) (qdv 7)))) qda_nil))) (qss_one (qs_ret (qd_call G_refuted (hr.mono (by omega)) rfl m_refuted k_refuted b_refuted pass0 (qda_cons (qdv 0) (qda_cons (qd_tup (qda_cons (qd_call G_atoms_by (hr.mono (by omega)) rfl m_atoms_by k_atoms_by b_atoms_by pass0 (qda_cons (qdv 2) (qda_cons (qdv 7) qda_nil))) (qda_cons (qd_call G_atoms_by (hr.mono (by omega)) rfl m_atoms_by k_atoms_by b_atoms_by pass0 (qda_cons (qdv 3) (qda_cons (qdv 7) qda_nil))) qda_nil))) qda_nil))))) qss_nil)
      (qss_cons (qs_if (qdt_val (qd_call G_is_there (hr.mono (by omega)) rfl m_is_there k_is_there b_is_there pass0 (qda_cons (qdv 3) (qda_cons (qd_lc (own := [("name", 8)]) rfl sc_refuted.nd (qdi_val (qd_call G_variables (hr.mono (by omega)) rfl m_variables k_variables b_variables pass0 (qda_cons (qdv 2) qda_nil))) (blkOk_by (own := [("name", 8)]) (N := ["book", "rule", "body", "head", "rules", "keys", "store", "table", "name"]) (sc := (defScope s_refuted)) (by decide +kernel)) (by decide) (fun _ _ _ _ _ => (qdg_name (i := 8) sc_refuted.nd rfl (Or.inl rfl))) (fun _ _ _ _ _ => qts_nil) (fun _ _ _ _ _ => (qd_tup (qda_cons (qdv 8) (qda_cons (qdv 8) qda_nil))))) (qda_cons (qdv 6) qda_nil))))) (qss_one (qs_ret qd_non)) qss_nil)
      (qss_one (qs_ret (qdv 2))))))))))
     (show IsS _ (S_refuted (R_refuted D)) from (is_seq (is_asg is_v) (is_seq (is_asg is_v) (is_seq (is_asg (is_call (is_co (is_call (is_co is_v (is_co (is_call (is_co is_v is_n)) is_n))) (is_co is_v is_n)))) (is_seq (is_ifS (is_tfE (is_op is_v is_c)) (is_ret is_c) is_nil) (is_seq (is_ifS (is_tfE (is_call (is_co (is_lc (is_afV (is_call (is_co is_v is_n))) is_tfYes (is_op is_v is_v)) is_n))) (is_ret (is_call (is_co is_v (is_co (is_tup (is_co (is_call (is_co is_v (is_co is_v is_n))) (is_co (is_call (is_co is_v (is_co is_v is_n))) is_n))) is_n)))) is_nil) (is_seq (is_ifS (is_tfE (is_call (is_co is_v (is_co (is_lc (is_afV (is_call (is_co is_v is_n))) is_tfYes (is_tup (is_co is_v (is_co is_v is_n)))) (is_co is_v is_n))))) (is_ret is_c) is_nil) (is_ret is_v))))))))
theorem okF_refuted {f : Addr} {fd : FuncData} (F : Fun K "refuted" "refuted" s_refuted f fd) (z_any : mg "any" = none) {f_settled : Addr} {d_settled : FuncData} (G_settled : FnOk P w K mg base CX0 3 f_settled d_settled ["store", "keys"] (spP K F_settled)) (m_settled : mg "settled" = some (.ref f_settled)) (k_settled : PySem.W.keepIn K (.ref f_settled) = true) (b_settled : Binds K d_settled ["store", "keys"] []) {f_came : Addr} {d_came : FuncData} {w_came : List Value} (G_came : FnOk P w K mg base CX0 47 f_came d_came ["rules", "source", "many"] (spP K F_came)) (m_came : mg "came" = some (.ref f_came)) (k_came : PySem.W.keepIn K (.ref f_came) = true) (b_came : Binds K d_came ["rules", "source", "many"] w_came) (v_came : Vals [V.int 0] w_came) {f_store_of : Addr} {d_store_of : FuncData} (G_store_of : FnOk P w K mg base CX0 1 f_store_of d_store_of ["facts"] (spP K F_store_of)) (m_store_of : mg "store_of" = some (.ref f_store_of)) (k_store_of : PySem.W.keepIn K (.ref f_store_of) = true) (b_store_of : Binds K d_store_of ["facts"] []) {f_variables : Addr} {d_variables : FuncData} (G_variables : FnOk P w K mg base CX0 2 f_variables d_variables ["atoms"] (spP K F_variables)) (m_variables : mg "variables" = some (.ref f_variables)) (k_variables : PySem.W.keepIn K (.ref f_variables) = true) (b_variables : Binds K d_variables ["atoms"] []) {f_atoms_by : Addr} {d_atoms_by : FuncData} (G_atoms_by : FnOk P w K mg base CX0 2 f_atoms_by d_atoms_by ["atoms", "table"] (spP K F_atoms_by)) (m_atoms_by : mg "atoms_by" = some (.ref f_atoms_by)) (k_atoms_by : PySem.W.keepIn K (.ref f_atoms_by) = true) (b_atoms_by : Binds K d_atoms_by ["atoms", "table"] []) {f_is_there : Addr} {d_is_there : FuncData} (G_is_there : FnOk P w K mg base CX0 46 f_is_there d_is_there ["atoms", "pairs", "store"] (spP K F_is_there)) (m_is_there : mg "is_there" = some (.ref f_is_there)) (k_is_there : PySem.W.keepIn K (.ref f_is_there) = true) (b_is_there : Binds K d_is_there ["atoms", "pairs", "store"] []) (m_refuted : mg "refuted" = some (.ref f)) (k_refuted : PySem.W.keepIn K (.ref f) = true) (b_refuted : Binds K fd ["book", "rule"] []) : FnOk P w K mg base CX0 88 f fd ["book", "rule"] (spP K F_refuted) := okR_refuted F z_any G_settled m_settled k_settled b_settled G_came m_came k_came b_came v_came G_store_of m_store_of k_store_of b_store_of G_variables m_variables k_variables b_variables G_atoms_by m_atoms_by k_atoms_by b_atoms_by G_is_there m_is_there k_is_there b_is_there m_refuted k_refuted b_refuted 40

end
end My

set_option linter.unusedVariables false
namespace My
open PySem PySem.Spec PyProof.Rows L2
section
variable [TbC] {P : Program} {w : World} {K : PySem.W.Frag} {mg : Str → Option Value} {base : Heap}
theorem sc_follows : FnScope ["book", "rule"] ["book", "rule"] (defScope s_follows) := ⟨rfl, rfl, rfl, by decide +kernel, rfl, by decide +kernel, by decide +kernel⟩
theorem okF_follows {f : Addr} {fd : FuncData} (F : Fun K "follows" "follows" s_follows f fd) {f_refuted : Addr} {d_refuted : FuncData} (G_refuted : FnOk P w K mg base CX0 88 f_refuted d_refuted ["book", "rule"] (spP K F_refuted)) (m_refuted : mg "refuted" = some (.ref f_refuted)) (k_refuted : PySem.W.keepIn K (.ref f_refuted) = true) (b_refuted : Binds K d_refuted ["book", "rule"] []) : FnOk P w K mg base CX0 89 f fd ["book", "rule"] (spP K F_follows) :=
  show FnOk P w K mg base CX0 89 f fd ["book", "rule"] (spP K (fnF 2 2 S_follows)) from
  fn_okF (S := S_follows) 2 2 F sc_follows rfl rfl (fun cdv A outer s H E hr => by
    have hu := hr.units
    have hv := Room.u65 hr
    exact (qss_one (qs_ret (qd_cmp op_isN pu_isN (qd_call G_refuted (hr.mono (by decide)) rfl m_refuted k_refuted b_refuted pass0 (qda_cons (qdv 0) (qda_cons (qdv 1) qda_nil))) qd_non (nomark _)))))
   (show IsS _ S_follows from (is_ret (is_op (is_call (is_co is_v (is_co is_v is_n))) is_c)))

end
end My

set_option maxHeartbeats 4000000
namespace My
open PySem PySem.Spec PyProof.Rows L2
theorem all_mk (tb : TbC) {l : PySem.W.OpenLaw} {w : World} {K : PySem.W.Frag} {h : Heap} {mg : Str → Option Value} {fa ff5 ff6 ff7 ff8 ff9 ff10 ff11 ff12 ff13 ff14 ff15 ff16 ff17 ff18 ff19 ff20 ff21 ff22 ff23 ff24 ff25 ff26 ff27 ff28 ff29 ff30 ff31 ff32 ff33 ff34 ff35 ff36 ff37 ff38 ff39 ff40 ff41 ff42 fLw : Addr} {t_CAPITALS t_DIGITS t_LETTERS : Tok} {ccf31 cpf31 ccf30 cpf30 : Addr} (tmf31 : (cpf31, ("all_widened.<locals>.<lambda>" : Str)) ∈ TbC.T) (tmf30 : (cpf30, ("widened.<locals>.<lambda>" : Str)) ∈ TbC.T) (X : K.In h) (G : h.Ns mainGlobals mg) (hfa : mg "law" = some (.ref fa)) (hW : w = TbC.w)
    {odf5 anf5 odf6 anf6 odf7 anf7 odf8 anf8 odf9 anf9 odf10 anf10 odf11 anf11 odf12 anf12 odf13 anf13 odf14 anf14 odf15 anf15 odf16 anf16 odf17 anf17 odf18 anf18 odf19 anf19 odf20 anf20 odf21 anf21 odf22 anf22 odf23 anf23 odf24 anf24 odf25 anf25 odf26 anf26 odf27 anf27 odf28 anf28 odf29 anf29 odf30 anf30 odf31 anf31 odf32 anf32 odf33 anf33 odf34 anf34 odf35 anf35 odf36 anf36 odf37 anf37 odf38 anf38 odf39 anf39 odf40 anf40 odf41 anf41 odf42 anf42 odLw anLw : Option Addr} {slf5 slf6 slf7 slf8 slf9 slf10 slf11 slf12 slf13 slf14 slf15 slf16 slf17 slf18 slf19 slf20 slf21 slf22 slf23 slf24 slf25 slf26 slf27 slf28 slf29 slf30 slf31 slf32 slf33 slf34 slf35 slf36 slf37 slf38 slf39 slf40 slf41 slf42 slLw : Array (Option Value)} {ocf5 kVf5 dcf5 pmf5 cdf5 ctf5 ocf6 kVf6 dcf6 pmf6 cdf6 ctf6 ocf7 kVf7 dcf7 pmf7 cdf7 ctf7 ocf8 kVf8 dcf8 pmf8 cdf8 ctf8 ocf9 kVf9 dcf9 pmf9 cdf9 ctf9 ocf10 kVf10 dcf10 pmf10 cdf10 ctf10 ocf11 kVf11 dcf11 pmf11 cdf11 ctf11 ocf12 kVf12 dcf12 pmf12 cdf12 ctf12 ocf13 kVf13 dcf13 pmf13 cdf13 ctf13 ocf14 kVf14 dcf14 pmf14 cdf14 ctf14 ocf15 kVf15 dcf15 pmf15 cdf15 ctf15 ocf16 kVf16 dcf16 pmf16 cdf16 ctf16 ocf17 kVf17 dcf17 pmf17 cdf17 ctf17 ocf18 kVf18 dcf18 pmf18 cdf18 ctf18 ocf19 kVf19 dcf19 pmf19 cdf19 ctf19 ocf20 kVf20 dcf20 pmf20 cdf20 ctf20 ocf21 kVf21 dcf21 pmf21 cdf21 ctf21 ocf22 kVf22 dcf22 pmf22 cdf22 ctf22 ocf23 kVf23 dcf23 pmf23 cdf23 ctf23 ocf24 kVf24 dcf24 pmf24 cdf24 ctf24 ocf25 kVf25 dcf25 pmf25 cdf25 ctf25 ocf26 kVf26 dcf26 pmf26 cdf26 ctf26 ocf27 kVf27 dcf27 pmf27 cdf27 ctf27 ocf28 kVf28 dcf28 pmf28 cdf28 ctf28 ocf29 kVf29 dcf29 pmf29 cdf29 ctf29 ocf30 kVf30 dcf30 pmf30 cdf30 ctf30 ocf31 kVf31 dcf31 pmf31 cdf31 ctf31 ocf32 kVf32 dcf32 pmf32 cdf32 ctf32 ocf33 kVf33 dcf33 pmf33 cdf33 ctf33 ocf34 kVf34 dcf34 pmf34 cdf34 ctf34 ocf35 kVf35 dcf35 pmf35 cdf35 ctf35 ocf36 kVf36 dcf36 pmf36 cdf36 ctf36 ocf37 kVf37 dcf37 pmf37 cdf37 ctf37 ocf38 kVf38 dcf38 pmf38 cdf38 ctf38 ocf39 kVf39 dcf39 pmf39 cdf39 ctf39 ocf40 kVf40 dcf40 pmf40 cdf40 ctf40 ocf41 kVf41 dcf41 pmf41 cdf41 ctf41 ocf42 kVf42 dcf42 pmf42 cdf42 ctf42 ocLw kVLw dcLw pmLw cdLw ctLw : Value} {dTf36 : Addr} {ocTf36 : Value} {odTf36 : Option Addr} {tTf36 : Tok} {nTf36 : Nat} {slTf36 : Array (Option Value)}
    (af5 : PySem.W.nsIn K mainGlobals "is_word" = some (some (.ref ff5)))
    (lf5 : K.lookup ff5 = some ⟨ocf5, odf5, .func (PySem.W.fnOf "is_word" "is_word" (defArgs sIsWord) (defBody sIsWord) (defScope sIsWord) .none kVf5 dcf5 pmf5 anf5 cdf5 ctf5), slf5⟩)
    (cf5 : PySem.W.codeIn K cdf5 "is_word" = true)
    (kf5 : PySem.W.keepIn K (.ref ff5) = true)
    (af6 : PySem.W.nsIn K mainGlobals "is_unknown" = some (some (.ref ff6)))
    (lf6 : K.lookup ff6 = some ⟨ocf6, odf6, .func (PySem.W.fnOf "is_unknown" "is_unknown" (defArgs sUnk) (defBody sUnk) (defScope sUnk) .none kVf6 dcf6 pmf6 anf6 cdf6 ctf6), slf6⟩)
    (cf6 : PySem.W.codeIn K cdf6 "is_unknown" = true)
    (kf6 : PySem.W.keepIn K (.ref ff6) = true)
    (af7 : PySem.W.nsIn K mainGlobals "is_variable" = some (some (.ref ff7)))
    (lf7 : K.lookup ff7 = some ⟨ocf7, odf7, .func (PySem.W.fnOf "is_variable" "is_variable" (defArgs s_is_variable) (defBody s_is_variable) (defScope s_is_variable) .none kVf7 dcf7 pmf7 anf7 cdf7 ctf7), slf7⟩)
    (cf7 : PySem.W.codeIn K cdf7 "is_variable" = true)
    (kf7 : PySem.W.keepIn K (.ref ff7) = true)
    (af8 : PySem.W.nsIn K mainGlobals "is_open" = some (some (.ref ff8)))
    (lf8 : K.lookup ff8 = some ⟨ocf8, odf8, .func (PySem.W.fnOf "is_open" "is_open" (defArgs s_is_open) (defBody s_is_open) (defScope s_is_open) .none kVf8 dcf8 pmf8 anf8 cdf8 ctf8), slf8⟩)
    (cf8 : PySem.W.codeIn K cdf8 "is_open" = true)
    (kf8 : PySem.W.keepIn K (.ref ff8) = true)
    (af9 : PySem.W.nsIn K mainGlobals "store_of" = some (some (.ref ff9)))
    (lf9 : K.lookup ff9 = some ⟨ocf9, odf9, .func (PySem.W.fnOf "store_of" "store_of" (defArgs s_store_of) (defBody s_store_of) (defScope s_store_of) .none kVf9 dcf9 pmf9 anf9 cdf9 ctf9), slf9⟩)
    (cf9 : PySem.W.codeIn K cdf9 "store_of" = true)
    (kf9 : PySem.W.keepIn K (.ref ff9) = true)
    (af10 : PySem.W.nsIn K mainGlobals "fact_by" = some (some (.ref ff10)))
    (lf10 : K.lookup ff10 = some ⟨ocf10, odf10, .func (PySem.W.fnOf "fact_by" "fact_by" (defArgs sFactBy) (defBody sFactBy) (defScope sFactBy) .none kVf10 dcf10 pmf10 anf10 cdf10 ctf10), slf10⟩)
    (cf10 : PySem.W.codeIn K cdf10 "fact_by" = true)
    (kf10 : PySem.W.keepIn K (.ref ff10) = true)
    (af11 : PySem.W.nsIn K mainGlobals "unlike" = some (some (.ref ff11)))
    (lf11 : K.lookup ff11 = some ⟨ocf11, odf11, .func (PySem.W.fnOf "unlike" "unlike" (defArgs s_unlike) (defBody s_unlike) (defScope s_unlike) .none kVf11 dcf11 pmf11 anf11 cdf11 ctf11), slf11⟩)
    (cf11 : PySem.W.codeIn K cdf11 "unlike" = true)
    (kf11 : PySem.W.keepIn K (.ref ff11) = true)
    (af12 : PySem.W.nsIn K mainGlobals "unknowns" = some (some (.ref ff12)))
    (lf12 : K.lookup ff12 = some ⟨ocf12, odf12, .func (PySem.W.fnOf "unknowns" "unknowns" (defArgs sUnkS) (defBody sUnkS) (defScope sUnkS) .none kVf12 dcf12 pmf12 anf12 cdf12 ctf12), slf12⟩)
    (cf12 : PySem.W.codeIn K cdf12 "unknowns" = true)
    (kf12 : PySem.W.keepIn K (.ref ff12) = true)
    (af13 : PySem.W.nsIn K mainGlobals "store_by" = some (some (.ref ff13)))
    (lf13 : K.lookup ff13 = some ⟨ocf13, odf13, .func (PySem.W.fnOf "store_by" "store_by" (defArgs sStoreBy) (defBody sStoreBy) (defScope sStoreBy) .none kVf13 dcf13 pmf13 anf13 cdf13 ctf13), slf13⟩)
    (cf13 : PySem.W.codeIn K cdf13 "store_by" = true)
    (kf13 : PySem.W.keepIn K (.ref ff13) = true)
    (af14 : PySem.W.nsIn K mainGlobals "named" = some (some (.ref ff14)))
    (lf14 : K.lookup ff14 = some ⟨ocf14, odf14, .func (PySem.W.fnOf "named" "named" (defArgs s_named) (defBody s_named) (defScope s_named) .none kVf14 dcf14 pmf14 anf14 cdf14 ctf14), slf14⟩)
    (cf14 : PySem.W.codeIn K cdf14 "named" = true)
    (kf14 : PySem.W.keepIn K (.ref ff14) = true)
    (af15 : PySem.W.nsIn K mainGlobals "touches" = some (some (.ref ff15)))
    (lf15 : K.lookup ff15 = some ⟨ocf15, odf15, .func (PySem.W.fnOf "touches" "touches" (defArgs s_touches) (defBody s_touches) (defScope s_touches) .none kVf15 dcf15 pmf15 anf15 cdf15 ctf15), slf15⟩)
    (cf15 : PySem.W.codeIn K cdf15 "touches" = true)
    (kf15 : PySem.W.keepIn K (.ref ff15) = true)
    (af16 : PySem.W.nsIn K mainGlobals "variables" = some (some (.ref ff16)))
    (lf16 : K.lookup ff16 = some ⟨ocf16, odf16, .func (PySem.W.fnOf "variables" "variables" (defArgs s_variables) (defBody s_variables) (defScope s_variables) .none kVf16 dcf16 pmf16 anf16 cdf16 ctf16), slf16⟩)
    (cf16 : PySem.W.codeIn K cdf16 "variables" = true)
    (kf16 : PySem.W.keepIn K (.ref ff16) = true)
    (af17 : PySem.W.nsIn K mainGlobals "with_goal" = some (some (.ref ff17)))
    (lf17 : K.lookup ff17 = some ⟨ocf17, odf17, .func (PySem.W.fnOf "with_goal" "with_goal" (defArgs s_with_goal) (defBody s_with_goal) (defScope s_with_goal) .none kVf17 dcf17 pmf17 anf17 cdf17 ctf17), slf17⟩)
    (cf17 : PySem.W.codeIn K cdf17 "with_goal" = true)
    (kf17 : PySem.W.keepIn K (.ref ff17) = true)
    (af18 : PySem.W.nsIn K mainGlobals "made_one" = some (some (.ref ff18)))
    (lf18 : K.lookup ff18 = some ⟨ocf18, odf18, .func (PySem.W.fnOf "made_one" "made_one" (defArgs s_made_one) (defBody s_made_one) (defScope s_made_one) .none kVf18 dcf18 pmf18 anf18 cdf18 ctf18), slf18⟩)
    (cf18 : PySem.W.codeIn K cdf18 "made_one" = true)
    (kf18 : PySem.W.keepIn K (.ref ff18) = true)
    (af19 : PySem.W.nsIn K mainGlobals "atoms_by" = some (some (.ref ff19)))
    (lf19 : K.lookup ff19 = some ⟨ocf19, odf19, .func (PySem.W.fnOf "atoms_by" "atoms_by" (defArgs s_atoms_by) (defBody s_atoms_by) (defScope s_atoms_by) .none kVf19 dcf19 pmf19 anf19 cdf19 ctf19), slf19⟩)
    (cf19 : PySem.W.codeIn K cdf19 "atoms_by" = true)
    (kf19 : PySem.W.keepIn K (.ref ff19) = true)
    (af20 : PySem.W.nsIn K mainGlobals "renamed" = some (some (.ref ff20)))
    (lf20 : K.lookup ff20 = some ⟨ocf20, odf20, .func (PySem.W.fnOf "renamed" "renamed" (defArgs sRen) (defBody sRen) (defScope sRen) .none kVf20 dcf20 pmf20 anf20 cdf20 ctf20), slf20⟩)
    (cf20 : PySem.W.codeIn K cdf20 "renamed" = true)
    (kf20 : PySem.W.keepIn K (.ref ff20) = true)
    (af21 : PySem.W.nsIn K mainGlobals "next_states" = some (some (.ref ff21)))
    (lf21 : K.lookup ff21 = some ⟨ocf21, odf21, .func (PySem.W.fnOf "next_states" "next_states" (defArgs s_next_states) (defBody s_next_states) (defScope s_next_states) .none kVf21 dcf21 pmf21 anf21 cdf21 ctf21), slf21⟩)
    (cf21 : PySem.W.codeIn K cdf21 "next_states" = true)
    (kf21 : PySem.W.keepIn K (.ref ff21) = true)
    (af22 : PySem.W.nsIn K mainGlobals "knots" = some (some (.ref ff22)))
    (lf22 : K.lookup ff22 = some ⟨ocf22, odf22, .func (PySem.W.fnOf "knots" "knots" (defArgs s_knots) (defBody s_knots) (defScope s_knots) .none kVf22 dcf22 pmf22 anf22 cdf22 ctf22), slf22⟩)
    (cf22 : PySem.W.codeIn K cdf22 "knots" = true)
    (kf22 : PySem.W.keepIn K (.ref ff22) = true)
    (af23 : PySem.W.nsIn K mainGlobals "goals" = some (some (.ref ff23)))
    (lf23 : K.lookup ff23 = some ⟨ocf23, odf23, .func (PySem.W.fnOf "goals" "goals" (defArgs s_goals) (defBody s_goals) (defScope s_goals) .none kVf23 dcf23 pmf23 anf23 cdf23 ctf23), slf23⟩)
    (cf23 : PySem.W.codeIn K cdf23 "goals" = true)
    (kf23 : PySem.W.keepIn K (.ref ff23) = true)
    (af24 : PySem.W.nsIn K mainGlobals "widened_pairs" = some (some (.ref ff24)))
    (lf24 : K.lookup ff24 = some ⟨ocf24, odf24, .func (PySem.W.fnOf "widened_pairs" "widened_pairs" (defArgs s_widened_pairs) (defBody s_widened_pairs) (defScope s_widened_pairs) .none kVf24 dcf24 pmf24 anf24 cdf24 ctf24), slf24⟩)
    (cf24 : PySem.W.codeIn K cdf24 "widened_pairs" = true)
    (kf24 : PySem.W.keepIn K (.ref ff24) = true)
    (af25 : PySem.W.nsIn K mainGlobals "settled" = some (some (.ref ff25)))
    (lf25 : K.lookup ff25 = some ⟨ocf25, odf25, .func (PySem.W.fnOf "settled" "settled" (defArgs s_settled) (defBody s_settled) (defScope s_settled) .none kVf25 dcf25 pmf25 anf25 cdf25 ctf25), slf25⟩)
    (cf25 : PySem.W.codeIn K cdf25 "settled" = true)
    (kf25 : PySem.W.keepIn K (.ref ff25) = true)
    (af26 : PySem.W.nsIn K mainGlobals "plain" = some (some (.ref ff26)))
    (lf26 : K.lookup ff26 = some ⟨ocf26, odf26, .func (PySem.W.fnOf "plain" "plain" (defArgs s_plain) (defBody s_plain) (defScope s_plain) .none kVf26 dcf26 pmf26 anf26 cdf26 ctf26), slf26⟩)
    (cf26 : PySem.W.codeIn K cdf26 "plain" = true)
    (kf26 : PySem.W.keepIn K (.ref ff26) = true)
    (af27 : PySem.W.nsIn K mainGlobals "choices_left" = some (some (.ref ff27)))
    (lf27 : K.lookup ff27 = some ⟨ocf27, odf27, .func (PySem.W.fnOf "choices_left" "choices_left" (defArgs s_choices_left) (defBody s_choices_left) (defScope s_choices_left) .none kVf27 dcf27 pmf27 anf27 cdf27 ctf27), slf27⟩)
    (cf27 : PySem.W.codeIn K cdf27 "choices_left" = true)
    (kf27 : PySem.W.keepIn K (.ref ff27) = true)
    (af28 : PySem.W.nsIn K mainGlobals "choices_for" = some (some (.ref ff28)))
    (lf28 : K.lookup ff28 = some ⟨ocf28, odf28, .func (PySem.W.fnOf "choices_for" "choices_for" (defArgs s_choices_for) (defBody s_choices_for) (defScope s_choices_for) .none kVf28 dcf28 pmf28 anf28 cdf28 ctf28), slf28⟩)
    (cf28 : PySem.W.codeIn K cdf28 "choices_for" = true)
    (kf28 : PySem.W.keepIn K (.ref ff28) = true)
    (af29 : PySem.W.nsIn K mainGlobals "blocks" = some (some (.ref ff29)))
    (lf29 : K.lookup ff29 = some ⟨ocf29, odf29, .func (PySem.W.fnOf "blocks" "blocks" (defArgs s_blocks) (defBody s_blocks) (defScope s_blocks) .none kVf29 dcf29 pmf29 anf29 cdf29 ctf29), slf29⟩)
    (cf29 : PySem.W.codeIn K cdf29 "blocks" = true)
    (kf29 : PySem.W.keepIn K (.ref ff29) = true)
    (af30 : PySem.W.nsIn K mainGlobals "widened" = some (some (.ref ff30)))
    (lf30 : K.lookup ff30 = some ⟨ocf30, odf30, .func (PySem.W.fnOf "widened" "widened" (defArgs s_widened) (defBody s_widened) (defScope s_widened) .none kVf30 dcf30 pmf30 anf30 (.ref ccf30) ctf30), slf30⟩)
    (cf30 : PySem.W.codeIn K (.ref ccf30) "widened" = true)
    (kf30 : PySem.W.keepIn K (.ref ff30) = true)
    (hhf30 : PySem.W.codeHdIn K ccf30 cpf30 = true)
    (af31 : PySem.W.nsIn K mainGlobals "all_widened" = some (some (.ref ff31)))
    (lf31 : K.lookup ff31 = some ⟨ocf31, odf31, .func (PySem.W.fnOf "all_widened" "all_widened" (defArgs s_all_widened) (defBody s_all_widened) (defScope s_all_widened) .none kVf31 dcf31 pmf31 anf31 (.ref ccf31) ctf31), slf31⟩)
    (cf31 : PySem.W.codeIn K (.ref ccf31) "all_widened" = true)
    (kf31 : PySem.W.keepIn K (.ref ff31) = true)
    (hhf31 : PySem.W.codeHdIn K ccf31 cpf31 = true)
    (af32 : PySem.W.nsIn K mainGlobals "lead" = some (some (.ref ff32)))
    (lf32 : K.lookup ff32 = some ⟨ocf32, odf32, .func (PySem.W.fnOf "lead" "lead" (defArgs s_lead) (defBody s_lead) (defScope s_lead) .none kVf32 dcf32 pmf32 anf32 cdf32 ctf32), slf32⟩)
    (cf32 : PySem.W.codeIn K cdf32 "lead" = true)
    (kf32 : PySem.W.keepIn K (.ref ff32) = true)
    (af33 : PySem.W.nsIn K mainGlobals "assignments" = some (some (.ref ff33)))
    (lf33 : K.lookup ff33 = some ⟨ocf33, odf33, .func (PySem.W.fnOf "assignments" "assignments" (defArgs s_assignments) (defBody s_assignments) (defScope s_assignments) .none kVf33 dcf33 pmf33 anf33 cdf33 ctf33), slf33⟩)
    (cf33 : PySem.W.codeIn K cdf33 "assignments" = true)
    (kf33 : PySem.W.keepIn K (.ref ff33) = true)
    (af34 : PySem.W.nsIn K mainGlobals "is_there" = some (some (.ref ff34)))
    (lf34 : K.lookup ff34 = some ⟨ocf34, odf34, .func (PySem.W.fnOf "is_there" "is_there" (defArgs s_is_there) (defBody s_is_there) (defScope s_is_there) .none kVf34 dcf34 pmf34 anf34 cdf34 ctf34), slf34⟩)
    (cf34 : PySem.W.codeIn K cdf34 "is_there" = true)
    (kf34 : PySem.W.keepIn K (.ref ff34) = true)
    (af35 : PySem.W.nsIn K mainGlobals "folding" = some (some (.ref ff35)))
    (lf35 : K.lookup ff35 = some ⟨ocf35, odf35, .func (PySem.W.fnOf "folding" "folding" (defArgs s_folding) (defBody s_folding) (defScope s_folding) .none kVf35 dcf35 pmf35 anf35 cdf35 ctf35), slf35⟩)
    (cf35 : PySem.W.codeIn K cdf35 "folding" = true)
    (kf35 : PySem.W.keepIn K (.ref ff35) = true)
    (af36 : PySem.W.nsIn K mainGlobals "came" = some (some (.ref ff36)))
    (lf36 : K.lookup ff36 = some ⟨ocf36, odf36, .func (PySem.W.fnOf "came" "came" (defArgs s_came) (defBody s_came) (defScope s_came) (.ref dTf36) kVf36 dcf36 pmf36 anf36 cdf36 ctf36), slf36⟩)
    (cf36 : PySem.W.codeIn K cdf36 "came" = true)
    (kf36 : PySem.W.keepIn K (.ref ff36) = true)
    (uf36 : K.lookup dTf36 = some ⟨ocTf36, odTf36, .seq #[.int 0 tTf36] nTf36, slTf36⟩)
    (af37 : PySem.W.nsIn K mainGlobals "core" = some (some (.ref ff37)))
    (lf37 : K.lookup ff37 = some ⟨ocf37, odf37, .func (PySem.W.fnOf "core" "core" (defArgs s_core) (defBody s_core) (defScope s_core) .none kVf37 dcf37 pmf37 anf37 cdf37 ctf37), slf37⟩)
    (cf37 : PySem.W.codeIn K cdf37 "core" = true)
    (kf37 : PySem.W.keepIn K (.ref ff37) = true)
    (af38 : PySem.W.nsIn K mainGlobals "handed" = some (some (.ref ff38)))
    (lf38 : K.lookup ff38 = some ⟨ocf38, odf38, .func (PySem.W.fnOf "handed" "handed" (defArgs s_handed) (defBody s_handed) (defScope s_handed) .none kVf38 dcf38 pmf38 anf38 cdf38 ctf38), slf38⟩)
    (cf38 : PySem.W.codeIn K cdf38 "handed" = true)
    (kf38 : PySem.W.keepIn K (.ref ff38) = true)
    (af39 : PySem.W.nsIn K mainGlobals "outcome" = some (some (.ref ff39)))
    (lf39 : K.lookup ff39 = some ⟨ocf39, odf39, .func (PySem.W.fnOf "outcome" "outcome" (defArgs s_outcome) (defBody s_outcome) (defScope s_outcome) .none kVf39 dcf39 pmf39 anf39 cdf39 ctf39), slf39⟩)
    (cf39 : PySem.W.codeIn K cdf39 "outcome" = true)
    (kf39 : PySem.W.keepIn K (.ref ff39) = true)
    (af40 : PySem.W.nsIn K mainGlobals "least" = some (some (.ref ff40)))
    (lf40 : K.lookup ff40 = some ⟨ocf40, odf40, .func (PySem.W.fnOf "least" "least" (defArgs s_least) (defBody s_least) (defScope s_least) .none kVf40 dcf40 pmf40 anf40 cdf40 ctf40), slf40⟩)
    (cf40 : PySem.W.codeIn K cdf40 "least" = true)
    (kf40 : PySem.W.keepIn K (.ref ff40) = true)
    (af41 : PySem.W.nsIn K mainGlobals "refuted" = some (some (.ref ff41)))
    (lf41 : K.lookup ff41 = some ⟨ocf41, odf41, .func (PySem.W.fnOf "refuted" "refuted" (defArgs s_refuted) (defBody s_refuted) (defScope s_refuted) .none kVf41 dcf41 pmf41 anf41 cdf41 ctf41), slf41⟩)
    (cf41 : PySem.W.codeIn K cdf41 "refuted" = true)
    (kf41 : PySem.W.keepIn K (.ref ff41) = true)
    (af42 : PySem.W.nsIn K mainGlobals "follows" = some (some (.ref ff42)))
    (lf42 : K.lookup ff42 = some ⟨ocf42, odf42, .func (PySem.W.fnOf "follows" "follows" (defArgs s_follows) (defBody s_follows) (defScope s_follows) .none kVf42 dcf42 pmf42 anf42 cdf42 ctf42), slf42⟩)
    (cf42 : PySem.W.codeIn K cdf42 "follows" = true)
    (kf42 : PySem.W.keepIn K (.ref ff42) = true)
    (aLw : PySem.W.nsIn K mainGlobals "law" = some (some (.ref fLw)))
    (lLw : K.lookup fLw = some ⟨ocLw, odLw, .func (PySem.W.fnOf "law" "law" (defArgs sLaw) (defBody sLaw) (defScope sLaw) .none kVLw dcLw pmLw anLw cdLw ctLw), slLw⟩)
    (cLw : PySem.W.codeIn K cdLw "law" = true)
    (kLw : PySem.W.keepIn K (.ref fLw) = true)
    (z_abs : PySem.W.nsIn K mainGlobals "abs" = some none)
    (z_all : PySem.W.nsIn K mainGlobals "all" = some none)
    (z_any : PySem.W.nsIn K mainGlobals "any" = some none)
    (z_dict : PySem.W.nsIn K mainGlobals "dict" = some none)
    (z_int : PySem.W.nsIn K mainGlobals "int" = some none)
    (z_isinstance : PySem.W.nsIn K mainGlobals "isinstance" = some none)
    (z_len : PySem.W.nsIn K mainGlobals "len" = some none)
    (z_list : PySem.W.nsIn K mainGlobals "list" = some none)
    (z_max : PySem.W.nsIn K mainGlobals "max" = some none)
    (z_min : PySem.W.nsIn K mainGlobals "min" = some none)
    (z_range : PySem.W.nsIn K mainGlobals "range" = some none)
    (z_repr : PySem.W.nsIn K mainGlobals "repr" = some none)
    (z_set : PySem.W.nsIn K mainGlobals "set" = some none)
    (z_sorted : PySem.W.nsIn K mainGlobals "sorted" = some none)
    (z_str : PySem.W.nsIn K mainGlobals "str" = some none)
    (z_tuple : PySem.W.nsIn K mainGlobals "tuple" = some none)
    (z_zip : PySem.W.nsIn K mainGlobals "zip" = some none)
    (g_CAPITALS : PySem.W.nsIn K mainGlobals "CAPITALS" = some (some (.str "ABCDEFGHIJKLMNOPQRSTUVWXYZ" t_CAPITALS)))
    (g_DIGITS : PySem.W.nsIn K mainGlobals "DIGITS" = some (some (.str "0123456789" t_DIGITS)))
    (g_LETTERS : PySem.W.nsIn K mainGlobals "LETTERS" = some (some (.str "abcdefghijklmnopqrstuvwxyz" t_LETTERS)))
    (i_str_0 : PySem.W.kitOne K (.type "NoneType") (.type "str") = some false)
    (i_str_1 : PySem.W.kitOne K (.type "bool") (.type "str") = some false)
    (i_str_2 : PySem.W.kitOne K (.type "int") (.type "str") = some false)
    (i_str_3 : PySem.W.kitOne K (.type "str") (.type "str") = some true)
    (i_str_4 : PySem.W.kitOne K (.type "list") (.type "str") = some false)
    (i_str_5 : PySem.W.kitOne K (.type "tuple") (.type "str") = some false) :
    ∃ fd : FuncData, (∀ (s : Shared) (v : Value), BindsTo s fd ⟨[v], []⟩ [("_law_script", v)]) ∧ (∀ p ∈ ([cpf31, cpf30] : List Addr), ∃ c, PySem.W.codeHdIn K c p = true) ∧ ∀ base : Heap, K.In base → base.Ns mainGlobals mg → BmT base mg [cpf31, cpf30] → RunG l.prog w K mg base 90 fa fd ["_law_script"] (spLaw K) := by
  have e := hfa.symm.trans (PySem.W.mg_of X G aLw)
  cases e
  have m := fun {x : Str} {v : Value} (a : PySem.W.nsIn K mainGlobals x = some (some v)) => PySem.W.mg_of X G a
  have z := fun {x : Str} (a : PySem.W.nsIn K mainGlobals x = some none) => PySem.W.mg_none_of X G a
  have B : Blt mg := ⟨z z_int, z z_len, z z_abs, z z_list, z z_range, z z_repr⟩
  have B2 : Blt2 mg := ⟨z z_tuple, z z_sorted, z z_set, z z_dict, z z_isinstance, z z_str, z z_all⟩
  have k_str : IsT K "str" (isC "str") := ⟨i_str_0.trans (congrArg some (by decide)), i_str_1.trans (congrArg some (by decide)), i_str_2.trans (congrArg some (by decide)), i_str_3.trans (congrArg some (by decide)), i_str_4.trans (congrArg some (by decide)), i_str_5.trans (congrArg some (by decide))⟩
  have Ff5 := fun_mk (st := sIsWord) lf5 cf5 kf5
  have Ff6 := fun_mk (st := sUnk) lf6 cf6 kf6
  have Ff7 := fun_mk (st := s_is_variable) lf7 cf7 kf7
  have Ff8 := fun_mk (st := s_is_open) lf8 cf8 kf8
  have Ff9 := fun_mk (st := s_store_of) lf9 cf9 kf9
  have Ff10 := fun_mk (st := sFactBy) lf10 cf10 kf10
  have Ff11 := fun_mk (st := s_unlike) lf11 cf11 kf11
  have Ff12 := fun_mk (st := sUnkS) lf12 cf12 kf12
  have Ff13 := fun_mk (st := sStoreBy) lf13 cf13 kf13
  have Ff14 := fun_mk (st := s_named) lf14 cf14 kf14
  have Ff15 := fun_mk (st := s_touches) lf15 cf15 kf15
  have Ff16 := fun_mk (st := s_variables) lf16 cf16 kf16
  have Ff17 := fun_mk (st := s_with_goal) lf17 cf17 kf17
  have Ff18 := fun_mk (st := s_made_one) lf18 cf18 kf18
  have Ff19 := fun_mk (st := s_atoms_by) lf19 cf19 kf19
  have Ff20 := fun_mk (st := sRen) lf20 cf20 kf20
  have Ff21 := fun_mk (st := s_next_states) lf21 cf21 kf21
  have Ff22 := fun_mk (st := s_knots) lf22 cf22 kf22
  have Ff23 := fun_mk (st := s_goals) lf23 cf23 kf23
  have Ff24 := fun_mk (st := s_widened_pairs) lf24 cf24 kf24
  have Ff25 := fun_mk (st := s_settled) lf25 cf25 kf25
  have Ff26 := fun_mk (st := s_plain) lf26 cf26 kf26
  have Ff27 := fun_mk (st := s_choices_left) lf27 cf27 kf27
  have Ff28 := fun_mk (st := s_choices_for) lf28 cf28 kf28
  have Ff29 := fun_mk (st := s_blocks) lf29 cf29 kf29
  have Ff30 := fun_mk (st := s_widened) lf30 cf30 kf30
  have Ff31 := fun_mk (st := s_all_widened) lf31 cf31 kf31
  have Ff32 := fun_mk (st := s_lead) lf32 cf32 kf32
  have Ff33 := fun_mk (st := s_assignments) lf33 cf33 kf33
  have Ff34 := fun_mk (st := s_is_there) lf34 cf34 kf34
  have Ff35 := fun_mk (st := s_folding) lf35 cf35 kf35
  have Ff36 := funD_mk (st := s_came) lf36 cf36 kf36 uf36 rfl
  have Ff37 := fun_mk (st := s_core) lf37 cf37 kf37
  have Ff38 := fun_mk (st := s_handed) lf38 cf38 kf38
  have Ff39 := fun_mk (st := s_outcome) lf39 cf39 kf39
  have Ff40 := fun_mk (st := s_least) lf40 cf40 kf40
  have Ff41 := fun_mk (st := s_refuted) lf41 cf41 kf41
  have Ff42 := fun_mk (st := s_follows) lf42 cf42 kf42
  have FLw := fun_mk (st := sLaw) lLw cLw kLw
  have bf5 := Ff5.binds (ps := ["value"]) fun _ _ _ _ _ _ us hl => match us, hl with | [_], _ => rfl
  have bf6 := Ff6.binds (ps := ["value"]) fun _ _ _ _ _ _ us hl => match us, hl with | [_], _ => rfl
  have bf7 := Ff7.binds (ps := ["value"]) fun _ _ _ _ _ _ us hl => match us, hl with | [_], _ => rfl
  have bf8 := Ff8.binds (ps := ["part"]) fun _ _ _ _ _ _ us hl => match us, hl with | [_], _ => rfl
  have bf9 := Ff9.binds (ps := ["facts"]) fun _ _ _ _ _ _ us hl => match us, hl with | [_], _ => rfl
  have bf10 := Ff10.binds (ps := ["fact", "table"]) fun _ _ _ _ _ _ us hl => match us, hl with | [_, _], _ => rfl
  have bf11 := Ff11.binds (ps := ["key", "store"]) fun _ _ _ _ _ _ us hl => match us, hl with | [_, _], _ => rfl
  have bf12 := Ff12.binds (ps := ["store"]) fun _ _ _ _ _ _ us hl => match us, hl with | [_], _ => rfl
  have bf13 := Ff13.binds (ps := ["store", "table"]) fun _ _ _ _ _ _ us hl => match us, hl with | [_, _], _ => rfl
  have bf14 := Ff14.binds (ps := ["table", "fact", "names"]) fun _ _ _ _ _ _ us hl => match us, hl with | [_, _, _], _ => rfl
  have bf15 := Ff15.binds (ps := ["group", "fact"]) fun _ _ _ _ _ _ us hl => match us, hl with | [_, _], _ => rfl
  have bf16 := Ff16.binds (ps := ["atoms"]) fun _ _ _ _ _ _ us hl => match us, hl with | [_], _ => rfl
  have bf17 := Ff17.binds (ps := ["table", "fact", "goal"]) fun _ _ _ _ _ _ us hl => match us, hl with | [_, _, _], _ => rfl
  have bf18 := Ff18.binds (ps := ["store", "keys"]) fun _ _ _ _ _ _ us hl => match us, hl with | [_, _], _ => rfl
  have bf19 := Ff19.binds (ps := ["atoms", "table"]) fun _ _ _ _ _ _ us hl => match us, hl with | [_, _], _ => rfl
  have bf20 := Ff20.binds (ps := ["store", "pairs"]) fun _ _ _ _ _ _ us hl => match us, hl with | [_, _], _ => rfl
  have bf21 := Ff21.binds (ps := ["states", "names"]) fun _ _ _ _ _ _ us hl => match us, hl with | [_, _], _ => rfl
  have bf22 := Ff22.binds (ps := ["store"]) fun _ _ _ _ _ _ us hl => match us, hl with | [_], _ => rfl
  have bf23 := Ff23.binds (ps := ["fact", "others", "table"]) fun _ _ _ _ _ _ us hl => match us, hl with | [_, _, _], _ => rfl
  have bf24 := Ff24.binds (ps := ["pairs", "store"]) fun _ _ _ _ _ _ us hl => match us, hl with | [_, _], _ => rfl
  have bf25 := Ff25.binds (ps := ["store", "keys"]) fun _ _ _ _ _ _ us hl => match us, hl with | [_, _], _ => rfl
  have bf26 := Ff26.binds (ps := ["store"]) fun _ _ _ _ _ _ us hl => match us, hl with | [_], _ => rfl
  have bf27 := Ff27.binds (ps := ["choices", "fact", "table"]) fun _ _ _ _ _ _ us hl => match us, hl with | [_, _, _], _ => rfl
  have bf28 := Ff28.binds (ps := ["facts", "others", "table"]) fun _ _ _ _ _ _ us hl => match us, hl with | [_, _, _], _ => rfl
  have bf29 := Ff29.binds (ps := ["store"]) fun _ _ _ _ _ _ us hl => match us, hl with | [_], _ => rfl
  have bf30 := Ff30.binds (ps := ["table", "choices"]) fun _ _ _ _ _ _ us hl => match us, hl with | [_, _], _ => rfl
  have bf31 := Ff31.binds (ps := ["table", "choices"]) fun _ _ _ _ _ _ us hl => match us, hl with | [_, _], _ => rfl
  have bf32 := Ff32.binds (ps := ["one", "other"]) fun _ _ _ _ _ _ us hl => match us, hl with | [_, _], _ => rfl
  have bf33 := Ff33.binds (ps := ["atoms", "facts"]) fun _ _ _ _ _ _ us hl => match us, hl with | [_, _], _ => rfl
  have bf34 := Ff34.binds (ps := ["atoms", "pairs", "store"]) fun _ _ _ _ _ _ us hl => match us, hl with | [_, _, _], _ => rfl
  have bf35 := Ff35.binds (ps := ["store"]) fun _ _ _ _ _ _ us hl => match us, hl with | [_], _ => rfl
  obtain ⟨wf36, vf36, bf36⟩ := Ff36.binds1 (ps := ["rules", "source", "many"]) 2 0 (by simp) rfl fun _ _ _ _ _ _ _ us its h1 h2 => match us, its, h1, h2 with | [_, _], [_], _, _ => ⟨_, rfl, rfl⟩
  have bf37 := Ff37.binds (ps := ["store"]) fun _ _ _ _ _ _ us hl => match us, hl with | [_], _ => rfl
  have bf38 := Ff38.binds (ps := ["book", "source"]) fun _ _ _ _ _ _ us hl => match us, hl with | [_, _], _ => rfl
  have bf39 := Ff39.binds (ps := ["book", "source"]) fun _ _ _ _ _ _ us hl => match us, hl with | [_, _], _ => rfl
  have bf40 := Ff40.binds (ps := ["book", "source"]) fun _ _ _ _ _ _ us hl => match us, hl with | [_, _], _ => rfl
  have bf41 := Ff41.binds (ps := ["book", "rule"]) fun _ _ _ _ _ _ us hl => match us, hl with | [_, _], _ => rfl
  have bf42 := Ff42.binds (ps := ["book", "rule"]) fun _ _ _ _ _ _ us hl => match us, hl with | [_, _], _ => rfl
  refine ⟨PySem.W.fnOf "law" "law" (defArgs sLaw) (defBody sLaw) (defScope sLaw) .none kVLw dcLw pmLw anLw cdLw ctLw, fun s v => .of_eq rfl, List.forall_mem_cons.mpr ⟨⟨ccf31, hhf31⟩, List.forall_mem_cons.mpr ⟨⟨ccf30, hhf30⟩, nofun⟩⟩, fun base Kb _ BM => ?mn⟩
  case mn =>
    have hf5 := okF_is_word (P := l.prog) (w := w) (mg := mg) (base := base) Ff5 (z z_isinstance) (z z_str) (z z_len) (z z_all) k_str (m g_LETTERS)
    have hf6 := okF_is_unknown (P := l.prog) (w := w) (mg := mg) (base := base) Ff6 (z z_isinstance) (z z_str) (z z_len) (z z_all) k_str (m g_DIGITS)
    have hf7 := okF_is_variable (P := l.prog) (w := w) (mg := mg) (base := base) Ff7 (z z_isinstance) (z z_str) (z z_len) k_str (m g_CAPITALS)
    have hf8 := okF_is_open (P := l.prog) (w := w) (mg := mg) (base := base) Ff8 (m g_LETTERS)
    have hf9 := okF_store_of (P := l.prog) (w := w) (mg := mg) (base := base) Ff9 (z z_tuple) (z z_sorted) (z z_set)
    have hf10 := okF_fact_by (P := l.prog) (w := w) (mg := mg) (base := base) Ff10 (z z_tuple)
    have hf11 := okF_unlike (P := l.prog) (w := w) (mg := mg) (base := base) Ff11 hW (z z_tuple) (z z_list) (z z_len)
    have hf12 := okF_unknowns (P := l.prog) (w := w) (mg := mg) (base := base) Ff12 (z z_tuple) (z z_sorted) hf6 (m af6) kf6 bf6
    have hf13 := okF_store_by (P := l.prog) (w := w) (mg := mg) (base := base) Ff13 hf9 (m af9) kf9 bf9 hf10 (m af10) kf10 bf10
    have hf14 := okF_named (P := l.prog) (w := w) (mg := mg) (base := base) Ff14 (z z_dict) (z z_len) hf6 (m af6) kf6 bf6
    have hf15 := okF_touches (P := l.prog) (w := w) (mg := mg) (base := base) Ff15 (z z_any) hf8 (m af8) kf8 bf8
    have hf16 := okF_variables (P := l.prog) (w := w) (mg := mg) (base := base) Ff16 (z z_sorted) hf7 (m af7) kf7 bf7
    have hf17 := okF_with_goal (P := l.prog) (w := w) (mg := mg) (base := base) Ff17 (z z_len) (z z_dict) (z z_zip) hf8 (m af8) kf8 bf8
    have hf18 := okF_made_one (P := l.prog) (w := w) (mg := mg) (base := base) Ff18 (z z_zip) (z z_min) (z z_max) hf11 (m af11) kf11 bf11
    have hf19 := okF_atoms_by (P := l.prog) (w := w) (mg := mg) (base := base) Ff19 (z z_tuple) hf10 (m af10) kf10 bf10
    have hf20 := okF_renamed (P := l.prog) (w := w) (mg := mg) (base := base) Ff20 (z z_dict) hf13 (m af13) kf13 bf13
    have hf21 := okF_next_states (P := l.prog) (w := w) (mg := mg) (base := base) Ff21 (z z_min) hf14 (m af14) kf14 bf14 hf10 (m af10) kf10 bf10
    have hf22 := okF_knots (P := l.prog) (w := w) (mg := mg) (base := base) Ff22 hf15 (m af15) kf15 bf15
    have hf23 := okF_goals (P := l.prog) (w := w) (mg := mg) (base := base) Ff23 hf17 (m af17) kf17 bf17
    have hf24 := okF_widened_pairs (P := l.prog) (w := w) (mg := mg) (base := base) Ff24 (z z_dict) (z z_tuple) hf12 (m af12) kf12 bf12
    have hf25 := okF_settled (P := l.prog) (w := w) (mg := mg) (base := base) Ff25 (z z_dict) hf18 (m af18) kf18 bf18 hf5 (m af5) kf5 bf5 hf13 (m af13) kf13 bf13
    have hf26 := okF_plain (P := l.prog) (w := w) (mg := mg) (base := base) Ff26 (z z_len) (z z_sorted) (z z_range) (z z_min) hf12 (m af12) kf12 bf12 hf21 (m af21) kf21 bf21 hf13 (m af13) kf13 bf13
    have hf27 := okF_choices_left (P := l.prog) (w := w) (mg := mg) (base := base) Ff27 hf23 (m af23) kf23 bf23
    have hf28 := okF_choices_for (P := l.prog) (w := w) (mg := mg) (base := base) Ff28 hf23 (m af23) kf23 bf23
    have hf29 := okF_blocks (P := l.prog) (w := w) (mg := mg) (base := base) Ff29 (z z_tuple) (z z_sorted) hf12 (m af12) kf12 bf12 hf22 (m af22) kf22 bf22
    have hf30 := okF_widened (P := l.prog) (w := w) (mg := mg) (base := base) Ff30 (z z_min) (z z_len) hf17 (m af17) kf17 bf17 hf27 (m af27) kf27 bf27 (tab_ok Kb hhf30 (BM cpf30 (List.mem_cons_of_mem _ List.mem_cons_self))) rfl tmf30 (m af30) kf30 bf30
    have hf31 := okF_all_widened (P := l.prog) (w := w) (mg := mg) (base := base) Ff31 (z z_min) (z z_len) hf17 (m af17) kf17 bf17 hf27 (m af27) kf27 bf27 (tab_ok Kb hhf31 (BM cpf31 List.mem_cons_self)) rfl tmf31 (m af31) kf31 bf31
    have hf32 := okF_lead (P := l.prog) (w := w) (mg := mg) (base := base) Ff32 (z z_tuple) (z z_sorted) hf22 (m af22) kf22 bf22 hf30 (m af30) kf30 bf30 hf28 (m af28) kf28 bf28
    have hf33 := okF_assignments (P := l.prog) (w := w) (mg := mg) (base := base) Ff33 (z z_sorted) (z z_tuple) hf31 (m af31) kf31 bf31 hf28 (m af28) kf28 bf28
    have hf34 := okF_is_there (P := l.prog) (w := w) (mg := mg) (base := base) Ff34 (z z_dict) hf30 (m af30) kf30 bf30 hf28 (m af28) kf28 bf28
    have hf35 := okF_folding (P := l.prog) (w := w) (mg := mg) (base := base) Ff35 hf22 (m af22) kf22 bf22 hf12 (m af12) kf12 bf12 hf32 (m af32) kf32 bf32 hf24 (m af24) kf24 bf24
    have hf36 := okF_came (P := l.prog) (w := w) (mg := mg) (base := base) Ff36 (z z_dict) hf33 (m af33) kf33 bf33 hf16 (m af16) kf16 bf16 hf10 (m af10) kf10 bf10 hf9 (m af9) kf9 bf9
    have hf37 := okF_core (P := l.prog) (w := w) (mg := mg) (base := base) Ff37 hf35 (m af35) kf35 bf35 hf20 (m af20) kf20 bf20 hf26 (m af26) kf26 bf26
    have hf38 := okF_handed (P := l.prog) (w := w) (mg := mg) (base := base) Ff38 hf25 (m af25) kf25 bf25 hf36 (m af36) kf36 bf36 vf36
    have hf39 := okF_outcome (P := l.prog) (w := w) (mg := mg) (base := base) Ff39 hf38 (m af38) kf38 bf38 hf37 (m af37) kf37 bf37
    have hf40 := okF_least (P := l.prog) (w := w) (mg := mg) (base := base) Ff40 hf39 (m af39) kf39 bf39
    have hf41 := okF_refuted (P := l.prog) (w := w) (mg := mg) (base := base) Ff41 (z z_any) hf25 (m af25) kf25 bf25 hf36 (m af36) kf36 bf36 vf36 hf9 (m af9) kf9 bf9 hf16 (m af16) kf16 bf16 hf19 (m af19) kf19 bf19 hf34 (m af34) kf34 bf34 (m af41) kf41 bf41
    have hf42 := okF_follows (P := l.prog) (w := w) (mg := mg) (base := base) Ff42 hf41 (m af41) kf41 bf41
    exact okL_law FLw (z z_repr) hf26 (m af26) kf26 bf26 hf32 (m af32) kf32 bf32 hf35 (m af35) kf35 bf35 hf37 (m af37) kf37 bf37 hf29 (m af29) kf29 bf29 hf40 (m af40) kf40 bf40 hf42 (m af42) kf42 bf42
end My

open PySem PySem.W PyProof.Rows
set_option maxRecDepth 100000 in
set_option maxHeartbeats 0 in
theorem PySem.Challenge.cw_corestore_k00_worked_examples_holds : PySem.Challenge.rw_corestore_k00_worked_examples.Holds := by
  w_on; o_law; k_head; (case hw => w_witness2)
  k_fill
  refine My.walk_tn (T := [(_, "all_widened.<locals>.<lambda>"), (_, "widened.<locals>.<lambda>")]) ?uq (l := PySem.Challenge.rw_corestore_k00_worked_examples) (k := 90) (x := "_law_script") rfl rfl ⟨rfl, by decide, by decide⟩ ?nT ?F
  case uq => first | (simp; done) | decide
  case nT => exact fun w => List.forall_mem_cons.mpr ⟨by kernel_rfl, List.forall_mem_cons.mpr ⟨by kernel_rfl, nofun⟩⟩
  case F =>
    intro w mg fa h KX G hmg
    refine' My.all_mk _ ?tmf31 ?tmf30 KX G hmg rfl ?af5 ?lf5 ?cf5 ?kf5 ?af6 ?lf6 ?cf6 ?kf6 ?af7 ?lf7 ?cf7 ?kf7 ?af8 ?lf8 ?cf8 ?kf8 ?af9 ?lf9 ?cf9 ?kf9 ?af10 ?lf10 ?cf10 ?kf10 ?af11 ?lf11 ?cf11 ?kf11 ?af12 ?lf12 ?cf12 ?kf12 ?af13 ?lf13 ?cf13 ?kf13 ?af14 ?lf14 ?cf14 ?kf14 ?af15 ?lf15 ?cf15 ?kf15 ?af16 ?lf16 ?cf16 ?kf16 ?af17 ?lf17 ?cf17 ?kf17 ?af18 ?lf18 ?cf18 ?kf18 ?af19 ?lf19 ?cf19 ?kf19 ?af20 ?lf20 ?cf20 ?kf20 ?af21 ?lf21 ?cf21 ?kf21 ?af22 ?lf22 ?cf22 ?kf22 ?af23 ?lf23 ?cf23 ?kf23 ?af24 ?lf24 ?cf24 ?kf24 ?af25 ?lf25 ?cf25 ?kf25 ?af26 ?lf26 ?cf26 ?kf26 ?af27 ?lf27 ?cf27 ?kf27 ?af28 ?lf28 ?cf28 ?kf28 ?af29 ?lf29 ?cf29 ?kf29 ?af30 ?lf30 ?cf30 ?kf30 ?hhf30 ?af31 ?lf31 ?cf31 ?kf31 ?hhf31 ?af32 ?lf32 ?cf32 ?kf32 ?af33 ?lf33 ?cf33 ?kf33 ?af34 ?lf34 ?cf34 ?kf34 ?af35 ?lf35 ?cf35 ?kf35 ?af36 ?lf36 ?cf36 ?kf36 ?uf36 ?af37 ?lf37 ?cf37 ?kf37 ?af38 ?lf38 ?cf38 ?kf38 ?af39 ?lf39 ?cf39 ?kf39 ?af40 ?lf40 ?cf40 ?kf40 ?af41 ?lf41 ?cf41 ?kf41 ?af42 ?lf42 ?cf42 ?kf42 ?aLw ?lLw ?cLw ?kLw ?z_abs ?z_all ?z_any ?z_dict ?z_int ?z_isinstance ?z_len ?z_list ?z_max ?z_min ?z_range ?z_repr ?z_set ?z_sorted ?z_str ?z_tuple ?z_zip ?g_CAPITALS ?g_DIGITS ?g_LETTERS ?i_str_0 ?i_str_1 ?i_str_2 ?i_str_3 ?i_str_4 ?i_str_5
    (case tmf31 => exact List.mem_cons_self)
    (case tmf30 => exact (List.mem_cons_of_mem _ List.mem_cons_self))
    (case g_CAPITALS => k_is)
    (case g_DIGITS => k_is)
    (case g_LETTERS => k_is)
    (case af5 => k_is)
    (case af6 => k_is)
    (case af7 => k_is)
    (case af8 => k_is)
    (case af9 => k_is)
    (case af10 => k_is)
    (case af11 => k_is)
    (case af12 => k_is)
    (case af13 => k_is)
    (case af14 => k_is)
    (case af15 => k_is)
    (case af16 => k_is)
    (case af17 => k_is)
    (case af18 => k_is)
    (case af19 => k_is)
    (case af20 => k_is)
    (case af21 => k_is)
    (case af22 => k_is)
    (case af23 => k_is)
    (case af24 => k_is)
    (case af25 => k_is)
    (case af26 => k_is)
    (case af27 => k_is)
    (case af28 => k_is)
    (case af29 => k_is)
    (case af30 => k_is)
    (case af31 => k_is)
    (case af32 => k_is)
    (case af33 => k_is)
    (case af34 => k_is)
    (case af35 => k_is)
    (case af36 => k_is)
    (case af37 => k_is)
    (case af38 => k_is)
    (case af39 => k_is)
    (case af40 => k_is)
    (case af41 => k_is)
    (case af42 => k_is)
    (case aLw => k_is)
    (case lf5 => k_is)
    (case lf6 => k_is)
    (case lf7 => k_is)
    (case lf8 => k_is)
    (case lf9 => k_is)
    (case lf10 => k_is)
    (case lf11 => k_is)
    (case lf12 => k_is)
    (case lf13 => k_is)
    (case lf14 => k_is)
    (case lf15 => k_is)
    (case lf16 => k_is)
    (case lf17 => k_is)
    (case lf18 => k_is)
    (case lf19 => k_is)
    (case lf20 => k_is)
    (case lf21 => k_is)
    (case lf22 => k_is)
    (case lf23 => k_is)
    (case lf24 => k_is)
    (case lf25 => k_is)
    (case lf26 => k_is)
    (case lf27 => k_is)
    (case lf28 => k_is)
    (case lf29 => k_is)
    (case lf30 => k_is)
    (case lf31 => k_is)
    (case lf32 => k_is)
    (case lf33 => k_is)
    (case lf34 => k_is)
    (case lf35 => k_is)
    (case lf36 => k_is)
    (case lf37 => k_is)
    (case lf38 => k_is)
    (case lf39 => k_is)
    (case lf40 => k_is)
    (case lf41 => k_is)
    (case lf42 => k_is)
    (case lLw => k_is)
    (case cf5 => k_is)
    (case kf5 => k_is)
    (case cf6 => k_is)
    (case kf6 => k_is)
    (case cf7 => k_is)
    (case kf7 => k_is)
    (case cf8 => k_is)
    (case kf8 => k_is)
    (case cf9 => k_is)
    (case kf9 => k_is)
    (case cf10 => k_is)
    (case kf10 => k_is)
    (case cf11 => k_is)
    (case kf11 => k_is)
    (case cf12 => k_is)
    (case kf12 => k_is)
    (case cf13 => k_is)
    (case kf13 => k_is)
    (case cf14 => k_is)
    (case kf14 => k_is)
    (case cf15 => k_is)
    (case kf15 => k_is)
    (case cf16 => k_is)
    (case kf16 => k_is)
    (case cf17 => k_is)
    (case kf17 => k_is)
    (case cf18 => k_is)
    (case kf18 => k_is)
    (case cf19 => k_is)
    (case kf19 => k_is)
    (case cf20 => k_is)
    (case kf20 => k_is)
    (case cf21 => k_is)
    (case kf21 => k_is)
    (case cf22 => k_is)
    (case kf22 => k_is)
    (case cf23 => k_is)
    (case kf23 => k_is)
    (case cf24 => k_is)
    (case kf24 => k_is)
    (case cf25 => k_is)
    (case kf25 => k_is)
    (case cf26 => k_is)
    (case kf26 => k_is)
    (case cf27 => k_is)
    (case kf27 => k_is)
    (case cf28 => k_is)
    (case kf28 => k_is)
    (case cf29 => k_is)
    (case kf29 => k_is)
    (case cf30 => k_is)
    (case kf30 => k_is)
    (case hhf30 => kernel_rfl)
    (case cf31 => k_is)
    (case kf31 => k_is)
    (case hhf31 => kernel_rfl)
    (case cf32 => k_is)
    (case kf32 => k_is)
    (case cf33 => k_is)
    (case kf33 => k_is)
    (case cf34 => k_is)
    (case kf34 => k_is)
    (case cf35 => k_is)
    (case kf35 => k_is)
    (case cf36 => k_is)
    (case kf36 => k_is)
    (case uf36 => k_is)
    (case cf37 => k_is)
    (case kf37 => k_is)
    (case cf38 => k_is)
    (case kf38 => k_is)
    (case cf39 => k_is)
    (case kf39 => k_is)
    (case cf40 => k_is)
    (case kf40 => k_is)
    (case cf41 => k_is)
    (case kf41 => k_is)
    (case cf42 => k_is)
    (case kf42 => k_is)
    (case cLw => k_is)
    (case kLw => k_is)
    (case z_abs => k_is)
    (case z_all => k_is)
    (case z_any => k_is)
    (case z_dict => k_is)
    (case z_int => k_is)
    (case z_isinstance => k_is)
    (case z_len => k_is)
    (case z_list => k_is)
    (case z_max => k_is)
    (case z_min => k_is)
    (case z_range => k_is)
    (case z_repr => k_is)
    (case z_set => k_is)
    (case z_sorted => k_is)
    (case z_str => k_is)
    (case z_tuple => k_is)
    (case z_zip => k_is)
    (case i_str_0 => kit_is)
    (case i_str_1 => kit_is)
    (case i_str_2 => kit_is)
    (case i_str_3 => kit_is)
    (case i_str_4 => kit_is)
    (case i_str_5 => kit_is)
    all_goals exact Value.none
