import PyProof.Rows.All
import Wide.All
import OpenK.AllK
import Wide.FinOn
import HandS.ForMost
import HandS.Conv
import HandS.DictTup
import HandS.TupLen
import HandS.Walk
import KE.SortData
import KE.DataCmp
import KE.GoesMore
import KE.GoesEnum
import HandS.OwnEq
import HandS.DictEq
import HandS.SlotsOwn
import PyProof.InstNe
import PyProof.DictMoreH
import HandS.Zip
import HandS.TupAny
import HandS.IsInst
import HandS.Deep
import HandS.Steps
import HandS.Lambda
import HandS.TupMul
import HandS.ForExc
import KE.DataMinMax
import HandS.SetFor
import KE.KDictSum
import HandS.Style
import HandS.Text
import HandS.SortKw
import PyProof.ReprRoads
import PyProof.ReprLen
import HandS.WordsExc
import HandS.TryMany
import HandS.EndTab
import HandS.Defaults
import HandS.Flow
import HandS.TupSets
import KE.GoesRaise
import KE.Datum
import PySem.Challenge.RW_hingemount_k11_albums_refused
set_option Elab.async false
set_option maxRecDepth 100000
set_option maxHeartbeats 4000000
namespace HmS
open PySem PySem.Spec PyProof.Rows L2
/-! ### keys as data -/
def kD : Key → PyData
  | .inl i => .int i
  | .inr x => .str x
def keyD (k : List Key) : PyData := .tuple (k.map kD)
section
variable {X : Cx} {pins : List (Addr × Obj)} {σ : L2.St} {H : Hp} {s : Shared}
theorem key_atoms : ∀ {k : List Key} {us : List Value}, Vals (k.map kV) us → ReadsAll s.heap us (k.map kD) []
  | [], _, .nil => .nil
  | x :: k, _, .cons (b := u) r t => by
    have ih := key_atoms (k := k) t
    cases x with
    | inl i =>
      obtain ⟨tk, rfl⟩ := r
      exact ReadsAll.cons (Reads.int i tk) ih
    | inr z =>
      obtain ⟨tk, rfl⟩ := r
      exact ReadsAll.cons (Reads.str z tk) ih
theorem key_reads (I : Inv X pins σ H s) {b : Addr} {k : List Key} (e : H b = some (.tup (k.map kV))) : Reads s.heap (.ref b) (keyD k) [] := by
  obtain ⟨_, its, rv, o, ho, hc, n, hd⟩ := (show ObjOk X.prog X.w H s.heap b (.tup (k.map kV)) from I.hok b _ e)
  exact Reads.tuple ho hc hd (by simpa using key_atoms rv)
theorem each_of {α β : Type} {R : α → β → Prop} (f : β → α) : ∀ (zs : List β), (∀ z ∈ zs, R (f z) z) → PySem.W.EachIs R (zs.map f) zs
  | [], _ => .nil
  | z :: zs, h => .cons (h z List.mem_cons_self) (each_of f zs fun y hy => h y (List.mem_cons_of_mem _ hy))
theorem each_eq {α β : Type} {f : β → α} : ∀ {as : List α} {zs : List β}, PySem.W.EachIs (fun v z => v = f z) as zs → as = zs.map f
  | _, _, .nil => rfl
  | _, _, .cons h t => by rw [List.map_cons, ← each_eq t, h]
/-- sorted(d), d a dict with tuple keys: the key tuples, rising -/
def rSortDT : List V → Hp → VK → Prop := fun xs H Q => ∃ (a : Addr) (kvs : List (List Key × V)), xs = [.ref a] ∧ Rd H a (.dT kvs) ∧ kvs.length ≤ 1000 ∧ PySem.W.AllAlike (kvs.map fun p => keyD p.1) ∧ (∀ p ∈ kvs, p.1 ≠ []) ∧
  ∀ (p : Addr) (bs : List Addr), H p = none → IsKeys H kvs bs → (kvs.map (·.1)).Nodup →
    Q (.ref p) (upd H p (.lst (((bs.zip kvs).mergeSort (PySem.W.dataLe false fun z => keyD z.2.1)).map fun z => V.ref z.1)))
theorem keyD_depth (k : List Key) : (keyD k).depth ≤ 1 := by
  have h : ∀ k : List Key, PyData.depthAll (k.map kD) = 0 := by
    intro k
    induction k with
    | nil => simp [PyData.depthAll]
    | cons x k ih =>
      cases x with
      | inl i => simp [kD, PyData.depthAll, PyData.depth, ih]
      | inr z => simp [kD, PyData.depthAll, PyData.depth, ih]
  unfold keyD
  rw [PyData.depth, h]
  exact Nat.le_refl _
theorem cr_sortDT (hc : X.calm = true) (hu : X.A.units + 64 < cLine) : CallR X (.builtin "sorted") rSortDT := by
  intro pins s σ H xs us Q I r h
  obtain ⟨d, kvs, rfl, hd, hz, hal, hne, q⟩ := h
  obtain ⟨u, rfl, rx⟩ := r.one
  cases rx
  obtain ⟨z, hs, ks, pr, o, es, ep, ho, hx, hdt, he, hn⟩ := (show ObjOk X.prog X.w H s.heap d (.dT kvs) from hd.ok I.hok)
  have l1 : es.size = ks.length := size_of_entries he
  have l2 : kvs.length = ks.length := Paired.length pr
  have hsl := sizeLine_eq
  refine Calls.call_function_entry PyProof.Rows.kind_sorted PyProof.Rows.plain_sorted PyProof.Rows.entry_sorted (PyProof.Rows.args_sorted1 _) ?_
  unfold Builtin.«sorted»
  refine wpAny_bind (m := checkCount "sorted" 1 1 _) (wpAny_pure ?_)
  refine wpAny_bind (PySem.W.kdu_collect (A := X.A.in1) (kdl_raw hs hx hdt) (I.ok.hd hc) ho (by omega) fun h' tk acc kp it => ?_)
  have ea : acc.toList = (ks.map fun x => x.2.1).map Value.ref := by
    have hl : acc.toList.length = ks.length := by
      rw [Array.length_toList, it.1]
      exact l1
    apply List.ext_getElem?
    intro j
    rw [List.getElem?_map, List.getElem?_map]
    cases hj : acc.toList[j]? with
    | none =>
      have h1 := List.getElem?_eq_none_iff.mp hj
      rw [List.getElem?_eq_none (by omega)]
      rfl
    | some v =>
      obtain ⟨en, hen, hv⟩ := it.2 j v (by rw [← Array.getElem?_toList]; exact hj)
      have qe := entry_at he j
      rw [hen] at qe
      cases hb : ks[j]? with
      | none =>
        rw [hb] at qe
        exact nomatch (show some en = none from qe)
      | some b =>
        rw [hb] at qe
        have e2 : en = entryOfKey (tupleKind (mixKind X.prog X.w)) b := Option.some.inj qe
        rw [hv, e2]
        rfl
  generalize hbs : ks.map (fun x => x.2.1) = bs at ea
  have hik : IsKeys H kvs bs := by
    rw [← hbs]
    exact isKeys_of pr
  have lb : bs.length = kvs.length := by rw [← hbs, List.length_map, l2]
  have nk : (kvs.map (·.1)).Nodup := by
    have e : ∀ {kvs : List (List Key × V)} {ks : List (List Key × Addr × Value)}, Paired (fun (p : List Key × V) (q : List Key × Addr × Value) => p.1 = q.1 ∧ H q.2.1 = some (.tup (p.1.map kV)) ∧ RelV p.2 q.2.2) kvs ks → kvs.map (·.1) = ks.map (·.1) := by
      intro kvs ks r
      induction r with
      | nil => rfl
      | cons h t ih => rw [List.map_cons, List.map_cons, ih, h.1]
    rw [e pr]
    exact hn
  have hz2 : ((bs.zip kvs).map fun z => Value.ref z.1) = acc.toList := by
    rw [ea, show (fun z : Addr × List Key × V => Value.ref z.1) = Value.ref ∘ Prod.fst from rfl, ← List.map_map, List.map_fst_zip (by omega)]
  have I1 : Inv X pins σ H { s with heap := h', toks := tk } := I.kept kp
  have lz : (bs.zip kvs).length = kvs.length := by rw [List.length_zip]; omega
  refine wpAny_bind (wpAny_newList ?_ (by rw [← hz2, List.length_map, lz]; omega))
  have hoL : (h'.push (seqObj "list" acc.toList.toArray 0)).get? h'.objs.size = some (seqObj "list" acc.toList.toArray 0) := Heap.get?_push_size _ rfl
  show wpAny (model X.prog X.w) X.A.in1 _ _ _ { s with heap := h'.push (seqObj "list" acc.toList.toArray 0), toks := tk }
  have inz : ∀ z ∈ bs.zip kvs, H z.1 = some (.tup (z.2.1.map kV)) := by
    have e : ∀ {kvs : List (List Key × V)} {bs : List Addr}, IsKeys H kvs bs → ∀ z ∈ bs.zip kvs, H z.1 = some (.tup (z.2.1.map kV)) := by
      intro kvs bs r
      unfold IsKeys at r
      induction r with
      | nil => intro z hz; simp at hz
      | cons h t ih =>
        intro z hz
        rw [List.zip_cons_cons] at hz
        rcases List.mem_cons.mp hz with rfl | hz
        · exact h
        · exact ih z hz
    exact e hik
  have inz2 : ∀ z ∈ bs.zip kvs, z.2 ∈ kvs := fun z hz => (List.of_mem_zip hz).2
  rw [← hz2]
  rw [← hz2] at hoL
  refine wpAny_bind (wpAny_holding (PySem.W.list_sort_data (bs := bs.zip kvs) (enc := fun z => keyD z.2.1) (R := fun v z => v = Value.ref z.1) (s := { s with heap := h'.push (seqObj "list" ((bs.zip kvs).map fun z => Value.ref z.1).toArray 0), toks := tk }) hoL
    (each_of _ _ fun _ _ => rfl) (each_of _ _ fun z hz => ⟨[], PyProof.Rows.Reads.keeps (fun b o e => Heap.get?_push_of_some _ e) (key_reads I1 (inz z hz)), by simp⟩) ?_ ?_ (by rw [lz]; omega) (fun z _ => ?_) fun out ol eo => ?_))
  · intro x hx y hy
    obtain ⟨z1, m1, rfl⟩ := List.mem_map.mp hx
    obtain ⟨z2, m2, rfl⟩ := List.mem_map.mp hy
    exact hal _ (List.mem_map.mpr ⟨z1.2, inz2 _ m1, rfl⟩) _ (List.mem_map.mpr ⟨z2.2, inz2 _ m2, rfl⟩)
  · refine .inl fun x hx => ?_
    obtain ⟨z, m, rfl⟩ := List.mem_map.mp hx
    have nz := hne _ (inz2 _ m)
    cases e : z.2.1 with
    | nil => exact absurd e nz
    | cons k r => exact ⟨kD k, r.map kD, by simp [keyD]⟩
  · have := keyD_depth z.2.1
    show X.A.units + 1 + 1 + (keyD z.2.1).depth < cLine
    omega
  · have eout := each_eq (f := fun z : Addr × List Key × V => Value.ref z.1) eo
    obtain ⟨e', he'⟩ := PyProof.Rows.sortedHeap_at (vs := (bs.zip kvs).map fun z => Value.ref z.1) (out := out.toArray) hoL
    have hperm := List.mergeSort_perm (bs.zip kvs) (PySem.W.dataLe false fun z => keyD z.2.1)
    have hlen : (((bs.zip kvs).mergeSort (PySem.W.dataLe false fun z => keyD z.2.1)).map fun z => V.ref z.1).length ≤ sizeLine := by
      rw [List.length_map, hperm.length_eq, lz]
      omega
    have rv : Vals (((bs.zip kvs).mergeSort (PySem.W.dataLe false fun z => keyD z.2.1)).map fun z => V.ref z.1) out := by
      rw [eout]
      have e : ∀ l : List (Addr × List Key × V), Vals (l.map fun z => V.ref z.1) (l.map fun z => Value.ref z.1) := by
        intro l
        induction l with
        | nil => exact .nil
        | cons z l ih => exact .cons rfl ih
      exact e _
    refine wpAny_pure ⟨_, rfl, .ref h'.objs.size, upd H h'.objs.size (.lst (((bs.zip kvs).mergeSort (PySem.W.dataLe false fun z => keyD z.2.1)).map fun z => V.ref z.1)), I1.laid (t' := tk) (fun b u e => ?_) (Nat.le_refl _)
      (show ObjOk X.prog X.w _ _ _ (.lst _) from ⟨hlen, out, e', rv, by simpa using he'⟩), rfl, q _ bs (I1.hok.fresh (Nat.le_refl _)) hik nk⟩
    have hb : b < h'.objs.size := Heap.lt_size e
    rw [PyProof.Rows.sortedHeap_old (Nat.ne_of_lt hb) (by rw [size_push']; exact Nat.lt_succ_of_lt hb)]
    exact Heap.get?_push_of_some _ e
/-- sorted(d.items()), d a dict with tuple keys and ints: the pairs, rising -/
def encC (c : List Key × Int) : PyData := .tuple [keyD c.1, .int c.2]
def sortC (cs : List (List Key × Int)) : List (List Key × Int) := cs.mergeSort (PySem.W.dataLe false encC)
def rSortIC : List V → Hp → VK → Prop := fun xs H Q => ∃ (v a : Addr) (cs : List (List Key × Int)), xs = [.ref v] ∧ H v = some (DX.itemsO v a) ∧ H a = some (.dT (cs.map fun c => (c.1, V.int c.2))) ∧ cs.length ≤ 1000 ∧
  PySem.W.AllAlike (cs.map encC) ∧ (∀ c ∈ cs, c.1 ≠ []) ∧ ∀ (l : Addr) (H' : Hp) (as : List Addr), Same H H' → H l = none → (cs.map (·.1)).Nodup → H' l = some (.lst (as.map V.ref)) →
    Paired (fun b (c : List Key × Int) => ∃ q, H' b = some (.tup [.ref q, .int c.2]) ∧ H' q = some (.tup (c.1.map kV))) as (sortC cs) → Q (.ref l) H'
theorem encC_depth (c : List Key × Int) : (encC c).depth ≤ 2 := by
  have h := keyD_depth c.1
  unfold encC
  simp only [PyData.depth, PyData.depthAll]
  omega
theorem paired_map {α β γ : Type} {F : γ → β → Prop} (f : α → γ) (g : α → β) : ∀ (zs : List α), (∀ z ∈ zs, F (f z) (g z)) → Paired F (zs.map f) (zs.map g)
  | [], _ => .nil
  | z :: zs, h => .cons (h z List.mem_cons_self) (paired_map f g zs fun y hy => h y (List.mem_cons_of_mem _ hy))
theorem cr_sortIC (hc : X.calm = true) (hu : X.A.units + 64 < cLine) : CallR X (.builtin "sorted") rSortIC := by
  intro pins s σ H xs us Q I r h
  obtain ⟨v, a, cs, rfl, hv, ha, hz, hal, hne, q⟩ := h
  obtain rfl := Vals.ref1 r
  have hsl := sizeLine_eq
  have view : s.heap.IsItemsView v a := (show ObjOk X.prog X.w H s.heap v (DX.itemsO v a) from I.hok v _ hv).1
  obtain ⟨_, hd, ks, rel, o, es, ep, ho, hx, hdat, hes, _, hn⟩ := dt_of I.hok ha
  have l1 : cs.length = ks.length := by
    have e := Paired.length rel
    rw [List.length_map] at e
    exact e
  have l2 : es.size = ks.length := size_of_entries hes
  have nk : (cs.map (·.1)).Nodup := by
    have e : ∀ {cs : List (List Key × Int)} {ks : List (List Key × Addr × Value)}, Paired (fun (p : List Key × V) (q : List Key × Addr × Value) => p.1 = q.1 ∧ H q.2.1 = some (.tup (p.1.map kV)) ∧ RelV p.2 q.2.2) (cs.map fun c => (c.1, V.int c.2)) ks → cs.map (·.1) = ks.map (·.1) := by
      intro cs
      induction cs with
      | nil => intro ks r; cases r; rfl
      | cons c cs ih =>
        intro ks r
        cases r with
        | cons h t => rw [List.map_cons, List.map_cons, ih t, h.1]
    rw [e rel]
    exact hn
  refine DT.sortedI (es := es) (ep := ep) (I.ok.hd hc) view ⟨o, ho, hx, hdat⟩ (by omega) fun h' tk as hk hlt hl hG => ?_
  have la : as.length = cs.length := by omega
  have nd : as.Nodup := List.Pairwise.imp (fun h => Nat.ne_of_lt h) hG.rise
  -- the new pairs, with what they hold
  let bs : List (Addr × Addr × (List Key × Int)) := as.zip ((ks.map fun x => x.2.1).zip cs)
  have lz : ((ks.map fun x => x.2.1).zip cs).length = cs.length := by rw [List.length_zip, List.length_map]; omega
  have lb : bs.length = cs.length := by
    show (as.zip _).length = _
    rw [List.length_zip]
    omega
  have bsA : bs.map (·.1) = as := List.map_fst_zip (by omega)
  have bsC : bs.map (·.2.2) = cs := by
    have e : bs.map (·.2.2) = (bs.map (·.2)).map (·.2) := by rw [List.map_map]; rfl
    rw [e, show bs.map (·.2) = (ks.map fun x => x.2.1).zip cs from List.map_snd_zip (by omega), List.map_snd_zip (by rw [List.length_map]; omega)]
  have I1 : Inv X pins σ H { s with heap := h', toks := tk } := I.kept hk
  have facts : ∀ z ∈ bs, H z.2.1 = some (.tup (z.2.2.1.map kV)) ∧ ∃ t, h'.get? z.1 = some { cls := .type "tuple", data := .seq #[Value.ref z.2.1, Value.int z.2.2.2 t] } := by
    intro z hzm
    obtain ⟨j, hj⟩ := List.mem_iff_getElem?.mp hzm
    obtain ⟨j1, j2⟩ := List.getElem?_zip_eq_some.mp hj
    obtain ⟨j3, j4⟩ := List.getElem?_zip_eq_some.mp j2
    obtain ⟨en, he, hg⟩ := hG.pairs j z.1 j1
    rw [entry_at hes j] at he
    rw [List.getElem?_map] at j3
    cases hxj : ks[j]? with
    | none =>
      rw [hxj] at j3
      cases j3
    | some x =>
      rw [hxj] at he j3
      have een : entryOfKey (tupleKind (mixKind X.prog X.w)) x = en := Option.some.inj he
      have ex : x.2.1 = z.2.1 := Option.some.inj j3
      obtain ⟨e0, he0, _, r2, r3⟩ := DX.pget rel hxj
      rw [List.getElem?_map, j4] at he0
      have ee : (z.2.2.1, V.int z.2.2.2) = e0 := Option.some.inj he0
      rw [← ee] at r2 r3
      obtain ⟨t, r3'⟩ := r3
      refine ⟨by rw [← ex]; exact r2, t, ?_⟩
      rw [hg, ← een, ← ex, ← r3']
      rfl
  have hob : (h'.push (seqObj "list" (as.map Value.ref).toArray 0)).get? h'.objs.size = some (seqObj "list" (as.map Value.ref).toArray 0) := Heap.get?_push_size _ rfl
  have eAs : as.map Value.ref = bs.map fun z => Value.ref z.1 := by rw [← bsA, List.map_map]; rfl
  show wpAny (model X.prog X.w) X.A.in1 (call (.builtin "list.sort") [.ref h'.objs.size]) _ _ { s with heap := h'.push (seqObj "list" (as.map Value.ref).toArray 0), toks := tk }
  rw [eAs] at hob ⊢
  have kb : ∀ b o, h'.get? b = some o → (h'.push (seqObj "list" (bs.map fun z => Value.ref z.1).toArray 0)).get? b = some o := fun b o e => Heap.get?_push_of_some _ e
  refine PySem.W.list_sort_data (bs := bs) (enc := fun z => encC z.2.2) (R := fun v z => v = Value.ref z.1) (s := { s with heap := h'.push (seqObj "list" (bs.map fun z => Value.ref z.1).toArray 0), toks := tk }) hob
    (each_of _ _ fun _ _ => rfl) (each_of _ _ fun z hzm => ?_) ?_ (.inl fun x hx => ?_) (by omega) (fun z _ => ?_) fun out ol eo => ?_
  · obtain ⟨f1, t, f2⟩ := facts z hzm
    refine ⟨[], PyProof.Rows.Reads.keeps kb (Reads.tuple (as := []) f2 rfl rfl ?_), by simp⟩
    exact ReadsAll.cons (as := []) (bs := []) (key_reads I1 f1) (ReadsAll.cons (as := []) (bs := []) (Reads.int _ t) ReadsAll.nil)
  · intro x hx y hy
    have e : bs.map (fun z => encC z.2.2) = cs.map encC := by rw [← bsC, List.map_map]; rfl
    rw [e] at hx hy
    exact hal x hx y hy
  · obtain ⟨z, _, rfl⟩ := List.mem_map.mp hx
    exact ⟨_, _, rfl⟩
  · have := encC_depth z.2.2
    show X.A.units + 1 + 1 + (encC z.2.2).depth < cLine
    omega
  · have eout := each_eq (f := fun z : Addr × Addr × (List Key × Int) => Value.ref z.1) eo
    obtain ⟨e', he'⟩ := PyProof.Rows.sortedHeap_at (vs := bs.map fun z => Value.ref z.1) (out := out.toArray) hob
    generalize hzs : bs.mergeSort (PySem.W.dataLe false fun z => encC z.2.2) = zs at eout
    have hperm : zs.Perm bs := by rw [← hzs]; exact List.mergeSort_perm _ _
    have srt : zs.map (·.2.2) = sortC cs := by
      rw [← hzs, PySem.W.sort_maps (r := PySem.W.dataLe false fun z : Addr × Addr × (List Key × Int) => encC z.2.2) (s := PySem.W.dataLe false encC) (fun z : Addr × Addr × (List Key × Int) => z.2.2) (fun a _ b _ => rfl), bsC]
      rfl
    have hlen : ((zs.map (·.1)).map V.ref).length ≤ sizeLine := by
      rw [List.length_map, List.length_map, hperm.length_eq]
      omega
    have ne0 : ∀ b o, h'.get? b = some o → b ≠ h'.objs.size := fun b o e => Nat.ne_of_lt (Heap.lt_size e)
    have kF : ∀ b o, h'.get? b = some o → (sortedHeap (h'.push (seqObj "list" (bs.map fun z => Value.ref z.1).toArray 0)) h'.objs.size (bs.map fun z => Value.ref z.1) out.toArray).get? b = some o := fun b o e => by
      rw [PyProof.Rows.sortedHeap_old (ne0 b o e) (by rw [size_push']; exact Nat.lt_succ_of_lt (Heap.lt_size e))]
      exact kb b o e
    have rv : Vals ((zs.map (·.1)).map V.ref) out := by
      rw [eout]
      have e : ∀ l : List (Addr × Addr × (List Key × Int)), Vals ((l.map (·.1)).map V.ref) (l.map fun z => Value.ref z.1) := by
        intro l
        induction l with
        | nil => exact .nil
        | cons z l ih => exact .cons rfl ih
      exact e _
    have J1 : Inv X pins σ H { s with heap := sortedHeap (h'.push (seqObj "list" (bs.map fun z => Value.ref z.1).toArray 0)) h'.objs.size (bs.map fun z => Value.ref z.1) out.toArray, toks := tk } := I1.kept (t' := tk) kF
    have hn0 : H h'.objs.size = none := I1.hok.fresh (Nat.le_refl _)
    have J2 : Inv X pins σ (upd H h'.objs.size (.lst ((zs.map (·.1)).map V.ref))) { s with heap := sortedHeap (h'.push (seqObj "list" (bs.map fun z => Value.ref z.1).toArray 0)) h'.objs.size (bs.map fun z => Value.ref z.1) out.toArray, toks := tk } :=
      J1.take (t' := tk) (fun b ob _ e => e) (I.fpOk (Nat.le_of_lt hlt) hn0) ⟨hlen, out, e', rv, by simpa using he'⟩
    obtain ⟨H2, J3, g, qt⟩ := DX.takeT (P := fun b vs => ∃ z ∈ bs, z.1 = b ∧ vs = [V.ref z.2.1, V.int z.2.2.2]) I as _ J2 nd fun b hb => by
      rw [← bsA] at hb
      obtain ⟨z, hzm, rfl⟩ := List.mem_map.mp hb
      obtain ⟨f1, t, f2⟩ := facts z hzm
      have hbl : s.heap.objs.size ≤ z.1 := Nat.le_of_lt (hG.above z.1 (by rw [← bsA]; exact List.mem_map.mpr ⟨z, hzm, rfl⟩))
      refine ⟨hbl, ?_, _, ⟨z, hzm, rfl, rfl⟩, fun H3 => ⟨(by show 2 ≤ sizeLine; decide), [Value.ref z.2.1, Value.int z.2.2.2 t], .cons rfl (.cons ⟨t, rfl⟩ .nil), ⟨_, kF _ _ f2, rfl, 0, rfl⟩⟩⟩
      rw [upd_ne (ne0 _ _ f2)]
      exact I.hok.fresh hbl
    have gr : Same H H2 := fun b o e => g b o (by rw [upd_ne (ne_of_none e hn0)]; exact e)
    refine ⟨.ref h'.objs.size, H2, J3, rfl, q h'.objs.size H2 (zs.map (·.1)) gr hn0 nk (g _ _ upd_same) ?_⟩
    rw [← srt]
    refine paired_map (F := fun b (c : List Key × Int) => ∃ q, H2 b = some (.tup [.ref q, .int c.2]) ∧ H2 q = some (.tup (c.1.map kV))) (fun z : Addr × Addr × (List Key × Int) => z.1) (fun z => z.2.2) zs fun z hzm => ?_
    have hzb := hperm.mem_iff.mp hzm
    obtain ⟨vs, ⟨z2, hz2, e1, e2⟩, hH⟩ := qt z.1 (by rw [← bsA]; exact List.mem_map.mpr ⟨z, hzb, rfl⟩)
    have ez : z2 = z := by
      obtain ⟨i, hi⟩ := List.mem_iff_getElem?.mp hz2
      obtain ⟨j, hj⟩ := List.mem_iff_getElem?.mp hzb
      have i1 : as[i]? = some z.1 := by rw [← bsA, List.getElem?_map, hi, ← e1]; rfl
      have j1 : as[j]? = some z.1 := by rw [← bsA, List.getElem?_map, hj]; rfl
      have eij : i = j := (List.getElem?_inj (List.getElem?_eq_some_iff.mp i1).1 nd).mp (i1.trans j1.symm)
      rw [eij, hj] at hi
      exact (Option.some.inj hi).symm
    rw [ez] at e2
    rw [e2] at hH
    exact ⟨z.2.1, hH, gr _ _ (facts z hzb).1⟩
end
end HmS

set_option Elab.async false
set_option maxRecDepth 100000
set_option maxHeartbeats 4000000
namespace HmS
open PySem PySem.Spec PyProof.Rows L2
open AutoSeq1 (wpAny_loadPart')
/-! ### enumerate(t), t a tuple -/
abbrev tupIt (l : Addr) : Obj := { cls := .type "tuple_iterator", data := .fields #[.ref l, .int 0 0] }
abbrev enumOf (it : Addr) : Obj := { cls := .type "enumerate", data := .fields #[.none, .bool false, .ref it, rawInt 0, .none, .none] }
theorem meets_enumT (l : Addr) (items : Array Value) : Meets (Builtin.«enumerate.__new__» ⟨[.type "enumerate", .ref l], []⟩)
    (fun _ R s => s.heap.IsTuple l items ∧ R (.ok (.ret (.ref (s.heap.push (tupIt l)).objs.size))) { s with heap := (s.heap.push (tupIt l)).push (enumOf s.heap.objs.size) }) :=
  .of_wp fun prog w A R s h => by
    obtain ⟨hp, g, d, tk, os⟩ := s
    obtain ⟨h1, h⟩ := h
    have sub := sub_enumerate
    have q1 : ∀ {A' : Around} {E : Value → Shared → Prop} {Q : Value → Shared → Prop}, Q (.ref hp.objs.size) ⟨hp.push (tupIt l), g, d, tk, os⟩ → wpAny (model prog w) A' (pyIter (.ref l)) Q E ⟨hp, g, d, tk, os⟩ :=
      fun q => (begins_tuple l items).iter prog w _ _ ⟨hp, g, d, tk, os⟩ _ h1 q
    wp_walk using q1
    refine wpAny_stack_any fun st => wpAny_pure ?_
    split
    · rename_i c _ _ _ _ _
      cases (c == Value.type "enumerate") <;> (wp_walk using q1; exact ⟨_, rfl, h⟩)
    · wp_walk using q1
      exact ⟨_, rfl, h⟩
theorem call_enumT {prog : Program} {w : World} {A : Around} {E : Value → Shared → Prop} {s : Shared} {l : Addr} {items : Array Value} {Q : Value → Shared → Prop} (hL : s.heap.IsTuple l items)
    (h : ∀ h', IsEnum h' (s.heap.objs.size + 1) s.heap.objs.size 0 .none → h'.IsTupleIter s.heap.objs.size l 0 → (∀ b o, s.heap.get? b = some o → h'.get? b = some o) → Q (.ref (s.heap.objs.size + 1)) { s with heap := h' }) :
    wpAny (model prog w) A (call (.type "enumerate") [.ref l]) Q E s := by
  refine callType_new F.called_enumerate (by decide) (F.typeCall_enumerate_1 _) (F.newCall_enumerate_1 _) (fun obj => F.args_object_init_2 obj _) F.entry_enumerate_new (meets_enumT l items) ⟨hL, ?_⟩
  have hz : (s.heap.push (tupIt l)).objs.size = s.heap.objs.size + 1 := Heap.size_push ..
  show _ ∧ _
  rw [hz]
  have he : ((s.heap.push (tupIt l)).push (enumOf s.heap.objs.size)).get? (s.heap.objs.size + 1) = some (enumOf s.heap.objs.size) := by
    rw [← hz]
    exact Heap.get?_push_size _ rfl
  exact ⟨⟨_, he, rfl⟩, h _ he ⟨_, Heap.get?_push_of_some _ (Heap.get?_push_size _ rfl), rfl, rfl⟩ fun b o x => Heap.get?_push_of_some _ (Heap.get?_push_of_some _ x)⟩
/-- the tuple at a, each item in a new pair with its place -/
def IteT (K : PySem.W.Frag) (a : Addr) : It :=
  ⟨fun i H => ∃ (xs : List V) (x : V), SqT K H a xs ∧ xs[i]? = some x, fun i H v H' => ∃ T x, v = .ref T ∧ H T = none ∧ H' = upd H T (.tup [.int (i : Nat), x]) ∧ ∀ xs, SqT K H a xs → xs[i]? = some x,
    fun i H => ∃ xs : List V, SqT K H a xs ∧ xs.length ≤ i⟩
theorem tup_ne {h : Heap} {a b : Addr} {items : Array Value} {o : Obj} {T : String} (p : h.IsTuple a items) (e : h.get? b = some o) (c : o.cls = .type T) (n : T ≠ "tuple") : a ≠ b := by
  rintro rfl
  obtain ⟨o', e', c', _⟩ := p
  rw [e] at e'
  cases e'
  rw [c] at c'
  injection c' with z
  exact n z
theorem turn_enumT {P : Program} {w : World} {K : PySem.W.Frag} {elts : List Expr} {kk : Nat} {tpos : Pos} (a e it : Addr) :
    Turn P w K (.Tuple elts kk tpos) (IteT K a) [e, it] e (fun i h => (∃ old, IsEnum h e it ((i : Nat) : Int) old) ∧ h.IsTupleIter it a i ∧ e ≠ it) where
  mem := by simp
  obj := fun i h st b hb => by
    obtain ⟨⟨old, he⟩, ⟨o, ho, hc, hd⟩, _⟩ := st
    rcases (show b = e ∨ b = it by simpa using hb) with z | z
    · rw [z]
      exact ⟨_, he, fun v q => nomatch q⟩
    · rw [z]
      exact ⟨o, ho, fun v q => by rw [hd] at q; cases q⟩
  keep := fun i h h' st k => by
    obtain ⟨⟨old, he⟩, hi, hne⟩ := st
    exact ⟨⟨old, k e (by simp) _ he⟩, hi.at fun o q => k it (by simp) o q, hne⟩
  item := by
    intro X hP hw hK hc i pins s σ H E I hf st hg
    subst hP hw hK
    obtain ⟨⟨old, he⟩, hit, hne⟩ := st
    obtain ⟨xs, x, hq, hx⟩ := hg
    obtain ⟨its, rv, p, hz⟩ := I.tuple hq
    have p' : s.heap.IsTuple a its.toArray := p
    obtain ⟨u, hu, ru⟩ := rv.get hx
    have nit : a ≠ it := by
      obtain ⟨o, ho, ch, _⟩ := id hit
      exact tup_ne p' ho ch (by decide)
    have nea : a ≠ e := tup_ne p' he rfl (by decide)
    have hel : e < s.heap.objs.size := Heap.lt_size he
    have hil : it < s.heap.objs.size := by
      obtain ⟨_, q, _⟩ := id hit
      exact Heap.lt_size q
    have hlt : i < its.toArray.size := by
      have := (List.getElem?_eq_some_iff.mp hu).1
      simpa using this
    refine wpAny_pyNext_enum_itemD (Draws.tuple (A := X.A.in1) (show X.A.in1.handled = none from I.ok.hd hc) it a nit its.toArray) he ⟨hit, p'⟩ hlt hne (by simp [hne, Ne.symm nea]) fun v h' tk hv ho hst hT hsz hk => ?_
    have evu : v = u := by
      have e1 : its[i]? = some v := by simpa using hv
      rw [hu] at e1
      exact (Option.some.inj e1).symm
    subst evu
    refine ⟨_, rfl, wpAny_letOwnedTupleGo_enum (s := { s with heap := h', toks := tk + 1 }) ho fun h2 he2 sb => ?_⟩
    have hT2 : h2.get? s.heap.objs.size = some { cls := .type "tuple", data := .seq #[.int i tk, v] } := (sb.2 _ (Nat.ne_of_gt hel)).trans hT
    have new : ObjOk X.prog X.w (upd H s.heap.objs.size (.tup [.int (i : Nat), x])) h2 s.heap.objs.size (.tup [.int (i : Nat), x]) :=
      ⟨by show 2 ≤ sizeLine; decide, [.int i tk, v], .cons ⟨_, rfl⟩ (.cons ru .nil), ⟨_, hT2, rfl, _, rfl⟩⟩
    have I1 : Inv X pins σ (upd H s.heap.objs.size (.tup [.int (i : Nat), x])) { s with heap := h2, toks := tk + 1 } :=
      I.turnedNew (ch := [e, it]) (fun b ob hb q => (sb.2 b (fun z => hb (by simp [z]))).trans (hk b ob (fun z => hb (by simp [z])) (fun z => hb (by simp [z])) q)) hf (Nat.le_refl _) new
    refine ⟨.ref s.heap.objs.size, _, I1, rfl, ⟨_, x, rfl, I.hok.fresh (Nat.le_refl _), rfl, fun ys hy => by rw [I.tuple_inj hy hq]; exact hx⟩, ⟨⟨v, ?_⟩, hst.1.at fun o q => (sb.2 it (Ne.symm hne)).trans q, hne⟩, fun b hb => ?_⟩
    · have e1 : ((i + 1 : Nat) : Int) = (i : Int) + 1 := by omega
      rw [e1]
      exact he2
    · have hb' : b < s.heap.objs.size := by
        rcases (show b = e ∨ b = it by simpa using hb) with z | z
        · rw [z]
          exact hel
        · rw [z]
          exact hil
      rw [upd_ne (Nat.ne_of_lt hb')]
      exact (hf b hb).1
  done := by
    intro X hP hw hK hc i pins s σ H E I hf st hg
    subst hP hw hK
    obtain ⟨⟨old, he⟩, hit, hne⟩ := st
    obtain ⟨xs, hq, hx⟩ := hg
    obtain ⟨its, rv, p, hz⟩ := I.tuple hq
    have p' : s.heap.IsTuple a its.toArray := p
    have nit : a ≠ it := by
      obtain ⟨o, ho, ch, _⟩ := id hit
      exact tup_ne p' ho ch (by decide)
    obtain ⟨f0, f1, f2, f3, f4, f5⟩ := hf it (by simp)
    have hl := rv.length
    have hdone : Draws X.prog X.w X.A.in1 it [it, a] i (fun _ _ => False) (fun j h => j = i ∧ h.IsTupleIter it a i ∧ h.IsTuple a its.toArray) := {
      live := fun _ _ st => let ⟨o, ho, _⟩ := st.2.1; ⟨o, ho⟩
      frame := fun _ _ _ st hk => ⟨st.1, st.2.1.at fun o e => hk it (by simp) o e, st.2.2.at fun o e => hk a (by simp) o e⟩
      item := fun j s Q E hj st _ => absurd hj (by rw [st.1]; exact Nat.lt_irrefl _)
      done := fun s Q E st hE => wpAny_nextOf_tuple_end (show X.A.in1.handled = none from I.ok.hd hc) st.2.1 st.2.2 (by simp; omega) hE }
    exact wpAny_pyNext_enum_endD hdone he ⟨rfl, hit, p'⟩ fun h' eb => ⟨rfl, I.turned (t' := s.toks) (fun b o hb q => eb b o hb q) f0 f1 f3 f4 f5⟩
  self := fun A i s Q E st h => let ⟨⟨_, he⟩, _⟩ := st; wpAny_pyIter_enum he h
def iEnumT (K : PySem.W.Frag) (ta : TA) : TI := fun σ H R => ta σ H fun vs H1 => ∃ a xs, vs = [.ref a] ∧ SqT K H1 a xs ∧ R (IteT K a) H1
theorem pi_enumT {X : Cx} {e : Expr} {ta : TA} {p pos tpos : Pos} {elts : List Expr} {kk : Nat} (hg : Gl X "enumerate") (hm : X.mg "enumerate" = none) (ha : PA X [e] ta) (hs : starEach [e] X.env = [(false, eval e X.env)] := by rfl) :
    PI X (.Tuple elts kk tpos) (.Call (.Name "enumerate" p) [e] [] pos) (iEnumT X.K ta) := by
  refine ⟨fun pins s σ H R I h => ?_⟩
  refine Call_ (ld_blt I hg hm boot_enumerate (PyProof.Rows.callWith_type1 (thn (ha.run pos pins s σ H _ I h) fun us s1 hq1 => ?_) hs rfl))
  obtain ⟨vs, H1, I1, r1, a, xs, rfl, hq, q⟩ := hq1
  cases r1 with
  | cons r rr =>
    cases rr
    cases r
    obtain ⟨its, rv, p', hz⟩ := I1.tuple hq
    refine call_enumT (show s1.heap.IsTuple a its.toArray from p') fun h' he hit hk => wpAny_pyIter_enum he ?_
    have I2 : Inv X pins σ H1 { s1 with heap := h' } := I1.kept (t' := s1.toks) hk
    refine ⟨s1.heap.objs.size + 1, [s1.heap.objs.size + 1, s1.heap.objs.size], _, _, H1, rfl, I2, turn_enumT a (s1.heap.objs.size + 1) s1.heap.objs.size, ⟨⟨.none, he⟩, hit, Nat.succ_ne_self _⟩, fun b hb => ?_, q⟩
    have hle : s1.heap.objs.size ≤ b := by
      rcases (show b = s1.heap.objs.size + 1 ∨ b = s1.heap.objs.size by simpa using hb) with z | z
      · rw [z]
        exact Nat.le_add_right _ _
      · rw [z]
        exact Nat.le_refl _
    exact I1.fpOk hle (I1.hok.fresh hle)
theorem walk_enumT {K : PySem.W.Frag} {a : Addr} {xs : List V} : Walk (IteT K a) xs.length (fun H => SqT K H a xs) (YPair (fun i => some (.int (i : Nat))) (fun i => xs[i]?)) where
  goes := fun i H hi h => ⟨xs, xs[i], h, by simp [hi]⟩
  stops := fun H h => ⟨xs, h, Nat.le_refl _⟩
  yields := fun i H x H' hi h y => by
    obtain ⟨T, z, e1, e2, e3, e4⟩ := y
    exact ⟨T, _, z, e1, e2, e3, rfl, e4 xs h⟩
end HmS

set_option Elab.async false
set_option linter.all false
set_option maxRecDepth 100000
set_option maxHeartbeats 4000000
namespace HmQ
open PySem PySem.Spec PyProof.Rows L2 PySem.W
section
variable {prog : Program} {w : World} {K : Type} [DecidableEq K] {knd : HeapKind prog w K} {A : Around} {E : Value → Shared → Prop} {s : Shared}
/-- how == of two dicts goes through the left one -/
inductive Hits {K : Type} [DecidableEq K] (prog : Program) (w : World) (A : Around) (s : Shared) (xb : List (K × Addr × Value)) : List (K × Addr × Value) → Bool → Prop
  | nil : Hits prog w A s xb [] true
  | miss {k : K} {b : Addr} {v : Value} {r : List (K × Addr × Value)} : atKey xb k = none → Hits prog w A s xb ((k, b, v) :: r) false
  | hit {k : K} {b : Addr} {v : Value} {p : Addr × Value} {r : List (K × Addr × Value)} {e t : Bool} : atKey xb k = some p → SeqAt.EqP prog w A s v p.2 e → Hits prog w A s xb r t → Hits prog w A s xb ((k, b, v) :: r) (e && t)
theorem Hits.inv {xb : List (K × Addr × Value)} {k : K} {b : Addr} {v : Value} {r : List (K × Addr × Value)} {t : Bool} (h : Hits prog w A s xb ((k, b, v) :: r) t) :
    (atKey xb k = none ∧ t = false) ∨ ∃ p e t', atKey xb k = some p ∧ SeqAt.EqP prog w A s v p.2 e ∧ Hits prog w A s xb r t' ∧ t = (e && t') := by
  cases h with
  | miss h => exact .inl ⟨h, rfl⟩
  | hit h1 h2 h3 => exact .inr ⟨_, _, _, h1, h2, h3, rfl⟩
theorem pairs_same {nm : String} {a b : Addr} {xa xb : List (K × Addr × Value)} {r : Bool} {Q : Bool → Shared → Prop} (ha : (a == sysModules) = false) (hb : (b == sysModules) = false) (hu : knd.room A)
    (da : s.heap.DictOfH knd a xa) (db : s.heap.DictOfH knd b xb) (hits : xa.length = xb.length → Hits prog w A s xb xa r) (h : Q (xa.length == xb.length && r) s) :
    wpAny (model prog w) A (Builtin.Dict.samePairs nm a b) Q E s := by
  obtain ⟨oa, es, ep, hoa, _, hda, hea, hia, hna⟩ := da
  obtain ⟨ob, fs, ep', hob, _, hdb, heb, hib, hnb⟩ := db
  have la : es.size = xa.length := size_of_entries hea
  have lb : fs.size = xb.length := size_of_entries heb
  unfold Builtin.Dict.samePairs Builtin.Dict.showsAll
  rw [if_neg (by rw [ha]; exact Bool.false_ne_true), if_neg (by rw [hb]; exact Bool.false_ne_true)]
  refine wpAny_bind (wpAny_pure (wpAny_bind (wpAny_pure (wpAny_bind (wpAny_dictEntries hoa hda ?_)))))
  dsimp only
  refine wpAny_bind (wpAny_dictEntries hob hdb ?_)
  by_cases hz : xa.length = xb.length
  · have q : Q r s := by simpa [hz] using h
    rw [if_neg (by rw [la, lb, hz]; simp)]
    refine wpAny_bind (wpAny_dictEpoch hoa hda (wpAny_bind ?_))
    rw [Std.Legacy.Range.forIn_eq_forIn_range']
    simp only [Std.Legacy.Range.size, Nat.sub_zero, Nat.add_sub_cancel, Nat.div_one]
    refine wpAny_forIn_list _ (fun left z s' => s' = s ∧ z = (none, ()) ∧ ∃ i, left = List.range' i (es.size - i) ∧ i ≤ es.size ∧ Hits prog w A s xb (xa.drop i) r) _ ?_ ?_ _ _
      ⟨rfl, rfl, 0, by simp, Nat.zero_le _, hits hz⟩
    · rintro x left z s' ⟨rfl, rfl, i, hl, hi, pre⟩
      have hx : i < es.size := by
        rcases Nat.lt_or_ge i es.size with g | g
        · exact g
        · rw [Nat.sub_eq_zero_of_le g] at hl
          cases hl
      have e1 : es.size - i = (es.size - (i + 1)) + 1 := by omega
      rw [e1, List.range'_succ] at hl
      obtain ⟨rfl, hl⟩ := List.cons.inj hl
      have hxa : x < xa.length := by omega
      obtain ⟨k, c, v, hk⟩ : ∃ k c v, xa[x] = (k, c, v) := ⟨_, _, _, rfl⟩
      have hk' : xa[x]? = some (k, c, v) := by rw [List.getElem?_eq_getElem hxa, hk]
      rw [List.drop_eq_getElem_cons hxa, hk] at pre
      have keyed : knd.is s'.heap k c := hia _ (List.mem_of_getElem? hk')
      refine wpAny_bind (wpAny_dictEntries hoa hda ?_)
      rw [entry_at hea x, hk']
      show wpAny _ _ (holding [Value.ref c, v] _ >>= _) _ _ _
      refine wpAny_bind (wpAny_holding (wpAny_bind (wpAny_dictFind_heap hu keyed hob hdb heb hib hnb (fun no => ?_) fun j p hj => ?_)))
      · have nk : atKey xb k = none := atKey_none_of_get no
        rcases pre.inv with ⟨_, er⟩ | ⟨p, _, _, hp, _⟩
        · rw [er] at q
          refine wpAny_pure ?_
          show wpAny _ _ (if (!false) = true then _ else _) _ _ _
          rw [if_pos (by decide)]
          exact wpAny_pure (wpAny_pure q)
        · rw [nk] at hp
          cases hp
      · have sk : atKey xb k = some p := atKey_of_get hnb hj
        refine wpAny_bind (wpAny_dictEntries hob hdb ?_)
        rw [entry_at heb j, hj]
        rcases pre.inv with ⟨hp, _⟩ | ⟨p', e, t', hp, he, hr, er⟩
        · rw [sk] at hp
          cases hp
        · obtain rfl : p = p' := Option.some.inj (sk.symm.trans hp)
          refine wpAny_holding (he _ _ ?_)
          cases e with
          | false =>
            rw [er, Bool.false_and] at q
            show wpAny _ _ (if (!false) = true then _ else _) _ _ _
            rw [if_pos (by decide)]
            exact wpAny_pure (wpAny_pure q)
          | true =>
            rw [Bool.true_and] at er
            subst er
            show wpAny _ _ (if (!true) = true then _ else _) _ _ _
            rw [if_neg (by decide)]
            refine wpAny_bind (wpAny_dictEpoch hoa hda ?_)
            rw [if_neg (by simp)]
            exact wpAny_pure ⟨rfl, rfl, x + 1, hl, hx, hr⟩
    · rintro z s' ⟨rfl, rfl, i, hl, hi, pre⟩
      have e : i = es.size := by
        rcases Nat.lt_or_ge i es.size with g | g
        · have e1 : es.size - i = (es.size - (i + 1)) + 1 := by omega
          rw [e1, List.range'_succ] at hl
          cases hl
        · exact Nat.le_antisymm hi g
      rw [e, la, List.drop_length] at pre
      cases pre
      exact wpAny_pure q
  · rw [if_pos (by rw [la, lb]; simpa using hz)]
    have f : (xa.length == xb.length) = false := by simpa using hz
    rw [f, Bool.false_and] at h
    exact wpAny_bind (wpAny_rule (wpAny_pure h))
theorem dicts_same {a b : Addr} {xa xb : List (K × Addr × Value)} {r : Bool} (ha : (a == sysModules) = false) (hb : (b == sysModules) = false) (hu : A.units < cLine) (hr : knd.room A.in1)
    (da : s.heap.DictOfH knd a xa) (db : s.heap.DictOfH knd b xb) (hits : xa.length = xb.length → Hits prog w A.in1 s xb xa r) {Q : Value → Shared → Prop} (h : Q (.bool (xa.length == xb.length && r)) s) :
    wpAny (model prog w) A (richCompare .Eq (.ref a) (.ref b)) Q E s := by
  refine wpAny_richCompare_same_room (op := .Eq) da.typeIs db.typeIs PySem.F.slot_dict_eq (wpAny_call_entry PySem.F.slot_dict_eq da.typeIs PySem.F.entry_dict_eq ?_ (PySem.F.args_dict_eq_2 _ _)) hu
  show wpAny _ _ (Builtin.Dict.dictSlotArgs "__eq__" ⟨[.ref a, .ref b], []⟩ >>= _) _ _ s
  unfold Builtin.Dict.dictSlotArgs
  refine wpAny_bind (wpAny_bind (wpAny_notOrdered_dict da.typeIs ?_))
  show wpAny _ _ (pure (Value.ref a, Value.ref b)) _ _ s
  refine wpAny_pure (wpAny_bind (wpAny_isInstance (T := "dict") db.typeIs PySem.F.sub_dict_dict ?_))
  simp only [Bool.not_true, Bool.false_eq_true, if_false]
  refine wpAny_bind (wpAny_pure (wpAny_bind (wpAny_pure (wpAny_bind (pairs_same ha hb hr da db hits (wpAny_pure ⟨_, rfl, fun z => (nomatch z), ?_⟩))))))
  simpa using h
end
section
variable {X : Cx}
abbrev entI (e : List L2.Key × Int) : List L2.Key × V := (e.1, V.int e.2)
/-- == of two dicts of whole numbers by tuples -/
def sameD (ka kb : List (List L2.Key × Int)) : Bool := ka.length == kb.length && ka.all fun e => match (kb.find? fun z => decide (z.1 = e.1)) with
  | some z => e.2 == z.2
  | none => false
def rEqD : R2 := fun x y H Q => ∃ (a b : Addr) (ka kb : List (List L2.Key × Int)), x = .ref a ∧ y = .ref b ∧ H a = some (.dT (ka.map entI)) ∧ H b = some (.dT (kb.map entI)) ∧ Q (.bl (sameD ka kb)) H
theorem find_kt {H : Hp} {k : List L2.Key} : ∀ {kb : List (List L2.Key × Int)} {xb : List (List L2.Key × Addr × Value)}, KT H (kb.map entI) xb →
    (∃ z p t, (kb.find? fun z => decide (z.1 = k)) = some z ∧ atKey xb k = some (p, .int z.2 t)) ∨ ((kb.find? fun z => decide (z.1 = k)) = none ∧ atKey xb k = none)
  | [], _, h => by
    cases h
    exact .inr ⟨rfl, rfl⟩
  | z :: kb, _, h => by
    cases h with
    | @cons _ q _ qs hq t =>
      obtain ⟨e1, _, e3⟩ := hq
      obtain ⟨tk, e3⟩ := (show ∃ t, q.2.2 = Value.int z.2 t from e3)
      have e1 : z.1 = q.1 := e1
      by_cases c : z.1 = k
      · refine .inl ⟨z, q.2.1, tk, by rw [List.find?_cons_of_pos (by simpa using c)], ?_⟩
        unfold atKey
        rw [List.find?_cons_of_pos (by rw [← e1]; simpa using c), ← e3]
        rfl
      · have e2 : atKey (q :: qs) k = atKey qs k := by
          unfold atKey
          rw [List.find?_cons_of_neg (by rw [← e1]; simpa using c)]
        rw [List.find?_cons_of_neg (by simpa using c), e2]
        exact find_kt t
theorem hits_kt {P : Program} {w : World} {A : Around} {s : Shared} {H : Hp} {kb : List (List L2.Key × Int)} {xb : List (List L2.Key × Addr × Value)} (hb : KT H (kb.map entI) xb) : ∀ {ka : List (List L2.Key × Int)} {xa : List (List L2.Key × Addr × Value)}, KT H (ka.map entI) xa →
    Hits P w A s xb xa (ka.all fun e => match (kb.find? fun z => decide (z.1 = e.1)) with
      | some z => e.2 == z.2
      | none => false)
  | [], _, h => by
    cases h
    exact .nil
  | e :: ka, _, h => by
    cases h with
    | @cons _ q _ qs hq t =>
      obtain ⟨k, c, v⟩ := q
      obtain ⟨e1, _, e3⟩ := hq
      obtain ⟨tk, e3⟩ := (show ∃ t, v = Value.int e.2 t from e3)
      have e1 : e.1 = k := e1
      subst e3
      have rest := hits_kt (P := P) (w := w) (A := A) (s := s) hb t
      rw [List.all_cons]
      rcases find_kt (k := e.1) hb with ⟨z, p, tz, hz, hp⟩ | ⟨hz, hp⟩
      · rw [hz]
        rw [e1] at hp
        exact .hit hp (fun E Q q => (SeqAt.EqAt.int_int e.2 tk z.2 tz).eqP E Q q) rest
      · rw [hz]
        rw [e1] at hp
        exact .miss hp
theorem op_eqDi (hu : X.A.units + 64 < cLine) : OpR X (compareOp .Eq) rEqD := by
  intro pins s σ H x y v u Q I rx ry h
  obtain ⟨a, b, ka, kb, rfl, rfl, ha, hb, q⟩ := h
  cases (show v = Value.ref a from rx)
  cases (show u = Value.ref b from ry)
  obtain ⟨_, ya, xa, ra, da⟩ := dt_of I.hok ha
  obtain ⟨_, yb, xb, rb, db⟩ := dt_of I.hok hb
  have l1 : xa.length = ka.length := by rw [← Paired.length ra, List.length_map]
  have l2 : xb.length = kb.length := by rw [← Paired.length rb, List.length_map]
  refine dicts_same ya yb (by omega) (tupleKind_room_in1 (by omega)) da db (fun _ => hits_kt rb ra) ⟨.bl (sameD ka kb), H, I, ?_, q⟩
  rw [l1, l2]
  rfl
/-- del d[k] of a dict by tuples -/
def sDDelT (td ty : TE) : TS := fun D σ H => td σ H fun x H1 => ty σ H1 fun y H2 => ∃ (a b : Addr) (kvs : List (List L2.Key × V)) (k : List L2.Key), x = .ref a ∧ y = .ref b ∧ H2 a = some (.dT kvs) ∧ H2 b = some (.tup (k.map kV)) ∧ (valV kvs k).isSome = true ∧ D.nx σ (upd H2 a (.dT (dropK kvs k)))
end
end HmQ

set_option Elab.async false
set_option linter.all false
set_option maxRecDepth 100000
set_option maxHeartbeats 4000000
namespace HmQ
open PySem PySem.Spec PyProof.Rows L2 PySem.W
section
variable {X : Cx} {td ty : TE} {o i : Expr} {pos tpos : Pos}
theorem del_t {pins : List (Addr × Obj)} {σ : L2.St} {H : Hp} {s : Shared} {a b : Addr} {A : Around} {E : Value → Shared → Prop} {kvs : List (List L2.Key × V)} {k : List L2.Key} {Q : Unit → Shared → Prop} (hu : A.units + 1 < cLine) (I : Inv X pins σ H s) (e : H a = some (.dT kvs))
    (eb : H b = some (.tup (k.map kV))) (l : (valV kvs k).isSome = true) (h : ∀ s', Inv X pins σ (upd H a (.dT (dropK kvs k))) s' → Q () s') : wpAny (model X.prog X.w) A (delItem (.ref a) (.ref b)) Q E s := by
  obtain ⟨z, hd, xs, rel, dd⟩ := dt_of I.hok e
  obtain ⟨p, hp⟩ : ∃ p, atKey xs k = some p := by
    have r := rel.val k
    cases ep : atKey xs k with
    | some p => exact ⟨p, rfl⟩
    | none =>
      rw [ep] at r
      cases ev : valV kvs k with
      | none =>
        rw [ev] at l
        cases l
      | some v0 =>
        rw [ev] at r
        exact (show False from r).elim
  refine wpAny_delItem_heap (knd := tupleKind (mixKind X.prog X.w)) (k := k) (tupleKind_room_in1 hu) (key_of I.hok eb) hd dd hp (fun h' dd' hs => h _ ?_) (by rw [← Paired.length rel]; exact z)
  obtain ⟨o, es, ep, hq, h2, h3, h4, _, h5⟩ := dd'
  exact d_write I (by rw [e]; exact True.intro) hs ⟨o, hq⟩ ⟨Nat.le_trans (dropK_le kvs k) z, hd, _, (L2.DX.KT_drop k rel).keeps (fun c ys ec => (by rw [upd_ne (ne_of ec e (fun z => nomatch z))]; exact ec)), o, es, ep, hq, h2, h3, h4, h5⟩
theorem ps_ddelT (hu : X.A.units + 1 < cLine) (ho : PE X o td) (hi : PE X i ty) : PS X (.Delete [.Subscript o i tpos] pos) (sDDelT td ty) := by
  refine ⟨fun pins s σ H D I h => ?_⟩
  refine wpAny_Delete (wpAny_deleteEach_cons (wpAny_delete_Subscript (thn (ho.run pins s σ H _ I h) fun u s1 ⟨x, H1, I1, rx, q1⟩ => thn (hi.run pins s1 σ H1 _ I1 q1) fun iv s2 ⟨y, H2, I2, ry, a, b, kvs, k, ex, ey, e, eb, l, q2⟩ => ?_)))
  subst ex ey
  obtain rfl : u = Value.ref a := rx
  obtain rfl : iv = Value.ref b := ry
  exact del_t hu I2 e eb l fun s3 I3 => wpAny_deleteEach_nil ⟨σ, _, I3, q2⟩
end
section
variable {prog : Program} {w : World} {A : Around} {E : Value → Shared → Prop} {s : Shared} {K : Frag} {x C L f : Addr} {ox : Obj} {od : Option Obj} {b : Value}
theorem ifBound_ne {M : Model} {args : List Value} {Q : Option Value → Shared → Prop} (X : K.In s.heap) (I : InstAt s.heap x ox C od) (hs : findIn K (.ref C) "__ne__" = some (some (.builtin "object.__ne__")))
    (h : wpAny M A (call (.builtin "object.__ne__") (.ref x :: args)) (fun v => Q (some v)) E s) : wpAny M A (callSpecialIfBound? (.ref x) "__ne__" args) Q E s := by
  simp only [callSpecialIfBound?, bindSpecialIfBound?]
  refine wpAny_holding (wpAny_bind (wpAny_bind (wpAny_bind (I.type.here ((looks_findIn X hs).here ?_)))))
  simp only [F.cmp_object.ne.bind]
  refine wpAny_bind (wpAny_askSetting (wpAny_ite ?_))
  have fin : wpAny M A (call (.builtin "object.__ne__") ([.ref x] ++ args) >>= fun v => pure (some v)) Q E s :=
    wpAny_bind (wpAny_mono h (fun v s' h' => wpAny_pure h') fun _ _ h' => h')
  split
  · exact wpAny_bind (wpAny_pure (wpAny_pure fin))
  · exact wpAny_tryCatch (wpAny_bind (wpAny_pure (wpAny_pure fin)))
/-- x != b by the own __eq__ -/
theorem ne_body (hu : A.units < cLine) (X : K.In s.heap) (I : InstAt s.heap x ox C od) (he : findIn K (.ref C) "__eq__" = some (some (.ref f))) (hf : isFn K (.ref f) = true) {Q : Fin → Shared → Prop}
    (h : wpAny (model prog w) A (call (.ref f) [.ref x, b]) (fun v s' => ∃ r, v = .bool r ∧ Q (.done (.ret (.bool (!r)))) s') E s) : wpAny (model prog w) A (Builtin.«object.__ne__» ⟨[.ref x, b], []⟩) Q E s := by
  unfold Builtin.«object.__ne__»
  repeat (first
    | with_reducible refine wpAny_cRoomFor hu ?_
    | (refine wpAny_bind (m := callSpecialIfBound? (.ref x) (Str.ofString "__eq__") [b])
        (ifBound_K X I he hf (wpAny_mono h (fun v s' hv => by
          obtain ⟨r, rfl, hq⟩ := hv
          repeat (first | exact hq | exact wpAny_pure hq | exact wpAny_truthy_bool hq | (refine wpAny_bind (m := truthy (.bool _)) (wpAny_truthy_bool ?_)) | wp_step)) fun _ _ e => e)))
    | wp_step)
theorem call_ne (hu : A.units + 1 < cLine) (X : K.In s.heap) (I : InstAt s.heap x ox C od) (hm : mroIn K C (.type "object") = some true) (he : findIn K (.ref C) "__eq__" = some (some (.ref f))) (hf : isFn K (.ref f) = true) {Q : Value → Shared → Prop}
    (h : wpAny (model prog w) A.in1 (call (.ref f) [.ref x, b]) (fun v s' => ∃ r, v = .bool r ∧ Q (.bool (!r)) s') E s) : wpAny (model prog w) A (call (.builtin "object.__ne__") [.ref x, b]) Q E s := by
  refine wpAny_call (codeAny_call_builtin F.cmp_object.ne.plain F.cmpEntry_ne ?_)
  simp only [checkBuiltinCall, F.cmpKind_ne, F.cmpSplit_ne]
  have L0 := I.type (M := model prog w)
  have L1 := looks_mroIn (M := model prog w) X hm
  refine wpAny_bind ?_
  unfold isInstance
  refine wpAny_bind (L0.here (L1.here ?_))
  simp only [Bool.not_true, Bool.false_eq_true, if_false]
  have fin : wpAny (model prog w) A.in1 (Builtin.«object.__ne__» ⟨[.ref x, b], []⟩) (fun fin s' => match fin with
      | .done f => match (Except.ok f : Result) with
        | .ok (.ret v) => Q v s'
        | .ok _ => False
        | .error e => E e s'
      | .again c' => c'.quiet = true ∧ codeAny (model prog w) A c' (fun r s' => match r with
        | .ok (.ret v) => Q v s'
        | .ok _ => False
        | .error e => E e s') s') E s :=
    ne_body (A := A.in1) (by show A.units + 1 < cLine; exact hu) X I he hf h
  have ha := F.cmpArgs_ne (.ref x) b
  cases hsig : Manifest.signature? "object.__ne__" with
  | none => exact wpAny_pure fin
  | some sig =>
    simp only [argsOk, hsig] at ha
    have h2 : Bind.checkArgs "object.__ne__" sig ⟨.ref x :: [b], []⟩ = pure () := ha
    show wpAny (model prog w) A.in1 (Bind.checkArgs "object.__ne__" sig ⟨.ref x :: [b], []⟩) _ E s
    rw [h2]
    exact wpAny_pure fin
theorem ne_own {Q : Value → Shared → Prop} {D : Addr} (hu : A.units + 1 < cLine) (X : K.In s.heap) (I : InstAt s.heap x ox C od) (hb : Looks (model prog w) s.heap (typeOf b) (.ref C)) (hs : findIn K (.ref C) "__ne__" = some (some (.builtin "object.__ne__")))
    (hm : mroIn K C (.type "object") = some true) (he : findIn K (.ref C) "__eq__" = some (some (.ref f))) (hf : isFn K (.ref f) = true)
    (h : wpAny (model prog w) A.in1 (call (.ref f) [.ref x, b]) (fun v s' => ∃ r, v = .bool r ∧ Q (.bool (!r)) s') E s) : wpAny (model prog w) A (richCompare .NotEq (.ref x) b) Q E s := by
  have one : wpAny (model prog w) A (tryCompare (.ref x) "__ne__" b) (fun r s' => ∃ v, r = some v ∧ Q v s') E s := by
    unfold tryCompare
    refine wpAny_bind (ifBound_ne X I hs (call_ne hu X I hm he hf (wpAny_mono h (fun v s' hv => ?_) fun _ _ e => e)))
    obtain ⟨r, rfl, hq⟩ := hv
    exact ⟨r, rfl, wpAny_pure ⟨_, rfl, hq⟩⟩
  unfold richCompare
  simp only [oneThing_ref, cmpInfo_NotEq]
  refine wpAny_holding (wpAny_bind (wpAny_cRoomFor (by omega) ?_))
  refine wpAny_bind (I.type.here (wpAny_bind (hb.here ?_)))
  rw [show (Value.ref C != Value.ref C) = false from by simp]
  simp only [Bool.false_eq_true, if_false]
  refine wpAny_bind (wpAny_pure ?_)
  simp only [Bool.false_eq_true, if_false]
  refine wpAny_bind (wpAny_mono one (fun r s' z => ?_) fun _ _ e => e)
  obtain ⟨v, rfl, hq⟩ := z
  exact wpAny_pure hq
end
section
variable {X : Cx} {CX : CXT} {C f : Addr} {fd : FuncData} {ps : List Str} {n : Nat} {sp : Sp} {E : XK}
/-- what == and != of instances of a class with an own __eq__ ask of the text -/
structure OwnCmp (K : PySem.W.Frag) (C f : Addr) : Prop where
  eq : PySem.W.findIn K (.ref C) "__eq__" = some (some (.ref f))
  fn : PySem.W.isFn K (.ref f) = true
  ne : PySem.W.findIn K (.ref C) "__ne__" = some (some (.builtin "object.__ne__"))
  ob : PySem.W.mroIn K C (.type "object") = some true
def rOwnEq (C : Addr) (sp : Sp) (E : XK) : R2 := fun x y H Q => ∃ (a b dx dy : Addr) (fs gs : List (Str × V)), x = .ref a ∧ y = .ref b ∧ H a = some (.ins C dx fs) ∧ H b = some (.ins C dy gs) ∧ sp [.ref a, .ref b] H Q E
def rOwnNe (C : Addr) (sp : Sp) (E : XK) : R2 := fun x y H Q => ∃ (a b dx dy : Addr) (fs gs : List (Str × V)), x = .ref a ∧ y = .ref b ∧ H a = some (.ins C dx fs) ∧ H b = some (.ins C dy gs) ∧ sp [.ref a, .ref b] H (fun z H' => ∃ r, z = .bl r ∧ Q (.bl (!r)) H') E
theorem run_below {A : Around} {pins : List (Addr × Obj)} {σ : L2.St} {H : Hp} {s : Shared} {Q : VK} {a b : Addr} (F : FnOk X.prog X.w X.K X.mg X.base CX n f fd ps sp) (hr : Room n A) (e0 : Env0 X.prog X.w X.K X.mg X.base A X.stack s H) (hb : Binds X.K fd ps []) (hx : Passes CX X E)
    (I : Inv X pins σ H s) (h : sp [.ref a, .ref b] H Q E) : wpAny (model X.prog X.w) A (call (.ref f) [.ref a, .ref b]) (EP X pins σ Q) X.xe s := by
  have hl := F.len _ _ _ _ h
  have r2 : Vals [V.ref a, V.ref b] [Value.ref a, Value.ref b] := .cons rfl (.cons rfl .nil)
  refine wpAny_call (codeAny_mono (F.run A X.stack s H ⟨[.ref a, .ref b], []⟩ [.ref a, .ref b] [.ref a, .ref b] Q E hr e0 (by
    have := hb s [.ref a, .ref b] I.kIn (by simpa using hl)
    simpa using this) r2 h) fun r s' hq => ?_)
  cases r with
  | error e => exact hx pins σ H s e s' I hq
  | ok fl =>
    cases fl with
    | ret w => exact I.after hq
    | next => exact False.elim hq
    | brk => exact False.elim hq
    | cont => exact False.elim hq
theorem op_ownEq (O : OwnCmp X.K C f) (F : FnOk X.prog X.w X.K X.mg X.base CX n f fd ps sp) (hr : Room n X.A) (hb : Binds X.K fd ps []) (hx : Passes CX X E) : OpR X (compareOp .Eq) (rOwnEq C sp E) := by
  intro pins s σ H x y v u Q I rx ry h
  obtain ⟨a, b, dx, dy, fs, gs, rfl, rfl, ha, hb', q⟩ := h
  cases (show v = Value.ref a from rx)
  cases (show u = Value.ref b from ry)
  obtain ⟨mA, J, _⟩ := ins_get I.hok ha
  obtain ⟨mB, J', _⟩ := ins_get I.hok hb'
  obtain ⟨od, J, _⟩ := J.look
  obtain ⟨od', J', _⟩ := J'.look
  obtain ⟨m, hF⟩ := I.fr
  refine PySem.W.cmp_K (op := .Eq) (tb := .ref C) hr.units0 hF I.ok.mod.kin J J'.type (by simp [PySem.W.notFirst]) O.eq O.fn ?_
  refine wpAny_mono (run_below F hr I.env0 hb hx I q) (fun w s' z => ?_) fun _ _ x => x
  obtain ⟨z', H', I', rz, qz⟩ := z
  exact SlX.cmpback rz ⟨z', H', I', rz, qz⟩
theorem op_ownNe (O : OwnCmp X.K C f) (F : FnOk X.prog X.w X.K X.mg X.base CX n f fd ps sp) (hr : Room (n + 1) X.A) (hb : Binds X.K fd ps []) (hx : Passes CX X E) : OpR X (compareOp .NotEq) (rOwnNe C sp E) := by
  intro pins s σ H x y v u Q I rx ry h
  obtain ⟨a, b, dx, dy, fs, gs, rfl, rfl, ha, hb', q⟩ := h
  cases (show v = Value.ref a from rx)
  cases (show u = Value.ref b from ry)
  obtain ⟨mA, J, _⟩ := ins_get I.hok ha
  obtain ⟨mB, J', _⟩ := ins_get I.hok hb'
  obtain ⟨od, J, _⟩ := J.look
  obtain ⟨od', J', _⟩ := J'.look
  have hr1 : Room n X.A.in1 := hr.in1
  refine ne_own (D := C) (by have := hr1.units0; show X.A.units + 1 < cLine; exact this) I.kIn J J'.type O.ne O.ob O.eq O.fn ?_
  refine wpAny_mono (run_below F hr1 I.env0.in1 hb hx I q) (fun w s' z => ?_) fun _ _ x => x
  obtain ⟨z', H', I', rz, r, er, qz⟩ := z
  subst er
  cases (show w = Value.bool r from rz)
  exact ⟨r, rfl, .bl (!r), H', I', rfl, qz⟩
end
end HmQ

set_option Elab.async false
set_option maxRecDepth 100000
set_option maxHeartbeats 4000000
/-! a list comprehension of three clauses without tests, clause by clause -/
namespace C3
open PySem PySem.Spec PyProof.Rows L2
abbrev NoE : Value → Shared → Prop := fun _ _ => False
/-- what a turn of a clause does, em behind the store -/
def turnOf (t : Expr) (p : Pos) (em : Sem Fin → Sem Fin) (c : Expr) (j : Nat) (it acc : Value) (env : Env) : Sem Fin := do
  standAt p
  let got ← pyNext it
  match got with
  | none => pure (.done .next)
  | some v => do
    letOwnedTupleGo t it v
    assign t env v
    em (again (.compLoop c j it acc env))
/-- the last clause: the item is appended -/
def emLast (elt : Expr) (acc : Value) (env : Env) (k : Sem Fin) : Sem Fin := do
  (do
    let y ← eval elt env
    let _ ← call (.builtin "list.append") [acc, y])
  k
/-- a clause with another behind it -/
def emNext (c : Expr) (j : Nat) (i1 : Expr) (acc : Value) (env : Env) (k : Sem Fin) : Sem Fin := do
  let x ← eval i1 env
  standAt i1.pos
  let y ← foldedSetIterable i1 env x
  let it ← holding [y] (pyIter y)
  let _ ← runOwn (.compStart c j it acc env) env
  k
abbrev comp3 (elt t0 i0 t1 i1 t2 i2 : Expr) (scope : Scope) (pos : Pos) : Expr := .ListComp elt [⟨t0, i0, [], 0⟩, ⟨t1, i1, [], 0⟩, ⟨t2, i2, [], 0⟩] scope pos
section
variable {elt t0 i0 t1 i1 t2 i2 : Expr} {scope : Scope} {pos : Pos} {it acc : Value} {env : Env}
theorem turn0 : compTurn (comp3 elt t0 i0 t1 i1 t2 i2 scope pos) 0 it acc env = turnOf t0 i0.pos (emNext (comp3 elt t0 i0 t1 i1 t2 i2 scope pos) 1 i1 acc env) (comp3 elt t0 i0 t1 i1 t2 i2 scope pos) 0 it acc env := by rfl
theorem turn1 : compTurn (comp3 elt t0 i0 t1 i1 t2 i2 scope pos) 1 it acc env = turnOf t1 i1.pos (emNext (comp3 elt t0 i0 t1 i1 t2 i2 scope pos) 2 i2 acc env) (comp3 elt t0 i0 t1 i1 t2 i2 scope pos) 1 it acc env := by rfl
theorem turn2 : compTurn (comp3 elt t0 i0 t1 i1 t2 i2 scope pos) 2 it acc env = turnOf t2 i2.pos (emLast elt acc env) (comp3 elt t0 i0 t1 i1 t2 i2 scope pos) 2 it acc env := by rfl
end
section
variable {P : Program} {w : World} {A : Around} {R : Result → Shared → Prop} {s : Shared} {elt t0 i0 t1 i1 t2 i2 : Expr} {scope : Scope} {pos : Pos} {j : Nat} {it acc : Value} {env : Env} {t : Expr} {p : Pos} {em : Sem Fin → Sem Fin}
theorem loop_of (e : compTurn (comp3 elt t0 i0 t1 i1 t2 i2 scope pos) j it acc env = turnOf t p em (comp3 elt t0 i0 t1 i1 t2 i2 scope pos) j it acc env) (I : Nat → Shared → Prop)
    (turn : ∀ n s, I n s → wpAny (model P w) A (pyNext it) (fun r s1 => match r with
      | none => R (.ok .next) s1
      | some v => wpAny (model P w) A (letOwnedTupleGo t it v) (fun _ s2 => wpAny (model P w) A (assign t env v) (fun _ s3 =>
          ∀ (k : Sem Fin) (Q : Fin → Shared → Prop) (E : Value → Shared → Prop), (∀ m s', m < n → I m s' → wpAny (model P w) A k Q E s') → wpAny (model P w) A (em k) Q E s3) NoE s2) NoE s1) NoE s)
    (n : Nat) (h : I n s) : codeAny (model P w) A (.compLoop (comp3 elt t0 i0 t1 i1 t2 i2 scope pos) j it acc env) R s := by
  refine codeAny_loop rfl I (fun n s hI => ?_) n h
  show wpAny (model P w) A (Sem.onRaise (compTurn (comp3 elt t0 i0 t1 i1 t2 i2 scope pos) j it acc env) (fun x => do noteFrame x env; theTreesLotGoes x)) _ _ s
  refine wpAny_noted ?_
  rw [e]
  unfold turnOf
  refine wpAny_bind (wpAny_standAt (wpAny_bind (thnF (turn n s hI) fun r s1 h1 => ?_)))
  cases r with
  | none => exact wpAny_pure h1
  | some v => exact wpAny_bind (thnF h1 fun _ s2 h2 => wpAny_bind (thnF h2 fun _ s3 h3 => h3 _ _ _ fun m s' hm hI' => wpAny_pure ⟨rfl, m, hm, hI'⟩))
theorem start_of {g : Comprehension} (hg : (clausesOf (comp3 elt t0 i0 t1 i1 t2 i2 scope pos))[j]? = some g) (hs : g.is_async = 0) (h0 : codeAny (model P w) A (.compLoop (comp3 elt t0 i0 t1 i1 t2 i2 scope pos) j it acc env) R s)
    (h : wpAny (model P w) A (pyIter it) (fun it' s' => codeAny (model P w) A (.compLoop (comp3 elt t0 i0 t1 i1 t2 i2 scope pos) j it' acc env) R s') (notedBy (model P w) A env fun x s' => R (.error x) s') s) :
    codeAny (model P w) A (.compStart (comp3 elt t0 i0 t1 i1 t2 i2 scope pos) j it acc env) R s := by
  refine codeAny_of_tree ?_
  show wpAny (model P w) A (Sem.onRaise (compStart (comp3 elt t0 i0 t1 i1 t2 i2 scope pos) j it acc env) (fun x => do noteFrame x env; standAt theWindowsPlace)) _ _ s
  refine wpAny_notedAt ?_
  have e : compStart (comp3 elt t0 i0 t1 i1 t2 i2 scope pos) j it acc env = (do
      if (← ask).params.followText "comprehension-iter-twice" then return ← again (.compLoop (comp3 elt t0 i0 t1 i1 t2 i2 scope pos) j it acc env)
      rule "comprehension.iter-twice"
      standAt g.iter.pos
      again (.compLoop (comp3 elt t0 i0 t1 i1 t2 i2 scope pos) j (← pyIter it) acc env)) := by
    unfold compStart
    rw [hg]
    simp only [Option.elim_some, hs]
    rfl
  rw [e]
  refine wpAny_bind (wpAny_askSetting (wpAny_ite ?_))
  split
  · first
      | exact wpAny_pure ⟨rfl, h0⟩
      | exact wpAny_bind (wpAny_pure (wpAny_pure ⟨rfl, h0⟩))
  · refine wpAny_bind (wpAny_rule ?_)
    exact wpAny_bind (wpAny_standAt (wpAny_bind (wpAny_mono h (fun it' s' h' => wpAny_pure ⟨rfl, h'⟩) fun _ _ x => x)))
end
/-! ### a clause by its reading -/
abbrev Rd3 := L2.St → Hp → (Hp → Prop) → Prop
/-- for tg in iter: behind each store Y -/
def tCl (wi : TI) (g : TG) (vs : List Nat) (Y : Rd3) : Rd3 := fun σ H N => wi σ H fun J H1 => ∃ W : Nat → Nat → Hp → Prop, (∃ m, W 0 m H1) ∧ ∀ i m H, W i m H →
  (J.stop i H ∧ N H) ∨ (J.go i H ∧ ∃ N' : Hp → Prop, (∀ H', N' H' → ∃ m', m' < m ∧ W (i + 1) m' H') ∧ ∀ x H', J.yld i H x H' → g x (wipe σ vs) H' fun σ2 H2 => wipe σ2 vs = wipe σ vs ∧ Y σ2 H2 N')
/-- the item goes to the list at D -/
def tApp (D : Addr) (te : TE) : Rd3 := fun σ H N => te σ H fun y H1 => ∃ acc, H1 D = some (.lst acc) ∧ acc.length < sizeLine ∧ N (upd H1 D (.lst (acc ++ [y])))
/-- what stands behind the store runs by the reading Y, the slots vn forgotten -/
def EmOk (B : Cx) (em : Sem Fin → Sem Fin) (vn : List Nat) (Y : Rd3) : Prop := ∀ (pins : List (Addr × Obj)) (σ : L2.St) (H : Hp) (s : Shared) (N : Hp → Prop) (k : Sem Fin) (Q : Fin → Shared → Prop) (E : Value → Shared → Prop),
  Inv B pins σ H s → Y σ H N → (∀ s' H', Inv B pins (wipe σ vn) H' s' → N H' → wpAny (model B.prog B.w) B.A k Q E s') → wpAny (model B.prog B.w) B.A (em k) Q E s
section
variable {B : Cx} {pins : List (Addr × Obj)} {σ : L2.St} {H : Hp} {s : Shared} {elt t0 i0 t1 i1 t2 i2 : Expr} {scope : Scope} {pos : Pos} {j : Nat} {t : Expr} {p : Pos} {em : Sem Fin → Sem Fin} {D : Addr}
theorem em_last (hxe : B.xe = NoE) {te : TE} (pe : PE B elt te) : EmOk B (emLast elt (.ref D) B.env) [] (tApp D te) := by
  intro pins σ H s N k Q E I y hk
  unfold emLast
  have r := pe.run pins s σ H _ I y
  rw [hxe] at r
  refine wpAny_bind (wpAny_bind (thnF r fun z s1 h1 => ?_))
  obtain ⟨yv, H1, I1, r1, acc, hD, hz, nx⟩ := h1
  exact wpAny_bind (app_ok I1 hD hz r1 fun s2 I2 => wpAny_pure (hk s2 _ I2 nx))
theorem clause (hxe : B.xe = NoE) (hc : B.calm = true) {vs vn : List Nat} (hvn : ∀ i ∈ vn, i ∈ vs) {g : TG} {Y : Rd3}
    (e : ∀ it, compTurn (comp3 elt t0 i0 t1 i1 t2 i2 scope pos) j it (.ref D) B.env = turnOf t p em (comp3 elt t0 i0 t1 i1 t2 i2 scope pos) j it (.ref D) B.env) (pg : PG B t g) (hem : EmOk B em vn Y)
    {it : Addr} {fp : List Addr} {tn : Nat → Heap → Prop} {J : It} (T : Turn B.prog B.w B.K t J fp it tn) (I : Inv B pins σ H s) (st : tn 0 s.heap) (f : ∀ b ∈ fp, FpOk B pins H b)
    {W : Nat → Nat → Hp → Prop} {m0 : Nat} (w0 : W 0 m0 H) {N : Hp → Prop} (tr : ∀ i m H, W i m H →
      (J.stop i H ∧ N H) ∨ (J.go i H ∧ ∃ N' : Hp → Prop, (∀ H', N' H' → ∃ m', m' < m ∧ W (i + 1) m' H') ∧ ∀ x H', J.yld i H x H' → g x σ H' fun σ2 H2 => wipe σ2 vs = σ ∧ Y σ2 H2 N')) :
    codeAny (model B.prog B.w) B.A (.compLoop (comp3 elt t0 i0 t1 i1 t2 i2 scope pos) j (.ref it) (.ref D) B.env) (fun r s' => r = .ok .next ∧ ∃ H', Inv B pins σ H' s' ∧ N H') s := by
  have stat : ∀ {H' : Hp}, (∀ b ∈ fp, H' b = none) → ∀ b ∈ fp, FpOk B pins H' b := fun hn b hb => ⟨hn b hb, (f b hb).2⟩
  refine loop_of (e _) (fun n s' => ∃ i H', Inv B pins σ H' s' ∧ tn i s'.heap ∧ (∀ b ∈ fp, H' b = none) ∧ W i n H') ?_ m0 ⟨0, H, I, st, fun b hb => (f b hb).1, w0⟩
  rintro n s5 ⟨i, H5, I5, st5, n5, w5⟩
  rcases tr i n H5 w5 with ⟨stop, nx⟩ | ⟨go, N', hN, step⟩
  · refine thnF (T.done B rfl rfl rfl hc i pins s5 _ H5 NoE I5 (stat n5) st5 stop) fun r s6 ⟨hr, I6⟩ => ?_
    subst hr
    exact ⟨rfl, H5, I6, nx⟩
  · refine thnF (T.item B rfl rfl rfl hc i pins s5 _ H5 NoE I5 (stat n5) st5 go) fun r s6 ⟨u, hr, h6⟩ => ?_
    subst hr
    refine thnF h6 fun _ s7 ⟨x, H7, I7, r7, y7, st7, n7⟩ => ?_
    have r := pg.run _ s7 σ H7 x u _ (I7.pinned (stat n7) (T.obj _ _ st7)) r7 (step x H7 y7)
    rw [hxe] at r
    refine thnF r fun _ s8 h8 => ?_
    obtain ⟨σ8, H8, I8, hw8, y8⟩ := h8
    intro k Q E hk
    refine hem _ σ8 H8 s8 N' k Q E I8 y8 fun s' H' I' nx => ?_
    obtain ⟨m', hm, w'⟩ := hN H' nx
    have kept : ∀ b ∈ fp, ∀ o, s7.heap.get? b = some o → s'.heap.get? b = some o ∧ H' b = none := fun b hb o eo =>
      have z := I'.pin (b, o) (List.mem_append_right _ (List.mem_append_right _ (mem_pinsAt hb eo)))
      ⟨z.1, z.2.1⟩
    refine hk m' s' hm ⟨i + 1, H', I'.unpinned.weak (by rw [← hw8, wipe_length, wipe_length]) (fun j v ev => ?_), T.keep _ _ _ st7 fun b hb o eo => (kept b hb o eo).1, fun b hb => ?_, w'⟩
    · rw [← hw8] at ev
      obtain ⟨e1, e2⟩ := wipe_some ev
      rw [wipe_out fun z => e2 (hvn j z)]
      exact e1
    · obtain ⟨o, eo, _⟩ := T.obj _ _ st7 b hb
      exact (kept b hb o eo).2
theorem em_next (hxe : B.xe = NoE) (hc : B.calm = true) {vs vn : List Nat} (hvn : ∀ i ∈ vn, i ∈ vs) {ix : Expr} {wi : TI} {g : TG} {Y : Rd3} (hi : PI B t ix wi) (hs : ∀ x, foldedSetIterable ix B.env x = pure x)
    {gc : Comprehension} (hg : (clausesOf (comp3 elt t0 i0 t1 i1 t2 i2 scope pos))[j]? = some gc) (ha : gc.is_async = 0)
    (e : ∀ it, compTurn (comp3 elt t0 i0 t1 i1 t2 i2 scope pos) j it (.ref D) B.env = turnOf t p em (comp3 elt t0 i0 t1 i1 t2 i2 scope pos) j it (.ref D) B.env) (pg : PG B t g) (hem : EmOk B em vn Y) :
    EmOk B (emNext (comp3 elt t0 i0 t1 i1 t2 i2 scope pos) j ix (.ref D) B.env) vs (tCl wi g vs Y) := by
  intro pins σ H s N k Q E I y hk
  unfold emNext
  have r := hi.run pins s σ H _ I y
  rw [hxe] at r
  refine wpAny_bind (thnF r fun xv s1 hx => wpAny_bind (wpAny_standAt (wpAny_bind (wpAny_of_eq (hs xv) (wpAny_bind (wpAny_holding (thnF hx fun itv s2 h2 => ?_)))))))
  obtain ⟨it, fp, tn, J, H2, e2, I2, T, st2, f2, W, ⟨m0, w0⟩, tr⟩ := h2
  subst e2
  refine wpAny_bind (wpAny_runOwn ?_)
  rw [Around.mark_none]
  have lp := clause (N := N) hxe hc hvn e pg hem T (I2.weak (wipe_length σ vs) fun j v ev => (wipe_some ev).1) st2 f2 w0 tr
  refine codeAny_mono (start_of hg ha lp (T.self B.A 0 _ _ _ st2 lp)) fun r s' hr => ?_
  obtain ⟨rfl, H', I', nx⟩ := hr
  exact hk s' H' I' nx
/-- [elt for t0 in i0 for t1 in i1 for t2 in i2] -/
def tLc3 (wi : TI) (g : TG) (wi1 : TI) (g1 : TG) (wi2 : TI) (g2 : TG) (te : TE) (vs vs1 vs2 : List Nat) : TE := fun σ H Q => wi σ H fun J H1 => ∀ D, H1 D = none → ∃ W : Nat → Nat → Hp → Prop, (∃ m, W 0 m (upd H1 D (.lst []))) ∧ ∀ i m H, W i m H →
  (J.stop i H ∧ Q (.ref D) H) ∨ (J.go i H ∧ ∃ N : Hp → Prop, (∀ H', N H' → ∃ m', m' < m ∧ W (i + 1) m' H') ∧ ∀ x H', J.yld i H x H' → g x (wipe σ vs) H' fun σ2 H2 => wipe σ2 vs = wipe σ vs ∧ tCl wi1 g1 vs1 (tCl wi2 g2 vs2 (tApp D te)) σ2 H2 N)
variable {X : Cx}
theorem pe_lc3 {own : List (Str × Nat)} {vs1 vs2 : List Nat} {wi wi1 wi2 : TI} {g g1 g2 : TG} {te : TE} (hc : X.calm = true) (hN : X.N.Nodup) (hi : PI X t0 i0 wi) (ok : BlkOk X.N X.env.scope scope own) (hv1 : ∀ i ∈ vs1, i ∈ own.map (·.2)) (hv2 : ∀ i ∈ vs2, i ∈ vs1)
    (hall : ∀ (s : Shared) (H : Hp) (C : Addr) (cl : List (Str × Addr)) (fp : List Addr), PG (X.blk s H scope (compEnvC scope cl C X.env) fp) t0 g ∧
      (PI (X.blk s H scope (compEnvC scope cl C X.env) fp) t1 i1 wi1 ∧ PG (X.blk s H scope (compEnvC scope cl C X.env) fp) t1 g1) ∧
      (PI (X.blk s H scope (compEnvC scope cl C X.env) fp) t2 i2 wi2 ∧ PG (X.blk s H scope (compEnvC scope cl C X.env) fp) t2 g2) ∧ PE (X.blk s H scope (compEnvC scope cl C X.env) fp) elt te)
    (hs : ∀ x, foldedSetIterable i0 X.env x = pure x := by intro _; rfl) (hs1 : ∀ env x, foldedSetIterable i1 env x = pure x := by intro _ _; rfl) (hs2 : ∀ env x, foldedSetIterable i2 env x = pure x := by intro _ _; rfl) :
    PE X (comp3 elt t0 i0 t1 i1 t2 i2 scope pos) (tLc3 wi g wi1 g1 wi2 g2 te (own.map (·.2)) vs1 vs2) := by
  refine ⟨fun pins s σ H Q I h => ?_⟩
  rw [eval_ListComp]
  have hfree : ∀ y ∈ scope.names, y.2 = .free → ∃ c, X.env.cells.lookup y.1 = some c := fun y hy e => (ok.free y hy e).elim (fun k => I.ok.has _ (.inl k)) fun k => I.ok.has _ (.inr k)
  refine wpAny_comprehension_free (use := none) rfl hs (closure_ok hfree) ok.kind (fun y hy e => by rw [ok.uniq y hy, e]) (thn (hi.run pins s σ H _ I h) fun xv s1 hx => thn hx fun itv s2 h2 => ?_)
  obtain ⟨it, fp, tn, J, H2, rfl, I2, T, st2, f2, q⟩ := h2
  refine wpAny_newObj_type (newEnv_comp ?_) (by show 0 ≤ sizeLine; decide)
  have hDn : H2 s2.heap.objs.size = none := I2.hok.fresh (Nat.le_refl _)
  obtain ⟨W, ⟨m0, w0⟩, tr⟩ := q _ hDn
  generalize hD : s2.heap.objs.size = D at hDn w0 tr ⊢
  -- the new list stands
  generalize hs3 : ({ s2 with heap := s2.heap.push { cls := .type "list", data := .seq ([] : List Value).toArray } } : Shared) = s3
  have h3 : s3.heap = s2.heap.push { cls := .type "list", data := .seq ([] : List Value).toArray } := by rw [← hs3]
  have I3 : Inv X pins σ (upd H2 D (.lst [])) s3 := by
    rw [← hs3]
    exact I2.laid (t' := s2.toks) (fun b o e => Heap.get?_push_of_some _ e) (Nat.le_of_eq hD) ⟨Nat.zero_le _, [], 0, .nil, by rw [← hD]; exact Heap.get?_push_size _ rfl⟩
  have f3 : ∀ b ∈ fp, FpOk X pins (upd H2 D (.lst [])) b ∧ b < s3.heap.objs.size := fun b hb => by
    obtain ⟨o, e, _⟩ := T.obj _ _ st2 b hb
    have hlt : b < s2.heap.objs.size := Heap.lt_size e
    refine ⟨⟨?_, (f2 b hb).2⟩, ?_⟩
    · rw [upd_ne (show b ≠ D from hD ▸ Nat.ne_of_lt hlt)]
      exact (f2 b hb).1
    · rw [h3, Heap.size_push]
      exact Nat.lt_succ_of_lt hlt
  have I4 := block_start I3 ok hN f3
  obtain ⟨pg, ⟨pi1, pg1⟩, ⟨pi2, pg2⟩, pe⟩ := hall s3 (upd H2 D (.lst [])) s3.heap.objs.size (cellsFrom (s3.heap.objs.size + 1) scope.names (cloFrom X.env.cells scope.names [])) fp
  show codeAny _ _ (.compStart (comp3 elt t0 i0 t1 i1 t2 i2 scope pos) 0 (.ref it) (.ref D) (compEnvC scope (cellsFrom (s3.heap.objs.size + 1) scope.names (cloFrom X.env.cells scope.names [])) s3.heap.objs.size X.env)) _ { s3 with heap := pushCells (s3.heap.push { cls := .type "dict", data := .dict #[] }) scope.names }
  have nfp : ∀ b ∈ fp, (upd H2 D (.lst [])) b = none := fun b hb => (f3 b hb).1.1
  generalize hce : compEnvC scope (cellsFrom (s3.heap.objs.size + 1) scope.names (cloFrom X.env.cells scope.names [])) s3.heap.objs.size X.env = ce at I4 pg pe pi1 pg1 pi2 pg2 ⊢
  have cL : ce.locals = s3.heap.objs.size := by rw [← hce]; rfl
  generalize hH3 : upd H2 D (.lst []) = H3 at I3 I4 pg pe pi1 pg1 pi2 pg2 w0 nfp f3
  generalize hs4 : ({ s3 with heap := pushCells (s3.heap.push { cls := .type "dict", data := .dict #[] }) scope.names } : Shared) = s4 at I4 ⊢
  have st3 : tn 0 s3.heap := T.keep _ _ _ st2 fun b _ o e => by rw [h3]; exact Heap.get?_push_of_some _ e
  have st4 : tn 0 s4.heap := T.keep _ _ _ st3 fun b _ o e => by rw [← hs4]; exact pushCells_keeps _ _ _ _ (Heap.get?_push_of_some _ e)
  have f4 : ∀ b ∈ fp, FpOk (X.blk s3 H3 scope ce fp) [] H3 b := fun b hb => ⟨nfp b hb, (I4.ok.exf b hb).1, I4.ok.exfs b hb, .inl hb, fun x c e => (I4.ok.exf b hb).2 x c e, fun p hp => absurd (show p ∈ ([] : List (Addr × Obj)) ++ [] from hp) (by simp)⟩
  have e2 := em_last (B := X.blk s3 H3 scope ce fp) (D := D) rfl pe
  have e1 := em_next (B := X.blk s3 H3 scope ce fp) (elt := elt) (t0 := t0) (i0 := i0) (t1 := t1) (i1 := i1) (t2 := t2) (i2 := i2) (scope := scope) (pos := pos) (D := D) (vs := vs2) rfl hc (fun i z => by cases z) pi2 (hs2 _) (j := 2) rfl rfl (fun it => turn2) pg2 e2
  have e0 := em_next (B := X.blk s3 H3 scope ce fp) (elt := elt) (t0 := t0) (i0 := i0) (t1 := t1) (i1 := i1) (t2 := t2) (i2 := i2) (scope := scope) (pos := pos) (D := D) (vs := vs1) rfl hc hv2 pi1 (hs1 _) (j := 1) rfl rfl (fun it => turn1) pg1 e1
  have lp := clause (B := X.blk s3 H3 scope ce fp) (elt := elt) (t0 := t0) (i0 := i0) (t1 := t1) (i1 := i1) (t2 := t2) (i2 := i2) (scope := scope) (pos := pos) (D := D) (N := fun H' => Q (.ref D) H') (vs := own.map (·.2)) rfl hc hv1 (j := 0) (fun it => turn0) pg e0 T I4 st4 f4 w0 tr
  refine codeAny_mono (codeAny_compStart_list lp (T.self X.A 0 _ _ _ st4 lp)) fun r s' hr => ?_
  obtain ⟨rfl, H', I', qq⟩ := hr
  have I7 : Inv X pins σ H' s' := I3.call' (ch := fp) I'.os I'.base I'.hok I'.bare fun b hb => ⟨(f3 b hb).1.2.2.2.1, (f3 b hb).1.2.1, (f3 b hb).1.2.2.2.2.1, (f3 b hb).1.2.2.2.2.2⟩
  have nC : H' ce.locals = none := I'.free
  obtain ⟨m, hn, _⟩ := I'.loc
  have hn : s'.heap.Ns ce.locals m := hn
  rw [cL] at hn nC
  obtain ⟨f0, f1, f2', f5, f6, f7⟩ := I3.fpOk (Nat.le_refl _) nC
  exact ⟨m, hn, fun h'' sb => ⟨.ref D, H', I7.turned (t' := s'.toks) (fun b o hb e => (sb.2 b hb).trans e) f0 f1 f5 f6 f7, rfl, qq⟩⟩
/-- a clause over a walk -/
theorem cl_it {J : It} {n : Nat} {G : Hp → Prop} {Yd : Nat → Hp → V → Hp → Prop} (w : Walk J n G Yd) {g : TG} {vs : List Nat} {Y : Rd3} {σ : L2.St} {H : Hp} {N : Hp → Prop} (Pv : Nat → Hp → Prop) (h0 : Pv 0 H) (hG : ∀ i H, i ≤ n → Pv i H → G H)
    (hs : ∀ i x H H', i < n → Pv i H → Yd i H x H' → g x (wipe σ vs) H' fun σ2 H2 => wipe σ2 vs = wipe σ vs ∧ Y σ2 H2 (Pv (i + 1))) (hd : ∀ H, Pv n H → N H) :
    ∃ W : Nat → Nat → Hp → Prop, (∃ m, W 0 m H) ∧ ∀ i m H, W i m H →
      (J.stop i H ∧ N H) ∨ (J.go i H ∧ ∃ N' : Hp → Prop, (∀ H', N' H' → ∃ m', m' < m ∧ W (i + 1) m' H') ∧ ∀ x H', J.yld i H x H' → g x (wipe σ vs) H' fun σ2 H2 => wipe σ2 vs = wipe σ vs ∧ Y σ2 H2 N') := by
  refine ⟨fun i m H => m = n - i ∧ i ≤ n ∧ Pv i H, ⟨n, by simp, Nat.zero_le _, h0⟩, fun i m H z => ?_⟩
  obtain ⟨rfl, hi, pv⟩ := z
  have gg := hG i H hi pv
  rcases Nat.lt_or_ge i n with hlt | hge
  · exact .inr ⟨w.goes i H hlt gg, Pv (i + 1), fun H' p' => ⟨_, by omega, rfl, hlt, p'⟩, fun x H' y => hs i x H H' hlt pv (w.yields i H x H' hlt gg y)⟩
  · obtain rfl : i = n := by omega
    exact .inl ⟨w.stops H gg, hd H pv⟩
end
end C3

set_option Elab.async false
set_option maxRecDepth 100000
set_option maxHeartbeats 4000000
namespace HmT
open PySem PyProof.Rows L2
def p0 : Pos := ⟨0, 0, 0, 0⟩
/-- a suite on which no run goes on -/
def stuck : List Stmt := [.Return (some (.BoolOp .And [] p0)) p0]
theorem some_field {M : Model} {Γ : PySem.Ctx} {e : Value} {n : Nat} {R : Value → Pos → Shared → Prop} {E : Value → Pos → Shared → Prop} {p : Pos} {s : Shared} (h : Sem.wp M Γ (field e n) R E p s) : ∃ v p' s', R v p' s' := by
  unfold field fieldsOf at h
  rw [Sem.wp_bind'] at h
  cases e with
  | ref a =>
    dsimp only at h
    rw [Sem.wp_bind'] at h
    obtain ⟨o, ho, h⟩ := (show ∃ o, s.heap.get? a = some o ∧ _ from h)
    rw [Sem.wp_pure] at h
    cases hd : o.data with
    | fields vs =>
      rw [hd] at h
      dsimp only at h
      rw [Sem.wp_pure'] at h
      cases hx : vs[n]? with
      | some x =>
        rw [hx] at h
        dsimp only at h
        rw [Sem.wp_pure'] at h
        exact ⟨_, _, _, h⟩
      | none =>
        rw [hx] at h
        exact h.elim
    | _ =>
      rw [hd] at h
      exact h.elim
  | _ => exact h.elim
theorem no_flight {M : Model} {Γ : PySem.Ctx} {e : Value} {E : Value → Pos → Shared → Prop} {p : Pos} {s : Shared} (h : Sem.wp M Γ (setFlight e none) (fun _ _ _ => False) E p s) : False := by
  unfold setFlight at h
  rw [Sem.wp_bind'] at h
  obtain ⟨v, p', s', h⟩ := some_field h
  by_cases c : (v != Value.none) = true
  · rw [if_pos c] at h
    unfold setField updateField at h
    cases v with
    | ref a =>
      dsimp only at h
      rw [Sem.wp_bind'] at h
      obtain ⟨o, ho, h⟩ := (show ∃ o, s'.heap.get? a = some o ∧ _ from h)
      rw [Sem.wp_pure] at h
      cases hd : o.data with
      | fields vs =>
        rw [hd] at h
        dsimp only at h
        by_cases c3 : 3 < vs.size
        · rw [if_pos c3] at h
          exact (show _ ∧ False from h).2
        · rw [if_neg c3] at h
          exact h
      | _ =>
        rw [hd] at h
        exact h
    | _ => exact h
  · rw [if_neg c] at h
    exact h
theorem no_stuck {M : Model} {Γ : PySem.Ctx} {env : Env} {Q : Flow → Pos → Shared → Prop} {E : Value → Pos → Shared → Prop} {p : Pos} {s : Shared} (h : Sem.wp M Γ (execs stuck env) Q E p s) : False := by
  unfold stuck execs at h
  rw [Sem.wp_bind'] at h
  unfold exec at h
  exact h
theorem no_suite {prog : Program} {w : World} {Γ : PySem.Ctx} {e : Value} {env : Env} {pos : Pos} {R : Result → Shared → Prop} {p : Pos} {s : Shared} (hc : Γ.code = .handlers e [.ExceptHandler none none stuck pos] env) (h : wpCode (model prog w) Γ R p s) : False := by
  rw [wpCode_iff_wp, hc] at h
  have h2 : Sem.wp (model prog w) Γ (do return Fin.done (← (handleWith e env [.ExceptHandler none none stuck pos]).onRaise (fun x => do noteFrame x env; theTreesLotGoes x))) (Sem.finPost (model prog w) Γ R) (fun e _ s' => R (.error e) s') p s := h
  rw [Sem.wp_bind', Sem.wp_onRaise] at h2
  unfold handleWith at h2
  rw [Sem.wp_bind'] at h2
  have h3 := (show Sem.wp (model prog w) Γ (do setFlight e none; execs stuck env) _ _ _ _ from h2)
  rw [Sem.wp_bind'] at h3
  exact no_flight (Sem.wp_mono (model prog w) Γ _ (fun _ _ _ z => no_stuck z) (fun _ _ _ z => z) _ _ h3)
/-- a first clause that is not hit: by a run of the same statement with a stuck suite -/
theorem skip_handler {prog : Program} {w : World} {Γ : PySem.Ctx} {e : Value} {env : Env} {t : Expr} {name : Option Str} {body : List Stmt} {pos : Pos} {rest : List ExceptHandler} {Q : Flow → Pos → Shared → Prop} {E : Value → Pos → Shared → Prop} {p : Pos} {s : Shared}
    (h : Sem.wp (model prog w) Γ (handleBy e env (.ExceptHandler (some t) none stuck pos :: rest)) Q E p s) : Sem.wp (model prog w) Γ (handleBy e env (.ExceptHandler (some t) name body pos :: rest)) Q E p s := by
  unfold handleBy at h ⊢
  rw [Sem.wp_bind'] at h ⊢
  refine Sem.wp_mono (model prog w) Γ _ (fun hit p' s' z => ?_) (fun _ _ _ z => z) _ _ h
  cases hit with
  | next => exact z
  | cont => exact z
  | ret v => exact z
  | brk =>
    exfalso
    have z1 : Sem.wp (model prog w) Γ ((holding [e] (runOwn (.handlers e [.ExceptHandler none none stuck pos] env) env (some e))).bind fun f => Sem.pure f) Q E p' s' := z
    rw [Sem.wp_bind, Sem.wp_holding] at z1
    unfold runOwn at z1
    rw [Sem.wp_onRaise, Sem.wp_run] at z1
    exact no_suite rfl z1
theorem skip_try {prog : Program} {w : World} {A : Around} {env : Env} {sb : List Stmt} {t : Expr} {name : Option Str} {body : List Stmt} {pos pos' : Pos} {rest : List ExceptHandler} {Q : Flow → Shared → Prop} {E : Value → Shared → Prop} {s : Shared}
    (h : wpAny (model prog w) A (exec (.Try sb (.ExceptHandler (some t) none stuck pos :: rest) [] [] pos') env) Q E s) : wpAny (model prog w) A (exec (.Try sb (.ExceptHandler (some t) name body pos :: rest) [] [] pos') env) Q E s := by
  intro Γ p hΓ
  have h1 := h Γ p hΓ
  rw [arm_exec_Try, Sem.wp_bind'] at h1 ⊢
  refine Sem.wp_mono (model prog w) Γ _ (fun _ p' s' z => ?_) (fun _ _ _ z => z) _ _ h1
  have e1 : ∀ hd : ExceptHandler, tryStmt false (execs sb env) (hd :: rest) (execs [] env) [] env = (do
      match ← (execs sb env).attempt with
      | .ok .next => execs [] env
      | .ok f => pure f
      | .error e => do noteFrame e env; setFlight e none; handleBy e env (hd :: rest)) := fun hd => rfl
  rw [e1] at z ⊢
  rw [Sem.wp_bind', Sem.wp_attempt] at z ⊢
  refine Sem.wp_mono (model prog w) Γ _ (fun a _ _ z => by cases a <;> exact z) (fun e p2 s2 z => ?_) _ _ z
  have z1 : Sem.wp (model prog w) Γ (do noteFrame e env; setFlight e none; handleBy e env (.ExceptHandler (some t) none stuck pos :: rest)) (fun a _ s' => Q a s') (fun e _ s' => E e s') p2 s2 := z
  show Sem.wp (model prog w) Γ (do noteFrame e env; setFlight e none; handleBy e env (.ExceptHandler (some t) name body pos :: rest)) (fun a _ s' => Q a s') (fun e _ s' => E e s') p2 s2
  rw [Sem.wp_bind'] at z1 ⊢
  refine Sem.wp_mono (model prog w) Γ _ (fun _ p3 s3 z => ?_) (fun _ _ _ z => z) _ _ z1
  rw [Sem.wp_bind'] at z ⊢
  exact Sem.wp_mono (model prog w) Γ _ (fun _ p4 s4 z => skip_handler z) (fun _ _ _ z => z) _ _ z
theorem ps_skip {X : Cx} {sb : List Stmt} {t : Expr} {name : Option Str} {body : List Stmt} {pos pos' : Pos} {rest : List ExceptHandler} {tt : TS} (h : PS X (.Try sb (.ExceptHandler (some t) none stuck pos :: rest) [] [] pos') tt) :
    PS X (.Try sb (.ExceptHandler (some t) name body pos :: rest) [] [] pos') tt := ⟨fun pins s σ H D I q => skip_try (h.run pins s σ H D I q)⟩
end HmT

set_option Elab.async false
set_option maxRecDepth 100000
set_option maxHeartbeats 4000000
set_option linter.all false
namespace Dl
/-! ### the mathematics of deals: which fall, by which chains -/
abbrev Mv := Int × Int × Int
def mvd (d : List Mv) : List Int := d.map (·.1)
def dl (ds : List (List Mv)) (i : Nat) : List Mv := ds.getD i []
def movers (ds : List (List Mv)) (p : Nat) (s : Int) : List Nat := (List.range p).filter fun i => (mvd (dl ds i)).contains s
def lk : List (Nat × List Nat) → Nat → Option (List Nat)
  | [], _ => none
  | (k, c) :: r, q => if k = q then some c else lk r q
def leans (ds : List (List Mv)) (p : Nat) : List Nat := (mvd (dl ds p)).flatMap fun s => (movers ds p s).getLast?.toList
section
variable (mn : List Nat → List (List Nat) → List Nat) (ds : List (List Mv)) (f : Int)
def chain1 (n : Nat) (g : List (Nat × List Nat)) : Option (List Nat) :=
  if (mvd (dl ds n)).contains f then some [n]
  else match (leans ds n).filterMap (fun q => lk g q) with
    | [] => none
    | c :: cs => some (mn c cs ++ [n])
def chainsN : Nat → List (Nat × List Nat)
  | 0 => []
  | n + 1 => match chain1 mn ds f n (chainsN n) with
    | none => chainsN n
    | some c => chainsN n ++ [(n, c)]
def gone (n : Nat) : List Nat := (chainsN mn ds f n).map (·.1)
end
theorem mem_movers {ds : List (List Mv)} {p i : Nat} {s : Int} : i ∈ movers ds p s ↔ i < p ∧ s ∈ mvd (dl ds i) := by
  unfold movers
  rw [List.mem_filter, List.mem_range, List.contains_iff_mem]
theorem movers_pw {ds : List (List Mv)} {p : Nat} {s : Int} : (movers ds p s).Pairwise (· < ·) := List.Pairwise.filter _ List.pairwise_lt_range
theorem le_last {l : List Nat} (h : l.Pairwise (· < ·)) {i m : Nat} (hi : i ∈ l) (hm : l.getLast? = some m) : i ≤ m := by
  induction l with
  | nil => simp at hi
  | cons a r ih =>
    rw [List.pairwise_cons] at h
    cases r with
    | nil =>
      simp at hi hm
      omega
    | cons b t =>
      rw [List.getLast?_cons_cons] at hm
      rcases List.mem_cons.mp hi with z | z
      · have hb := h.1 b List.mem_cons_self
        have := h.1 m (List.mem_of_getLast? hm)
        omega
      · exact ih h.2 z hm
theorem mem_leans {ds : List (List Mv)} {p q : Nat} : q ∈ leans ds p ↔ ∃ s ∈ mvd (dl ds p), (movers ds p s).getLast? = some q := by
  unfold leans
  rw [List.mem_flatMap]
  constructor
  · rintro ⟨s, hs, h⟩
    exact ⟨s, hs, by simpa using h⟩
  · rintro ⟨s, hs, h⟩
    exact ⟨s, hs, by simpa using h⟩
theorem leans_lt {ds : List (List Mv)} {p q : Nat} (h : q ∈ leans ds p) : q < p := by
  obtain ⟨s, _, h⟩ := mem_leans.mp h
  exact (mem_movers.mp (List.mem_of_getLast? h)).1
theorem lookup_mem {g : List (Nat × List Nat)} {q : Nat} {c : List Nat} (h : lk g q = some c) : (q, c) ∈ g := by
  induction g with
  | nil => cases h
  | cons a r ih =>
    obtain ⟨k, v⟩ := a
    unfold lk at h
    by_cases z : k = q
    · subst z
      rw [if_pos rfl] at h
      cases h
      exact List.mem_cons_self
    · rw [if_neg z] at h
      exact List.mem_cons_of_mem _ (ih h)
theorem lookup_some {g : List (Nat × List Nat)} {q : Nat} (h : q ∈ g.map (·.1)) : ∃ c, lk g q = some c := by
  induction g with
  | nil => simp at h
  | cons a r ih =>
    obtain ⟨k, v⟩ := a
    unfold lk
    by_cases z : k = q
    · exact ⟨v, if_pos z⟩
    · rw [if_neg z]
      rw [List.map_cons, List.mem_cons] at h
      exact ih (h.resolve_left fun w => z w.symm)
section
variable {mn : List Nat → List (List Nat) → List Nat} {ds : List (List Mv)} {f : Int}
/-- falls, by what falls ahead -/
def Fl (mn : List Nat → List (List Nat) → List Nat) (ds : List (List Mv)) (f : Int) (p : Nat) : Prop := p ∈ gone mn ds f (p + 1)
theorem chain1_isSome {n : Nat} {g : List (Nat × List Nat)} : (chain1 mn ds f n g).isSome = true ↔ f ∈ mvd (dl ds n) ∨ ∃ q ∈ leans ds n, q ∈ g.map (·.1) := by
  unfold chain1
  by_cases z : f ∈ mvd (dl ds n)
  · rw [if_pos (by rw [List.contains_iff_mem]; exact z)]
    simp [z]
  · rw [if_neg (by rw [List.contains_iff_mem]; exact z)]
    constructor
    · intro h
      right
      cases e : (leans ds n).filterMap (fun q => lk g q) with
      | nil => rw [e] at h; cases h
      | cons c cs =>
        have : c ∈ (leans ds n).filterMap (fun q => lk g q) := by rw [e]; exact List.mem_cons_self
        obtain ⟨q, hq, hc⟩ := List.mem_filterMap.mp this
        exact ⟨q, hq, List.mem_map.mpr ⟨_, lookup_mem hc, rfl⟩⟩
    · rintro (h | ⟨q, hq, hg⟩)
      · exact absurd h z
      · obtain ⟨c, hc⟩ := lookup_some hg
        have : c ∈ (leans ds n).filterMap (fun q => lk g q) := List.mem_filterMap.mpr ⟨q, hq, hc⟩
        cases e : (leans ds n).filterMap (fun q => lk g q) with
        | nil => rw [e] at this; simp at this
        | cons c cs => rfl
theorem gone_succ (n : Nat) : gone mn ds f (n + 1) = if (chain1 mn ds f n (chainsN mn ds f n)).isSome = true then gone mn ds f n ++ [n] else gone mn ds f n := by
  unfold gone
  rw [chainsN]
  cases chain1 mn ds f n (chainsN mn ds f n) with
  | none => rfl
  | some c => simp
theorem gone_lt {n q : Nat} (h : q ∈ gone mn ds f n) : q < n := by
  induction n with
  | zero => simp [gone, chainsN] at h
  | succ n ih =>
    rw [gone_succ] at h
    split at h
    · rcases List.mem_append.mp h with z | z
      · have := ih z
        omega
      · simp at z
        omega
    · have := ih h
      omega
theorem gone_pw (n : Nat) : (gone mn ds f n).Pairwise (· < ·) := by
  induction n with
  | zero => simp [gone, chainsN]
  | succ n ih =>
    rw [gone_succ]
    split
    · rw [List.pairwise_append]
      refine ⟨ih, by simp, fun a ha b hb => ?_⟩
      simp at hb
      have := gone_lt ha
      omega
    · exact ih
theorem mem_gone {n q : Nat} : q ∈ gone mn ds f n ↔ q < n ∧ Fl mn ds f q := by
  induction n with
  | zero => simp [gone, chainsN]
  | succ n ih =>
    by_cases z : q = n
    · subst z
      exact ⟨fun h => ⟨by omega, h⟩, fun h => h.2⟩
    · rw [gone_succ]
      have : q ∈ (if (chain1 mn ds f n (chainsN mn ds f n)).isSome = true then gone mn ds f n ++ [n] else gone mn ds f n) ↔ q ∈ gone mn ds f n := by
        split
        · rw [List.mem_append, List.mem_singleton]
          exact ⟨fun h => h.resolve_right z, .inl⟩
        · exact Iff.rfl
      rw [this, ih]
      exact ⟨fun h => ⟨by omega, h.2⟩, fun h => ⟨by omega, h.2⟩⟩
theorem fl_iff {p : Nat} : Fl mn ds f p ↔ f ∈ mvd (dl ds p) ∨ ∃ q ∈ leans ds p, Fl mn ds f q := by
  unfold Fl
  rw [gone_succ]
  have e := chain1_isSome (mn := mn) (ds := ds) (f := f) (n := p) (g := chainsN mn ds f p)
  have nin : p ∉ gone mn ds f p := fun h => by have := gone_lt h; omega
  have key : (∃ q ∈ leans ds p, q ∈ (chainsN mn ds f p).map (·.1)) ↔ ∃ q ∈ leans ds p, q ∈ gone mn ds f (q + 1) := by
    constructor
    · rintro ⟨q, hq, h⟩
      exact ⟨q, hq, (mem_gone (n := p).mp h).2⟩
    · rintro ⟨q, hq, h⟩
      exact ⟨q, hq, mem_gone.mpr ⟨leans_lt hq, h⟩⟩
  rw [key] at e
  rw [← e]
  split
  · rename_i h
    simp [h]
  · rename_i h
    exact ⟨fun z => absurd z nin, fun z => absurd z h⟩
/-- whoever moves behind a fallen deal what it moved, falls -/
theorem fl_behind {s : Int} {r : Nat} (hr : Fl mn ds f r) (sr : s ∈ mvd (dl ds r)) : ∀ q, r < q → s ∈ mvd (dl ds q) → Fl mn ds f q := by
  intro q
  induction q using Nat.strongRecOn with
  | ind q ih =>
    intro rq sq
    cases e : (movers ds q s).getLast? with
    | none =>
      have : r ∈ movers ds q s := mem_movers.mpr ⟨rq, sr⟩
      rw [List.getLast?_eq_none_iff] at e
      rw [e] at this
      simp at this
    | some l =>
      have hl := mem_movers.mp (List.mem_of_getLast? e)
      have rl : r ≤ l := le_last movers_pw (mem_movers.mpr ⟨rq, sr⟩) e
      have fl : Fl mn ds f l := by
        by_cases z : r = l
        · rw [← z]
          exact hr
        · exact ih l hl.1 (by omega) hl.2
      exact fl_iff.mpr (.inr ⟨l, mem_leans.mpr ⟨s, sq, e⟩, fl⟩)
theorem chainsN_congr {ds' : List (List Mv)} {n : Nat} (h : ∀ i, i < n → dl ds i = dl ds' i) : chainsN mn ds f n = chainsN mn ds' f n := by
  induction n with
  | zero => rfl
  | succ n ih =>
    have e := ih fun i hi => h i (by omega)
    have em : ∀ s, movers ds n s = movers ds' n s := fun s => by
      unfold movers
      refine List.filter_congr fun i hi => ?_
      rw [h i (by have := List.mem_range.mp hi; omega)]
    have el : leans ds n = leans ds' n := by
      unfold leans
      rw [h n (by omega)]
      simp only [em]
    have ec : chain1 mn ds f n (chainsN mn ds f n) = chain1 mn ds' f n (chainsN mn ds' f n) := by
      unfold chain1
      rw [h n (by omega), el, e]
    rw [chainsN, chainsN, ec, e]
theorem dl_take {m i : Nat} (h : i < m) : dl (ds.take m) i = dl ds i := by
  unfold dl
  rw [List.getD_eq_getElem?_getD, List.getD_eq_getElem?_getD, List.getElem?_take, if_pos h]
theorem chainsN_take {m n : Nat} (h : n ≤ m) : chainsN mn (ds.take m) f n = chainsN mn ds f n := chainsN_congr fun i hi => dl_take (by omega)
/-! ### chains -/
inductive IsCh (ds : List (List Mv)) (f : Int) : List Nat → Nat → Prop where
  | base {p : Nat} : f ∈ mvd (dl ds p) → IsCh ds f [p] p
  | step {c : List Nat} {q p : Nat} : IsCh ds f c q → q ∈ leans ds p → IsCh ds f (c ++ [p]) p
theorem chains_ok (hmn : ∀ c cs, mn c cs ∈ c :: cs) {n p : Nat} {c : List Nat} (h : (p, c) ∈ chainsN mn ds f n) : IsCh ds f c p ∧ p < n := by
  induction n generalizing p c with
  | zero => simp [chainsN] at h
  | succ n ih =>
    rw [chainsN] at h
    cases e : chain1 mn ds f n (chainsN mn ds f n) with
    | none =>
      rw [e] at h
      have := ih h
      exact ⟨this.1, by omega⟩
    | some d =>
      rw [e] at h
      rcases List.mem_append.mp h with z | z
      · have := ih z
        exact ⟨this.1, by omega⟩
      · rw [List.mem_singleton] at z
        cases z
        refine ⟨?_, by omega⟩
        unfold chain1 at e
        split at e
        · rename_i hf
          cases e
          exact .base (List.contains_iff_mem.mp hf)
        · split at e
          · cases e
          · rename_i c1 cs he
            cases e
            have hm := hmn c1 cs
            rw [← he] at hm
            obtain ⟨q, hq, hc⟩ := List.mem_filterMap.mp hm
            exact .step (ih (lookup_mem hc)).1 hq
theorem IsCh.ne {c : List Nat} {p : Nat} (h : IsCh ds f c p) : c ≠ [] := by cases h <;> simp
theorem IsCh.last {c : List Nat} {p : Nat} (h : IsCh ds f c p) : c.getLast? = some p := by cases h <;> simp
theorem IsCh.le {c : List Nat} {p : Nat} (h : IsCh ds f c p) : ∀ i ∈ c, i ≤ p := by
  induction h with
  | base _ => simp
  | step h1 h2 ih =>
    intro i hi
    have := leans_lt h2
    rcases List.mem_append.mp hi with z | z
    · have := ih i z
      omega
    · simp at z
      omega
theorem IsCh.pw {c : List Nat} {p : Nat} (h : IsCh ds f c p) : c.Pairwise (· < ·) := by
  induction h with
  | base _ => simp
  | step h1 h2 ih =>
    have := leans_lt h2
    rw [List.pairwise_append]
    refine ⟨ih, by simp, fun a ha b hb => ?_⟩
    simp at hb
    have := h1.le a ha
    omega
theorem IsCh.fl {c : List Nat} {p : Nat} (h : IsCh ds f c p) : ∀ i ∈ c, Fl mn ds f i := by
  have last : ∀ {c p}, IsCh ds f c p → (∀ i ∈ c, Fl mn ds f i) → Fl mn ds f p := fun h a => a _ (List.mem_of_getLast? h.last)
  induction h with
  | base h =>
    intro i hi
    simp at hi
    subst hi
    exact fl_iff.mpr (.inl h)
  | step h1 h2 ih =>
    intro i hi
    rcases List.mem_append.mp hi with z | z
    · exact ih i z
    · simp at z
      subst z
      exact fl_iff.mpr (.inr ⟨_, h2, last h1 ih⟩)
theorem IsCh.head {c : List Nat} {p : Nat} (h : IsCh ds f c p) : ∃ a r, c = a :: r ∧ f ∈ mvd (dl ds a) := by
  induction h with
  | base h => exact ⟨_, _, rfl, h⟩
  | step h1 h2 ih =>
    obtain ⟨a, r, rfl, h⟩ := ih
    exact ⟨a, _, rfl, h⟩
/-- each but the first leans on the one ahead -/
def linked (ds : List (List Mv)) : List Nat → Bool
  | a :: b :: r => (leans ds b).contains a && linked ds (b :: r)
  | _ => true
theorem linked_snoc {c : List Nat} {q p : Nat} (h : linked ds c = true) (l : c.getLast? = some q) (k : q ∈ leans ds p) : linked ds (c ++ [p]) = true := by
  induction c with
  | nil => simp at l
  | cons a r ih =>
    cases r with
    | nil =>
      simp at l
      subst l
      show ((leans ds p).contains a && true) = true
      rw [Bool.and_true, List.contains_iff_mem]
      exact k
    | cons b t =>
      rw [List.getLast?_cons_cons] at l
      have h : ((leans ds b).contains a && linked ds (b :: t)) = true := h
      rw [Bool.and_eq_true] at h
      show ((leans ds b).contains a && linked ds (b :: t ++ [p])) = true
      rw [Bool.and_eq_true]
      exact ⟨h.1, ih h.2 l⟩
theorem IsCh.linked {c : List Nat} {p : Nat} (h : IsCh ds f c p) : Dl.linked ds c = true := by
  induction h with
  | base h => rfl
  | step h1 h2 ih => exact linked_snoc ih h1.last h2
end
end Dl

set_option Elab.async false
set_option maxRecDepth 100000
set_option maxHeartbeats 4000000
set_option linter.all false
namespace Dl
/-! ### the mathematics of owners -/
structure OwOk (os : List Int) : Prop where
  l0 : 1 ≤ os.length
  l1 : os.length ≤ 12
  rng : ∀ o ∈ os, 0 ≤ o ∧ o ≤ 5
structure MvOk (os : List Int) (m : Mv) : Prop where
  s0 : 0 ≤ m.1
  s1 : m.1 < os.length
  g0 : 0 ≤ m.2.1
  g1 : m.2.1 ≤ 5
  t0 : 0 ≤ m.2.2
  t1 : m.2.2 ≤ 5
  ne : m.2.1 ≠ m.2.2
  own : os[m.1.toNat]? = some m.2.1
structure DlOk (os : List Int) (d : List Mv) : Prop where
  l0 : 1 ≤ d.length
  l1 : d.length ≤ 6
  mv : ∀ m ∈ d, MvOk os m
  once : (mvd d).Nodup
def doneD (os : List Int) (d : List Mv) : List Int := d.foldl (fun o m => o.set m.1.toNat m.2.2) os
def doneM (os : List Int) (ds : List (List Mv)) : List Int := ds.foldl doneD os
def DlsOk : List Int → List (List Mv) → Prop
  | _, [] => True
  | os, d :: r => DlOk os d ∧ DlsOk (doneD os d) r
theorem doneD_len (os : List Int) (d : List Mv) : (doneD os d).length = os.length := by
  unfold doneD
  induction d generalizing os with
  | nil => rfl
  | cons m r ih => rw [List.foldl_cons, ih, List.length_set]
theorem doneM_len (os : List Int) (ds : List (List Mv)) : (doneM os ds).length = os.length := by
  unfold doneM
  induction ds generalizing os with
  | nil => rfl
  | cons m r ih => rw [List.foldl_cons, ih, doneD_len]
theorem doneM_snoc (os : List Int) (ds : List (List Mv)) (d : List Mv) : doneM os (ds ++ [d]) = doneD (doneM os ds) d := by unfold doneM; rw [List.foldl_append]; rfl
theorem doneD_snoc (os : List Int) (d : List Mv) (m : Mv) : doneD os (d ++ [m]) = (doneD os d).set m.1.toNat m.2.2 := by unfold doneD; rw [List.foldl_append]; rfl
theorem doneD_out {i : Nat} {d : List Mv} (h : ∀ m ∈ d, m.1.toNat ≠ i) (os : List Int) : (doneD os d)[i]? = os[i]? := by
  unfold doneD
  induction d generalizing os with
  | nil => rfl
  | cons m r ih =>
    rw [List.foldl_cons, ih (fun x hx => h x (List.mem_cons_of_mem _ hx)), List.getElem?_set_ne (h m List.mem_cons_self)]
theorem doneD_eq {i : Nat} {d : List Mv} {o o' : List Int} (hl : o.length = o'.length) (h : o[i]? = o'[i]?) : (doneD o d)[i]? = (doneD o' d)[i]? := by
  unfold doneD
  induction d generalizing o o' with
  | nil => exact h
  | cons m r ih =>
    rw [List.foldl_cons, List.foldl_cons]
    refine ih (by rw [List.length_set, List.length_set, hl]) ?_
    rw [List.getElem?_set, List.getElem?_set, hl, h]
theorem dlsOk_snoc {os : List Int} {ds : List (List Mv)} {d : List Mv} : DlsOk os (ds ++ [d]) ↔ DlsOk os ds ∧ DlOk (doneM os ds) d := by
  induction ds generalizing os with
  | nil =>
    show DlOk os d ∧ True ↔ True ∧ DlOk os d
    exact ⟨fun h => ⟨trivial, h.1⟩, fun h => ⟨h.2, trivial⟩⟩
  | cons x r ih =>
    show DlOk os x ∧ DlsOk (doneD os x) (r ++ [d]) ↔ (DlOk os x ∧ DlsOk (doneD os x) r) ∧ DlOk (doneM (doneD os x) r) d
    rw [ih]
    exact ⟨fun h => ⟨⟨h.1, h.2.1⟩, h.2.2⟩, fun h => ⟨h.1.1, h.1.2, h.2⟩⟩
theorem take_succ_dl {ds : List (List Mv)} {n : Nat} (h : n < ds.length) : ds.take (n + 1) = ds.take n ++ [dl ds n] := by
  unfold dl
  rw [List.take_add_one, List.getD_eq_getElem?_getD, List.getElem?_eq_getElem h]
  rfl
theorem dlsOk_take {os : List Int} {ds : List (List Mv)} (h : DlsOk os ds) (n : Nat) : DlsOk os (ds.take n) := by
  induction ds generalizing os n with
  | nil =>
    rw [List.take_nil]
    trivial
  | cons x r ih =>
    cases n with
    | zero => trivial
    | succ n => exact ⟨h.1, ih h.2 n⟩
theorem dlsOk_at {os : List Int} {ds : List (List Mv)} (h : DlsOk os ds) {n : Nat} (hn : n < ds.length) : DlOk (doneM os (ds.take n)) (dl ds n) := by
  have := dlsOk_take h (n + 1)
  rw [take_succ_dl hn, dlsOk_snoc] at this
  exact this.2
theorem dlsOk_mv {os : List Int} {ds : List (List Mv)} (h : DlsOk os ds) : ∀ d ∈ ds, ∀ m ∈ d, 0 ≤ m.1 ∧ m.1 < os.length := by
  induction ds generalizing os with
  | nil => simp
  | cons x r ih =>
    intro d hd m hm
    rcases List.mem_cons.mp hd with z | z
    · subst z
      exact ⟨(h.1.mv m hm).s0, (h.1.mv m hm).s1⟩
    · have := ih h.2 d z m hm
      rw [doneD_len] at this
      exact this
theorem dlsOk_ln {os : List Int} {ds : List (List Mv)} (h : DlsOk os ds) : ∀ d ∈ ds, d.length ≤ 6 := by
  induction ds generalizing os with
  | nil => simp
  | cons x r ih =>
    intro d hd
    rcases List.mem_cons.mp hd with z | z
    · subst z
      exact h.1.l1
    · exact ih h.2 d z
theorem dl_mem {ds : List (List Mv)} {n : Nat} (h : n < ds.length) : dl ds n ∈ ds := by
  unfold dl
  rw [List.getD_eq_getElem?_getD, List.getElem?_eq_getElem h]
  exact List.getElem_mem h
theorem doneM_rng {os : List Int} {ds : List (List Mv)} (h : DlsOk os ds) (r : ∀ o ∈ os, 0 ≤ o ∧ o ≤ 5) : ∀ o ∈ doneM os ds, 0 ≤ o ∧ o ≤ 5 := by
  have one : ∀ (d : List Mv) (os : List Int), (∀ m ∈ d, 0 ≤ m.2.2 ∧ m.2.2 ≤ 5) → (∀ o ∈ os, 0 ≤ o ∧ o ≤ 5) → ∀ o ∈ doneD os d, 0 ≤ o ∧ o ≤ 5 := by
    intro d
    induction d with
    | nil => exact fun _ _ h => h
    | cons m r ih =>
      intro os hm ho o h
      have h : o ∈ doneD (os.set m.1.toNat m.2.2) r := h
      refine ih _ (fun x hx => hm x (List.mem_cons_of_mem _ hx)) (fun x hx => ?_) o h
      rcases List.mem_or_eq_of_mem_set hx with z | z
      · exact ho x z
      · rw [z]
        exact hm m List.mem_cons_self
  induction ds generalizing os with
  | nil => exact r
  | cons x q ih =>
    show ∀ o ∈ doneM (doneD os x) q, 0 ≤ o ∧ o ≤ 5
    exact ih h.2 (one x os (fun m hm => ⟨(h.1.mv m hm).t0, (h.1.mv m hm).t1⟩) r)
/-! ### what stands -/
section
variable (mn : List Nat → List (List Nat) → List Nat) (ds : List (List Mv)) (f : Int)
def restN : Nat → List (List Mv)
  | 0 => []
  | n + 1 => if (gone mn ds f ds.length).contains n then restN n else restN n ++ [dl ds n]
end
section
variable {mn : List Nat → List (List Nat) → List Nat} {ds : List (List Mv)} {f : Int} {os : List Int}
theorem gone_has {n : Nat} (h : n < ds.length) : (gone mn ds f ds.length).contains n = true ↔ Fl mn ds f n := by
  rw [List.contains_iff_mem, mem_gone]
  exact ⟨fun h => h.2, fun z => ⟨h, z⟩⟩
theorem rest_fl {n : Nat} (h : n < ds.length) (z : Fl mn ds f n) : restN mn ds f (n + 1) = restN mn ds f n := by
  rw [restN, if_pos ((gone_has h).mpr z)]
theorem rest_st {n : Nat} (h : n < ds.length) (z : ¬ Fl mn ds f n) : restN mn ds f (n + 1) = restN mn ds f n ++ [dl ds n] := by
  rw [restN, if_neg fun w => z ((gone_has h).mp w)]
theorem mvd_of {d : List Mv} {m : Mv} (h : m ∈ d) : m.1 ∈ mvd d := List.mem_map.mpr ⟨m, h, rfl⟩
theorem of_mvd {d : List Mv} {s : Int} (h : s ∈ mvd d) : ∃ m ∈ d, m.1 = s := List.mem_map.mp h
theorem done_out {d : List Mv} {s : Int} (h0 : 0 ≤ s) (hd : ∀ m ∈ d, 0 ≤ m.1) (h : s ∉ mvd d) (o : List Int) : (doneD o d)[s.toNat]? = o[s.toNat]? :=
  doneD_out (fun m hm z => h (by have := hd m hm; rw [show s = m.1 by omega]; exact mvd_of hm)) o
theorem rest_ok (ok : DlsOk os ds) {n : Nat} (hn : n ≤ ds.length) : DlsOk os (restN mn ds f n) ∧
    ∀ s : Int, 0 ≤ s → (∀ r, r < n → Fl mn ds f r → s ∉ mvd (dl ds r)) → (doneM os (restN mn ds f n))[s.toNat]? = (doneM os (ds.take n))[s.toNat]? := by
  induction n with
  | zero => exact ⟨trivial, fun _ _ _ => by rw [List.take_zero]; rfl⟩
  | succ n ih =>
    obtain ⟨i1, i2⟩ := ih (by omega)
    have hn : n < ds.length := hn
    have od := dlsOk_at ok hn
    rw [take_succ_dl hn, doneM_snoc]
    by_cases z : Fl mn ds f n
    · rw [rest_fl hn z]
      refine ⟨i1, fun s h0 h => ?_⟩
      rw [i2 s h0 fun r hr => h r (by omega)]
      exact (done_out h0 (fun m hm => (od.mv m hm).s0) (h n (by omega) z) _).symm
    · rw [rest_st hn z, doneM_snoc]
      refine ⟨dlsOk_snoc.mpr ⟨i1, od.l0, od.l1, fun m hm => ?_, od.once⟩, fun s h0 h => ?_⟩
      · have k := od.mv m hm
        have e := i2 m.1 k.s0 fun r hr fr mr => z (fl_behind fr mr n hr (mvd_of hm))
        exact ⟨k.s0, by have := k.s1; rw [doneM_len] at this ⊢; exact this, k.g0, k.g1, k.t0, k.t1, k.ne, by rw [e]; exact k.own⟩
      · exact doneD_eq (by rw [doneM_len, doneM_len]) (i2 s h0 fun r hr => h r (by omega))
/-- the owner behind what stands is the one ahead of the first fallen deal that moves the stamp -/
theorem rest_first (ok : DlsOk os ds) {s : Int} (h0 : 0 ≤ s) {p : Nat} (hp : p < ds.length) (fp : Fl mn ds f p) (sp : s ∈ mvd (dl ds p)) (first : ∀ r, r < p → Fl mn ds f r → s ∉ mvd (dl ds r)) :
    ∀ n, p ≤ n → n ≤ ds.length → (doneM os (restN mn ds f n))[s.toNat]? = (doneM os (ds.take p))[s.toNat]? := by
  intro n
  induction n with
  | zero =>
    intro h1 _
    have : p = 0 := by omega
    subst this
    rfl
  | succ n ih =>
    intro h1 h2
    by_cases z : p = n + 1
    · subst z
      exact (rest_ok ok h2).2 s h0 first
    · have i := ih (by omega) (by omega)
      have hn : n < ds.length := h2
      by_cases w : Fl mn ds f n
      · rw [rest_fl hn w]
        exact i
      · rw [rest_st hn w, doneM_snoc]
        have od := dlsOk_at ok hn
        have ns : s ∉ mvd (dl ds n) := fun y => w (by
          by_cases e : p = n
          · subst e
            exact fp
          · exact fl_behind fp sp n (by omega) y)
        rw [done_out h0 (fun m hm => (od.mv m hm).s0) ns]
        exact i
theorem rest_len (n : Nat) : (restN mn ds f n).length ≤ n := by
  induction n with
  | zero => exact Nat.le_refl _
  | succ n ih =>
    rw [restN]
    split
    · omega
    · rw [List.length_append, List.length_singleton]
      omega
theorem rest_not {n : Nat} (hn : n ≤ ds.length) : ∀ d ∈ restN mn ds f n, f ∉ mvd d := by
  induction n with
  | zero => simp [restN]
  | succ n ih =>
    have hn : n < ds.length := hn
    by_cases z : Fl mn ds f n
    · rw [rest_fl hn z]
      exact ih (by omega)
    · rw [rest_st hn z]
      intro d hd
      rcases List.mem_append.mp hd with w | w
      · exact ih (by omega) d w
      · rw [List.mem_singleton] at w
        subst w
        exact fun y => z (fl_iff.mpr (.inl y))
theorem none_gone {rs : List (List Mv)} (h : ∀ d ∈ rs, f ∉ mvd d) (n : Nat) : chainsN mn rs f n = [] := by
  induction n with
  | zero => rfl
  | succ n ih =>
    rw [chainsN, ih]
    have : f ∉ mvd (dl rs n) := by
      unfold dl
      rw [List.getD_eq_getElem?_getD]
      cases e : rs[n]? with
      | none => simp [mvd]
      | some d => exact h d (List.mem_of_getElem? e)
    have : chain1 mn rs f n [] = none := by
      unfold chain1
      rw [if_neg (by rw [List.contains_iff_mem]; exact this)]
      have : (leans rs n).filterMap (fun q => lk [] q) = [] := by
        rw [List.filterMap_eq_nil_iff]
        exact fun _ _ => rfl
      rw [this]
    rw [this]
theorem rest_all {rs : List (List Mv)} (h : ∀ d ∈ rs, f ∉ mvd d) : ∀ n, n ≤ rs.length → restN mn rs f n = rs.take n := by
  intro n
  induction n with
  | zero => intro _; rfl
  | succ n ih =>
    intro hn
    have e : gone mn rs f rs.length = [] := by
      unfold gone
      rw [none_gone h]
      rfl
    rw [restN, e, take_succ_dl hn, ih (by omega)]
    rfl
theorem done_not {rs : List (List Mv)} {i : Nat} (h : ∀ d ∈ rs, ∀ m ∈ d, m.1.toNat ≠ i) (os : List Int) : (doneM os rs)[i]? = os[i]? := by
  unfold doneM
  induction rs generalizing os with
  | nil => rfl
  | cons d r ih => rw [List.foldl_cons, ih (fun x hx => h x (List.mem_cons_of_mem _ hx)), doneD_out (h d List.mem_cons_self)]
theorem gone_prefix {n m : Nat} (h : n ≤ m) : gone mn ds f n = (gone mn ds f m).filter fun q => decide (q < n) := by
  induction m with
  | zero =>
    have : n = 0 := by omega
    subst this
    simp [gone, chainsN]
  | succ m ih =>
    by_cases z : n = m + 1
    · subst z
      rw [List.filter_eq_self.mpr]
      intro a ha
      exact decide_eq_true (gone_lt ha)
    · rw [gone_succ, ih (by omega)]
      split
      · rw [List.filter_append, List.filter_cons_of_neg (by simp; omega), List.filter_nil, List.append_nil]
      · rfl
theorem gone_take {m n : Nat} (h : n ≤ m) : gone mn (ds.take m) f n = gone mn ds f n := by
  unfold gone
  rw [chainsN_take h]
end
end Dl

set_option Elab.async false
set_option maxRecDepth 100000
set_option maxHeartbeats 4000000
set_option linter.all false
namespace Da
open PySem PySem.Spec PyProof.Rows L2
/-! ### data -/
inductive D where
  | non
  | bl (b : Bool)
  | int (i : Int)
  | str (s : Str)
  | tup (xs : List D)
  | lst (xs : List D)
  | dK (ks : List Key) (xs : List D)
  | dT (ks : List (List Key)) (xs : List D)
  | ins (C : Addr) (ns : List Str) (xs : List D)
mutual
/-- v is the data d, all of it in the part F -/
inductive Rep (F : Hp) : V → D → Prop where
  | non : Rep F .non .non
  | bl (b : Bool) : Rep F (.bl b) (.bl b)
  | int (i : Int) : Rep F (.int i) (.int i)
  | str (s : Str) : Rep F (.str s) (.str s)
  | tup {a : Addr} {vs : List V} {ds : List D} : F a = some (.tup vs) → Reps F vs ds → Rep F (.ref a) (.tup ds)
  | lst {a : Addr} {vs : List V} {ds : List D} : F a = some (.lst vs) → Reps F vs ds → Rep F (.ref a) (.lst ds)
  | dK {a : Addr} {kvs : List (Key × V)} {ks : List Key} {ds : List D} : F a = some (.dK kvs) → kvs.map (·.1) = ks → Reps F (kvs.map (·.2)) ds → Rep F (.ref a) (.dK ks ds)
  | dT {a : Addr} {kvs : List (List Key × V)} {ks : List (List Key)} {ds : List D} : F a = some (.dT kvs) → kvs.map (·.1) = ks → Reps F (kvs.map (·.2)) ds → Rep F (.ref a) (.dT ks ds)
  | ins {a C dx : Addr} {fs : List (Str × V)} {ns : List Str} {ds : List D} : F a = some (.ins C dx fs) → fs.map (·.1) = ns → Reps F (fs.map (·.2)) ds → Rep F (.ref a) (.ins C ns ds)
inductive Reps (F : Hp) : List V → List D → Prop where
  | nil : Reps F [] []
  | cons {v : V} {vs : List V} {d : D} {ds : List D} : Rep F v d → Reps F vs ds → Reps F (v :: vs) (d :: ds)
end
theorem Rep.mono {F F' : Hp} (s : Same F F') {v : V} {d : D} (h : Rep F v d) : Rep F' v d :=
  Rep.rec (motive_1 := fun v d _ => Rep F' v d) (motive_2 := fun vs ds _ => Reps F' vs ds) .non .bl .int .str (fun e _ r => .tup (s _ _ e) r) (fun e _ r => .lst (s _ _ e) r) (fun e k _ r => .dK (s _ _ e) k r) (fun e k _ r => .dT (s _ _ e) k r)
    (fun e k _ r => .ins (s _ _ e) k r) .nil (fun _ _ a b => .cons a b) h
theorem Reps.mono {F F' : Hp} (s : Same F F') : ∀ {vs : List V} {ds : List D}, Reps F vs ds → Reps F' vs ds
  | _, _, .nil => .nil
  | _, _, .cons a b => .cons (a.mono s) (Reps.mono s b)
section
variable {F : Hp}
theorem Reps.length : ∀ {vs : List V} {ds : List D}, Reps F vs ds → vs.length = ds.length
  | _, _, .nil => rfl
  | _, _, .cons _ b => by rw [List.length_cons, List.length_cons, Reps.length b]
theorem Reps.get : ∀ {vs : List V} {ds : List D} {i : Nat} {d : D}, Reps F vs ds → ds[i]? = some d → ∃ v, vs[i]? = some v ∧ Rep F v d
  | _, _, i, d, .nil, h => by simp at h
  | _, _, 0, d, .cons a _, h => by
    cases h
    exact ⟨_, rfl, a⟩
  | _, _, i + 1, d, .cons _ b, h => by
    obtain ⟨v, e, r⟩ := Reps.get (i := i) b (by simpa using h)
    exact ⟨v, by simpa using e, r⟩
theorem Reps.getV : ∀ {vs : List V} {ds : List D} {i : Nat} {v : V}, Reps F vs ds → vs[i]? = some v → ∃ d, ds[i]? = some d ∧ Rep F v d
  | _, _, i, d, .nil, h => by simp at h
  | _, _, 0, d, .cons a _, h => by
    cases h
    exact ⟨_, rfl, a⟩
  | _, _, i + 1, d, .cons _ b, h => by
    obtain ⟨v, e, r⟩ := Reps.getV (i := i) b (by simpa using h)
    exact ⟨v, by simpa using e, r⟩
theorem Reps.app : ∀ {vs us : List V} {ds es : List D}, Reps F vs ds → Reps F us es → Reps F (vs ++ us) (ds ++ es)
  | _, _, _, _, .nil, h => h
  | _, _, _, _, .cons a b, h => .cons a (Reps.app b h)
theorem Reps.snoc {vs : List V} {ds : List D} {v : V} {d : D} (h : Reps F vs ds) (r : Rep F v d) : Reps F (vs ++ [v]) (ds ++ [d]) := h.app (.cons r .nil)
theorem Reps.set : ∀ {vs : List V} {ds : List D} {i : Nat} {v : V} {d : D}, Reps F vs ds → Rep F v d → Reps F (vs.set i v) (ds.set i d)
  | _, _, _, _, _, .nil, _ => .nil
  | _, _, 0, _, _, .cons _ b, r => .cons r b
  | _, _, i + 1, _, _, .cons a b, r => .cons a (Reps.set (i := i) b r)
theorem Reps.drop : ∀ {vs : List V} {ds : List D} (n : Nat), Reps F vs ds → Reps F (vs.drop n) (ds.drop n)
  | _, _, 0, h => h
  | _, _, _ + 1, .nil => .nil
  | _, _, n + 1, .cons _ b => Reps.drop n b
theorem Reps.take : ∀ {vs : List V} {ds : List D} (n : Nat), Reps F vs ds → Reps F (vs.take n) (ds.take n)
  | _, _, 0, _ => .nil
  | _, _, _ + 1, .nil => .nil
  | _, _, n + 1, .cons a b => .cons a (Reps.take n b)
theorem Reps.eraseIdx : ∀ {vs : List V} {ds : List D} (n : Nat), Reps F vs ds → Reps F (vs.eraseIdx n) (ds.eraseIdx n)
  | _, _, 0, .nil => .nil
  | _, _, _ + 1, .nil => .nil
  | _, _, 0, .cons _ b => b
  | _, _, n + 1, .cons a b => .cons a (Reps.eraseIdx n b)
theorem Reps.rep {v : V} {d : D} (h : Rep F v d) : ∀ n, Reps F (List.replicate n v) (List.replicate n d)
  | 0 => .nil
  | n + 1 => .cons h (Reps.rep h n)
theorem Reps.ints : ∀ (is : List Int), Reps F (is.map V.int) (is.map D.int)
  | [] => .nil
  | i :: r => .cons (.int i) (Reps.ints r)
theorem Reps.bls : ∀ (is : List Bool), Reps F (is.map V.bl) (is.map D.bl)
  | [] => .nil
  | i :: r => .cons (.bl i) (Reps.bls r)
theorem Reps.of_ints : ∀ {vs : List V} {is : List Int}, Reps F vs (is.map D.int) → vs = is.map V.int
  | _, [], .nil => rfl
  | _, i :: r, .cons a b => by
    cases a
    rw [List.map_cons, ← Reps.of_ints b]
theorem Reps.of_bls : ∀ {vs : List V} {is : List Bool}, Reps F vs (is.map D.bl) → vs = is.map V.bl
  | _, [], .nil => rfl
  | _, i :: r, .cons a b => by
    cases a
    rw [List.map_cons, ← Reps.of_bls b]
theorem Reps.of_strs : ∀ {vs : List V} {is : List Str}, Reps F vs (is.map D.str) → vs = is.map V.str
  | _, [], .nil => rfl
  | _, i :: r, .cons a b => by
    cases a
    rw [List.map_cons, ← Reps.of_strs b]
end
/-- no table of code objects -/
def NT (o : HO) : Prop := ∀ ps, o ≠ .tbl ps
/-- all but the tables stays -/
def NS (H H' : Hp) : Prop := ∀ b o, NT o → H b = some o → H' b = some o
theorem NS.of {H H' : Hp} (s : Same H H') : NS H H' := fun b o _ e => s b o e
theorem NS.refl (H : Hp) : NS H H := fun _ _ _ h => h
theorem NS.trans {H H1 H2 : Hp} (a : NS H H1) (b : NS H1 H2) : NS H H2 := fun c o n h => b c o n (a c o n h)
/-- the tables that a law's defs write -/
class HasT (K : PySem.W.Frag) where
  T : List (Addr × Str)
def TbOk (K : PySem.W.Frag) [t : HasT K] (H : Hp) : Prop := LamX.Tabs t.T H
theorem TbOk.ext {K : PySem.W.Frag} [HasT K] {H H' : Hp} (t : TbOk K H) (s : Same H H') : TbOk K H' := LamX.Tabs.ext t s
/-- nothing changes but at an address of a list or a dict -/
def Plainly (o : HO) : Prop := NT o ∧ ∀ c q, o ≠ LamX.CodeO c q
theorem TbOk.chg {K : PySem.W.Frag} [HasT K] {H H' : Hp} {p : Addr} {o : HO} (t : TbOk K H) (hp : H p = some o) (po : Plainly o) (k : ∀ b, b ≠ p → H' b = H b) : TbOk K H' := fun z hz => by
  obtain ⟨ps, h1, h2, h3⟩ := t z hz
  refine ⟨ps, ?_, h2, fun pos cv hc => ?_⟩
  · rw [k _ (fun e => by rw [e, hp] at h1; cases h1; exact po.1 _ rfl)]
    exact h1
  · obtain ⟨c, e1, e2⟩ := h3 pos cv hc
    refine ⟨c, e1, ?_⟩
    rw [k _ (fun e => by rw [e, hp] at e2; cases e2; exact po.2 _ _ rfl)]
    exact e2
theorem plain_lst (vs : List V) : Plainly (.lst vs) := ⟨fun _ z => (nomatch z), fun c q z => by cases z⟩
theorem plain_dK (vs : List (Key × V)) : Plainly (.dK vs) := ⟨fun _ z => (nomatch z), fun c q z => by cases z⟩
theorem plain_dT (vs : List (List Key × V)) : Plainly (.dT vs) := ⟨fun _ z => (nomatch z), fun c q z => by cases z⟩
theorem nt_tup (vs : List V) : NT (.tup vs) := fun _ z => nomatch z
theorem nt_ins (C dx : Addr) (fs : List (Str × V)) : NT (.ins C dx fs) := fun _ z => nomatch z
/-- no tables within -/
def FN (F : Hp) : Prop := ∀ a o, F a = some o → NT o
/-- nothing, or a tuple -/
def Soft (H : Hp) (a : Addr) : Prop := H a = none ∨ ∃ vs, H a = some (.tup vs)
/-- without its tables -/
def ntH (H : Hp) : Hp := fun a => match H a with
  | some (.tbl _) => none
  | o => o
theorem ntH_some {H : Hp} {a : Addr} {o : HO} (e : ntH H a = some o) : H a = some o ∧ NT o := by
  unfold ntH at e
  cases q : H a with
  | none => rw [q] at e; cases e
  | some u =>
    rw [q] at e
    cases u <;> first | (cases e; exact ⟨rfl, fun _ z => nomatch z⟩) | cases e
theorem ntH_of {H : Hp} {a : Addr} {o : HO} (e : H a = some o) (n : NT o) : ntH H a = some o := by
  unfold ntH
  rw [e]
  cases o <;> first | rfl | exact absurd rfl (n _)
theorem ntH_none {H : Hp} {a : Addr} (e : H a = none) : ntH H a = none := by
  unfold ntH
  rw [e]
theorem soft_nt {H : Hp} {a : Addr} (z : Soft H a) : Soft (ntH H) a := by
  rcases z with z | ⟨vs, z⟩
  · exact .inl (ntH_none z)
  · exact .inr ⟨vs, ntH_of z (nt_tup vs)⟩
/-! a pen: a list of four ints, the last one below its modulus -/
def PenAt (H : Hp) (p : Addr) : Prop := ∃ a b c d : Int, H p = some (.lst [.int a, .int b, .int c, .int d]) ∧ 0 ≤ d ∧ d < 1000000007
theorem PenAt.there {H : Hp} {p : Addr} (x : PenAt H p) : H p ≠ none := by
  obtain ⟨_, _, _, _, e, _⟩ := x
  rw [e]
  exact fun z => nomatch z
theorem PenAt.hard {H : Hp} {p : Addr} (x : PenAt H p) : ¬ Soft H p := by
  obtain ⟨_, _, _, _, e, _⟩ := x
  rintro (z | ⟨vs, z⟩)
  · rw [e] at z; cases z
  · rw [e] at z; cases z
theorem PenAt.pl {H : Hp} {p : Addr} (x : PenAt H p) : ∃ o, H p = some o ∧ Plainly o := by
  obtain ⟨_, _, _, _, e, _⟩ := x
  exact ⟨_, e, plain_lst _⟩
theorem PenAt.of {H H' : Hp} {p : Addr} (x : PenAt H p) (e : H' p = H p) : PenAt H' p := by
  obtain ⟨a, b, c, d, h, r⟩ := x
  exact ⟨a, b, c, d, e.trans h, r⟩
theorem plain_ins (C dx : Addr) (fs : List (Str × V)) : Plainly (.ins C dx fs) := ⟨fun _ z => (nomatch z), fun c q z => by cases z⟩
/-! ### trees that are owned -/
inductive O where
  | d (x : D)
  | tup (xs : List O)
  | lst (xs : List O)
  | dK (ks : List Key) (xs : List O)
  | dT (ks : List (List Key)) (xs : List O)
  | ins (C : Addr) (ns : List Str) (xs : List O)
mutual
/-- v is o in H; what may change of it stands at S -/
inductive Ow (F H : Hp) : List Addr → V → O → Prop where
  | d {v : V} {x : D} : Rep F v x → Ow F H [] v (.d x)
  | tup {S : List Addr} {a : Addr} {vs : List V} {os : List O} : H a = some (.tup vs) → Ows F H S vs os → Ow F H S (.ref a) (.tup os)
  | lst {S : List Addr} {a : Addr} {vs : List V} {os : List O} : F a = none → H a = some (.lst vs) → Ows F H S vs os → Ow F H (a :: S) (.ref a) (.lst os)
  | dK {S : List Addr} {a : Addr} {kvs : List (Key × V)} {ks : List Key} {os : List O} : F a = none → H a = some (.dK kvs) → kvs.map (·.1) = ks → Ows F H S (kvs.map (·.2)) os → Ow F H (a :: S) (.ref a) (.dK ks os)
  | dT {S : List Addr} {a : Addr} {kvs : List (List Key × V)} {ks : List (List Key)} {os : List O} : F a = none → H a = some (.dT kvs) → kvs.map (·.1) = ks → Ows F H S (kvs.map (·.2)) os → Ow F H (a :: S) (.ref a) (.dT ks os)
  | ins {S : List Addr} {a C dx : Addr} {fs : List (Str × V)} {ns : List Str} {os : List O} : F a = none → H a = some (.ins C dx fs) → fs.map (·.1) = ns → Ows F H S (fs.map (·.2)) os → Ow F H (a :: S) (.ref a) (.ins C ns os)
inductive Ows (F H : Hp) : List Addr → List V → List O → Prop where
  | nil : Ows F H [] [] []
  | cons {S T : List Addr} {v : V} {vs : List V} {o : O} {os : List O} : Ow F H S v o → Ows F H T vs os → Ows F H (S ++ T) (v :: vs) (o :: os)
end
mutual
def O.dt : O → D
  | .d x => x
  | .tup xs => .tup (dts xs)
  | .lst xs => .lst (dts xs)
  | .dK ks xs => .dK ks (dts xs)
  | .dT ks xs => .dT ks (dts xs)
  | .ins C ns xs => .ins C ns (dts xs)
def dts : List O → List D
  | [] => []
  | x :: r => x.dt :: dts r
end
mutual
theorem Ow.grow {F F' H H' : Hp} (sf : Same F F') (kt : ∀ a vs, H a = some (.tup vs) → H' a = some (.tup vs)) : ∀ {S : List Addr} {v : V} {o : O}, Ow F H S v o → (∀ a ∈ S, H' a = H a ∧ F' a = none) → Ow F' H' S v o
  | _, _, _, .d r, _ => .d (r.mono sf)
  | _, _, _, .tup e r, k => .tup (kt _ _ e) (Ows.grow sf kt r k)
  | _, _, _, .lst f e r, k => .lst (k _ List.mem_cons_self).2 ((k _ List.mem_cons_self).1.trans e) (Ows.grow sf kt r fun a h => k a (List.mem_cons_of_mem _ h))
  | _, _, _, .dK f e n r, k => .dK (k _ List.mem_cons_self).2 ((k _ List.mem_cons_self).1.trans e) n (Ows.grow sf kt r fun a h => k a (List.mem_cons_of_mem _ h))
  | _, _, _, .dT f e n r, k => .dT (k _ List.mem_cons_self).2 ((k _ List.mem_cons_self).1.trans e) n (Ows.grow sf kt r fun a h => k a (List.mem_cons_of_mem _ h))
  | _, _, _, .ins f e n r, k => .ins (k _ List.mem_cons_self).2 ((k _ List.mem_cons_self).1.trans e) n (Ows.grow sf kt r fun a h => k a (List.mem_cons_of_mem _ h))
theorem Ows.grow {F F' H H' : Hp} (sf : Same F F') (kt : ∀ a vs, H a = some (.tup vs) → H' a = some (.tup vs)) : ∀ {S : List Addr} {vs : List V} {os : List O}, Ows F H S vs os → (∀ a ∈ S, H' a = H a ∧ F' a = none) → Ows F' H' S vs os
  | _, _, _, .nil, _ => .nil
  | _, _, _, .cons a b, k => .cons (Ow.grow sf kt a fun x h => k x (List.mem_append_left _ h)) (Ows.grow sf kt b fun x h => k x (List.mem_append_right _ h))
end
mutual
theorem Ow.at {F H : Hp} : ∀ {S : List Addr} {v : V} {o : O}, Ow F H S v o → ∀ a ∈ S, F a = none ∧ ∃ u, H a = some u ∧ Plainly u ∧ ∀ vs, u ≠ .tup vs
  | _, _, _, .d _, _, h => nomatch h
  | _, _, _, .tup _ r, a, h => Ows.at r a h
  | _, _, _, .lst f e r, a, h => (List.mem_cons.mp h).elim (fun z => by rw [z]; exact ⟨f, _, e, plain_lst _, fun _ z => nomatch z⟩) fun z => Ows.at r a z
  | _, _, _, .dK f e n r, a, h => (List.mem_cons.mp h).elim (fun z => by rw [z]; exact ⟨f, _, e, plain_dK _, fun _ z => nomatch z⟩) fun z => Ows.at r a z
  | _, _, _, .dT f e n r, a, h => (List.mem_cons.mp h).elim (fun z => by rw [z]; exact ⟨f, _, e, plain_dT _, fun _ z => nomatch z⟩) fun z => Ows.at r a z
  | _, _, _, .ins f e n r, a, h => (List.mem_cons.mp h).elim (fun z => by rw [z]; exact ⟨f, _, e, plain_ins _ _ _, fun _ z => nomatch z⟩) fun z => Ows.at r a z
theorem Ows.at {F H : Hp} : ∀ {S : List Addr} {vs : List V} {os : List O}, Ows F H S vs os → ∀ a ∈ S, F a = none ∧ ∃ u, H a = some u ∧ Plainly u ∧ ∀ vs, u ≠ .tup vs
  | _, _, _, .nil, _, h => nomatch h
  | _, _, _, .cons x y, a, h => (List.mem_append.mp h).elim (fun z => Ow.at x a z) fun z => Ows.at y a z
end
mutual
theorem Ow.frz {F H F' : Hp} (sf : Same F F') (kt : ∀ a vs, H a = some (.tup vs) → F' a = some (.tup vs)) : ∀ {S : List Addr} {v : V} {o : O}, Ow F H S v o → (∀ a ∈ S, F' a = H a) → Rep F' v o.dt
  | _, _, _, .d r, _ => r.mono sf
  | _, _, _, .tup e r, k => .tup (kt _ _ e) (Ows.frz sf kt r k)
  | _, _, _, .lst f e r, k => .lst ((k _ List.mem_cons_self).trans e) (Ows.frz sf kt r fun a h => k a (List.mem_cons_of_mem _ h))
  | _, _, _, .dK f e n r, k => .dK ((k _ List.mem_cons_self).trans e) n (Ows.frz sf kt r fun a h => k a (List.mem_cons_of_mem _ h))
  | _, _, _, .dT f e n r, k => .dT ((k _ List.mem_cons_self).trans e) n (Ows.frz sf kt r fun a h => k a (List.mem_cons_of_mem _ h))
  | _, _, _, .ins f e n r, k => .ins ((k _ List.mem_cons_self).trans e) n (Ows.frz sf kt r fun a h => k a (List.mem_cons_of_mem _ h))
theorem Ows.frz {F H F' : Hp} (sf : Same F F') (kt : ∀ a vs, H a = some (.tup vs) → F' a = some (.tup vs)) : ∀ {S : List Addr} {vs : List V} {os : List O}, Ows F H S vs os → (∀ a ∈ S, F' a = H a) → Reps F' vs (dts os)
  | _, _, _, .nil, _ => .nil
  | _, _, _, .cons a b, k => .cons (Ow.frz sf kt a fun x h => k x (List.mem_append_left _ h)) (Ows.frz sf kt b fun x h => k x (List.mem_append_right _ h))
end
/-- all tuples of H frozen -/
def tupF (F H : Hp) : Hp := fun a => match F a with
  | some o => some o
  | none => match H a with
    | some (.tup vs) => some (.tup vs)
    | _ => none
theorem tupF_same {F H : Hp} : Same F (tupF F H) := fun a o e => by
  unfold tupF
  rw [e]
theorem tupF_at {F H : Hp} (fh : Same F H) {a : Addr} {vs : List V} (e : H a = some (.tup vs)) : tupF F H a = some (.tup vs) := by
  unfold tupF
  cases q : F a with
  | some o => exact (fh _ _ q).symm.trans e
  | none => rw [e]
theorem tupF_of {F H : Hp} {a : Addr} {o : HO} (e : tupF F H a = some o) : F a = some o ∨ ((∃ vs, o = .tup vs) ∧ H a = some o) := by
  unfold tupF at e
  cases q : F a with
  | some u =>
    rw [q] at e
    exact .inl e
  | none =>
    rw [q] at e
    cases h : H a with
    | none => rw [h] at e; cases e
    | some u =>
      rw [h] at e
      cases u <;> first | (cases e; exact .inr ⟨⟨_, rfl⟩, rfl⟩) | cases e
/-! ### what a slot holds -/
inductive En where
  | no
  | d (x : D)
  | lst (xs : List D)
  | dK (ks : List Key) (xs : List D)
  | dT (ks : List (List Key)) (xs : List D)
  | pen
  | scr (ns : List Int)
  | ow (o : O) (S : List Addr)
/-- where something stands that may change -/
def Adr (e : En) (v : V) (a : Addr) : Prop := match e with
  | .lst _ => v = .ref a
  | .dK _ _ => v = .ref a
  | .dT _ _ => v = .ref a
  | .pen => v = .ref a
  | .ow _ S => a ∈ S
  | _ => False
def En.own : En → Bool
  | .lst _ => true
  | .dK _ _ => true
  | .dT _ _ => true
  | .pen => true
  | _ => false
structure Ct (K : PySem.W.Frag) where
  F0 : Hp
  H0 : Hp
  pn : Option Addr
  sc : Option (Addr × List Int)
  hs : ∀ a ns, sc = some (a, ns) → SqL K H0 a (ns.map V.int) ∧ pn ≠ some a
section
variable {K : PySem.W.Frag}
def Held (c : Ct K) (F H : Hp) : En → V → Prop
  | .no, _ => True
  | .d x, v => Rep F v x
  | .lst ds, v => ∃ a vs, v = .ref a ∧ F a = none ∧ c.H0 a = none ∧ H a = some (.lst vs) ∧ Reps F vs ds
  | .dK ks ds, v => ∃ (a : Addr) (kvs : List (Key × V)), v = .ref a ∧ F a = none ∧ c.H0 a = none ∧ H a = some (.dK kvs) ∧ kvs.map (·.1) = ks ∧ Reps F (kvs.map (·.2)) ds
  | .dT ks ds, v => ∃ (a : Addr) (kvs : List (List Key × V)), v = .ref a ∧ F a = none ∧ c.H0 a = none ∧ H a = some (.dT kvs) ∧ kvs.map (·.1) = ks ∧ Reps F (kvs.map (·.2)) ds
  | .pen, v => ∃ a, v = .ref a ∧ F a = none ∧ (c.H0 a = none ∨ c.pn = some a) ∧ PenAt H a
  | .scr ns, v => ∃ a, v = .ref a ∧ c.sc = some (a, ns)
  | .ow o S, v => Ow F H S v o ∧ S.Nodup ∧ ∀ a ∈ S, c.H0 a = none
variable [HasT K]
/-- the state between two steps: F what stays for ever, H all; the slots σ hold Γ -/
structure Is (c : Ct K) (F H : Hp) (σ : L2.St) (Γ : List En) : Prop where
  f0 : Same c.F0 F
  fh : Same F H
  nw : ∀ a o, F a = some o → c.F0 a = some o ∨ Soft c.H0 a
  h0 : ∀ a o, c.pn ≠ some a → c.H0 a = some o → H a = some o
  pp : ∀ p, c.pn = some p → F p = none ∧ PenAt H p ∧ c.H0 p ≠ none
  len : σ.length = Γ.length
  at_ : ∀ (i : Nat) (e : En), Γ[i]? = some e → e ≠ .no → ∃ v, σ[i]? = some (some v) ∧ Held c F H e v
  dis : ∀ (i j : Nat) (a : Addr) (e e' : En) (v v' : V), i ≠ j → Γ[i]? = some e → Γ[j]? = some e' → σ[i]? = some (some v) → σ[j]? = some (some v') → Adr e v a → Adr e' v' a → False
  fn : FN F
  tb : TbOk K H
  hn : ∀ a o, c.H0 a = some o → NT o
variable {c : Ct K} {F F' H H' : Hp} {σ : L2.St} {Γ : List En} {v : V} {e : En}
/-- nobody's of the slots -/
def Not (σ : L2.St) (Γ : List En) (a : Addr) : Prop := ∀ (j : Nat) (e' : En) (v' : V), Γ[j]? = some e' → σ[j]? = some (some v') → Adr e' v' a → False
theorem adr_no {e : En} {v : V} {a : Addr} (x : Adr e v a) : e ≠ .no := fun z => by rw [z] at x; exact x
theorem Is.un (I : Is c F H σ Γ) {a : Addr} (h : H a = none) : c.H0 a = none := by
  cases q : c.H0 a with
  | none => rfl
  | some o =>
    by_cases z : c.pn = some a
    · exact absurd h (I.pp a z).2.1.there
    · rw [I.h0 a o z q] at h
      cases h
theorem Is.soft (I : Is c F H σ Γ) {a : Addr} (h : Soft (ntH H) a) : Soft c.H0 a := by
  cases q : c.H0 a with
  | none => exact .inl q
  | some o =>
    have nt := I.hn a o q
    by_cases z : c.pn = some a
    · obtain ⟨u, h1, h2⟩ := (I.pp a z).2.1.pl
      have hard := (I.pp a z).2.1.hard
      rcases h with h | ⟨vs, h⟩
      · rw [ntH_of h1 h2.1] at h
        cases h
      · exact absurd (.inr ⟨vs, (ntH_some h).1⟩) hard
    · have e := ntH_of (I.h0 a o z q) nt
      rcases h with h | ⟨vs, h⟩
      · rw [e] at h
        cases h
      · rw [e] at h
        cases h
        exact .inr ⟨vs, q⟩
theorem Is.unF (I : Is c F H σ Γ) {a : Addr} (h : H a = none) : F a = none := I.fh.free h
omit [HasT K] in
theorem hard_of {a : Addr} {o : HO} (e : H a = some o) (nt : NT o) (n : ∀ vs, o ≠ .tup vs) : ¬ Soft (ntH H) a := fun z => by
  rcases z with z | ⟨vs, z⟩
  · rw [ntH_of e nt] at z; cases z
  · rw [ntH_of e nt] at z; cases z; exact n vs rfl
omit [HasT K] in
theorem Held.adr (h : Held c F H e v) {a : Addr} (x : Adr e v a) : F a = none ∧ ¬ Soft (ntH H) a ∧ ∃ u, H a = some u ∧ Plainly u := by
  cases e with
  | lst ds =>
    obtain ⟨a, vs, rfl, h1, _, h2, _⟩ := h
    cases x
    exact ⟨h1, hard_of h2 (fun _ z => nomatch z) (fun vs z => nomatch z), _, h2, plain_lst _⟩
  | dK ks ds =>
    obtain ⟨a, vs, rfl, h1, _, h2, _⟩ := h
    cases x
    exact ⟨h1, hard_of h2 (fun _ z => nomatch z) (fun vs z => nomatch z), _, h2, plain_dK _⟩
  | dT ks ds =>
    obtain ⟨a, vs, rfl, h1, _, h2, _⟩ := h
    cases x
    exact ⟨h1, hard_of h2 (fun _ z => nomatch z) (fun vs z => nomatch z), _, h2, plain_dT _⟩
  | pen =>
    obtain ⟨a, rfl, h1, _, h2⟩ := h
    cases x
    obtain ⟨u, h3, h4⟩ := h2.pl
    exact ⟨h1, fun z => h2.hard (z.elim (fun w => by rw [ntH_of h3 h4.1] at w; cases w) fun ⟨vs, w⟩ => .inr ⟨vs, (ntH_some w).1⟩), u, h3, h4⟩
  | ow o S =>
    obtain ⟨f, u, e, p, n⟩ := h.1.at a x
    exact ⟨f, hard_of e p.1 n, u, e, p⟩
  | no => exact x.elim
  | d y => exact x.elim
  | scr ns => exact x.elim
omit [HasT K] in
theorem Held.h0 (h : Held c F H e v) {a : Addr} (x : Adr e v a) : c.H0 a = none ∨ (e = .pen ∧ c.pn = some a) := by
  cases e with
  | lst ds =>
    obtain ⟨a, vs, rfl, h1, h0, _⟩ := h
    cases x
    exact .inl h0
  | dK ks ds =>
    obtain ⟨a, vs, rfl, h1, h0, _⟩ := h
    cases x
    exact .inl h0
  | dT ks ds =>
    obtain ⟨a, vs, rfl, h1, h0, _⟩ := h
    cases x
    exact .inl h0
  | pen =>
    obtain ⟨a, rfl, h1, h0, h2⟩ := h
    cases x
    exact h0.imp id fun z => ⟨rfl, z⟩
  | ow o S => exact .inl (h.2.2 a x)
  | no => exact x.elim
  | d y => exact x.elim
  | scr ns => exact x.elim
omit [HasT K] in
/-- the same seen from elsewhere -/
theorem Held.to {c' : Ct K} (h : Held c F H e v) (k : ∀ a, Adr e v a → (c.H0 a = none → c'.H0 a = none) ∧ (c.pn = some a → c'.H0 a = none ∨ c'.pn = some a)) (ks : ∀ p, c.sc = some p → c'.sc = some p) : Held c' F H e v := by
  cases e with
  | lst ds =>
    obtain ⟨a, vs, rfl, h1, h0, h2⟩ := h
    exact ⟨a, vs, rfl, h1, (k a rfl).1 h0, h2⟩
  | dK ks' ds =>
    obtain ⟨a, vs, rfl, h1, h0, h2⟩ := h
    exact ⟨a, vs, rfl, h1, (k a rfl).1 h0, h2⟩
  | dT ks' ds =>
    obtain ⟨a, vs, rfl, h1, h0, h2⟩ := h
    exact ⟨a, vs, rfl, h1, (k a rfl).1 h0, h2⟩
  | pen =>
    obtain ⟨a, rfl, h1, h0, h2⟩ := h
    exact ⟨a, rfl, h1, h0.elim (fun z => .inl ((k a rfl).1 z)) (k a rfl).2, h2⟩
  | ow o S => exact ⟨h.1, h.2.1, fun a m => (k a m).1 (h.2.2 a m)⟩
  | no => trivial
  | d y => exact h
  | scr ns =>
    obtain ⟨a, ea, z⟩ := h
    exact ⟨a, ea, ks _ z⟩
omit [HasT K] in
/-- an owned thing's place is as it was, all else has grown -/
theorem Held.grow (h : Held c F H e v) (sf : Same F F') (k : ∀ a, Adr e v a → H' a = H a ∨ (e = .pen ∧ PenAt H' a)) (nf : ∀ a, Adr e v a → F' a = none) (kt : ∀ a vs, H a = some (.tup vs) → H' a = some (.tup vs)) : Held c F' H' e v := by
  cases e with
  | lst ds =>
    obtain ⟨a, vs, rfl, h1, h0, h2, h3⟩ := h
    exact ⟨a, vs, rfl, nf a rfl, h0, by rw [← h2]; exact (k a rfl).resolve_right (fun z => nomatch z.1), h3.mono sf⟩
  | dK ks ds =>
    obtain ⟨a, vs, rfl, h1, h0, h2, e, h3⟩ := h
    exact ⟨a, vs, rfl, nf a rfl, h0, by rw [← h2]; exact (k a rfl).resolve_right (fun z => nomatch z.1), e, h3.mono sf⟩
  | dT ks ds =>
    obtain ⟨a, vs, rfl, h1, h0, h2, e, h3⟩ := h
    exact ⟨a, vs, rfl, nf a rfl, h0, by rw [← h2]; exact (k a rfl).resolve_right (fun z => nomatch z.1), e, h3.mono sf⟩
  | pen =>
    obtain ⟨a, rfl, h1, h0, h2⟩ := h
    exact ⟨a, rfl, nf a rfl, h0, (k a rfl).elim (fun z => h2.of z) (·.2)⟩
  | ow o S => exact ⟨h.1.grow sf kt fun a m => ⟨(k a m).resolve_right (fun z => nomatch z.1), nf a m⟩, h.2⟩
  | no => trivial
  | d x => exact Rep.mono sf h
  | scr ns => exact h
/-- all grows, nothing that was there changes but the tables -/
theorem Is.growN (I : Is c F H σ Γ) (sf : Same F F') (sh : NS H H') (tb : TbOk K H') (fh : Same F' H') (fn : FN F') (nw : ∀ a o, F' a = some o → F a = some o ∨ Soft (ntH H) a) : Is c F' H' σ Γ := by
  have nf : ∀ a, F a = none → ¬ Soft (ntH H) a → F' a = none := fun a h1 h2 => by
    cases q : F' a with
    | none => rfl
    | some o =>
      rcases nw a o q with z | z
      · rw [h1] at z
        cases z
      · exact absurd z h2
  have same : ∀ a o, H a = some o → Plainly o → H' a = H a := fun a o h n => by
    rw [h]
    exact sh a o n.1 h
  refine ⟨I.f0.trans sf, fh, fun a o h => ?_, fun a o p h => sh _ _ (I.hn a o h) (I.h0 a o p h), fun p h => ?_, I.len, fun i e h n => ?_, I.dis, fn, tb, I.hn⟩
  · rcases nw a o h with z | z
    · exact I.nw a o z
    · exact .inr (I.soft z)
  · obtain ⟨h1, h2, h3⟩ := I.pp p h
    obtain ⟨u, h4, h5⟩ := h2.pl
    exact ⟨nf p h1 (fun z => h2.hard (z.elim (fun w => by rw [ntH_of h4 h5.1] at w; cases w) fun ⟨vs, w⟩ => .inr ⟨vs, (ntH_some w).1⟩)), h2.of (same p u h4 h5), h3⟩
  · obtain ⟨v, h1, h2⟩ := I.at_ i e h n
    refine ⟨v, h1, h2.grow sf (fun a x => ?_) (fun a x => ?_) (fun a vs e => sh a _ (nt_tup vs) e)⟩
    · obtain ⟨_, _, u, q, pl⟩ := h2.adr x
      exact .inl (same a u q pl)
    · obtain ⟨q1, q2, _⟩ := h2.adr x
      exact nf a q1 q2
theorem FN.grow {F F' H' : Hp} (fh : Same F' H') (ok : ∀ a o, F' a = some o → F a = some o ∨ NT o) (fn : FN F) : FN F' := fun a o e => (ok a o e).elim (fn a o) id
theorem Is.grow (I : Is c F H σ Γ) (sf : Same F F') (sh : Same H H') (fh : Same F' H') (fn : FN F') (nw : ∀ a o, F' a = some o → F a = some o ∨ Soft H a) : Is c F' H' σ Γ := I.growN sf (.of sh) (I.tb.ext sh) fh fn fun a o e => (nw a o e).imp id soft_nt
/-- the pen alone changes, and tables; all else grows -/
theorem Is.growP (I : Is c F H σ Γ) {i : Nat} {p : Addr} (gi : Γ[i]? = some .pen) (si : σ[i]? = some (some (.ref p))) (sf : Same F F') (k : ∀ a o, a ≠ p → NT o → H a = some o → H' a = some o) (tb : TbOk K H') (pen : PenAt H' p) (fh : Same F' H') (fn : FN F') (nw : ∀ a o, F' a = some o → F a = some o ∨ Soft (ntH H) a) : Is c F' H' σ Γ := by
  obtain ⟨v, hv, p', ev, pf, ph0, pp⟩ := I.at_ i .pen gi (fun z => nomatch z)
  rw [si] at hv
  cases hv
  cases ev
  have nf : ∀ a, F a = none → ¬ Soft (ntH H) a → F' a = none := fun a h1 h2 => by
    cases q : F' a with
    | none => rfl
    | some o =>
      rcases nw a o q with z | z
      · rw [h1] at z
        cases z
      · exact absurd z h2
  have same : ∀ a o, a ≠ p → H a = some o → Plainly o → H' a = H a := fun a o n h pl => by
    rw [h]
    exact k a o n pl.1 h
  refine ⟨I.f0.trans sf, fh, fun a o h => ?_, fun a o q h => ?_, fun q h => ?_, I.len, fun j e h n => ?_, I.dis, fn, tb, I.hn⟩
  · rcases nw a o h with z | z
    · exact I.nw a o z
    · exact .inr (I.soft z)
  · by_cases z : a = p
    · subst z
      rcases ph0 with w | w
      · rw [w] at h
        cases h
      · exact absurd w q
    · exact k a o z (I.hn a o h) (I.h0 a o q h)
  · obtain ⟨h1, h2, h3⟩ := I.pp q h
    obtain ⟨u, h4, h5⟩ := h2.pl
    refine ⟨nf q h1 (fun z => h2.hard (z.elim (fun w => by rw [ntH_of h4 h5.1] at w; cases w) fun ⟨vs, w⟩ => .inr ⟨vs, (ntH_some w).1⟩)), ?_, h3⟩
    by_cases z : q = p
    · rw [z]
      exact pen
    · exact h2.of (same q u z h4 h5)
  · obtain ⟨v, h1, h2⟩ := I.at_ j e h n
    refine ⟨v, h1, h2.grow sf (fun a x => ?_) (fun a x => ?_) (fun a vs e => k a _ (fun z => pp.hard (.inr ⟨vs, by rw [← z]; exact e⟩)) (nt_tup vs) e)⟩
    · obtain ⟨_, _, u, q, pl⟩ := h2.adr x
      by_cases z : a = p
      · subst z
        by_cases ij : j = i
        · subst ij
          rw [gi] at h
          cases h
          exact .inr ⟨rfl, pen⟩
        · exact (I.dis j i a e .pen v _ ij h gi h1 si x rfl).elim
      · exact .inl (same a u z q pl)
    · obtain ⟨q1, q2, _⟩ := h2.adr x
      exact nf a q1 q2
/-- what an expression hands on: frozen, or owned by nobody else -/
def Res (c : Ct K) (F H : Hp) (σ : L2.St) (Γ : List En) (v : V) (e : En) : Prop :=
  Held c F H e v ∧ e ≠ .no ∧ ∀ a, Adr e v a → Not σ Γ a
omit [HasT K] in
theorem Res.d {x : D} (h : Rep F v x) : Res c F H σ Γ v (.d x) := ⟨h, (fun z => nomatch z), (fun _ z => z.elim)⟩
/-- a slot is stored -/
theorem Is.set (I : Is c F H σ Γ) (r : Res c F H σ Γ v e) (i : Nat) : Is c F H (σ.set i (some v)) (Γ.set i e) := by
  refine ⟨I.f0, I.fh, I.nw, I.h0, I.pp, by rw [List.length_set, List.length_set]; exact I.len, fun j e' h n => ?_, fun j k a e1 e2 v1 v2 jk h1 h2 s1 s2 x1 x2 => ?_, I.fn, I.tb, I.hn⟩
  · rw [List.getElem?_set] at h
    by_cases z : i = j
    · rw [if_pos z] at h
      split at h
      · rename_i hl
        cases h
        refine ⟨v, ?_, r.1⟩
        rw [← z, List.getElem?_set_self (by rw [I.len]; exact hl)]
      · cases h
    · rw [if_neg z] at h
      obtain ⟨w, h1, h2⟩ := I.at_ j e' h n
      exact ⟨w, by rw [List.getElem?_set_ne z]; exact h1, h2⟩
  · by_cases z1 : i = j
    · subst z1
      have z2 : ¬ i = k := jk
      rw [List.getElem?_set_ne z2] at h2 s2
      have l1 : i < σ.length := by
        have := (List.getElem?_eq_some_iff.mp s1).1
        simpa using this
      rw [List.getElem?_set_self l1] at s1
      rw [List.getElem?_set_self (by rw [← I.len]; exact l1)] at h1
      cases h1
      cases s1
      exact r.2.2 a x1 k e2 v2 h2 s2 x2
    · rw [List.getElem?_set_ne z1] at h1 s1
      by_cases z2 : i = k
      · subst z2
        have l1 : i < σ.length := by
          have := (List.getElem?_eq_some_iff.mp s2).1
          simpa using this
        rw [List.getElem?_set_self l1] at s2
        rw [List.getElem?_set_self (by rw [← I.len]; exact l1)] at h2
        cases h2
        cases s2
        exact r.2.2 a x2 j e1 v1 h1 s1 x1
      · rw [List.getElem?_set_ne z2] at h2 s2
        exact I.dis j k a e1 e2 v1 v2 jk h1 h2 s1 s2 x1 x2
theorem set_no {i j : Nat} {e' : En} (h : (Γ.set i .no)[j]? = some e') (n : e' ≠ .no) : Γ[j]? = some e' ∧ i ≠ j := by
  rw [List.getElem?_set] at h
  split at h
  · split at h
    · cases h
      exact absurd rfl n
    · cases h
  · exact ⟨h, by assumption⟩
/-- a slot is forgotten -/
theorem Is.forget (I : Is c F H σ Γ) (i : Nat) : Is c F H σ (Γ.set i .no) :=
  ⟨I.f0, I.fh, I.nw, I.h0, I.pp, by rw [List.length_set]; exact I.len, fun j e' h n => I.at_ j e' (set_no h n).1 n, fun j k a e1 e2 v1 v2 jk h1 h2 s1 s2 x1 x2 =>
    I.dis j k a e1 e2 v1 v2 jk (set_no h1 (adr_no x1)).1 (set_no h2 (adr_no x2)).1 s1 s2 x1 x2, I.fn, I.tb, I.hn⟩
theorem Not.forget {a : Addr} (n : Not σ Γ a) (i : Nat) : Not σ (Γ.set i .no) a := fun j e' v' g s x => n j e' v' (set_no g (adr_no x)).1 s x
/-- a slot wiped on both sides -/
theorem Is.wipe1 (I : Is c F H σ Γ) (i : Nat) : Is c F H (σ.set i none) (Γ.set i .no) := by
  refine ⟨I.f0, I.fh, I.nw, I.h0, I.pp, by rw [List.length_set, List.length_set]; exact I.len, fun j e' h n => ?_, fun j k a e1 e2 v1 v2 jk h1 h2 s1 s2 x1 x2 => ?_, I.fn, I.tb, I.hn⟩
  · obtain ⟨h1, h2⟩ := set_no h n
    rw [List.getElem?_set_ne h2]
    exact I.at_ j e' h1 n
  · obtain ⟨h1, z1⟩ := set_no h1 (adr_no x1)
    obtain ⟨h2, z2⟩ := set_no h2 (adr_no x2)
    rw [List.getElem?_set_ne z1] at s1
    rw [List.getElem?_set_ne z2] at s2
    exact I.dis j k a e1 e2 v1 v2 jk h1 h2 s1 s2 x1 x2
/-! ### freezing -/
omit [HasT K] in
theorem fn_upd {a : Addr} {o : HO} (fn : FN F) (nt : NT o) : FN (upd F a o) := fun b u e => by
  by_cases z : b = a
  · subst z
    rw [upd_same] at e
    cases e
    exact nt
  · rw [upd_ne z] at e
    exact fn b u e
/-- more becomes data for ever -/
theorem Is.moreF (I : Is c F H σ Γ) (sf : Same F F') (fh : Same F' H) (nw : ∀ b u, F' b = some u → F b = some u ∨ (NT u ∧ ((c.H0 b = none ∧ Not σ Γ b) ∨ ∃ vs, u = .tup vs))) : Is c F' H σ Γ := by
  refine ⟨I.f0.trans sf, fh, fun b u e => ?_, I.h0, fun p h => ?_, I.len, fun i e h n => ?_, I.dis, fun b u e => ?_, I.tb, I.hn⟩
  · rcases nw b u e with z | ⟨_, ⟨z, _⟩ | ⟨vs, z⟩⟩
    · exact I.nw b u z
    · exact .inr (.inl z)
    · subst z
      exact .inr (I.soft (soft_nt (.inr ⟨vs, fh _ _ e⟩)))
  · obtain ⟨h1, h2, h3⟩ := I.pp p h
    refine ⟨?_, h2, h3⟩
    cases q : F' p with
    | none => rfl
    | some u =>
      rcases nw p u q with z | ⟨_, ⟨z, _⟩ | ⟨vs, z⟩⟩
      · rw [h1] at z; cases z
      · exact absurd z h3
      · subst z
        exact absurd (.inr ⟨vs, fh _ _ q⟩) h2.hard
  · obtain ⟨v, h1, h2⟩ := I.at_ i e h n
    refine ⟨v, h1, h2.grow sf (fun _ _ => .inl rfl) (fun b x => ?_) (fun _ _ e => e)⟩
    obtain ⟨q1, q2, _⟩ := h2.adr x
    cases q : F' b with
    | none => rfl
    | some u =>
      rcases nw b u q with z | ⟨_, ⟨_, z⟩ | ⟨vs, z⟩⟩
      · rw [q1] at z; cases z
      · exact (z i e v h h1 x).elim
      · subst z
        exact absurd (soft_nt (.inr ⟨vs, fh _ _ q⟩)) q2
  · rcases nw b u e with z | ⟨z, _⟩
    · exact I.fn b u z
    · exact z
/-- what is owned becomes data for ever -/
theorem Is.more (I : Is c F H σ Γ) {a : Addr} {o : HO} (fa : F a = none) (ha : H a = some o) (h0 : c.H0 a = none) (no : Not σ Γ a) (nt : NT o) : Is c (upd F a o) H σ Γ ∧ Same F (upd F a o) := by
  have sf : Same F (upd F a o) := fun b u e => by rw [upd_ne (ne_of_none e fa)]; exact e
  refine ⟨I.moreF sf (fun b u e => ?_) fun b u e => ?_, sf⟩
  · by_cases z : b = a
    · subst z
      rw [upd_same] at e
      cases e
      exact ha
    · rw [upd_ne z] at e
      exact I.fh b u e
  · by_cases z : b = a
    · subst z
      rw [upd_same] at e
      cases e
      exact .inr ⟨nt, .inl ⟨h0, no⟩⟩
    · rw [upd_ne z] at e
      exact .inl e
theorem Is.tups (I : Is c F H σ Γ) : Is c (tupF F H) H σ Γ := I.moreF tupF_same (fun a o e => (tupF_of e).elim (fun z => I.fh a o z) (·.2)) fun b u e => (tupF_of e).imp id fun z => by
  obtain ⟨⟨vs, rfl⟩, _⟩ := z
  exact ⟨nt_tup vs, .inr ⟨vs, rfl⟩⟩
/-- a tree with its places frozen -/
def frzF (F H : Hp) (S : List Addr) : Hp := fun a => if a ∈ S then H a else tupF F H a
omit [HasT K] in
theorem frzF_same {S : List Addr} (h : ∀ a ∈ S, F a = none) : Same F (frzF F H S) := fun a o e => by
  unfold frzF
  split
  · rename_i m
    rw [h a m] at e
    cases e
  · exact tupF_same a o e
theorem Is.moreS (I : Is c F H σ Γ) {S : List Addr} {o : O} (h : Ow F H S v o) (h0 : ∀ a ∈ S, c.H0 a = none) (no : ∀ a ∈ S, Not σ Γ a) : Is c (frzF F H S) H σ Γ ∧ Same F (frzF F H S) ∧ Rep (frzF F H S) v o.dt := by
  have sf : Same F (frzF F H S) := frzF_same fun a m => (h.at a m).1
  have fh : Same (frzF F H S) H := fun a u e => by
    unfold frzF at e
    split at e
    · exact e
    · exact (tupF_of e).elim (fun z => I.fh a u z) (·.2)
  refine ⟨I.moreF sf fh fun b u e => ?_, sf, h.frz sf (fun a vs e => ?_) fun a m => ?_⟩
  · have e' := e
    unfold frzF at e
    split at e
    · rename_i m
      obtain ⟨_, u', e2, pl, _⟩ := h.at b m
      rw [e2] at e
      cases e
      exact .inr ⟨pl.1, .inl ⟨h0 b m, no b m⟩⟩
    · rcases tupF_of e with z | ⟨⟨vs, z⟩, _⟩
      · exact .inl z
      · subst z
        exact .inr ⟨nt_tup vs, .inr ⟨vs, rfl⟩⟩
  · unfold frzF
    split
    · exact e
    · exact tupF_at I.fh e
  · unfold frzF
    rw [if_pos m]
/-- the data that a result is, once it is frozen -/
def En.frz : En → Option D
  | .d x => some x
  | .lst xs => some (.lst xs)
  | .dK ks xs => some (.dK ks xs)
  | .dT ks xs => some (.dT ks xs)
  | .ow o _ => some o.dt
  | _ => none
theorem Res.frz (I : Is c F H σ Γ) (r : Res c F H σ Γ v e) {x : D} (h : e.frz = some x) : ∃ F', Is c F' H σ Γ ∧ Same F F' ∧ Rep F' v x := by
  obtain ⟨h1, _, h3⟩ := r
  cases e with
  | d y =>
    cases h
    exact ⟨F, I, Same.refl F, h1⟩
  | lst ds =>
    cases h
    obtain ⟨a, vs, rfl, q1, q2, q3, q4⟩ := h1
    obtain ⟨I', s⟩ := I.more q1 q3 q2 (h3 a rfl) (fun _ z => nomatch z)
    exact ⟨_, I', s, .lst upd_same (q4.mono s)⟩
  | dK ks ds =>
    cases h
    obtain ⟨a, vs, rfl, q1, q2, q3, q5, q4⟩ := h1
    obtain ⟨I', s⟩ := I.more q1 q3 q2 (h3 a rfl) (fun _ z => nomatch z)
    exact ⟨_, I', s, .dK upd_same q5 (q4.mono s)⟩
  | dT ks ds =>
    cases h
    obtain ⟨a, vs, rfl, q1, q2, q3, q5, q4⟩ := h1
    obtain ⟨I', s⟩ := I.more q1 q3 q2 (h3 a rfl) (fun _ z => nomatch z)
    exact ⟨_, I', s, .dT upd_same q5 (q4.mono s)⟩
  | ow o S =>
    cases h
    obtain ⟨I', s, r⟩ := I.moreS h1.1 h1.2.2 h3
    exact ⟨_, I', s, r⟩
  | no => cases h
  | pen => cases h
  | scr ns => cases h
theorem set_same {i : Nat} {v : V} (hv : σ[i]? = some (some v)) : σ.set i (some v) = σ := by
  apply List.ext_getElem?
  intro j
  rw [List.getElem?_set]
  by_cases z : i = j
  · subst z
    rw [if_pos rfl, if_pos (List.getElem?_eq_some_iff.mp hv).1, hv]
  · rw [if_neg z]
/-- what a slot holds, without the slot -/
theorem Is.resOf (I : Is c F H σ Γ) {i : Nat} (g : Γ[i]? = some e) (n : e ≠ .no) : ∃ v, σ[i]? = some (some v) ∧ Is c F H σ (Γ.set i .no) ∧ Res c F H σ (Γ.set i .no) v e := by
  obtain ⟨v, hv, hh⟩ := I.at_ i e g n
  refine ⟨v, hv, I.forget i, hh, n, fun a x j e' v' g' s' x' => ?_⟩
  obtain ⟨g2, ij⟩ := set_no g' (adr_no x')
  exact I.dis i j a e e' v v' ij g g2 hv s' x x'
/-- a slot that owns becomes a slot of data -/
theorem Is.frzSlot (I : Is c F H σ Γ) {i : Nat} {e : En} {x : D} (g : Γ[i]? = some e) (h : e.frz = some x) : ∃ F' v, σ[i]? = some (some v) ∧ Is c F' H σ (Γ.set i (.d x)) ∧ Same F F' ∧ Rep F' v x := by
  obtain ⟨v, hv, I1, r⟩ := I.resOf g (fun z => by rw [z] at h; cases h)
  obtain ⟨F', I2, s, rp⟩ := r.frz I1 h
  refine ⟨F', v, hv, ?_, s, rp⟩
  have I3 := I2.set (Res.d rp : Res c F' H σ (Γ.set i .no) v (.d x)) i
  rw [set_same hv, List.set_set] at I3
  exact I3
/-- a new object of data -/
theorem Is.new (I : Is c F H σ Γ) {p : Addr} {o : HO} (hp : H p = none) (nt : NT o := by exact fun _ z => nomatch z) : Is c (upd F p o) (upd H p o) σ Γ ∧ Same F (upd F p o) ∧ Same H (upd H p o) := by
  have fp : F p = none := I.unF hp
  have sf : Same F (upd F p o) := fun b u e => by rw [upd_ne (ne_of_none e fp)]; exact e
  have sh : Same H (upd H p o) := fun b u e => by rw [upd_ne (ne_of_none e hp)]; exact e
  refine ⟨I.grow sf sh (fun b u e => ?_) (fn_upd I.fn nt) (fun b u e => ?_), sf, sh⟩
  · by_cases z : b = p
    · subst z
      rw [upd_same] at e ⊢
      exact e
    · rw [upd_ne z] at e ⊢
      exact I.fh b u e
  · by_cases z : b = p
    · subst z
      exact .inr (.inl hp)
    · rw [upd_ne z] at e
      exact .inl e
/-- a new object that is nobody's yet -/
theorem Is.newH (I : Is c F H σ Γ) {p : Addr} {o : HO} (hp : H p = none) : Is c F (upd H p o) σ Γ := by
  have sh : Same H (upd H p o) := fun b u e => by rw [upd_ne (ne_of_none e hp)]; exact e
  exact I.grow (Same.refl F) sh (I.fh.trans sh) I.fn fun a o e => .inl e
theorem Is.freshN (I : Is c F H σ Γ) {p : Addr} (hp : ntH H p = none) : Not σ Γ p := fun j e' v' g s x => by
  obtain ⟨v, h1, h2⟩ := I.at_ j e' g (adr_no x)
  rw [s] at h1
  cases h1
  obtain ⟨_, _, u, h3, h4⟩ := h2.adr x
  rw [ntH_of h3 h4.1] at hp
  cases hp
theorem Is.fresh (I : Is c F H σ Γ) {p : Addr} (hp : H p = none) : Not σ Γ p := I.freshN (ntH_none hp)
theorem Is.newL (I : Is c F H σ Γ) {p : Addr} {vs : List V} {ds : List D} (hp : H p = none) (r : Reps F vs ds) : Is c F (upd H p (.lst vs)) σ Γ ∧ Res c F (upd H p (.lst vs)) σ Γ (.ref p) (.lst ds) :=
  ⟨I.newH hp, ⟨p, vs, rfl, I.unF hp, I.un hp, upd_same, r⟩, fun z => (nomatch z), fun a e => by cases e; exact I.fresh hp⟩
/-! ### a thing that is being made, kept apart -/
def Ct.guard (c : Ct K) (p : Addr) (o : HO) (h : c.H0 p = none) : Ct K := ⟨c.F0, upd c.H0 p o, c.pn, c.sc, fun a ns e => ⟨Same.seq (fun b u e => by rw [upd_ne (ne_of_none e h)]; exact e) (c.hs a ns e).1, (c.hs a ns e).2⟩⟩
/-- nobody's -/
structure Free (c : Ct K) (F : Hp) (σ : L2.St) (Γ : List En) (p : Addr) : Prop where
  f : F p = none
  h0 : c.H0 p = none
  pn : c.pn ≠ some p
  sl : Not σ Γ p
theorem Is.guard (I : Is c F H σ Γ) {p : Addr} {o : HO} (fr : Free c F σ Γ p) (hp : H p = some o) (nt : NT o := by exact fun _ z => nomatch z) : Is (c.guard p o fr.h0) F H σ Γ := by
  refine ⟨I.f0, I.fh, fun a u e => ?_, fun a u q e => ?_, fun q e => ?_, I.len, fun i e g n => ?_, I.dis, I.fn, I.tb, fun a u e => ?_⟩
  · rcases I.nw a u e with z | z
    · exact .inl z
    · refine .inr ?_
      have ap : a ≠ p := fun w => by
        rw [w, fr.f] at e
        cases e
      show Soft (upd c.H0 p o) a
      unfold Soft
      rw [upd_ne ap]
      exact z
  · by_cases ap : a = p
    · subst ap
      have e : upd c.H0 a o a = some u := e
      rw [upd_same] at e
      cases e
      exact hp
    · have e : upd c.H0 p o a = some u := e
      rw [upd_ne ap] at e
      exact I.h0 a u q e
  · obtain ⟨h1, h2, h3⟩ := I.pp q e
    refine ⟨h1, h2, ?_⟩
    have qp : q ≠ p := fun w => fr.pn (by rw [← w]; exact e)
    show upd c.H0 p o q ≠ none
    rw [upd_ne qp]
    exact h3
  · obtain ⟨v, h1, h2⟩ := I.at_ i e g n
    refine ⟨v, h1, h2.to (fun a x => ⟨fun z => ?_, .inr⟩) fun _ z => z⟩
    have ne : a ≠ p := fun w => by
      subst w
      exact fr.sl i e v g h1 x
    show upd c.H0 p o a = none
    rw [upd_ne ne]
    exact z
  · by_cases ap : a = p
    · subst ap
      have e : upd c.H0 a o a = some u := e
      rw [upd_same] at e
      cases e
      exact nt
    · have e : upd c.H0 p o a = some u := e
      rw [upd_ne ap] at e
      exact I.hn a u e
theorem Is.guarded {p : Addr} {o : HO} {h : c.H0 p = none} (I : Is (c.guard p o h) F H σ Γ) (pn : c.pn ≠ some p) : H p = some o := I.h0 p o pn upd_same
theorem Is.freed {p : Addr} {o : HO} {h : c.H0 p = none} (I : Is (c.guard p o h) F H σ Γ) (pn : c.pn ≠ some p) (f0 : c.F0 p = none) (hard : ∀ vs, o ≠ .tup vs) : Free c F σ Γ p := by
  refine ⟨?_, h, pn, fun j e' v' g s x => ?_⟩
  · cases q : F p with
    | none => rfl
    | some u =>
      rcases I.nw p u q with z | z
      · have z : c.F0 p = some u := z
        rw [f0] at z
        cases z
      · have z : Soft (upd c.H0 p o) p := z
        unfold Soft at z
        rw [upd_same] at z
        rcases z with z | ⟨vs, z⟩
        · cases z
        · cases z
          exact absurd rfl (hard vs)
  · obtain ⟨v, h1, h2⟩ := I.at_ j e' g (adr_no x)
    rw [s] at h1
    cases h1
    rcases h2.h0 x with z | z
    · have z : upd c.H0 p o p = none := z
      rw [upd_same] at z
      cases z
    · exact pn z.2
theorem Is.unguard {p : Addr} {o : HO} {h : c.H0 p = none} (I : Is (c.guard p o h) F H σ Γ) (pn : c.pn ≠ some p) : Is c F H σ Γ := by
  have low : ∀ {a : Addr}, (c.guard p o h).H0 a = none → c.H0 a = none := fun {a} z => by
    have z : upd c.H0 p o a = none := z
    by_cases w : a = p
    · rw [w]
      exact h
    · rw [upd_ne w] at z
      exact z
  have high : ∀ {a : Addr} {u : HO}, c.H0 a = some u → (c.guard p o h).H0 a = some u := fun {a u} z => by
    show upd c.H0 p o a = some u
    rw [upd_ne (ne_of_none z h)]
    exact z
  have lowS : ∀ {a : Addr}, Soft (c.guard p o h).H0 a → Soft c.H0 a := fun {a} z => by
    rcases z with z | ⟨vs, z⟩
    · exact .inl (low z)
    · have z : upd c.H0 p o a = some (.tup vs) := z
      by_cases w : a = p
      · rw [w]
        exact .inl h
      · rw [upd_ne w] at z
        exact .inr ⟨vs, z⟩
  refine ⟨I.f0, I.fh, fun a u e => (I.nw a u e).imp id lowS, fun a u q e => I.h0 a u q (high e), fun q e => ?_, I.len, fun i e g n => ?_, I.dis, I.fn, I.tb, fun a u e => I.hn a u (high e)⟩
  · obtain ⟨h1, h2, h3⟩ := I.pp q e
    refine ⟨h1, h2, fun z => ?_⟩
    by_cases w : q = p
    · rw [w] at e
      exact pn e
    · exact h3 (by show upd c.H0 p o q = none; rw [upd_ne w]; exact z)
  · obtain ⟨v, h1, h2⟩ := I.at_ i e g n
    exact ⟨v, h1, h2.to (fun a x => ⟨low, .inr⟩) fun _ z => z⟩
/-- what is nobody's changes -/
theorem Is.chg (I : Is c F H σ Γ) {p : Addr} {o o' : HO} (fr : Free c F σ Γ p) (hp : H p = some o') (pl : Plainly o') (nt : ∀ vs, o' ≠ .tup vs) : Is c F (upd H p o) σ Γ := by
  refine ⟨I.f0, fun a u e => ?_, I.nw, fun a u q e => ?_, fun q e => ?_, I.len, fun i e g n => ?_, I.dis, I.fn, I.tb.chg hp pl (fun b hb => upd_ne hb), I.hn⟩
  · have ap : a ≠ p := fun w => by
      rw [w, fr.f] at e
      cases e
    rw [upd_ne ap]
    exact I.fh a u e
  · have ap : a ≠ p := fun w => by
      rw [w, fr.h0] at e
      cases e
    rw [upd_ne ap]
    exact I.h0 a u q e
  · obtain ⟨h1, h2, h3⟩ := I.pp q e
    have qp : q ≠ p := fun w => fr.pn (by rw [← w]; exact e)
    exact ⟨h1, h2.of (upd_ne qp), h3⟩
  · obtain ⟨v, h1, h2⟩ := I.at_ i e g n
    refine ⟨v, h1, h2.grow (Same.refl F) (fun a x => .inl (upd_ne fun w => ?_)) (fun a x => (h2.adr x).1) (fun a vs e => ?_)⟩
    · subst w
      exact fr.sl i e v g h1 x
    · rw [upd_ne fun w => ?_]
      · exact e
      · rw [w, hp] at e
        cases e
        exact nt vs rfl
/-! ### wiped slots -/
def wipeE (Γ : List En) : List Nat → List En
  | [] => Γ
  | v :: vs => (wipeE Γ vs).set v .no
theorem Is.wipe (I : Is c F H σ Γ) : ∀ vs : List Nat, Is c F H (L2.wipe σ vs) (wipeE Γ vs)
  | [] => I
  | v :: vs => (Is.wipe I vs).wipe1 v
theorem Is.forgets (I : Is c F H σ Γ) : ∀ vs : List Nat, Is c F H σ (wipeE Γ vs)
  | [] => I
  | v :: vs => (Is.forgets I vs).forget v
theorem Not.forgets {a : Addr} (n : Not σ Γ a) : ∀ vs : List Nat, Not σ (wipeE Γ vs) a
  | [] => n
  | v :: vs => (Not.forgets n vs).forget v
theorem wipeE_no {vs : List Nat} {j : Nat} {e : En} (h : (wipeE Γ vs)[j]? = some e) (n : e ≠ .no) : j ∉ vs := by
  induction vs generalizing e with
  | nil => simp
  | cons v vs ih =>
    have h : ((wipeE Γ vs).set v .no)[j]? = some e := h
    rw [List.getElem?_set] at h
    split at h
    · split at h
      · cases h
        exact absurd rfl n
      · cases h
    · rename_i hv
      simp only [List.mem_cons, not_or]
      exact ⟨fun z => hv z.symm, ih h n⟩
theorem wipeE_out {i : Nat} : ∀ {vs : List Nat}, i ∉ vs → (wipeE Γ vs)[i]? = Γ[i]?
  | [], _ => rfl
  | v :: vs, h => by
    have h1 : v ≠ i := fun e => h (by rw [e]; exact List.mem_cons_self)
    have h2 : i ∉ vs := fun m => h (List.mem_cons_of_mem _ m)
    show ((wipeE Γ vs).set v .no)[i]? = _
    rw [List.getElem?_set_ne h1]
    exact wipeE_out h2
theorem Is.unwipe {σ' : L2.St} {vs : List Nat} (I : Is c F H σ' Γ) (w : L2.wipe σ' vs = L2.wipe σ vs) : Is c F H σ (wipeE Γ vs) := by
  have J := I.forgets vs
  have eq : ∀ j : Nat, j ∉ vs → σ'[j]? = σ[j]? := fun j hj => by rw [← wipe_out (σ := σ') hj, ← wipe_out (σ := σ) hj, w]
  have ll : σ.length = σ'.length := by rw [← wipe_length σ vs, ← wipe_length σ' vs, w]
  refine ⟨J.f0, J.fh, J.nw, J.h0, J.pp, ll.trans J.len, fun i e g n => ?_, fun i j a e1 e2 v1 v2 ij g1 g2 s1 s2 x1 x2 => ?_, J.fn, J.tb, J.hn⟩
  · obtain ⟨v, h1, h2⟩ := J.at_ i e g n
    exact ⟨v, by rw [← eq i (wipeE_no g n)]; exact h1, h2⟩
  · refine J.dis i j a e1 e2 v1 v2 ij g1 g2 ?_ ?_ x1 x2
    · rw [eq i (wipeE_no g1 (adr_no x1))]
      exact s1
    · rw [eq j (wipeE_no g2 (adr_no x2))]
      exact s2
end
end Da

set_option Elab.async false
set_option maxRecDepth 100000
set_option maxHeartbeats 4000000
set_option linter.all false
namespace Da
open PySem PySem.Spec PyProof.Rows L2
abbrev DT := List En → (En → List En → Prop) → Prop
abbrev DB := List En → (Bool → List En → Prop) → Prop
abbrev DA := List En → (List D → List En → Prop) → Prop
/-- an exception that leaves: what is wished of it -/
def EOk {K : PySem.W.Frag} [HasT K] (c : Ct K) (E : XK) (ψ : Value → Prop) : Prop :=
  ∀ C H', (∀ a o, c.pn ≠ some a → c.H0 a = some o → H' a = some o) → (∀ p, c.pn = some p → PenAt H' p) → TbOk K H' → ψ C → E C none H'
class Snd (K : PySem.W.Frag) [HasT K] (E : XK) (ψ : Value → Prop) (te : TE) (den : outParam DT) : Prop where
  run : ∀ {c : Ct K} {F H : Hp} {σ : L2.St} {Γ : List En} {φ : En → List En → Prop} {Q : VK}, Is c F H σ Γ → EOk c E ψ → den Γ φ →
    (∀ F' H' v e Γ', Is c F' H' σ Γ' → Same F F' → Res c F' H' σ Γ' v e → φ e Γ' → Q v H') → te σ H Q
class SndT (K : PySem.W.Frag) [HasT K] (E : XK) (ψ : Value → Prop) (tt : TT) (den : outParam DB) : Prop where
  run : ∀ {c : Ct K} {F H : Hp} {σ : L2.St} {Γ : List En} {φ : Bool → List En → Prop} {Q : Bool → Hp → Prop}, Is c F H σ Γ → EOk c E ψ → den Γ φ →
    (∀ F' H' b Γ', Is c F' H' σ Γ' → Same F F' → φ b Γ' → Q b H') → tt σ H Q
class SndA (K : PySem.W.Frag) [HasT K] (E : XK) (ψ : Value → Prop) (ta : TA) (den : outParam DA) : Prop where
  run : ∀ {c : Ct K} {F H : Hp} {σ : L2.St} {Γ : List En} {φ : List D → List En → Prop} {Q : List V → Hp → Prop}, Is c F H σ Γ → EOk c E ψ → den Γ φ →
    (∀ F' H' vs ds Γ', Is c F' H' σ Γ' → Same F F' → Reps F' vs ds → φ ds Γ' → Q vs H') → ta σ H Q
/-- an operation on two values -/
class SndR (K : PySem.W.Frag) [HasT K] (r : R2) (den : outParam (D → D → (En → Prop) → Prop)) : Prop where
  run : ∀ {c : Ct K} {F H : Hp} {σ : L2.St} {Γ : List En} {x y : V} {d e : D} {φ : En → Prop} {Q : VK}, Is c F H σ Γ → Rep F x d → Rep F y e → den d e φ →
    (∀ F' H' v z, Is c F' H' σ Γ → Same F F' → Res c F' H' σ Γ v z → φ z → Q v H') → r x y H Q
/-- a call on values -/
class SndC (K : PySem.W.Frag) [HasT K] (r : List V → Hp → VK → Prop) (den : outParam (List D → (En → Prop) → Prop)) : Prop where
  run : ∀ {c : Ct K} {F H : Hp} {σ : L2.St} {Γ : List En} {xs : List V} {ds : List D} {φ : En → Prop} {Q : VK}, Is c F H σ Γ → Reps F xs ds → den ds φ →
    (∀ F' H' v z, Is c F' H' σ Γ → Same F F' → Res c F' H' σ Γ v z → φ z → Q v H') → r xs H Q
/-- with the data of a result -/
def wf (e : En) (k : D → Prop) : Prop := match e with
  | .d x => k x
  | .lst xs => k (.lst xs)
  | .dK ks xs => k (.dK ks xs)
  | .dT ks xs => k (.dT ks xs)
  | .ow o _ => k o.dt
  | _ => False
def wb (e : En) (k : Bool → Prop) : Prop := match e with
  | .d (.bl b) => k b
  | _ => False
theorem wf_frz {e : En} {k : D → Prop} (h : wf e k) : ∃ x, e.frz = some x ∧ k x := by
  cases e <;> first | exact ⟨_, rfl, h⟩ | exact h.elim
theorem wb_of {e : En} {k : Bool → Prop} (h : wb e k) : ∃ b, e = .d (.bl b) ∧ k b := by
  cases e with
  | d x =>
    cases x <;> first | exact ⟨_, rfl, h⟩ | exact h.elim
  | _ => exact h.elim
section
variable {K : PySem.W.Frag} [HasT K] {E : XK} {ψ : Value → Prop} {te ta tb tx : TE} {da db dx dt : DT} {tt tu : TT} {dtt dtu : DB} {al : TA} {dal : DA} {r : R2} {dr : D → D → (En → Prop) → Prop}
theorem Snd.frz (s : Snd K E ψ ta da) {c : Ct K} {F H : Hp} {σ : L2.St} {Γ : List En} {φ : En → List En → Prop} {k : D → List En → Prop} {Q : VK} (I : Is c F H σ Γ) (eo : EOk c E ψ) (h : da Γ fun e Γ1 => wf e fun x => k x Γ1)
    (q : ∀ F' H' v x Γ', Is c F' H' σ Γ' → Same F F' → Rep F' v x → k x Γ' → Q v H') : ta σ H Q := by
  refine s.run I eo h fun F1 H1 v e Γ1 I1 s1 r1 h1 => ?_
  obtain ⟨x, hx, h1⟩ := wf_frz h1
  obtain ⟨F2, I2, s2, rp⟩ := r1.frz I1 hx
  exact q F2 H1 v x Γ1 I2 (s1.trans s2) rp h1
theorem Snd.bool (s : Snd K E ψ ta da) {c : Ct K} {F H : Hp} {σ : L2.St} {Γ : List En} {k : Bool → List En → Prop} {Q : VK} (I : Is c F H σ Γ) (eo : EOk c E ψ) (h : da Γ fun e Γ1 => wb e fun x => k x Γ1)
    (q : ∀ F' H' b Γ', Is c F' H' σ Γ' → Same F F' → k b Γ' → Q (.bl b) H') : ta σ H Q := by
  refine s.run I eo h fun F1 H1 v e Γ1 I1 s1 r1 h1 => ?_
  obtain ⟨b, rfl, h1⟩ := wb_of h1
  obtain ⟨h2, _⟩ := r1
  cases (show Rep F1 v (.bl b) from h2)
  exact q F1 H1 b Γ1 I1 s1 h1
/-! ### names and constants -/
def dVar (i : Nat) : DT := fun Γ φ => match Γ[i]? with
  | some (.d x) => φ (.d x) Γ
  | some (.lst xs) => φ (.d (.lst xs)) (Γ.set i (.d (.lst xs)))
  | some (.dK ks xs) => φ (.d (.dK ks xs)) (Γ.set i (.d (.dK ks xs)))
  | some (.dT ks xs) => φ (.d (.dT ks xs)) (Γ.set i (.d (.dT ks xs)))
  | some (.ow o _) => φ (.d o.dt) (Γ.set i (.d o.dt))
  | _ => False
instance snd_var (i : Nat) : Snd K E ψ (tVar i) (dVar i) := ⟨fun {c F H σ Γ φ Q} I _ h q => by
  unfold dVar at h
  have go : ∀ {e : En} {x : D}, Γ[i]? = some e → e.frz = some x → φ (.d x) (Γ.set i (.d x)) → tVar i σ H Q := fun g z h => by
    obtain ⟨F1, v, hv, I1, s1, rp⟩ := I.frzSlot g z
    exact ⟨v, hv, q F1 H v _ _ I1 s1 (Res.d rp) h⟩
  cases g : Γ[i]? with
  | none => rw [g] at h; exact h.elim
  | some e =>
    rw [g] at h
    cases e with
    | d x =>
      obtain ⟨v, hv, rp⟩ := I.at_ i _ g (fun z => nomatch z)
      exact ⟨v, hv, q F H v _ _ I (Same.refl F) (Res.d rp) h⟩
    | lst xs => exact go g rfl h
    | dK ks xs => exact go g rfl h
    | dT ks xs => exact go g rfl h
    | ow o S => exact go g rfl h
    | no => exact h.elim
    | pen => exact h.elim
    | scr ns => exact h.elim⟩
/-- a plain constant as data -/
def vD : V → D
  | .bl b => .bl b
  | .int i => .int i
  | .str s => .str s
  | _ => .non
def isSc : V → Bool
  | .non => true
  | .bl _ => true
  | .int _ => true
  | .str _ => true
  | _ => false
theorem rep_sc {F : Hp} : ∀ {v : V}, isSc v = true → Rep F v (vD v)
  | .non, _ => .non
  | .bl b, _ => .bl b
  | .int b, _ => .int b
  | .str b, _ => .str b
def dC (v : V) : DT := fun Γ φ => isSc v = true ∧ φ (.d (vD v)) Γ
instance snd_c (v : V) : Snd K E ψ (tC v) (dC v) := ⟨fun {c F H σ Γ φ Q} I _ h q => q F H v _ _ I (Same.refl F) (Res.d (rep_sc h.1)) h.2⟩
/-! ### arguments and displays -/
def dNil : DA := fun Γ φ => φ [] Γ
def dCons (da : DT) (dr : DA) : DA := fun Γ φ => da Γ fun e Γ1 => wf e fun x => dr Γ1 fun xs Γ2 => φ (x :: xs) Γ2
instance snd_nil : SndA K E ψ tNil dNil := ⟨fun {c F H σ Γ φ Q} I _ h q => q F H [] [] Γ I (Same.refl F) .nil h⟩
instance snd_cons [s : Snd K E ψ ta da] [sl : SndA K E ψ al dal] : SndA K E ψ (tCons ta al) (dCons da dal) := ⟨fun {c F H σ Γ φ Q} I eo h q => by
  refine s.frz (φ := fun _ _ => True) (k := fun x Γ1 => dal Γ1 fun xs Γ2 => φ (x :: xs) Γ2) I eo h fun F1 H1 v x Γ1 I1 s1 r1 h1 => ?_
  refine sl.run I1 eo h1 fun F2 H2 vs xs Γ2 I2 s2 r2 h2 => ?_
  exact q F2 H2 _ _ Γ2 I2 (s1.trans s2) (.cons (r1.mono s2) r2) h2⟩
def dTup (dal : DA) : DT := fun Γ φ => dal Γ fun xs Γ1 => xs.length ≤ 100000 ∧ φ (.d (.tup xs)) Γ1
instance snd_tup [sl : SndA K E ψ al dal] : Snd K E ψ (tTup al) (dTup dal) := ⟨fun {c F H σ Γ φ Q} I eo h q => by
  refine sl.run I eo h fun F1 H1 vs xs Γ1 I1 s1 r1 h1 => ?_
  refine ⟨by rw [r1.length]; exact Nat.le_trans h1.1 (by decide), fun p hp => ?_⟩
  obtain ⟨I2, s2, _⟩ := I1.new (o := .tup vs) hp
  exact q _ _ _ _ Γ1 I2 (s1.trans s2) (Res.d (.tup upd_same (r1.mono s2))) h1.2⟩
def dLst (dal : DA) : DT := fun Γ φ => dal Γ fun xs Γ1 => xs.length ≤ 100000 ∧ φ (.lst xs) Γ1
instance snd_lst [sl : SndA K E ψ al dal] : Snd K E ψ (tLst al) (dLst dal) := ⟨fun {c F H σ Γ φ Q} I eo h q => by
  refine sl.run I eo h fun F1 H1 vs xs Γ1 I1 s1 r1 h1 => ?_
  refine ⟨by rw [r1.length]; exact Nat.le_trans h1.1 (by decide), fun p hp => ?_⟩
  obtain ⟨I2, r2⟩ := I1.newL hp r1
  exact q _ _ _ _ Γ1 I2 s1 r2 h1.2⟩
/-! ### operations -/
def dOp (dr : D → D → (En → Prop) → Prop) (da db : DT) : DT := fun Γ φ => da Γ fun e Γ1 => wf e fun x => db Γ1 fun e' Γ2 => wf e' fun y => dr x y fun z => φ z Γ2
instance (priority := 900) snd_op [sr : SndR K r dr] [sa : Snd K E ψ ta da] [sb : Snd K E ψ tb db] : Snd K E ψ (tOp r ta tb) (dOp dr da db) := ⟨fun {c F H σ Γ φ Q} I eo h q => by
  refine sa.frz (φ := fun _ _ => True) (k := fun x Γ1 => db Γ1 fun e' Γ2 => wf e' fun y => dr x y fun z => φ z Γ2) I eo h fun F1 H1 v x Γ1 I1 s1 r1 h1 => ?_
  refine sb.frz (φ := fun _ _ => True) (k := fun y Γ2 => dr x y fun z => φ z Γ2) I1 eo h1 fun F2 H2 u y Γ2 I2 s2 r2 h2 => ?_
  exact sr.run I2 (r1.mono s2) r2 h2 fun F3 H3 w z I3 s3 r3 h3 => q F3 H3 w z Γ2 I3 ((s1.trans s2).trans s3) r3 h3⟩
def onI (x y : D) (k : Int → Int → Prop) : Prop := match x, y with
  | .int i, .int j => k i j
  | _, _ => False
def dI (C : Int → Int → Prop) (g : Int → Int → V) (x y : D) (φ : En → Prop) : Prop := onI x y fun i j => C i j ∧ isSc (g i j) = true ∧ φ (.d (vD (g i j)))
def dI0 (g : Int → Int → V) (x y : D) (φ : En → Prop) : Prop := onI x y fun i j => isSc (g i j) = true ∧ φ (.d (vD (g i j)))
theorem two_ints {F : Hp} {x y : V} {d e : D} {k : Int → Int → Prop} (rx : Rep F x d) (ry : Rep F y e) (h : onI d e k) : ∃ i j, x = .int i ∧ y = .int j ∧ k i j := by
  cases d with
  | int i =>
    cases rx
    cases e with
    | int j =>
      cases ry
      exact ⟨i, j, rfl, rfl, h⟩
    | _ => exact h.elim
  | _ => exact h.elim
instance snd_rI (C : Int → Int → Prop) (g : Int → Int → V) : SndR K (rI C g) (dI C g) := ⟨fun {c F H σ Γ x y d e φ Q} I rx ry h q => by
  obtain ⟨i, j, rfl, rfl, h1, h2, h3⟩ := two_ints rx ry h
  exact ⟨i, j, rfl, rfl, h1, q F H _ _ I (Same.refl F) (Res.d (rep_sc h2)) h3⟩⟩
instance snd_rI0 (g : Int → Int → V) : SndR K (rI0 g) (dI0 g) := ⟨fun {c F H σ Γ x y d e φ Q} I rx ry h q => by
  obtain ⟨i, j, rfl, rfl, h2, h3⟩ := two_ints rx ry h
  exact ⟨i, j, rfl, rfl, q F H _ _ I (Same.refl F) (Res.d (rep_sc h2)) h3⟩⟩
/-- negation and its like -/
def dUn (g : Int → V) (da : DT) : DT := fun Γ φ => da Γ fun e Γ1 => match e with
  | .d (.int i) => isSc (g i) = true ∧ φ (.d (vD (g i))) Γ1
  | _ => False
instance snd_un (g : Int → V) [sa : Snd K E ψ ta da] : Snd K E ψ (tUn (rU g) ta) (dUn g da) := ⟨fun {c F H σ Γ φ Q} I eo h q => by
  refine sa.run I eo h fun F1 H1 v e Γ1 I1 s1 r1 h1 => ?_
  cases e with
  | d x =>
    cases x with
    | int i =>
      cases (show Rep F1 v (.int i) from r1.1)
      exact ⟨i, rfl, q F1 H1 _ _ Γ1 I1 s1 (Res.d (rep_sc h1.1)) h1.2⟩
    | _ => exact h1.elim
  | _ => exact h1.elim⟩
/-! ### data as the library's data: == -/
mutual
def D.py : D → PyData
  | .non => .none
  | .bl b => .bool b
  | .int i => .int i
  | .str s => .str s
  | .tup xs => .tuple (pys xs)
  | .lst xs => .list (pys xs)
  | .dK _ _ => .none
  | .dT _ _ => .none
  | .ins _ _ _ => .none
def pys : List D → List PyData
  | [] => []
  | x :: xs => x.py :: pys xs
end
mutual
/-- no dict, no object within -/
def D.flat : D → Bool
  | .tup xs => flats xs
  | .lst xs => flats xs
  | .dK _ _ => false
  | .dT _ _ => false
  | .ins _ _ _ => false
  | _ => true
def flats : List D → Bool
  | [] => true
  | x :: xs => x.flat && flats xs
end
mutual
theorem Rep.dp {F H : Hp} (fh : Same F H) : ∀ {x : D} {v : V}, Rep F v x → x.flat = true → Dp K H v x.py
  | .non, _, .non, _ => .non
  | .bl _, _, .bl b, _ => .bl b
  | .int _, _, .int i, _ => .int i
  | .str _, _, .str i, _ => .str i
  | .tup ds, _, .tup e r, h => .tup (SqT.of (fh _ _ e)) (Reps.dp fh r h)
  | .lst ds, _, .lst e r, h => .lst (SqL.of (fh _ _ e)) (Reps.dp fh r h)
theorem Reps.dp {F H : Hp} (fh : Same F H) : ∀ {xs : List D} {vs : List V}, Reps F vs xs → flats xs = true → DpAll K H vs (pys xs)
  | [], _, .nil, _ => .nil
  | x :: xs, _, .cons a b, h => by
    unfold flats at h
    rw [Bool.and_eq_true] at h
    exact .cons (Rep.dp fh a h.1) (Reps.dp fh b h.2)
end
def D.fit (x : D) : Bool := x.flat && SeqAt.shaped x.py
def D.eqv (x y : D) : Bool := PyData.eqv x.py y.py
def dEq (x y : D) (φ : En → Prop) : Prop := x.fit = true ∧ y.fit = true ∧ φ (.d (.bl (x.eqv y)))
def dNe (x y : D) (φ : En → Prop) : Prop := x.fit = true ∧ y.fit = true ∧ φ (.d (.bl (!x.eqv y)))
instance snd_eqD : SndR K (rEqD K) dEq := ⟨fun {c F H σ Γ x y d e φ Q} I rx ry h q => by
  obtain ⟨h1, h2, h3⟩ := h
  unfold D.fit at h1 h2
  rw [Bool.and_eq_true] at h1 h2
  exact ⟨_, _, rx.dp I.fh h1.1, ry.dp I.fh h2.1, h1.2, h2.2, q F H _ _ I (Same.refl F) (Res.d (.bl _)) h3⟩⟩
instance snd_neD : SndR K (rNeD K) dNe := ⟨fun {c F H σ Γ x y d e φ Q} I rx ry h q => by
  obtain ⟨h1, h2, h3⟩ := h
  unfold D.fit at h1 h2
  rw [Bool.and_eq_true] at h1 h2
  exact ⟨_, _, rx.dp I.fh h1.1, ry.dp I.fh h2.1, h1.2, h2.2, q F H _ _ I (Same.refl F) (Res.d (.bl _)) h3⟩⟩
/-! ### items -/
def dIxT (x y : D) (φ : En → Prop) : Prop := match x, y with
  | .tup xs, .int i => ∃ z, atI xs i = some z ∧ φ (.d z)
  | _, _ => False
def dIxL (x y : D) (φ : En → Prop) : Prop := match x, y with
  | .lst xs, .int i => ∃ z, atI xs i = some z ∧ φ (.d z)
  | _, _ => False
theorem Reps.atI {F : Hp} {vs : List V} {ds : List D} {i : Int} {z : D} (r : Reps F vs ds) (h : atI ds i = some z) : ∃ v, L2.atI vs i = some v ∧ Rep F v z := by
  unfold L2.atI at h ⊢
  rw [r.length]
  cases e : ixN ds.length i with
  | none => rw [e] at h; cases h
  | some j =>
    rw [e] at h
    obtain ⟨v, e1, rp⟩ := r.get (i := j) h
    exact ⟨v, e1, rp⟩
instance snd_ixT : SndR K (rIxT K) dIxT := ⟨fun {c F H σ Γ x y d e φ Q} I rx ry h q => by
  cases d with
  | tup xs =>
    cases e with
    | int i =>
      obtain ⟨z, hz, h⟩ := h
      cases rx with
      | tup e1 r1 =>
        cases ry
        obtain ⟨v, e2, rp⟩ := r1.atI hz
        exact ⟨_, _, i, v, rfl, rfl, SqT.of (I.fh _ _ e1), e2, q F H _ _ I (Same.refl F) (Res.d rp) h⟩
    | _ => exact h.elim
  | _ => exact h.elim⟩
instance snd_ixL : SndR K (rIxL K) dIxL := ⟨fun {c F H σ Γ x y d e φ Q} I rx ry h q => by
  cases d with
  | lst xs =>
    cases e with
    | int i =>
      obtain ⟨z, hz, h⟩ := h
      cases rx with
      | lst e1 r1 =>
        cases ry
        obtain ⟨v, e2, rp⟩ := r1.atI hz
        exact ⟨_, _, i, v, rfl, rfl, SqL.of (I.fh _ _ e1), e2, q F H _ _ I (Same.refl F) (Res.d rp) h⟩
    | _ => exact h.elim
  | _ => exact h.elim⟩
/-- an item of a list that the slot owns, or of data -/
def dIxLv (i : Nat) (db : DT) : DT := fun Γ φ => match Γ[i]? with
  | some (.lst xs) => db Γ fun e Γ1 => Γ1[i]? = some (.lst xs) ∧ wf e fun y => dIxL (.lst xs) y fun z => φ z Γ1
  | some (.d x) => db Γ fun e Γ1 => wf e fun y => dIxL x y fun z => φ z Γ1
  | _ => False
instance snd_ixLv (i : Nat) [sb : Snd K E ψ tb db] : Snd K E ψ (tOp (rIxL K) (tVar i) tb) (dIxLv i db) := ⟨fun {c F H σ Γ φ Q} I eo h q => by
  unfold dIxLv at h
  cases g : Γ[i]? with
  | none => rw [g] at h; exact h.elim
  | some e =>
    rw [g] at h
    cases e with
    | d x =>
      obtain ⟨v, hv, rp⟩ := I.at_ i _ g (fun z => nomatch z)
      have rp : Rep F v x := rp
      refine ⟨v, hv, ?_⟩
      refine sb.frz (φ := fun _ _ => True) (k := fun y Γ2 => dIxL x y fun z => φ z Γ2) I eo h fun F2 H2 u y Γ2 I2 s2 r2 h2 => ?_
      exact SndR.run (r := rIxL K) I2 (rp.mono s2) r2 h2 fun F3 H3 w z I3 s3 r3 h3 => q F3 H3 w z Γ2 I3 (s2.trans s3) r3 h3
    | lst xs =>
      obtain ⟨v, hv, a, vs, rfl, _⟩ := I.at_ i _ g (fun z => nomatch z)
      refine ⟨_, hv, ?_⟩
      refine sb.run I eo h fun F2 H2 u e Γ2 I2 s2 r2 h2 => ?_
      obtain ⟨g2, h2⟩ := h2
      obtain ⟨y, hy, h3⟩ := wf_frz h2
      obtain ⟨F3, I3, s3, rp⟩ := r2.frz I2 hy
      obtain ⟨v', hv', a', vs', e', _, _, hl, rs⟩ := I3.at_ i _ g2 (fun z => nomatch z)
      rw [hv] at hv'
      cases hv'
      cases e'
      cases y with
      | int j =>
        cases rp
        obtain ⟨z, hz, h4⟩ := h3
        obtain ⟨w, ew, rw'⟩ := rs.atI hz
        exact ⟨a, vs', j, w, rfl, rfl, SqL.of hl, ew, q F3 H2 w _ Γ2 I3 (s2.trans s3) (Res.d rw') h4⟩
      | _ => exact h3.elim
    | no => exact h.elim
    | dK ks xs => exact h.elim
    | dT ks xs => exact h.elim
    | ow o S => exact h.elim
    | pen => exact h.elim
    | scr ns => exact h.elim⟩
/-! ### and, or, not, if; tests -/
def dAndV (da db : DT) : DT := fun Γ φ => da Γ fun e Γ1 => wb e fun b => if b = true then db Γ1 φ else φ (.d (.bl false)) Γ1
def dOrV (da db : DT) : DT := fun Γ φ => da Γ fun e Γ1 => wb e fun b => if b = true then φ (.d (.bl true)) Γ1 else db Γ1 φ
def dNotV (da : DT) : DT := fun Γ φ => da Γ fun e Γ1 => wb e fun b => φ (.d (.bl (!b))) Γ1
instance snd_andV [sa : Snd K E ψ ta da] [sb : Snd K E ψ tb db] : Snd K E ψ (tAndV ta tb) (dAndV da db) := ⟨fun {c F H σ Γ φ Q} I eo h q => by
  refine sa.bool (k := fun b Γ1 => if b = true then db Γ1 φ else φ (.d (.bl false)) Γ1) I eo h fun F1 H1 b Γ1 I1 s1 h1 => ⟨b, rfl, ?_⟩
  cases b with
  | true => exact iteT (sb.run I1 eo h1 fun F2 H2 v e Γ2 I2 s2 r2 h2 => q F2 H2 v e Γ2 I2 (s1.trans s2) r2 h2)
  | false => exact iteF (q F1 H1 _ _ Γ1 I1 s1 (Res.d (.bl _)) h1)⟩
instance snd_orV [sa : Snd K E ψ ta da] [sb : Snd K E ψ tb db] : Snd K E ψ (tOrV ta tb) (dOrV da db) := ⟨fun {c F H σ Γ φ Q} I eo h q => by
  refine sa.bool (k := fun b Γ1 => if b = true then φ (.d (.bl true)) Γ1 else db Γ1 φ) I eo h fun F1 H1 b Γ1 I1 s1 h1 => ⟨b, rfl, ?_⟩
  cases b with
  | true => exact iteT (q F1 H1 _ _ Γ1 I1 s1 (Res.d (.bl _)) h1)
  | false => exact iteF (sb.run I1 eo h1 fun F2 H2 v e Γ2 I2 s2 r2 h2 => q F2 H2 v e Γ2 I2 (s1.trans s2) r2 h2)⟩
instance snd_notV [sa : Snd K E ψ ta da] : Snd K E ψ (tNotV ta) (dNotV da) := ⟨fun {c F H σ Γ φ Q} I eo h q => by
  refine sa.bool (k := fun b Γ1 => φ (.d (.bl (!b))) Γ1) I eo h fun F1 H1 b Γ1 I1 s1 h1 => ⟨b, rfl, q F1 H1 _ _ Γ1 I1 s1 (Res.d (.bl _)) h1⟩⟩
def dB (da : DT) : DB := fun Γ φ => da Γ fun e Γ1 => wb e fun b => φ b Γ1
instance snd_B [sa : Snd K E ψ ta da] : SndT K E ψ (tB ta) (dB da) := ⟨fun {c F H σ Γ φ Q} I eo h q => sa.bool (k := fun b Γ1 => φ b Γ1) I eo h fun F1 H1 b Γ1 I1 s1 h1 => ⟨b, rfl, q F1 H1 b Γ1 I1 s1 h1⟩⟩
instance snd_test [sa : Snd K E ψ ta da] : SndT K E ψ (tTest ta) (dB da) := ⟨fun {c F H σ Γ φ Q} I eo h q => sa.bool (k := fun b Γ1 => φ b Γ1) I eo h fun F1 H1 b Γ1 I1 s1 h1 => ⟨b, rfl, q F1 H1 b Γ1 I1 s1 h1⟩⟩
def dAnd (dtt dtu : DB) : DB := fun Γ φ => dtt Γ fun b Γ1 => if b = true then dtu Γ1 φ else φ false Γ1
def dOr (dtt dtu : DB) : DB := fun Γ φ => dtt Γ fun b Γ1 => if b = true then φ true Γ1 else dtu Γ1 φ
def dNot (dtt : DB) : DB := fun Γ φ => dtt Γ fun b Γ1 => φ (!b) Γ1
def dYes : DB := fun Γ φ => φ true Γ
instance snd_yes : SndT K E ψ tYes dYes := ⟨fun {c F H σ Γ φ Q} I eo h q => q F H true Γ I (Same.refl F) h⟩
instance snd_and [sa : SndT K E ψ tt dtt] [sb : SndT K E ψ tu dtu] : SndT K E ψ (tAnd tt tu) (dAnd dtt dtu) := ⟨fun {c F H σ Γ φ Q} I eo h q => by
  refine sa.run I eo h fun F1 H1 b Γ1 I1 s1 h1 => ?_
  cases b with
  | true => exact iteT (sb.run I1 eo h1 fun F2 H2 e Γ2 I2 s2 h2 => q F2 H2 e Γ2 I2 (s1.trans s2) h2)
  | false => exact iteF (q F1 H1 _ Γ1 I1 s1 h1)⟩
instance snd_or [sa : SndT K E ψ tt dtt] [sb : SndT K E ψ tu dtu] : SndT K E ψ (tOr tt tu) (dOr dtt dtu) := ⟨fun {c F H σ Γ φ Q} I eo h q => by
  refine sa.run I eo h fun F1 H1 b Γ1 I1 s1 h1 => ?_
  cases b with
  | true => exact iteT (q F1 H1 _ Γ1 I1 s1 h1)
  | false => exact iteF (sb.run I1 eo h1 fun F2 H2 e Γ2 I2 s2 h2 => q F2 H2 e Γ2 I2 (s1.trans s2) h2)⟩
instance snd_not [sa : SndT K E ψ tt dtt] : SndT K E ψ (tNot tt) (dNot dtt) := ⟨fun {c F H σ Γ φ Q} I eo h q => sa.run I eo h fun F1 H1 b Γ1 I1 s1 h1 => q F1 H1 _ Γ1 I1 s1 h1⟩
def dIf (dtt : DB) (da db : DT) : DT := fun Γ φ => dtt Γ fun b Γ1 => if b = true then da Γ1 φ else db Γ1 φ
instance snd_if [st : SndT K E ψ tt dtt] [sa : Snd K E ψ ta da] [sb : Snd K E ψ tb db] : Snd K E ψ (tIf tt ta tb) (dIf dtt da db) := ⟨fun {c F H σ Γ φ Q} I eo h q => by
  refine st.run I eo h fun F1 H1 b Γ1 I1 s1 h1 => ?_
  cases b with
  | true => exact iteT (sa.run I1 eo h1 fun F2 H2 v e Γ2 I2 s2 r2 h2 => q F2 H2 v e Γ2 I2 (s1.trans s2) r2 h2)
  | false => exact iteF (sb.run I1 eo h1 fun F2 H2 v e Γ2 I2 s2 r2 h2 => q F2 H2 v e Γ2 I2 (s1.trans s2) r2 h2)⟩
/-- a < b < c -/
def dChain (dr dr' : D → D → (En → Prop) → Prop) (da db dx : DT) : DT := fun Γ φ => da Γ fun e Γ1 => wf e fun x => db Γ1 fun e' Γ2 => wf e' fun y => dr x y fun z => wb z fun k => if k = true then dx Γ2 fun e'' Γ3 => wf e'' fun w => dr' y w fun z => φ z Γ3 else φ (.d (.bl false)) Γ2
instance snd_chain {r' : R2} {dr' : D → D → (En → Prop) → Prop} [sr : SndR K r dr] [sr' : SndR K r' dr'] [sa : Snd K E ψ ta da] [sb : Snd K E ψ tb db] [sx : Snd K E ψ tx dx] : Snd K E ψ (tChain r r' ta tb tx) (dChain dr dr' da db dx) := ⟨fun {c F H σ Γ φ Q} I eo h q => by
  refine sa.frz (φ := fun _ _ => True) (k := fun x Γ1 => db Γ1 fun e' Γ2 => wf e' fun y => dr x y fun z => wb z fun k => if k = true then dx Γ2 fun e'' Γ3 => wf e'' fun w => dr' y w fun z => φ z Γ3 else φ (.d (.bl false)) Γ2) I eo h fun F1 H1 v x Γ1 I1 s1 r1 h1 => ?_
  refine sb.frz (φ := fun _ _ => True) (k := fun y Γ2 => dr x y fun z => wb z fun k => if k = true then dx Γ2 fun e'' Γ3 => wf e'' fun w => dr' y w fun z => φ z Γ3 else φ (.d (.bl false)) Γ2) I1 eo h1 fun F2 H2 u y Γ2 I2 s2 r2 h2 => ?_
  refine sr.run I2 (r1.mono s2) r2 h2 fun F3 H3 w z I3 s3 r3 h3 => ?_
  obtain ⟨k, rfl, h3⟩ := wb_of h3
  cases (show Rep F3 w (.bl k) from r3.1)
  refine ⟨k, rfl, ?_⟩
  cases k with
  | false => exact iteF (q F3 H3 _ _ Γ2 I3 ((s1.trans s2).trans s3) (Res.d (.bl _)) h3)
  | true =>
    refine iteT ?_
    refine sx.frz (φ := fun _ _ => True) (k := fun w Γ3 => dr' y w fun z => φ z Γ3) I3 eo h3 fun F4 H4 w x4 Γ4 I4 s4 r4 h4 => ?_
    exact sr'.run I4 ((r2.mono s3).mono s4) r4 h4 fun F5 H5 w5 z5 I5 s5 r5 h5 => q F5 H5 w5 z5 Γ4 I5 ((((s1.trans s2).trans s3).trans s4).trans s5) r5 h5⟩
end
end Da

set_option Elab.async false
set_option maxRecDepth 100000
set_option maxHeartbeats 4000000
set_option linter.all false
namespace Da
open PySem PySem.Spec PyProof.Rows L2 RZ
/-! ### what a def promises, over data -/
def c0 (K : PySem.W.Frag) (F H : Hp) : Ct K := ⟨F, ntH H, none, none, fun _ _ e => nomatch e⟩
def spX (K : PySem.W.Frag) [HasT K] (den : List D → (En → Prop) → (Value → Prop) → Prop) : Sp := fun vs H Q E => ∃ (F : Hp) (ds : List D) (φ : En → Prop) (ψ : Value → Prop), Same F H ∧ FN F ∧ TbOk K H ∧ Reps F vs ds ∧ den ds φ ψ ∧
  (∀ F' H' v e, Same F F' → NS H H' → TbOk K H' → Same F' H' → FN F' → (∀ a o, F' a = some o → F a = some o ∨ Soft (ntH H) a) → Held (c0 K F H) F' H' e v → e ≠ .no → φ e → Q v H') ∧
  (∀ C H', NS H H' → TbOk K H' → ψ C → E C none H')
/-- with a pen ahead -/
def cP (K : PySem.W.Frag) (F H : Hp) (p : Addr) : Ct K := ⟨F, ntH H, some p, none, fun _ _ e => nomatch e⟩
def spP (K : PySem.W.Frag) [HasT K] (den : List D → (En → Prop) → Prop) : Sp := fun vs H Q _ => ∃ (p : Addr) (us : List V) (F : Hp) (ds : List D) (φ : En → Prop), vs = .ref p :: us ∧ F p = none ∧ PenAt H p ∧ Same F H ∧ FN F ∧ TbOk K H ∧ Reps F us ds ∧ den ds φ ∧
  (∀ F' H' v e, Same F F' → (∀ a o, a ≠ p → NT o → H a = some o → H' a = some o) → TbOk K H' → PenAt H' p → Same F' H' → FN F' → (∀ a o, F' a = some o → F a = some o ∨ Soft (ntH H) a) → Held (cP K F H p) F' H' e v → e ≠ .no → e ≠ .pen → φ e → Q v H')
/-- iterators -/
def ItOk (K : PySem.W.Frag) [HasT K] (F1 : Hp) (J : It) (items : List D) : Prop := ∀ (c : Ct K) F H σ Γ (i : Nat), Is c F H σ Γ → Same F1 F →
  (i = items.length → J.stop i H) ∧ ∀ d, items[i]? = some d → J.go i H ∧ ∀ x H', J.yld i H x H' → ∃ F', Is c F' H' σ Γ ∧ Same F F' ∧ Rep F' x d
class SndI (K : PySem.W.Frag) [HasT K] (E : XK) (ψ : Value → Prop) (wi : TI) (den : outParam DA) : Prop where
  run : ∀ {c : Ct K} {F H : Hp} {σ : L2.St} {Γ : List En} {φ : List D → List En → Prop} {R : It → Hp → Prop}, Is c F H σ Γ → EOk c E ψ → den Γ φ →
    (∀ F' H' J items Γ', Is c F' H' σ Γ' → Same F F' → ItOk K F' J items → φ items Γ' → R J H') → wi σ H R
/-- targets -/
class SndG (K : PySem.W.Frag) [HasT K] (g : TG) (gv : outParam (List Nat)) (den : outParam (D → List En → (List En → Prop) → Prop)) : Prop where
  run : ∀ {c : Ct K} {F H : Hp} {σ : L2.St} {Γ : List En} {x : V} {d : D} {φ : List En → Prop} {Q : L2.St → Hp → Prop}, Is c F H σ Γ → Rep F x d → den d Γ φ →
    (∀ σ' Γ', Is c F H σ' Γ' → (∀ vs, (∀ i ∈ gv, i ∈ vs) → wipe σ' vs = wipe σ vs) → φ Γ' → Q σ' H) → g x σ H Q
class SndGs (K : PySem.W.Frag) [HasT K] (g : TGs) (gv : outParam (List Nat)) (den : outParam (List D → List En → (List En → Prop) → Prop)) : Prop where
  run : ∀ {c : Ct K} {F H : Hp} {σ : L2.St} {Γ : List En} {xs : List V} {ds : List D} {φ : List En → Prop} {Q : L2.St → Hp → Prop}, Is c F H σ Γ → Reps F xs ds → den ds Γ φ →
    (∀ σ' Γ', Is c F H σ' Γ' → (∀ vs, (∀ i ∈ gv, i ∈ vs) → wipe σ' vs = wipe σ vs) → φ Γ' → Q σ' H) → g xs σ H Q
theorem wipe_in {σ : L2.St} {j : Nat} : ∀ {vs : List Nat}, j ∈ vs → (wipe σ vs)[j]? = if j < σ.length then some none else none
  | v :: vs, h => by
    show ((wipe σ vs).set v none)[j]? = _
    rw [List.getElem?_set, wipe_length]
    by_cases z : v = j
    · rw [if_pos z, z]
    · rw [if_neg z]
      exact wipe_in ((List.mem_cons.mp h).resolve_left fun w => z w.symm)
theorem wipe_set {σ : L2.St} {i : Nat} {v : Option V} {vs : List Nat} (h : i ∈ vs) : wipe (σ.set i v) vs = wipe σ vs := by
  apply List.ext_getElem?
  intro j
  by_cases hj : j ∈ vs
  · rw [wipe_in hj, wipe_in hj, List.length_set]
  · rw [wipe_out hj, wipe_out hj, List.getElem?_set_ne fun z => hj (by rw [← z]; exact h)]
theorem wipe_wipe {σ : L2.St} {vs : List Nat} : wipe (wipe σ vs) vs = wipe σ vs := by
  apply List.ext_getElem?
  intro j
  by_cases hj : j ∈ vs
  · rw [wipe_in hj, wipe_in hj, wipe_length]
  · rw [wipe_out hj]
section
variable {K : PySem.W.Frag} [HasT K] {E : XK} {ψ : Value → Prop} {te ta tb tx : TE} {da db dx de : DT} {tt tu : TT} {dtt dtu : DB} {al : TA} {dal : DA} {r : R2} {dr : D → D → (En → Prop) → Prop}
/-! ### calls of built-ins -/
def dCB (dc : List D → (En → Prop) → Prop) (dal : DA) : DT := fun Γ φ => dal Γ fun xs Γ1 => dc xs fun z => φ z Γ1
instance (priority := 900) snd_cb {rc : List V → Hp → VK → Prop} {dc : List D → (En → Prop) → Prop} [sc : SndC K rc dc] [sl : SndA K E ψ al dal] : Snd K E ψ (tCB rc al) (dCB dc dal) := ⟨fun {c F H σ Γ φ Q} I eo h q => by
  refine sl.run I eo h fun F1 H1 vs xs Γ1 I1 s1 r1 h1 => ?_
  exact sc.run I1 r1 h1 fun F2 H2 v z I2 s2 r2 h2 => q F2 H2 v z Γ1 I2 (s1.trans s2) r2 h2⟩
def rLen (K : PySem.W.Frag) : List V → Hp → VK → Prop := fun xs H Q => ∃ x n, xs = [x] ∧ LenV K x H n ∧ Q (.int n) H
theorem cl_len {X : Cx} : CallR X (.builtin "len") (rLen X.K) := call_len
def dLenR (xs : List D) (φ : En → Prop) : Prop := match xs with
  | [.tup ds] => φ (.d (.int ds.length))
  | [.lst ds] => φ (.d (.int ds.length))
  | [.str s] => s.length ≤ sizeLine ∧ φ (.d (.int s.length))
  | _ => False
theorem one_of {F : Hp} {xs : List V} {d : D} (r : Reps F xs [d]) : ∃ x, xs = [x] ∧ Rep F x d := by
  cases r with
  | cons a b =>
    cases b
    exact ⟨_, rfl, a⟩
instance snd_len : SndC K (rLen K) dLenR := ⟨fun {c F H σ Γ xs ds φ Q} I r h q => by
  match ds, r, h with
  | [.tup es], r, h =>
    obtain ⟨x, rfl, rp⟩ := one_of r
    cases rp with
    | tup e rs => exact ⟨_, es.length, rfl, .inr ⟨_, SqT.of (I.fh _ _ e), rs.length.symm⟩, q F H _ _ I (Same.refl F) (Res.d (.int _)) h⟩
  | [.lst es], r, h =>
    obtain ⟨x, rfl, rp⟩ := one_of r
    cases rp with
    | lst e rs => exact ⟨_, es.length, rfl, .inl ⟨_, SqL.of (I.fh _ _ e), rs.length.symm⟩, q F H _ _ I (Same.refl F) (Res.d (.int _)) h⟩
  | [.str s], r, h =>
    obtain ⟨x, rfl, rp⟩ := one_of r
    cases rp
    exact ⟨_, s.length, rfl, ⟨h.1, rfl⟩, q F H _ _ I (Same.refl F) (Res.d (.int _)) h.2⟩⟩
/-- len of what a slot owns -/
def dLenv (i : Nat) : DT := fun Γ φ => match Γ[i]? with
  | some (.lst xs) => φ (.d (.int xs.length)) Γ
  | some (.scr ns) => φ (.d (.int ns.length)) Γ
  | some (.d x) => dLenR [x] fun z => φ z Γ
  | _ => False
theorem Is.script {c : Ct K} {F H : Hp} {σ : L2.St} {Γ : List En} {i : Nat} {ns : List Int} (I : Is c F H σ Γ) (g : Γ[i]? = some (.scr ns)) : ∃ a, σ[i]? = some (some (.ref a)) ∧ SqL K H a (ns.map V.int) := by
  obtain ⟨v, hv, a, rfl, e⟩ := I.at_ i _ g (fun z => nomatch z)
  refine ⟨a, hv, ?_⟩
  obtain ⟨h1, h2⟩ := c.hs a ns e
  rcases h1 with (h | ⟨o, h⟩) | h
  · exact .inl (.inl (I.h0 _ _ h2 h))
  · exact .inl (.inr ⟨o, I.h0 _ _ h2 h⟩)
  · exact .inr h
instance snd_lenv (i : Nat) : Snd K E ψ (tCB (rLen K) (tCons (tVar i) tNil)) (dLenv i) := ⟨fun {c F H σ Γ φ Q} I eo h q => by
  unfold dLenv at h
  cases g : Γ[i]? with
  | none => rw [g] at h; exact h.elim
  | some e =>
    rw [g] at h
    cases e with
    | d x =>
      obtain ⟨v, hv, rp⟩ := I.at_ i _ g (fun z => nomatch z)
      exact ⟨v, hv, SndC.run (r := rLen K) I (.cons rp .nil) h fun F2 H2 v z I2 s2 r2 h2 => q F2 H2 v z Γ I2 s2 r2 h2⟩
    | lst xs =>
      obtain ⟨v, hv, a, vs, rfl, _, _, hl, rs⟩ := I.at_ i _ g (fun z => nomatch z)
      exact ⟨_, hv, _, xs.length, rfl, .inl ⟨vs, SqL.of hl, rs.length.symm⟩, q F H _ _ Γ I (Same.refl F) (Res.d (.int _)) h⟩
    | scr ns =>
      obtain ⟨a, hv, hs⟩ := I.script g
      exact ⟨_, hv, _, ns.length, rfl, .inl ⟨_, hs, by rw [List.length_map]⟩, q F H _ _ Γ I (Same.refl F) (Res.d (.int _)) h⟩
    | no => exact h.elim
    | dK ks xs => exact h.elim
    | dT ks xs => exact h.elim
    | ow o S => exact h.elim
    | pen => exact h.elim⟩
/-- list(x), tuple(x) -/
def rList (K : PySem.W.Frag) : List V → Hp → VK → Prop := fun xs H Q => ∃ p ys, xs = [.ref p] ∧ (SqL K H p ys ∨ SqT K H p ys) ∧ ∀ l, H l = none → Q (.ref l) (upd H l (.lst ys))
theorem cl_list {X : Cx} : CallR X (.type "list") (rList X.K) := call_list_of
def dListR (xs : List D) (φ : En → Prop) : Prop := match xs with
  | [.tup ds] => φ (.lst ds)
  | [.lst ds] => φ (.lst ds)
  | _ => False
instance snd_list : SndC K (rList K) dListR := ⟨fun {c F H σ Γ xs ds φ Q} I r h q => by
  have go : ∀ (p : Addr) (vs : List V) (es : List D), Reps F vs es → (SqL K H p vs ∨ SqT K H p vs) → φ (.lst es) → rList K [.ref p] H Q := fun p vs es rs hs h => ⟨p, vs, rfl, hs, fun l hl => by
    obtain ⟨I2, r2⟩ := I.newL hl rs
    exact q _ _ _ _ I2 (Same.refl F) r2 h⟩
  match ds, r, h with
  | [.tup es], r, h =>
    obtain ⟨x, rfl, rp⟩ := one_of r
    cases rp with
    | tup e rs => exact go _ _ _ rs (.inr (SqT.of (I.fh _ _ e))) h
  | [.lst es], r, h =>
    obtain ⟨x, rfl, rp⟩ := one_of r
    cases rp with
    | lst e rs => exact go _ _ _ rs (.inl (SqL.of (I.fh _ _ e))) h⟩
def rTuple (K : PySem.W.Frag) : List V → Hp → VK → Prop := fun xs H Q => ∃ p ys, xs = [.ref p] ∧ ((SqL K H p ys ∧ ∀ l, H l = none → Q (.ref l) (upd H l (.tup ys))) ∨ (SqT K H p ys ∧ Q (.ref p) H))
theorem cl_tuple {X : Cx} : CallR X (.type "tuple") (rTuple X.K) := call_tuple_of
def dTupR (xs : List D) (φ : En → Prop) : Prop := match xs with
  | [.tup ds] => φ (.d (.tup ds))
  | [.lst ds] => φ (.d (.tup ds))
  | _ => False
instance snd_tuple : SndC K (rTuple K) dTupR := ⟨fun {c F H σ Γ xs ds φ Q} I r h q => by
  match ds, r, h with
  | [.tup es], r, h =>
    obtain ⟨x, rfl, rp⟩ := one_of r
    cases rp with
    | tup e rs => exact ⟨_, _, rfl, .inr ⟨SqT.of (I.fh _ _ e), q F H _ _ I (Same.refl F) (Res.d (.tup e rs)) h⟩⟩
  | [.lst es], r, h =>
    obtain ⟨x, rfl, rp⟩ := one_of r
    cases rp with
    | @lst a vs _ e rs =>
      refine ⟨_, _, rfl, .inl ⟨SqL.of (I.fh _ _ e), fun l hl => ?_⟩⟩
      obtain ⟨I2, s2, _⟩ := I.new (o := .tup vs) hl
      exact q _ _ _ _ I2 s2 (Res.d (.tup upd_same (rs.mono s2))) h⟩
def dAllR (xs : List D) (φ : En → Prop) : Prop := match xs with
  | [.lst ds] => ∃ bs : List Bool, ds = bs.map D.bl ∧ φ (.d (.bl (bs.all id)))
  | _ => False
instance snd_all : SndC K (rAll K) dAllR := ⟨fun {c F H σ Γ xs ds φ Q} I r h q => by
  match ds, r, h with
  | [.lst es], r, h =>
    obtain ⟨bs, rfl, h⟩ := h
    obtain ⟨x, rfl, rp⟩ := one_of r
    cases rp with
    | lst e rs =>
      rw [rs.of_bls] at e
      exact ⟨_, bs, rfl, SqL.of (I.fh _ _ e), q F H _ _ I (Same.refl F) (Res.d (.bl _)) h⟩⟩
def dAnyR (xs : List D) (φ : En → Prop) : Prop := match xs with
  | [.lst ds] => ∃ bs : List Bool, ds = bs.map D.bl ∧ φ (.d (.bl (bs.any id)))
  | _ => False
instance snd_any : SndC K (rAny K) dAnyR := ⟨fun {c F H σ Γ xs ds φ Q} I r h q => by
  match ds, r, h with
  | [.lst es], r, h =>
    obtain ⟨bs, rfl, h⟩ := h
    obtain ⟨x, rfl, rp⟩ := one_of r
    cases rp with
    | lst e rs =>
      rw [rs.of_bls] at e
      exact ⟨_, bs, rfl, SqL.of (I.fh _ _ e), q F H _ _ I (Same.refl F) (Res.d (.bl _)) h⟩⟩
def dSumR (xs : List D) (φ : En → Prop) : Prop := match xs with
  | [.lst ds] => ∃ is : List Int, ds = is.map D.int ∧ φ (.d (.int is.sum))
  | _ => False
instance snd_sum : SndC K (rSum K) dSumR := ⟨fun {c F H σ Γ xs ds φ Q} I r h q => by
  match ds, r, h with
  | [.lst es], r, h =>
    obtain ⟨bs, rfl, h⟩ := h
    obtain ⟨x, rfl, rp⟩ := one_of r
    cases rp with
    | lst e rs =>
      rw [rs.of_ints] at e
      exact ⟨_, bs, rfl, SqL.of (I.fh _ _ e), q F H _ _ I (Same.refl F) (Res.d (.int _)) h⟩⟩
def rMx (xs : List V) (H : Hp) (Q : VK) : Prop := ∃ i j, xs = [.int i, .int j] ∧ Q (.int (if j > i then j else i)) H
def rMn (xs : List V) (H : Hp) (Q : VK) : Prop := ∃ i j, xs = [.int i, .int j] ∧ Q (.int (if j < i then j else i)) H
theorem cl_max {X : Cx} (hc : X.calm = true) : CallR X (.builtin "max") rMx := call_max2 hc
theorem cl_min {X : Cx} (hc : X.calm = true) : CallR X (.builtin "min") rMn := call_min2 hc
def dMxR (xs : List D) (φ : En → Prop) : Prop := match xs with
  | [.int i, .int j] => φ (.d (.int (if j > i then j else i)))
  | _ => False
def dMnR (xs : List D) (φ : En → Prop) : Prop := match xs with
  | [.int i, .int j] => φ (.d (.int (if j < i then j else i)))
  | _ => False
instance snd_mx : SndC K rMx dMxR := ⟨fun {c F H σ Γ xs ds φ Q} I r h q => by
  match ds, r, h with
  | [.int i, .int j], .cons a (.cons b .nil), h =>
    cases a
    cases b
    exact ⟨i, j, rfl, q F H _ _ I (Same.refl F) (Res.d (.int _)) h⟩⟩
instance snd_mn : SndC K rMn dMnR := ⟨fun {c F H σ Γ xs ds φ Q} I r h q => by
  match ds, r, h with
  | [.int i, .int j], .cons a (.cons b .nil), h =>
    cases a
    cases b
    exact ⟨i, j, rfl, q F H _ _ I (Same.refl F) (Res.d (.int _)) h⟩⟩
def rInt1 (xs : List V) (H : Hp) (Q : VK) : Prop := (∃ i, xs = [.int i] ∧ Q (.int i) H) ∨ ∃ k, xs = [.bl k] ∧ Q (.int (if k then 1 else 0)) H
theorem cl_int {X : Cx} : CallR X (.type "int") rInt1 := call_int1
def dIntR (xs : List D) (φ : En → Prop) : Prop := match xs with
  | [.int i] => φ (.d (.int i))
  | [.bl k] => φ (.d (.int (if k then 1 else 0)))
  | _ => False
instance snd_int1 : SndC K rInt1 dIntR := ⟨fun {c F H σ Γ xs ds φ Q} I r h q => by
  match ds, r, h with
  | [.int i], .cons a .nil, h =>
    cases a
    exact .inl ⟨i, rfl, q F H _ _ I (Same.refl F) (Res.d (.int _)) h⟩
  | [.bl k], .cons a .nil, h =>
    cases a
    exact .inr ⟨k, rfl, q F H _ _ I (Same.refl F) (Res.d (.int _)) h⟩⟩
/-- isinstance(x, T) -/
def D.ty : D → Option String
  | .non => some "NoneType"
  | .bl _ => some "bool"
  | .int _ => some "int"
  | .str _ => some "str"
  | .tup _ => some "tuple"
  | .lst _ => some "list"
  | .dK _ _ => some "dict"
  | .dT _ _ => some "dict"
  | .ins _ _ _ => none
def isTy (T : String) (x : D) : Option Bool := match x.ty with
  | some t => if t = T then some true else if t = "bool" ∧ T = "int" then some true else some false
  | none => none
def dIsi (T : String) (da : DT) : DT := fun Γ φ => da Γ fun e Γ1 => wf e fun x => T ∈ ["int", "bool", "str", "tuple", "list", "dict"] ∧ ∃ b, isTy T x = some b ∧ φ (.d (.bl b)) Γ1
theorem kit_all {t T : String} (ht : t ∈ ["NoneType", "bool", "int", "str", "tuple", "list", "dict"]) (hT : T ∈ ["int", "bool", "str", "tuple", "list", "dict"]) : PySem.W.kitOne K (.type t) (.type T) = some (decide (t = T) || (decide (t = "bool") && decide (T = "int"))) := by
  simp only [List.mem_cons, List.not_mem_nil, or_false] at ht hT
  rcases ht with rfl | rfl | rfl | rfl | rfl | rfl | rfl <;> rcases hT with rfl | rfl | rfl | rfl | rfl | rfl <;> first | exact kit_ty (show kitB _ _ = some true by decide +kernel) | exact kit_ty (show kitB _ _ = some false by decide +kernel)
theorem Rep.tyX {F H : Hp} (fh : Same F H) {v : V} {x : D} {t : String} (r : Rep F v x) (h : x.ty = some t) : TyX K H v (.type t) := by
  cases r with
  | non => cases h; exact .base .non
  | bl b => cases h; exact .base (.bl b)
  | int b => cases h; exact .base (.int b)
  | str b => cases h; exact .base (.str b)
  | tup e r => cases h; exact .base (.tup (fh _ _ e))
  | lst e r => cases h; exact .base (.lst (fh _ _ e))
  | dK e k r => cases h; exact .base (.dK (fh _ _ e))
  | dT e k r => cases h; exact .base (.dT (fh _ _ e))
  | ins e k r => cases h
theorem D.ty_in {x : D} {t : String} (h : x.ty = some t) : t ∈ ["NoneType", "bool", "int", "str", "tuple", "list", "dict"] := by
  cases x <;> cases h <;> decide
instance snd_isi (T : String) [sa : Snd K E ψ ta da] : Snd K E ψ (tCB (rIsi K) (tCons ta (tCons (tC (.ty T)) tNil))) (dIsi T da) := ⟨fun {c F H σ Γ φ Q} I eo h q => by
  refine sa.frz (φ := fun _ _ => True) (k := fun x Γ1 => T ∈ ["int", "bool", "str", "tuple", "list", "dict"] ∧ ∃ b, isTy T x = some b ∧ φ (.d (.bl b)) Γ1) I eo h fun F1 H1 v x Γ1 I1 s1 r1 h1 => ?_
  obtain ⟨hT, b, hb, h1⟩ := h1
  unfold isTy at hb
  cases ht : x.ty with
  | none => rw [ht] at hb; cases hb
  | some t =>
    rw [ht] at hb
    refine ⟨v, .ty T, .type t, .type T, _, rfl, .ty T, r1.tyX I1.fh ht, kit_all (D.ty_in ht) hT, ?_⟩
    have e : (decide (t = T) || (decide (t = "bool") && decide (T = "int"))) = b := by
      by_cases z : t = T
      · simp only [z, if_true] at hb
        cases hb
        simp [z]
      · by_cases w : t = "bool" ∧ T = "int"
        · simp only [if_neg z, if_pos w] at hb
          cases hb
          simp [w.1, w.2]
        · simp only [if_neg z, if_neg w] at hb
          cases hb
          rw [decide_eq_false z, Bool.false_or]
          by_cases w1 : t = "bool"
          · have w2 : T ≠ "int" := fun w2 => w ⟨w1, w2⟩
            rw [decide_eq_false w2, Bool.and_false]
          · rw [decide_eq_false w1, Bool.false_and]
    rw [e]
    exact q F1 H1 _ _ Γ1 I1 s1 (Res.d (.bl _)) h1⟩
/-! ### slices -/
def cutL {α : Type} (xs : List α) (lo hi : Option Int) : List α := (xs.drop (HT.sIx xs.length 0 lo)).take (HT.sIx xs.length xs.length hi - HT.sIx xs.length 0 lo)
theorem Reps.cut {F : Hp} {vs : List V} {ds : List D} (r : Reps F vs ds) (lo hi : Option Int) : Reps F (cutV vs lo hi) (cutL ds lo hi) := by
  unfold cutV cutL
  rw [r.length]
  exact (r.drop _).take _
class SndO (K : PySem.W.Frag) [HasT K] (E : XK) (ψ : Value → Prop) (to : TO) (den : outParam (List En → (Option Int → List En → Prop) → Prop)) : Prop where
  run : ∀ {c : Ct K} {F H : Hp} {σ : L2.St} {Γ : List En} {φ : Option Int → List En → Prop} {Q : Option Int → Hp → Prop}, Is c F H σ Γ → EOk c E ψ → den Γ φ →
    (∀ F' H' o Γ', Is c F' H' σ Γ' → Same F F' → φ o Γ' → Q o H') → to σ H Q
def wi (e : En) (k : Int → Prop) : Prop := match e with
  | .d (.int i) => k i
  | _ => False
theorem wi_of {e : En} {k : Int → Prop} (h : wi e k) : ∃ b, e = .d (.int b) ∧ k b := by
  cases e with
  | d x => cases x <;> first | exact ⟨_, rfl, h⟩ | exact h.elim
  | _ => exact h.elim
def dNoPart : List En → (Option Int → List En → Prop) → Prop := fun Γ φ => φ none Γ
def dPart (da : DT) : List En → (Option Int → List En → Prop) → Prop := fun Γ φ => da Γ fun e Γ1 => wi e fun i => φ (some i) Γ1
instance snd_nopart : SndO K E ψ tNoPart dNoPart := ⟨fun {c F H σ Γ φ Q} I eo h q => q F H none Γ I (Same.refl F) h⟩
instance snd_part [sa : Snd K E ψ ta da] : SndO K E ψ (tPart ta) (dPart da) := ⟨fun {c F H σ Γ φ Q} I eo h q => sa.run I eo h fun F1 H1 v e Γ1 I1 s1 r1 h1 => by
  obtain ⟨i, rfl, h1⟩ := wi_of h1
  cases (show Rep F1 v (.int i) from r1.1)
  exact ⟨i, rfl, q F1 H1 _ Γ1 I1 s1 h1⟩⟩
def dSl (t : Bool) (da : DT) (dl dh : List En → (Option Int → List En → Prop) → Prop) : DT := fun Γ φ => da Γ fun e Γ1 => wf e fun x => dl Γ1 fun lo Γ2 => dh Γ2 fun hi Γ3 => match x with
  | .tup xs => t = true ∧ φ (.d (.tup (cutL xs lo hi))) Γ3
  | .lst xs => t = false ∧ φ (.lst (cutL xs lo hi)) Γ3
  | _ => False
theorem cut_whole {α : Type} {xs : List α} {lo hi : Option Int} (h : HT.sIx xs.length 0 lo = 0 ∧ HT.sIx xs.length xs.length hi = xs.length) : cutL xs lo hi = xs := by
  unfold cutL
  rw [h.1, h.2, List.drop_zero, Nat.sub_zero, List.take_length]
instance snd_slA {tl th : TO} {dl dh : List En → (Option Int → List En → Prop) → Prop} [sa : Snd K E ψ ta da] [sl : SndO K E ψ tl dl] [sh : SndO K E ψ th dh] : Snd K E ψ (tSl (rSlA K) ta tl th) (dSl true da dl dh) := ⟨fun {c F H σ Γ φ Q} I eo h q => by
  refine sa.frz (φ := fun _ _ => True) (k := fun x Γ1 => dl Γ1 fun lo Γ2 => dh Γ2 fun hi Γ3 => match x with
  | .tup xs => true = true ∧ φ (.d (.tup (cutL xs lo hi))) Γ3
  | .lst xs => true = false ∧ φ (.lst (cutL xs lo hi)) Γ3
  | _ => False) I eo h fun F1 H1 v x Γ1 I1 s1 r1 h1 => ?_
  refine sl.run I1 eo h1 fun F2 H2 lo Γ2 I2 s2 h2 => ?_
  refine sh.run I2 eo h2 fun F3 H3 hi Γ3 I3 s3 h3 => ?_
  have r3 := (r1.mono s2).mono s3
  cases r3 with
  | @tup a vs es e rs =>
    refine ⟨a, vs, rfl, SqT.of (I3.fh _ _ e), fun w => ?_, fun _ p hp => ?_⟩
    · rw [rs.length] at w
      have := h3.2
      rw [cut_whole w] at this
      exact q F3 H3 _ _ Γ3 I3 ((s1.trans s2).trans s3) (Res.d (.tup e rs)) this
    · obtain ⟨I4, s4, _⟩ := I3.new (o := .tup (cutV vs lo hi)) hp
      exact q _ _ _ _ Γ3 I4 (((s1.trans s2).trans s3).trans s4) (Res.d (.tup upd_same ((rs.cut lo hi).mono s4))) h3.2
  | lst e rs => exact absurd h3.1 (by decide)
  | _ => exact h3.elim⟩
instance snd_slL {tl th : TO} {dl dh : List En → (Option Int → List En → Prop) → Prop} [sa : Snd K E ψ ta da] [sl : SndO K E ψ tl dl] [sh : SndO K E ψ th dh] : Snd K E ψ (tSl (rSlL K) ta tl th) (dSl false da dl dh) := ⟨fun {c F H σ Γ φ Q} I eo h q => by
  refine sa.frz (φ := fun _ _ => True) (k := fun x Γ1 => dl Γ1 fun lo Γ2 => dh Γ2 fun hi Γ3 => match x with
  | .tup xs => false = true ∧ φ (.d (.tup (cutL xs lo hi))) Γ3
  | .lst xs => false = false ∧ φ (.lst (cutL xs lo hi)) Γ3
  | _ => False) I eo h fun F1 H1 v x Γ1 I1 s1 r1 h1 => ?_
  refine sl.run I1 eo h1 fun F2 H2 lo Γ2 I2 s2 h2 => ?_
  refine sh.run I2 eo h2 fun F3 H3 hi Γ3 I3 s3 h3 => ?_
  have r3 := (r1.mono s2).mono s3
  cases r3 with
  | @lst a vs es e rs =>
    refine ⟨a, vs, rfl, SqL.of (I3.fh _ _ e), fun p hp => ?_⟩
    obtain ⟨I4, r4⟩ := I3.newL hp (rs.cut lo hi)
    exact q _ _ _ _ Γ3 I4 ((s1.trans s2).trans s3) r4 h3.2
  | tup e rs => exact absurd h3.1 (by decide)
  | _ => exact h3.elim⟩
/-! ### sums of sequences -/
def dCatA (x y : D) (φ : En → Prop) : Prop := match x, y with
  | .tup xs, .tup ys => xs.length + ys.length ≤ 1000000 ∧ φ (.d (.tup (xs ++ ys)))
  | _, _ => False
instance snd_catA : SndR K (rCatA K) dCatA := ⟨fun {c F H σ Γ x y d e φ Q} I rx ry h q => by
  match d, e, rx, ry, h with
  | .tup ds, .tup es, .tup (vs := vs) e1 r1, .tup (vs := us) e2 r2, h =>
    refine ⟨_, _, vs, us, rfl, rfl, SqT.of (I.fh _ _ e1), SqT.of (I.fh _ _ e2), by rw [r1.length, r2.length]; exact Nat.le_trans h.1 (by decide), fun z => ?_, fun _ z => ?_, fun _ _ p hp => ?_⟩
    · subst z
      cases r1
      exact q F H _ _ I (Same.refl F) (Res.d (.tup e2 r2)) h.2
    · subst z
      cases r2
      have := h.2
      rw [List.append_nil] at this
      exact q F H _ _ I (Same.refl F) (Res.d (.tup e1 r1)) this
    · obtain ⟨I2, s2, _⟩ := I.new (o := .tup (vs ++ us)) hp
      exact q _ _ _ _ I2 s2 (Res.d (.tup upd_same ((r1.app r2).mono s2))) h.2⟩
def dCat (x y : D) (φ : En → Prop) : Prop := match x, y with
  | .lst xs, .lst ys => xs.length + ys.length ≤ 1000000 ∧ φ (.lst (xs ++ ys))
  | _, _ => False
instance snd_cat : SndR K rCat dCat := ⟨fun {c F H σ Γ x y d e φ Q} I rx ry h q => by
  match d, e, rx, ry, h with
  | .lst ds, .lst es, .lst (vs := vs) e1 r1, .lst (vs := us) e2 r2, h =>
    refine ⟨_, _, vs, us, rfl, rfl, I.fh _ _ e1, I.fh _ _ e2, by rw [r1.length, r2.length]; exact Nat.le_trans h.1 (by decide), fun p hp => ?_⟩
    obtain ⟨I2, r3⟩ := I.newL hp (r1.app r2)
    exact q _ _ _ _ I2 (Same.refl F) r3 h.2⟩
def dRep (x y : D) (φ : En → Prop) : Prop := match x, y with
  | .lst xs, .int k => k ≤ 10000 ∧ -10000 ≤ k ∧ xs.length ≤ 100 ∧ φ (.lst (List.replicate k.toNat xs).flatten)
  | _, _ => False
theorem Reps.flat {F : Hp} {vs : List V} {ds : List D} (r : Reps F vs ds) : ∀ n, Reps F (List.replicate n vs).flatten (List.replicate n ds).flatten
  | 0 => .nil
  | n + 1 => by
    rw [List.replicate_succ, List.replicate_succ, List.flatten_cons, List.flatten_cons]
    exact r.app (Reps.flat r n)
instance snd_rep : SndR K rRep dRep := ⟨fun {c F H σ Γ x y d e φ Q} I rx ry h q => by
  match d, e, rx, ry, h with
  | .lst ds, .int k, .lst (vs := vs) e1 r1, .int _, h =>
    obtain ⟨h1, h0, h2, h⟩ := h
    refine ⟨_, k, vs, rfl, rfl, I.fh _ _ e1, by omega, by omega, ?_, fun p hp => ?_⟩
    · rw [r1.length]
      have : ds.length * k.toNat ≤ 100 * 10000 := Nat.mul_le_mul h2 (by omega)
      exact Nat.le_trans this (by decide)
    · obtain ⟨I2, r3⟩ := I.newL hp (r1.flat k.toNat)
      exact q _ _ _ _ I2 (Same.refl F) r3 h⟩
/-! ### in, not in -/
def D.sc : D → Bool
  | .non => true
  | .bl _ => true
  | .int _ => true
  | .str _ => true
  | _ => false
theorem Rep.sc {F : Hp} {v : V} {x : D} (r : Rep F v x) (h : x.sc = true) : flatV v = true ∧ x = vD v := by
  cases r <;> first | exact ⟨rfl, rfl⟩ | exact nomatch h
theorem Reps.sc {F : Hp} : ∀ {vs : List V} {xs : List D}, Reps F vs xs → xs.all D.sc = true → vs.all flatV = true ∧ xs = vs.map vD
  | _, _, .nil, _ => ⟨rfl, rfl⟩
  | _, _, .cons a b, h => by
    rw [List.all_cons, Bool.and_eq_true] at h
    obtain ⟨h1, h2⟩ := a.sc h.1
    obtain ⟨h3, h4⟩ := Reps.sc b h.2
    exact ⟨by rw [List.all_cons, h1, h3]; rfl, by rw [List.map_cons, ← h2, ← h4]⟩
theorem eqv_sc {v u : V} (h1 : flatV v = true) (h2 : flatV u = true) : eqV v u = (vD v).eqv (vD u) := by
  cases v <;> cases u <;> first | (simp only [eqV, D.eqv, vD, D.py, PyData.eqv]; done) | (exact absurd h1 Bool.false_ne_true) | (exact absurd h2 Bool.false_ne_true) | (simp [eqV, D.eqv, vD, D.py, PyData.eqv])
def inD (x : D) (xs : List D) : Bool := xs.any fun y => y.eqv x
theorem inV_D {v : V} (h : flatV v = true) : ∀ {vs : List V}, vs.all flatV = true → inV v vs = inD (vD v) (vs.map vD)
  | [], _ => rfl
  | u :: r, a => by
    rw [List.all_cons, Bool.and_eq_true] at a
    show (eqV u v || inV v r) = ((vD u).eqv (vD v) || inD (vD v) (r.map vD))
    rw [eqv_sc a.1 h, inV_D h a.2]
def dIn (neg : Bool) (x y : D) (φ : En → Prop) : Prop := match y with
  | .lst ys => x.sc = true ∧ ys.all D.sc = true ∧ φ (.d (.bl (if neg then !inD x ys else inD x ys)))
  | .tup ys => x.sc = true ∧ ys.all D.sc = true ∧ φ (.d (.bl (if neg then !inD x ys else inD x ys)))
  | _ => False
instance snd_in (neg : Bool) : SndR K (rIn K neg) (dIn neg) := ⟨fun {c F H σ Γ x y d e φ Q} I rx ry h q => by
  match e, ry, h with
  | .lst es, .lst (vs := us) e2 r2, h =>
    obtain ⟨h1, h2, h3⟩ := h
    obtain ⟨a1, a2⟩ := rx.sc h1
    obtain ⟨b1, b2⟩ := r2.sc h2
    refine ⟨_, us, rfl, .inl (SqL.of (I.fh _ _ e2)), a1, b1, ?_⟩
    rw [inV_D a1 b1, ← a2, ← b2]
    exact q F H _ _ I (Same.refl F) (Res.d (.bl _)) h3
  | .tup es, .tup (vs := us) e2 r2, h =>
    obtain ⟨h1, h2, h3⟩ := h
    obtain ⟨a1, a2⟩ := rx.sc h1
    obtain ⟨b1, b2⟩ := r2.sc h2
    refine ⟨_, us, rfl, .inr (SqT.of (I.fh _ _ e2)), a1, b1, ?_⟩
    rw [inV_D a1 b1, ← a2, ← b2]
    exact q F H _ _ I (Same.refl F) (Res.d (.bl _)) h3⟩
def dInD (neg : Bool) (x y : D) (φ : En → Prop) : Prop := match y with
  | .lst ys => x.fit = true ∧ (D.lst ys).fit = true ∧ φ (.d (.bl (if neg then !inD x ys else inD x ys)))
  | _ => False
theorem any_pys (x : D) : ∀ ys : List D, (pys ys).any (fun z => PyData.eqv z x.py) = inD x ys
  | [] => rfl
  | y :: r => by
    show (PyData.eqv y.py x.py || (pys r).any fun z => PyData.eqv z x.py) = (y.eqv x || inD x r)
    rw [any_pys x r]
    rfl
instance snd_inD : SndR K (rInD K) (dInD false) := ⟨fun {c F H σ Γ x y d e φ Q} I rx ry h q => by
  match e, ry, h with
  | .lst es, ry, h =>
    obtain ⟨h1, h2, h3⟩ := h
    unfold D.fit at h1 h2
    rw [Bool.and_eq_true] at h1 h2
    refine ⟨_, pys es, rx.dp I.fh h1.1, ry.dp I.fh h2.1, h1.2, h2.2, ?_⟩
    rw [any_pys]
    exact q F H _ _ I (Same.refl F) (Res.d (.bl _)) h3⟩
instance snd_notInD : SndR K (rNotInD K) (dInD true) := ⟨fun {c F H σ Γ x y d e φ Q} I rx ry h q => by
  match e, ry, h with
  | .lst es, ry, h =>
    obtain ⟨h1, h2, h3⟩ := h
    unfold D.fit at h1 h2
    rw [Bool.and_eq_true] at h1 h2
    refine ⟨_, pys es, rx.dp I.fh h1.1, ry.dp I.fh h2.1, h1.2, h2.2, ?_⟩
    rw [any_pys]
    exact q F H _ _ I (Same.refl F) (Res.d (.bl _)) h3⟩
/-- is None -/
def D.isN : D → Bool
  | .non => true
  | _ => false
def dIsN (neg : Bool) (x y : D) (φ : En → Prop) : Prop := match y with
  | .non => φ (.d (.bl (if neg then !x.isN else x.isN)))
  | _ => False
theorem dIsN_run {F : Hp} {v : V} {x : D} (rx : Rep F v x) {neg : Bool} {φ : En → Prop} (h : φ (.d (.bl (if neg then !x.isN else x.isN)))) : φ (.d (.bl (if neg then !decide (v = .non) else decide (v = .non)))) := by
  cases rx <;> cases neg <;> simpa [D.isN] using h
instance snd_isN : SndR K rIsN (dIsN false) := ⟨fun {c F H σ Γ x y d e φ Q} I rx ry h q => by
  match e, ry, h with
  | .non, .non, h => exact ⟨rfl, q F H _ _ I (Same.refl F) (Res.d (.bl _)) (dIsN_run (neg := false) (φ := φ) rx h)⟩⟩
instance snd_notN : SndR K rNotN (dIsN true) := ⟨fun {c F H σ Γ x y d e φ Q} I rx ry h q => by
  match e, ry, h with
  | .non, .non, h => exact ⟨rfl, q F H _ _ I (Same.refl F) (Res.d (.bl _)) (dIsN_run (neg := true) (φ := φ) rx h)⟩⟩
end
end Da

set_option Elab.async false
set_option maxRecDepth 100000
set_option maxHeartbeats 4000000
set_option linter.all false
namespace Da
open PySem PySem.Spec PyProof.Rows L2 RZ HmS
section
variable {K : PySem.W.Frag} [HasT K] {E : XK} {ψ : Value → Prop} {te ta tb tx : TE} {da db dx de : DT} {tt tu : TT} {dtt dtu : DB} {al : TA} {dal : DA} {r : R2} {dr : D → D → (En → Prop) → Prop}
/-! ### iterators -/
theorem itOk_at {J : It} {F1 : Hp} {items : List D} (stop : ∀ H, Same F1 H → J.stop items.length H) (go : ∀ (i : Nat) d H, items[i]? = some d → Same F1 H → J.go i H) (yld : ∀ (i : Nat) d H x H', items[i]? = some d → Same F1 H → J.yld i H x H' → H' = H ∧ Rep F1 x d) : ItOk K F1 J items :=
  fun c F H σ Γ i I s => ⟨fun e => by rw [e]; exact stop H (s.trans I.fh), fun d hd => ⟨go i d H hd (s.trans I.fh), fun x H' y => by
    obtain ⟨rfl, rp⟩ := yld i d H x H' hd (s.trans I.fh) y
    exact ⟨F, I, Same.refl F, rp.mono s⟩⟩⟩
def wt (e : En) (k : List D → Prop) : Prop := match e with
  | .d (.tup xs) => k xs
  | _ => False
def wl (e : En) (k : List D → Prop) : Prop := match e with
  | .d (.lst xs) => k xs
  | .lst xs => k xs
  | _ => False
def dITup (da : DT) : DA := fun Γ φ => da Γ fun e Γ1 => wt e fun xs => φ xs Γ1
def dILst (da : DT) : DA := fun Γ φ => da Γ fun e Γ1 => wl e fun xs => φ xs Γ1
theorem itOk_tup {F1 : Hp} {a : Addr} {vs : List V} {ds : List D} (e : F1 a = some (.tup vs)) (rs : Reps F1 vs ds) : ItOk K F1 (Itt K a) ds :=
  itOk_at (fun H s => ⟨vs, SqT.of (s _ _ e), by rw [rs.length]; exact Nat.le_refl _⟩) (fun i d H hd s => by
    obtain ⟨v, hv, _⟩ := rs.get hd
    exact ⟨vs, v, SqT.of (s _ _ e), hv⟩) (fun i d H x H' hd s y => by
    obtain ⟨v, hv, rp⟩ := rs.get hd
    have := y.2 vs (SqT.of (s _ _ e))
    rw [hv] at this
    cases this
    exact ⟨y.1, rp⟩)
theorem itOk_lst {F1 : Hp} {a : Addr} {vs : List V} {ds : List D} (e : F1 a = some (.lst vs)) (rs : Reps F1 vs ds) : ItOk K F1 (Itl K a) ds :=
  itOk_at (fun H s => ⟨vs, SqL.of (s _ _ e), by rw [rs.length]; exact Nat.le_refl _⟩) (fun i d H hd s => by
    obtain ⟨v, hv, _⟩ := rs.get hd
    exact ⟨vs, v, SqL.of (s _ _ e), hv⟩) (fun i d H x H' hd s y => by
    obtain ⟨v, hv, rp⟩ := rs.get hd
    have := y.2 vs (SqL.of (s _ _ e))
    rw [hv] at this
    cases this
    exact ⟨y.1, rp⟩)
theorem wt_of {e : En} {k : List D → Prop} (h : wt e k) : ∃ xs, e = .d (.tup xs) ∧ k xs := by
  cases e with
  | d x =>
    cases x with
    | tup xs => exact ⟨xs, rfl, h⟩
    | _ => exact h.elim
  | _ => exact h.elim
instance snd_itup [sa : Snd K E ψ ta da] : SndI K E ψ (iTup K ta) (dITup da) := ⟨fun {c F H σ Γ φ R} I eo h q => by
  refine sa.run I eo h fun F1 H1 v e Γ1 I1 s1 r1 h1 => ?_
  obtain ⟨xs, rfl, h1⟩ := wt_of h1
  cases (show Rep F1 v (.tup xs) from r1.1) with
  | tup e rs => exact ⟨_, rfl, ⟨_, SqT.of (I1.fh _ _ e)⟩, q F1 H1 _ xs Γ1 I1 s1 (itOk_tup e rs) h1⟩⟩
theorem wl_frz {e : En} {k : List D → Prop} (h : wl e k) : ∃ xs, e.frz = some (.lst xs) ∧ k xs := by
  cases e with
  | d x =>
    cases x with
    | lst xs => exact ⟨xs, rfl, h⟩
    | _ => exact h.elim
  | lst xs => exact ⟨xs, rfl, h⟩
  | _ => exact h.elim
theorem Res.frzL {c : Ct K} {F H : Hp} {σ : L2.St} {Γ : List En} {v : V} {e : En} (I : Is c F H σ Γ) (r : Res c F H σ Γ v e) {k : List D → Prop} (h : wl e k) : ∃ F' a vs xs, v = .ref a ∧ Is c F' H σ Γ ∧ Same F F' ∧ F' a = some (.lst vs) ∧ Reps F' vs xs ∧ k xs := by
  obtain ⟨xs, hx, h1⟩ := wl_frz h
  obtain ⟨F2, I2, s2, rp⟩ := r.frz I hx
  cases rp with
  | lst e rs => exact ⟨F2, _, _, xs, rfl, I2, s2, e, rs, h1⟩
instance snd_ilst [sa : Snd K E ψ ta da] : SndI K E ψ (iList K ta) (dILst da) := ⟨fun {c F H σ Γ φ R} I eo h q => by
  refine sa.run I eo h fun F1 H1 v e Γ1 I1 s1 r1 h1 => ?_
  obtain ⟨F2, a, vs, xs, rfl, I2, s2, ea, rs, h2⟩ := r1.frzL I1 h1
  exact ⟨a, rfl, ⟨_, SqL.of (I2.fh _ _ ea)⟩, q F2 H1 _ xs Γ1 I2 (s1.trans s2) (itOk_lst ea rs) h2⟩⟩
/-- lo, lo + 1, .. (n of them) -/
def upI (lo : Int) (n : Nat) : List D := (List.range n).map fun i : Nat => D.int (lo + i)
theorem upI_get {lo : Int} {n i : Nat} {d : D} (h : (upI lo n)[i]? = some d) : i < n ∧ d = .int (lo + i) := by
  unfold upI at h
  rw [List.getElem?_map] at h
  cases e : (List.range n)[i]? with
  | none => rw [e] at h; cases h
  | some j =>
    rw [e] at h
    cases h
    obtain ⟨h1, h2⟩ := List.getElem?_eq_some_iff.mp e
    simp at h1 h2
    subst h2
    exact ⟨h1, rfl⟩
theorem upI_len {lo : Int} {n : Nat} : (upI lo n).length = n := by simp [upI]
theorem itOk_range {F1 : Hp} {lo : Int} {n : Nat} : ItOk K F1 (Itr lo n) (upI lo n) :=
  itOk_at (fun H s => by rw [upI_len]; exact Nat.le_refl _) (fun i d H hd s => (upI_get hd).1) (fun i d H x H' hd s y => by
    obtain ⟨_, rfl⟩ := upI_get hd
    obtain ⟨rfl, rfl⟩ := y
    exact ⟨rfl, .int _⟩)
def dIRng1 (dal : DA) : DA := fun Γ φ => dal Γ fun xs Γ1 => match xs with
  | [.int n] => -100000 ≤ n ∧ n ≤ 100000 ∧ φ (upI 0 n.toNat) Γ1
  | _ => False
instance snd_irng1 [sa : SndA K E ψ al dal] : SndI K E ψ (iRng1 al) (dIRng1 dal) := ⟨fun {c F H σ Γ φ R} I eo h q => by
  refine sa.run I eo h fun F1 H1 vs xs Γ1 I1 s1 r1 h1 => ?_
  match xs, r1, h1 with
  | [.int n], .cons (.int _) .nil, h1 => exact ⟨n, rfl, by have := h1.1; omega, by have := h1.2.1; omega, q F1 H1 _ _ Γ1 I1 s1 itOk_range h1.2.2⟩⟩
def dIRng2 (dal : DA) : DA := fun Γ φ => dal Γ fun xs Γ1 => match xs with
  | [.int a, .int b] => -100000 ≤ a ∧ a ≤ 100000 ∧ -100000 ≤ b ∧ b ≤ 100000 ∧ φ (upI a (b - a).toNat) Γ1
  | _ => False
instance snd_irng2 [sa : SndA K E ψ al dal] : SndI K E ψ (iRng2 al) (dIRng2 dal) := ⟨fun {c F H σ Γ φ R} I eo h q => by
  refine sa.run I eo h fun F1 H1 vs xs Γ1 I1 s1 r1 h1 => ?_
  match xs, r1, h1 with
  | [.int a, .int b], .cons (.int _) (.cons (.int _) .nil), h1 =>
    obtain ⟨a0, a1, b0, b1, h1⟩ := h1
    exact ⟨a, b, rfl, ⟨by omega, by omega, by omega, by omega⟩, q F1 H1 _ _ Γ1 I1 s1 itOk_range h1⟩⟩
/-- range(a, -1, -1): a, a - 1, .. , 0 -/
def dnI (a : Int) : List D := (List.range (a + 1).toNat).map fun i : Nat => D.int (a - i)
theorem dnI_get {a : Int} {i : Nat} {d : D} (h : (dnI a)[i]? = some d) : i < (a + 1).toNat ∧ d = .int (a - i) := by
  unfold dnI at h
  rw [List.getElem?_map] at h
  cases e : (List.range (a + 1).toNat)[i]? with
  | none => rw [e] at h; cases h
  | some j =>
    rw [e] at h
    cases h
    obtain ⟨h1, h2⟩ := List.getElem?_eq_some_iff.mp e
    simp at h1 h2
    subst h2
    exact ⟨by omega, rfl⟩
theorem dnI_len {a : Int} : (dnI a).length = (a + 1).toNat := by simp [dnI]
def dIDn (dal : DA) : DA := fun Γ φ => dal Γ fun xs Γ1 => match xs with
  | [.int a, .int b, .int c] => -1 ≤ a ∧ a ≤ 100000 ∧ b = -1 ∧ c = -1 ∧ φ (dnI a) Γ1
  | _ => False
instance snd_irng3 [sa : SndA K E ψ al dal] : SndI K E ψ (iRng3 al) (dIDn dal) := ⟨fun {c F H σ Γ φ R} I eo h q => by
  refine sa.run I eo h fun F1 H1 vs xs Γ1 I1 s1 r1 h1 => ?_
  match xs, r1, h1 with
  | [.int a, .int b, .int c], .cons (.int _) (.cons (.int _) (.cons (.int _) .nil)), h1 =>
    obtain ⟨a0, a1, rfl, rfl, h1⟩ := h1
    refine ⟨a, -1, -1, (a + 1).toNat, rfl, ?_, q F1 H1 _ _ Γ1 I1 s1 (itOk_at (fun H s => by rw [dnI_len]; exact Nat.le_refl _) (fun i d H hd s => (dnI_get hd).1) (fun i d H x H' hd s y => ?_)) h1⟩
    · have z := RgC.neg (i := a) (j := -1) (by omega) (by omega) (by omega) (by omega)
      rw [show a - -1 = a + 1 by omega] at z
      exact z
    · obtain ⟨_, rfl⟩ := dnI_get hd
      obtain ⟨rfl, rfl⟩ := y
      refine ⟨rfl, ?_⟩
      have : a + (i : Int) * -1 = a - i := by omega
      rw [this]
      exact .int _⟩
/-! pairs made on the way -/
theorem itOk_pair {J : It} {F1 : Hp} {items : List D} (stop : ∀ H, Same F1 H → J.stop items.length H) (go : ∀ (i : Nat) d H, items[i]? = some d → Same F1 H → J.go i H)
    (yld : ∀ (i : Nat) d H v H', items[i]? = some d → Same F1 H → J.yld i H v H' → ∃ T x y d1 d2, v = .ref T ∧ H T = none ∧ H' = upd H T (.tup [x, y]) ∧ d = .tup [d1, d2] ∧ Rep F1 x d1 ∧ Rep F1 y d2) : ItOk K F1 J items :=
  fun c F H σ Γ i I s => ⟨fun e => by rw [e]; exact stop H (s.trans I.fh), fun d hd => ⟨go i d H hd (s.trans I.fh), fun v H' y => by
    obtain ⟨T, x, w, d1, d2, rfl, hT, rfl, rfl, r1, r2⟩ := yld i d H v H' hd (s.trans I.fh) y
    obtain ⟨I2, s2, _⟩ := I.new (o := .tup [x, w]) hT
    exact ⟨_, I2, s2, .tup upd_same (.cons (r1.mono (s.trans s2)) (.cons (r2.mono (s.trans s2)) .nil))⟩⟩⟩
def pairsI (i : Nat) : List D → List D
  | [] => []
  | x :: r => .tup [.int i, x] :: pairsI (i + 1) r
theorem pairsI_get : ∀ {ds : List D} {j i : Nat} {d : D}, (pairsI j ds)[i]? = some d → ∃ x, ds[i]? = some x ∧ d = .tup [.int ((j + i : Nat) : Int), x]
  | [], j, i, d, h => by simp [pairsI] at h
  | x :: r, j, 0, d, h => by
    cases h
    exact ⟨x, rfl, rfl⟩
  | x :: r, j, i + 1, d, h => by
    obtain ⟨y, e, rfl⟩ := pairsI_get (ds := r) (j := j + 1) (i := i) (by simpa [pairsI] using h)
    exact ⟨y, by simpa using e, by rw [show j + 1 + i = j + (i + 1) by omega]⟩
theorem pairsI_len : ∀ {ds : List D} {j : Nat}, (pairsI j ds).length = ds.length
  | [], _ => rfl
  | _ :: r, j => by rw [pairsI, List.length_cons, List.length_cons, pairsI_len]
def dIEnT (dal : DA) : DA := fun Γ φ => dal Γ fun xs Γ1 => match xs with
  | [.tup ds] => φ (pairsI 0 ds) Γ1
  | _ => False
instance snd_ienT [sa : SndA K E ψ al dal] : SndI K E ψ (iEnumT K al) (dIEnT dal) := ⟨fun {c F H σ Γ φ R} I eo h q => by
  refine sa.run I eo h fun F1 H1 vs xs Γ1 I1 s1 r1 h1 => ?_
  match xs, r1, h1 with
  | [.tup ds], .cons (.tup (a := a) (vs := us) e rs) .nil, h1 =>
    refine ⟨a, us, rfl, SqT.of (I1.fh _ _ e), q F1 H1 _ _ Γ1 I1 s1 (itOk_pair (fun H s => ?_) (fun i d H hd s => ?_) (fun i d H v H' hd s y => ?_)) h1⟩
    · rw [pairsI_len, ← rs.length]
      exact (walk_enumT (K := K)).stops H (SqT.of (s _ _ e))
    · obtain ⟨x, hx, _⟩ := pairsI_get hd
      obtain ⟨v, hv, _⟩ := rs.get hx
      exact (walk_enumT (K := K)).goes i H (List.getElem?_eq_some_iff.mp hv).1 (SqT.of (s _ _ e))
    · obtain ⟨x, hx, rfl⟩ := pairsI_get hd
      obtain ⟨w, hw, rw'⟩ := rs.get hx
      obtain ⟨T, x1, y1, rfl, hT, rfl, e1, e2⟩ := (walk_enumT (K := K) (a := a) (xs := us)).yields i H v H' (List.getElem?_eq_some_iff.mp hw).1 (SqT.of (s _ _ e)) y
      have e1 : some (V.int (i : Nat)) = some x1 := e1
      cases e1
      have e2 : us[i]? = some y1 := e2
      rw [hw] at e2
      cases e2
      exact ⟨T, _, _, _, _, rfl, hT, rfl, by rw [Nat.zero_add], .int _, rw'⟩⟩
def dIEnL (dal : DA) : DA := fun Γ φ => dal Γ fun xs Γ1 => match xs with
  | [.lst ds] => φ (pairsI 0 ds) Γ1
  | _ => False
instance snd_ienL [sa : SndA K E ψ al dal] : SndI K E ψ (iEnum K al) (dIEnL dal) := ⟨fun {c F H σ Γ φ R} I eo h q => by
  refine sa.run I eo h fun F1 H1 vs xs Γ1 I1 s1 r1 h1 => ?_
  match xs, r1, h1 with
  | [.lst ds], .cons (.lst (a := a) (vs := us) e rs) .nil, h1 =>
    refine ⟨a, us, rfl, SqL.of (I1.fh _ _ e), q F1 H1 _ _ Γ1 I1 s1 (itOk_pair (fun H s => ?_) (fun i d H hd s => ?_) (fun i d H v H' hd s y => ?_)) h1⟩
    · rw [pairsI_len, ← rs.length]
      exact ⟨us, SqL.of (s _ _ e), Nat.le_refl _⟩
    · obtain ⟨x, hx, _⟩ := pairsI_get hd
      obtain ⟨v, hv, _⟩ := rs.get hx
      exact ⟨us, v, SqL.of (s _ _ e), hv⟩
    · obtain ⟨x, hx, rfl⟩ := pairsI_get hd
      obtain ⟨w, hw, rw'⟩ := rs.get hx
      obtain ⟨T, x1, rfl, hT, rfl, e1⟩ := y
      have e1 := e1 us (SqL.of (s _ _ e))
      rw [hw] at e1
      cases e1
      exact ⟨T, _, _, _, _, rfl, hT, rfl, by rw [Nat.zero_add], .int _, rw'⟩⟩
def zipD : List D → List D → List D
  | x :: xs, y :: ys => .tup [x, y] :: zipD xs ys
  | _, _ => []
theorem zipD_get : ∀ {xs ys : List D} {i : Nat} {d : D}, (zipD xs ys)[i]? = some d → ∃ x y, xs[i]? = some x ∧ ys[i]? = some y ∧ d = .tup [x, y]
  | [], _, i, d, h => by simp [zipD] at h
  | _ :: _, [], i, d, h => by simp [zipD] at h
  | x :: xs, y :: ys, 0, d, h => by
    cases h
    exact ⟨x, y, rfl, rfl, rfl⟩
  | x :: xs, y :: ys, i + 1, d, h => by
    obtain ⟨a, b, e1, e2, rfl⟩ := zipD_get (xs := xs) (ys := ys) (i := i) (by simpa [zipD] using h)
    exact ⟨a, b, by simpa using e1, by simpa using e2, rfl⟩
theorem zipD_len : ∀ {xs ys : List D}, (zipD xs ys).length = min xs.length ys.length
  | [], _ => by simp [zipD]
  | _ :: _, [] => by simp [zipD]
  | x :: xs, y :: ys => by rw [zipD, List.length_cons, List.length_cons, List.length_cons, zipD_len]; omega
def dIZip (dal : DA) : DA := fun Γ φ => dal Γ fun xs Γ1 => match xs with
  | [.tup ds, .tup es] => φ (zipD ds es) Γ1
  | [.lst ds, .lst es] => φ (zipD ds es) Γ1
  | _ => False
instance snd_izip [sa : SndA K E ψ al dal] : SndI K E ψ (iZipA K al) (dIZip dal) := ⟨fun {c F H σ Γ φ R} I eo h q => by
  refine sa.run I eo h fun F1 H1 vs xs Γ1 I1 s1 r1 h1 => ?_
  match xs, r1, h1 with
  | [.tup ds, .tup es], .cons (.tup (a := a) (vs := us) e rs) (.cons (.tup (a := b) (vs := ws) e' rs') .nil), h1 =>
    refine ⟨a, b, us, ws, rfl, .inr ⟨SqT.of (I1.fh _ _ e), SqT.of (I1.fh _ _ e'), q F1 H1 _ _ Γ1 I1 s1 (itOk_pair (fun H s => ?_) (fun i d H hd s => ?_) (fun i d H v H' hd s y => ?_)) h1⟩⟩
    · refine ⟨us, ws, SqT.of (s _ _ e), SqT.of (s _ _ e'), ?_⟩
      rw [zipD_len, rs.length, rs'.length]
      omega
    · obtain ⟨x, y, hx, hy, _⟩ := zipD_get hd
      obtain ⟨v, hv, _⟩ := rs.get hx
      obtain ⟨u, hu, _⟩ := rs'.get hy
      exact ⟨us, ws, v, u, SqT.of (s _ _ e), SqT.of (s _ _ e'), hv, hu⟩
    · obtain ⟨x, y', hx, hy, rfl⟩ := zipD_get hd
      obtain ⟨v1, hv, r1⟩ := rs.get hx
      obtain ⟨u1, hu, r2⟩ := rs'.get hy
      obtain ⟨T, x1, y1, rfl, hT, rfl, q1, q2⟩ := y
      have q1 := q1 us (SqT.of (s _ _ e))
      have q2 := q2 ws (SqT.of (s _ _ e'))
      rw [hv] at q1
      rw [hu] at q2
      cases q1
      cases q2
      exact ⟨T, _, _, _, _, rfl, hT, rfl, rfl, r1, r2⟩
  | [.lst ds, .lst es], .cons (.lst (a := a) (vs := us) e rs) (.cons (.lst (a := b) (vs := ws) e' rs') .nil), h1 =>
    refine ⟨a, b, us, ws, rfl, .inl ⟨SqL.of (I1.fh _ _ e), SqL.of (I1.fh _ _ e'), q F1 H1 _ _ Γ1 I1 s1 (itOk_pair (fun H s => ?_) (fun i d H hd s => ?_) (fun i d H v H' hd s y => ?_)) h1⟩⟩
    · refine ⟨us, ws, SqL.of (s _ _ e), SqL.of (s _ _ e'), ?_⟩
      rw [zipD_len, rs.length, rs'.length]
      omega
    · obtain ⟨x, y, hx, hy, _⟩ := zipD_get hd
      obtain ⟨v, hv, _⟩ := rs.get hx
      obtain ⟨u, hu, _⟩ := rs'.get hy
      exact ⟨us, ws, v, u, SqL.of (s _ _ e), SqL.of (s _ _ e'), hv, hu⟩
    · obtain ⟨x, y', hx, hy, rfl⟩ := zipD_get hd
      obtain ⟨v1, hv, r1⟩ := rs.get hx
      obtain ⟨u1, hu, r2⟩ := rs'.get hy
      obtain ⟨T, x1, y1, rfl, hT, rfl, q1, q2⟩ := y
      have q1 := q1 us (SqL.of (s _ _ e))
      have q2 := q2 ws (SqL.of (s _ _ e'))
      rw [hv] at q1
      rw [hu] at q2
      cases q1
      cases q2
      exact ⟨T, _, _, _, _, rfl, hT, rfl, rfl, r1, r2⟩⟩
/-! ### targets -/
instance sndg_name (i : Nat) : SndG K (gName i) [i] (fun d Γ φ => φ (Γ.set i (.d d))) := ⟨fun {c F H σ Γ x d φ Q} I rp h q => q _ _ (I.set (Res.d rp) i) (fun vs hv => wipe_set (hv i (by simp))) h⟩
instance sndgs_nil : SndGs K gNil [] (fun ds Γ φ => ds = [] ∧ φ Γ) := ⟨fun {c F H σ Γ xs ds φ Q} I rp h q => by
  obtain ⟨rfl, h⟩ := h
  cases rp
  exact ⟨rfl, q σ Γ I (fun _ _ => rfl) h⟩⟩
def dgCons (dg : D → List En → (List En → Prop) → Prop) (dgs : List D → List En → (List En → Prop) → Prop) (ds : List D) (Γ : List En) (φ : List En → Prop) : Prop := match ds with
  | d :: r => dg d Γ fun Γ1 => dgs r Γ1 φ
  | [] => False
instance sndgs_cons {g : TG} {gs : TGs} {gv gvs : List Nat} {dg : D → List En → (List En → Prop) → Prop} {dgs : List D → List En → (List En → Prop) → Prop} [sg : SndG K g gv dg] [ss : SndGs K gs gvs dgs] : SndGs K (gCons g gs) (gv ++ gvs) (dgCons dg dgs) := ⟨fun {c F H σ Γ xs ds φ Q} I rp h q => by
  match ds, rp, h with
  | d :: r, .cons a b, h =>
    refine ⟨_, _, rfl, sg.run I a h fun σ1 Γ1 I1 w1 h1 => ss.run I1 b h1 fun σ2 Γ2 I2 w2 h2 => q σ2 Γ2 I2 (fun vs hv => ?_) h2⟩
    rw [w2 vs fun i hi => hv i (List.mem_append_right _ hi), w1 vs fun i hi => hv i (List.mem_append_left _ hi)]⟩
def dgTup (n : Nat) (dgs : List D → List En → (List En → Prop) → Prop) (d : D) (Γ : List En) (φ : List En → Prop) : Prop := match d with
  | .tup xs => xs.length = n ∧ dgs xs Γ φ
  | _ => False
instance sndg_tup {n : Nat} {gs : TGs} {gvs : List Nat} {dgs : List D → List En → (List En → Prop) → Prop} [ss : SndGs K gs gvs dgs] : SndG K (gTup K n gs) gvs (dgTup n dgs) := ⟨fun {c F H σ Γ x d φ Q} I rp h q => by
  match d, rp, h with
  | .tup xs, .tup e rs, h => exact ⟨_, _, rfl, SqT.of (I.fh _ _ e), by rw [rs.length]; exact h.1, ss.run I rs h.2 q⟩⟩
/-! ### comprehensions -/
def dLc (vs gv : List Nat) (di : DA) (dg : D → List En → (List En → Prop) → Prop) (dtt : DB) (de : DT) : DT := fun Γ φ => (gv.all fun i => vs.contains i) = true ∧ di Γ fun items Γ1 => items.length ≤ 100000 ∧ ∃ I : Nat → List D → List En → Prop, I 0 [] (wipeE Γ1 vs) ∧
  ∀ i acc Γ', I i acc Γ' → (i = items.length → φ (.lst acc) Γ') ∧ ∀ d, items[i]? = some d → dg d (wipeE Γ' vs) fun Γ2 => dtt Γ2 fun b Γ3 => if b = true then de Γ3 fun e Γ4 => wf e fun z => I (i + 1) (acc ++ [z]) (wipeE Γ4 vs) else I (i + 1) acc (wipeE Γ3 vs)
theorem EOk.guard {c : Ct K} (eo : EOk c E ψ) {p : Addr} {o : HO} {h : c.H0 p = none} : EOk (c.guard p o h) E ψ := fun C H' h1 h2 h3 => eo C H' (fun a u q e => h1 a u q (by show upd c.H0 p o a = some u; rw [upd_ne (ne_of_none e h)]; exact e)) h2 h3
instance snd_lc {wi : TI} {g : TG} {vs gv : List Nat} {di : DA} {dg : D → List En → (List En → Prop) → Prop} [si : SndI K E ψ wi di] [sg : SndG K g gv dg] [st : SndT K E ψ tt dtt] [se : Snd K E ψ te de] : Snd K E ψ (tLc wi g tt te vs) (dLc vs gv di dg dtt de) := ⟨fun {c F H σ Γ φ Q} I eo h q => by
  obtain ⟨hgv, h⟩ := h
  have hgv' : ∀ i ∈ gv, i ∈ vs := fun i hi => by simpa using List.all_eq_true.mp hgv i hi
  refine si.run I eo h fun F1 H1 J items Γ1 I1 s1 it h1 => ?_
  obtain ⟨hlen, IV, iv0, step⟩ := h1
  intro D hD
  have hF : F1 D = none := I1.unF hD
  have h0 : c.H0 D = none := I1.un hD
  have hpn : c.pn ≠ some D := fun z => (I1.pp D z).2.1.there hD
  have hF0 : c.F0 D = none := I1.f0.free hF
  refine ⟨fun i m H' => m = items.length - i ∧ i ≤ items.length ∧ ∃ F' Γ' us acc, Same F1 F' ∧ H' D = some (.lst us) ∧ Reps F' us acc ∧ acc.length ≤ i ∧ Is (c.guard D (.lst us) h0) F' H' σ Γ' ∧ IV i acc Γ', ⟨_, rfl, Nat.zero_le _, F1, wipeE Γ1 vs, [], [], Same.refl _, upd_same, .nil, Nat.le_refl _, ?_, iv0⟩, ?_⟩
  · have I2 := (I1.newH (o := .lst []) hD).forgets vs
    exact I2.guard ⟨hF, h0, hpn, (I1.fresh hD).forgets vs⟩ upd_same
  · rintro i m H' ⟨rfl, hi, F', Γ', us, acc, sF, hDl, rs, la, IG, iv⟩
    obtain ⟨st1, st2⟩ := step i acc Γ' iv
    by_cases hlt : i < items.length
    · obtain ⟨d, hd⟩ : ∃ d, items[i]? = some d := ⟨_, List.getElem?_eq_getElem hlt⟩
      obtain ⟨go, yl⟩ := (it _ F' H' σ Γ' i IG sF).2 d hd
      refine .inr ⟨go, fun H2 => ∃ F2 Γ2 us acc, Same F1 F2 ∧ H2 D = some (.lst us) ∧ Reps F2 us acc ∧ acc.length ≤ i + 1 ∧ Is (c.guard D (.lst us) h0) F2 H2 σ Γ2 ∧ IV (i + 1) acc Γ2, fun H2 n2 => ⟨items.length - (i + 1), by omega, rfl, hlt, n2⟩, fun x H2 y => ?_⟩
      obtain ⟨F2, I2, sF2, rp⟩ := yl x H2 y
      refine sg.run (I2.wipe vs) rp (st2 d hd) fun σ3 Γ3 I3 w3 h3 => ⟨by rw [w3 vs hgv', wipe_wipe], ?_⟩
      have w3' : wipe σ3 vs = wipe σ vs := by rw [w3 vs hgv', wipe_wipe]
      refine st.run I3 eo.guard h3 fun F4 H4 b Γ4 I4 sF4 h4 => ?_
      cases b with
      | false =>
        refine iteF ⟨F4, wipeE Γ4 vs, us, acc, sF.trans (sF2.trans sF4), I4.guarded hpn, rs.mono (sF2.trans sF4), Nat.le_succ_of_le la, I4.unwipe w3', h4⟩
      | true =>
        refine iteT (se.frz (φ := fun _ _ => True) (k := fun z Γ5 => IV (i + 1) (acc ++ [z]) (wipeE Γ5 vs)) I4 eo.guard h4 fun F5 H5 v z Γ5 I5 sF5 r5 h5 => ?_)
        have hD5 := I5.guarded hpn
        refine ⟨us, hD5, ?_, F5, wipeE Γ5 vs, us ++ [v], acc ++ [z], sF.trans (sF2.trans (sF4.trans sF5)), upd_same, (rs.mono (sF2.trans (sF4.trans sF5))).snoc r5, by rw [List.length_append]; simp; omega, ?_, h5⟩
        · rw [rs.length]
          exact Nat.lt_of_le_of_lt la (Nat.lt_of_lt_of_le (Nat.lt_of_lt_of_le hlt hlen) (by decide))
        · have I6 := I5.unwipe w3'
          have fr := I6.freed hpn hF0 (fun vs z => nomatch z)
          have I7 := (I6.unguard hpn).chg (o := .lst (us ++ [v])) fr hD5 (plain_lst _) (fun vs z => nomatch z)
          exact I7.guard fr upd_same
    · have e : i = items.length := by omega
      refine .inl ⟨(it _ F' H' σ Γ' i IG sF).1 e, ?_⟩
      have fr := IG.freed hpn hF0 (fun vs z => nomatch z)
      exact q F' H' (.ref D) (.lst acc) Γ' (IG.unguard hpn) (s1.trans sF) ⟨⟨D, us, rfl, fr.f, h0, hDl, rs⟩, (fun z => nomatch z), fun a e => by cases e; exact fr.sl⟩ (st1 e)⟩
/-! ### calls of defs -/
theorem Is.unN {c : Ct K} {F H : Hp} {σ : L2.St} {Γ : List En} {a : Addr} (I : Is c F H σ Γ) (h : ntH H a = none) : c.H0 a = none := by
  cases q : c.H0 a with
  | none => rfl
  | some o =>
    have nt := I.hn a o q
    by_cases z : c.pn = some a
    · obtain ⟨u, h1, h2⟩ := (I.pp a z).2.1.pl
      rw [ntH_of h1 h2.1] at h
      cases h
    · rw [ntH_of (I.h0 a o z q) nt] at h
      cases h
theorem Is.called {c : Ct K} {F H F' H' : Hp} {σ : L2.St} {Γ : List En} {v : V} {e : En} (I : Is c F H σ Γ) (sf : Same F F') (sh : NS H H') (tb : TbOk K H') (fh : Same F' H') (fn : FN F') (nw : ∀ a o, F' a = some o → F a = some o ∨ Soft (ntH H) a) (hh : Held (c0 K F H) F' H' e v) (ne : e ≠ .no) : Is c F' H' σ Γ ∧ Res c F' H' σ Γ v e := by
  have I2 := I.growN sf sh tb fh fn nw
  refine ⟨I2, hh.to (fun a x => ⟨fun z => I.unN z, fun z => nomatch z⟩) (fun _ z => nomatch z), ne, fun a x => ?_⟩
  exact I.freshN ((hh.h0 x).resolve_right fun z => nomatch z.2)
def dCall (den : List D → (En → Prop) → (Value → Prop) → Prop) (dvs : List V) (ψ : Value → Prop) (dal : DA) : DT := fun Γ φ => dal Γ fun xs Γ1 => (dvs.all isSc) = true ∧ den (xs ++ dvs.map vD) (fun e => φ e Γ1) ψ
theorem Reps.scs {F : Hp} : ∀ {dvs : List V}, dvs.all isSc = true → Reps F dvs (dvs.map vD)
  | [], _ => .nil
  | v :: r, h => by
    rw [List.all_cons, Bool.and_eq_true] at h
    exact .cons (rep_sc h.1) (Reps.scs h.2)
theorem call_run {c : Ct K} {F H : Hp} {σ : L2.St} {Γ : List En} {xs : List V} {ds : List D} {φ : En → Prop} {ψ' : Value → Prop} {E' : XK} {Q : VK} {den : List D → (En → Prop) → (Value → Prop) → Prop} (I : Is c F H σ Γ) (eo : EOk c E' ψ') (r : Reps F xs ds) (h : den ds φ ψ')
    (q : ∀ F' H' v e, Is c F' H' σ Γ → Same F F' → Res c F' H' σ Γ v e → φ e → Q v H') : spX K den xs H Q E' := by
  refine ⟨F, ds, φ, ψ', I.fh, I.fn, I.tb, r, h, fun F' H' v e sf sh tb fh fn nw hh ne p => ?_, fun C H' sh tb p => eo C H' (fun a o z e => sh _ _ (I.hn a o e) (I.h0 a o z e)) (fun a z => ?_) tb p⟩
  · obtain ⟨I2, r2⟩ := I.called sf sh tb fh fn nw hh ne
    exact q F' H' v e I2 sf r2 p
  · obtain ⟨_, h2, _⟩ := I.pp a z
    obtain ⟨x1, x2, x3, x4, e, rr⟩ := h2
    exact ⟨x1, x2, x3, x4, sh _ _ (fun _ z => nomatch z) e, rr⟩
instance (priority := 900) snd_call {den : List D → (En → Prop) → (Value → Prop) → Prop} {dvs : List V} [sl : SndA K E ψ al dal] : Snd K E ψ (tCall (spX K den) dvs E al) (dCall den dvs ψ dal) := ⟨fun {c F H σ Γ φ Q} I eo h q => by
  refine sl.run I eo h fun F1 H1 vs xs Γ1 I1 s1 r1 h1 => ?_
  exact call_run I1 eo (r1.app (Reps.scs h1.1)) h1.2 fun F2 H2 v e I2 s2 r2 p => q F2 H2 v e Γ1 I2 (s1.trans s2) r2 p⟩
instance snd_call0 {den : List D → (En → Prop) → (Value → Prop) → Prop} {dvs : List V} [sl : SndA K E ψ al dal] : Snd K E ψ (tCall (spX K den) dvs E0 al) (dCall den dvs (fun _ => False) dal) := ⟨fun {c F H σ Γ φ Q} I eo h q => by
  refine sl.run I eo h fun F1 H1 vs xs Γ1 I1 s1 r1 h1 => ?_
  exact call_run (ψ' := fun _ => False) I1 (fun _ _ _ _ _ z => z) (r1.app (Reps.scs h1.1)) h1.2 fun F2 H2 v e I2 s2 r2 p => q F2 H2 v e Γ1 I2 (s1.trans s2) r2 p⟩
/-- with a pen ahead -/
def dCallP (i : Nat) (den : List D → (En → Prop) → Prop) (dvs : List V) (dal : DA) : DT := fun Γ φ => Γ[i]? = some .pen ∧ dal Γ fun xs Γ1 => Γ1[i]? = some .pen ∧ (dvs.all isSc) = true ∧ den (xs ++ dvs.map vD) fun e => φ e Γ1
instance snd_callP {i : Nat} {den : List D → (En → Prop) → Prop} {dvs : List V} {E' : XK} [sl : SndA K E ψ al dal] : Snd K E ψ (tCall (spP K den) dvs E' (tCons (tVar i) al)) (dCallP i den dvs dal) := ⟨fun {c F H σ Γ φ Q} I eo h q => by
  obtain ⟨g, h⟩ := h
  obtain ⟨v, hv, p, rfl, _⟩ := I.at_ i _ g (fun z => nomatch z)
  refine ⟨_, hv, ?_⟩
  refine sl.run I eo h fun F1 H1 vs xs Γ1 I1 s1 r1 h1 => ?_
  obtain ⟨g1, hsc, h1⟩ := h1
  obtain ⟨v', hv', p', ev, fp, h0p, pen⟩ := I1.at_ i _ g1 (fun z => nomatch z)
  rw [hv] at hv'
  cases hv'
  cases ev
  refine ⟨p, vs ++ dvs, F1, xs ++ dvs.map vD, fun e => φ e Γ1, rfl, fp, pen, I1.fh, I1.fn, I1.tb, r1.app (Reps.scs hsc), h1, fun F' H' v e sf k tb pen' fh fn nw hh ne np hp => ?_⟩
  have I2 := I1.growP g1 hv sf k tb pen' fh fn nw
  refine q F' H' v e Γ1 I2 (s1.trans sf) ⟨hh.to (fun a x => ⟨fun z => I1.unN z, fun z => by cases z; exact h0p⟩) (fun _ z => nomatch z), ne, fun a x => ?_⟩ hp
  exact I1.freshN ((hh.h0 x).resolve_right fun z => np z.1)⟩
end
end Da

set_option Elab.async false
set_option maxRecDepth 100000
set_option maxHeartbeats 4000000
set_option linter.all false
namespace Da
open PySem PySem.Spec PyProof.Rows L2 RZ HmS
/-- what is to hold behind a statement -/
structure Po where
  nx : List En → Prop
  rt : En → Prop
  bk : List En → Prop
  ct : List En → Prop
abbrev DSt := List En → Po → Prop
structure Meets {K : PySem.W.Frag} [HasT K] (c : Ct K) (P : Po) (D : Ends) : Prop where
  nx : ∀ F H σ Γ, Is c F H σ Γ → P.nx Γ → D.nx σ H
  rt : ∀ F H σ Γ v e, Is c F H σ Γ → Held c F H e v → e ≠ .no → P.rt e → D.rt v H
  bk : ∀ F H σ Γ, Is c F H σ Γ → P.bk Γ → D.bk σ H
  ct : ∀ F H σ Γ, Is c F H σ Γ → P.ct Γ → D.ct σ H
class SndS (K : PySem.W.Frag) [HasT K] (E : XK) (ψ : Value → Prop) (t : TS) (den : outParam DSt) : Prop where
  run : ∀ {c : Ct K} {F H : Hp} {σ : L2.St} {Γ : List En} {P : Po} {D : Ends}, Is c F H σ Γ → EOk c E ψ → den Γ P → Meets c P D → t D σ H
section
variable {K : PySem.W.Frag} [HasT K] {E : XK} {ψ : Value → Prop} {te ta tb tx : TE} {da db dx de : DT} {tt tu : TT} {dtt dtu : DB} {al : TA} {dal : DA} {t u : TS} {dt du : DSt}
def dNext : DSt := fun Γ P => P.nx Γ
instance snds_next : SndS K E ψ tNext dNext := ⟨fun {c F H σ Γ P D} I eo h m => m.nx _ _ _ _ I h⟩
def dSeq (dt du : DSt) : DSt := fun Γ P => dt Γ { P with nx := fun Γ1 => du Γ1 P }
instance snds_seq [a : SndS K E ψ t dt] [b : SndS K E ψ u du] : SndS K E ψ (tSeq t u) (dSeq dt du) := ⟨fun {c F H σ Γ P D} I eo h m =>
  a.run (P := { P with nx := fun Γ1 => du Γ1 P }) I eo h ⟨fun _ _ _ _ I1 h1 => b.run I1 eo h1 m, m.rt, m.bk, m.ct⟩⟩
def dBreak : DSt := fun Γ P => P.bk Γ
def dCont : DSt := fun Γ P => P.ct Γ
instance snds_break : SndS K E ψ tBreak dBreak := ⟨fun {c F H σ Γ P D} I eo h m => m.bk _ _ _ _ I h⟩
instance snds_cont : SndS K E ψ tCont dCont := ⟨fun {c F H σ Γ P D} I eo h m => m.ct _ _ _ _ I h⟩
def dNever : DSt := fun _ _ => False
instance snds_never : SndS K E ψ tNever dNever := ⟨fun _ _ h _ => h⟩
/-- raise C('..') -/
def tRse (E : XK) (C : Value) : TS := fun _ _ H => E C none H
def dRse (ψ : Value → Prop) (C : Value) : DSt := fun _ _ => ψ C
instance snds_rse {C : Value} : SndS K E ψ (tRse E C) (dRse ψ C) := ⟨fun {c F H σ Γ P D} I eo h m => eo C H I.h0 (fun p hp => (I.pp p hp).2.1) I.tb h⟩
def dDrop (da : DT) : DSt := fun Γ P => da Γ fun _ Γ1 => P.nx Γ1
instance (priority := 900) snds_drop [a : Snd K E ψ ta da] : SndS K E ψ (tDrop ta) (dDrop da) := ⟨fun {c F H σ Γ P D} I eo h m => a.run (φ := fun _ Γ1 => P.nx Γ1) I eo h fun _ _ _ _ _ I1 _ _ h1 => m.nx _ _ _ _ I1 h1⟩
def dRet (da : DT) : DSt := fun Γ P => da Γ fun e _ => P.rt e
instance (priority := 900) snds_ret [a : Snd K E ψ ta da] : SndS K E ψ (tRet ta) (dRet da) := ⟨fun {c F H σ Γ P D} I eo h m => a.run (φ := fun e _ => P.rt e) I eo h fun _ _ _ _ _ I1 _ r1 h1 => m.rt _ _ _ _ _ _ I1 r1.1 r1.2.1 h1⟩
/-- what a slot owns is handed on -/
def dRetv (i : Nat) : DSt := fun Γ P => ∃ e, Γ[i]? = some e ∧ e ≠ .no ∧ P.rt e
instance snds_retv (i : Nat) : SndS K E ψ (tRet (tVar i)) (dRetv i) := ⟨fun {c F H σ Γ P D} I eo h m => by
  obtain ⟨e, g, n, h⟩ := h
  obtain ⟨v, hv, hh⟩ := I.at_ i e g n
  exact ⟨v, hv, m.rt _ _ _ _ _ _ I hh n h⟩⟩
def dRetN : DSt := fun _ P => P.rt (.d .non)
instance snds_retN : SndS K E ψ tRetN dRetN := ⟨fun {c F H σ Γ P D} I eo h m => m.rt _ _ _ _ _ (.d .non) I (.non : Rep F .non .non) (fun z => nomatch z) h⟩
def dIfS (dtt : DB) (dt du : DSt) : DSt := fun Γ P => dtt Γ fun b Γ1 => if b = true then dt Γ1 P else du Γ1 P
instance snds_if [s : SndT K E ψ tt dtt] [a : SndS K E ψ t dt] [b : SndS K E ψ u du] : SndS K E ψ (tIfS tt t u) (dIfS dtt dt du) := ⟨fun {c F H σ Γ P D} I eo h m => by
  refine s.run I eo h fun F1 H1 b Γ1 I1 s1 h1 => ?_
  cases b with
  | true => exact iteT (a.run I1 eo h1 m)
  | false => exact iteF (b.run I1 eo h1 m)⟩
def dAsg (i : Nat) (da : DT) : DSt := fun Γ P => da Γ fun e Γ1 => P.nx (Γ1.set i e)
instance (priority := 900) snds_asg {i : Nat} [a : Snd K E ψ ta da] : SndS K E ψ (tAsg ta (gName i)) (dAsg i da) := ⟨fun {c F H σ Γ P D} I eo h m => a.run (φ := fun e Γ1 => P.nx (Γ1.set i e)) I eo h fun _ _ v e _ I1 _ r1 h1 => m.nx _ _ _ _ (I1.set r1 i) h1⟩
def dAsgT (dg : D → List En → (List En → Prop) → Prop) (da : DT) : DSt := fun Γ P => da Γ fun e Γ1 => wf e fun x => dg x Γ1 P.nx
instance snds_asgT {n : Nat} {gs : TGs} {gv : List Nat} {dg : D → List En → (List En → Prop) → Prop} [s : SndG K (gTup K n gs) gv dg] [a : Snd K E ψ ta da] : SndS K E ψ (tAsg ta (gTup K n gs)) (dAsgT dg da) := ⟨fun {c F H σ Γ P D} I eo h m =>
  a.frz (φ := fun _ _ => True) (k := fun x Γ1 => dg x Γ1 P.nx) I eo h fun F1 H1 v x Γ1 I1 s1 rp h1 => s.run I1 rp h1 fun σ2 Γ2 I2 _ h2 => m.nx _ _ _ _ I2 h2⟩
def dPar (i j : Nat) (da db : DT) : DSt := fun Γ P => da Γ fun e Γ1 => wf e fun x => db Γ1 fun e' Γ2 => P.nx ((Γ2.set i (.d x)).set j e')
instance snds_par {i j : Nat} [a : Snd K E ψ ta da] [b : Snd K E ψ tb db] : SndS K E ψ (tPar i j (tCons ta (tCons tb tNil))) (dPar i j da db) := ⟨fun {c F H σ Γ P D} I eo h m => by
  refine a.frz (φ := fun _ _ => True) (k := fun x Γ1 => db Γ1 fun e' Γ2 => P.nx ((Γ2.set i (.d x)).set j e')) I eo h fun F1 H1 v x Γ1 I1 s1 rp h1 => ?_
  refine b.run I1 eo h1 fun F2 H2 w e Γ2 I2 s2 r2 h2 => ⟨v, w, rfl, ?_⟩
  refine m.nx _ _ _ _ ((I2.set (Res.d (rp.mono s2)) i).set (e := e) ⟨r2.1, r2.2.1, fun a x k e' v' g s' x' => ?_⟩ j) h2
  by_cases z : i = k
  · subst z
    have l : i < Γ2.length := by
      have := (List.getElem?_eq_some_iff.mp g).1
      simpa using this
    rw [List.getElem?_set_self l] at g
    cases g
    exact x'
  · rw [List.getElem?_set_ne z] at g s'
    exact r2.2.2 a x k e' v' g s' x'⟩
/-! ### what a slot owns is changed -/
theorem Is.slot {c : Ct K} {F H : Hp} {σ : L2.St} {Γ : List En} {i : Nat} {a : Addr} {o : HO} {e e' : En} (I : Is c F H σ Γ) (g : Γ[i]? = some e) (s : σ[i]? = some (some (.ref a))) (oe : Adr e (.ref a) a) (h0 : c.H0 a = none)
    (hh : Held c F (upd H a o) e' (.ref a)) (n : e' ≠ .no) (oe' : ∀ b, Adr e' (.ref a) b → Adr e (.ref a) b) : Is c F (upd H a o) σ (Γ.set i e') := by
  obtain ⟨v, hv, I1, r⟩ := I.resOf g (adr_no oe)
  rw [s] at hv
  cases hv
  obtain ⟨fa, hard, u, h3, h4⟩ := r.1.adr oe
  have pn : c.pn ≠ some a := fun z => (I.pp a z).2.2 h0
  have I2 := I1.chg (o := o) ⟨fa, h0, pn, r.2.2 a oe⟩ h3 h4 (fun vs z => hard (soft_nt (.inr ⟨vs, by rw [h3, z]⟩)))
  have I3 := I2.set (v := .ref a) (e := e') ⟨hh, n, fun b x => r.2.2 b (oe' b x)⟩ i
  rw [set_same s, List.set_set] at I3
  exact I3
theorem Is.slotL {c : Ct K} {F H : Hp} {σ : L2.St} {Γ : List En} {i : Nat} {a : Addr} {xs ys : List D} {us : List V} (I : Is c F H σ Γ) (g : Γ[i]? = some (.lst xs)) (s : σ[i]? = some (some (.ref a))) (fa : F a = none) (h0 : c.H0 a = none) (rs : Reps F us ys) :
    Is c F (upd H a (.lst us)) σ (Γ.set i (.lst ys)) := I.slot (e' := .lst ys) g s rfl h0 ⟨a, us, rfl, fa, h0, upd_same, rs⟩ (fun z => nomatch z) fun b x => x
/-- xs.append(e), xs in a slot -/
def dApp (i : Nat) (da : DT) : DSt := fun Γ P => (∃ xs, Γ[i]? = some (.lst xs)) ∧ da Γ fun e Γ1 => wf e fun x => ∃ xs, Γ1[i]? = some (.lst xs) ∧ xs.length ≤ 100000 ∧ P.nx (Γ1.set i (.lst (xs ++ [x])))
instance snds_app {i : Nat} [a : Snd K E ψ ta da] : SndS K E ψ (tDrop (tBM K "list" rAppend (tVar i) (tCons ta tNil))) (dApp i da) := ⟨fun {c F H σ Γ P D} I eo h m => by
  obtain ⟨⟨xs, g⟩, h⟩ := h
  obtain ⟨v, hv, p, vs, rfl, fp, h0, hp, rs⟩ := I.at_ i _ g (fun z => nomatch z)
  refine ⟨_, hv, .inl ⟨rfl, vs, SqL.of hp⟩, ?_⟩
  refine a.frz (φ := fun _ _ => True) (k := fun x Γ1 => ∃ xs, Γ1[i]? = some (.lst xs) ∧ xs.length ≤ 100000 ∧ P.nx (Γ1.set i (.lst (xs ++ [x])))) I eo h fun F1 H1 w x Γ1 I1 s1 rp h1 => ?_
  obtain ⟨ys, g1, l1, h1⟩ := h1
  obtain ⟨v', hv', p', us, ev, fp1, h01, hp1, rs1⟩ := I1.at_ i _ g1 (fun z => nomatch z)
  rw [hv] at hv'
  cases hv'
  cases ev
  refine ⟨p, us, w, rfl, rfl, hp1, by rw [rs1.length]; exact Nat.lt_of_le_of_lt l1 (by decide), ?_⟩
  exact m.nx _ _ _ _ (I1.slotL g1 hv fp1 h01 (rs1.snoc rp)) h1⟩
/-- xs.extend(e) -/
def dExt (i : Nat) (da : DT) : DSt := fun Γ P => (∃ xs, Γ[i]? = some (.lst xs)) ∧ da Γ fun e Γ1 => wl e fun ys => ∃ xs, Γ1[i]? = some (.lst xs) ∧ xs.length + ys.length ≤ 100000 ∧ P.nx (Γ1.set i (.lst (xs ++ ys)))
instance snds_ext {i : Nat} [a : Snd K E ψ ta da] : SndS K E ψ (tDrop (tBM K "list" rExtend (tVar i) (tCons ta tNil))) (dExt i da) := ⟨fun {c F H σ Γ P D} I eo h m => by
  obtain ⟨⟨xs, g⟩, h⟩ := h
  obtain ⟨v, hv, p, vs, rfl, fp, h0, hp, rs⟩ := I.at_ i _ g (fun z => nomatch z)
  refine ⟨_, hv, .inl ⟨rfl, vs, SqL.of hp⟩, ?_⟩
  refine a.run I eo h fun F1 H1 w e Γ1 I1 s1 r1 h1 => ?_
  obtain ⟨F2, b, ws, ys, rfl, I2, s2, eb, rw2, ys1, g1, l1, h2⟩ := r1.frzL I1 h1
  obtain ⟨v', hv', p', us, ev, fp1, h01, hp1, rs1⟩ := I2.at_ i _ g1 (fun z => nomatch z)
  rw [hv] at hv'
  cases hv'
  cases ev
  refine ⟨p, b, us, ws, rfl, rfl, hp1, I2.fh _ _ eb, by rw [rs1.length, rw2.length]; exact Nat.le_trans l1 (by decide), ?_⟩
  exact m.nx _ _ _ _ (I2.slotL g1 hv fp1 h01 (rs1.app rw2)) h2⟩
/-- xs[j] = e -/
def dSetL (i : Nat) (dj da : DT) : DSt := fun Γ P => da Γ fun e Γ1 => wf e fun x => (∃ xs, Γ1[i]? = some (.lst xs)) ∧ dj Γ1 fun e' Γ2 => wi e' fun j => ∃ xs k, Γ2[i]? = some (.lst xs) ∧ ixN xs.length j = some k ∧ P.nx (Γ2.set i (.lst (xs.set k x)))
instance snds_setL {i : Nat} [a : Snd K E ψ ta da] [b : Snd K E ψ tb db] : SndS K E ψ (tAsg ta (gSub (tVar i) tb rSetL)) (dSetL i db da) := ⟨fun {c F H σ Γ P D} I eo h m => by
  refine a.frz (φ := fun _ _ => True) (k := fun x Γ1 => (∃ xs, Γ1[i]? = some (.lst xs)) ∧ db Γ1 fun e' Γ2 => wi e' fun j => ∃ xs k, Γ2[i]? = some (.lst xs) ∧ ixN xs.length j = some k ∧ P.nx (Γ2.set i (.lst (xs.set k x)))) I eo h fun F1 H1 w x Γ1 I1 s1 rp h1 => ?_
  obtain ⟨⟨xs, g⟩, h1⟩ := h1
  obtain ⟨v, hv, p, vs, rfl, fp, h0, hp, rs⟩ := I1.at_ i _ g (fun z => nomatch z)
  refine ⟨_, hv, ?_⟩
  refine b.run I1 eo h1 fun F2 H2 u e Γ2 I2 s2 r2 h2 => ?_
  obtain ⟨j, rfl, ys, k, g2, hk, h2⟩ := wi_of h2
  cases (show Rep F2 u (.int j) from r2.1)
  obtain ⟨v', hv', p', us, ev, fp1, h01, hp1, rs1⟩ := I2.at_ i _ g2 (fun z => nomatch z)
  rw [hv] at hv'
  cases hv'
  cases ev
  refine ⟨p, us, j, k, rfl, rfl, hp1, by rw [rs1.length]; exact hk, ?_⟩
  exact m.nx _ _ _ _ (I2.slotL g2 hv fp1 h01 (rs1.set (rp.mono s2))) h2⟩
/-- xs.pop(j) as a value -/
def dPopAt (i : Nat) (dj : DT) : DT := fun Γ φ => (∃ xs, Γ[i]? = some (.lst xs)) ∧ dj Γ fun e' Γ1 => wi e' fun j => ∃ xs k x, Γ1[i]? = some (.lst xs) ∧ -100000 ≤ j ∧ j ≤ 100000 ∧ seqIndex? j xs.length = some k ∧ xs[k]? = some x ∧ φ (.d x) (Γ1.set i (.lst (xs.eraseIdx k)))
instance snd_popAt {i : Nat} [b : Snd K E ψ tb db] : Snd K E ψ (tBM K "list" rPopAt (tVar i) (tCons tb tNil)) (dPopAt i db) := ⟨fun {c F H σ Γ φ Q} I eo h q => by
  obtain ⟨⟨xs, g⟩, h⟩ := h
  obtain ⟨v, hv, p, vs, rfl, fp, h0, hp, rs⟩ := I.at_ i _ g (fun z => nomatch z)
  refine ⟨_, hv, .inl ⟨rfl, vs, SqL.of hp⟩, ?_⟩
  refine b.run I eo h fun F2 H2 u e Γ2 I2 s2 r2 h2 => ?_
  obtain ⟨j, rfl, ys, k, x, g2, j0, j1, hk, hx, h2⟩ := wi_of h2
  cases (show Rep F2 u (.int j) from r2.1)
  obtain ⟨v', hv', p', us, ev, fp1, h01, hp1, rs1⟩ := I2.at_ i _ g2 (fun z => nomatch z)
  rw [hv] at hv'
  cases hv'
  cases ev
  obtain ⟨w, hw, rw1⟩ := rs1.get hx
  refine ⟨p, us, j, k, w, rfl, rfl, hp1, by omega, by omega, by rw [rs1.length]; exact hk, hw, ?_⟩
  exact q _ _ _ _ _ (I2.slotL g2 hv fp1 h01 (rs1.eraseIdx k)) s2 (Res.d rw1) h2⟩
/-! ### dicts with int and text keys that a slot owns -/
def kD : Key → D
  | .inl i => .int i
  | .inr s => .str s
def keyOf : D → Option Key
  | .int i => some (.inl i)
  | .str s => some (.inr s)
  | _ => none
theorem keyOf_rep {F : Hp} {v : V} {x : D} {k : Key} (r : Rep F v x) (h : keyOf x = some k) : v = kV k := by
  cases r <;> first | (cases h; rfl) | (cases h; done)
def lookD {κ : Type} [DecidableEq κ] : List κ → List D → κ → Option D
  | k :: ks, x :: xs, j => if k = j then some x else lookD ks xs j
  | _, _, _ => none
theorem valV_look {κ : Type} [DecidableEq κ] {F : Hp} {j : κ} : ∀ {kvs : List (κ × V)} {ks : List κ} {ds : List D}, kvs.map (·.1) = ks → Reps F (kvs.map (·.2)) ds →
    (∀ x, lookD ks ds j = some x → ∃ v, valV kvs j = some v ∧ Rep F v x) ∧ (lookD ks ds j = none → valV kvs j = none)
  | [], _, _, rfl, .nil => ⟨(fun x h => nomatch h), (fun _ => rfl)⟩
  | (k, v) :: r, _, _, rfl, .cons a b => by
    obtain ⟨h1, h2⟩ := valV_look (j := j) (kvs := r) rfl b
    by_cases z : k = j
    · refine ⟨fun x h => ?_, fun h => ?_⟩
      · simp only [List.map_cons, lookD, if_pos z] at h
        cases h
        exact ⟨v, valV_pos z, a⟩
      · simp only [List.map_cons, lookD, if_pos z] at h
        cases h
    · refine ⟨fun x h => ?_, fun h => ?_⟩
      · simp only [List.map_cons, lookD, if_neg z] at h
        obtain ⟨w, e, rp⟩ := h1 x h
        exact ⟨w, by rw [valV_neg z]; exact e, rp⟩
      · simp only [List.map_cons, lookD, if_neg z] at h
        rw [valV_neg z]
        exact h2 h
/-- a dict as data, as a slot has it -/
def dkOf (e : En) : Option (List Key × List D) := match e with
  | .d (.dK ks xs) => some (ks, xs)
  | .dK ks xs => some (ks, xs)
  | _ => none
theorem Held.dk {c : Ct K} {F H : Hp} {e : En} {v : V} {ks : List Key} {xs : List D} (fh : Same F H) (h : Held c F H e v) (k : dkOf e = some (ks, xs)) : ∃ a kvs, v = .ref a ∧ H a = some (.dK kvs) ∧ kvs.map (·.1) = ks ∧ Reps F (kvs.map (·.2)) xs := by
  cases e with
  | d x =>
    cases x with
    | dK ks' xs' =>
      cases k
      have h : Rep F v (.dK ks xs) := h
      cases h with
      | dK e1 e2 r => exact ⟨_, _, rfl, fh _ _ e1, e2, r⟩
    | _ => cases k
  | dK ks' xs' =>
    cases k
    obtain ⟨a, kvs, rfl, _, _, h1, h2, h3⟩ := h
    exact ⟨a, kvs, rfl, h1, h2, h3⟩
  | _ => cases k
/-- d[k], d in a slot -/
def dDGet (i : Nat) (db : DT) : DT := fun Γ φ => (∃ e ks xs, Γ[i]? = some e ∧ dkOf e = some (ks, xs)) ∧ db Γ fun e' Γ1 => wf e' fun y => ∃ e ks xs k x, Γ1[i]? = some e ∧ dkOf e = some (ks, xs) ∧ keyOf y = some k ∧ lookD ks xs k = some x ∧ φ (.d x) Γ1
theorem dk_no {e : En} {p : List Key × List D} (h : dkOf e = some p) : e ≠ .no := fun z => by rw [z] at h; cases h
instance snd_dget {i : Nat} [b : Snd K E ψ tb db] : Snd K E ψ (tDGet (tVar i) tb) (dDGet i db) := ⟨fun {c F H σ Γ φ Q} I eo h q => by
  obtain ⟨⟨e, ks, xs, g, hk⟩, h⟩ := h
  obtain ⟨v, hv, hh⟩ := I.at_ i _ g (dk_no hk)
  obtain ⟨a, kvs, rfl, _⟩ := hh.dk I.fh hk
  refine ⟨_, hv, ?_⟩
  refine b.frz (φ := fun _ _ => True) (k := fun y Γ1 => ∃ e ks xs k x, Γ1[i]? = some e ∧ dkOf e = some (ks, xs) ∧ keyOf y = some k ∧ lookD ks xs k = some x ∧ φ (.d x) Γ1) I eo h fun F1 H1 w y Γ1 I1 s1 rp h1 => ?_
  obtain ⟨e1, ks1, xs1, k, x, g1, hk1, hy, hl, h1⟩ := h1
  obtain ⟨v', hv', hh1⟩ := I1.at_ i _ g1 (dk_no hk1)
  rw [hv] at hv'
  cases hv'
  obtain ⟨a', kvs1, ea, ha, ek, rs⟩ := hh1.dk I1.fh hk1
  cases ea
  obtain ⟨u, hu, ru⟩ := (valV_look ek rs).1 x hl
  refine ⟨a, u, rfl, ?_, q F1 H1 u _ Γ1 I1 s1 (Res.d ru) h1⟩
  rw [keyOf_rep rp hy, ← hu]
  exact DGet.k (k := k) ha⟩
/-- k in d, d in a slot -/
def dDIn (neg : Bool) (i : Nat) (db : DT) : DT := fun Γ φ => db Γ fun e' Γ1 => wf e' fun y => ∃ e ks xs k, Γ1[i]? = some e ∧ dkOf e = some (ks, xs) ∧ keyOf y = some k ∧ φ (.d (.bl (if neg then !(lookD ks xs k).isSome else (lookD ks xs k).isSome))) Γ1
theorem look_some {F : Hp} {kvs : List (Key × V)} {ks : List Key} {ds : List D} {k : Key} (ek : kvs.map (·.1) = ks) (rs : Reps F (kvs.map (·.2)) ds) : (valV kvs k).isSome = (lookD ks ds k).isSome := by
  obtain ⟨h1, h2⟩ := valV_look (j := k) ek rs
  cases e : lookD ks ds k with
  | none =>
    rw [h2 e]
    rfl
  | some x =>
    obtain ⟨v, hv, _⟩ := h1 x e
    rw [hv]
    rfl
instance snd_din {i : Nat} [b : Snd K E ψ tb db] : Snd K E ψ (tDIn tb (tVar i)) (dDIn false i db) := ⟨fun {c F H σ Γ φ Q} I eo h q => by
  refine b.frz (φ := fun _ _ => True) (k := fun y Γ1 => ∃ e ks xs k, Γ1[i]? = some e ∧ dkOf e = some (ks, xs) ∧ keyOf y = some k ∧ φ (.d (.bl (if false then !(lookD ks xs k).isSome else (lookD ks xs k).isSome))) Γ1) I eo h fun F1 H1 w y Γ1 I1 s1 rp h1 => ?_
  obtain ⟨e, ks, xs, k, g, hk, hy, h1⟩ := h1
  obtain ⟨v, hv, hh⟩ := I1.at_ i _ g (dk_no hk)
  obtain ⟨a, kvs, rfl, ha, ek, rs⟩ := hh.dk I1.fh hk
  refine ⟨_, hv, a, valV kvs k, rfl, ?_, ?_⟩
  · rw [keyOf_rep rp hy]
    exact DGet.k (k := k) ha
  · rw [look_some ek rs]
    exact q F1 H1 _ _ Γ1 I1 s1 (Res.d (.bl _)) h1⟩
instance snd_dnotin {i : Nat} [b : Snd K E ψ tb db] : Snd K E ψ (tDNotIn tb (tVar i)) (dDIn true i db) := ⟨fun {c F H σ Γ φ Q} I eo h q => by
  refine b.frz (φ := fun _ _ => True) (k := fun y Γ1 => ∃ e ks xs k, Γ1[i]? = some e ∧ dkOf e = some (ks, xs) ∧ keyOf y = some k ∧ φ (.d (.bl (if true then !(lookD ks xs k).isSome else (lookD ks xs k).isSome))) Γ1) I eo h fun F1 H1 w y Γ1 I1 s1 rp h1 => ?_
  obtain ⟨e, ks, xs, k, g, hk, hy, h1⟩ := h1
  obtain ⟨v, hv, hh⟩ := I1.at_ i _ g (dk_no hk)
  obtain ⟨a, kvs, rfl, ha, ek, rs⟩ := hh.dk I1.fh hk
  refine ⟨_, hv, a, valV kvs k, rfl, ?_, ?_⟩
  · rw [keyOf_rep rp hy]
    exact DGet.k (k := k) ha
  · rw [look_some ek rs]
    exact q F1 H1 _ _ Γ1 I1 s1 (Res.d (.bl _)) h1⟩
/-- {} -/
def dNewK : DT := fun Γ φ => φ (.dK [] []) Γ
instance snd_newK : Snd K E ψ tDNewK dNewK := ⟨fun {c F H σ Γ φ Q} I eo h q => fun p hp =>
  q F _ (.ref p) (.dK [] []) Γ (I.newH hp) (Same.refl F) ⟨⟨p, [], rfl, I.unF hp, I.un hp, upd_same, rfl, .nil⟩, (fun z => nomatch z), fun a e => by cases e; exact I.fresh hp⟩ h⟩
/-- d[k] = v, d in a slot -/
def hasK (ks : List Key) (j : Key) : Bool := ks.any fun k => decide (k = j)
def putKs (ks : List Key) (j : Key) : List Key := if hasK ks j = true then ks else ks ++ [j]
def putXs : List Key → List D → Key → D → List D
  | k :: ks, x :: xs, j, y => (if k = j then y else x) :: putXs ks xs j y
  | _, xs, j, y => xs
def putD (ks : List Key) (xs : List D) (j : Key) (y : D) : List D := if hasK ks j = true then putXs ks xs j y else xs ++ [y]
theorem putK_rep {F : Hp} {j : Key} {v : V} {y : D} (ry : Rep F v y) {kvs : List (Key × V)} {ks : List Key} {xs : List D} (ek : kvs.map (·.1) = ks) (rs : Reps F (kvs.map (·.2)) xs) :
    (putK kvs j v).map (·.1) = putKs ks j ∧ Reps F ((putK kvs j v).map (·.2)) (putD ks xs j y) := by
  unfold putK putKs putD
  have ea : (kvs.any fun kv => decide (kv.1 = j)) = hasK ks j := by
    subst ek
    unfold hasK
    rw [List.any_map]
    rfl
  rw [ea]
  by_cases hj : hasK ks j = true
  · rw [if_pos hj, if_pos hj, if_pos hj]
    constructor
    · rw [← ek, List.map_map]
      refine List.map_congr_left fun p _ => ?_
      show (if p.1 = j then (p.1, v) else p).1 = p.1
      split <;> rfl
    · clear ea hj
      subst ek
      induction kvs generalizing xs with
      | nil =>
        cases rs
        exact .nil
      | cons p r ih =>
        cases rs with
        | cons a b =>
          rw [List.map_cons, List.map_cons]
          refine .cons ?_ (ih b)
          show Rep F (if p.1 = j then (p.1, v) else p).2 (if p.1 = j then y else _)
          by_cases z : p.1 = j
          · rw [if_pos z, if_pos z]
            exact ry
          · rw [if_neg z, if_neg z]
            exact a
  · rw [if_neg hj, if_neg hj, if_neg hj]
    exact ⟨by rw [List.map_append, ek]; rfl, by rw [List.map_append]; exact rs.app (.cons ry .nil)⟩
def dDPut (i : Nat) (dj da : DT) : DSt := fun Γ P => da Γ fun e Γ1 => wf e fun x => (∃ ks xs, Γ1[i]? = some (.dK ks xs)) ∧ dj Γ1 fun e' Γ2 => wf e' fun y => ∃ ks xs k, Γ2[i]? = some (.dK ks xs) ∧ keyOf y = some k ∧ ks.length ≤ 100000 ∧ P.nx (Γ2.set i (.dK (putKs ks k) (putD ks xs k x)))
instance snds_dput {i : Nat} [a : Snd K E ψ ta da] [b : Snd K E ψ tb db] : SndS K E ψ (sDPut (tVar i) tb ta) (dDPut i db da) := ⟨fun {c F H σ Γ P D} I eo h m => by
  refine a.frz (φ := fun _ _ => True) (k := fun x Γ1 => (∃ ks xs, Γ1[i]? = some (.dK ks xs)) ∧ db Γ1 fun e' Γ2 => wf e' fun y => ∃ ks xs k, Γ2[i]? = some (.dK ks xs) ∧ keyOf y = some k ∧ ks.length ≤ 100000 ∧ P.nx (Γ2.set i (.dK (putKs ks k) (putD ks xs k x)))) I eo h fun F1 H1 w x Γ1 I1 s1 rp h1 => ?_
  obtain ⟨⟨ks0, xs0, g⟩, h1⟩ := h1
  obtain ⟨v, hv, p, kvs, rfl, fp, h0, hp, ek, rs⟩ := I1.at_ i _ g (fun z => nomatch z)
  refine ⟨_, hv, ?_⟩
  refine b.frz (φ := fun _ _ => True) (k := fun y Γ2 => ∃ ks xs k, Γ2[i]? = some (.dK ks xs) ∧ keyOf y = some k ∧ ks.length ≤ 100000 ∧ P.nx (Γ2.set i (.dK (putKs ks k) (putD ks xs k x)))) I1 eo h1 fun F2 H2 u y Γ2 I2 s2 ry h2 => ?_
  obtain ⟨ks, xs, k, g2, hy, hl, h2⟩ := h2
  obtain ⟨v', hv', p', kvs2, ev, fp1, h01, hp1, ek1, rs1⟩ := I2.at_ i _ g2 (fun z => nomatch z)
  rw [hv] at hv'
  cases hv'
  cases ev
  have ll : kvs2.length = ks.length := by rw [← ek1, List.length_map]
  obtain ⟨k1, k2⟩ := putK_rep (rp.mono s2) ek1 rs1 (j := k)
  refine ⟨p, _, rfl, by rw [keyOf_rep ry hy]; exact DPut.k (k := k) hp1 (by rw [ll]; exact Nat.lt_of_le_of_lt hl (by decide)), ?_⟩
  exact m.nx _ _ _ _ (I2.slot (e' := .dK (putKs ks k) (putD ks xs k x)) g2 hv rfl h01 ⟨p, _, rfl, fp1, h01, upd_same, k1, k2⟩ (fun z => nomatch z) fun b x => x) h2⟩
/-- d.get(k), d in a slot or told by a call -/
def dGet1 (da db : DT) : DT := fun Γ φ => da Γ fun e Γ1 => wf e fun x => (∃ ks xs, x = .dK ks xs) ∧ db Γ1 fun e' Γ2 => wf e' fun y => ∃ ks xs k, x = .dK ks xs ∧ keyOf y = some k ∧ φ (.d ((lookD ks xs k).getD .non)) Γ2
instance snd_get1 [a : Snd K E ψ ta da] [b : Snd K E ψ tb db] : Snd K E ψ (tDGet1 ta tb) (dGet1 da db) := ⟨fun {c F H σ Γ φ Q} I eo h q => by
  refine a.frz (φ := fun _ _ => True) (k := fun x Γ1 => (∃ ks xs, x = .dK ks xs) ∧ db Γ1 fun e' Γ2 => wf e' fun y => ∃ ks xs k, x = .dK ks xs ∧ keyOf y = some k ∧ φ (.d ((lookD ks xs k).getD .non)) Γ2) I eo h fun F1 H1 v x Γ1 I1 s1 r1 h1 => ?_
  obtain ⟨⟨ks, xs, rfl⟩, h1⟩ := h1
  cases r1 with
  | @dK p kvs _ _ ep ek rs =>
    refine ⟨p, rfl, .inl ⟨kvs, .inl (I1.fh _ _ ep)⟩, ?_⟩
    refine b.frz (φ := fun _ _ => True) (k := fun y Γ2 => ∃ ks1 xs1 k, D.dK ks xs = .dK ks1 xs1 ∧ keyOf y = some k ∧ φ (.d ((lookD ks1 xs1 k).getD .non)) Γ2) I1 eo h1 fun F2 H2 u y Γ2 I2 s2 r2 h2 => ?_
    obtain ⟨ks1, xs1, k, e, hy, h2⟩ := h2
    cases e
    refine ⟨valV kvs k, ?_, ?_⟩
    · rw [keyOf_rep r2 hy]
      exact DGet.k (k := k) (I2.fh _ _ (s2 _ _ ep))
    · obtain ⟨z1, z2⟩ := valV_look (j := k) ek (rs.mono s2)
      cases el : lookD ks xs k with
      | none =>
        rw [z2 el]
        rw [el] at h2
        exact q F2 H2 _ _ Γ2 I2 (s1.trans s2) (Res.d .non) h2
      | some x =>
        obtain ⟨w, hw, rw1⟩ := z1 x el
        rw [hw]
        rw [el] at h2
        exact q F2 H2 _ _ Γ2 I2 (s1.trans s2) (Res.d rw1) h2⟩
/-! ### loops -/
def dFor (di : DA) (dg : D → List En → (List En → Prop) → Prop) (dt : DSt) : DSt := fun Γ P => di Γ fun items Γ1 => ∃ I : Nat → List En → Prop, I 0 Γ1 ∧
  ∀ i Γ', I i Γ' → (i = items.length → P.nx Γ') ∧ ∀ d, items[i]? = some d → dg d Γ' fun Γ2 => dt Γ2 { P with nx := I (i + 1), ct := I (i + 1), bk := P.nx }
instance snds_for {wi : TI} {g : TG} {gv : List Nat} {di : DA} {dg : D → List En → (List En → Prop) → Prop} [si : SndI K E ψ wi di] [sg : SndG K g gv dg] [sb : SndS K E ψ t dt] : SndS K E ψ (tFor wi g t) (dFor di dg dt) := ⟨fun {c F H σ Γ P D} I eo h m => by
  refine si.run I eo h fun F1 H1 J items Γ1 I1 s1 it h1 => ?_
  obtain ⟨IV, iv0, step⟩ := h1
  refine ⟨fun i m σ' H' => m = items.length - i ∧ i ≤ items.length ∧ ∃ F' Γ', Same F1 F' ∧ Is c F' H' σ' Γ' ∧ IV i Γ', ⟨_, rfl, Nat.zero_le _, F1, Γ1, Same.refl _, I1, iv0⟩, ?_⟩
  rintro i m' σ' H' ⟨rfl, hi, F', Γ', sF, I', iv⟩
  obtain ⟨st1, st2⟩ := step i Γ' iv
  by_cases hlt : i < items.length
  · obtain ⟨d, hd⟩ : ∃ d, items[i]? = some d := ⟨_, List.getElem?_eq_getElem hlt⟩
    obtain ⟨go, yl⟩ := (it _ F' H' σ' Γ' i I' sF).2 d hd
    refine .inr ⟨go, fun σ2 H2 => ∃ F2 Γ2, Same F1 F2 ∧ Is c F2 H2 σ2 Γ2 ∧ IV (i + 1) Γ2, fun σ2 H2 n2 => ⟨items.length - (i + 1), by omega, rfl, hlt, n2⟩, fun x H2 y => ?_⟩
    obtain ⟨F2, I2, sF2, rp⟩ := yl x H2 y
    refine sg.run I2 rp (st2 d hd) fun σ3 Γ3 I3 _ h3 => ?_
    exact sb.run (P := { P with nx := IV (i + 1), ct := IV (i + 1), bk := P.nx }) (c := ⟨F2, c.H0, c.pn, c.sc, c.hs⟩) ⟨Same.refl _, I3.fh, fun a o e => .inl e, I3.h0, I3.pp, I3.len, I3.at_, I3.dis, I3.fn, I3.tb, I3.hn⟩ eo h3
      ⟨fun Fa Ha σa Γa Ia ha => ⟨Fa, Γa, sF.trans (sF2.trans Ia.f0), ⟨I2.f0.trans Ia.f0, Ia.fh, fun a o e => (Ia.nw a o e).elim (fun z => I2.nw a o z) .inr, Ia.h0, Ia.pp, Ia.len, Ia.at_, Ia.dis, Ia.fn, Ia.tb, Ia.hn⟩, ha⟩,
       fun Fa Ha σa Γa v e Ia hh n ha => m.rt Fa Ha σa Γa v e ⟨I2.f0.trans Ia.f0, Ia.fh, fun a o e => (Ia.nw a o e).elim (fun z => I2.nw a o z) .inr, Ia.h0, Ia.pp, Ia.len, Ia.at_, Ia.dis, Ia.fn, Ia.tb, Ia.hn⟩ hh n ha,
       fun Fa Ha σa Γa Ia ha => m.nx Fa Ha σa Γa ⟨I2.f0.trans Ia.f0, Ia.fh, fun a o e => (Ia.nw a o e).elim (fun z => I2.nw a o z) .inr, Ia.h0, Ia.pp, Ia.len, Ia.at_, Ia.dis, Ia.fn, Ia.tb, Ia.hn⟩ ha,
       fun Fa Ha σa Γa Ia ha => ⟨Fa, Γa, sF.trans (sF2.trans Ia.f0), ⟨I2.f0.trans Ia.f0, Ia.fh, fun a o e => (Ia.nw a o e).elim (fun z => I2.nw a o z) .inr, Ia.h0, Ia.pp, Ia.len, Ia.at_, Ia.dis, Ia.fn, Ia.tb, Ia.hn⟩, ha⟩⟩
  · have e : i = items.length := by omega
    exact .inl ⟨(it _ F' H' σ' Γ' i I' sF).1 e, m.nx _ _ _ _ I' (st1 e)⟩⟩
def dWhile (dtt : DB) (dt : DSt) : DSt := fun Γ P => ∃ I : Nat → List En → Prop, (∃ m, I m Γ) ∧ ∀ m Γ', I m Γ' → dtt Γ' fun b Γ2 => if b = true then dt Γ2 { P with nx := fun Γ3 => ∃ m', m' < m ∧ I m' Γ3, ct := fun Γ3 => ∃ m', m' < m ∧ I m' Γ3, bk := P.nx } else P.nx Γ2
instance snds_while [s : SndT K E ψ tt dtt] [sb : SndS K E ψ t dt] : SndS K E ψ (tWhile tt t) (dWhile dtt dt) := ⟨fun {c F H σ Γ P D} I eo h m => by
  obtain ⟨IV, ⟨m0, iv0⟩, step⟩ := h
  refine ⟨fun n σ' H' => ∃ F' Γ', Is c F' H' σ' Γ' ∧ IV n Γ', ⟨m0, F, Γ, I, iv0⟩, ?_⟩
  rintro n σ' H' ⟨F', Γ', I', iv⟩
  refine s.run I' eo (step n Γ' iv) fun F2 H2 b Γ2 I2 s2 h2 => ?_
  cases b with
  | true =>
    refine iteT ⟨fun σ3 H3 => ∃ m', m' < n ∧ ∃ F3 Γ3, Is c F3 H3 σ3 Γ3 ∧ IV m' Γ3, fun σ3 H3 ⟨m', l, F3, Γ3, I3, iv3⟩ => ⟨m', l, F3, Γ3, I3, iv3⟩, ?_⟩
    exact sb.run (P := { P with nx := fun Γ3 => ∃ m', m' < n ∧ IV m' Γ3, ct := fun Γ3 => ∃ m', m' < n ∧ IV m' Γ3, bk := P.nx }) I2 eo h2
      ⟨fun Fa Ha σa Γa Ia ⟨m', l, iv⟩ => ⟨m', l, Fa, Γa, Ia, iv⟩, m.rt, m.nx, fun Fa Ha σa Γa Ia ⟨m', l, iv⟩ => ⟨m', l, Fa, Γa, Ia, iv⟩⟩
  | false => exact iteF (m.nx _ _ _ _ I2 h2)⟩
/-! ### a def's body -/
def st0 (N : List Str) (ds : List D) : List En := ds.map En.d ++ List.replicate (N.length - ds.length) .no
theorem enter {N : List Str} {F H : Hp} {vs : List V} {ds : List D} (fh : Same F H) (fn : FN F) (tb : TbOk K H) (r : Reps F vs ds) : Is (c0 K F H) F H (L2.start N vs) (st0 N ds) := by
  refine ⟨Same.refl F, fh, fun a o e => .inl e, fun a o _ e => (ntH_some e).1, (fun p e => nomatch e), ?_, fun i e g n => ?_, fun i j a e e' v v' ij g g' s s' o o' => ?_, fn, tb, fun a o e => (ntH_some e).2⟩
  · unfold L2.start st0
    rw [List.length_append, List.length_append, List.length_map, List.length_map, List.length_replicate, List.length_replicate, r.length]
  · unfold st0 at g
    rw [List.getElem?_append] at g
    split at g
    · rename_i hi
      rw [List.length_map] at hi
      rw [List.getElem?_map, List.getElem?_eq_getElem hi] at g
      cases g
      obtain ⟨v, hv, rp⟩ := r.get (List.getElem?_eq_getElem hi)
      refine ⟨v, ?_, rp⟩
      unfold L2.start
      rw [List.getElem?_append_left (by rw [List.length_map, r.length]; exact hi), List.getElem?_map, hv]
      rfl
    · rename_i hi
      exact absurd (List.mem_replicate.mp (List.mem_of_getElem? g)).2 n
  · unfold st0 at g
    rw [List.getElem?_append] at g
    split at g
    · rename_i hi
      rw [List.length_map] at hi
      rw [List.getElem?_map, List.getElem?_eq_getElem hi] at g
      cases g
      exact o
    · have := (List.mem_replicate.mp (List.mem_of_getElem? g)).2
      subst this
      exact o
def po (φ : En → Prop) : Po := ⟨fun _ => φ (.d .non), φ, fun _ => False, fun _ => False⟩
/-- a def that lets no error out -/
theorem body0 {N : List Str} {vs : List V} {H : Hp} {Q : VK} {E' : XK} {den : List D → (En → Prop) → (Value → Prop) → Prop} [s : SndS K E0 (fun _ => False) t dt] (h : spX K den vs H Q E') (hd : ∀ ds φ ψ, den ds φ ψ → dt (st0 N ds) (po φ)) :
    t { nx := fun _ H' => Q .non H', rt := Q } (L2.start N vs) H := by
  obtain ⟨F, ds, φ, ψ', fh, fn, tb, r, h1, q, _⟩ := h
  refine s.run (enter fh fn tb r) (fun _ _ _ _ _ z => z) (hd ds φ ψ' h1) ⟨fun F' H' σ' Γ' I p => ?_, fun F' H' σ' Γ' v e I hh n p => ?_, fun _ _ _ _ _ z => z.elim, fun _ _ _ _ _ z => z.elim⟩
  · exact q F' H' .non (.d .non) I.f0 (fun a o n e => I.h0 a o (fun z => nomatch z) (ntH_of e n)) I.tb I.fh I.fn I.nw (.non : Rep F' .non .non) (fun z => nomatch z) p
  · exact q F' H' v e I.f0 (fun a o n e => I.h0 a o (fun z => nomatch z) (ntH_of e n)) I.tb I.fh I.fn I.nw hh n p
/-- a def that may raise -/
theorem bodyX {N : List Str} {vs : List V} {H : Hp} {Q : VK} {E' : XK} {den : List D → (En → Prop) → (Value → Prop) → Prop} {dts : (Value → Prop) → DSt} [s : ∀ ψ, SndS K E' ψ t (dts ψ)] (h : spX K den vs H Q E') (hd : ∀ ds φ ψ, den ds φ ψ → dts ψ (st0 N ds) (po φ)) :
    t { nx := fun _ H' => Q .non H', rt := Q } (L2.start N vs) H := by
  obtain ⟨F, ds, φ, ψ', fh, fn, tb, r, h1, q, qx⟩ := h
  refine (s ψ').run (enter fh fn tb r) (fun C H' h2 _ t2 z => qx C H' (fun a o n e => h2 a o (fun w => nomatch w) (ntH_of e n)) t2 z) (hd ds φ ψ' h1) ⟨fun F' H' σ' Γ' I p => ?_, fun F' H' σ' Γ' v e I hh n p => ?_, fun _ _ _ _ _ z => z.elim, fun _ _ _ _ _ z => z.elim⟩
  · exact q F' H' .non (.d .non) I.f0 (fun a o n e => I.h0 a o (fun z => nomatch z) (ntH_of e n)) I.tb I.fh I.fn I.nw (.non : Rep F' .non .non) (fun z => nomatch z) p
  · exact q F' H' v e I.f0 (fun a o n e => I.h0 a o (fun z => nomatch z) (ntH_of e n)) I.tb I.fh I.fn I.nw hh n p
/-- a def with a pen ahead -/
def stP (N : List Str) (ds : List D) : List En := .pen :: (ds.map En.d ++ List.replicate (N.length - (ds.length + 1)) .no)
theorem enterP {N : List Str} {F H : Hp} {p : Addr} {us : List V} {ds : List D} (fh : Same F H) (fn : FN F) (tb : TbOk K H) (fp : F p = none) (pen : PenAt H p) (r : Reps F us ds) : Is (cP K F H p) F H (L2.start N (.ref p :: us)) (stP N ds) := by
  have e1 : L2.start N (.ref p :: us) = some (.ref p) :: (us.map some ++ List.replicate (N.length - (us.length + 1)) none) := by unfold L2.start; rw [List.map_cons, List.length_cons]; rfl
  rw [e1]
  have low : ∀ (j : Nat) (e : En), (ds.map En.d ++ List.replicate (N.length - (ds.length + 1)) .no)[j]? = some e → e ≠ .no → ∃ x, e = .d x ∧ ds[j]? = some x := fun j e g n => by
    rw [List.getElem?_append] at g
    split at g
    · rename_i hi
      rw [List.length_map] at hi
      rw [List.getElem?_map, List.getElem?_eq_getElem hi] at g
      cases g
      exact ⟨_, rfl, List.getElem?_eq_getElem hi⟩
    · exact absurd (List.mem_replicate.mp (List.mem_of_getElem? g)).2 n
  have own0 : ∀ (j : Nat) (e : En) (v : V) (a : Addr), (stP N ds)[j]? = some e → Adr e v a → j = 0 := fun j e v a g o => by
    cases j with
    | zero => rfl
    | succ j =>
      obtain ⟨x, rfl, _⟩ := low j e (by simpa [stP] using g) (adr_no o)
      exact o.elim
  refine ⟨Same.refl F, fh, fun a o e => .inl e, fun a o _ e => (ntH_some e).1, fun q e => ?_, ?_, fun i e g n => ?_, fun i j a e e' v v' ij g g' s s' o o' => ij ((own0 i e v a g o).trans (own0 j e' v' a g' o').symm), fn, tb, fun a o e => (ntH_some e).2⟩
  · cases e
    obtain ⟨u, h1, h2⟩ := pen.pl
    exact ⟨fp, pen, fun z => by rw [show (cP K F H p).H0 p = ntH H p from rfl, ntH_of h1 h2.1] at z; cases z⟩
  · unfold stP
    rw [List.length_cons, List.length_cons, List.length_append, List.length_append, List.length_map, List.length_map, List.length_replicate, List.length_replicate, r.length]
  · cases i with
    | zero =>
      cases g
      exact ⟨_, rfl, p, rfl, fp, .inr rfl, pen⟩
    | succ i =>
      obtain ⟨x, rfl, hx⟩ := low i e (by simpa [stP] using g) n
      obtain ⟨v, hv, rp⟩ := r.get hx
      refine ⟨v, ?_, rp⟩
      rw [List.getElem?_cons_succ, List.getElem?_append_left (by rw [List.length_map]; exact (List.getElem?_eq_some_iff.mp hv).1), List.getElem?_map, hv]
      rfl
def poP (φ : En → Prop) : Po := ⟨fun _ => φ (.d .non), fun e => e ≠ .pen ∧ φ e, fun _ => False, fun _ => False⟩
theorem bodyP {N : List Str} {vs : List V} {H : Hp} {Q : VK} {E' : XK} {den : List D → (En → Prop) → Prop} [s : SndS K E0 (fun _ => False) t dt] (h : spP K den vs H Q E') (hd : ∀ ds φ, den ds φ → dt (stP N ds) (poP φ)) :
    t { nx := fun _ H' => Q .non H', rt := Q } (L2.start N vs) H := by
  obtain ⟨p, us, F, ds, φ, rfl, fp, pen, fh, fn, tb, r, h1, q⟩ := h
  have kk : ∀ {F' H' : Hp} {σ' : L2.St} {Γ' : List En}, Is (cP K F H p) F' H' σ' Γ' → ∀ a o, a ≠ p → NT o → H a = some o → H' a = some o := fun I a o n nt e => I.h0 a o (fun z => n (by cases z; rfl)) (ntH_of e nt)
  refine s.run (enterP fh fn tb fp pen r) (fun _ _ _ _ _ z => z) (hd ds φ h1) ⟨fun F' H' σ' Γ' I z => ?_, fun F' H' σ' Γ' v e I hh n z => ?_, fun _ _ _ _ _ z => z.elim, fun _ _ _ _ _ z => z.elim⟩
  · exact q F' H' .non (.d .non) I.f0 (kk I) I.tb (I.pp p rfl).2.1 I.fh I.fn I.nw (.non : Rep F' .non .non) (fun z => nomatch z) (fun z => nomatch z) z
  · exact q F' H' v e I.f0 (kk I) I.tb (I.pp p rfl).2.1 I.fh I.fn I.nw hh n z.1 z.2
end
end Da

set_option Elab.async false
set_option maxRecDepth 100000
set_option maxHeartbeats 4000000
set_option linter.all false
namespace Da
open PySem PySem.Spec PyProof.Rows L2 RZ HmS
/-! ### the script and the pen -/
def spS (K : PySem.W.Frag) [HasT K] (den : List D → (En → Prop) → Prop) : Sp := fun vs H Q _ => ∃ (a : Addr) (ns : List Int) (us : List V) (ds : List D) (φ : En → Prop), vs = .ref a :: us ∧ SqL K H a (ns.map V.int) ∧ us = ds.map (fun x => match x with | .int i => V.int i | _ => .non) ∧ ds.all (fun x => match x with | .int _ => true | _ => false) = true ∧ den ds φ ∧
  ∀ z : Int, φ (.d (.int z)) → Q (.int z) H
def dCallS (i : Nat) (den : List D → (En → Prop) → Prop) (dal : DA) : DT := fun Γ φ => (∃ ns, Γ[i]? = some (.scr ns)) ∧ dal Γ fun xs Γ1 => (∃ ns, Γ1[i]? = some (.scr ns)) ∧ xs.all (fun x => match x with | .int _ => true | _ => false) = true ∧ den xs fun e => φ e Γ1
/-- a new pen -/
def spPen0 : Sp := fun vs H Q _ => ∃ z : Int, vs = [.int z] ∧ ∀ p H', H p = none → PenAt H' p → (∀ b, b ≠ p → H' b = H b) → Q (.ref p) H'
section
variable {K : PySem.W.Frag} [HasT K] {E : XK} {ψ : Value → Prop} {te ta tb tx : TE} {da db dx : DT} {tt tu : TT} {dtt dtu : DB} {al : TA} {dal : DA} {t u : TS} {dt du : DSt}
theorem ints_of {F : Hp} : ∀ {vs : List V} {xs : List D}, Reps F vs xs → xs.all (fun x => match x with | .int _ => true | _ => false) = true → vs = xs.map (fun x => match x with | .int i => V.int i | _ => .non)
  | _, _, .nil, _ => rfl
  | _, _, .cons (d := d) a b, h => by
    rw [List.all_cons, Bool.and_eq_true] at h
    rw [List.map_cons, ← ints_of b h.2]
    cases a <;> first | rfl | exact absurd h.1 Bool.false_ne_true
instance snd_callS {i : Nat} {den : List D → (En → Prop) → Prop} {E' : XK} [sl : SndA K E ψ al dal] : Snd K E ψ (tCall (spS K den) [] E' (tCons (tVar i) al)) (dCallS i den dal) := ⟨fun {c F H σ Γ φ Q} I eo h q => by
  obtain ⟨⟨ns, g⟩, h⟩ := h
  obtain ⟨a, hv, _⟩ := I.script g
  refine ⟨_, hv, ?_⟩
  refine sl.run I eo h fun F1 H1 vs xs Γ1 I1 s1 r1 h1 => ?_
  obtain ⟨⟨ns1, g1⟩, hi, h1⟩ := h1
  obtain ⟨a', hv', hs⟩ := I1.script g1
  rw [hv] at hv'
  cases hv'
  refine ⟨a, ns1, vs ++ [], xs, fun e => φ e Γ1, rfl, hs, ?_, hi, h1, fun z hz => q F1 H1 _ _ Γ1 I1 s1 (Res.d (.int z)) hz⟩
  rw [List.append_nil]
  exact ints_of r1 hi⟩
def dPen0 (dal : DA) : DT := fun Γ φ => dal Γ fun xs Γ1 => ∃ z : Int, xs = [.int z] ∧ φ .pen Γ1
instance snd_pen0 {E' : XK} [sl : SndA K E ψ al dal] : Snd K E ψ (tCall spPen0 [] E' al) (dPen0 dal) := ⟨fun {c F H σ Γ φ Q} I eo h q => by
  refine sl.run I eo h fun F1 H1 vs xs Γ1 I1 s1 r1 h1 => ?_
  obtain ⟨z, rfl, h1⟩ := h1
  obtain ⟨x, rfl, rp⟩ := one_of r1
  cases rp
  refine ⟨z, rfl, fun p H' hp pen bt => ?_⟩
  have sh : Same H1 H' := fun b o e => by rw [bt b (ne_of_none e hp)]; exact e
  have I2 : Is c F1 H' σ Γ1 := I1.grow (Same.refl F1) sh (I1.fh.trans sh) I1.fn fun a o e => .inl e
  exact q F1 H' (.ref p) .pen Γ1 I2 s1 ⟨⟨p, rfl, I1.unF hp, .inl (I1.un hp), pen⟩, (fun z => nomatch z), fun a e => by cases e; exact I1.fresh hp⟩ h1⟩
/-! ### truth -/
theorem pt_tru {X : Cx} {a : Expr} {ta : TE} (ha : PE X a ta) (he : ∀ whole, isTrue a X.env whole = (do let v ← whole; standAt a.pos; holding [v] (truthy v)) := by intro _; rfl) {K : PySem.W.Frag} (hK : X.K = K := by rfl) : PT X a (tTru K ta) := by
  subst hK
  exact pt_truth ha he
def truD : D → Option Bool
  | .non => some false
  | .int i => some (i != 0)
  | .tup xs => some (!xs.isEmpty)
  | .lst xs => some (!xs.isEmpty)
  | _ => none
/-- truth of a name -/
def dTruv (i : Nat) : DB := fun Γ φ => match Γ[i]? with
  | some (.d x) => ∃ b, truD x = some b ∧ φ b Γ
  | some (.lst xs) => φ (!xs.isEmpty) Γ
  | _ => False
theorem reps_empty {F : Hp} {vs : List V} {ds : List D} (r : Reps F vs ds) : vs.isEmpty = ds.isEmpty := by
  cases r <;> rfl
instance snd_truv (i : Nat) : SndT K E ψ (tTru K (tVar i)) (dTruv i) := ⟨fun {c F H σ Γ φ Q} I eo h q => by
  unfold dTruv at h
  cases g : Γ[i]? with
  | none => rw [g] at h; exact h.elim
  | some e =>
    rw [g] at h
    cases e with
    | d x =>
      obtain ⟨v, hv, rp⟩ := I.at_ i _ g (fun z => nomatch z)
      have rp : Rep F v x := rp
      obtain ⟨b, hb, h⟩ := h
      refine ⟨v, hv, b, ?_, q F H b Γ I (Same.refl F) h⟩
      cases rp with
      | non => cases hb; rfl
      | int j => cases hb; rfl
      | tup e r => cases hb; exact .inr (.inl ⟨_, SqT.of (I.fh _ _ e), by rw [reps_empty r]⟩)
      | lst e r => cases hb; exact .inl ⟨_, SqL.of (I.fh _ _ e), by rw [reps_empty r]⟩
      | _ => cases hb
    | lst xs =>
      obtain ⟨v, hv, a, vs, rfl, _, _, hl, rs⟩ := I.at_ i _ g (fun z => nomatch z)
      exact ⟨_, hv, _, .inl ⟨vs, SqL.of hl, by rw [reps_empty rs]⟩, q F H _ Γ I (Same.refl F) h⟩
    | _ => exact h.elim⟩
/-! ### ranges as lists -/
class SndRg (K : PySem.W.Frag) [HasT K] (E : XK) (ψ : Value → Prop) (te : L2.St → Hp → (Int → Int → Hp → Prop) → Prop) (den : outParam (List En → (Int → Int → List En → Prop) → Prop)) : Prop where
  run : ∀ {c : Ct K} {F H : Hp} {σ : L2.St} {Γ : List En} {φ : Int → Int → List En → Prop} {Q : Int → Int → Hp → Prop}, Is c F H σ Γ → EOk c E ψ → den Γ φ → (∀ F' H' a b Γ', Is c F' H' σ Γ' → Same F F' → φ a b Γ' → Q a b H') → te σ H Q
def dRg1 (da : DT) : List En → (Int → Int → List En → Prop) → Prop := fun Γ φ => da Γ fun e Γ1 => wi e fun n => φ 0 n Γ1
def dRg2 (da db : DT) : List En → (Int → Int → List En → Prop) → Prop := fun Γ φ => da Γ fun e Γ1 => wi e fun m => db Γ1 fun e' Γ2 => wi e' fun n => φ m n Γ2
instance snd_rg1 [a : Snd K E ψ ta da] : SndRg K E ψ (tRg1 ta) (dRg1 da) := ⟨fun {c F H σ Γ φ Q} I eo h q => a.run I eo h fun F1 H1 v e Γ1 I1 s1 r1 h1 => by
  obtain ⟨n, rfl, h1⟩ := wi_of h1
  cases (show Rep F1 v (.int n) from r1.1)
  exact ⟨n, rfl, q F1 H1 0 n Γ1 I1 s1 h1⟩⟩
instance snd_rg2 [a : Snd K E ψ ta da] [b : Snd K E ψ tb db] : SndRg K E ψ (tRg2 ta tb) (dRg2 da db) := ⟨fun {c F H σ Γ φ Q} I eo h q => a.run I eo h fun F1 H1 v e Γ1 I1 s1 r1 h1 => by
  obtain ⟨m, rfl, h1⟩ := wi_of h1
  cases (show Rep F1 v (.int m) from r1.1)
  refine b.run I1 eo h1 fun F2 H2 u e Γ2 I2 s2 r2 h2 => ?_
  obtain ⟨n, rfl, h2⟩ := wi_of h2
  cases (show Rep F2 u (.int n) from r2.1)
  exact ⟨m, n, rfl, rfl, q F2 H2 m n Γ2 I2 (s1.trans s2) h2⟩⟩
theorem reps_rg {F : Hp} (a b : Int) : Reps F (rgV a b) (upI a (b - a).toNat) := by
  unfold rgV upI
  generalize List.range (b - a).toNat = l
  induction l with
  | nil => exact .nil
  | cons x r ih => exact .cons (.int _) ih
def dLstRg (dr : List En → (Int → Int → List En → Prop) → Prop) : DT := fun Γ φ => dr Γ fun a b Γ1 => -100000 ≤ a ∧ a ≤ 100000 ∧ -100000 ≤ b ∧ b ≤ 100000 ∧ φ (.lst (upI a (b - a).toNat)) Γ1
def dTupRg (dr : List En → (Int → Int → List En → Prop) → Prop) : DT := fun Γ φ => dr Γ fun a b Γ1 => -100000 ≤ a ∧ a ≤ 100000 ∧ -100000 ≤ b ∧ b ≤ 100000 ∧ φ (.d (.tup (upI a (b - a).toNat))) Γ1
instance snd_lstRg {tr : L2.St → Hp → (Int → Int → Hp → Prop) → Prop} {dr : List En → (Int → Int → List En → Prop) → Prop} [a : SndRg K E ψ tr dr] : Snd K E ψ (tLstRg tr) (dLstRg dr) := ⟨fun {c F H σ Γ φ Q} I eo h q => a.run I eo h fun F1 H1 m n Γ1 I1 s1 h1 => by
  obtain ⟨a0, a1, b0, b1, h1⟩ := h1
  refine ⟨⟨by omega, by omega, by omega, by omega, by omega⟩, fun p hp => ?_⟩
  obtain ⟨I2, r2⟩ := I1.newL hp (reps_rg m n)
  exact q _ _ _ _ _ I2 s1 r2 h1⟩
instance snd_tupRg {tr : L2.St → Hp → (Int → Int → Hp → Prop) → Prop} {dr : List En → (Int → Int → List En → Prop) → Prop} [a : SndRg K E ψ tr dr] : Snd K E ψ (tTupRg tr) (dTupRg dr) := ⟨fun {c F H σ Γ φ Q} I eo h q => a.run I eo h fun F1 H1 m n Γ1 I1 s1 h1 => by
  obtain ⟨a0, a1, b0, b1, h1⟩ := h1
  refine ⟨⟨by omega, by omega, by omega, by omega, by omega⟩, fun p hp => ?_⟩
  obtain ⟨I2, s2, _⟩ := I1.new (o := .tup (rgV m n)) hp
  exact q _ _ _ _ _ I2 (s1.trans s2) (Res.d (.tup upd_same (reps_rg m n))) h1⟩
/-- len(set(xs)), xs ints of which no two are alike -/
def dLenSet (da : DT) : DT := fun Γ φ => da Γ fun e Γ1 => wl e fun xs => ∃ is : List Int, xs = is.map D.int ∧ is.Nodup ∧ is.length ≤ 4000 ∧ φ (.d (.int is.length)) Γ1
instance snd_lenSet [a : Snd K E ψ ta da] : Snd K E ψ (RZ.tLenSetI K ta) (dLenSet da) := ⟨fun {c F H σ Γ φ Q} I eo h q => a.run I eo h fun F1 H1 v e Γ1 I1 s1 r1 h1 => by
  obtain ⟨F2, p, vs, xs, rfl, I2, s2, ep, rs, is, rfl, nd, hl, h2⟩ := r1.frzL I1 h1
  rw [rs.of_ints] at ep
  exact ⟨p, is, rfl, SqL.of (I2.fh _ _ ep), nd, hl, q F2 H1 _ _ Γ1 I2 (s1.trans s2) (Res.d (.int _)) h2⟩⟩
/-! ### min, max of data -/
def rMinD (K : PySem.W.Frag) : List V → Hp → VK → Prop := fun vs H Q => ∃ (a : Addr) (xs : List V) (x : PyData) (ds : List PyData), vs = [.ref a] ∧ SqL K H a xs ∧ DpAll K H xs (x :: ds) ∧ PySem.W.AlikeAll (x :: ds) ∧ PyData.depthAll (x :: ds) ≤ 60 ∧
  ∀ (i : Nat) v, xs[i]? = some v → (x :: ds)[i]? = some (PySem.W.minD x ds) → Q v H
theorem dpAll_get {K : PySem.W.Frag} {H : Hp} : ∀ {vs : List V} {ds : List PyData} {i : Nat} {v : V}, DpAll K H vs ds → vs[i]? = some v → ∃ d, ds[i]? = some d ∧ Dp K H v d
  | _, _, i, v, .nil, h => by simp at h
  | _, _, 0, v, .cons a _, h => by
    cases h
    exact ⟨_, rfl, a⟩
  | _, _, i + 1, v, .cons _ b, h => by
    obtain ⟨d, e, r⟩ := dpAll_get (i := i) b (by simpa using h)
    exact ⟨d, by simpa using e, r⟩
theorem vals_get {vs : List V} {us : List Value} (r : Vals vs us) {i : Nat} {u : Value} (h : us[i]? = some u) : ∃ v, vs[i]? = some v ∧ RelV v u := by
  induction r generalizing i with
  | nil => simp at h
  | cons a b ih =>
    cases i with
    | zero => cases h; exact ⟨_, rfl, a⟩
    | succ i =>
      obtain ⟨v, e, rv⟩ := ih (i := i) (by simpa using h)
      exact ⟨v, by simpa using e, rv⟩
theorem cr_minD {X : Cx} (hc : X.calm = true) (hu : X.A.units + 64 < cLine) : CallR X (.builtin "min") (rMinD X.K) := by
  intro pins s σ H xs us Q I r h
  obtain ⟨a, vs, x, ds, rfl, hs, hd, al, dp, q⟩ := h
  obtain ⟨u, rfl, rx⟩ := vals1 r
  cases rx
  obtain ⟨its, rv, pl, _⟩ := I.list hs
  obtain ⟨as, rd⟩ := Dp.readsAll I (x :: ds) vs its hd rv
  refine PySem.W.min_list_data (vs := its.toArray) (I.ok.hd hc) pl.isList (by simpa using rd) al (by omega) fun i v h' tk bs hv hr hk => ?_
  have hv : its[i]? = some v := by simpa using hv
  obtain ⟨w, hw, rw1⟩ := vals_get rv hv
  obtain ⟨d, hd1, dp1⟩ := dpAll_get hd hw
  obtain ⟨as2, rd2⟩ := Dp.reads I d w v dp1 rw1
  have e := (PyProof.Rows.reads_det (fun b o e _ => hk b o e) rd2 hr).1
  exact ⟨w, H, I.kept hk, rw1, q i w hw (by rw [e]; exact hd1)⟩
def dMinR (xs : List D) (φ : En → Prop) : Prop := match xs with
  | [.lst (x :: ds)] => flats (x :: ds) = true ∧ PySem.W.AlikeAll (pys (x :: ds)) ∧ PyData.depthAll (pys (x :: ds)) ≤ 60 ∧ ∀ z ∈ x :: ds, z.py = PySem.W.minD x.py (pys ds) → φ (.d z)
  | _ => False
theorem pys_get : ∀ {ds : List D} {i : Nat} {d : PyData}, (pys ds)[i]? = some d → ∃ x, ds[i]? = some x ∧ x.py = d
  | [], i, d, h => by simp [pys] at h
  | x :: r, 0, d, h => by
    simp only [pys] at h
    cases h
    exact ⟨x, rfl, rfl⟩
  | x :: r, i + 1, d, h => by
    simp only [pys] at h
    obtain ⟨y, e, f⟩ := pys_get (ds := r) (i := i) (by simpa using h)
    exact ⟨y, by simpa using e, f⟩
instance snd_minD : SndC K (rMinD K) dMinR := ⟨fun {c F H σ Γ xs ds φ Q} I r h q => by
  match ds, r, h with
  | [.lst (x :: es)], r, h =>
    obtain ⟨h1, h2, h3, h4⟩ := h
    obtain ⟨v, rfl, rp⟩ := one_of r
    cases rp with
    | @lst a vs _ e rs =>
      refine ⟨a, vs, x.py, pys es, rfl, SqL.of (I.fh _ _ e), by simpa only [pys] using rs.dp I.fh h1, by simpa only [pys] using h2, by simpa only [pys] using h3, fun i v hv hm => ?_⟩
      obtain ⟨y, hy, rpy⟩ := rs.getV hv
      obtain ⟨z, hz, ez⟩ := pys_get (ds := x :: es) (i := i) (by simpa only [pys] using hm)
      rw [hy] at hz
      cases hz
      exact q F H v _ I (Same.refl F) (Res.d rpy) (h4 y (List.mem_of_getElem? hy) ez)⟩
/-! ### tuple of a dict's keys -/
end
end Da

set_option Elab.async false
set_option maxRecDepth 100000
set_option maxHeartbeats 4000000
set_option linter.all false
namespace Da
open PySem PySem.Spec PyProof.Rows L2 RZ HmS
theorem hu65_of {k : Nat} {A : Around} (hr : Room k A) : A.units + 65 < cLine := by have := hr.un; omega
theorem ifT {A B : Prop} {b : Bool} (e : b = true) (h : A) : if b = true then A else B := by rw [if_pos e]; exact h
theorem ifF {A B : Prop} {b : Bool} (e : b = false) (h : B) : if b = true then A else B := by rw [e, if_neg Bool.false_ne_true]; exact h
theorem ifB {A B : Prop} {b : Bool} (h1 : b = true → A) (h2 : b = false → B) : if b = true then A else B := by
  cases b with
  | true => rw [if_pos rfl]; exact h1 rfl
  | false => rw [if_neg Bool.false_ne_true]; exact h2 rfl
section
variable {X : Cx} {K : PySem.W.Frag} {tg l e e2 : Expr} {tl : TE} {ta : TA} {p pos tpos : Pos} {elts : List Expr} {kk : Nat}
theorem pi_tupK (hl : PE X l tl) (hK : X.K = K := by rfl) : PI X tg l (iTup K tl) := hK ▸ pi_tup hl
theorem pi_listK (hl : PE X l tl) (hK : X.K = K := by rfl) : PI X tg l (iList K tl) := hK ▸ pi_list hl
theorem pi_enumTK (hg : Gl X "enumerate") (hm : X.mg "enumerate" = none) (ha : PA X [e] ta) (hs : starEach [e] X.env = [(false, eval e X.env)] := by rfl) (hK : X.K = K := by rfl) : PI X (.Tuple elts kk tpos) (.Call (.Name "enumerate" p) [e] [] pos) (iEnumT K ta) := hK ▸ pi_enumT hg hm ha hs
theorem pi_enumK (hg : Gl X "enumerate") (hm : X.mg "enumerate" = none) (ha : PA X [e] ta) (hs : starEach [e] X.env = [(false, eval e X.env)] := by rfl) (hK : X.K = K := by rfl) : PI X (.Tuple elts kk tpos) (.Call (.Name "enumerate" p) [e] [] pos) (iEnum K ta) := hK ▸ pi_enum hg hm ha hs
theorem pi_zipAK (hg : Gl X "zip") (hm : X.mg "zip" = none) (ha : PA X [e, e2] ta) (hs : starEach [e, e2] X.env = (false, eval e X.env) :: starEach [e2] X.env := by rfl) (hpl : (backTo pos (starEach [e2] X.env)).any (·.1) = false := by rfl) (hK : X.K = K := by rfl) :
    PI X (.Tuple elts kk tpos) (.Call (.Name "zip" p) [e, e2] [] pos) (iZipA K ta) := hK ▸ pi_zipA hg hm ha hs hpl
theorem pg_tupK {es : List Expr} {k n : Nat} {t : TGs} (hc : X.calm = true) (h : PGs X es t) (hn : (assignEach es X.env).length = n := by rfl) (hst : (assignEach es X.env).findIdx? (·.1) = none := by rfl) (hK : X.K = K := by rfl) : PG X (.Tuple es k pos) (gTup K n t) := hK ▸ pg_tup hc h hn hst
theorem pe_lenSetIK {a : Expr} {ta : TE} {p2 q : Pos} (hg : Gl X "len") (hm : X.mg "len" = none) (hg2 : Gl X "set") (hm2 : X.mg "set" = none) (ha : PE X a ta) (hc : X.calm = true := by rfl)
    (na : starEach [a] X.env = (false, eval a X.env) :: starEach [] X.env := by rfl) (hK : X.K = K := by rfl) : PE X (.Call (.Name "len" p) [.Call (.Name "set" p2) [a] [] q] [] pos) (RZ.tLenSetI K ta) := hK ▸ RZ.pe_lenSetI hg hm hg2 hm2 ha hc na
end
/-! ### promises by the number of arguments -/
abbrev DSp := List D → (En → Prop) → (Value → Prop) → Prop
def sp0 (k : (En → Prop) → Prop) : DSp := fun ds φ _ => match ds with | [] => k φ | _ => False
def sp1 (k : D → (En → Prop) → Prop) : DSp := fun ds φ _ => match ds with | [x] => k x φ | _ => False
def sp2 (k : D → D → (En → Prop) → Prop) : DSp := fun ds φ _ => match ds with | [x, y] => k x y φ | _ => False
def sp3 (k : D → D → D → (En → Prop) → Prop) : DSp := fun ds φ _ => match ds with | [x, y, z] => k x y z φ | _ => False
def sp4 (k : D → D → D → D → (En → Prop) → Prop) : DSp := fun ds φ _ => match ds with | [x, y, z, u] => k x y z u φ | _ => False
def sp5 (k : D → D → D → D → D → (En → Prop) → Prop) : DSp := fun ds φ _ => match ds with | [x, y, z, u, v] => k x y z u v φ | _ => False
def pp0 (k : (En → Prop) → Prop) : List D → (En → Prop) → Prop := fun ds φ => match ds with | [] => k φ | _ => False
def pp1 (k : D → (En → Prop) → Prop) : List D → (En → Prop) → Prop := fun ds φ => match ds with | [x] => k x φ | _ => False
def pp2 (k : D → D → (En → Prop) → Prop) : List D → (En → Prop) → Prop := fun ds φ => match ds with | [x, y] => k x y φ | _ => False
def pp3 (k : D → D → D → (En → Prop) → Prop) : List D → (En → Prop) → Prop := fun ds φ => match ds with | [x, y, z] => k x y z φ | _ => False
section
variable {K : PySem.W.Frag} [HasT K] {t : TS} {dt : DSt} {N : List Str} {vs : List V} {H : Hp} {Q : VK} {E' : XK}
theorem lenX {den : DSp} {n : Nat} (h : spX K den vs H Q E') (f : ∀ ds φ ψ, den ds φ ψ → ds.length = n) : vs.length = n := by
  obtain ⟨F, ds, φ, ψ, _, _, _, r, hd, _⟩ := h
  rw [r.length]
  exact f _ _ _ hd
theorem lenP {den : List D → (En → Prop) → Prop} {n : Nat} (h : spP K den vs H Q E') (f : ∀ ds φ, den ds φ → ds.length = n) : vs.length = n + 1 := by
  obtain ⟨p, us, F, ds, φ, rfl, _, _, _, _, _, r, hd, _⟩ := h
  rw [List.length_cons, r.length, f _ _ hd]
theorem len0 {k : (En → Prop) → Prop} (h : spX K (sp0 k) vs H Q E') : vs.length = 0 := lenX h fun ds _ _ e => by match ds, e with | [], _ => rfl
theorem len1 {k : D → (En → Prop) → Prop} (h : spX K (sp1 k) vs H Q E') : vs.length = 1 := lenX h fun ds _ _ e => by match ds, e with | [_], _ => rfl
theorem len2 {k : D → D → (En → Prop) → Prop} (h : spX K (sp2 k) vs H Q E') : vs.length = 2 := lenX h fun ds _ _ e => by match ds, e with | [_, _], _ => rfl
theorem len3 {k : D → D → D → (En → Prop) → Prop} (h : spX K (sp3 k) vs H Q E') : vs.length = 3 := lenX h fun ds _ _ e => by match ds, e with | [_, _, _], _ => rfl
theorem len4 {k : D → D → D → D → (En → Prop) → Prop} (h : spX K (sp4 k) vs H Q E') : vs.length = 4 := lenX h fun ds _ _ e => by match ds, e with | [_, _, _, _], _ => rfl
theorem len5 {k : D → D → D → D → D → (En → Prop) → Prop} (h : spX K (sp5 k) vs H Q E') : vs.length = 5 := lenX h fun ds _ _ e => by match ds, e with | [_, _, _, _, _], _ => rfl
theorem lep0 {k : (En → Prop) → Prop} (h : spP K (pp0 k) vs H Q E') : vs.length = 1 := lenP h fun ds _ e => by match ds, e with | [], _ => rfl
theorem lep1 {k : D → (En → Prop) → Prop} (h : spP K (pp1 k) vs H Q E') : vs.length = 2 := lenP h fun ds _ e => by match ds, e with | [_], _ => rfl
theorem lep2 {k : D → D → (En → Prop) → Prop} (h : spP K (pp2 k) vs H Q E') : vs.length = 3 := lenP h fun ds _ e => by match ds, e with | [_, _], _ => rfl
theorem lep3 {k : D → D → D → (En → Prop) → Prop} (h : spP K (pp3 k) vs H Q E') : vs.length = 4 := lenP h fun ds _ e => by match ds, e with | [_, _, _], _ => rfl
abbrev bodyGoal (Q : VK) : Ends := { nx := fun _ H' => Q .non H', rt := Q }
theorem body1 {k : D → (En → Prop) → Prop} [s : SndS K E0 (fun _ => False) t dt] (h : spX K (sp1 k) vs H Q E') (hd : ∀ x φ, k x φ → dt (st0 N [x]) (po φ)) : t (bodyGoal Q) (L2.start N vs) H :=
  body0 (s := s) h fun ds φ _ e => by match ds, e with | [x], e => exact hd x φ e
theorem body2 {k : D → D → (En → Prop) → Prop} [s : SndS K E0 (fun _ => False) t dt] (h : spX K (sp2 k) vs H Q E') (hd : ∀ x y φ, k x y φ → dt (st0 N [x, y]) (po φ)) : t (bodyGoal Q) (L2.start N vs) H :=
  body0 (s := s) h fun ds φ _ e => by match ds, e with | [x, y], e => exact hd x y φ e
theorem body3 {k : D → D → D → (En → Prop) → Prop} [s : SndS K E0 (fun _ => False) t dt] (h : spX K (sp3 k) vs H Q E') (hd : ∀ x y z φ, k x y z φ → dt (st0 N [x, y, z]) (po φ)) : t (bodyGoal Q) (L2.start N vs) H :=
  body0 (s := s) h fun ds φ _ e => by match ds, e with | [x, y, z], e => exact hd x y z φ e
theorem body4 {k : D → D → D → D → (En → Prop) → Prop} [s : SndS K E0 (fun _ => False) t dt] (h : spX K (sp4 k) vs H Q E') (hd : ∀ x y z u φ, k x y z u φ → dt (st0 N [x, y, z, u]) (po φ)) : t (bodyGoal Q) (L2.start N vs) H :=
  body0 (s := s) h fun ds φ _ e => by match ds, e with | [x, y, z, u], e => exact hd x y z u φ e
theorem body5 {k : D → D → D → D → D → (En → Prop) → Prop} [s : SndS K E0 (fun _ => False) t dt] (h : spX K (sp5 k) vs H Q E') (hd : ∀ x y z u v φ, k x y z u v φ → dt (st0 N [x, y, z, u, v]) (po φ)) : t (bodyGoal Q) (L2.start N vs) H :=
  body0 (s := s) h fun ds φ _ e => by match ds, e with | [x, y, z, u, v], e => exact hd x y z u v φ e
theorem bodp0 {k : (En → Prop) → Prop} [s : SndS K E0 (fun _ => False) t dt] (h : spP K (pp0 k) vs H Q E') (hd : ∀ φ, k φ → dt (stP N []) (poP φ)) : t (bodyGoal Q) (L2.start N vs) H :=
  bodyP (s := s) h fun ds φ e => by match ds, e with | [], e => exact hd φ e
theorem bodp1 {k : D → (En → Prop) → Prop} [s : SndS K E0 (fun _ => False) t dt] (h : spP K (pp1 k) vs H Q E') (hd : ∀ x φ, k x φ → dt (stP N [x]) (poP φ)) : t (bodyGoal Q) (L2.start N vs) H :=
  bodyP (s := s) h fun ds φ e => by match ds, e with | [x], e => exact hd x φ e
theorem bodp2 {k : D → D → (En → Prop) → Prop} [s : SndS K E0 (fun _ => False) t dt] (h : spP K (pp2 k) vs H Q E') (hd : ∀ x y φ, k x y φ → dt (stP N [x, y]) (poP φ)) : t (bodyGoal Q) (L2.start N vs) H :=
  bodyP (s := s) h fun ds φ e => by match ds, e with | [x, y], e => exact hd x y φ e
theorem bodp3 {k : D → D → D → (En → Prop) → Prop} [s : SndS K E0 (fun _ => False) t dt] (h : spP K (pp3 k) vs H Q E') (hd : ∀ x y z φ, k x y z φ → dt (stP N [x, y, z]) (poP φ)) : t (bodyGoal Q) (L2.start N vs) H :=
  bodyP (s := s) h fun ds φ e => by match ds, e with | [x, y, z], e => exact hd x y z φ e
/-! ### comprehensions that hang on nothing but the item -/
theorem wf_of {e : En} {x : D} {k : D → Prop} (h : e.frz = some x) (q : k x) : wf e k := by
  cases e <;> first | (cases h; exact q) | (cases h; done)
theorem dLc_pure {vs gv : List Nat} {di : DA} {dg : D → List En → (List En → Prop) → Prop} {de : DT} {Γ Γ1 Γw : List En} {φ : En → List En → Prop} {items : List D} (f : D → D) (hgv : (gv.all fun i => vs.contains i) = true) (hdi : ∀ ψ : List D → List En → Prop, ψ items Γ1 → di Γ ψ)
    (hw1 : wipeE Γ1 vs = Γw) (hw : wipeE Γw vs = Γw) (hl : items.length ≤ 100000) (ev : ∀ d ∈ items, ∀ ψ : En → List En → Prop, (∀ e Γ4, e.frz = some (f d) → wipeE Γ4 vs = Γw → ψ e Γ4) → dg d Γw fun Γ2 => de Γ2 ψ)
    (k : φ (.lst (items.map f)) Γw) : dLc vs gv di dg dYes de Γ φ := by
  refine ⟨hgv, hdi _ ⟨hl, fun i acc Γ' => Γ' = Γw ∧ acc = (items.take i).map f, ⟨hw1, rfl⟩, ?_⟩⟩
  rintro i acc Γ' ⟨rfl, rfl⟩
  refine ⟨fun e => ?_, fun d hd => ?_⟩
  · rw [e, List.take_length]
    exact k
  · rw [hw]
    refine ev d (List.mem_of_getElem? hd) _ fun e Γ4 h1 h2 => ?_
    have et : items.take (i + 1) = items.take i ++ [d] := by rw [List.take_add_one, hd]; rfl
    exact wf_of h1 ⟨h2, by rw [et, List.map_append]; rfl⟩
theorem dLc_filt {vs gv : List Nat} {di : DA} {dg : D → List En → (List En → Prop) → Prop} {dtt : DB} {de : DT} {Γ Γ1 Γw : List En} {φ : En → List En → Prop} {items : List D} (p : D → Bool) (f : D → D) (hgv : (gv.all fun i => vs.contains i) = true) (hdi : ∀ ψ : List D → List En → Prop, ψ items Γ1 → di Γ ψ)
    (hw1 : wipeE Γ1 vs = Γw) (hw : wipeE Γw vs = Γw) (hl : items.length ≤ 100000)
    (ev : ∀ d ∈ items, ∀ ψ : Bool → List En → Prop, (∀ Γ3, wipeE Γ3 vs = Γw → (p d = true → ∀ ψ' : En → List En → Prop, (∀ e Γ4, e.frz = some (f d) → wipeE Γ4 vs = Γw → ψ' e Γ4) → de Γ3 ψ') → ψ (p d) Γ3) → dg d Γw fun Γ2 => dtt Γ2 ψ)
    (k : φ (.lst ((items.filter p).map f)) Γw) : dLc vs gv di dg dtt de Γ φ := by
  refine ⟨hgv, hdi _ ⟨hl, fun i acc Γ' => Γ' = Γw ∧ acc = ((items.take i).filter p).map f, ⟨hw1, rfl⟩, ?_⟩⟩
  rintro i acc Γ' ⟨rfl, rfl⟩
  refine ⟨fun e => ?_, fun d hd => ?_⟩
  · rw [e, List.take_length]
    exact k
  · rw [hw]
    refine ev d (List.mem_of_getElem? hd) _ fun Γ3 h3 h4 => ?_
    have et : items.take (i + 1) = items.take i ++ [d] := by rw [List.take_add_one, hd]; rfl
    cases hp : p d with
    | true =>
      refine iteT (h4 hp _ fun e Γ4 h1 h2 => wf_of h1 ⟨h2, ?_⟩)
      rw [et, List.filter_append, List.map_append, List.filter_cons_of_pos hp]
      rfl
    | false =>
      refine iteF ⟨h3, ?_⟩
      rw [et, List.filter_append, List.filter_cons_of_neg (by rw [hp]; exact Bool.false_ne_true), List.filter_nil, List.append_nil]
end
end Da

set_option Elab.async false
set_option maxRecDepth 100000
set_option maxHeartbeats 4000000
set_option linter.all false
namespace PySem
open Sem (wp)
section
variable {prog : Program} {w : World} {A : Around} {E : Value → Shared → Prop} {s : Shared} {T : String} {d : Addr} {n : Nat} {P : Nat → Value → Prop} {OK : Heap → Prop}
theorem daTupNew {R1 : Value → Shared → Prop} (S : PySem.W.KdlSrc prog w T d d n P OK) (hh : A.handled = none) (ok : OK s.heap) (hn : n ≤ sizeLine)
    (fin : ∀ (g : Heap) (tk : Nat) (acc : Array Value), (∀ b o, s.heap.get? b = some o → g.get? b = some o) → ItemsOf P acc n → R1 (.ref g.objs.size) { s with heap := g.push { cls := .type "tuple", data := .seq acc }, toks := tk }) :
    codeAny (model prog w) A (.call (.builtin "tuple.__new__") ⟨[.type "tuple", .ref d], []⟩) (wants R1 E) s := by
  apply codeAny_of_tree
  show wpAny _ A.in1 (do
    checkBuiltinCall "tuple.__new__" ⟨[.type "tuple", .ref d], []⟩
    again (.builtin "tuple.__new__" ⟨[.type "tuple", .ref d], []⟩)) _ _ s
  have quiet := plainId_quiet F.plain_tuple_new
  refine wpAny_bind (wpAny_of_eq (F.newCall_tuple_1 _) (wpAny_pure ⟨quiet _, ?_⟩))
  refine codeAny_builtin F.entry_tuple_new ?_
  rw [Around.under_plainId F.plain_tuple_new]
  have f1 := sub_tuple_self
  have f2 := init_tuple_lookup
  have f3 := madeHere_tuple
  have f4 := S.type s ok
  have f5 := S.notTuple
  unfold Builtin.«tuple.__new__»
  generalize hC : collect = CL
  wp_walk using wpAny_typeOf f4
  subst hC
  refine PySem.W.kdu_collect (A := A.in1) S (by simpa using hh) ok hn fun g tk acc kp it => ?_
  refine wpAny_bind (wpAny_pure ?_)
  show wpAny _ _ (Builtin.Tuple.tupleExact acc.toList.toArray >>= fun v => ret v) _ _ _
  unfold Builtin.Tuple.tupleExact
  have sz : acc.toList.toArray.size ≤ sizeLine := by rw [Array.toArray_toList, it.1]; exact hn
  refine wpAny_bind (wpAny_newObj_type ?_ sz)
  rw [Array.toArray_toList]
  exact wpAny_pure (fin g tk acc kp it)
end
end PySem
namespace Da
open PySem PySem.Spec PyProof.Rows L2 RZ HmS
/-- tuple(d), d a dict with int and text keys -/
def rTupK : List V → Hp → VK → Prop := fun xs H Q => ∃ p kvs, xs = [.ref p] ∧ H p = some (.dK kvs) ∧ ∀ q, H q = none → Q (.ref q) (upd H q (.tup (kvs.map fun kv => kV kv.1)))
theorem cl_tupK {X : Cx} (hc : X.calm = true) : CallR X (.type "tuple") rTupK := by
  intro pins s σ H xs us Q I r h
  obtain ⟨p, kvs, rfl, hk, q⟩ := h
  obtain ⟨u, rfl, rx⟩ := vals1 r
  cases rx
  obtain ⟨z, lo, vs, rk, hd⟩ := (show ObjOk X.prog X.w H s.heap p (.dK kvs) from I.hok p _ hk)
  obtain ⟨ep, hat⟩ := hd.dictAt
  have hl : kvs.length = vs.length := Paired.length rk
  have hh : X.A.handled = none := I.ok.hd hc
  refine callType_codes (Q₁ := fun obj s1 => s1.TypeIs obj "tuple" ∧ EP X pins σ Q obj s1) F.called_tuple (F.typeCall_tuple_1 _) F.entry_object_init (daTupNew (PySem.W.kdl_dict (knd := mixKind X.prog X.w) (kvs := vs) (ep := ep) lo) (by simpa using hh) hat (by rw [← hl]; exact z) fun g tk acc kp it => ⟨⟨_, Heap.get?_push_size _ rfl, rfl⟩, ?_⟩) fun obj s1 h1 => ?_
  · have J : Inv X pins σ H { s with heap := g, toks := tk } := I.kept kp
    have len : acc.toList.length = kvs.length := by rw [Array.length_toList, it.1, hl]
    have rel : Vals (kvs.map fun kv => kV kv.1) acc.toList := by
      refine vals_of_at (by rw [List.length_map, len]) fun j x w h1 h2 => ?_
      obtain ⟨k, y, hky, hi⟩ := it.2 j w (by rw [← Array.getElem?_toList]; exact h2)
      have e1 : (kvs.map (·.1))[j]? = some k := by
        rw [KV.keys rk, List.getElem?_map, hky]
        rfl
      have e3 : (kvs.map fun kv => kV kv.1) = (kvs.map (·.1)).map kV := by rw [List.map_map]; rfl
      rw [e3, List.getElem?_map, e1] at h1
      cases h1
      exact keyIs_rel hi
    refine ⟨.ref g.objs.size, _, J.laid (a := g.objs.size) (o := .tup (kvs.map fun kv => kV kv.1)) (t' := tk) (fun b o e => Heap.get?_push_of_some _ e) (Nat.le_refl _) ⟨by rw [List.length_map]; exact z, acc.toList, rel, ?_⟩, rfl, q _ (J.hok.fresh (Nat.le_refl _))⟩
    rw [Array.toArray_toList]
    exact IsTup.new _ _
  · exact ⟨h1.1, F.args_object_init_2 obj _, object_init_meets F.called_tuple.init.lookup F.called_tuple.made (by decide) X.prog X.w X.A.in1 _ s1 ⟨h1.1, rfl, h1.2⟩⟩
def dTupKR (xs : List D) (φ : En → Prop) : Prop := match xs with
  | [.dK ks _] => φ (.d (.tup (ks.map kD)))
  | _ => False
theorem reps_keys {F : Hp} : ∀ ks : List Key, Reps F (ks.map kV) (ks.map kD)
  | [] => .nil
  | .inl i :: r => .cons (.int i) (reps_keys r)
  | .inr i :: r => .cons (.str i) (reps_keys r)
section
variable {K : PySem.W.Frag} [HasT K] {E : XK} {ψ : Value → Prop} {te ta tb tx : TE} {da db dx : DT} {al : TA} {dal : DA}
instance snd_tupK : SndC K rTupK dTupKR := ⟨fun {c F H σ Γ xs ds φ Q} I r h q => by
  match ds, r, h with
  | [.dK ks es], r, h =>
    obtain ⟨x, rfl, rp⟩ := one_of r
    cases rp with
    | @dK a kvs _ _ e ek rs =>
      refine ⟨a, kvs, rfl, I.fh _ _ e, fun p hp => ?_⟩
      obtain ⟨I2, s2, _⟩ := I.new (o := .tup (kvs.map fun kv => kV kv.1)) hp
      refine q _ _ _ _ I2 s2 (Res.d (.tup upd_same ?_)) h
      have e3 : (kvs.map fun kv => kV kv.1) = ks.map kV := by rw [← ek, List.map_map]; rfl
      rw [e3]
      exact reps_keys ks⟩
/-! ### sorted(set(t)), t a tuple of ints -/
theorem firstSorted {ns ms : List Int} (h1 : ns.Pairwise (· < ·)) (h2 : ms.Pairwise (· < ·)) (h : ∀ k, k ∈ ns ↔ k ∈ ms) : ns = ms := by
  induction ns generalizing ms with
  | nil =>
    cases ms with
    | nil => rfl
    | cons m r => exact absurd ((h m).mpr List.mem_cons_self) (by simp)
  | cons n r ih =>
    cases ms with
    | nil => exact absurd ((h n).mp List.mem_cons_self) (by simp)
    | cons m q =>
      rw [List.pairwise_cons] at h1 h2
      have e : n = m := by
        rcases List.mem_cons.mp ((h n).mp List.mem_cons_self) with z | z
        · exact z
        · rcases List.mem_cons.mp ((h m).mpr List.mem_cons_self) with w | w
          · exact w.symm
          · have := h1.1 m w
            have := h2.1 n z
            omega
      subst e
      rw [ih h1.2 h2.2 fun k => ⟨fun hk => ?_, fun hk => ?_⟩]
      · rcases List.mem_cons.mp ((h k).mp (List.mem_cons_of_mem _ hk)) with z | z
        · have := h1.1 k hk
          omega
        · exact z
      · rcases List.mem_cons.mp ((h k).mpr (List.mem_cons_of_mem _ hk)) with z | z
        · have := h2.1 k hk
          omega
        · exact z
def uqI (is : List Int) : Nat := if is.length ≤ 1000 ∧ ∀ k ∈ is, 0 ≤ k ∧ k < 63 then 0 else 64
theorem uq_le {m : Nat} : ∀ {l : List Int}, l.Nodup → (∀ k ∈ l, 0 ≤ k ∧ k < m) → l.length ≤ m := by
  induction m with
  | zero =>
    intro l _ h
    cases l with
    | nil => exact Nat.le_refl _
    | cons a r =>
      have := h a List.mem_cons_self
      omega
  | succ m ih =>
    intro l nd h
    have h1 := ih (l := l.erase (m : Int)) (nd.erase _) fun k hk => by
      obtain ⟨z1, z2⟩ := (List.Nodup.mem_erase_iff nd).mp hk
      have := h k z2
      omega
    have h2 := List.length_erase (a := (m : Int)) (l := l)
    split at h2 <;> omega
theorem uq_ns {w : World} {h : Heap} {a : Addr} {ns : List Int} {c : Nat} (R : SetR w h a (fun j => decide (j ∈ ns)) c) (hc : c ≤ ns.length) (hl : min ns.length (uqI ns) < 64) : c < 64 ∧ ns.length + 1 < scanBound ∧ ns.length ≤ 1000 := by
  unfold uqI at hl
  unfold scanBound
  split at hl
  · rename_i z
    obtain ⟨o, es, ep, t, _, _, _, _, nd, hm, _, _, hn, _⟩ := R
    have := uq_le (m := 63) nd fun k hk => z.2 k (of_decide_eq_true ((hm k).mpr hk))
    rw [List.length_map, Array.length_toList] at this
    omega
  · omega
theorem uq_len {ns : List Int} (hl : min ns.length (uqI ns) < 64) : ns.length + 1 < scanBound := by
  unfold uqI at hl
  unfold scanBound
  split at hl <;> omega
def tSortSetT (K : PySem.W.Frag) (ta : TE) : TE := fun σ H Q => ta σ H fun x H1 => ∃ (l : Addr) (ns : List Int), x = .ref l ∧ SqT K H1 l (ns.map V.int) ∧ min ns.length (uqI ns) < 64 ∧ ∀ (ms : List Int) (p : Addr), ms.Pairwise (· < ·) → (∀ k : Int, k ∈ ms ↔ k ∈ ns) → H1 p = none → Q (.ref p) (upd H1 p (.lst (ms.map V.int)))
theorem pe_sortSetT {X : Cx} {a : Expr} {p p2 q pos : Pos} (hc : X.calm = true) (hg : Gl X "sorted") (hm : X.mg "sorted" = none) (hg2 : Gl X "set") (hm2 : X.mg "set" = none) (ha : PE X a ta)
    (na : starEach [a] X.env = (false, eval a X.env) :: starEach [] X.env := by rfl) (hK : X.K = K := by rfl) : PE X (.Call (.Name "sorted" p) [.Call (.Name "set" p2) [a] [] q] [] pos) (tSortSetT K ta) := by
  subst hK
  refine ⟨fun pins s σ H Q I h => ?_⟩
  have bs : bootBuiltins "sorted" = some (.builtin "sorted") := by decide +kernel
  have bt : bootBuiltins "set" = some (.type "set") := by decide +kernel
  refine Call_ (ld_blt I hg hm bs ?_)
  refine PyProof.Rows.callWith_builtin1 (PyProof.Rows.args_cons ?_ rfl) rfl rfl
  refine Call_ (ld_blt I hg2 hm2 bt ?_)
  refine PyProof.Rows.callWith_type1 (PyProof.Rows.args_cons (thn (ha.run pins s σ H _ I h) fun v s1 ⟨x, H1, I1, r1, q1⟩ => PyProof.Rows.args_nil ?_) na) na rfl
  obtain ⟨l, ns, rfl, hq, hl, q1⟩ := q1
  cases r1
  obtain ⟨its, r, pt, hz⟩ := I1.tuple hq
  have hh := I1.ok.hd hc
  refine call_set_tupI ns hh (show s1.heap.IsTuple l its.toArray from pt) (by simpa using intsAre_vals r) (uq_len hl) fun h' tk c' R hc' hk => ?_
  refine PyProof.Rows.args_nil ?_
  have I2 : Inv X pins σ H1 { s1 with heap := h', toks := tk } := I1.kept hk
  obtain ⟨hl1, _, hl2⟩ := uq_ns R hc' hl
  refine sorted_set (s := { s1 with heap := h', toks := tk }) R hh hl1 fun s' p out c ms k g o hp hgp hi hs hmm hln => ?_
  have hn : H1 p = none := I2.hok.fresh hp
  have hsz : (ms.map V.int).length ≤ sizeLine := by rw [List.length_map, hln, sizeLine_eq]; omega
  have J : Inv X pins σ (upd H1 p (.lst (ms.map V.int))) { ({ s1 with heap := h', toks := tk } : Shared) with heap := s'.heap, gens := s'.gens, drawn := s'.drawn, toks := s'.toks } :=
    I2.call (ch := []) (Un.laid k hp hn) (I2.hok.laid k hp ⟨hsz, out.toList, c, vals_of_ints hi, hgp⟩) (by rw [g]; exact I2.bare) (fun _ z => nomatch z)
  have e : s' = { s1 with heap := s'.heap, gens := s'.gens, drawn := s'.drawn, toks := s'.toks } := by
    obtain ⟨x1, x2, x3, x4, x5⟩ := s'
    have o : x5 = s1.os := o
    subst o
    rfl
  rw [e]
  exact ⟨.ref p, _, J, rfl, q1 ms p hs (fun k => by rw [hmm k]; simp) hn⟩
def dSortSetT (da : DT) : DT := fun Γ φ => da Γ fun e Γ1 => wt e fun xs => ∃ is : List Int, xs = is.map D.int ∧ min is.length (uqI is) < 64 ∧ ∀ ms : List Int, ms.Pairwise (· < ·) → (∀ k : Int, k ∈ ms ↔ k ∈ is) → φ (.lst (ms.map D.int)) Γ1
instance snd_sortSetT [a : Snd K E ψ ta da] : Snd K E ψ (tSortSetT K ta) (dSortSetT da) := ⟨fun {c F H σ Γ φ Q} I eo h q => a.run I eo h fun F1 H1 v e Γ1 I1 s1 r1 h1 => by
  obtain ⟨xs, rfl, is, rfl, hl, h1⟩ := wt_of h1
  cases (show Rep F1 v (.tup (is.map D.int)) from r1.1) with
  | tup e rs =>
    rw [rs.of_ints] at e
    refine ⟨_, is, rfl, SqT.of (I1.fh _ _ e), hl, fun ms p h1' h2 hp => ?_⟩
    obtain ⟨I2, r2⟩ := I1.newL hp (Reps.ints ms)
    exact q _ _ _ _ _ I2 s1 r2 (h1 ms h1' h2)⟩
/-! ### a dict that a slot owns is lent to a def that only reads it -/
mutual
def D.pl : D → Bool
  | .tup xs => pls xs
  | .lst _ => false
  | .dK _ _ => false
  | .dT _ _ => false
  | .ins _ _ _ => false
  | _ => true
def pls : List D → Bool
  | [] => true
  | x :: xs => x.pl && pls xs
end
mutual
theorem Rep.drop {F : Hp} {a : Addr} (ha : ∀ vs, F a ≠ some (.tup vs)) : ∀ {x : D} {v : V}, Rep F v x → x.pl = true → Rep (fun b => if b = a then none else F b) v x
  | .non, _, .non, _ => .non
  | .bl _, _, .bl b, _ => .bl b
  | .int _, _, .int i, _ => .int i
  | .str _, _, .str i, _ => .str i
  | .tup ds, _, .tup (a := b) e r, h => .tup (by
      have : b ≠ a := fun z => by
        rw [z] at e
        exact ha _ e
      show (if b = a then none else F b) = _
      rw [if_neg this]
      exact e) (Reps.dropd ha r h)
theorem Reps.dropd {F : Hp} {a : Addr} (ha : ∀ vs, F a ≠ some (.tup vs)) : ∀ {xs : List D} {vs : List V}, Reps F vs xs → pls xs = true → Reps (fun b => if b = a then none else F b) vs xs
  | [], _, .nil, _ => .nil
  | x :: xs, _, .cons r q, h => by
    unfold pls at h
    rw [Bool.and_eq_true] at h
    exact .cons (Rep.drop ha r h.1) (Reps.dropd ha q h.2)
end
class SndB (K : PySem.W.Frag) [HasT K] (E : XK) (ψ : Value → Prop) (ta : TA) (i : outParam Nat) (den : outParam DA) : Prop where
  run : ∀ {c : Ct K} {F H : Hp} {σ : L2.St} {Γ : List En} {φ : List D → List En → Prop} {Q : List V → Hp → Prop}, Is c F H σ Γ → EOk c E ψ → (∃ ks ds, Γ[i]? = some (.dK ks ds)) → den Γ φ →
    (∀ F' H' vs ds a Γ', Is c F' H' σ Γ' → Same F F' → Reps F' vs ds → σ[i]? = some (some (.ref a)) → φ ds Γ' → Q (vs ++ [.ref a]) H') → ta σ H Q
instance sndb_last (i : Nat) : SndB K E ψ (tCons (tVar i) tNil) i dNil := ⟨fun {c F H σ Γ φ Q} I eo ⟨ks, ds, g⟩ h q => by
  obtain ⟨v, hv, a, kvs, rfl, _⟩ := I.at_ i _ g (fun z => nomatch z)
  exact ⟨_, hv, q F H [] [] a Γ I (Same.refl F) .nil hv h⟩⟩
instance sndb_cons {i : Nat} [s : Snd K E ψ ta da] [sl : SndB K E ψ al i dal] : SndB K E ψ (tCons ta al) i (fun Γ φ => da Γ fun e Γ1 => wf e fun x => (∃ ks ds, Γ1[i]? = some (.dK ks ds)) ∧ dal Γ1 fun xs Γ2 => φ (x :: xs) Γ2) := ⟨fun {c F H σ Γ φ Q} I eo g h q => by
  refine s.frz (φ := fun _ _ => True) (k := fun x Γ1 => (∃ ks ds, Γ1[i]? = some (.dK ks ds)) ∧ dal Γ1 fun xs Γ2 => φ (x :: xs) Γ2) I eo h fun F1 H1 v x Γ1 I1 s1 r1 h1 => ?_
  refine sl.run I1 eo h1.1 h1.2 fun F2 H2 vs xs a Γ2 I2 s2 r2 hv h2 => ?_
  exact q F2 H2 _ _ a Γ2 I2 (s1.trans s2) (.cons (r1.mono s2) r2) hv h2⟩
def dBor (i : Nat) (den : List D → (En → Prop) → (Value → Prop) → Prop) (dal : DA) : DT := fun Γ φ => (∃ ks ds, Γ[i]? = some (.dK ks ds)) ∧ dal Γ fun xs Γ1 => ∃ ks ds, Γ1[i]? = some (.dK ks ds) ∧ den (xs ++ [.dK ks ds]) (fun e => ∃ x, e = .d x ∧ x.pl = true ∧ φ (.d x) Γ1) (fun _ => False)
theorem snd_bor {i : Nat} {den : List D → (En → Prop) → (Value → Prop) → Prop} [sl : SndB K E ψ al i dal] : Snd K E ψ (tCall (spX K den) [] E0 al) (dBor i den dal) := ⟨fun {c F H σ Γ φ Q} I eo h q => by
  refine sl.run I eo h.1 h.2 fun F1 H1 vs xs a Γ1 I1 s1 r1 hv h1 => ?_
  obtain ⟨ks, ds, g, h1⟩ := h1
  obtain ⟨v, hv', a', kvs, ea, fa, h0, ha, ek, rs⟩ := I1.at_ i _ g (fun z => nomatch z)
  rw [hv] at hv'
  cases hv'
  cases ea
  have no : ∀ vs, upd F1 a (.dK kvs) a ≠ some (.tup vs) := fun vs z => by rw [upd_same] at z; cases z
  have sfa : Same F1 (upd F1 a (.dK kvs)) := fun b u e => by rw [upd_ne (ne_of_none e fa)]; exact e
  have fha : Same (upd F1 a (.dK kvs)) H1 := fun b u e => by
    by_cases z : b = a
    · subst z
      rw [upd_same] at e
      cases e
      exact ha
    · rw [upd_ne z] at e
      exact I1.fh b u e
  refine ⟨upd F1 a (.dK kvs), xs ++ [.dK ks ds], fun e => ∃ x, e = .d x ∧ x.pl = true ∧ φ (.d x) Γ1, fun _ => False, fha, fn_upd I1.fn (fun _ z => nomatch z), I1.tb, ?_, h1, ?_, fun _ _ _ _ z => z.elim⟩
  · rw [List.append_nil]
    exact (r1.mono sfa).app (.cons (.dK upd_same ek (rs.mono sfa)) .nil)
  · rintro F' H' v e sf sh tb fh fn nw hh ne ⟨x, rfl, px, hφ⟩
    have hh : Rep F' v x := hh
    have fa' : F' a = some (.dK kvs) := sf _ _ upd_same
    have r2 := hh.drop (a := a) (fun vs z => by rw [fa'] at z; cases z) px
    have sf2 : Same F1 (fun b => if b = a then none else F' b) := fun b u e => by
      have : b ≠ a := ne_of_none e fa
      show (if b = a then none else F' b) = _
      rw [if_neg this]
      exact sf _ _ (sfa _ _ e)
    refine q _ H' v (.d x) Γ1 (I1.growN sf2 sh tb (fun b u e => ?_) (fun b u e => ?_) (fun b u e => ?_)) (s1.trans sf2) (Res.d r2) hφ
    · have e : (if b = a then none else F' b) = some u := e
      split at e
      · cases e
      · exact fh _ _ e
    · have e : (if b = a then none else F' b) = some u := e
      split at e
      · cases e
      · exact fn _ _ e
    · have e : (if b = a then none else F' b) = some u := e
      split at e
      · cases e
      · rename_i z
        rcases nw b u e with w | w
        · rw [upd_ne z] at w
          exact .inl w
        · exact .inr w⟩
end
namespace Bor
scoped instance (priority := 2000) bor {K : PySem.W.Frag} [HasT K] {E : XK} {ψ : Value → Prop} {al : TA} {dal : DA} {i : Nat} {den : List D → (En → Prop) → (Value → Prop) → Prop} [sl : SndB K E ψ al i dal] : Snd K E ψ (tCall (spX K den) [] E0 al) (dBor i den dal) := snd_bor
end Bor
end Da

set_option Elab.async false
set_option maxRecDepth 100000
set_option maxHeartbeats 4000000
set_option linter.all false
namespace Da
open PySem PySem.Spec PyProof.Rows L2 RZ HmS
theorem pe_bmK {X : Cx} {K : PySem.W.Frag} {o e : Expr} {es : List Expr} {to : TE} {t : TA} {name : Str} {apos cpos : Pos} {T id : String} {r : V → List V → Hp → VK → Prop}
    (pa : PlainAttrs T) (slot : Slot T name id) (hty : typeOf (.builtin id) = pure (.type "method_descriptor")) (hm : MtR X id r) (ho : PE X o to) (ha : PA X (e :: es) t)
    (hbase : attributeBase o name X.env (eval o X.env) = eval o X.env := by rfl)
    (hfew : ((backTo cpos (starEach (e :: es) X.env)).all (fun x => !x.1) && (backToKw cpos (keywordEach [] X.env)).all (fun x => x.1.isSome)
      && decide ((e :: es).length + ([] : List Keyword).length + (if ([] : List Keyword).isEmpty then 0 else 1) < 30)) = true := by rfl)
    (hline : (apos.endLine == cpos.line) = true := by rfl) (hs : starEach (e :: es) X.env = (false, eval e X.env) :: starEach es X.env := by rfl) (hplain : (backTo cpos (starEach es X.env)).any (·.1) = false := by rfl)
    (hK : X.K = K := by rfl) : PE X (.Call (.Attribute o name apos) (e :: es) [] cpos) (tBM K T r to t) := hK ▸ pe_bm pa slot hty hm ho ha hbase hfew hline hs hplain
end Da

set_option Elab.async false
set_option maxRecDepth 100000
set_option maxHeartbeats 4000000
set_option linter.all false
namespace Da
open PySem PySem.Spec PyProof.Rows L2 RZ HmS
/-! ### what fits a comparison -/
def D.fitb (k : Nat) (x : D) : Bool := x.flat && (x.py.canLay0 && decide (x.py.depth ≤ k))
theorem fit_of {x : D} {k : Nat} (h : x.fitb k = true) (hk : k ≤ 64) : x.fit = true := by
  unfold D.fitb at h
  unfold D.fit SeqAt.shaped
  rw [Bool.and_eq_true, Bool.and_eq_true, decide_eq_true_eq] at h ⊢
  exact ⟨h.1, h.2.1, Nat.le_trans h.2.2 hk⟩
theorem fitb_mono {x : D} {k m : Nat} (h : x.fitb k = true) (hk : k ≤ m) : x.fitb m = true := by
  unfold D.fitb at h ⊢
  rw [Bool.and_eq_true, Bool.and_eq_true, decide_eq_true_eq] at h ⊢
  exact ⟨h.1, h.2.1, Nat.le_trans h.2.2 hk⟩
theorem fitb_int (i : Int) : (D.int i).fitb 1 = true := by simp [D.fitb, D.flat, D.py, PyData.canLay0, PyData.depth]
theorem fitb_bl (i : Bool) : (D.bl i).fitb 1 = true := by simp [D.fitb, D.flat, D.py, PyData.canLay0, PyData.depth]
theorem fitb_non : (D.non).fitb 1 = true := by simp [D.fitb, D.flat, D.py, PyData.canLay0, PyData.depth]
theorem fitbs {k : Nat} : ∀ {xs : List D}, (∀ x ∈ xs, x.fitb k = true) → flats xs = true ∧ PyData.canLayAll0 (pys xs) = true ∧ PyData.depthAll (pys xs) ≤ k
  | [], _ => ⟨rfl, rfl, Nat.zero_le _⟩
  | x :: r, h => by
    have hx := h x List.mem_cons_self
    obtain ⟨h1, h2, h3⟩ := fitbs fun y hy => h y (List.mem_cons_of_mem _ hy)
    unfold D.fitb at hx
    rw [Bool.and_eq_true, Bool.and_eq_true, decide_eq_true_eq] at hx
    refine ⟨?_, ?_, ?_⟩
    · rw [flats, hx.1, h1]
      rfl
    · rw [pys, PyData.canLayAll0, hx.2.1, h2]
      rfl
    · rw [pys, PyData.depthAll]
      exact Nat.max_le.mpr ⟨hx.2.2, h3⟩
theorem fitb_tup {k : Nat} {xs : List D} (h : ∀ x ∈ xs, x.fitb k = true) : (D.tup xs).fitb (k + 1) = true := by
  obtain ⟨h1, h2, h3⟩ := fitbs h
  unfold D.fitb
  rw [Bool.and_eq_true, Bool.and_eq_true, decide_eq_true_eq]
  refine ⟨by rw [D.flat]; exact h1, by rw [D.py, PyData.canLay0]; exact h2, by rw [D.py, PyData.depth]; omega⟩
theorem fitb_lst {k : Nat} {xs : List D} (h : ∀ x ∈ xs, x.fitb k = true) : (D.lst xs).fitb (k + 1) = true := by
  obtain ⟨h1, h2, h3⟩ := fitbs h
  unfold D.fitb
  rw [Bool.and_eq_true, Bool.and_eq_true, decide_eq_true_eq]
  refine ⟨by rw [D.flat]; exact h1, by rw [D.py, PyData.canLay0]; exact h2, by rw [D.py, PyData.depth]; omega⟩
theorem fitb_tupm {α : Type} {g : α → D} {k : Nat} {l : List α} (h : ∀ a ∈ l, (g a).fitb k = true) : (D.tup (l.map g)).fitb (k + 1) = true := fitb_tup fun x hx => by
  obtain ⟨a, ha, rfl⟩ := List.mem_map.mp hx
  exact h a ha
theorem fitb_lstm {α : Type} {g : α → D} {k : Nat} {l : List α} (h : ∀ a ∈ l, (g a).fitb k = true) : (D.lst (l.map g)).fitb (k + 1) = true := fitb_lst fun x hx => by
  obtain ⟨a, ha, rfl⟩ := List.mem_map.mp hx
  exact h a ha
theorem fit_lay {x : D} (h : x.fit = true) : x.py.canLay0 = true := by
  unfold D.fit SeqAt.shaped at h
  rw [Bool.and_eq_true, Bool.and_eq_true] at h
  exact h.2.1
theorem eqv_self {x : D} (h : x.fit = true) : x.eqv x = true := SeqAt.eqv_refl _ (fit_lay h)
/-! ### alike just where the same: data of numbers, texts, None -/
mutual
def D.strict : D → Bool
  | .non => true
  | .int _ => true
  | .str _ => true
  | .tup xs => stricts xs
  | .lst xs => stricts xs
  | _ => false
def stricts : List D → Bool
  | [] => true
  | x :: r => x.strict && stricts r
end
mutual
theorem eqv_iff : ∀ {x y : D}, x.strict = true → y.strict = true → (x.eqv y = true ↔ x = y)
  | .non, y, _, hy => by
    cases y <;> first | (exact absurd hy Bool.false_ne_true) | simp [D.eqv, D.py, PyData.eqv]
  | .int i, y, _, hy => by
    cases y <;> first | (exact absurd hy Bool.false_ne_true) | simp [D.eqv, D.py, PyData.eqv]
  | .str s, y, _, hy => by
    cases y <;> first | (exact absurd hy Bool.false_ne_true) | simp [D.eqv, D.py, PyData.eqv]
  | .tup xs, y, hx, hy => by
    cases y with
    | tup ys =>
      have hx : stricts xs = true := by rw [D.strict] at hx; exact hx
      have hy : stricts ys = true := by rw [D.strict] at hy; exact hy
      have := eqv_iffs hx hy
      unfold D.eqv
      rw [D.py, D.py, PyData.eqv, this]
      exact ⟨fun e => by rw [e], fun e => by cases e; rfl⟩
    | non => simp [D.eqv, D.py, PyData.eqv]
    | int i => simp [D.eqv, D.py, PyData.eqv]
    | str s => simp [D.eqv, D.py, PyData.eqv]
    | lst xs => simp [D.eqv, D.py, PyData.eqv]
    | _ => exact absurd hy Bool.false_ne_true
  | .lst xs, y, hx, hy => by
    cases y with
    | lst ys =>
      have hx : stricts xs = true := by rw [D.strict] at hx; exact hx
      have hy : stricts ys = true := by rw [D.strict] at hy; exact hy
      have := eqv_iffs hx hy
      unfold D.eqv
      rw [D.py, D.py, PyData.eqv, this]
      exact ⟨fun e => by rw [e], fun e => by cases e; rfl⟩
    | non => simp [D.eqv, D.py, PyData.eqv]
    | int i => simp [D.eqv, D.py, PyData.eqv]
    | str s => simp [D.eqv, D.py, PyData.eqv]
    | tup xs => simp [D.eqv, D.py, PyData.eqv]
    | _ => exact absurd hy Bool.false_ne_true
theorem eqv_iffs : ∀ {xs ys : List D}, stricts xs = true → stricts ys = true → (PyData.eqvAll (pys xs) (pys ys) = true ↔ xs = ys)
  | [], [], _, _ => by simp [pys, PyData.eqvAll]
  | [], _ :: _, _, _ => by simp [pys, PyData.eqvAll]
  | _ :: _, [], _, _ => by simp [pys, PyData.eqvAll]
  | x :: xs, y :: ys, hx, hy => by
    rw [stricts, Bool.and_eq_true] at hx hy
    have h1 := eqv_iff hx.1 hy.1
    have h2 := eqv_iffs hx.2 hy.2
    unfold D.eqv at h1
    rw [pys, pys, PyData.eqvAll, Bool.and_eq_true, h1, h2]
    exact ⟨fun h => by rw [h.1, h.2], fun h => by cases h; exact ⟨rfl, rfl⟩⟩
end
theorem stricts_map {α : Type} {g : α → D} : ∀ {l : List α}, (∀ a ∈ l, (g a).strict = true) → stricts (l.map g) = true
  | [], _ => rfl
  | a :: r, h => by
    rw [List.map_cons, stricts, h a List.mem_cons_self, stricts_map fun b hb => h b (List.mem_cons_of_mem _ hb)]
    rfl
theorem eqv_dec {α : Type} [DecidableEq α] {g : α → D} (st : ∀ a, (g a).strict = true) (inj : ∀ a b, g a = g b → a = b) (a b : α) : (g a).eqv (g b) = decide (a = b) := by
  rw [Bool.eq_iff_iff, decide_eq_true_eq, eqv_iff (st a) (st b)]
  exact ⟨inj a b, fun e => by rw [e]⟩
/-! ### a comprehension without a test, by an invariant -/
theorem dLc_inv {vs gv : List Nat} {di : DA} {dg : D → List En → (List En → Prop) → Prop} {de : DT} {Γ Γ1 : List En} {φ : En → List En → Prop} {items : List D} (I : Nat → List D → List En → Prop) (hgv : (gv.all fun i => vs.contains i) = true) (hdi : ∀ ψ : List D → List En → Prop, ψ items Γ1 → di Γ ψ)
    (hl : items.length ≤ 100000) (i0 : I 0 [] (wipeE Γ1 vs)) (fin : ∀ acc Γ', I items.length acc Γ' → φ (.lst acc) Γ')
    (step : ∀ i d acc Γ', items[i]? = some d → I i acc Γ' → dg d (wipeE Γ' vs) fun Γ2 => de Γ2 fun e Γ4 => wf e fun z => I (i + 1) (acc ++ [z]) (wipeE Γ4 vs)) : dLc vs gv di dg dYes de Γ φ := by
  refine ⟨hgv, hdi _ ⟨hl, I, i0, fun i acc Γ' h => ⟨fun e => fin acc Γ' (by rw [← e]; exact h), fun d hd => step i d acc Γ' hd h⟩⟩⟩
/-! ### the law's own body -/
def spLaw (K : PySem.W.Frag) [HasT K] : Sp := fun vs H Q _ => ∃ (a : Addr) (ns : List Int), vs = [.ref a] ∧ TbOk K H ∧ SqL K H a (ns.map V.int) ∧ ns.length ≤ 63 ∧ ∀ H', Q (.bl true) H'
def stS (N : List Str) (ns : List Int) : List En := .scr ns :: List.replicate (N.length - 1) .no
def poL : Po := ⟨fun _ => False, fun e => e = .d (.bl true), fun _ => False, fun _ => False⟩
theorem _root_.L2.SqL.nt {K : PySem.W.Frag} {H : Hp} {a : Addr} {xs : List V} (h : SqL K H a xs) : SqL K (ntH H) a xs :=
  h.elim (fun h => .inl (h.elim (fun h => .inl (ntH_of h fun _ z => nomatch z)) fun ⟨o, h⟩ => .inr ⟨o, ntH_of h fun _ z => nomatch z⟩)) fun h => .inr h
theorem bodyS {K : PySem.W.Frag} [HasT K] {t : TS} {dt : DSt} {N : List Str} {H : Hp} {Q : VK} {a : Addr} {ns : List Int} [s : SndS K E0 (fun _ => False) t dt] (tb : TbOk K H) (hS : SqL K H a (ns.map V.int)) (q : ∀ H', Q (.bl true) H') (hd : dt (stS N ns) poL) :
    t { nx := fun _ H' => Q .non H', rt := Q } (L2.start N [.ref a]) H := by
  have I : Is (⟨fun _ => none, ntH H, none, some (a, ns), fun a' ns' e => by cases e; exact ⟨hS.nt, fun z => nomatch z⟩⟩ : Ct K) (fun _ => none) H (L2.start N [.ref a]) (stS N ns) := by
    have low : ∀ (i : Nat) (e : En), (stS N ns)[i]? = some e → e ≠ .no → i = 0 ∧ e = .scr ns := fun i e g n => by
      cases i with
      | zero => cases g; exact ⟨rfl, rfl⟩
      | succ i =>
        have g : (List.replicate (N.length - 1) En.no)[i]? = some e := by simpa [stS] using g
        exact absurd (List.mem_replicate.mp (List.mem_of_getElem? g)).2 n
    refine ⟨Same.refl _, (fun b o e => nomatch e), (fun b o e => nomatch e), (fun b o _ e => (ntH_some e).1), (fun p e => nomatch e), ?_, fun i e g n => ?_, fun i j b e e' v v' ij g g' s s' o o' => ?_, (fun b o e => nomatch e), tb, (fun b o e => (ntH_some e).2)⟩
    · unfold L2.start stS
      simp only [List.map_cons, List.map_nil, List.length_append, List.length_cons, List.length_nil, List.length_replicate]
      omega
    · obtain ⟨rfl, rfl⟩ := low i e g n
      exact ⟨.ref a, rfl, a, rfl, rfl⟩
    · obtain ⟨_, rfl⟩ := low i e g (adr_no o)
      exact o.elim
  refine s.run I (fun _ _ _ _ _ z => z) hd ⟨fun _ _ _ _ _ z => z.elim, fun F' H' σ' Γ' v e I hh n z => ?_, fun _ _ _ _ _ z => z.elim, fun _ _ _ _ _ z => z.elim⟩
  have z : e = .d (.bl true) := z
  subst z
  cases (show Rep F' v (.bl true) from hh)
  exact q H'
theorem wf_d (x : D) (k : D → Prop) : wf (.d x) k = k x := rfl
theorem wf_l (xs : List D) (k : D → Prop) : wf (.lst xs) k = k (.lst xs) := rfl
theorem wb_b (b : Bool) (k : Bool → Prop) : wb (.d (.bl b)) k = k b := rfl
theorem wi_i (i : Int) (k : Int → Prop) : wi (.d (.int i)) k = k i := rfl
theorem wt_t (xs : List D) (k : List D → Prop) : wt (.d (.tup xs)) k = k xs := rfl
theorem wl_l (xs : List D) (k : List D → Prop) : wl (.lst xs) k = k xs := rfl
theorem wl_d (xs : List D) (k : List D → Prop) : wl (.d (.lst xs)) k = k xs := rfl
theorem tupR_t (xs : List D) (φ : En → Prop) : dTupR [.tup xs] φ = φ (.d (.tup xs)) := rfl
theorem tupR_l (xs : List D) (φ : En → Prop) : dTupR [.lst xs] φ = φ (.d (.tup xs)) := rfl
theorem lstR_t (xs : List D) (φ : En → Prop) : dListR [.tup xs] φ = φ (.lst xs) := rfl
theorem lstR_l (xs : List D) (φ : En → Prop) : dListR [.lst xs] φ = φ (.lst xs) := rfl
end Da

set_option Elab.async false
set_option maxRecDepth 100000
set_option maxHeartbeats 4000000
set_option linter.all false
namespace Da
open PySem PySem.Spec PyProof.Rows L2 RZ HmS
/-! ### set(xs), xs a list of ints, with its order known; sorted of it -/
/-- an empty set, as it is made -/
abbrev noSet (w : World) : Obj := { cls := .type "set", dict := none, data := .set #[] 0 (.fresh 0 0 (!w.params.followText "set-order")) }
theorem not_in2 {a b c : Addr} (h1 : a ≠ b) (h2 : a ≠ c) : a ∉ [b, c] := fun h => by
  rcases List.mem_cons.mp h with z | z
  · exact h1 z
  · exact h2 (List.mem_singleton.mp z)
section
variable {P : Program} {w : World} {A : Around} {E : Value → Shared → Prop} {s : Shared}
set_option maxHeartbeats 8000000 in
theorem call_setL {l : Addr} {us : Array Value} (ns : List Int) {Q : Value → Shared → Prop} (nh : A.handled = none) (il : s.heap.IsList l us) (iu : IntsAre us.toList ns) (room : ns.length + 1 < scanBound)
    (q : ∀ (g : Heap) (tk c : Nat), SetR w g s.heap.objs.size (fun j => decide (j ∈ ns)) c → c ≤ ns.length → (∀ b o, s.heap.get? b = some o → g.get? b = some o) → Q (.ref s.heap.objs.size) { s with heap := g, toks := tk }) :
    wpAny (model P w) A (call (.type "set") [.ref l]) Q E s := by
  have zu : us.size = ns.length := (Array.length_toList).symm.trans (IntsAre.length iu)
  obtain ⟨mc, mt, mr⟩ := F.called_set.mro
  have mk1 := F.called_set.made
  have mk2 := F.called_set.sub
  refine wpAny_call (codeAny_of_tree (by
    show wpAny _ _ (callAny (.type "set") _) _ _ _
    refine wpAny_pure ⟨Code.quiet_builtin _ (by decide +kernel), codeAny_builtin F.entry_type_call ?_⟩
    rw [Around.under_plain (weight_type_call_type "set" [.ref l] []) rfl]
    have nt := F.called_set.notType
    have cc := F.called_set.canCreate
    have tc := F.typeCall_set_1 (.ref l)
    repeat (any_goals (first | assumption | wp_step))
    refine codeAny_mono (code_set_led1 (.ref l) (E := E) (Q₁ := fun x t => x = .ref s.heap.objs.size ∧ t = { s with heap := s.heap.push (noSet w) }) ⟨rfl, rfl⟩) fun r t hr => ?_
    match r, hr with
    | .error e, hr => exact hr
    | .ok (.ret x), hr =>
      obtain ⟨rfl, rfl⟩ := hr
      have g0 : (s.heap.push (noSet w)).get? s.heap.objs.size = some (noSet w) := Heap.get?_push_size _ rfl
      have ty : Shared.TypeIs { s with heap := s.heap.push (noSet w) } (.ref s.heap.objs.size) "set" := ⟨_, g0, rfl⟩
      have lk1 := F.called_set.init.lookup
      have bd1 := F.called_set.init.bind (.ref s.heap.objs.size)
      repeat (any_goals (first | assumption | wp_step))
      refine codeAny_mono (codeAny_call_builtin (R := wants (fun x t => x = .none ∧ ∃ g tk c, t = { s with heap := g, toks := tk } ∧ SetR w g s.heap.objs.size (fun j => decide (j ∈ ns)) c ∧ c ≤ ns.length ∧ ∀ b o, s.heap.get? b = some o → g.get? b = some o) E) F.called_set.init.plain F.entry_set_init (check_set_init_1 ty ?_)) fun r2 t2 h2 => ?_
      · obtain ⟨⟨lc, ld, lx, ls⟩, ol, e1, n1, e2⟩ := il
        simp only at e1 e2
        subst e1
        subst e2
        have ol2 := Heap.get?_push_of_some (h := s.heap) (noSet w) ol
        have f1 := F.sub_list_set
        have f2 := F.sub_list_frozenset
        have f3 : (Value.type "list" == Value.type "dict") = false := by decide
        have il2 : (s.heap.push (noSet w)).IsList l us := ⟨_, ol2, rfl, n1, rfl⟩
        unfold Builtin.«set.__init__» noKeywords Builtin.Frozenset.updateFrom
        generalize hPI : pyIter = PI
        wp_walk
        subst hPI
        refine wpAny_pyIter_list il2 (wpAny_bind (wpAny_runValue ?_))
        have lt : l < s.heap.objs.size := Heap.lt_size ol
        have sz : (s.heap.push (noSet w)).objs.size = s.heap.objs.size + 1 := Heap.size_push ..
        have nh3 : A.in1.in1.in1.handled = none := by simp [nh]
        have ne1 : l ≠ (s.heap.push (noSet w)).objs.size := fun z => Nat.lt_irrefl _ (Nat.lt_of_lt_of_le (z ▸ lt) (sz ▸ Nat.le_succ _))
        have nin : s.heap.objs.size ∉ [(s.heap.push (noSet w)).objs.size, l] := not_in2 (fun z => Nat.lt_irrefl s.heap.objs.size (by rw [sz] at z; exact absurd z (Nat.ne_of_lt (Nat.lt_succ_self _)))) (fun z => Nat.lt_irrefl _ (z ▸ lt))
        have vals : ∀ (i : Nat) (v : Value), us[i]? = some v → ∃ k t, ns[i]? = some k ∧ v = .int k t := fun i v hv => by
          have li : i < ns.length := zu ▸ (Array.getElem?_eq_some_iff.mp hv).1
          have gi := List.getElem?_eq_getElem li
          obtain ⟨t, et⟩ := PyProof.Rows.IntsAre.int_at iu i v (Array.getElem?_toList ▸ hv)
          rw [List.getD_eq_getElem?_getD, gi] at et
          exact ⟨_, t, gi, et⟩
        refine set_update_ints ((Walks.list nh3 _ l ne1 us).toS) s.heap.objs.size nin ns zu room vals (us.size - 0) 0 _ (by omega) (Nat.zero_le _) ⟨⟨_, Heap.get?_push_size _ rfl, rfl, rfl⟩, (il2.push _)⟩ ⟨0, Nat.le_refl 0, setR_new_at (Heap.get?_push_of_some _ g0)⟩ fun t3 c m3 c3 R3 => ?_
        obtain ⟨g3, x1, x2, x3, x4⟩ := t3
        have q1 : x1 = s.gens := m3.gens
        have q2 : x2 = s.drawn := m3.drawn
        have q3 : x4 = s.os := m3.os
        subst q1
        subst q2
        subst q3
        show wpAny _ _ _ _ _ _
        refine wpAny_pure ?_
        show wpAny _ _ (ret Value.none) _ _ _
        refine wpAny_pure ⟨rfl, g3, x3, c, rfl, R3, zu ▸ c3, fun b o eb => ?_⟩
        have lb := Heap.lt_size eb
        exact m3.heap b o (fun hb => by
          rcases List.mem_cons.mp hb with z | z
          · exact Nat.ne_of_lt lb z
          · have z := List.mem_singleton.mp z
            rw [sz] at z
            exact Nat.ne_of_lt (Nat.lt_succ_of_lt lb) z) (Heap.get?_push_of_some _ (Heap.get?_push_of_some _ eb))
      · match r2, h2 with
        | .error e, h2 => exact h2
        | .ok (.ret x), h2 =>
          obtain ⟨rfl, g, tk, c, rfl, R, c1, kp⟩ := h2
          repeat (any_goals (first | assumption | wp_step))
          exact q g tk c R c1 kp))
end
end Da

set_option Elab.async false
set_option maxRecDepth 100000
set_option maxHeartbeats 4000000
set_option linter.all false
namespace Da
open PySem PySem.Spec PyProof.Rows L2 RZ HmS
def tSortSetL (K : PySem.W.Frag) (ta : TE) : TE := fun σ H Q => ta σ H fun x H1 => ∃ (l : Addr) (ns : List Int), x = .ref l ∧ SqL K H1 l (ns.map V.int) ∧ ns.length < 64 ∧ ∀ (ms : List Int) (p : Addr), ms.Pairwise (· < ·) → (∀ k : Int, k ∈ ms ↔ k ∈ ns) → H1 p = none → Q (.ref p) (upd H1 p (.lst (ms.map V.int)))
theorem pe_sortSetL {X : Cx} {K : PySem.W.Frag} {ta : TE} {a : Expr} {p p2 q pos : Pos} (hc : X.calm = true) (hg : Gl X "sorted") (hm : X.mg "sorted" = none) (hg2 : Gl X "set") (hm2 : X.mg "set" = none) (ha : PE X a ta)
    (na : starEach [a] X.env = (false, eval a X.env) :: starEach [] X.env := by rfl) (hK : X.K = K := by rfl) : PE X (.Call (.Name "sorted" p) [.Call (.Name "set" p2) [a] [] q] [] pos) (tSortSetL K ta) := by
  subst hK
  refine ⟨fun pins s σ H Q I h => ?_⟩
  have bs : bootBuiltins "sorted" = some (.builtin "sorted") := by decide +kernel
  have bt : bootBuiltins "set" = some (.type "set") := by decide +kernel
  refine Call_ (ld_blt I hg hm bs ?_)
  refine PyProof.Rows.callWith_builtin1 (PyProof.Rows.args_cons ?_ rfl) rfl rfl
  refine Call_ (ld_blt I hg2 hm2 bt ?_)
  refine PyProof.Rows.callWith_type1 (PyProof.Rows.args_cons (thn (ha.run pins s σ H _ I h) fun v s1 ⟨x, H1, I1, r1, q1⟩ => PyProof.Rows.args_nil ?_) na) na rfl
  obtain ⟨l, ns, rfl, hq, hl, q1⟩ := q1
  cases r1
  obtain ⟨its, r, pt, hz⟩ := I1.list hq
  have hh := I1.ok.hd hc
  refine call_setL ns hh pt.isList (by simpa using intsAre_vals r) (by unfold scanBound; omega) fun h' tk c' R hc' hk => ?_
  refine PyProof.Rows.args_nil ?_
  have I2 : Inv X pins σ H1 { s1 with heap := h', toks := tk } := I1.kept hk
  refine sorted_set (s := { s1 with heap := h', toks := tk }) R hh (by omega) fun s' p out c ms k g o hp hgp hi hs hmm hln => ?_
  have hn : H1 p = none := I2.hok.fresh hp
  have hsz : (ms.map V.int).length ≤ sizeLine := by rw [List.length_map, hln, sizeLine_eq]; omega
  have J : Inv X pins σ (upd H1 p (.lst (ms.map V.int))) { ({ s1 with heap := h', toks := tk } : Shared) with heap := s'.heap, gens := s'.gens, drawn := s'.drawn, toks := s'.toks } :=
    I2.call (ch := []) (Un.laid k hp hn) (I2.hok.laid k hp ⟨hsz, out.toList, c, vals_of_ints hi, hgp⟩) (by rw [g]; exact I2.bare) (fun _ z => nomatch z)
  have e : s' = { s1 with heap := s'.heap, gens := s'.gens, drawn := s'.drawn, toks := s'.toks } := by
    obtain ⟨x1, x2, x3, x4, x5⟩ := s'
    have o : x5 = s1.os := o
    subst o
    rfl
  rw [e]
  exact ⟨.ref p, _, J, rfl, q1 ms p hs (fun k => by rw [hmm k]; simp) hn⟩
def dSortSetL (da : DT) : DT := fun Γ φ => da Γ fun e Γ1 => wl e fun xs => ∃ is : List Int, xs = is.map D.int ∧ is.length < 64 ∧ ∀ ms : List Int, ms.Pairwise (· < ·) → (∀ k : Int, k ∈ ms ↔ k ∈ is) → φ (.lst (ms.map D.int)) Γ1
section
variable {K : PySem.W.Frag} [HasT K] {E : XK} {ψ : Value → Prop} {ta : TE} {da : DT}
instance snd_sortSetL [a : Snd K E ψ ta da] : Snd K E ψ (tSortSetL K ta) (dSortSetL da) := ⟨fun {c F H σ Γ φ Q} I eo h q => a.run I eo h fun F1 H1 v e Γ1 I1 s1 r1 h1 => by
  obtain ⟨F2, p, vs, xs, rfl, I2, s2, ep, rs, is, rfl, hl, h2⟩ := r1.frzL I1 h1
  rw [rs.of_ints] at ep
  refine ⟨p, is, rfl, SqL.of (I2.fh _ _ ep), hl, fun ms p h1' h2' hp => ?_⟩
  obtain ⟨I3, r3⟩ := I2.newL hp (Reps.ints ms)
  exact q _ _ _ _ _ I3 (s1.trans s2) r3 (h2 ms h1' h2')⟩
end
end Da

set_option Elab.async false
set_option maxRecDepth 100000
set_option maxHeartbeats 4000000
set_option linter.all false
namespace Da
open PySem PySem.Spec PyProof.Rows L2 RZ HmS
/-! ### t[::-1], t a tuple -/
theorem range_pick {α : Type} : ∀ l : List α, (List.range l.length).filterMap (fun k => l[k]?) = l
  | [] => rfl
  | a :: r => by
    rw [List.length_cons, List.range_succ_eq_map, List.filterMap_cons, List.filterMap_map]
    show a :: (List.range r.length).filterMap (fun k => r[k]?) = a :: r
    rw [range_pick r]
theorem fmap_eq {α β : Type} {f g : α → Option β} : ∀ {l : List α}, (∀ a ∈ l, f a = g a) → l.filterMap f = l.filterMap g
  | [], _ => rfl
  | a :: r, h => by rw [List.filterMap_cons, List.filterMap_cons, h a List.mem_cons_self, fmap_eq fun b hb => h b (List.mem_cons_of_mem _ hb)]
theorem pick_back (us : Array Value) : ((List.range us.size).filterMap fun (k : Nat) => us[(((us.size : Int) - 1) + (k : Int) * (-1)).toNat]?) = us.toList.reverse := by
  have e := range_pick us.toList.reverse
  rw [List.length_reverse, Array.length_toList] at e
  refine Eq.trans (fmap_eq fun k hk => ?_) e
  have hk := List.mem_range.mp hk
  rw [List.getElem?_reverse (by rw [Array.length_toList]; exact hk), Array.length_toList, Array.getElem?_toList]
  congr 1
  omega
theorem adjust_back (n : Nat) : Builtin.Slice.sliceAdjust none none (-1) (n : Int) = ((n : Int) - 1, -1) := rfl
theorem places_back (n : Nat) : Builtin.Slice.slicePlaces ((n : Int) - 1) (-1) (-1) = n := by
  unfold Builtin.Slice.slicePlaces
  rw [if_neg (by decide)]
  by_cases z : n = 0
  · subst z
    rfl
  · rw [if_pos (by omega)]
    have : ((n : Int) - 1 - -1 - 1) / - -1 + 1 = n := by
      rw [show (- -1 : Int) = 1 by decide, Int.ediv_one]
      omega
    rw [this]
    exact Int.toNat_natCast n
section
variable {P : Program} {w : World} {A : Around} {E : Value → Shared → Prop} {s : Shared}
theorem applied_back {sl : Addr} {vl vu vs : Value} {n : Nat} {Q : Int × Int × Nat → Shared → Prop} (hs : s.heap.IsSliceOf sl vl vu vs) (pl : IsPart vl none) (pu : IsPart vu none) (ps : IsPart vs (some (-1)))
    (q : Q ((n : Int) - 1, -1, n) s) : wpAny (model P w) A (Builtin.Slice.sliceApplied (.ref sl) (pure (n : Int))) Q E s := by
  obtain ⟨o, ho, _, hd⟩ := hs
  unfold Builtin.Slice.sliceApplied Builtin.Slice.sliceFields
  refine wpAny_bind (wpAny_bind (wpAny_field ho hd (x := vl) rfl (wpAny_bind (wpAny_field ho hd (x := vu) rfl (wpAny_bind (wpAny_field ho hd (x := vs) rfl (wpAny_pure ?_)))))))
  refine wpAny_bind (HT.slicePart_ ps ?_)
  show wpAny _ _ (if ((-1 : Int) == 0) = true then _ else _) _ _ s
  rw [if_neg (by decide)]
  refine wpAny_bind (HT.slicePart_ pl (wpAny_bind (HT.slicePart_ pu (wpAny_bind (wpAny_pure ?_)))))
  show wpAny _ _ (pure ((n : Int) - 1, (-1 : Int), Builtin.Slice.slicePlaces ((n : Int) - 1) (-1) (-1))) _ _ s
  rw [places_back]
  exact wpAny_pure q
theorem getItem_back {t sl : Addr} {us : Array Value} {vl vu vs : Value} {Q : Value → Shared → Prop} (ht : IsTup s.heap t us) (hs : s.heap.IsSliceOf sl vl vu vs) (pl : IsPart vl none) (pu : IsPart vu none) (ps : IsPart vs (some (-1)))
    (q : Q (.ref s.heap.objs.size) { s with heap := s.heap.push { cls := .type "tuple", data := .seq us.toList.reverse.toArray } }) (hz : us.size ≤ sizeLine) : wpAny (model P w) A (getItem (.ref t) (.ref sl)) Q E s := by
  have fits : sizeOk (.seq us.toList.reverse.toArray) := by
    show us.toList.reverse.toArray.size ≤ sizeLine
    rw [List.size_toArray, List.length_reverse, Array.length_toList]
    exact hz
  have hs' := hs
  obtain ⟨o, ho, hc, hd⟩ := hs'
  have ts : s.TypeIs (.ref sl) "slice" := ⟨o, ho, hc⟩
  unfold getItem
  try with_reducible refine wpAny_holding ?_
  first | refine wpAny_bind (wpAny_pure ?_) | skip
  refine wpAny_bind (wpAny_sequenceKey ht.typeIs (by decide) ?_)
  refine wpAny_bind (wpAny_callSpecial?_slot (name := Str.ofString "__getitem__") ht.typeIs PyProof.Rows.slot_tuple_getitem (wpAny_call_entry PyProof.Rows.slot_tuple_getitem ht.typeIs PyProof.Rows.entry_tuple_getitem ?_ (PyProof.Rows.args_tuple_getitem _ _)))
  show wpAny _ _ (Builtin.Tuple.tupleItemsOf (.ref t) >>= _) _ _ s
  refine wpAny_bind (PyProof.Rows.tupleItemsOf_ ht (wpAny_bind (wpAny_typeOf ts ?_)))
  rw [if_pos (by decide)]
  refine wpAny_bind (applied_back hs pl pu ps ?_)
  have no : ¬ ((((us.size : Int) - 1) == 0 && (-1 : Int) == 1 && us.size == us.size) = true) := fun z => by
    rw [Bool.and_eq_true, Bool.and_eq_true] at z
    exact absurd (eq_of_beq z.1.2) (by decide)
  show wpAny _ _ (if (((us.size : Int) - 1) == 0 && (-1 : Int) == 1 && us.size == us.size) = true then _ else _) _ _ s
  rw [if_neg no, pick_back]
  first
    | exact wpAny_bind (m := Builtin.Tuple.tupleExact _) (wpAny_newObj_type (wpAny_pure ⟨_, rfl, wpAny_pure q⟩) fits)
    | exact wpAny_bind (m := Builtin.Tuple.tupleExact _) (wpAny_newObj_type (wpAny_bind (wpAny_pure (wpAny_pure ⟨_, rfl, wpAny_pure q⟩))) fits)
    | exact wpAny_bind (wpAny_bind (m := Builtin.Tuple.tupleExact _) (wpAny_newObj_type (wpAny_pure (wpAny_pure ⟨_, rfl, wpAny_pure q⟩)) fits))
    | exact wpAny_bind (wpAny_bind (m := Builtin.Tuple.tupleExact _) (wpAny_newObj_type (wpAny_pure ⟨_, rfl, wpAny_pure q⟩) fits))
end
end Da

set_option Elab.async false
set_option maxRecDepth 100000
set_option maxHeartbeats 4000000
set_option linter.all false
namespace Da
open PySem PySem.Spec PyProof.Rows L2 RZ HmS
def tRevT (K : PySem.W.Frag) (te : TE) : TE := fun σ H Q => te σ H fun x H1 => ∃ a xs, x = .ref a ∧ SqT K H1 a xs ∧ ∀ p, H1 p = none → Q (.ref p) (upd H1 p (.tup xs.reverse))
theorem pe_revT {X : Cx} {K : PySem.W.Frag} {te : TE} {e : Expr} {j : Nat} {p1 p2 p3 pos : Pos} (he : PE X e te) (hK : X.K = K := by rfl) : PE X (.Subscript e (.Slice none none (some (.UnaryOp .USub (.Constant (.int 1) j p1) p2)) p3) pos) (tRevT K te) := by
  subst hK
  have back : PO X (some (.UnaryOp .USub (.Constant (.int 1) j p1) p2)) (tPart (tUn (rU fun i => .int (-i)) (tC (.int 1)))) := po_some (pe_un un_neg pe_int)
  refine ⟨fun pins s σ H Q I h => Subscript_ (thn (he.run pins s σ H _ I h) fun v s1 ⟨x, H1, I1, r1, a, xs, ex, hx, q⟩ => ?_)⟩
  subst ex
  cases r1
  refine wpAny_Slice (thn (po_none.run pins s1 σ H1 (fun o G => o = none ∧ G = H1) I1 ⟨rfl, rfl⟩) fun vl s2 ⟨_, _, I2, pl, e1, e2⟩ => ?_)
  subst e1
  subst e2
  refine thn (po_none.run pins s2 σ _ (fun o G => o = none ∧ G = _) I2 ⟨rfl, rfl⟩) fun vu s3 ⟨_, _, I3, pu, e1, e2⟩ => ?_
  subst e1
  subst e2
  refine thn (back.run pins s3 σ _ (fun o G => o = some (-1) ∧ G = _) I3 ⟨1, rfl, -1, rfl, rfl, rfl⟩) fun vs s4 ⟨_, H4, I4, ps, e1, e2⟩ => ?_
  subst e1
  subst e2
  have I5 := I4.kept (t' := s4.toks) (h' := s4.heap.push { cls := .type "slice", data := .fields #[vl, vu, vs] }) fun b ob q => Heap.get?_push_of_some _ q
  obtain ⟨its, r, ht, hz⟩ := I5.tuple hx
  show wpAny (model X.prog X.w) X.A (subscriptTail e (.Slice none none (some (.UnaryOp .USub (.Constant (.int 1) j p1) p2)) p3) (.ref a) (.ref s4.heap.objs.size)) (EP X pins σ Q) X.xe { s4 with heap := s4.heap.push { cls := .type "slice", data := .fields #[vl, vu, vs] } }
  refine tail_any (ops := [.ref a, .ref s4.heap.objs.size]) ht.typeIs (PyProof.Rows.slot_tuple_getitem.lookup) ?_ (by with_unfolding_all rfl)
  refine getItem_back ht (Heap.IsSliceOf.new _ vl vu vs) pl pu ps ?_ (by rw [List.size_toArray, ← r.length]; exact hz)
  refine ⟨.ref _, _, I5.laid (t' := s4.toks) (o := .tup xs.reverse) (fun b ob q => Heap.get?_push_of_some _ q) (Nat.le_refl _) ?_, rfl, q _ (I5.hok.fresh (Nat.le_refl _))⟩
  exact ⟨by rw [List.length_reverse]; exact hz, _, r.reverse, IsTup.new _ _⟩
section
variable {K : PySem.W.Frag} [HasT K] {E : XK} {ψ : Value → Prop} {te ta tb : TE} {da db : DT} {al : TA} {dal : DA}
theorem Reps.rev {F : Hp} {vs : List V} {ds : List D} (r : Reps F vs ds) : Reps F vs.reverse ds.reverse := by
  induction r using Reps.rec (motive_1 := fun _ _ _ => True) with
  | nil => exact .nil
  | cons a b _ ih =>
    rw [List.reverse_cons, List.reverse_cons]
    exact ih.snoc a
  | _ => trivial
def dRevT (da : DT) : DT := fun Γ φ => da Γ fun e Γ1 => wt e fun xs => φ (.d (.tup xs.reverse)) Γ1
instance snd_revT [a : Snd K E ψ ta da] : Snd K E ψ (tRevT K ta) (dRevT da) := ⟨fun {c F H σ Γ φ Q} I eo h q => a.run I eo h fun F1 H1 v e Γ1 I1 s1 r1 h1 => by
  obtain ⟨xs, rfl, h1⟩ := wt_of h1
  cases (show Rep F1 v (.tup xs) from r1.1) with
  | @tup p vs _ e rs =>
    refine ⟨p, vs, rfl, SqT.of (I1.fh _ _ e), fun l hl => ?_⟩
    obtain ⟨I2, s2, _⟩ := I1.new (o := .tup vs.reverse) hl
    exact q _ _ _ _ Γ1 I2 (s1.trans s2) (Res.d (.tup upd_same (rs.rev.mono s2))) h1⟩
/-! ### {'k': e} -/
def dDisp1 (z : Str) (da : DT) : DT := fun Γ φ => da Γ fun e Γ1 => wf e fun x => φ (.dK [.inr z] [x]) Γ1
instance snd_disp1 {z : Str} [s : Snd K E ψ ta da] : Snd K E ψ (tDisp [(tC (.str z), ta)]) (dDisp1 z da) := ⟨fun {c F H σ Γ φ Q} I eo h q => by
  intro p hp
  have pn : c.pn ≠ some p := fun w => (I.pp p w).2.1.there hp
  have f0 : c.F0 p = none := I.f0.free (I.unF hp)
  have fr : Free c F σ Γ p := ⟨I.unF hp, I.un hp, pn, I.fresh hp⟩
  have I' := (I.newH (o := .dK []) hp).guard fr upd_same
  refine s.frz (φ := fun _ _ => True) (k := fun x Γ1 => φ (.dK [.inr z] [x]) Γ1) I' eo.guard h fun F1 H1 v x Γ1 I1 s1 rp h1 => ?_
  have g1 := I1.guarded pn
  have f1 := I1.freed pn f0 (fun vs z => nomatch z)
  refine ⟨g1, [(.inr z, v)], rfl, by simp, ?_⟩
  have e : mergeK [] [((.inr z : Key), v)] = [(.inr z, v)] := rfl
  rw [e]
  exact q F1 _ (.ref p) (.dK [.inr z] [x]) Γ1 ((I1.unguard pn).chg f1 g1 (plain_dK _) (fun vs z => nomatch z)) s1 ⟨⟨p, [(.inr z, v)], rfl, f1.f, f1.h0, upd_same, rfl, .cons rp .nil⟩, (fun w => nomatch w), fun a ea => by cases ea; exact f1.sl⟩ h1⟩
/-! ### texts -/
def rStrI : List V → Hp → VK → Prop := fun xs H Q => ∃ i, xs = [.int i] ∧ i.natAbs.log2 < 1920 ∧ Q (.str (toString i)) H
theorem cl_strI {X : Cx} : CallR X (.type "str") rStrI := call_str_int
def dStrIR (xs : List D) (φ : En → Prop) : Prop := match xs with
  | [.int i] => i.natAbs.log2 < 1920 ∧ φ (.d (.str (toString i)))
  | _ => False
instance snd_strI : SndC K rStrI dStrIR := ⟨fun {c F H σ Γ xs ds φ Q} I r h q => by
  match ds, r, h with
  | [.int i], r, h =>
    obtain ⟨x, rfl, rp⟩ := one_of r
    cases rp
    exact ⟨i, rfl, h.1, q F H _ _ I (Same.refl F) (Res.d (.str _)) h.2⟩⟩
def rAddS : R2 := fun x y H Q => ∃ i j, x = .str i ∧ y = .str j ∧ i.length + j.length ≤ sizeLine ∧ Q (.str (i ++ j)) H
theorem op_addS {X : Cx} : OpR X (binaryOp .Add) rAddS := op_add_str
def dAddS (x y : D) (φ : En → Prop) : Prop := match x, y with
  | .str i, .str j => i.length + j.length ≤ 1000000 ∧ φ (.d (.str (i ++ j)))
  | _, _ => False
instance snd_addS : SndR K rAddS dAddS := ⟨fun {c F H σ Γ x y d e φ Q} I rx ry h q => by
  match d, e, rx, ry, h with
  | .str i, .str j, .str _, .str _, h => exact ⟨i, j, rfl, rfl, Nat.le_trans h.1 (by decide), q F H _ _ I (Same.refl F) (Res.d (.str _)) h.2⟩⟩
def dSlS (da : DT) (dl dh : List En → (Option Int → List En → Prop) → Prop) : DT := fun Γ φ => da Γ fun e Γ1 => wf e fun x => dl Γ1 fun lo Γ2 => dh Γ2 fun hi Γ3 => match x with
  | .str z => z.length ≤ 1000000 ∧ φ (.d (.str (cutS z lo hi))) Γ3
  | _ => False
instance snd_slS {tl th : TO} {dl dh : List En → (Option Int → List En → Prop) → Prop} [sa : Snd K E ψ ta da] [sl : SndO K E ψ tl dl] [sh : SndO K E ψ th dh] : Snd K E ψ (tSl rSlS ta tl th) (dSlS da dl dh) := ⟨fun {c F H σ Γ φ Q} I eo h q => by
  refine sa.frz (φ := fun _ _ => True) (k := fun x Γ1 => dl Γ1 fun lo Γ2 => dh Γ2 fun hi Γ3 => match x with
  | .str z => z.length ≤ 1000000 ∧ φ (.d (.str (cutS z lo hi))) Γ3
  | _ => False) I eo h fun F1 H1 v x Γ1 I1 s1 r1 h1 => ?_
  refine sl.run I1 eo h1 fun F2 H2 lo Γ2 I2 s2 h2 => ?_
  refine sh.run I2 eo h2 fun F3 H3 hi Γ3 I3 s3 h3 => ?_
  cases x with
  | str z =>
    cases r1
    exact ⟨z, rfl, Nat.le_trans h3.1 (by decide), q F3 H3 _ _ Γ3 I3 ((s1.trans s2).trans s3) (Res.d (.str _)) h3.2⟩
  | _ => exact h3.elim⟩
def rUpS : V → List V → Hp → VK → Prop := fun x xs H Q => ∃ a, x = .str a ∧ xs = [] ∧ a.length ≤ 5592405 ∧ Q (.str (Txt.upper a)) H
def dUpS (da : DT) : DT := fun Γ φ => da Γ fun e Γ1 => wf e fun x => match x with
  | .str a => a.length ≤ 1000000 ∧ φ (.d (.str (Txt.upper a))) Γ1
  | _ => False
instance snd_upS [s : Snd K E ψ ta da] : Snd K E ψ (tM0 rUpS ta) (dUpS da) := ⟨fun {c F H σ Γ φ Q} I eo h q => by
  refine s.frz (φ := fun _ _ => True) (k := fun x Γ1 => match x with
  | .str a => a.length ≤ 1000000 ∧ φ (.d (.str (Txt.upper a))) Γ1
  | _ => False) I eo h fun F1 H1 v x Γ1 I1 s1 r1 h1 => ?_
  cases x with
  | str a =>
    cases r1
    exact ⟨⟨a, rfl⟩, a, rfl, rfl, by have := h1.1; omega, q F1 H1 _ _ Γ1 I1 s1 (Res.d (.str _)) h1.2⟩
  | _ => exact h1.elim⟩
/-! ### min(xs, default=d) -/
def rMinDef (K : PySem.W.Frag) : List V → List V → Hp → VK → Prop := fun vs zs H Q => ∃ (a : Addr) (xs : List V) (d : V) (ds : List PyData), vs = [.ref a] ∧ zs = [d] ∧ SqL K H a xs ∧ DpAll K H xs ds ∧ PySem.W.AlikeAll ds ∧ PyData.depthAll ds ≤ 60 ∧
  (ds = [] → Q d H) ∧ ∀ (x : PyData) (es : List PyData), ds = x :: es → ∀ (i : Nat) v, xs[i]? = some v → ds[i]? = some (PySem.W.minD x es) → Q v H
theorem cr_minDef {X : Cx} (hc : X.calm = true) (hu : X.A.units + 64 < cLine) : CallRK X (.builtin "min") [Str.ofString "default"] (rMinDef X.K) := by
  intro pins s σ H vs zs us ws Q I r rz h
  obtain ⟨a, xs, d, ds, rfl, rfl, hs, hd, al, dp, q0, q⟩ := h
  obtain rfl := Vals.ref1 r
  obtain ⟨wd, rfl, ed⟩ := vals1 rz
  obtain ⟨its, rv, pl, _⟩ := I.list hs
  obtain ⟨as, rd⟩ := Dp.readsAll I ds xs its hd rv
  refine PySem.W.min_list_default (vs := its.toArray) (I.ok.hd hc) pl.isList (by simpa using rd) al (by omega) (fun e h' tk hk => ⟨d, H, I.kept hk, ed, q0 e⟩) fun x es i v h' tk bs e hv hr hk => ?_
  have hv : its[i]? = some v := by simpa using hv
  obtain ⟨w, hw, rw1⟩ := vals_get rv hv
  obtain ⟨d2, hd1, dp1⟩ := dpAll_get hd hw
  obtain ⟨as2, rd2⟩ := Dp.reads I d2 w v dp1 rw1
  have e2 := (PyProof.Rows.reads_det (fun b o e _ => hk b o e) rd2 hr).1
  exact ⟨w, H, I.kept hk, rw1, q x es e i w hw (by rw [e2]; exact hd1)⟩
def dMinDefR (xs : List D) (d : D) (φ : En → Prop) : Prop := match xs with
  | [.lst []] => φ (.d d)
  | [.lst (x :: ds)] => dMinR [.lst (x :: ds)] φ
  | _ => False
def dMinDef (da db : DT) : DT := fun Γ φ => da Γ fun e Γ1 => wf e fun x => db Γ1 fun e' Γ2 => wf e' fun d => dMinDefR [x] d fun z => φ z Γ2
instance snd_minDef [sa : Snd K E ψ ta da] [sb : Snd K E ψ tb db] : Snd K E ψ (tCKw (rMinDef K) (tCons ta tNil) (tCons tb tNil)) (dMinDef da db) := ⟨fun {c F H σ Γ φ Q} I eo h q => by
  refine sa.frz (φ := fun _ _ => True) (k := fun x Γ1 => db Γ1 fun e' Γ2 => wf e' fun d => dMinDefR [x] d fun z => φ z Γ2) I eo h fun F1 H1 v x Γ1 I1 s1 r1 h1 => ?_
  refine sb.frz (φ := fun _ _ => True) (k := fun d Γ2 => dMinDefR [x] d fun z => φ z Γ2) I1 eo h1 fun F2 H2 u d Γ2 I2 s2 r2 h2 => ?_
  have r1' := r1.mono s2
  cases x with
  | lst xs =>
    cases r1' with
    | @lst a vs _ e rs =>
      cases xs with
      | nil =>
        cases rs
        exact ⟨a, [], u, [], rfl, rfl, SqL.of (I2.fh _ _ e), .nil, ⟨by simp, by simp⟩, by simp [PyData.depthAll], fun _ => q F2 H2 _ _ Γ2 I2 (s1.trans s2) (Res.d r2) h2, fun x es z => nomatch z⟩
      | cons x es =>
        obtain ⟨h1, h3, h4, h5⟩ := h2
        refine ⟨a, vs, u, pys (x :: es), rfl, rfl, SqL.of (I2.fh _ _ e), rs.dp I2.fh h1, h3, h4, (fun z => by simp [pys] at z), fun y ys e1 i v hv hm => ?_⟩
        obtain ⟨w, hy, rpy⟩ := rs.getV hv
        obtain ⟨z, hz, ez⟩ := pys_get (ds := x :: es) (i := i) hm
        rw [hy] at hz
        cases hz
        rw [pys] at e1
        cases e1
        exact q F2 H2 v _ Γ2 I2 (s1.trans s2) (Res.d rpy) (h5 w (List.mem_of_getElem? hy) ez)
  | _ => exact h2.elim⟩
end
end Da

set_option Elab.async false
set_option maxRecDepth 100000
set_option maxHeartbeats 4000000
set_option linter.all false
namespace Da
open PySem PySem.Spec PyProof.Rows L2 RZ HmS
theorem pe_upS {X : Cx} {o : Expr} {to : TE} {apos pos : Pos} (ho : PE X o to) (hbase : attributeBase o "upper" X.env (eval o X.env) = eval o X.env := by rfl) (hline : (apos.endLine == pos.line) = true := by rfl) :
    PE X (.Call (.Attribute o "upper" apos) [] [] pos) (tM0 rUpS to) := pe_upper ho hbase hline
/-! ### things of whatever kind, as the laws make them -/
mutual
def D.good : D → Bool
  | .tup xs => goods xs && decide (xs.length ≤ 100)
  | .lst xs => goods xs && decide (xs.length ≤ 100)
  | .dK _ xs => goods xs
  | .dT _ _ => false
  | .ins _ _ _ => false
  | .str s => decide (s.length ≤ 1000)
  | _ => true
def goods : List D → Bool
  | [] => true
  | x :: r => x.good && goods r
end
theorem good_ty {x : D} (h : x.good = true) : x.ty.isSome = true := by
  cases x <;> first | rfl | exact absurd h Bool.false_ne_true
theorem goods_mem : ∀ {xs : List D}, goods xs = true → ∀ x ∈ xs, x.good = true
  | [], _, x, h => by simp at h
  | y :: r, g, x, h => by
    rw [goods, Bool.and_eq_true] at g
    rcases List.mem_cons.mp h with z | z
    · rw [z]
      exact g.1
    · exact goods_mem g.2 x z
theorem goods_of : ∀ {xs : List D}, (∀ x ∈ xs, x.good = true) → goods xs = true
  | [], _ => rfl
  | y :: r, h => by
    rw [goods, h y List.mem_cons_self, goods_of fun x hx => h x (List.mem_cons_of_mem _ hx)]
    rfl
theorem good_tup {xs : List D} (h : ∀ x ∈ xs, x.good = true) (l : xs.length ≤ 100) : (D.tup xs).good = true := by
  rw [D.good, goods_of h, Bool.true_and]
  exact decide_eq_true l
theorem good_lst {xs : List D} (h : ∀ x ∈ xs, x.good = true) (l : xs.length ≤ 100) : (D.lst xs).good = true := by
  rw [D.good, goods_of h, Bool.true_and]
  exact decide_eq_true l
theorem tup_good {xs : List D} (h : (D.tup xs).good = true) : (∀ x ∈ xs, x.good = true) ∧ xs.length ≤ 100 := by
  rw [D.good, Bool.and_eq_true, decide_eq_true_eq] at h
  exact ⟨goods_mem h.1, h.2⟩
/-- what is spoilt: numbers, texts, tuples of them, of depth below n -/
def D.base : Nat → D → Bool
  | _, .int i => decide (i.natAbs < 2 ^ 40)
  | _, .str s => decide (s.length ≤ 100) && (D.str s).fitb 1
  | n + 1, .tup xs => decide (xs.length ≤ 40) && xs.all fun x => D.base n x
  | _, _ => false
theorem base_good : ∀ {n : Nat} {x : D}, x.base n = true → x.good = true
  | n, .int i, _ => rfl
  | n, .str s, h => by
    cases n <;> (simp only [D.base, Bool.and_eq_true, decide_eq_true_eq] at h; rw [D.good, decide_eq_true_eq]; omega)
  | n + 1, .tup xs, h => by
    simp only [D.base, Bool.and_eq_true, decide_eq_true_eq, List.all_eq_true] at h
    exact good_tup (fun x hx => base_good (h.2 x hx)) (by omega)
  | 0, .tup xs, h => by simp [D.base] at h
  | n, .non, h => by cases n <;> simp [D.base] at h
  | n, .bl b, h => by cases n <;> simp [D.base] at h
  | n, .lst xs, h => by cases n <;> simp [D.base] at h
  | n, .dK ks xs, h => by cases n <;> simp [D.base] at h
  | n, .dT ks xs, h => by cases n <;> simp [D.base] at h
  | n, .ins C ns xs, h => by cases n <;> simp [D.base] at h
theorem base_fit : ∀ {n : Nat} {x : D}, x.base n = true → x.fitb (n + 1) = true
  | n, .int i, _ => fitb_mono (fitb_int i) (by omega)
  | n, .str s, h => by
    have : (D.str s).fitb 1 = true := by cases n <;> (simp only [D.base, Bool.and_eq_true] at h; exact h.2)
    exact fitb_mono this (by omega)
  | n + 1, .tup xs, h => by
    simp only [D.base, Bool.and_eq_true, decide_eq_true_eq, List.all_eq_true] at h
    exact fitb_tup fun x hx => base_fit (h.2 x hx)
  | 0, .tup xs, h => by simp [D.base] at h
  | n, .non, h => by cases n <;> simp [D.base] at h
  | n, .bl b, h => by cases n <;> simp [D.base] at h
  | n, .lst xs, h => by cases n <;> simp [D.base] at h
  | n, .dK ks xs, h => by cases n <;> simp [D.base] at h
  | n, .dT ks xs, h => by cases n <;> simp [D.base] at h
  | n, .ins C ns xs, h => by cases n <;> simp [D.base] at h
theorem base_tup {n : Nat} {xs : List D} (h : (D.tup xs).base n = true) : ∃ m, n = m + 1 ∧ xs.length ≤ 40 ∧ ∀ x ∈ xs, x.base m = true := by
  cases n with
  | zero => simp [D.base] at h
  | succ m =>
    simp only [D.base, Bool.and_eq_true, decide_eq_true_eq, List.all_eq_true] at h
    exact ⟨m, rfl, h.1, h.2⟩
end Da

set_option Elab.async false
set_option maxRecDepth 100000
set_option maxHeartbeats 4000000
set_option linter.all false
namespace Da
open PySem PySem.Spec PyProof.Rows L2 RZ HmS
/-! ### small steps of reading -/
theorem dVarW {i : Nat} {Γ : List En} {x : D} {k : D → List En → Prop} (g : Γ[i]? = some (.d x)) (h : k x Γ) : dVar i Γ (fun e Γ1 => wf e fun x => k x Γ1) := by
  unfold dVar
  rw [g]
  exact h
theorem dVarL {i : Nat} {Γ Γ' : List En} {xs : List D} {k : D → List En → Prop} (g : Γ[i]? = some (.lst xs)) (e : Γ.set i (.d (.lst xs)) = Γ') (h : k (.lst xs) Γ') : dVar i Γ (fun e Γ1 => wf e fun x => k x Γ1) := by
  unfold dVar
  rw [g]
  subst e
  exact h
theorem ifJ {b : Bool} {dt : DSt} {Γ Γ0 : List En} {N : List En → Prop} {rt : En → Prop} {bk ct : List En → Prop} (R : List En → Prop) (h2 : b = false → R Γ0) (h1 : b = true → ∀ P : Po, (∀ Γ, R Γ → P.nx Γ) → dt Γ P) (tail : ∀ Γ, R Γ → N Γ) :
    if b = true then dt Γ ⟨N, rt, bk, ct⟩ else N Γ0 := by
  cases b with
  | true => exact iteT (h1 rfl _ tail)
  | false => exact iteF (tail _ (h2 rfl))
/-- the inner part of a comprehension without a test, once its items are known -/
theorem lcP {vs : List Nat} {dg : D → List En → (List En → Prop) → Prop} {de : DT} {Γ1 Γw : List En} {φ : En → List En → Prop} {items : List D} (f : D → D)
    (hw1 : wipeE Γ1 vs = Γw) (hw : wipeE Γw vs = Γw) (hl : items.length ≤ 100000) (ev : ∀ d ∈ items, ∀ ψ : En → List En → Prop, (∀ e Γ4, e.frz = some (f d) → wipeE Γ4 vs = Γw → ψ e Γ4) → dg d Γw fun Γ2 => de Γ2 ψ)
    (k : φ (.lst (items.map f)) Γw) : items.length ≤ 100000 ∧ ∃ I : Nat → List D → List En → Prop, I 0 [] (wipeE Γ1 vs) ∧
  ∀ i acc Γ', I i acc Γ' → (i = items.length → φ (.lst acc) Γ') ∧ ∀ d, items[i]? = some d → dg d (wipeE Γ' vs) fun Γ2 => dYes Γ2 fun b Γ3 => if b = true then de Γ3 fun e Γ4 => wf e fun z => I (i + 1) (acc ++ [z]) (wipeE Γ4 vs) else I (i + 1) acc (wipeE Γ3 vs) := by
  have h := dLc_pure (vs := vs) (gv := []) (di := fun Γ ψ => ψ items Γ) (dg := dg) (de := de) (Γ := Γ1) (φ := φ) f rfl (fun ψ h => h) hw1 hw hl ev k
  exact h.2
theorem lcF {vs : List Nat} {dg : D → List En → (List En → Prop) → Prop} {dtt : DB} {de : DT} {Γ1 Γw : List En} {φ : En → List En → Prop} {items : List D} (p : D → Bool) (f : D → D)
    (hw1 : wipeE Γ1 vs = Γw) (hw : wipeE Γw vs = Γw) (hl : items.length ≤ 100000)
    (ev : ∀ d ∈ items, ∀ ψ : Bool → List En → Prop, (∀ Γ3, wipeE Γ3 vs = Γw → (p d = true → ∀ ψ' : En → List En → Prop, (∀ e Γ4, e.frz = some (f d) → wipeE Γ4 vs = Γw → ψ' e Γ4) → de Γ3 ψ') → ψ (p d) Γ3) → dg d Γw fun Γ2 => dtt Γ2 ψ)
    (k : φ (.lst ((items.filter p).map f)) Γw) : items.length ≤ 100000 ∧ ∃ I : Nat → List D → List En → Prop, I 0 [] (wipeE Γ1 vs) ∧
  ∀ i acc Γ', I i acc Γ' → (i = items.length → φ (.lst acc) Γ') ∧ ∀ d, items[i]? = some d → dg d (wipeE Γ' vs) fun Γ2 => dtt Γ2 fun b Γ3 => if b = true then de Γ3 fun e Γ4 => wf e fun z => I (i + 1) (acc ++ [z]) (wipeE Γ4 vs) else I (i + 1) acc (wipeE Γ3 vs) := by
  have h := dLc_filt (vs := vs) (gv := []) (di := fun Γ ψ => ψ items Γ) (dg := dg) (dtt := dtt) (de := de) (Γ := Γ1) (φ := φ) p f rfl (fun ψ h => h) hw1 hw hl ev k
  exact h.2
/-- an if without else that is followed by more -/
theorem seqIf {dtt : DB} {dt du : DSt} {Γ : List En} {P : Po} (R : List En → Prop) (main : ∀ N : List En → Prop, (∀ Γ', R Γ' → N Γ') → dtt Γ fun b Γ1 => if b = true then dt Γ1 { P with nx := N } else N Γ1) (tail : ∀ Γ', R Γ' → du Γ' P) : dSeq (dIfS dtt dt dNext) du Γ P :=
  main (fun Γ' => du Γ' P) tail
/-- the items are known by what is said of them alone -/
theorem dLc_pureE {vs gv : List Nat} {di : DA} {dg : D → List En → (List En → Prop) → Prop} {de : DT} {Γ Γ1 Γw : List En} {φ : En → List En → Prop} (R : List D → Prop) (f : D → D) (hgv : (gv.all fun i => vs.contains i) = true) (hdi : ∀ ψ : List D → List En → Prop, (∀ items, R items → ψ items Γ1) → di Γ ψ)
    (hw1 : wipeE Γ1 vs = Γw) (hw : wipeE Γw vs = Γw) (hl : ∀ items, R items → items.length ≤ 100000) (ev : ∀ items, R items → ∀ d ∈ items, ∀ ψ : En → List En → Prop, (∀ e Γ4, e.frz = some (f d) → wipeE Γ4 vs = Γw → ψ e Γ4) → dg d Γw fun Γ2 => de Γ2 ψ)
    (k : ∀ items, R items → φ (.lst (items.map f)) Γw) : dLc vs gv di dg dYes de Γ φ :=
  ⟨hgv, hdi _ fun items r => lcP f hw1 hw (hl items r) (ev items r) (k items r)⟩
theorem dLc_filtE {vs gv : List Nat} {di : DA} {dg : D → List En → (List En → Prop) → Prop} {dtt : DB} {de : DT} {Γ Γ1 Γw : List En} {φ : En → List En → Prop} (R : List D → Prop) (p : D → Bool) (f : D → D) (hgv : (gv.all fun i => vs.contains i) = true) (hdi : ∀ ψ : List D → List En → Prop, (∀ items, R items → ψ items Γ1) → di Γ ψ)
    (hw1 : wipeE Γ1 vs = Γw) (hw : wipeE Γw vs = Γw) (hl : ∀ items, R items → items.length ≤ 100000)
    (ev : ∀ items, R items → ∀ d ∈ items, ∀ ψ : Bool → List En → Prop, (∀ Γ3, wipeE Γ3 vs = Γw → (p d = true → ∀ ψ' : En → List En → Prop, (∀ e Γ4, e.frz = some (f d) → wipeE Γ4 vs = Γw → ψ' e Γ4) → de Γ3 ψ') → ψ (p d) Γ3) → dg d Γw fun Γ2 => dtt Γ2 ψ)
    (k : ∀ items, R items → φ (.lst ((items.filter p).map f)) Γw) : dLc vs gv di dg dtt de Γ φ :=
  ⟨hgv, hdi _ fun items r => lcF p f hw1 hw (hl items r) (ev items r) (k items r)⟩
end Da

set_option Elab.async false
set_option maxRecDepth 100000
set_option maxHeartbeats 4000000
set_option linter.all false
namespace Da
open PySem PySem.Spec PyProof.Rows L2 RZ HmS
/-! ### == and != beside [] and (), whatever the parts are -/
def rEqE (K : PySem.W.Frag) (neg : Bool) : R2 := fun x y H Q => ∃ (a b : Addr) (xs : List V), x = .ref a ∧ y = .ref b ∧ ((SqL K H a xs ∧ SqL K H b []) ∨ (SqT K H a xs ∧ SqT K H b [])) ∧ Q (.bl (if neg then !xs.isEmpty else xs.isEmpty)) H
section
variable {X : Cx}
theorem op_eqE (hu : X.A.units + 64 < cLine) : OpR X (compareOp .Eq) (rEqE X.K false) := by
  intro pins s σ H x y v u Q I rx ry h
  obtain ⟨a, b, xs, rfl, rfl, hs, q⟩ := h
  cases rx
  cases ry
  have h0 : X.A.units < cLine := by omega
  rcases hs with ⟨h1, h2⟩ | ⟨h1, h2⟩
  · obtain ⟨its, r1, ⟨o1, n1, e1, c1, _, d1⟩, _⟩ := I.list h1
    obtain ⟨jts, r2, ⟨o2, n2, e2, c2, _, d2⟩, _⟩ := I.list h2
    cases r2
    cases r1 with
    | nil => exact SeqAt.RcAt.lists ⟨o1, e1, c1, n1, d1⟩ ⟨o2, e2, c2, n2, d2⟩ rfl h0 (e := fun _ => true) (fun j hj => absurd hj (by simp)) X.prog X.w _ _ ⟨.bl _, H, I, rfl, q⟩
    | cons r rr => exact SeqAt.RcAt.lists_lengths ⟨o1, e1, c1, n1, d1⟩ ⟨o2, e2, c2, n2, d2⟩ (by simp) h0 X.prog X.w _ _ ⟨.bl _, H, I, rfl, q⟩
  · obtain ⟨its, r1, ⟨o1, e1, c1, n1, d1⟩, _⟩ := I.tuple h1
    obtain ⟨jts, r2, ⟨o2, e2, c2, n2, d2⟩, _⟩ := I.tuple h2
    cases r2
    refine SeqAt.RcAt.tuples ⟨o1, e1, c1, n1, d1⟩ ⟨o2, e2, c2, n2, d2⟩ h0 (e := fun _ => true) (fun j _ hj => absurd hj (by simp)) X.prog X.w _ _ ?_
    cases r1 with
    | nil => exact ⟨.bl true, H, I, by rfl, q⟩
    | cons r rr => exact ⟨.bl false, H, I, by simp [L2.RelV], q⟩
theorem op_neE (hu : X.A.units + 64 < cLine) : OpR X (compareOp .NotEq) (rEqE X.K true) := by
  intro pins s σ H x y v u Q I rx ry h
  obtain ⟨a, b, xs, rfl, rfl, hs, q⟩ := h
  cases rx
  cases ry
  have h0 : X.A.units < cLine := by omega
  rcases hs with ⟨h1, h2⟩ | ⟨h1, h2⟩
  · obtain ⟨its, r1, ⟨o1, n1, e1, c1, _, d1⟩, _⟩ := I.list h1
    obtain ⟨jts, r2, ⟨o2, n2, e2, c2, _, d2⟩, _⟩ := I.list h2
    cases r2
    cases r1 with
    | nil => exact SeqAt.RcNeAt.lists ⟨o1, e1, c1, n1, d1⟩ ⟨o2, e2, c2, n2, d2⟩ rfl h0 (e := fun _ => true) (fun j hj => absurd hj (by simp)) X.prog X.w _ _ ⟨.bl _, H, I, rfl, q⟩
    | cons r rr => exact SeqAt.RcNeAt.lists_lengths ⟨o1, e1, c1, n1, d1⟩ ⟨o2, e2, c2, n2, d2⟩ (by simp) h0 X.prog X.w _ _ ⟨.bl _, H, I, rfl, q⟩
  · obtain ⟨its, r1, ⟨o1, e1, c1, n1, d1⟩, _⟩ := I.tuple h1
    obtain ⟨jts, r2, ⟨o2, e2, c2, n2, d2⟩, _⟩ := I.tuple h2
    cases r2
    refine SeqAt.RcNeAt.tuples ⟨o1, e1, c1, n1, d1⟩ ⟨o2, e2, c2, n2, d2⟩ h0 (e := fun _ => true) (fun j _ hj => absurd hj (by simp)) X.prog X.w _ _ ?_
    cases r1 with
    | nil => exact ⟨.bl false, H, I, by rfl, q⟩
    | cons r rr => exact ⟨.bl true, H, I, by simp [L2.RelV], q⟩
end
def dEqE (neg : Bool) (x y : D) (φ : En → Prop) : Prop := match x, y with
  | .lst xs, .lst [] => φ (.d (.bl (if neg then !xs.isEmpty else xs.isEmpty)))
  | .tup xs, .tup [] => φ (.d (.bl (if neg then !xs.isEmpty else xs.isEmpty)))
  | _, _ => False
section
variable {K : PySem.W.Frag} [HasT K]
theorem Reps.empty {F : Hp} {vs : List V} {ds : List D} (r : Reps F vs ds) : vs.isEmpty = ds.isEmpty := by cases r <;> rfl
instance snd_eqE (neg : Bool) : SndR K (rEqE K neg) (dEqE neg) := ⟨fun {c F H σ Γ x y d e φ Q} I rx ry h q => by
  match d, e, rx, ry, h with
  | .lst xs, .lst [], @Rep.lst _ a vs _ e1 r1, @Rep.lst _ b us _ e2 r2, h =>
    cases r2
    refine ⟨a, b, vs, rfl, rfl, .inl ⟨SqL.of (I.fh _ _ e1), SqL.of (I.fh _ _ e2)⟩, ?_⟩
    rw [r1.empty]
    exact q F H _ _ I (Same.refl F) (Res.d (.bl _)) h
  | .tup xs, .tup [], @Rep.tup _ a vs _ e1 r1, @Rep.tup _ b us _ e2 r2, h =>
    cases r2
    refine ⟨a, b, vs, rfl, rfl, .inr ⟨SqT.of (I.fh _ _ e1), SqT.of (I.fh _ _ e2)⟩, ?_⟩
    rw [r1.empty]
    exact q F H _ _ I (Same.refl F) (Res.d (.bl _)) h⟩
end
end Da

set_option Elab.async false
set_option maxRecDepth 100000
set_option maxHeartbeats 4000000
set_option linter.all false
namespace Da
open PySem PySem.Spec PyProof.Rows L2 RZ HmS
/-! ### defs that are called where nothing is being shown -/
structure FnG (P : Program) (w : World) (K : PySem.W.Frag) (mg : Str → Option Value) (base : Heap) (k : Nat) (f : Addr) (fd : FuncData) (ps : List Str) (sp : Sp) : Prop where
  ln : ∀ vs H Q E, sp vs H Q E → vs.length = ps.length
  go : ∀ (A : Around) (outer : List Env) (s : Shared) (H : Hp) (args : Args) (us : List Value) (vs : List V) (Q : VK) (E : XK), A.guards = some [] → Room k A → Env0 P w K mg base A outer s H → BindsTo s fd args (ps.zip us) → Vals vs us → sp vs H Q E →
    codeAny (model P w) A (.call (.ref f) args) (CR CX0 outer P w H s Q E) s
section
variable {P : Program} {w : World} {K : PySem.W.Frag} [HasT K] {mg : Str → Option Value} {base : Heap}
theorem guards_deeper {A : Around} {env : Env} (h : A.guards = some []) : (A.deeper env).guards = some [] := h
theorem okG {x qual : Str} {st : Stmt} {f : Addr} {fd : FuncData} {N ps : List Str} {k : Nat} {sp : Sp} (F : Fun K x qual st f fd) (S : FnScope N ps (defScope st)) (len : ∀ vs H Q E, sp vs H Q E → vs.length = ps.length)
    (hb : ∀ (cdv : Value) (A : Around) (outer : List Env) (s : Shared) (H : Hp) (vs : List V) (Q : VK) (E : XK), Room k (A.deeper (envOfC qual (defScope st) s.heap.objs.size f cdv)) → (A.deeper (envOfC qual (defScope st) s.heap.objs.size f cdv)).guards = some [] → sp vs H Q E →
      ∃ t, PSs (cxOf CX0 P w K mg base N qual (defScope st) f cdv A outer s H E).nox (defBody st) t ∧ t { nx := fun _ H' => Q .non H', rt := Q } (start N vs) H) : FnG P w K mg base (k + 1) f fd ps sp := by
  obtain ⟨oc, od, kV, doc, pm, an, cdv, ct, osl, rfl, lk, hcd⟩ := F.ex
  constructor
  · exact len
  intro A outer s H args us vs Q E hg hr e0 hbd rv hsp
  have inH : K.In s.heap := e0.mod.kin.keeps (fun b o e => (e0.bs b o e).1)
  have nl : s.heap.NoLimit := e0.mod.nolimit.keeps (fun b o e => (e0.bs b o e).1)
  have kinds : ∀ y ∈ ps.zip us, (defScope st).names.lookup y.1 = some .local ∨ ((defScope st).names.lookup y.1 = some .cell ∧ ((cellsFrom (s.heap.objs.size + 1) (defScope st).names []).lookup y.1).isSome = true) := by
    rintro ⟨n, v⟩ hy
    exact (S.par n (List.of_mem_zip hy).1).imp id fun q => ⟨q, PySem.W.cellsFrom_some _ _ _ (.inl q)⟩
  apply codeAny_call_function hr.depth (inH _ _ lk) rfl S.co S.gen rfl (PySem.W.codeRec_of inH hcd) (hbd _ _ _ _ ?_)
  apply wpAny_newFunctionEnv_cells S.kind kinds
  intro env he s1 x
  subst he
  constructor
  · exact nl.keeps x.toInCall.keep
  apply codeAny_func
  obtain ⟨t, ht, hq⟩ := hb cdv A outer s H vs Q E (hr.deeper _) (guards_deeper hg) hsp
  have I := inv_start (E := E) (mg := mg) (CX := CX0) (qual := qual) S hr.hd e0 (len _ _ _ _ hsp) rv x
  apply wpAny_mono (ht.nox.run [] s1 (start N vs) H _ I hq)
  · intro fl s' hs
    cases fl with
    | ret u => obtain ⟨v, σ', H', J, r, q⟩ := hs; exact ⟨v, H', J.os, J.bare, J.base, J.hok, r, q⟩
    | next => obtain ⟨σ', H', J, q⟩ := hs; exact ⟨V.non, H', J.os, J.bare, J.base, J.hok, rfl, q⟩
    | brk => obtain ⟨_, _, _, q⟩ := hs; exact q.elim
    | cont => obtain ⟨_, _, _, q⟩ := hs; exact q.elim
  · exact fun e s' hs => hs
end
section
variable {X : Cx} {x : Str} {f : Addr} {fd : FuncData} {ps : List Str} {k : Nat} {sp : Sp} {ds : List Value} {dvs : List V} {E : XK} {p pos : Pos} {e : Expr} {es : List Expr} {t : TA}
theorem runG {pins : List (Addr × Obj)} {σ : L2.St} {H : Hp} {s : Shared} {Q : VK} {us : List Value} {vs : List V} (F : FnG X.prog X.w X.K X.mg X.base k f fd ps sp) (hG : X.A.guards = some []) (hr : Room k X.A) (hb : Binds X.K fd ps ds) (hd : Vals dvs ds)
    (I : Inv X pins σ H s) (r : Vals vs us) (h : sp (vs ++ dvs) H Q E) : wpAny (model X.prog X.w) X.A (call (.ref f) us) (EP X pins σ Q) X.xe s := by
  have r2 : Vals (vs ++ dvs) (us ++ ds) := r.append hd
  have hl : (us ++ ds).length = ps.length := r2.length.symm.trans (F.ln _ _ _ _ h)
  apply wpAny_call (codeAny_mono (F.go X.A X.stack s H ⟨us, []⟩ (us ++ ds) (vs ++ dvs) Q E hG hr I.env0 (hb s us I.kIn hl) r2 h) _)
  intro r s' hq
  match r, hq with
  | .error e, hq => exact False.elim hq
  | .ok (.ret u), hq => exact I.after hq
  | .ok .next, hq => exact False.elim hq
  | .ok .brk, hq => exact False.elim hq
  | .ok .cont, hq => exact False.elim hq
theorem pe_callG (F : FnG X.prog X.w X.K X.mg X.base k f fd ps sp) (hG : X.A.guards = some []) (hr : Room k X.A) (hg : Gl X x) (hm : X.mg x = some (.ref f)) (hk : PySem.W.keepIn X.K (.ref f) = true) (hb : Binds X.K fd ps ds) (hd : Vals dvs ds)
    (ha : PA X (e :: es) t) (hdb : (x == ("__debug__" : Str)) = false := by decide) (he : starEach (e :: es) X.env = (false, eval e X.env) :: starEach es X.env := by rfl) (hpl : (backTo pos (starEach es X.env)).any (·.1) = false := by rfl) :
    PE X (.Call (.Name x p) (e :: es) [] pos) (tCall sp dvs E t) := by
  constructor
  intro pins s σ H Q I h
  apply wpAny_Call_Name_kw (ld_glob I hg hm _ hdb)
  exact PySem.W.callWith_K (h₀ := X.base) I.ok.mod.kin hk (thn (ha.run pos pins s σ H _ I h) fun us s1 ⟨vs, H1, I1, r, q⟩ => ⟨I1.kIn, runG F hG hr hb hd I1 r q⟩) he hpl
/-! ### repr of data -/
def rRepr (K : PySem.W.Frag) : List V → Hp → VK → Prop := fun xs H Q => ∃ (a : Addr) (d : PyData), xs = [.ref a] ∧ Dp K H (.ref a) d ∧ d.showable = true ∧ d.hasDict = false ∧ d.shown.length ≤ sizeLine ∧ d.depth ≤ 60 ∧ Q (.str d.shown) H
theorem cr_repr (hG : X.A.guards = some []) (hu : X.A.units + 64 < cLine) : CallR X (.builtin "repr") (rRepr X.K) := by
  intro pins s σ H xs us Q I r h
  obtain ⟨a, d, rfl, hd, hs, hn, hz, hdp, q⟩ := h
  obtain ⟨u, rfl, ru⟩ := vals1 r
  cases ru
  obtain ⟨as, rd⟩ := Dp.reads I d (.ref a) (.ref a) hd rfl
  exact repr_of_reads' rd hs (fun z => by rw [hn] at z; cases z) hG (by omega) (fun b o e => e) (fun h' u tk hk => ⟨.str d.shown, H, I.kept hk, ⟨_, rfl⟩, q⟩) hz
/-! ### == and != of texts -/
def rEqS (neg : Bool) : R2 := fun x y H Q => ∃ a b : Str, x = .str a ∧ y = .str b ∧ Q (.bl (if neg then !decide (a = b) else decide (a = b))) H
theorem op_eqS : OpR X (compareOp .Eq) (rEqS false) := by
  intro pins s σ H x y v u Q I rx ry h
  obtain ⟨a, b, rfl, rfl, q⟩ := h
  obtain ⟨t, rfl⟩ := rx
  obtain ⟨t2, rfl⟩ := ry
  refine SeqAt.RcAt.str_str a t b t2 X.prog X.w _ _ ⟨.bl (decide (a = b)), H, I, ?_, q⟩
  show Value.bool (a == b) = .bool (decide (a = b))
  rw [Bool.beq_eq_decide_eq]
theorem op_neS : OpR X (compareOp .NotEq) (rEqS true) := by
  intro pins s σ H x y v u Q I rx ry h
  obtain ⟨a, b, rfl, rfl, q⟩ := h
  obtain ⟨t, rfl⟩ := rx
  obtain ⟨t2, rfl⟩ := ry
  refine SeqAt.RcNeAt.str_str a t b t2 X.prog X.w _ _ ⟨.bl (!decide (a = b)), H, I, ?_, q⟩
  show Value.bool (!(a == b)) = .bool (!decide (a = b))
  rw [Bool.beq_eq_decide_eq]
end
end Da

set_option Elab.async false
set_option maxRecDepth 100000
set_option maxHeartbeats 4000000
set_option linter.all false
namespace Da
open PySem PySem.Spec PyProof.Rows L2 RZ HmS
section
variable {K : PySem.W.Frag} [HasT K]
/-- what is shown: of depth k at most, of weight w at most, its numbers below 10^12 -/
structure RpOk (k w : Nat) (x : D) : Prop where
  fl : x.flat = true
  ly : x.py.canLay0 = true
  dp : x.py.depth ≤ k
  wt : x.py.weight ≤ w
  sh : x.py.intsShort 13 = true
  sw : x.py.showable = true
theorem RpOk.mono {k w k' w' : Nat} {x : D} (h : RpOk k w x) (hk : k ≤ k') (hw : w ≤ w') : RpOk k' w' x := ⟨h.fl, h.ly, Nat.le_trans h.dp hk, Nat.le_trans h.wt hw, h.sh, h.sw⟩
theorem hasDict_of_lay : ∀ {d : PyData}, d.canLay0 = true → d.hasDict = false := by
  intro d h
  refine PyData.rec (motive_1 := fun d => d.canLay0 = true → d.hasDict = false) (motive_2 := fun ds => PyData.canLayAll0 ds = true → PyData.hasDictAll ds = false) (motive_3 := fun _ => True) (motive_4 := fun _ => True) ?_ ?_ ?_ ?_ ?_ ?_ ?_ ?_ ?_ ?_ ?_ ?_ d h
  · intro _; simp only [PyData.hasDict]
  · intro b _; simp only [PyData.hasDict]
  · intro i _; simp only [PyData.hasDict]
  · intro s _; simp only [PyData.hasDict]
  · intro xs ih h; simp only [PyData.hasDict]; exact ih (by simpa only [PyData.canLay0] using h)
  · intro xs ih h; simp only [PyData.hasDict]; exact ih (by simpa only [PyData.canLay0] using h)
  · intro kvs _ h; simp [PyData.canLay0] at h
  · intro _; simp only [PyData.hasDictAll]
  · intro x xs ix ih h
    simp only [PyData.canLayAll0, Bool.and_eq_true] at h
    simp only [PyData.hasDictAll, ix h.1, ih h.2, Bool.or_self]
  · trivial
  · intro _ _ _ _; trivial
  · intro _ _ _ _; trivial
theorem RpOk.int {i : Int} (h : i.natAbs < 10 ^ 12) : RpOk 1 40 (.int i) := by
  have l : i.natAbs.log2 < 40 := by
    by_cases z : i.natAbs = 0
    · rw [z]; decide
    · exact (Nat.log2_lt z).mpr (Nat.lt_of_lt_of_le h (by decide))
  refine ⟨rfl, by simp [D.py, PyData.canLay0], by simp [D.py, PyData.depth], ?_, ?_, ?_⟩
  · simp only [D.py, PyData.weight]
    split <;> omega
  · simp only [D.py, PyData.intsShort, decide_eq_true_eq]
    exact PyData.shown_int_le h
  · simp only [D.py, PyData.showable, decide_eq_true_eq]
    omega
theorem RpOk.non : RpOk 1 0 .non := ⟨rfl, by simp [D.py, PyData.canLay0], by simp [D.py, PyData.depth], by simp [D.py, PyData.weight], by simp [D.py, PyData.intsShort], by simp [D.py, PyData.showable]⟩
theorem RpOk.alls {k w : Nat} : ∀ {xs : List D}, (∀ x ∈ xs, RpOk k w x) → flats xs = true ∧ PyData.canLayAll0 (pys xs) = true ∧ PyData.depthAll (pys xs) ≤ k ∧ PyData.weightAll (pys xs) ≤ xs.length * (w + 1) ∧ PyData.intsShortAll 13 (pys xs) = true ∧ PyData.showableAll (pys xs) = true
  | [], _ => by simp [flats, pys, PyData.canLayAll0, PyData.depthAll, PyData.weightAll, PyData.intsShortAll, PyData.showableAll]
  | x :: r, h => by
    obtain ⟨h1, h2, h3, h4, h5, h6⟩ := RpOk.alls (xs := r) fun y hy => h y (List.mem_cons_of_mem _ hy)
    have hx := h x List.mem_cons_self
    have hd := hx.dp
    have hw := hx.wt
    refine ⟨by rw [flats, hx.fl, h1]; rfl, by simp only [pys, PyData.canLayAll0, hx.ly, h2, Bool.and_self], by simp only [pys, PyData.depthAll]; omega, ?_, by simp only [pys, PyData.intsShortAll, hx.sh, h5, Bool.and_self], by simp only [pys, PyData.showableAll, hx.sw, h6, Bool.and_self]⟩
    simp only [pys, PyData.weightAll, List.length_cons]
    rw [Nat.succ_mul]
    omega
theorem RpOk.tup {k w : Nat} {xs : List D} (h : ∀ x ∈ xs, RpOk k w x) : RpOk (k + 1) (xs.length * (w + 1)) (.tup xs) := by
  obtain ⟨h1, h2, h3, h4, h5, h6⟩ := RpOk.alls h
  exact ⟨h1, by simpa only [D.py, PyData.canLay0] using h2, by simp only [D.py, PyData.depth]; omega, by simpa only [D.py, PyData.weight] using h4, by simpa only [D.py, PyData.intsShort] using h5, by simpa only [D.py, PyData.showable] using h6⟩
theorem RpOk.lst {k w : Nat} {xs : List D} (h : ∀ x ∈ xs, RpOk k w x) : RpOk (k + 1) (xs.length * (w + 1)) (.lst xs) := by
  obtain ⟨h1, h2, h3, h4, h5, h6⟩ := RpOk.alls h
  exact ⟨h1, by simpa only [D.py, PyData.canLay0] using h2, by simp only [D.py, PyData.depth]; omega, by simpa only [D.py, PyData.weight] using h4, by simpa only [D.py, PyData.intsShort] using h5, by simpa only [D.py, PyData.showable] using h6⟩
theorem RpOk.tupN {k w n : Nat} {xs : List D} (h : ∀ x ∈ xs, RpOk k w x) (l : xs.length ≤ n) : RpOk (k + 1) (n * (w + 1)) (.tup xs) := (RpOk.tup h).mono (Nat.le_refl _) (Nat.mul_le_mul_right _ l)
theorem RpOk.lstN {k w n : Nat} {xs : List D} (h : ∀ x ∈ xs, RpOk k w x) (l : xs.length ≤ n) : RpOk (k + 1) (n * (w + 1)) (.lst xs) := (RpOk.lst h).mono (Nat.le_refl _) (Nat.mul_le_mul_right _ l)
def D.seq : D → Bool
  | .tup _ => true
  | .lst _ => true
  | _ => false
def dReprR (xs : List D) (φ : En → Prop) : Prop := match xs with
  | [x] => x.seq = true ∧ RpOk 60 1048576 x ∧ φ (.d (.str x.py.shown))
  | _ => False
instance snd_repr : SndC K (rRepr K) dReprR := ⟨fun {c F H σ Γ xs ds φ Q} I r h q => by
  match ds, r, h with
  | [x], r, ⟨hq, ok, h⟩ =>
    obtain ⟨v, rfl, rp⟩ := one_of r
    have dp := rp.dp (K := K) I.fh ok.fl
    have hsz : x.py.shown.length ≤ sizeLine := PyData.shown_fits_of_layable0 (B := 13) (by decide) (by decide) (by
      show (x.py.canLay0 && decide (x.py.depth ≤ 64) && decide (x.py.weight ≤ 2 ^ 20)) = true
      rw [ok.ly, decide_eq_true (Nat.le_trans ok.dp (by decide)), decide_eq_true (Nat.le_trans ok.wt (by decide))]
      rfl) ok.sh
    have fin : ∀ a, v = .ref a → rRepr K [v] H Q := fun a e => by
      subst e
      exact ⟨a, x.py, rfl, dp, ok.sw, hasDict_of_lay ok.ly, hsz, ok.dp, q F H _ _ I (Same.refl F) (Res.d (.str _)) h⟩
    cases x with
    | tup xs =>
      cases rp with
      | @tup a vs _ e rs => exact fin a rfl
    | lst xs =>
      cases rp with
      | @lst a vs _ e rs => exact fin a rfl
    | _ => exact absurd hq Bool.false_ne_true⟩
def dEqS (neg : Bool) (x y : D) (φ : En → Prop) : Prop := match x, y with
  | .str a, .str b => φ (.d (.bl (if neg then !decide (a = b) else decide (a = b))))
  | _, _ => False
instance snd_eqS (neg : Bool) : SndR K (rEqS neg) (dEqS neg) := ⟨fun {c F H σ Γ x y d e φ Q} I rx ry h q => by
  match d, e, rx, ry, h with
  | .str a, .str b, .str _, .str _, h => exact ⟨a, b, rfl, rfl, q F H _ _ I (Same.refl F) (Res.d (.bl _)) h⟩⟩
end
/-! ### the end where something is shown -/
theorem law_callG {P : Program} {w : World} {K : PySem.W.Frag} {mg mb : Str → Option Value} {k : Nat} {fa a : Addr} {fd : FuncData} {x : Str} {sp : Sp} {s₁ : Shared} {vs : List Value} {ns : List Int}
    (KX : K.In s₁.heap) (hns : s₁.heap.Ns mainGlobals mg) (hb : s₁.heap.Ns builtinsNs mb) (hbb : ∀ x : Str, x ≠ "__name__" → mb x = bootBuiltins x) (hlim : s₁.heap.NoLimit) (hg : s₁.gens = #[])
    (ha : s₁.heap.get? a = some { cls := .type "list", data := .seq vs.toArray }) (hi : IntsAre vs ns) (hl : ns.length ≤ sizeLine) (hr : Room k callerA)
    (F : ∀ base : Heap, K.In base → base.Ns mainGlobals mg → FnG P w K mg base k fa fd [x] sp) (hbind : ∀ (s : Shared) (u : Value), BindsTo s fd ⟨[u], []⟩ [(x, u)])
    (hsp : ∀ H : Hp, SqL K H a (ns.map V.int) → sp [.ref a] H (fun v _ => v = .bl true) fun _ _ _ => False) :
    codeAny (model P w) callerA (.call (.ref fa) ⟨[.ref a], []⟩) (fun r s' => r = .ok (.ret (.bool true)) ∧ OldK s₁.heap s'.heap ∧ s'.os = s₁.os ∧ AllBare s'.gens) s₁ := by
  have rv := vals_ints hi
  have lenV := hi.length
  have step : ∀ H : Hp, Only H → SqL K H a (ns.map V.int) → HOk P w H s₁.heap → (∀ b, H b ≠ none → b = a) → (H a ≠ none → K.lookup a = none) →
      codeAny (model P w) callerA (.call (.ref fa) ⟨[.ref a], []⟩) (fun r s' => r = .ok (.ret (.bool true)) ∧ OldK s₁.heap s'.heap ∧ s'.os = s₁.os ∧ AllBare s'.gens) s₁ := by
    intro H only sq hok one off
    have hid : ∀ {b : Addr} {o : Obj}, s₁.heap.get? b = some o → H b = none → (hidT s₁.heap H).get? b = some o := hidT_get
    have ndict : ∀ {b : Addr} {o : Obj} {es : Array DictEntry} {ep : Nat}, s₁.heap.get? b = some o → o.data = .dict es ep → H b = none := by
      intro b o es ep e d
      by_cases q : H b = none
      · exact q
      · have z := one b q
        subst z
        rw [ha] at e
        cases e
        exact absurd d (fun d' => by have d' : Data.seq vs.toArray _ = Data.dict es ep := d'; cases d')
    have spaces : ∀ {b : Addr} {m : Str → Option Value}, s₁.heap.Ns b m → (hidT s₁.heap H).Ns b m := by
      rintro b m ⟨o, es, ep, e, d, r⟩
      exact ⟨o, es, ep, hid e (ndict e d), d, r⟩
    have kin : K.In (hidT s₁.heap H) := by
      intro b o e
      refine hid (KX b o e) ?_
      by_cases q : H b = none
      · exact q
      · have z := one b q
        subst z
        rw [off q] at e
        cases e
    have md : Mod K mg (hidT s₁.heap H) := by
      obtain ⟨mc, h1, h2⟩ := hlim
      exact ⟨kin, spaces hns, ⟨mb, spaces hb, hbb⟩, mc, spaces h1, h2⟩
    have none0 : ∀ {b : Addr}, b ∈ frs [] → False := fun {b} z => by
      have z : b ∈ ([] : List Addr) := z
      simp at z
    have env : Env0 P w K mg (hidT s₁.heap H) callerA [] s₁ H := ⟨rfl, md, fun b o => of_hidT, Nat.le_of_eq (hidT_size _ _), trivial, fun b z => (none0 z).elim, hok, .of_eq hg⟩
    have run := (F _ kin (spaces hns)).go callerA [] s₁ H ⟨[.ref a], []⟩ [.ref a] [.ref a] _ _ rfl hr env (hbind s₁ (.ref a)) (.cons rfl .nil) (hsp H sq)
    refine codeAny_mono run ?_
    intro r s' h
    match r, h with
    | .error e, h => exact False.elim h
    | .ok .next, h => exact False.elim h
    | .ok .brk, h => exact False.elim h
    | .ok .cont, h => exact False.elim h
    | .ok (.ret u), ⟨v, H', os, bare, un, hok', r', q⟩ =>
      have q : v = .bl true := q
      subst q
      have r' : u = Value.bool true := r'
      subst r'
      refine ⟨rfl, OldK.of_keep (fun b o e => ?_), os, bare⟩
      cases q : H b with
      | none => exact un.keep b o e q (fun z => none0 z) (by simp)
      | some u =>
        rcases only b with z | ⟨ob, xs, z⟩
        · rw [q] at z
          cases z
        · obtain ⟨e1, _⟩ := hok b _ z
          obtain ⟨e2, _⟩ := hok' b _ (un.frzs b ob _ z)
          rw [e] at e1
          cases e1
          exact e2
  by_cases hk : K.lookup a = none
  · have at1 : (fun b => if b = a then some (HO.frz { cls := .type "list", data := .seq vs.toArray } (.lst (ns.map V.int))) else none : Hp) a = some (.frz { cls := .type "list", data := .seq vs.toArray } (.lst (ns.map V.int))) := if_pos rfl
    have only1 : ∀ {b : Addr} {u : HO}, (if b = a then some (HO.frz { cls := .type "list", data := .seq vs.toArray } (.lst (ns.map V.int))) else none) = some u → b = a ∧ u = .frz { cls := .type "list", data := .seq vs.toArray } (.lst (ns.map V.int)) := by
      intro b u z
      by_cases hb : b = a
      · rw [if_pos hb] at z
        cases z
        exact ⟨hb, rfl⟩
      · rw [if_neg hb] at z
        cases z
    refine step (fun b => if b = a then some (.frz { cls := .type "list", data := .seq vs.toArray } (.lst (ns.map V.int))) else none) (fun b => ?_) (.inl (.inr ⟨_, at1⟩)) (fun b u z => ?_) (fun b z => ?_) (fun _ => hk)
    · by_cases hb : b = a
      · exact .inr ⟨_, _, if_pos hb⟩
      · exact .inl (if_neg hb)
    · obtain ⟨rfl, rfl⟩ := only1 z
      refine ⟨ha, ?_, vs, _, rv, ha⟩
      rw [List.length_map]
      exact hl
    · by_cases hb : b = a
      · exact hb
      · exact absurd (if_neg hb) z
  · obtain ⟨o, hk⟩ : ∃ o, K.lookup a = some o := by
      cases q : K.lookup a with
      | none => exact absurd q hk
      | some o => exact ⟨o, rfl⟩
    have e := KX a o hk
    rw [ha] at e
    cases e
    refine step (fun _ => none) (fun _ => .inl rfl) (.inr ⟨_, vs.toArray, _, hk, rfl, rfl, rfl, ?_, by simpa using rv⟩) (fun b u z => by cases (show (none : Option HO) = some u from z)) (fun b z => absurd rfl z) (fun z => absurd rfl z)
    rw [List.size_toArray, lenV]
    exact hl
theorem walk_ofG {l : PySem.W.OpenLaw} {n k : Nat} {q : Program} {loose : List Str} {XP : (Str → Option Value) → Heap → Prop} {YP : World → Heap → Prop} {d : DefRec} {K : Params → PySem.W.Frag} {x : Str} {sp : PySem.W.Frag → Sp}
    (hn : l.most = some n) (hn2 : n ≤ sizeLine) (hdf : d.params.defaults = []) (hr : Room k callerA) (hY : ∀ (w : World) (h : Heap), YP w h → (K w.params).In h)
    (F : ∀ (w : World) (mg : Str → Option Value) (fa : Addr) (h : Heap), (K w.params).In h → h.Ns mainGlobals mg → mg d.name = some (.ref fa) →
      ∃ fd : FuncData, (∀ (s : Shared) (u : Value), BindsTo s fd ⟨[u], []⟩ [(x, u)]) ∧ ∀ base : Heap, (K w.params).In base → base.Ns mainGlobals mg → FnG l.prog w (K w.params) mg base k fa fd [x] (sp (K w.params)))
    (hsp : ∀ (K : PySem.W.Frag) (H : Hp) (a : Addr) (ns : List Int), ns.length ≤ n → SqL K H a (ns.map V.int) → sp K [.ref a] H (fun v _ => v = .bl true) fun _ _ _ => False) :
    PySem.W.WalkO q loose XP YP l.row.toRowW d [] (fun f vs => PySem.call f vs) := by
  apply Att.attach_call hn hdf
  intro w s₀ s₁ mg mb fa o pm cd doc a vs ns G Y ho hd hcd hmg hobj hints hlen hg
  have kx := hY w _ Y
  obtain ⟨fd, hb, hF⟩ := F w mg fa _ kx G.T.g hmg
  exact law_callG kx G.T.g G.T.b G.T.builtins G.T.nolimit hg hobj hints (Nat.le_trans hlen hn2) hr hF hb (fun H hS => hsp _ H a ns hlen hS)
end Da

set_option Elab.async false
set_option maxRecDepth 100000
set_option maxHeartbeats 4000000
set_option linter.all false
namespace Da
open PySem PySem.Spec PyProof.Rows L2 RZ HmS
/-! ### dicts whose keys are tuples -/
def keysL : List D → Option (List Key)
  | [] => some []
  | x :: r => match keyOf x, keysL r with
    | some k, some ks => some (k :: ks)
    | _, _ => none
def keysOf : D → Option (List Key)
  | .tup xs => keysL xs
  | _ => none
def tupD (k : List Key) : D := .tup (k.map Da.kD)
theorem keysL_rep {F : Hp} : ∀ {vs : List V} {xs : List D} {k : List Key}, Reps F vs xs → keysL xs = some k → vs = k.map kV
  | _, [], _, .nil, h => by cases h; rfl
  | v :: vs, x :: r, k, .cons a b, h => by
    unfold keysL at h
    cases e1 : keyOf x with
    | none => rw [e1] at h; cases h
    | some k1 =>
      cases e2 : keysL r with
      | none => rw [e1, e2] at h; cases h
      | some ks =>
        rw [e1, e2] at h
        cases h
        rw [List.map_cons, keyOf_rep a e1, keysL_rep b e2]
theorem keysOf_rep {F : Hp} {v : V} {x : D} {k : List Key} (r : Rep F v x) (h : keysOf x = some k) : ∃ b, v = .ref b ∧ F b = some (.tup (k.map kV)) := by
  cases x with
  | tup xs =>
    cases r with
    | @tup a vs _ e rs => exact ⟨a, rfl, by rw [← keysL_rep rs h]; exact e⟩
  | _ => cases h
theorem keysL_kD : ∀ k : List Key, keysL (k.map Da.kD) = some k
  | [] => rfl
  | a :: r => by
    rw [List.map_cons]
    unfold keysL
    rw [keysL_kD r]
    cases a <;> rfl
theorem keysOf_tupD (k : List Key) : keysOf (tupD k) = some k := keysL_kD k
theorem rep_keys {F : Hp} : ∀ k : List Key, Reps F (k.map kV) (k.map Da.kD)
  | [] => .nil
  | .inl i :: r => .cons (.int i) (rep_keys r)
  | .inr z :: r => .cons (.str z) (rep_keys r)
theorem rep_tupD {F : Hp} {b : Addr} {k : List Key} (e : F b = some (.tup (k.map kV))) : Rep F (.ref b) (tupD k) := .tup e (rep_keys k)
def dtOf (e : En) : Option (List (List Key) × List D) := match e with
  | .dT ks xs => some (ks, xs)
  | .d (.dT ks xs) => some (ks, xs)
  | _ => none
section
variable {K : PySem.W.Frag} [HasT K]
theorem Held.dt {c : Ct K} {F H : Hp} {e : En} {v : V} {ks : List (List Key)} {xs : List D} (fh : Same F H) (h : Held c F H e v) (k : dtOf e = some (ks, xs)) : ∃ a kvs, v = .ref a ∧ H a = some (.dT kvs) ∧ kvs.map (·.1) = ks ∧ Reps F (kvs.map (·.2)) xs := by
  cases e with
  | dT ks' xs' =>
    cases k
    obtain ⟨a, kvs, rfl, _, _, h1, h2, h3⟩ := h
    exact ⟨a, kvs, rfl, h1, h2, h3⟩
  | d x =>
    cases x with
    | dT ks' xs' =>
      cases k
      cases (show Rep F v (.dT ks xs) from h) with
      | @dT a kvs _ _ e1 e2 r => exact ⟨a, kvs, rfl, fh _ _ e1, e2, r⟩
    | _ => cases k
  | _ => cases k
theorem dt_no {e : En} {p : List (List Key) × List D} (h : dtOf e = some p) : e ≠ .no := fun z => by rw [z] at h; cases h
end
def tDGetT (td ty : TE) : TE := tDGet td ty
def tDInT (ty td : TE) : TE := tDIn ty td
def tDNotInT (ty td : TE) : TE := tDNotIn ty td
def sDPutT (td ty tv : TE) : TS := sDPut td ty tv
def tDGet2T (td ty tx : TE) : TE := tDGet2 td ty tx
section
variable {X : Cx} {o i e f value : Expr} {pos pos' : Pos} {apos cpos : Pos} {td ty tv tx : TE}
theorem pe_dgetT (hu : X.A.units + 1 < cLine) (ho : PE X o td) (hi : PE X i ty) (hs : NoSl i) : PE X (.Subscript o i pos) (tDGetT td ty) := pe_dget hu ho hi hs
theorem pc_dinT (hu : X.A.units + 1 < cLine) (hi : PE X i ty) (ho : PE X o td) : PC X .In i o (tDInT ty td) := pc_din hu hi ho
theorem pc_dnotinT (hu : X.A.units + 1 < cLine) (hi : PE X i ty) (ho : PE X o td) : PC X .NotIn i o (tDNotInT ty td) := pc_dnotin hu hi ho
theorem ps_dputT (hu : X.A.units + 1 < cLine) (ho : PE X o td) (hi : PE X i ty) (hv : PE X value tv) (hs : swapsWith value (some (.Subscript o i pos')) pos.line X.env = pure false) : PS X (.Assign [.Subscript o i pos'] value pos) (sDPutT td ty tv) := ps_dput hu ho hi hv hs
theorem pe_dget2T (hu : X.A.units + 1 < cLine) (ho : PE X o td) (he : PE X e ty) (hf : PE X f tx) (m : M2 X o "get" apos e f cpos) : PE X (.Call (.Attribute o "get" apos) [e, f] [] cpos) (tDGet2T td ty tx) := pe_dget2 hu ho he hf m
end
section
variable {K : PySem.W.Frag} [HasT K] {E : XK} {ψ : Value → Prop} {ta tb tx : TE} {da db dx : DT}
/-- {} -/
def dNewT : DT := fun Γ φ => φ (.dT [] []) Γ
instance snd_newT : Snd K E ψ tDNewT dNewT := ⟨fun {c F H σ Γ φ Q} I eo h q => fun p hp =>
  q F _ (.ref p) (.dT [] []) Γ (I.newH hp) (Same.refl F) ⟨⟨p, [], rfl, I.unF hp, I.un hp, upd_same, rfl, .nil⟩, (fun z => nomatch z), fun a e => by cases e; exact I.fresh hp⟩ h⟩
/-- d[k] -/
def dTGet (i : Nat) (db : DT) : DT := fun Γ φ => (∃ e ks xs, Γ[i]? = some e ∧ dtOf e = some (ks, xs)) ∧ db Γ fun e' Γ1 => wf e' fun y => ∃ e ks xs k x, Γ1[i]? = some e ∧ dtOf e = some (ks, xs) ∧ keysOf y = some k ∧ lookD ks xs k = some x ∧ φ (.d x) Γ1
instance snd_tget {i : Nat} [b : Snd K E ψ tb db] : Snd K E ψ (tDGetT (tVar i) tb) (dTGet i db) := ⟨fun {c F H σ Γ φ Q} I eo h q => by
  obtain ⟨⟨e, ks, xs, g, hk⟩, h⟩ := h
  obtain ⟨v, hv, hh⟩ := I.at_ i _ g (dt_no hk)
  obtain ⟨a, kvs, rfl, _⟩ := hh.dt I.fh hk
  refine ⟨_, hv, ?_⟩
  refine b.frz (φ := fun _ _ => True) (k := fun y Γ1 => ∃ e ks xs k x, Γ1[i]? = some e ∧ dtOf e = some (ks, xs) ∧ keysOf y = some k ∧ lookD ks xs k = some x ∧ φ (.d x) Γ1) I eo h fun F1 H1 w y Γ1 I1 s1 rp h1 => ?_
  obtain ⟨e1, ks1, xs1, k, x, g1, hk1, hy, hl, h1⟩ := h1
  obtain ⟨v', hv', hh1⟩ := I1.at_ i _ g1 (dt_no hk1)
  rw [hv] at hv'
  cases hv'
  obtain ⟨a', kvs1, ea, ha, ek, rs⟩ := hh1.dt I1.fh hk1
  cases ea
  obtain ⟨u, hu, ru⟩ := (valV_look ek rs).1 x hl
  obtain ⟨b, rfl, hb⟩ := keysOf_rep rp hy
  refine ⟨a, u, rfl, ?_, q F1 H1 u _ Γ1 I1 s1 (Res.d ru) h1⟩
  rw [← hu]
  exact DGet.t (k := k) ha (I1.fh _ _ hb)⟩
/-- k in d -/
def dTIn (neg : Bool) (i : Nat) (db : DT) : DT := fun Γ φ => db Γ fun e' Γ1 => wf e' fun y => ∃ e ks xs k, Γ1[i]? = some e ∧ dtOf e = some (ks, xs) ∧ keysOf y = some k ∧ φ (.d (.bl (if neg then !(lookD ks xs k).isSome else (lookD ks xs k).isSome))) Γ1
theorem look_someT {F : Hp} {kvs : List (List Key × V)} {ks : List (List Key)} {ds : List D} {k : List Key} (ek : kvs.map (·.1) = ks) (rs : Reps F (kvs.map (·.2)) ds) : (valV kvs k).isSome = (lookD ks ds k).isSome := by
  obtain ⟨h1, h2⟩ := valV_look (j := k) ek rs
  cases e : lookD ks ds k with
  | none => rw [h2 e]; rfl
  | some x =>
    obtain ⟨v, hv, _⟩ := h1 x e
    rw [hv]
    rfl
instance snd_tin {i : Nat} [b : Snd K E ψ tb db] : Snd K E ψ (tDInT tb (tVar i)) (dTIn false i db) := ⟨fun {c F H σ Γ φ Q} I eo h q => by
  refine b.frz (φ := fun _ _ => True) (k := fun y Γ1 => ∃ e ks xs k, Γ1[i]? = some e ∧ dtOf e = some (ks, xs) ∧ keysOf y = some k ∧ φ (.d (.bl (lookD ks xs k).isSome)) Γ1) I eo h fun F1 H1 w y Γ1 I1 s1 rp h1 => ?_
  obtain ⟨e1, ks1, xs1, k, g1, hk1, hy, h1⟩ := h1
  obtain ⟨v', hv', hh1⟩ := I1.at_ i _ g1 (dt_no hk1)
  obtain ⟨a, kvs1, rfl, ha, ek, rs⟩ := hh1.dt I1.fh hk1
  obtain ⟨b, rfl, hb⟩ := keysOf_rep rp hy
  refine ⟨_, hv', a, _, rfl, DGet.t (k := k) ha (I1.fh _ _ hb), ?_⟩
  rw [look_someT ek rs]
  exact q F1 H1 _ _ Γ1 I1 s1 (Res.d (.bl _)) h1⟩
instance snd_tnotin {i : Nat} [b : Snd K E ψ tb db] : Snd K E ψ (tDNotInT tb (tVar i)) (dTIn true i db) := ⟨fun {c F H σ Γ φ Q} I eo h q => by
  refine b.frz (φ := fun _ _ => True) (k := fun y Γ1 => ∃ e ks xs k, Γ1[i]? = some e ∧ dtOf e = some (ks, xs) ∧ keysOf y = some k ∧ φ (.d (.bl (!(lookD ks xs k).isSome))) Γ1) I eo h fun F1 H1 w y Γ1 I1 s1 rp h1 => ?_
  obtain ⟨e1, ks1, xs1, k, g1, hk1, hy, h1⟩ := h1
  obtain ⟨v', hv', hh1⟩ := I1.at_ i _ g1 (dt_no hk1)
  obtain ⟨a, kvs1, rfl, ha, ek, rs⟩ := hh1.dt I1.fh hk1
  obtain ⟨b, rfl, hb⟩ := keysOf_rep rp hy
  refine ⟨_, hv', a, _, rfl, DGet.t (k := k) ha (I1.fh _ _ hb), ?_⟩
  rw [look_someT ek rs]
  exact q F1 H1 _ _ Γ1 I1 s1 (Res.d (.bl _)) h1⟩
/-- d.get(k, x) -/
def dTGet2 (i : Nat) (db dx : DT) : DT := fun Γ φ => (∃ e ks xs, Γ[i]? = some e ∧ dtOf e = some (ks, xs)) ∧ db Γ fun e' Γ1 => wf e' fun y => dx Γ1 fun e2 Γ2 => wf e2 fun z => ∃ e ks xs k, Γ2[i]? = some e ∧ dtOf e = some (ks, xs) ∧ keysOf y = some k ∧ φ (.d ((lookD ks xs k).getD z)) Γ2
instance snd_tget2 {i : Nat} [b : Snd K E ψ tb db] [x : Snd K E ψ tx dx] : Snd K E ψ (tDGet2T (tVar i) tb tx) (dTGet2 i db dx) := ⟨fun {c F H σ Γ φ Q} I eo h q => by
  obtain ⟨⟨e, ks, xs, g, hk⟩, h⟩ := h
  obtain ⟨v, hv, hh⟩ := I.at_ i _ g (dt_no hk)
  obtain ⟨a, kvs, rfl, ha0, _⟩ := hh.dt I.fh hk
  refine ⟨_, hv, a, rfl, .inr ⟨kvs, .inl ha0⟩, ?_⟩
  refine b.frz (φ := fun _ _ => True) (k := fun y Γ1 => dx Γ1 fun e2 Γ2 => wf e2 fun z => ∃ e ks xs k, Γ2[i]? = some e ∧ dtOf e = some (ks, xs) ∧ keysOf y = some k ∧ φ (.d ((lookD ks xs k).getD z)) Γ2) I eo h fun F1 H1 w y Γ1 I1 s1 rp h1 => ?_
  refine x.frz (φ := fun _ _ => True) (k := fun z Γ2 => ∃ e ks xs k, Γ2[i]? = some e ∧ dtOf e = some (ks, xs) ∧ keysOf y = some k ∧ φ (.d ((lookD ks xs k).getD z)) Γ2) I1 eo h1 fun F2 H2 u z Γ2 I2 s2 rz h2 => ?_
  obtain ⟨e1, ks1, xs1, k, g1, hk1, hy, h2⟩ := h2
  obtain ⟨v', hv', hh1⟩ := I2.at_ i _ g1 (dt_no hk1)
  rw [hv] at hv'
  cases hv'
  obtain ⟨a', kvs1, ea, ha, ek, rs⟩ := hh1.dt I2.fh hk1
  cases ea
  obtain ⟨b, rfl, hb⟩ := keysOf_rep rp hy
  refine ⟨_, DGet.t (k := k) ha (I2.fh _ _ (s2 _ _ hb)), ?_⟩
  obtain ⟨z1, z2⟩ := valV_look (j := k) ek rs
  cases el : lookD ks1 xs1 k with
  | none =>
    rw [z2 el]
    rw [el] at h2
    exact q F2 H2 _ _ Γ2 I2 (s1.trans s2) (Res.d rz) h2
  | some y2 =>
    obtain ⟨w2, hw, rw1⟩ := z1 y2 el
    rw [hw]
    rw [el] at h2
    exact q F2 H2 _ _ Γ2 I2 (s1.trans s2) (Res.d rw1) h2⟩
end
/-- d[k] = v -/
def hasT (ks : List (List Key)) (j : List Key) : Bool := ks.any fun k => decide (k = j)
def putTs (ks : List (List Key)) (j : List Key) : List (List Key) := if hasT ks j = true then ks else ks ++ [j]
def putTx : List (List Key) → List D → List Key → D → List D
  | k :: ks, x :: xs, j, y => (if k = j then y else x) :: putTx ks xs j y
  | _, xs, _, _ => xs
def putTD (ks : List (List Key)) (xs : List D) (j : List Key) (y : D) : List D := if hasT ks j = true then putTx ks xs j y else xs ++ [y]
theorem putT_rep {F : Hp} {j : List Key} {v : V} {y : D} (ry : Rep F v y) {kvs : List (List Key × V)} {ks : List (List Key)} {xs : List D} (ek : kvs.map (·.1) = ks) (rs : Reps F (kvs.map (·.2)) xs) :
    (putK kvs j v).map (·.1) = putTs ks j ∧ Reps F ((putK kvs j v).map (·.2)) (putTD ks xs j y) := by
  unfold putK putTs putTD
  have ea : (kvs.any fun kv => decide (kv.1 = j)) = hasT ks j := by
    subst ek
    unfold hasT
    rw [List.any_map]
    rfl
  rw [ea]
  by_cases hj : hasT ks j = true
  · rw [if_pos hj, if_pos hj, if_pos hj]
    constructor
    · rw [← ek, List.map_map]
      refine List.map_congr_left fun p _ => ?_
      show (if p.1 = j then (p.1, v) else p).1 = p.1
      split <;> rfl
    · clear ea hj
      subst ek
      induction kvs generalizing xs with
      | nil =>
        cases rs
        exact .nil
      | cons p r ih =>
        cases rs with
        | cons a b =>
          rw [List.map_cons, List.map_cons]
          refine .cons ?_ (ih b)
          show Rep F (if p.1 = j then (p.1, v) else p).2 (if p.1 = j then y else _)
          by_cases z : p.1 = j
          · rw [if_pos z, if_pos z]
            exact ry
          · rw [if_neg z, if_neg z]
            exact a
  · rw [if_neg hj, if_neg hj, if_neg hj]
    exact ⟨by rw [List.map_append, ek]; rfl, by rw [List.map_append]; exact rs.app (.cons ry .nil)⟩
section
variable {K : PySem.W.Frag} [HasT K] {E : XK} {ψ : Value → Prop} {ta tb : TE} {da db : DT}
def dTPut (i : Nat) (dj da : DT) : DSt := fun Γ P => da Γ fun e Γ1 => wf e fun x => (∃ ks xs, Γ1[i]? = some (.dT ks xs)) ∧ dj Γ1 fun e' Γ2 => wf e' fun y => ∃ ks xs k, Γ2[i]? = some (.dT ks xs) ∧ keysOf y = some k ∧ ks.length ≤ 100000 ∧ P.nx (Γ2.set i (.dT (putTs ks k) (putTD ks xs k x)))
instance snds_tput {i : Nat} [a : Snd K E ψ ta da] [b : Snd K E ψ tb db] : SndS K E ψ (sDPutT (tVar i) tb ta) (dTPut i db da) := ⟨fun {c F H σ Γ P D} I eo h m => by
  refine a.frz (φ := fun _ _ => True) (k := fun x Γ1 => (∃ ks xs, Γ1[i]? = some (.dT ks xs)) ∧ db Γ1 fun e' Γ2 => wf e' fun y => ∃ ks xs k, Γ2[i]? = some (.dT ks xs) ∧ keysOf y = some k ∧ ks.length ≤ 100000 ∧ P.nx (Γ2.set i (.dT (putTs ks k) (putTD ks xs k x)))) I eo h fun F1 H1 w x Γ1 I1 s1 rp h1 => ?_
  obtain ⟨⟨ks0, xs0, g⟩, h1⟩ := h1
  obtain ⟨v, hv, p, kvs, rfl, fp, h0, hp, ek, rs⟩ := I1.at_ i _ g (fun z => nomatch z)
  refine ⟨_, hv, ?_⟩
  refine b.frz (φ := fun _ _ => True) (k := fun y Γ2 => ∃ ks xs k, Γ2[i]? = some (.dT ks xs) ∧ keysOf y = some k ∧ ks.length ≤ 100000 ∧ P.nx (Γ2.set i (.dT (putTs ks k) (putTD ks xs k x)))) I1 eo h1 fun F2 H2 u y Γ2 I2 s2 ry h2 => ?_
  obtain ⟨ks, xs, k, g2, hy, hl, h2⟩ := h2
  obtain ⟨v', hv', p', kvs2, ev, fp1, h01, hp1, ek1, rs1⟩ := I2.at_ i _ g2 (fun z => nomatch z)
  rw [hv] at hv'
  cases hv'
  cases ev
  have ll : kvs2.length = ks.length := by rw [← ek1, List.length_map]
  obtain ⟨k1, k2⟩ := putT_rep (rp.mono s2) ek1 rs1 (j := k)
  obtain ⟨b, rfl, hb⟩ := keysOf_rep ry hy
  refine ⟨p, _, rfl, DPut.t (k := k) hp1 (I2.fh _ _ hb) (by rw [ll]; exact Nat.lt_of_le_of_lt hl (by decide)), ?_⟩
  exact m.nx _ _ _ _ (I2.slot (e' := .dT (putTs ks k) (putTD ks xs k x)) g2 hv rfl h01 ⟨p, _, rfl, fp1, h01, upd_same, k1, k2⟩ (fun z => nomatch z) fun b x => x) h2⟩
/-- sorted(d): the keys, rising -/
def sortKs (ks : List (List Key)) : List (List Key) := ks.mergeSort (PySem.W.dataLe false keyD)
def dSortT (xs : List D) (φ : En → Prop) : Prop := match xs with
  | [.dT ks _] => ks.length ≤ 1000 ∧ PySem.W.AllAlike (ks.map keyD) ∧ (∀ k ∈ ks, k ≠ []) ∧ (ks.Nodup → φ (.lst ((sortKs ks).map tupD)))
  | _ => False
theorem keys_zip {H : Hp} {kvs : List (List Key × V)} {bs : List Addr} (h : IsKeys H kvs bs) : bs.length = kvs.length ∧ ∀ z ∈ bs.zip kvs, H z.1 = some (.tup (z.2.1.map kV)) := by
  unfold IsKeys at h
  induction h with
  | nil => exact ⟨rfl, by simp⟩
  | cons a _ ih =>
    refine ⟨by rw [List.length_cons, List.length_cons, ih.1], fun z hz => ?_⟩
    rw [List.zip_cons_cons] at hz
    rcases List.mem_cons.mp hz with rfl | w
    · exact a
    · exact ih.2 z w
theorem sort_zip {bs : List Addr} {kvs : List (List Key × V)} (hl : bs.length = kvs.length) : (((bs.zip kvs).mergeSort (PySem.W.dataLe false fun z => keyD z.2.1)).map fun z => z.2.1) = sortKs (kvs.map (·.1)) := by
  unfold sortKs
  rw [PySem.W.sort_maps (r := PySem.W.dataLe false fun z : Addr × List Key × V => keyD z.2.1) (s := PySem.W.dataLe false keyD) (fun z : Addr × List Key × V => z.2.1) (fun a _ b _ => rfl)]
  have : (bs.zip kvs).map (fun z => z.2.1) = kvs.map (·.1) := by
    have e := List.map_snd_zip (l₁ := bs) (l₂ := kvs) (by omega)
    have e2 := congrArg (List.map (·.1)) e
    rw [List.map_map] at e2
    exact e2
  rw [this]
theorem reps_of {α : Type} {F : Hp} {g : α → V} {f : α → D} : ∀ {l : List α}, (∀ a ∈ l, Rep F (g a) (f a)) → Reps F (l.map g) (l.map f)
  | [], _ => .nil
  | a :: r, h => .cons (h a List.mem_cons_self) (reps_of fun b hb => h b (List.mem_cons_of_mem _ hb))
instance snd_sortDT : SndC K rSortDT dSortT := ⟨fun {c F H σ Γ xs ds φ Q} I r h q => by
  match ds, r, h with
  | [.dT ks xs], r, h =>
    obtain ⟨h1, h2, h3, h4⟩ := h
    obtain ⟨v, rfl, rp⟩ := one_of r
    cases rp with
    | @dT a kvs _ _ e ek rs =>
      have ha := I.fh _ _ e
      subst ek
      refine ⟨a, kvs, rfl, .inl ha, by simpa using h1, ?_, fun p hp => h3 _ (List.mem_map.mpr ⟨p, hp, rfl⟩), fun p bs hp hik nd => ?_⟩
      · have : (kvs.map fun p => keyD p.1) = (kvs.map (·.1)).map keyD := by rw [List.map_map]; rfl
        rw [this]
        exact h2
      · obtain ⟨hl, hz⟩ := keys_zip hik
        have I2 := I.tups
        have rr : Reps (tupF F H) (((bs.zip kvs).mergeSort (PySem.W.dataLe false fun z => keyD z.2.1)).map fun z => V.ref z.1) ((sortKs (kvs.map (·.1))).map tupD) := by
          rw [← sort_zip hl, List.map_map]
          refine reps_of fun z hzm => ?_
          exact rep_tupD (tupF_at I.fh (hz z ((List.mergeSort_perm _ _).mem_iff.mp hzm)))
        obtain ⟨I3, r3⟩ := I2.newL hp rr
        exact q _ _ _ _ I3 tupF_same r3 (h4 nd)⟩
end
end Da

set_option Elab.async false
set_option maxRecDepth 100000
set_option maxHeartbeats 4000000
set_option linter.all false
namespace Da
open PySem PySem.Spec PyProof.Rows L2 RZ HmS
/-! ### promises of defs that may raise -/
def sx1 (k : D → (En → Prop) → (Value → Prop) → Prop) : DSp := fun ds φ ψ => match ds with | [x] => k x φ ψ | _ => False
def sx2 (k : D → D → (En → Prop) → (Value → Prop) → Prop) : DSp := fun ds φ ψ => match ds with | [x, y] => k x y φ ψ | _ => False
def sx3 (k : D → D → D → (En → Prop) → (Value → Prop) → Prop) : DSp := fun ds φ ψ => match ds with | [x, y, z] => k x y z φ ψ | _ => False
def sx4 (k : D → D → D → D → (En → Prop) → (Value → Prop) → Prop) : DSp := fun ds φ ψ => match ds with | [x, y, z, u] => k x y z u φ ψ | _ => False
def sx5 (k : D → D → D → D → D → (En → Prop) → (Value → Prop) → Prop) : DSp := fun ds φ ψ => match ds with | [x, y, z, u, v] => k x y z u v φ ψ | _ => False
section
variable {K : PySem.W.Frag} [HasT K] {t : TS} {dts : (Value → Prop) → DSt} {N : List Str} {vs : List V} {H : Hp} {Q : VK} {E' : XK}
theorem lex1 {k : D → (En → Prop) → (Value → Prop) → Prop} (h : spX K (sx1 k) vs H Q E') : vs.length = 1 := lenX h fun ds _ _ e => by match ds, e with | [_], _ => rfl
theorem lex2 {k : D → D → (En → Prop) → (Value → Prop) → Prop} (h : spX K (sx2 k) vs H Q E') : vs.length = 2 := lenX h fun ds _ _ e => by match ds, e with | [_, _], _ => rfl
theorem lex3 {k : D → D → D → (En → Prop) → (Value → Prop) → Prop} (h : spX K (sx3 k) vs H Q E') : vs.length = 3 := lenX h fun ds _ _ e => by match ds, e with | [_, _, _], _ => rfl
theorem lex4 {k : D → D → D → D → (En → Prop) → (Value → Prop) → Prop} (h : spX K (sx4 k) vs H Q E') : vs.length = 4 := lenX h fun ds _ _ e => by match ds, e with | [_, _, _, _], _ => rfl
theorem lex5 {k : D → D → D → D → D → (En → Prop) → (Value → Prop) → Prop} (h : spX K (sx5 k) vs H Q E') : vs.length = 5 := lenX h fun ds _ _ e => by match ds, e with | [_, _, _, _, _], _ => rfl
theorem bodx1 {k : D → (En → Prop) → (Value → Prop) → Prop} [s : ∀ ψ, SndS K E' ψ t (dts ψ)] (h : spX K (sx1 k) vs H Q E') (hd : ∀ x φ ψ, k x φ ψ → dts ψ (st0 N [x]) (po φ)) : t (bodyGoal Q) (L2.start N vs) H :=
  bodyX (s := s) h fun ds φ ψ e => by match ds, e with | [x], e => exact hd x φ ψ e
theorem bodx2 {k : D → D → (En → Prop) → (Value → Prop) → Prop} [s : ∀ ψ, SndS K E' ψ t (dts ψ)] (h : spX K (sx2 k) vs H Q E') (hd : ∀ x y φ ψ, k x y φ ψ → dts ψ (st0 N [x, y]) (po φ)) : t (bodyGoal Q) (L2.start N vs) H :=
  bodyX (s := s) h fun ds φ ψ e => by match ds, e with | [x, y], e => exact hd x y φ ψ e
theorem bodx3 {k : D → D → D → (En → Prop) → (Value → Prop) → Prop} [s : ∀ ψ, SndS K E' ψ t (dts ψ)] (h : spX K (sx3 k) vs H Q E') (hd : ∀ x y z φ ψ, k x y z φ ψ → dts ψ (st0 N [x, y, z]) (po φ)) : t (bodyGoal Q) (L2.start N vs) H :=
  bodyX (s := s) h fun ds φ ψ e => by match ds, e with | [x, y, z], e => exact hd x y z φ ψ e
theorem bodx4 {k : D → D → D → D → (En → Prop) → (Value → Prop) → Prop} [s : ∀ ψ, SndS K E' ψ t (dts ψ)] (h : spX K (sx4 k) vs H Q E') (hd : ∀ x y z u φ ψ, k x y z u φ ψ → dts ψ (st0 N [x, y, z, u]) (po φ)) : t (bodyGoal Q) (L2.start N vs) H :=
  bodyX (s := s) h fun ds φ ψ e => by match ds, e with | [x, y, z, u], e => exact hd x y z u φ ψ e
theorem bodx5 {k : D → D → D → D → D → (En → Prop) → (Value → Prop) → Prop} [s : ∀ ψ, SndS K E' ψ t (dts ψ)] (h : spX K (sx5 k) vs H Q E') (hd : ∀ x y z u v φ ψ, k x y z u v φ ψ → dts ψ (st0 N [x, y, z, u, v]) (po φ)) : t (bodyGoal Q) (L2.start N vs) H :=
  bodyX (s := s) h fun ds φ ψ e => by match ds, e with | [x, y, z, u, v], e => exact hd x y z u v φ ψ e
end
/-! ### raise -/
structure ErrT (K : PySem.W.Frag) (mg : Str → Option Value) (n : Str) (C : Addr) : Prop where
  x : PySem.W.excIn K C [.type "ValueError", .type "Exception", .type "BaseException", .type "object"] "ValueError.__new__" = true
  g : mg n = some (.ref C)
  k : PySem.W.keepIn K (.ref C) = true
  b : PySem.W.subIn K (.ref C) (.type "BaseException") = some true
  t : PySem.W.typeIn K (.ref C) = some (.type "type")
theorem ps_rse {X : Cx} {n m : Str} {C : Addr} {E : XK} {j : Nat} {p p2 pos pos' : Pos} (T : ErrT X.K X.mg n C) (hc : X.calm = true) (tk : Takes X (fun cls d _ H => E cls d H)) (hg : Gl X n) (hdb : (n == ("__debug__" : Str)) = false := by decide) :
    PS X (.Raise (some (.Call (.Name n p) [.Constant (.str m) j p2] [] pos)) none pos') (tRse E (.ref C)) :=
  ps_raise hc tk (pmk_own PySem.F.excBase_ValueError T.x T.g T.k (raises_own T.b T.t) hg hdb)
/-! ### x(lambda: body), x a def that tells by a word what the call raised -/
def TTwhy (wo : Value → Str → Prop) (okw : Str) : (XK → Hp → VK → Prop) → Hp → VK → Prop := fun tl H Q => tl (fun cls _ H' => ∃ w, wo cls w ∧ Q (.str w) H') H fun _ H' => Q (.str okw) H'
/-- what a lambda sees: what stays for ever -/
def onlyE : En → En
  | .d x => .d x
  | _ => .no
def dWhy (wo : Value → Str → Prop) (okw : Str) (den : (Value → Prop) → DT) : DT := fun Γ φ => ∃ ψ : Value → Prop, (∀ C, ψ C → ∃ w, wo C w ∧ φ (.d (.str w)) Γ) ∧ den ψ (Γ.map onlyE) fun _ _ => φ (.d (.str okw)) Γ
section
variable {K : PySem.W.Frag} [HasT K]
theorem onlyE_some {e x : En} (h : onlyE e = x) (n : x ≠ .no) : ∃ y, e = .d y ∧ x = .d y := by
  cases e with
  | d y => exact ⟨y, rfl, h.symm⟩
  | _ => exact absurd h.symm n
theorem Is.only {c : Ct K} {F H H1 : Hp} {σ : L2.St} {Γ : List En} (I : Is c F H σ Γ) (sh : NS H H1) (tb : TbOk K H1) : Is (c0 K F H1) F H1 σ (Γ.map onlyE) := by
  have on : ∀ (i : Nat) (e : En), (Γ.map onlyE)[i]? = some e → e ≠ .no → ∃ y, Γ[i]? = some (.d y) ∧ e = .d y := fun i e g n => by
    rw [List.getElem?_map] at g
    cases q : Γ[i]? with
    | none => rw [q] at g; cases g
    | some u =>
      rw [q] at g
      obtain ⟨y, rfl, e2⟩ := onlyE_some (Option.some.inj g) n
      exact ⟨y, rfl, e2⟩
  refine ⟨Same.refl F, fun a o e => sh a o (I.fn a o e) (I.fh a o e), fun a o e => .inl e, fun a o _ e => (ntH_some e).1, (fun p e => nomatch e), by rw [List.length_map]; exact I.len, fun i e g n => ?_, fun i j b e e' v v' ij g g' s s' o o' => ?_, I.fn, tb, fun a o e => (ntH_some e).2⟩
  · obtain ⟨y, g2, rfl⟩ := on i e g n
    obtain ⟨v, hv, r⟩ := I.at_ i _ g2 (fun z => nomatch z)
    exact ⟨v, hv, r⟩
  · obtain ⟨y, _, rfl⟩ := on i e g (adr_no o)
    exact o.elim
instance snd_lam {E : XK} {ψ : Value → Prop} {wo : Value → Str → Prop} {okw : Str} {t : XK → TE} {den : (Value → Prop) → DT} [s : ∀ E' ψ', Snd K E' ψ' (t E') (den ψ')] : Snd K E ψ (LamX.tLam (HasT.T K) (TTwhy wo okw) t) (dWhy wo okw den) := ⟨fun {c F H σ Γ φ Q} I eo h q => by
  obtain ⟨ψ', h1, h2⟩ := h
  refine ⟨I.tb, fun H1 ex tb1 => ?_⟩
  have sh : NS H H1 := fun b o n e => ex b o e n
  have bk : ∀ {H2 : Hp}, NS H1 H2 → TbOk K H2 → Is c F H2 σ Γ := fun {H2} s2 t2 => I.growN (Same.refl F) (sh.trans s2) t2 (fun a o e => s2 a o (I.fn a o e) (sh a o (I.fn a o e) (I.fh a o e))) I.fn fun a o e => .inl e
  refine (s _ ψ').run (I.only sh tb1) (fun C H' k _ t2 z => ?_) h2 fun F2 H2 v e Γ2 I2 _ _ z => ?_
  · obtain ⟨w, hw, hφ⟩ := h1 C z
    exact ⟨w, hw, q F H' _ _ Γ (bk (fun b o n e => k b o (fun z => nomatch z) (ntH_of e n)) t2) (Same.refl F) (Res.d (.str w)) hφ⟩
  · exact q F H2 _ _ Γ (bk (fun b o n e => I2.h0 b o (fun z => nomatch z) (ntH_of e n)) I2.tb) (Same.refl F) (Res.d (.str okw)) z⟩
end
/-! ### a def whose code object is known -/
structure FunL (K : PySem.W.Frag) (x : Str) (st : Stmt) (f : Addr) (fd : FuncData) (c : Addr) : Prop where
  ex : ∃ (oc : Value) (od : Option Addr) (kV doc pm : Value) (an : Option Addr) (ct : Value) (osl : Array (Option Value)),
    fd = PySem.W.fnOf x x (defArgs st) (defBody st) (defScope st) .none kV doc pm an (.ref c) ct ∧ K.lookup f = some ⟨oc, od, .func fd, osl⟩ ∧ PySem.W.codeIn K (.ref c) x = true
section
variable {P : Program} {w : World} {K : PySem.W.Frag} {mg : Str → Option Value} {base : Heap}
theorem okL {x : Str} {st : Stmt} {f c : Addr} {fd : FuncData} {N ps : List Str} {k : Nat} {sp : Sp} (F : FunL K x st f fd c) (S : FnScope N ps (defScope st)) (len : ∀ vs H Q E, sp vs H Q E → vs.length = ps.length)
    (hb : ∀ (A : Around) (outer : List Env) (s : Shared) (H : Hp) (vs : List V) (Q : VK) (E : XK), Room k (A.deeper (envOfC x (defScope st) s.heap.objs.size f (.ref c))) → sp vs H Q E →
      ∃ t, PSs (cxOf CX0 P w K mg base N x (defScope st) f (.ref c) A outer s H E).nox (defBody st) t ∧ t { nx := fun _ H' => Q .non H', rt := Q } (start N vs) H) : FnOk P w K mg base CX0 (k + 1) f fd ps sp := by
  obtain ⟨oc, od, kV, doc, pm, an, ct, osl, rfl, lk, hcd⟩ := F.ex
  refine fn_of lk hcd S len fun A outer s H vs Q E hr hsp => ?_
  obtain ⟨t, h, q⟩ := hb A outer s H vs Q E hr hsp
  exact ⟨t, h.nox, q⟩
theorem pe_lam {X : Cx} {T : List (Addr × Str)} {TT : (XK → Hp → VK → Prop) → Hp → VK → Prop} {x a : Str} {st : Stmt} {g c P : Addr} {fd : FuncData} {k : Nat} {Ng : List Str} {params : Arguments} {body : Expr} {scope : Scope} {t : XK → TE} {p lpos pos : Pos}
    (F : Fun X.K x x st g fd) (hg : Gl X x) (hm : X.mg x = some (.ref g)) (hk : PySem.W.keepIn X.K (.ref g) = true) (hb : L2.Binds X.K fd [a] []) (Sg : FnScope Ng [a] (defScope st)) (hNg : Ng[0]? = some a) (hva : Vis (defScope st) a)
    (hG : ∀ cd, LamX.GivesTo X Ng x (defScope st) g cd (defBody st) a (X.env.qual ++ "<lambda>") TT)
    (TB : LamX.TabB X.base X.mg c P) (hcode : X.env.code = .ref c) (hmT : (P, X.env.qual ++ "<lambda>") ∈ T) (hu : ∀ p ∈ T, p.1 = P → p.2 = X.env.qual ++ "<lambda>") (hr : Room (k + 2) X.A) (L : LamX.LamS X.env.scope scope) (hdef : defaultsOf params X.env = ([], []))
    (hbind : ∀ (q : Str) (cl : List (Str × Addr)) (pm cv ctv : Value), bindArgs (PySem.W.kla_fn "<lambda>" q params body scope cl pm cv ctv) ⟨[], []⟩ = pure [])
    (hbody : ∀ (A : Around) (outer : List Env) (s : Shared) (H : Hp) (E : XK) (f c' : Addr), Room k (A.deeper (LamX.lamEnv X scope s.heap.objs.size f c')) → PE (LamX.lamCx X A outer s H E scope f c') body (t E))
    (hdb : (x == ("__debug__" : Str)) = false := by decide) (hd : (a == ("__debug__" : Str)) = false := by decide) (hcd : (a == ("__classdict__" : Str)) = false := by decide) :
    PE X (.Call (.Name x p) [.Lambda params body scope lpos] [] pos) (LamX.tLam T TT t) := by
  obtain ⟨oc, od, kV, doc, pm, an, cdv, ct, osl, rfl, lk, hcg⟩ := F.ex
  exact LamX.pe_lamcall hg hm hk lk hcg hb Sg hNg hva (hG _) TB hcode hmT hu hr L hdef hbind hbody hdb hd hcd
end
/-- a law with lambdas within its defs: the tables of the code objects that make them -/
theorem TbOk.start {K : PySem.W.Frag} [t : HasT K] {H : Hp} (h : ∀ p ∈ t.T, H p.1 = some (.tbl #[])) : TbOk K H := fun p hp => LamX.TabS.nil (h p hp)
end Da

set_option Elab.async false
set_option maxRecDepth 100000
set_option maxHeartbeats 4000000
set_option linter.all false
namespace Da
open PySem PySem.Spec PyProof.Rows L2 RZ HmS
/-! ### len(set(xs)), ints of whatever kind -/
def metN (ns : List Int) : Nat := (PyProof.Rows.firstMet (fun i => ns.getD i 0) ns.length).length
theorem met_len {ns : List Int} : ∀ i, (PyProof.Rows.firstMet (fun i => ns.getD i 0) i).length ≤ i
  | 0 => Nat.le_refl _
  | i + 1 => by
    rw [PyProof.Rows.firstMet_succ]
    unfold PyProof.Rows.step_dedup
    have := met_len (ns := ns) i
    split
    · omega
    · rw [List.length_append, List.length_singleton]; omega
theorem met_full {ns : List Int} : ∀ i, i ≤ ns.length → (PyProof.Rows.firstMet (fun i => ns.getD i 0) i).length = i → PyProof.Rows.firstMet (fun i => ns.getD i 0) i = ns.take i ∧ (ns.take i).Nodup
  | 0, _, _ => ⟨rfl, List.nodup_nil⟩
  | i + 1, hi, h => by
    have hlt : i < ns.length := hi
    have e1 : ns.getD i 0 = ns[i] := by rw [List.getD_eq_getElem?_getD, List.getElem?_eq_getElem hlt] <;> rfl
    have e2 : ns.take (i + 1) = ns.take i ++ [ns[i]] := by rw [List.take_add_one, List.getElem?_eq_getElem hlt] <;> rfl
    rw [PyProof.Rows.firstMet_succ] at h ⊢
    unfold PyProof.Rows.step_dedup at h ⊢
    have l := met_len (ns := ns) i
    split at h
    · omega
    · rename_i no
      rw [List.length_append, List.length_singleton] at h
      obtain ⟨e, nd⟩ := met_full i (Nat.le_of_lt hlt) (by omega)
      rw [if_neg no, e, e1, e2]
      refine ⟨rfl, List.nodup_append.mpr ⟨nd, by simp, fun x hx y hy exy => no ?_⟩⟩
      rw [List.mem_singleton] at hy
      subst hy
      subst exy
      rw [e]
      exact List.any_eq_true.mpr ⟨_, hx, by rw [e1]; exact beq_iff_eq.mpr rfl⟩
theorem met_iff {ns : List Int} : metN ns = ns.length ↔ ns.Nodup := by
  refine ⟨fun h => ?_, fun h => ?_⟩
  · have := (met_full ns.length (Nat.le_refl _) h).2
    rw [List.take_length] at this
    exact this
  · unfold metN
    rw [RZ.firstMet_nodup h ns.length (Nat.le_refl _), List.take_length]
def tLenSetN (K : PySem.W.Frag) (ta : TE) : TE := fun σ H Q => ta σ H fun x H1 => ∃ (l : Addr) (ns : List Int), x = .ref l ∧ SqL K H1 l (ns.map V.int) ∧ ns.length ≤ 4000 ∧ Q (.int (metN ns : Nat)) H1
theorem pe_lenSetN {X : Cx} {a : Expr} {ta : TE} {K : PySem.W.Frag} {p p2 q pos : Pos} (hg : Gl X "len") (hm : X.mg "len" = none) (hg2 : Gl X "set") (hm2 : X.mg "set" = none) (ha : PE X a ta) (hc : X.calm = true := by rfl)
    (na : starEach [a] X.env = (false, eval a X.env) :: starEach [] X.env := by rfl) (hK : X.K = K := by rfl) : PE X (.Call (.Name "len" p) [.Call (.Name "set" p2) [a] [] q] [] pos) (tLenSetN K ta) := by
  subst hK
  refine ⟨fun pins s σ H Q I h => ?_⟩
  refine Call_ (ld_blt I hg hm boot_len ?_)
  refine PyProof.Rows.callWith_builtin1 (PyProof.Rows.args_cons ?_ rfl) rfl rfl
  refine Call_ (ld_blt I hg2 hm2 boot_set ?_)
  refine PyProof.Rows.callWith_type1 (PyProof.Rows.args_cons (thn (ha.run pins s σ H _ I h) fun v s1 ⟨x, H1, I1, r1, q1⟩ => PyProof.Rows.args_nil ?_) na) na rfl
  obtain ⟨l, ns, rfl, hq, hl, q1⟩ := q1
  cases r1
  obtain ⟨its, r, pl, hz⟩ := I1.list hq
  have hlen : its.toArray.size = ns.length := by rw [List.size_toArray, ← r.length, List.length_map]
  refine call_set_list (I1.ok.hd hc) pl.isList (by simpa using intsAre_vals r) (by rw [hlen]; unfold scanBound; omega) fun h' tk hS hk => ?_
  refine PyProof.Rows.args_nil ?_
  rw [hlen] at hS
  obtain ⟨o, es, ep, t, ho, hex, hd, _, _, _, hf, hn⟩ := hS
  have I2 : Inv X pins σ H1 { s1 with heap := h', toks := tk } := I1.kept fun b o e => hk b o (Heap.lt_size e) e
  have hm : metN ns ≤ ns.length := met_len _
  exact call_len_set ho hex hd hf (by rw [hn]; unfold metN at hm; omega) ⟨.int (metN ns : Nat), H1, I2.tok _, ⟨_, by rw [hn]; rfl⟩, q1⟩
def dLenSetN (da : DT) : DT := fun Γ φ => da Γ fun e Γ1 => wl e fun xs => ∃ is : List Int, xs = is.map D.int ∧ is.length ≤ 4000 ∧ φ (.d (.int (metN is))) Γ1
instance snd_lenSetN {K : PySem.W.Frag} [HasT K] {E : XK} {ψ : Value → Prop} {ta : TE} {da : DT} [a : Snd K E ψ ta da] : Snd K E ψ (tLenSetN K ta) (dLenSetN da) := ⟨fun {c F H σ Γ φ Q} I eo h q => a.run I eo h fun F1 H1 v e Γ1 I1 s1 r1 h1 => by
  obtain ⟨F2, p, vs, xs, rfl, I2, s2, ep, rs, is, rfl, hl, h2⟩ := r1.frzL I1 h1
  rw [rs.of_ints] at ep
  exact ⟨p, is, rfl, SqL.of (I2.fh _ _ ep), hl, q F2 H1 _ _ Γ1 I2 (s1.trans s2) (Res.d (.int _)) h2⟩⟩
end Da

set_option Elab.async false
set_option maxRecDepth 100000
set_option maxHeartbeats 4000000
set_option linter.all false
namespace Da
open PySem PySem.Spec PyProof.Rows L2 RZ HmS
/-! ### a tuple many times -/
def dRepT (x y : D) (φ : En → Prop) : Prop := match x, y with
  | .tup xs, .int k => xs ≠ [] ∧ 2 ≤ k ∧ k ≤ 1000 ∧ xs.length ≤ 1000 ∧ φ (.d (.tup (List.replicate k.toNat xs).flatten))
  | _, _ => False
instance snd_repT {K : PySem.W.Frag} [HasT K] : SndR K (rRepT K) dRepT := ⟨fun {c F H σ Γ x y d e φ Q} I rx ry h q => by
  match d, e, rx, ry, h with
  | .tup ds, .int k, .tup (vs := vs) e1 r1, .int _, h =>
    obtain ⟨h0, h1, h2, h3, h⟩ := h
    refine ⟨_, k, vs, rfl, rfl, SqT.of (I.fh _ _ e1), fun z => h0 ?_, h1, h2, by rw [r1.length]; exact h3, fun p hp => ?_⟩
    · subst z
      cases r1
      rfl
    · obtain ⟨I2, s2, _⟩ := I.new (o := .tup (List.replicate k.toNat vs).flatten) hp
      exact q _ _ _ _ I2 s2 (Res.d (.tup upd_same ((r1.flat k.toNat).mono s2))) h⟩
end Da

set_option Elab.async false
set_option maxRecDepth 100000
set_option maxHeartbeats 4000000
set_option linter.all false
namespace Da
open PySem PySem.Spec PyProof.Rows L2 RZ HmS
/-! ### sorted(xs), xs a list of data that are alike -/
def rSortL (K : PySem.W.Frag) : List V → Hp → VK → Prop := fun xs H Q => ∃ (l : Addr) (zs : List (V × PyData)), xs = [.ref l] ∧ SqL K H l (zs.map (·.1)) ∧ (∀ z ∈ zs, Dp K H z.1 z.2) ∧ zs.length ≤ 100000 ∧ PySem.W.AllAlike (zs.map (·.2)) ∧ PySem.W.Sortable (zs.map (·.2)) ∧ (∀ z ∈ zs, z.2.depth ≤ 60) ∧
  ∀ p, H p = none → Q (.ref p) (upd H p (.lst ((zs.mergeSort (PySem.W.dataLe false fun z => z.2)).map (·.1))))
theorem each_vals {α : Type} {f : α → V} : ∀ {zs : List α} {us : List Value}, Vals (zs.map f) us → PySem.W.EachIs (fun u z => RelV (f z) u) us zs
  | [], _, .nil => .nil
  | _ :: _, _, .cons a b => .cons a (each_vals b)
theorem vals_each {α : Type} {f : α → V} : ∀ {zs : List α} {us : List Value}, PySem.W.EachIs (fun u z => RelV (f z) u) us zs → Vals (zs.map f) us
  | _, _, .nil => .nil
  | _, _, .cons a b => .cons a (vals_each b)
theorem each_mem {α : Type} {R R' : Value → α → Prop} : ∀ {us : List Value} {zs : List α}, PySem.W.EachIs R us zs → (∀ u z, z ∈ zs → R u z → R' u z) → PySem.W.EachIs R' us zs
  | _, _, .nil, _ => .nil
  | _, _, .cons a b, h => .cons (h _ _ List.mem_cons_self a) (each_mem b fun u z m r => h u z (List.mem_cons_of_mem _ m) r)
theorem cr_sortL {X : Cx} (hu : X.A.units + 64 < cLine) : CallR X (.builtin "sorted") (rSortL X.K) := by
  intro pins s σ H vs us Q I r h
  obtain ⟨a, zs, rfl, hs, hn, hz, hal, hsb, hd, q⟩ := h
  obtain ⟨its, rv, hl, hzz⟩ := I.list hs
  rw [Vals.ref1 r]
  have e := each_vals rv
  refine PySem.W.sorted_data (vs := its) (bs := zs) (enc := fun z => z.2) (R := fun u z => RelV z.1 u) hl.isList e (each_mem e fun u z m rz => Dp.reads I z.2 z.1 u (hn z m) rz) hal hsb (by rw [sizeLine_eq]; omega) (fun z m => ?_) fun out ol eo => ?_
  · have := hd z m
    omega
  · obtain ⟨ep, he'⟩ := PyProof.Rows.sortedAll_at s.heap its out.toArray
    have hlen : ((zs.mergeSort (PySem.W.dataLe false fun z => z.2)).map (·.1)).length ≤ sizeLine := by
      rw [List.length_map, (List.mergeSort_perm _ _).length_eq, sizeLine_eq]
      omega
    exact ⟨.ref _, upd H (s.heap.objs.size + 1) (.lst ((zs.mergeSort (PySem.W.dataLe false fun z => z.2)).map (·.1))), I.laid (t' := s.toks) (fun _ _ => PyProof.Rows.sortedAll_old) (Nat.le_succ _) ⟨hlen, out, ep, vals_each eo, he'⟩, rfl, q _ (I.hok.fresh (Nat.le_succ _))⟩
def sortD (xs : List D) : List D := xs.mergeSort (PySem.W.dataLe false D.py)
/-- what may be sorted -/
structure SrtOk (xs : List D) : Prop where
  al : PySem.W.AllAlike (xs.map D.py)
  sb : PySem.W.Sortable (xs.map D.py)
  fl : ∀ x ∈ xs, x.flat = true ∧ x.py.depth ≤ 60
def dSortR (xs : List D) (φ : En → Prop) : Prop := match xs with
  | [.lst xs] => xs.length ≤ 100000 ∧ SrtOk xs ∧ φ (.lst (sortD xs))
  | _ => False
section
variable {K : PySem.W.Frag} [HasT K]
theorem zip_reps {F : Hp} : ∀ {vs : List V} {xs : List D}, Reps F vs xs → (vs.zip xs).map (·.1) = vs ∧ (vs.zip xs).map (·.2) = xs ∧ ∀ z ∈ vs.zip xs, Rep F z.1 z.2
  | _, _, .nil => ⟨rfl, rfl, fun z h => by simp at h⟩
  | v :: _, x :: _, .cons a b => by
    obtain ⟨h1, h2, h3⟩ := zip_reps b
    refine ⟨by rw [List.zip_cons_cons, List.map_cons, h1], by rw [List.zip_cons_cons, List.map_cons, h2], fun z hz => ?_⟩
    rw [List.zip_cons_cons] at hz
    rcases List.mem_cons.mp hz with rfl | w
    · exact a
    · exact h3 z w
theorem reps_of2 {α : Type} {F : Hp} {g : α → V} {f : α → D} : ∀ {l : List α}, (∀ a ∈ l, Rep F (g a) (f a)) → Reps F (l.map g) (l.map f)
  | [], _ => .nil
  | a :: r, h => .cons (h a List.mem_cons_self) (reps_of2 fun b hb => h b (List.mem_cons_of_mem _ hb))
instance snd_sortR : SndC K (rSortL K) dSortR := ⟨fun {c F H σ Γ xs ds φ Q} I r h q => by
  match ds, r, h with
  | [.lst xs], r, h =>
    obtain ⟨h1, h2, h3⟩ := h
    obtain ⟨v, rfl, rp⟩ := one_of r
    cases rp with
    | @lst a vs _ e rs =>
      have ha := I.fh _ _ e
      obtain ⟨z1, z2, z3⟩ := zip_reps rs
      generalize hzs : vs.zip xs = ws at z1 z2 z3
      have m2 : ∀ z ∈ ws, z.2 ∈ xs := fun z hz => by rw [← z2]; exact List.mem_map.mpr ⟨z, hz, rfl⟩
      have p2 : (ws.map fun z => (z.1, z.2.py)).map (·.2) = xs.map D.py := by rw [List.map_map, ← z2, List.map_map]; rfl
      have p1 : (ws.map fun z => (z.1, z.2.py)).map (·.1) = vs := by rw [List.map_map]; exact z1
      have wl : ws.length = xs.length := by rw [← z2, List.length_map]
      refine ⟨a, ws.map fun z => (z.1, z.2.py), rfl, by rw [p1]; exact SqL.of ha, fun z hz => ?_, by rw [List.length_map, wl]; exact h1, by rw [p2]; exact h2.al, by rw [p2]; exact h2.sb, fun z hz => ?_, fun p hp => ?_⟩
      · obtain ⟨y, hy, rfl⟩ := List.mem_map.mp hz
        exact (z3 y hy).dp I.fh (h2.fl _ (m2 y hy)).1
      · obtain ⟨y, hy, rfl⟩ := List.mem_map.mp hz
        exact (h2.fl _ (m2 y hy)).2
      · have e1 : ((ws.map fun z => (z.1, z.2.py)).mergeSort (PySem.W.dataLe false fun z => z.2)).map (·.1) = (ws.mergeSort (PySem.W.dataLe false fun z : V × D => z.2.py)).map (·.1) := by
          rw [← PySem.W.sort_maps (r := PySem.W.dataLe false fun z : V × D => z.2.py) (s := PySem.W.dataLe false fun z : V × PyData => z.2) (fun z : V × D => (z.1, z.2.py)) (fun a _ b _ => rfl), List.map_map]
          rfl
        have e2 : sortD xs = (ws.mergeSort (PySem.W.dataLe false fun z : V × D => z.2.py)).map (·.2) := by
          rw [PySem.W.sort_maps (r := PySem.W.dataLe false fun z : V × D => z.2.py) (s := PySem.W.dataLe false D.py) (fun z : V × D => z.2) (fun a _ b _ => rfl), z2]
          rfl
        rw [e1]
        obtain ⟨I3, r3⟩ := I.newL hp (reps_of2 (g := fun z : V × D => z.1) (f := fun z => z.2) (l := ws.mergeSort (PySem.W.dataLe false fun z : V × D => z.2.py)) fun z hz => z3 z ((List.mergeSort_perm _ _).mem_iff.mp hz))
        rw [e2] at h3
        exact q _ _ _ _ I3 (Same.refl F) r3 h3⟩
/-- list(d), d a dict with tuple keys -/
def rListT : List V → Hp → VK → Prop := fun xs H Q => ∃ d kvs, xs = [V.ref d] ∧ Rd H d (.dT kvs) ∧ ∀ p bs, H p = none → IsKeys H kvs bs → Q (.ref p) (upd H p (.lst (bs.map V.ref)))
theorem cl_listT {X : Cx} (hc : X.calm = true) : CallR X (.type "list") rListT := L2.call_list_dT hc
def dListT (xs : List D) (φ : En → Prop) : Prop := match xs with
  | [.dT ks _] => φ (.lst (ks.map tupD))
  | _ => False
theorem keys_reps {F H : Hp} (fh : Same F H) {kvs : List (List Key × V)} {bs : List Addr} (h : IsKeys H kvs bs) : Reps (tupF F H) (bs.map V.ref) ((kvs.map (·.1)).map tupD) := by
  unfold IsKeys at h
  induction h with
  | nil => exact .nil
  | cons a _ ih => exact .cons (rep_tupD (tupF_at fh a)) ih
instance snd_listT : SndC K rListT dListT := ⟨fun {c F H σ Γ xs ds φ Q} I r h q => by
  match ds, r, h with
  | [.dT ks xs], r, h =>
    obtain ⟨v, rfl, rp⟩ := one_of r
    cases rp with
    | @dT a kvs _ _ e ek rs =>
      have ha := I.fh _ _ e
      subst ek
      refine ⟨a, kvs, rfl, .inl ha, fun p bs hp hik => ?_⟩
      have I2 := I.tups
      obtain ⟨I3, r3⟩ := I2.newL hp (keys_reps I.fh hik)
      exact q _ _ _ _ I3 tupF_same r3 h⟩
end
end Da

set_option Elab.async false
set_option maxRecDepth 100000
set_option maxHeartbeats 4000000
set_option linter.all false
namespace Da
open PySem PySem.Spec PyProof.Rows L2 RZ HmS
/-! ### frozen objects: their fields, calls of their methods -/
def lookN (ns : List Str) (xs : List D) (f : Str) : Option D := (ns.zip xs).lookup f
theorem look_fs {F : Hp} {f : Str} : ∀ {fs : List (Str × V)} {xs : List D}, Reps F (fs.map (·.2)) xs →
    (∀ z, lookN (fs.map (·.1)) xs f = some z → ∃ v, fs.lookup f = some v ∧ Rep F v z) ∧ (lookN (fs.map (·.1)) xs f = none → fs.lookup f = none)
  | [], [], _ => ⟨fun z h => (nomatch h), fun _ => rfl⟩
  | (n, v) :: r, x :: xs, .cons a b => by
    obtain ⟨h1, h2⟩ := look_fs (f := f) b
    show (∀ z, List.lookup f ((n, x) :: ((r.map (·.1)).zip xs)) = some z → ∃ u, List.lookup f ((n, v) :: r) = some u ∧ Rep F u z) ∧ (List.lookup f ((n, x) :: ((r.map (·.1)).zip xs)) = none → List.lookup f ((n, v) :: r) = none)
    rw [List.lookup_cons, List.lookup_cons]
    cases e : (f == n) with
    | true => exact ⟨fun z h => ⟨v, rfl, by cases h; exact a⟩, fun h => (nomatch h)⟩
    | false => exact ⟨h1, h2⟩
theorem pe_fldK {X : Cx} {K : PySem.W.Frag} {e : Expr} {f : Str} {pos : Pos} {ta : TE} (ha : PE X e ta) (hb : attributeBase e f X.env (eval e X.env) = eval e X.env) (hK : X.K = K := by rfl) : PE X (.Attribute e f pos) (tFld K ta f) := by
  subst hK
  exact pe_fld ha hb
theorem pe_items {X : Cx} {K : PySem.W.Frag} {o : Expr} {apos cpos : Pos} {to : TE} (ho : PE X o to) (hbase : attributeBase o "items" X.env (eval o X.env) = eval o X.env := by rfl) (hline : (apos.endLine == cpos.line) = true := by rfl) (hK : X.K = K := by rfl) :
    PE X (.Call (.Attribute o "items" apos) [] [] cpos) (tBM0 K "dict" DX.rItemsT to) := by
  subst hK
  exact pe_bm0 PySem.F.plainAttrs_dict PySem.F.slot_dict_items PySem.F.type_dict_items DX.mt_itemsT ho hbase hline
theorem upd_grow {H : Hp} {p : Addr} {o : HO} (hp : H p = none) : Same H (upd H p o) := fun b u e => by rw [upd_ne (ne_of_none e hp)]; exact e
def dAttr (K : PySem.W.Frag) (da : DT) (f : Str) : DT := fun Γ φ => da Γ fun e Γ1 => wf e fun x => ∃ C ns xs z, x = .ins C ns xs ∧ Cls K C ∧ NoAttr K C f ∧ lookN ns xs f = some z ∧ φ (.d z) Γ1
def dMeth (C : Addr) (m : Str) (den : List D → (En → Prop) → (Value → Prop) → Prop) (dvs : List V) (ψ : Value → Prop) (da : DT) (dal : DA) : DT := fun Γ φ => da Γ fun e Γ1 => wf e fun x => (∃ ns xs, x = .ins C ns xs ∧ lookN ns xs m = none) ∧ dal Γ1 fun ys Γ2 => (dvs.all isSc) = true ∧ den (x :: (ys ++ dvs.map vD)) (fun e => φ e Γ2) ψ
def dInX (neg : Bool) (da db : DT) : DT := fun Γ φ => da Γ fun e Γ1 => wf e fun y => db Γ1 fun e' Γ2 => wf e' fun x => ∃ ks xs k, x = .dT ks xs ∧ keysOf y = some k ∧ φ (.d (.bl (if neg then !(lookD ks xs k).isSome else (lookD ks xs k).isSome))) Γ2
def rowC (c : List Key × Int) : D := .tup [tupD c.1, .int c.2]
def dSortI (da : DT) : DT := fun Γ φ => da Γ fun e Γ1 => wf e fun x => ∃ cs : List (List Key × Int), x = .dT (cs.map Prod.fst) (cs.map fun c => .int c.2) ∧ cs.length ≤ 1000 ∧ PySem.W.AllAlike (cs.map encC) ∧ (∀ c ∈ cs, c.1 ≠ []) ∧ ((cs.map Prod.fst).Nodup → φ (.lst ((sortC cs).map rowC)) Γ1)
section
variable {K : PySem.W.Frag} [HasT K] {E : XK} {ψ : Value → Prop} {ta tb : TE} {da db : DT} {al : TA} {dal : DA}
instance snd_attr {f : Str} [a : Snd K E ψ ta da] : Snd K E ψ (tFld K ta f) (dAttr K da f) := ⟨fun {c F H σ Γ φ Q} I eo h q => by
  refine a.frz (φ := fun _ _ => True) (k := fun x Γ1 => ∃ C ns xs z, x = .ins C ns xs ∧ Cls K C ∧ NoAttr K C f ∧ lookN ns xs f = some z ∧ φ (.d z) Γ1) I eo h fun F1 H1 w x Γ1 I1 s1 rp h1 => ?_
  obtain ⟨C, ns, xs, z, rfl, hC, hN, hl, h1⟩ := h1
  cases rp with
  | @ins a C dx fs _ _ e en rs =>
    subst en
    obtain ⟨v, hv, rv⟩ := (look_fs rs).1 z hl
    exact ⟨a, C, dx, fs, v, rfl, I1.fh _ _ e, hC, hN, hv, q F1 H1 v _ Γ1 I1 s1 (Res.d rv) h1⟩⟩
theorem snd_methX {C : Addr} {m : Str} {den : List D → (En → Prop) → (Value → Prop) → Prop} {dvs : List V} {E' : XK} {ψ' : Value → Prop} [a : Snd K E ψ ta da] [sl : SndA K E ψ al dal] (xx : ∀ {c : Ct K} {H : Hp}, EOk c E ψ → EOk c E' ψ') :
    Snd K E ψ (tMeth C m (spX K den) dvs E' ta al) (dMeth C m den dvs ψ' da dal) := ⟨fun {c F H σ Γ φ Q} I eo h q => by
  refine a.frz (φ := fun _ _ => True) (k := fun x Γ1 => (∃ ns xs, x = .ins C ns xs ∧ lookN ns xs m = none) ∧ dal Γ1 fun ys Γ2 => (dvs.all isSc) = true ∧ den (x :: (ys ++ dvs.map vD)) (fun e => φ e Γ2) ψ') I eo h fun F1 H1 w x Γ1 I1 s1 rp h1 => ?_
  obtain ⟨⟨ns, xs, rfl, hl⟩, h1⟩ := h1
  cases id rp with
  | @ins a _ dx fs _ _ e en rs =>
    subst en
    refine ⟨a, dx, fs, rfl, I1.fh _ _ e, (look_fs rs).2 hl, ?_⟩
    refine sl.run I1 eo h1 fun F2 H2 vs ys Γ2 I2 s2 r2 h2 => ?_
    exact call_run I2 (xx (H := H) eo) (.cons (rp.mono s2) (r2.app (Reps.scs h2.1))) h2.2 fun F3 H3 v e I3 s3 r3 p => q F3 H3 v e Γ2 I3 ((s1.trans s2).trans s3) r3 p⟩
instance (priority := 900) snd_meth {C : Addr} {m : Str} {den : List D → (En → Prop) → (Value → Prop) → Prop} {dvs : List V} [a : Snd K E ψ ta da] [sl : SndA K E ψ al dal] : Snd K E ψ (tMeth C m (spX K den) dvs E ta al) (dMeth C m den dvs ψ da dal) := snd_methX fun {_ _} h => h
instance snd_meth0 {C : Addr} {m : Str} {den : List D → (En → Prop) → (Value → Prop) → Prop} {dvs : List V} [a : Snd K E ψ ta da] [sl : SndA K E ψ al dal] : Snd K E ψ (tMeth C m (spX K den) dvs E0 ta al) (dMeth C m den dvs (fun _ => False) da dal) := snd_methX fun {_ _} _ _ _ _ _ _ z => z
instance (priority := 500) snd_inX [a : Snd K E ψ ta da] [b : Snd K E ψ tb db] : Snd K E ψ (tDIn ta tb) (dInX false da db) := ⟨fun {c F H σ Γ φ Q} I eo h q => by
  refine a.frz (φ := fun _ _ => True) (k := fun y Γ1 => db Γ1 fun e' Γ2 => wf e' fun x => ∃ ks xs k, x = .dT ks xs ∧ keysOf y = some k ∧ φ (.d (.bl (lookD ks xs k).isSome)) Γ2) I eo h fun F1 H1 w y Γ1 I1 s1 ry h1 => ?_
  refine b.frz (φ := fun _ _ => True) (k := fun x Γ2 => ∃ ks xs k, x = .dT ks xs ∧ keysOf y = some k ∧ φ (.d (.bl (lookD ks xs k).isSome)) Γ2) I1 eo h1 fun F2 H2 u x Γ2 I2 s2 rx h2 => ?_
  obtain ⟨ks, xs, k, rfl, hy, h2⟩ := h2
  cases rx with
  | @dT a kvs _ _ e ek rs =>
    obtain ⟨b, rfl, hb⟩ := keysOf_rep ry hy
    refine ⟨a, _, rfl, DGet.t (k := k) (I2.fh _ _ e) (I2.fh _ _ (s2 _ _ hb)), ?_⟩
    rw [look_someT ek rs]
    exact q F2 H2 _ _ Γ2 I2 (s1.trans s2) (Res.d (.bl _)) h2⟩
instance (priority := 500) snd_notInX [a : Snd K E ψ ta da] [b : Snd K E ψ tb db] : Snd K E ψ (tDNotIn ta tb) (dInX true da db) := ⟨fun {c F H σ Γ φ Q} I eo h q => by
  refine a.frz (φ := fun _ _ => True) (k := fun y Γ1 => db Γ1 fun e' Γ2 => wf e' fun x => ∃ ks xs k, x = .dT ks xs ∧ keysOf y = some k ∧ φ (.d (.bl (!(lookD ks xs k).isSome))) Γ2) I eo h fun F1 H1 w y Γ1 I1 s1 ry h1 => ?_
  refine b.frz (φ := fun _ _ => True) (k := fun x Γ2 => ∃ ks xs k, x = .dT ks xs ∧ keysOf y = some k ∧ φ (.d (.bl (!(lookD ks xs k).isSome))) Γ2) I1 eo h1 fun F2 H2 u x Γ2 I2 s2 rx h2 => ?_
  obtain ⟨ks, xs, k, rfl, hy, h2⟩ := h2
  cases rx with
  | @dT a kvs _ _ e ek rs =>
    obtain ⟨b, rfl, hb⟩ := keysOf_rep ry hy
    refine ⟨a, _, rfl, DGet.t (k := k) (I2.fh _ _ e) (I2.fh _ _ (s2 _ _ hb)), ?_⟩
    rw [look_someT ek rs]
    exact q F2 H2 _ _ Γ2 I2 (s1.trans s2) (Res.d (.bl _)) h2⟩
theorem kvs_of {F : Hp} : ∀ {kvs : List (List Key × V)} {cs : List (List Key × Int)}, kvs.map (·.1) = cs.map (·.1) → Reps F (kvs.map (·.2)) (cs.map fun c => .int c.2) → kvs = cs.map fun c => (c.1, V.int c.2)
  | [], [], _, _ => rfl
  | (k, v) :: r, c :: cs, e, .cons a b => by
    rw [List.map_cons, List.map_cons, List.cons.injEq] at e
    cases a
    have e1 : k = c.1 := e.1
    rw [List.map_cons, ← kvs_of e.2 b, e1]
  | [], _ :: _, e, _ => by cases e
theorem rows_reps {F H : Hp} (fh : Same F H) {as : List Addr} {cs : List (List Key × Int)} (h : Paired (fun b (c : List Key × Int) => ∃ q, H b = some (.tup [.ref q, .int c.2]) ∧ H q = some (.tup (c.1.map kV))) as cs) : Reps (tupF F H) (as.map V.ref) (cs.map rowC) := by
  induction h with
  | nil => exact .nil
  | cons a _ ih =>
    obtain ⟨q, h1, h2⟩ := a
    exact .cons (.tup (tupF_at fh h1) (.cons (rep_tupD (tupF_at fh h2)) (.cons (.int _) .nil))) ih
instance snd_sortI [a : Snd K E ψ ta da] : Snd K E ψ (tCB rSortIC (tCons (tBM0 K "dict" DX.rItemsT ta) tNil)) (dSortI da) := ⟨fun {c F H σ Γ φ Q} I eo h q => by
  refine a.frz (φ := fun _ _ => True) (k := fun x Γ1 => ∃ cs : List (List Key × Int), x = .dT (cs.map Prod.fst) (cs.map fun c => .int c.2) ∧ cs.length ≤ 1000 ∧ PySem.W.AllAlike (cs.map encC) ∧ (∀ c ∈ cs, c.1 ≠ []) ∧ ((cs.map Prod.fst).Nodup → φ (.lst ((sortC cs).map rowC)) Γ1)) I eo h fun F1 H1 w x Γ1 I1 s1 rp h1 => ?_
  obtain ⟨cs, rfl, hz, hal, hne, h1⟩ := h1
  cases rp with
  | @dT a kvs _ _ e ek rs =>
    have ekv := kvs_of ek rs
    subst ekv
    have ha := I1.fh _ _ e
    refine ⟨.inr (.inr (.inl ⟨rfl, .inr ⟨_, ha⟩⟩)), a, _, rfl, rfl, ha, fun v hv => ?_⟩
    have sv : Same H1 (upd H1 v (DX.itemsO v a)) := upd_grow hv
    refine ⟨v, a, cs, rfl, upd_same, sv _ _ ha, hz, hal, hne, fun l H' as s' nl nd hl pr => ?_⟩
    have sh : Same H1 H' := sv.trans s'
    have I2 : Is c F1 H' σ Γ1 := I1.grow (Same.refl F1) sh (I1.fh.trans sh) I1.fn fun a o e => .inl e
    have I3 := I2.tups
    have hln : H1 l = none := sv.free nl
    refine q _ H' _ (.lst ((sortC cs).map rowC)) Γ1 I3 (s1.trans tupF_same) ⟨⟨l, _, rfl, ?_, I1.un hln, hl, rows_reps I2.fh pr⟩, (fun z => nomatch z), fun a e => by cases e; exact I1.fresh hln⟩ (h1 nd)
    cases z : tupF F1 H' l with
    | none => rfl
    | some o =>
      rcases tupF_of z with z | ⟨⟨vs, rfl⟩, z⟩
      · rw [I1.unF hln] at z; cases z
      · rw [hl] at z; cases z⟩
end
end Da

set_option Elab.async false
set_option maxRecDepth 100000
set_option maxHeartbeats 4000000
set_option linter.all false
namespace Da
open PySem PySem.Spec PyProof.Rows L2 RZ HmS
/-! ### defs with an owned instance ahead -/
section
variable {K : PySem.W.Frag} [HasT K]
/-- all but the places S grows -/
theorem Is.growX {c : Ct K} {F F' H H' : Hp} {σ : L2.St} {Γ : List En} {S : List Addr} (I : Is c F H σ Γ) (free : ∀ a ∈ S, c.H0 a = none ∧ Not σ Γ a ∧ ∀ vs, H a ≠ some (.tup vs)) (sf : Same F F') (k : ∀ a u, a ∉ S → NT u → H a = some u → H' a = some u) (tb : TbOk K H') (fh : Same F' H') (fn : FN F')
    (nw : ∀ a u, F' a = some u → F a = some u ∨ a ∈ S ∨ Soft (ntH H) a) : Is c F' H' σ Γ := by
  have pS : ∀ p, c.pn = some p → p ∉ S := fun p h m => (I.pp p h).2.2 (free p m).1
  have nf : ∀ a, a ∉ S → F a = none → ¬ Soft (ntH H) a → F' a = none := fun a n h1 h2 => by
    cases q : F' a with
    | none => rfl
    | some o =>
      rcases nw a o q with z | z | z
      · rw [h1] at z
        cases z
      · exact absurd z n
      · exact absurd z h2
  have same : ∀ a o, a ∉ S → H a = some o → Plainly o → H' a = H a := fun a o n h pl => by
    rw [h]
    exact k a o n pl.1 h
  refine ⟨I.f0.trans sf, fh, fun a o h => ?_, fun a o p h => k _ _ (fun m => by rw [(free a m).1] at h; cases h) (I.hn a o h) (I.h0 a o p h), fun p h => ?_, I.len, fun i e h n => ?_, I.dis, fn, tb, I.hn⟩
  · rcases nw a o h with z | z | z
    · exact I.nw a o z
    · exact .inr (.inl (free a z).1)
    · exact .inr (I.soft z)
  · obtain ⟨h1, h2, h3⟩ := I.pp p h
    obtain ⟨u, h4, h5⟩ := h2.pl
    exact ⟨nf p (pS p h) h1 (fun z => h2.hard (z.elim (fun w => by rw [ntH_of h4 h5.1] at w; cases w) fun ⟨vs, w⟩ => .inr ⟨vs, (ntH_some w).1⟩)), h2.of (same p u (pS p h) h4 h5), h3⟩
  · obtain ⟨v, h1, h2⟩ := I.at_ i e h n
    have nS : ∀ a, Adr e v a → a ∉ S := fun a x m => (free a m).2.1 i e v h h1 x
    refine ⟨v, h1, h2.grow sf (fun a x => ?_) (fun a x => ?_) (fun a vs e => k a _ (fun m => (free a m).2.2 vs e) (nt_tup vs) e)⟩
    · obtain ⟨_, _, u, q, pl⟩ := h2.adr x
      exact .inl (same a u (nS a x) q pl)
    · obtain ⟨q1, q2, _⟩ := h2.adr x
      exact nf a (nS a x) q1 q2
def cO (K : PySem.W.Frag) (F H : Hp) (S : List Addr) : Ct K := ⟨F, fun a => if a ∈ S then none else ntH H a, none, none, fun _ _ e => nomatch e⟩
/-- an instance ahead that is changed; nothing is told, nothing raised -/
def spO (K : PySem.W.Frag) [HasT K] (C : Addr) (den : List Str → List O → List D → (List Str → List O → Prop) → Prop) : Sp := fun vs H Q _ => ∃ (p : Addr) (us : List V) (F : Hp) (T : List Addr) (ns : List Str) (os : List O) (ds : List D) (φ : List Str → List O → Prop),
  vs = .ref p :: us ∧ Ow F H (p :: T) (.ref p) (.ins C ns os) ∧ (p :: T).Nodup ∧ Same F H ∧ FN F ∧ TbOk K H ∧ Reps F us ds ∧ den ns os ds φ ∧
  ∀ F' H' ns' os' T', Same F F' → (∀ a u, a ∉ (p :: T) → NT u → H a = some u → H' a = some u) → TbOk K H' → Same F' H' → FN F' → (∀ a u, F' a = some u → F a = some u ∨ Soft (cO K F H (p :: T)).H0 a) → Held (cO K F H (p :: T)) F' H' (.ow (.ins C ns' os') (p :: T')) (.ref p) → φ ns' os' → Q .non H'
def stO (N : List Str) (o : O) (S : List Addr) (ds : List D) : List En := .ow o S :: (ds.map En.d ++ List.replicate (N.length - (ds.length + 1)) .no)
theorem enterO {N : List Str} {F H : Hp} {v : V} {us : List V} {ds : List D} {o : O} {S : List Addr} (h : Ow F H S v o) (nd : S.Nodup) (fh : Same F H) (fn : FN F) (tb : TbOk K H) (r : Reps F us ds) : Is (cO K F H S) F H (L2.start N (v :: us)) (stO N o S ds) := by
  have e1 : L2.start N (v :: us) = some v :: (us.map some ++ List.replicate (N.length - (us.length + 1)) none) := by unfold L2.start; rw [List.map_cons, List.length_cons]; rfl
  rw [e1]
  have low : ∀ (j : Nat) (e : En), (ds.map En.d ++ List.replicate (N.length - (ds.length + 1)) .no)[j]? = some e → e ≠ .no → ∃ x, e = .d x ∧ ds[j]? = some x := fun j e g n => by
    rw [List.getElem?_append] at g
    split at g
    · rename_i hi
      rw [List.length_map] at hi
      rw [List.getElem?_map, List.getElem?_eq_getElem hi] at g
      cases g
      exact ⟨_, rfl, List.getElem?_eq_getElem hi⟩
    · exact absurd (List.mem_replicate.mp (List.mem_of_getElem? g)).2 n
  have own0 : ∀ (j : Nat) (e : En) (v : V) (a : Addr), (stO N o S ds)[j]? = some e → Adr e v a → j = 0 := fun j e v a g x => by
    cases j with
    | zero => rfl
    | succ j =>
      obtain ⟨x', rfl, _⟩ := low j e (by simpa [stO] using g) (adr_no x)
      exact x.elim
  have hs : ∀ a u, (cO K F H S).H0 a = some u → ntH H a = some u := fun a u e => by
    have e : (if a ∈ S then none else ntH H a) = some u := e
    split at e
    · cases e
    · exact e
  refine ⟨Same.refl F, fh, fun a o e => .inl e, fun a u _ e => (ntH_some (hs a u e)).1, (fun q e => nomatch e), ?_, fun i e g n => ?_, fun i j a e e' v v' ij g g' s s' o o' => ij ((own0 i e v a g o).trans (own0 j e' v' a g' o').symm), fn, tb, fun a u e => (ntH_some (hs a u e)).2⟩
  · unfold stO
    rw [List.length_cons, List.length_cons, List.length_append, List.length_append, List.length_map, List.length_map, List.length_replicate, List.length_replicate, r.length]
  · cases i with
    | zero =>
      cases g
      refine ⟨v, rfl, h, nd, fun a m => ?_⟩
      show (if a ∈ S then none else ntH H a) = none
      rw [if_pos m]
    | succ i =>
      obtain ⟨x, rfl, hx⟩ := low i e (by simpa [stO] using g) n
      obtain ⟨w, hv, rp⟩ := r.get hx
      refine ⟨w, ?_, rp⟩
      rw [List.getElem?_cons_succ, List.getElem?_append_left (by rw [List.length_map]; exact (List.getElem?_eq_some_iff.mp hv).1), List.getElem?_map, hv]
      rfl
def poO (C p : Addr) (φ : List Str → List O → Prop) : Po := ⟨fun Γ => ∃ ns os T, Γ[0]? = some (.ow (.ins C ns os) (p :: T)) ∧ φ ns os, fun _ => False, fun _ => False, fun _ => False⟩
theorem ow_ins {F H : Hp} {p : Addr} {T : List Addr} {v : V} {C : Addr} {ns : List Str} {os : List O} (h : Ow F H (p :: T) v (.ins C ns os)) : v = .ref p := by
  cases h with
  | ins _ _ _ _ => rfl
theorem ow_hd {F H : Hp} {S : List Addr} {v : V} {C : Addr} {ns : List Str} {os : List O} (h : Ow F H S v (.ins C ns os)) : ∃ p T, S = p :: T ∧ v = .ref p := by
  cases h with
  | ins _ _ _ _ => exact ⟨_, _, rfl, rfl⟩
theorem bodyO {t : TS} {dt : DSt} {N : List Str} {vs : List V} {H : Hp} {Q : VK} {E' : XK} {C : Addr} {den : List Str → List O → List D → (List Str → List O → Prop) → Prop} [s : SndS K E0 (fun _ => False) t dt] (h : spO K C den vs H Q E')
    (hd : ∀ ns os ds φ p T, den ns os ds φ → dt (stO N (.ins C ns os) (p :: T) ds) (poO C p φ)) : t { nx := fun _ H' => Q .non H', rt := Q } (L2.start N vs) H := by
  obtain ⟨p, us, F, T, ns, os, ds, φ, rfl, ow, nd, fh, fn, tb, r, h1, q⟩ := h
  refine s.run (enterO ow nd fh fn tb r) (fun _ _ _ _ _ z => z) (hd ns os ds φ p T h1) ⟨fun F' H' σ' Γ' I z => ?_, fun F' H' σ' Γ' v e I hh n z => z.elim, fun _ _ _ _ _ z => z.elim, fun _ _ _ _ _ z => z.elim⟩
  obtain ⟨ns', os', T', g, hφ⟩ := z
  obtain ⟨v, _, hh⟩ := I.at_ 0 _ g (fun z => nomatch z)
  cases ow_ins hh.1
  exact q F' H' ns' os' T' I.f0 (fun a u n nt e => I.h0 a u (fun z => nomatch z) (by show (if a ∈ (p :: T) then none else ntH H a) = some u; rw [if_neg n]; exact ntH_of e nt)) I.tb I.fh I.fn I.nw hh hφ
theorem lenO {C : Addr} {den : List Str → List O → List D → (List Str → List O → Prop) → Prop} {n : Nat} {vs : List V} {H : Hp} {Q : VK} {E' : XK} (h : spO K C den vs H Q E') (f : ∀ ns os ds φ, den ns os ds φ → ds.length = n) : vs.length = n + 1 := by
  obtain ⟨p, us, F, T, ns, os, ds, φ, rfl, _, _, _, _, _, r, h1, _⟩ := h
  rw [List.length_cons, r.length, f ns os ds φ h1]
theorem Is.unNt {c : Ct K} {F H : Hp} {σ : L2.St} {Γ : List En} {a : Addr} {S : List Addr} (I : Is c F H σ Γ) (hS : ∀ a ∈ S, c.H0 a = none ∧ Not σ Γ a) (h : (cO K F H S).H0 a = none) : c.H0 a = none ∧ Not σ Γ a := by
  have h : (if a ∈ S then none else ntH H a) = none := h
  split at h
  · rename_i m
    exact hS a m
  · exact ⟨I.unN h, I.freshN h⟩
/-- behind a call that changed what slot i owns -/
theorem Is.calledO {c : Ct K} {F H F' H' : Hp} {σ : L2.St} {Γ : List En} {i : Nat} {v : V} {o o' : O} {S S' : List Addr} (I : Is c F H σ Γ) (g : Γ[i]? = some (.ow o S)) (s : σ[i]? = some (some v)) (sf : Same F F') (k : ∀ a u, a ∉ S → NT u → H a = some u → H' a = some u) (tb : TbOk K H') (fh : Same F' H') (fn : FN F')
    (nw : ∀ a u, F' a = some u → F a = some u ∨ Soft (cO K F H S).H0 a) (hh : Held (cO K F H S) F' H' (.ow o' S') v) : Is c F' H' σ (Γ.set i (.ow o' S')) := by
  obtain ⟨v', hv, I1, r⟩ := I.resOf g (fun z => nomatch z)
  rw [s] at hv
  cases hv
  have free : ∀ a ∈ S, c.H0 a = none ∧ Not σ (Γ.set i .no) a := fun a m => ⟨r.1.2.2 a m, r.2.2 a m⟩
  have I2 := I1.growX (S := S) (fun a m => ⟨(free a m).1, (free a m).2, fun vs e => by
    obtain ⟨_, u, e2, _, n⟩ := r.1.1.at a m
    rw [e2] at e
    cases e
    exact n vs rfl⟩) sf k tb fh fn (fun a u e => (nw a u e).imp id fun z => by
      by_cases m : a ∈ S
      · exact .inl m
      · refine .inr ?_
        rcases z with z | ⟨vs, z⟩
        · have z : (if a ∈ S then none else ntH H a) = none := z
          rw [if_neg m] at z
          exact .inl z
        · have z : (if a ∈ S then none else ntH H a) = some (.tup vs) := z
          rw [if_neg m] at z
          exact .inr ⟨vs, z⟩)
  have I3 := I2.set (v := v) (e := .ow o' S') ⟨⟨hh.1, hh.2.1, fun a m => (I1.unNt free (hh.2.2 a m)).1⟩, (fun z => nomatch z), fun a m => (I1.unNt free (hh.2.2 a m)).2⟩ i
  rw [set_same s, List.set_set] at I3
  exact I3
variable {E : XK} {ψ : Value → Prop} {te ta tb tx : TE} {da db dx : DT} {al : TA} {dal : DA}
/-- x.m(..), x a slot that owns an instance which m changes -/
def dMethO (C : Addr) (m : Str) (i : Nat) (den : List Str → List O → List D → (List Str → List O → Prop) → Prop) (dvs : List V) (dal : DA) : DT := fun Γ φ => (∃ ns os S, Γ[i]? = some (.ow (.ins C ns os) S) ∧ m ∉ ns) ∧ dal Γ fun xs Γ1 => (dvs.all isSc) = true ∧
  ∃ ns os S, Γ1[i]? = some (.ow (.ins C ns os) S) ∧ den ns os (xs ++ dvs.map vD) fun ns2 os2 => ∀ p T2, φ (.d .non) (Γ1.set i (.ow (.ins C ns2 os2) (p :: T2)))
theorem lookup_none {f : Str} : ∀ {fs : List (Str × V)}, f ∉ fs.map (·.1) → fs.lookup f = none
  | [], _ => rfl
  | (g, v) :: r, h => by
    rw [List.map_cons, List.mem_cons, not_or] at h
    rw [List.lookup_cons]
    have e : (f == g) = false := by
      cases q : f == g with
      | false => rfl
      | true => exact absurd (beq_iff_eq.mp q) h.1
    rw [e]
    exact lookup_none h.2
instance snd_methO {C : Addr} {m : Str} {i : Nat} {den : List Str → List O → List D → (List Str → List O → Prop) → Prop} {dvs : List V} {E' : XK} [sl : SndA K E ψ al dal] : Snd K E ψ (tMeth C m (spO K C den) dvs E' (tVar i) al) (dMethO C m i den dvs dal) := ⟨fun {c F H σ Γ φ Q} I eo h q => by
  obtain ⟨⟨ns0, os0, S0, g0, hm⟩, h⟩ := h
  obtain ⟨v, hv, hh0⟩ := I.at_ i _ g0 (fun z => nomatch z)
  obtain ⟨p, T0, eS, ev⟩ := ow_hd hh0.1
  subst ev eS
  refine ⟨_, hv, ?_⟩
  obtain ⟨dx, fs, hp, hl⟩ : ∃ dx fs, H p = some (.ins C dx fs) ∧ fs.lookup m = none := by
    have z := hh0.1
    cases z with
    | ins _ e1 e2 _ => exact ⟨_, _, e1, lookup_none (by rw [e2]; exact hm)⟩
  refine ⟨p, dx, fs, rfl, hp, hl, ?_⟩
  refine sl.run I eo h fun F1 H1 vs xs Γ1 I1 s1 r1 h1 => ?_
  obtain ⟨hsc, ns, os, S, g, h1⟩ := h1
  obtain ⟨v', hv', hh⟩ := I1.at_ i _ g (fun z => nomatch z)
  rw [hv] at hv'
  cases hv'
  obtain ⟨p', T, eS, ev⟩ := ow_hd hh.1
  cases ev
  subst eS
  refine ⟨p, vs ++ dvs, F1, T, ns, os, xs ++ dvs.map vD, _, rfl, hh.1, hh.2.1, I1.fh, I1.fn, I1.tb, r1.app (Reps.scs hsc), h1, fun F' H' ns' os' T' sf k tb fh fn nw h2 hφ => ?_⟩
  exact q F' H' .non (.d .non) _ (I1.calledO g hv sf k tb fh fn nw h2) (s1.trans sf) (Res.d .non) (hφ p T')⟩
/-- C(..) -/
def dMake (C : Addr) (den : List Str → List O → List D → (List Str → List O → Prop) → Prop) (dvs : List V) (dal : DA) : DT := fun Γ φ => dal Γ fun xs Γ1 => (dvs.all isSc) = true ∧ den [] [] (xs ++ dvs.map vD) fun ns2 os2 => ∀ p T2, φ (.ow (.ins C ns2 os2) (p :: T2)) Γ1
instance snd_make {C : Addr} {den : List Str → List O → List D → (List Str → List O → Prop) → Prop} {dvs : List V} {E' : XK} [sl : SndA K E ψ al dal] : Snd K E ψ (tMake C (spO K C den) dvs E' al) (dMake C den dvs dal) := ⟨fun {c F H σ Γ φ Q} I eo h q => by
  refine sl.run I eo h fun F1 H1 vs xs Γ1 I1 s1 r1 h1 => ?_
  obtain ⟨hsc, h1⟩ := h1
  intro x dx hx hdx nx
  have I2 : Is c F1 (upd H1 dx (.own x)) σ Γ1 := I1.newH hdx
  have hx2 : (upd H1 dx (.own x)) x = none := by rw [upd_ne nx.symm]; exact hx
  have I3 : Is c F1 (upd (upd H1 dx (.own x)) x (.ins C dx [])) σ Γ1 := I2.newH hx2
  have hat : (upd (upd H1 dx (.own x)) x (.ins C dx [])) x = some (.ins C dx []) := upd_same
  refine ⟨x, vs ++ dvs, F1, [], [], [], xs ++ dvs.map vD, _, rfl, .ins (I1.unF hx) hat rfl .nil, (by simp), I3.fh, I3.fn, I3.tb, r1.app (Reps.scs hsc), h1, fun F' H' ns' os' T' sf k tb fh fn nw h2 hφ => ⟨rfl, ?_⟩⟩
  have free : ∀ a ∈ [x], c.H0 a = none ∧ Not σ Γ1 a := fun a m => by
    cases List.mem_singleton.mp m
    exact ⟨I1.un hx, I1.fresh hx⟩
  have I4 : Is c F' H' σ Γ1 := I3.growX (S := [x]) (fun a m => ⟨(free a m).1, (free a m).2, fun vs e => by
    cases List.mem_singleton.mp m
    rw [hat] at e
    cases e⟩) sf k tb fh fn (fun a u e => (nw a u e).imp id fun z => by
      by_cases m : a ∈ [x]
      · exact .inl m
      · refine .inr ?_
        rcases z with z | ⟨vs, z⟩
        · have z : (if a ∈ [x] then none else ntH _ a) = none := z
          rw [if_neg m] at z
          exact .inl z
        · have z : (if a ∈ [x] then none else ntH _ a) = some (.tup vs) := z
          rw [if_neg m] at z
          exact .inr ⟨vs, z⟩)
  exact q F' H' (.ref x) (.ow (.ins C ns' os') (x :: T')) Γ1 I4 (s1.trans sf) ⟨⟨h2.1, h2.2.1, fun a m => (I3.unNt free (h2.2.2 a m)).1⟩, (fun z => nomatch z), fun a m => (I3.unNt free (h2.2.2 a m)).2⟩ (hφ x T')⟩
end
end Da

set_option Elab.async false
set_option maxRecDepth 100000
set_option maxHeartbeats 4000000
set_option linter.all false
namespace Da
open PySem PySem.Spec PyProof.Rows L2 RZ HmS
/-! ### looking at what a slot owns -/
mutual
def D.imm : D → Bool
  | .tup xs => imms xs
  | .lst _ => false
  | .dK _ _ => false
  | .dT _ _ => false
  | .ins _ _ _ => false
  | _ => true
def imms : List D → Bool
  | [] => true
  | x :: r => x.imm && imms r
end
mutual
theorem Rep.im {F F' : Hp} (k : ∀ a vs, F a = some (.tup vs) → F' a = some (.tup vs)) : ∀ {x : D} {v : V}, Rep F v x → x.imm = true → Rep F' v x
  | .non, _, .non, _ => .non
  | .bl b, _, .bl _, _ => .bl b
  | .int i, _, .int _, _ => .int i
  | .str s, _, .str _, _ => .str s
  | .tup xs, _, .tup e r, h => .tup (k _ _ e) (Reps.im k r h)
  | .lst _, _, _, h => absurd h Bool.false_ne_true
  | .dK _ _, _, _, h => absurd h Bool.false_ne_true
  | .dT _ _, _, _, h => absurd h Bool.false_ne_true
  | .ins _ _ _, _, _, h => absurd h Bool.false_ne_true
theorem Reps.im {F F' : Hp} (k : ∀ a vs, F a = some (.tup vs) → F' a = some (.tup vs)) : ∀ {xs : List D} {vs : List V}, Reps F vs xs → imms xs = true → Reps F' vs xs
  | [], _, .nil, _ => .nil
  | x :: xs, _, .cons a b, h => by
    have h : (x.imm && imms xs) = true := h
    rw [Bool.and_eq_true] at h
    exact .cons (Rep.im k a h.1) (Reps.im k b h.2)
end
theorem imms_of : ∀ {xs : List D}, (∀ x ∈ xs, x.imm = true) → imms xs = true
  | [], _ => rfl
  | x :: r, h => by
    show (x.imm && imms r) = true
    rw [h x List.mem_cons_self, imms_of fun y hy => h y (List.mem_cons_of_mem _ hy)]
    rfl
def immE (e : En) (k : En → Prop) : Prop := match e with
  | .d z => z.imm = true ∧ k (.d z)
  | .lst xs => imms xs = true ∧ k (.lst xs)
  | _ => False
def tBrw (_ : Nat) (te : TE) : TE := te
theorem pe_brw {X : Cx} {e : Expr} {te : TE} (i : Nat) (h : PE X e te) : PE X e (tBrw i te) := h
def dBrw (i : Nat) (da : DT) : DT := fun Γ φ => ∃ o S, Γ[i]? = some (.ow o S) ∧ da ((Γ.map onlyE).set i (.d o.dt)) fun e _ => immE e fun e' => φ e' Γ
section
variable {K : PySem.W.Frag} [HasT K] {E : XK} {ψ : Value → Prop} {te ta tb tx : TE} {da db dx : DT}
theorem EOk.low {c : Ct K} {F F1 H : Hp} {σ : L2.St} {Γ : List En} (I : Is c F H σ Γ) (eo : EOk c E ψ) : EOk (c0 K F1 H) E ψ := fun C H' k1 _ tb' z => eo C H' (fun a u q e => k1 a u (fun z => nomatch z) (ntH_of (I.h0 a u q e) (I.hn a u e))) (fun p hp => by
  obtain ⟨_, h2, _⟩ := I.pp p hp
  obtain ⟨x1, x2, x3, x4, e, rr⟩ := h2
  exact ⟨x1, x2, x3, x4, k1 _ _ (fun z => nomatch z) (ntH_of e fun _ z => nomatch z), rr⟩) tb' z
instance snd_brw {i : Nat} [sa : Snd K E ψ ta da] : Snd K E ψ (tBrw i ta) (dBrw i da) := ⟨fun {c F H σ Γ φ Q} I eo h q => by
  obtain ⟨o, S, g, h⟩ := h
  obtain ⟨v, hv, I0, r⟩ := I.resOf g (fun z => nomatch z)
  obtain ⟨I1, s1, rep⟩ := I0.moreS r.1.1 r.1.2.2 r.2.2
  have nS : ∀ a u, frzF F H S a = some u → a ∉ S → F a = some u ∨ Soft (ntH H) a := fun a u e m => by
    unfold frzF at e
    rw [if_neg m] at e
    exact (tupF_of e).imp id fun ⟨⟨vs, z⟩, e2⟩ => by
      subst z
      exact soft_nt (.inr ⟨vs, e2⟩)
  have J := (I1.only (NS.refl H) I1.tb).set (v := v) (e := .d o.dt) (Res.d rep) i
  rw [set_same hv, List.map_set, List.set_set] at J
  refine sa.run J (EOk.low I eo) h fun F2 H2 w e Γ2 I2 s2 r2 z => ?_
  have hS : ∀ a ∈ S, F2 a = H a := fun a m => by
    obtain ⟨_, u, e2, _, _⟩ := r.1.1.at a m
    rw [e2]
    refine s2 a u ?_
    unfold frzF
    rw [if_pos m]
    exact e2
  have tS : ∀ a vs, F2 a = some (.tup vs) → a ∉ S := fun a vs e2 m => by
    obtain ⟨_, u, e3, _, n⟩ := r.1.1.at a m
    rw [hS a m, e3] at e2
    cases e2
    exact n vs rfl
  have sf : Same F (fun a => if a ∈ S then none else F2 a) := fun a u e2 => by
    show (if a ∈ S then none else F2 a) = some u
    rw [if_neg fun m => by rw [(r.1.1.at a m).1] at e2; cases e2]
    exact s2 a u (s1 a u e2)
  have low : ∀ a u, (fun a => if a ∈ S then none else F2 a) a = some u → F2 a = some u ∧ a ∉ S := fun a u e2 => by
    have e2 : (if a ∈ S then none else F2 a) = some u := e2
    split at e2
    · cases e2
    · rename_i m
      exact ⟨e2, m⟩
  have sh : NS H H2 := fun b u n e2 => I2.h0 b u (fun z => nomatch z) (ntH_of e2 n)
  have I3 : Is c (fun a => if a ∈ S then none else F2 a) H2 σ Γ := I.growN sf sh I2.tb (fun a u e2 => I2.fh a u (low a u e2).1) (fun a u e2 => I2.fn a u (low a u e2).1) fun a u e2 => by
    obtain ⟨e3, m⟩ := low a u e2
    rcases I2.nw a u e3 with z | z
    · exact nS a u z m
    · exact .inr z
  have kt : ∀ a vs, F2 a = some (.tup vs) → (fun a => if a ∈ S then none else F2 a) a = some (.tup vs) := fun a vs e2 => by
    show (if a ∈ S then none else F2 a) = _
    rw [if_neg (tS a vs e2)]
    exact e2
  cases e with
  | d x => exact q _ H2 w (.d x) Γ I3 sf (Res.d (Rep.im kt r2.1 z.1)) z.2
  | lst xs =>
    obtain ⟨a, vs, rfl, f2, h0, ha, rs⟩ := r2.1
    refine q _ H2 _ (.lst xs) Γ I3 sf ⟨⟨a, vs, rfl, ?_, I.unN h0, ha, Reps.im kt rs z.1⟩, (fun z => nomatch z), fun b x => by cases x; exact I.freshN h0⟩ z.2
    show (if a ∈ S then none else F2 a) = none
    split
    · rfl
    · exact f2
  | _ => exact z.elim⟩
/-! ### changing an instance that a slot owns -/
theorem Ows.app {F H : Hp} : ∀ {S T : List Addr} {vs us : List V} {os ps : List O}, Ows F H S vs os → Ows F H T us ps → Ows F H (S ++ T) (vs ++ us) (os ++ ps)
  | _, _, _, _, _, _, .nil, h => h
  | _, _, _, _, _, _, .cons a b, h => by
    rw [List.append_assoc]
    exact .cons a (Ows.app b h)
theorem Ows.one {F H : Hp} {S : List Addr} {v : V} {o : O} (h : Ow F H S v o) : Ows F H S [v] [o] := by
  have z : Ows F H (S ++ []) [v] [o] := .cons h .nil
  rw [List.append_nil] at z
  exact z
theorem Ows.split {F H : Hp} : ∀ {os ps : List O} {S : List Addr} {vs : List V}, Ows F H S vs (os ++ ps) → ∃ S1 S2 vs1 vs2, S = S1 ++ S2 ∧ vs = vs1 ++ vs2 ∧ Ows F H S1 vs1 os ∧ Ows F H S2 vs2 ps
  | [], _, S, vs, h => ⟨[], S, [], vs, rfl, rfl, .nil, h⟩
  | o :: os, ps, _, _, .cons a b => by
    obtain ⟨S1, S2, vs1, vs2, e1, e2, h1, h2⟩ := Ows.split b
    subst e1 e2
    exact ⟨_ ++ S1, S2, _ :: vs1, vs2, (List.append_assoc ..).symm, rfl, .cons a h1, h2⟩
theorem Ows.un1 {F H : Hp} {S : List Addr} {vs : List V} {o : O} (h : Ows F H S vs [o]) : ∃ v, vs = [v] ∧ Ow F H S v o := by
  cases h with
  | cons a b =>
    cases b with
    | nil =>
      rw [List.append_nil]
      exact ⟨_, rfl, a⟩
theorem Ows.ds {F H : Hp} : ∀ {ds : List D} {S : List Addr} {vs : List V}, Ows F H S vs (ds.map O.d) → S = [] ∧ Reps F vs ds
  | [], _, _, .nil => ⟨rfl, .nil⟩
  | d :: ds, _, _, .cons a b => by
    obtain ⟨e, r⟩ := Ows.ds b
    subst e
    cases a with
    | d r1 => exact ⟨rfl, .cons r1 r⟩
theorem Ows.of {F H : Hp} : ∀ {ds : List D} {vs : List V}, Reps F vs ds → Ows F H [] vs (ds.map O.d)
  | _, _, .nil => .nil
  | _, _, .cons a b => .cons (S := []) (.d a) (Ows.of b)
/-- a place of the slot's changes, places may be added -/
theorem Is.chgO {c : Ct K} {F H : Hp} {σ : L2.St} {Γ : List En} {i : Nat} {v : V} {o o' : O} {S S' : List Addr} {m : Addr} {u : HO} (I : Is c F H σ Γ) (g : Γ[i]? = some (.ow o S)) (s : σ[i]? = some (some v)) (hm : m ∈ S) (new : Ow F (upd H m u) S' v o') (nd : S'.Nodup)
    (sub : ∀ a ∈ S', a ∈ S ∨ (c.H0 a = none ∧ Not σ Γ a)) : Is c F (upd H m u) σ (Γ.set i (.ow o' S')) := by
  obtain ⟨v', hv, I1, r⟩ := I.resOf g (fun z => nomatch z)
  rw [s] at hv
  cases hv
  obtain ⟨fm, u0, e0, p0, n0⟩ := r.1.1.at m hm
  have h0 := r.1.2.2 m hm
  have I2 := I1.chg (o := u) ⟨fm, h0, fun z => (I.pp m z).2.2 h0, r.2.2 m hm⟩ e0 p0 n0
  have sb : ∀ a ∈ S', c.H0 a = none ∧ Not σ (Γ.set i .no) a := fun a h => (sub a h).elim (fun z => ⟨r.1.2.2 a z, r.2.2 a z⟩) fun z => ⟨z.1, z.2.forget i⟩
  have I3 := I2.set (v := v) (e := .ow o' S') ⟨⟨new, nd, fun a h => (sb a h).1⟩, (fun z => nomatch z), fun a h => (sb a h).2⟩ i
  rw [set_same s, List.set_set] at I3
  exact I3
/-- what an expression told, as a part of a tree -/
def asO (e : En) (k : O → List Addr → Prop) : Prop := match e with
  | .d x => k (.d x) []
  | .lst xs => ∀ m, k (.lst (xs.map .d)) [m]
  | .dK ks xs => ∀ m, k (.dK ks (xs.map .d)) [m]
  | .dT ks xs => ∀ m, k (.dT ks (xs.map .d)) [m]
  | .ow o S => k o S
  | _ => False
theorem asO_of {c : Ct K} {F H : Hp} {e : En} {v : V} {k : O → List Addr → Prop} (h : Held c F H e v) (z : asO e k) : ∃ o S, Ow F H S v o ∧ S.Nodup ∧ (∀ a ∈ S, c.H0 a = none ∧ Adr e v a) ∧ k o S := by
  cases e with
  | d x => exact ⟨_, _, .d h, List.nodup_nil, (fun _ m => nomatch m), z⟩
  | lst xs =>
    obtain ⟨a, vs, rfl, f, h0, ha, rs⟩ := h
    exact ⟨_, [a], .lst f ha (.of rs), (by simp), (fun b m => by cases List.mem_singleton.mp m; exact ⟨h0, rfl⟩), z a⟩
  | dK ks xs =>
    obtain ⟨a, vs, rfl, f, h0, ha, ek, rs⟩ := h
    exact ⟨_, [a], .dK f ha ek (.of rs), (by simp), (fun b m => by cases List.mem_singleton.mp m; exact ⟨h0, rfl⟩), z a⟩
  | dT ks xs =>
    obtain ⟨a, vs, rfl, f, h0, ha, ek, rs⟩ := h
    exact ⟨_, [a], .dT f ha ek (.of rs), (by simp), (fun b m => by cases List.mem_singleton.mp m; exact ⟨h0, rfl⟩), z a⟩
  | ow o S => exact ⟨o, S, h.1, h.2.1, fun a m => ⟨h.2.2 a m, m⟩, z⟩
  | _ => exact z.elim
theorem putF_new {f : Str} {y : V} : ∀ {fs : List (Str × V)}, f ∉ fs.map (·.1) → putF f y fs = fs ++ [(f, y)]
  | [], _ => rfl
  | (g, w) :: r, h => by
    rw [List.map_cons, List.mem_cons, not_or] at h
    show (if g = f then _ else (g, w) :: putF f y r) = _
    rw [if_neg fun z => h.1 z.symm, putF_new h.2]
    rfl
/-- x.f = e, a new field -/
def dFSet (K : PySem.W.Frag) (i : Nat) (f : Str) (da : DT) : DSt := fun Γ P => da Γ fun e Γ1 => asO e fun o T2 => ∃ C ns os p T, Γ1[i]? = some (.ow (.ins C ns os) (p :: T)) ∧ Cls K C ∧ NoAttr K C f ∧ f ∉ ns ∧ ns.length < 1000 ∧ P.nx (Γ1.set i (.ow (.ins C (ns ++ [f]) (os ++ [o])) (p :: (T ++ T2))))
instance snds_fset {i : Nat} {f : Str} [a : Snd K E ψ ta da] : SndS K E ψ (sFld K (tVar i) ta f) (dFSet K i f da) := ⟨fun {c F H σ Γ P D} I eo h m => by
  refine a.run I eo h fun F1 H1 y e Γ1 I1 s1 r1 h1 => ?_
  obtain ⟨o, T2, ow2, nd2, ad2, C, ns, os, p, T, g, cl, na, nf, nl, h1⟩ := asO_of r1.1 h1
  obtain ⟨v, hv, hh⟩ := I1.at_ i _ g (fun z => nomatch z)
  cases ow_ins hh.1
  have oo := hh.1
  have nd := hh.2.1
  cases oo with
  | @ins _ _ _ dx fs _ _ fp ep en er =>
    refine ⟨_, hv, p, C, dx, fs, rfl, ep, cl, na, by rw [← en, List.length_map] at nl; exact nl, ?_⟩
    have pT := (List.nodup_cons.mp nd).1
    have n2 : ∀ a ∈ T2, a ∉ p :: T := fun a h2 h3 => r1.2.2 a (ad2 a h2).2 i _ _ g hv h3
    have p2 : p ∉ T2 := fun h2 => n2 p h2 List.mem_cons_self
    have kt : ∀ {u : HO} a vs, H1 a = some (.tup vs) → (upd H1 p u) a = some (.tup vs) := fun a vs e2 => by
      rw [upd_ne fun z => by rw [z, ep] at e2; cases e2]
      exact e2
    refine m.nx _ _ _ _ (I1.chgO (o' := .ins C (ns ++ [f]) (os ++ [o])) (S' := p :: (T ++ T2)) g hv List.mem_cons_self ?_ ?_ fun a h2 => ?_) h1
    · rw [putF_new (by rw [en]; exact nf)]
      refine .ins fp upd_same (by rw [List.map_append, en]; rfl) ?_
      rw [List.map_append]
      exact (er.grow (Same.refl F1) kt fun a h2 => ⟨upd_ne fun z => pT (by rw [← z]; exact h2), (er.at a h2).1⟩).app (.one (ow2.grow (Same.refl F1) kt fun a h2 => ⟨upd_ne fun z => p2 (by rw [← z]; exact h2), (ow2.at a h2).1⟩))
    · refine List.nodup_cons.mpr ⟨fun h2 => (List.mem_append.mp h2).elim pT p2, List.nodup_append.mpr ⟨(List.nodup_cons.mp nd).2, nd2, fun a h2 b h3 z => ?_⟩⟩
      subst z
      exact n2 a h3 (List.mem_cons_of_mem _ h2)
    · rcases List.mem_cons.mp h2 with z | z
      · exact .inl (by rw [z]; exact List.mem_cons_self)
      · rcases List.mem_append.mp z with z | z
        · exact .inl (List.mem_cons_of_mem _ z)
        · exact .inr ⟨(ad2 a z).1, r1.2.2 a (ad2 a z).2⟩⟩
/-- the last field of an owned instance is a dict -/
theorem ow_last {F H : Hp} {S : List Addr} {v : V} {C : Addr} {ns : List Str} {f : Str} {os : List O} {ks : List (List Key)} {ds : List D} (h : Ow F H S v (.ins C (ns ++ [f]) (os ++ [.dT ks (ds.map .d)]))) :
    ∃ p S1 m dx fs kvs, S = p :: (S1 ++ [m]) ∧ v = .ref p ∧ F p = none ∧ H p = some (.ins C dx (fs ++ [(f, .ref m)])) ∧ fs.map (·.1) = ns ∧ Ows F H S1 (fs.map (·.2)) os ∧ F m = none ∧ H m = some (.dT kvs) ∧ kvs.map (·.1) = ks ∧ Reps F (kvs.map (·.2)) ds := by
  cases h with
  | @ins S0 p _ dx fs _ _ fp ep en er =>
    obtain ⟨S1, S2, vs1, vs2, e1, e2, h1, h2⟩ := er.split
    obtain ⟨w, e3, h3⟩ := h2.un1
    subst e1 e3
    cases h3 with
    | @dT S3 m kvs _ _ fm em ek er2 =>
      obtain ⟨e4, r⟩ := er2.ds
      subst e4
      have hn : fs ≠ [] := fun z => by
        rw [z] at en
        simp at en
      obtain ⟨fs1, q, rfl⟩ : ∃ fs1 q, fs = fs1 ++ [q] := ⟨fs.dropLast, fs.getLast hn, (List.dropLast_concat_getLast hn).symm⟩
      rw [List.map_append] at en e2
      obtain ⟨en1, en2⟩ := List.append_inj' en rfl
      obtain ⟨ev1, ev2⟩ := List.append_inj' e2 rfl
      have eq : q = (f, .ref m) := by
        cases q with
        | mk q1 q2 =>
          have x1 : [q1] = [f] := en2
          have x2 : [q2] = [.ref m] := ev2
          cases x1
          cases x2
          rfl
      subst eq
      rw [← ev1] at h1
      exact ⟨p, S1, m, dx, fs1, kvs, rfl, rfl, fp, ep, en1, h1, fm, em, ek, r⟩
theorem look_last {f : Str} {y : V} : ∀ {fs : List (Str × V)}, f ∉ fs.map (·.1) → (fs ++ [(f, y)]).lookup f = some y
  | [], _ => by
    show List.lookup f [(f, y)] = some y
    rw [List.lookup_cons, beq_self_eq_true]
  | (g, w) :: r, h => by
    rw [List.map_cons, List.mem_cons, not_or] at h
    rw [List.cons_append, List.lookup_cons]
    have e : (f == g) = false := by
      cases q : f == g with
      | false => rfl
      | true => exact absurd (beq_iff_eq.mp q) h.1
    rw [e]
    exact look_last h.2
/-- x.f[k] = e, the last field -/
def fputK (K : PySem.W.Frag) (i j : Nat) (f : Str) (N : List En → Prop) (x : D) (Γ1 : List En) : Prop := ∃ (C : Addr) (ns : List Str) (os : List O) (ks : List (List Key)) (ds : List D) (S : List Addr) (y : D) (k : List Key), Γ1[i]? = some (.ow (.ins C (ns ++ [f]) (os ++ [O.dT ks (ds.map O.d)])) S) ∧ f ∉ ns ∧ Cls K C ∧ NoAttr K C f ∧ Γ1[j]? = some (.d y) ∧ keysOf y = some k ∧ ks.length ≤ 100000 ∧
  N (Γ1.set i (.ow (.ins C (ns ++ [f]) (os ++ [O.dT (putTs ks k) ((putTD ks ds k x).map O.d)])) S))
def dFPut (K : PySem.W.Frag) (i j : Nat) (f : Str) (da : DT) : DSt := fun Γ P => da Γ fun e Γ1 => wf e fun x => fputK K i j f P.nx x Γ1
theorem new_last {F H : Hp} {C p m dx : Addr} {S1 : List Addr} {ns : List Str} {f : Str} {os : List O} {fs : List (Str × V)} {kvs : List (List Key × V)} {ks : List (List Key)} {ds : List D} {u : HO} (nd : (p :: (S1 ++ [m])).Nodup) (fp : F p = none) (ep : H p = some (.ins C dx (fs ++ [(f, .ref m)]))) (en : fs.map (·.1) = ns) (h1 : Ows F H S1 (fs.map (·.2)) os) (fm : F m = none)
    (em : H m = some u) (nu : ∀ vs, u ≠ .tup vs) (ek : kvs.map (·.1) = ks) (r : Reps F (kvs.map (·.2)) ds) : Ow F (upd H m (.dT kvs)) (p :: (S1 ++ [m])) (.ref p) (.ins C (ns ++ [f]) (os ++ [.dT ks (ds.map .d)])) := by
  have pm : p ≠ m := fun z => (List.nodup_cons.mp nd).1 (by rw [z]; simp)
  have sm : ∀ a ∈ S1, a ≠ m := fun a h2 z => (List.nodup_append.mp (List.nodup_cons.mp nd).2).2.2 a h2 m (by simp) z
  refine .ins fp (by rw [upd_ne pm]; exact ep) (by rw [List.map_append, en]; rfl) ?_
  rw [List.map_append]
  exact (h1.grow (Same.refl F) (fun a vs e2 => by
    rw [upd_ne fun z => by rw [z, em] at e2; cases e2; exact nu vs rfl]
    exact e2) fun a h2 => ⟨upd_ne (sm a h2), (h1.at a h2).1⟩).app (.one (.dT fm upd_same ek (.of r)))
instance snds_fput {i j : Nat} {f : Str} [a : Snd K E ψ ta da] : SndS K E ψ (sDPut (tFld K (tVar i) f) (tVar j) ta) (dFPut K i j f da) := ⟨fun {c F H σ Γ P DD} I eo h m => by
  refine a.frz (φ := fun _ _ => True) (k := fun x Γ1 => fputK K i j f P.nx x Γ1) I eo h fun F1 H1 w x Γ1 I1 s1 rx h1 => ?_
  obtain ⟨C, ns, os, ks, ds, S, y, k, g, nf, cl, na, gj, hy, kl, h1⟩ := h1
  obtain ⟨v, hv, hh⟩ := I1.at_ i _ g (fun z => nomatch z)
  obtain ⟨w2, hw, ry⟩ := I1.at_ j _ gj (fun z => nomatch z)
  obtain ⟨p, S1, d, dx, fs, kvs, eS, ev, fp, ep, en, h3, fm, em, ek, r⟩ := ow_last hh.1
  subst ev eS
  obtain ⟨b, rfl, hb⟩ := keysOf_rep ry hy
  refine ⟨_, hv, p, C, dx, _, _, rfl, ep, cl, na, look_last (by rw [en]; exact nf), _, hw, d, _, rfl, DPut.t (k := k) em (I1.fh _ _ hb) (by rw [← ek, List.length_map] at kl; exact Nat.lt_of_le_of_lt kl (by decide)), ?_⟩
  obtain ⟨k1, k2⟩ := putT_rep (j := k) rx ek r
  exact m.nx _ _ _ _ (I1.chgO (S' := p :: (S1 ++ [d])) g hv (by simp) (new_last hh.2.1 fp ep en h3 fm em (fun vs z => nomatch z) k1 k2) hh.2.1 fun a h2 => .inl h2) h1⟩
def dropTs (ks : List (List Key)) (j : List Key) : List (List Key) := ks.filter fun k => decide (k ≠ j)
def dropTD : List (List Key) → List D → List Key → List D
  | k :: ks, x :: xs, j => if k ≠ j then x :: dropTD ks xs j else dropTD ks xs j
  | _, _, _ => []
theorem dropT_rep {F : Hp} {j : List Key} : ∀ {kvs : List (List Key × V)} {ks : List (List Key)} {xs : List D}, kvs.map (·.1) = ks → Reps F (kvs.map (·.2)) xs → (dropK kvs j).map (·.1) = dropTs ks j ∧ Reps F ((dropK kvs j).map (·.2)) (dropTD ks xs j)
  | [], _, _, e, .nil => by
    cases e
    exact ⟨rfl, .nil⟩
  | (k, v) :: r, _, x :: xs, e, .cons a b => by
    cases e
    obtain ⟨h1, h2⟩ := dropT_rep (j := j) rfl b
    have e1 : dropTD (k :: r.map (·.1)) (x :: xs) j = if k ≠ j then x :: dropTD (r.map (·.1)) xs j else dropTD (r.map (·.1)) xs j := rfl
    by_cases z : k ≠ j
    · have f1 : dropK ((k, v) :: r) j = (k, v) :: dropK r j := by
        unfold dropK
        rw [List.filter_cons, if_pos (by simpa using z)]
      have f2 : dropTs (k :: r.map (·.1)) j = k :: dropTs (r.map (·.1)) j := by
        unfold dropTs
        rw [List.filter_cons, if_pos (by simpa using z)]
      rw [f1]
      refine ⟨by show k :: (dropK r j).map (·.1) = dropTs (k :: r.map (·.1)) j; rw [f2, h1], ?_⟩
      show Reps F (v :: (dropK r j).map (·.2)) (dropTD (k :: r.map (·.1)) (x :: xs) j)
      rw [e1, if_pos z]
      exact .cons a h2
    · have f1 : dropK ((k, v) :: r) j = dropK r j := by
        unfold dropK
        rw [List.filter_cons, if_neg (by simpa using z)]
      have f2 : dropTs (k :: r.map (·.1)) j = dropTs (r.map (·.1)) j := by
        unfold dropTs
        rw [List.filter_cons, if_neg (by simpa using z)]
      rw [f1]
      refine ⟨by show (dropK r j).map (·.1) = dropTs (k :: r.map (·.1)) j; rw [f2, h1], ?_⟩
      show Reps F ((dropK r j).map (·.2)) (dropTD (k :: r.map (·.1)) (x :: xs) j)
      rw [e1, if_neg z]
      exact h2
/-- del x.f[k], the last field -/
def dFDel (K : PySem.W.Frag) (i j : Nat) (f : Str) : DSt := fun Γ P => ∃ C ns os ks ds S y k, Γ[i]? = some (.ow (.ins C (ns ++ [f]) (os ++ [.dT ks (ds.map .d)])) S) ∧ f ∉ ns ∧ Cls K C ∧ NoAttr K C f ∧ Γ[j]? = some (.d y) ∧ keysOf y = some k ∧ (lookD ks ds k).isSome = true ∧
  P.nx (Γ.set i (.ow (.ins C (ns ++ [f]) (os ++ [.dT (dropTs ks k) ((dropTD ks ds k).map .d)])) S))
instance snds_fdel {i j : Nat} {f : Str} : SndS K E ψ (HmQ.sDDelT (tFld K (tVar i) f) (tVar j)) (dFDel K i j f) := ⟨fun {c F H σ Γ P D} I eo h m => by
  obtain ⟨C, ns, os, ks, ds, S, y, k, g, nf, cl, na, gj, hy, hs, h1⟩ := h
  obtain ⟨v, hv, hh⟩ := I.at_ i _ g (fun z => nomatch z)
  obtain ⟨w2, hw, ry⟩ := I.at_ j _ gj (fun z => nomatch z)
  obtain ⟨p, S1, d, dx, fs, kvs, eS, ev, fp, ep, en, h3, fm, em, ek, r⟩ := ow_last hh.1
  subst ev eS
  obtain ⟨b, rfl, hb⟩ := keysOf_rep ry hy
  refine ⟨_, hv, p, C, dx, _, _, rfl, ep, cl, na, look_last (by rw [en]; exact nf), _, hw, d, b, kvs, k, rfl, rfl, em, I.fh _ _ hb, by rw [look_someT ek r]; exact hs, ?_⟩
  obtain ⟨k1, k2⟩ := dropT_rep (j := k) ek r
  exact m.nx _ _ _ _ (I.chgO (S' := p :: (S1 ++ [d])) g hv (by simp) (new_last hh.2.1 fp ep en h3 fm em (fun vs z => nomatch z) k1 k2) hh.2.1 fun a h2 => .inl h2) h1⟩
/-- d.get(k, x), d[k], d frozen -/
def dGet2X (da db dx : DT) : DT := fun Γ φ => da Γ fun e Γ1 => wf e fun x => (∃ ks xs, x = .dT ks xs) ∧ db Γ1 fun e' Γ2 => wf e' fun y => dx Γ2 fun e2 Γ3 => wf e2 fun z => ∃ ks xs k, x = .dT ks xs ∧ keysOf y = some k ∧ φ (.d ((lookD ks xs k).getD z)) Γ3
instance (priority := 500) snd_get2X [a : Snd K E ψ ta da] [b : Snd K E ψ tb db] [x : Snd K E ψ tx dx] : Snd K E ψ (tDGet2 ta tb tx) (dGet2X da db dx) := ⟨fun {c F H σ Γ φ Q} I eo h q => by
  refine a.frz (φ := fun _ _ => True) (k := fun x Γ1 => (∃ ks xs, x = .dT ks xs) ∧ db Γ1 fun e' Γ2 => wf e' fun y => dx Γ2 fun e2 Γ3 => wf e2 fun z => ∃ ks xs k, x = .dT ks xs ∧ keysOf y = some k ∧ φ (.d ((lookD ks xs k).getD z)) Γ3) I eo h fun F1 H1 w d Γ1 I1 s1 rd h1 => ?_
  obtain ⟨⟨ks0, xs0, ed⟩, h1⟩ := h1
  have isd : ∃ p, w = .ref p ∧ IsD H1 p := by
    rw [ed] at rd
    cases rd with
    | @dT p kvs _ _ e _ _ => exact ⟨p, rfl, .inr ⟨kvs, .inl (I1.fh _ _ e)⟩⟩
  obtain ⟨p, rfl, isd⟩ := isd
  refine ⟨p, rfl, isd, ?_⟩
  refine b.frz (φ := fun _ _ => True) (k := fun y Γ2 => dx Γ2 fun e2 Γ3 => wf e2 fun z => ∃ ks xs k, d = .dT ks xs ∧ keysOf y = some k ∧ φ (.d ((lookD ks xs k).getD z)) Γ3) I1 eo h1 fun F2 H2 u y Γ2 I2 s2 ry h2 => ?_
  refine x.frz (φ := fun _ _ => True) (k := fun z Γ3 => ∃ ks xs k, d = .dT ks xs ∧ keysOf y = some k ∧ φ (.d ((lookD ks xs k).getD z)) Γ3) I2 eo h2 fun F3 H3 t z Γ3 I3 s3 rz h3 => ?_
  obtain ⟨ks, xs, k, rfl, hy, h3⟩ := h3
  cases rd with
  | @dT _ kvs _ _ e ek rs =>
    obtain ⟨b, rfl, hb⟩ := keysOf_rep ry hy
    have s13 := s2.trans s3
    refine ⟨_, DGet.t (k := k) (I3.fh _ _ (s13 _ _ e)) (I3.fh _ _ (s3 _ _ hb)), ?_⟩
    obtain ⟨z1, z2⟩ := valV_look (j := k) ek (rs.mono s13)
    cases el : lookD ks xs k with
    | none =>
      rw [z2 el]
      rw [el] at h3
      exact q F3 H3 _ _ Γ3 I3 (s1.trans s13) (Res.d rz) h3
    | some y2 =>
      obtain ⟨w2, hw, rw1⟩ := z1 y2 el
      rw [hw]
      rw [el] at h3
      exact q F3 H3 _ _ Γ3 I3 (s1.trans s13) (Res.d rw1) h3⟩
end
end Da

set_option Elab.async false
set_option maxRecDepth 100000
set_option maxHeartbeats 4000000
set_option linter.all false
namespace Da
open PySem PySem.Spec PyProof.Rows L2 RZ HmS
/-! ### comprehensions of more clauses -/
abbrev DY := List En → List D → (List D → List En → Prop) → Prop
class SndY (K : PySem.W.Frag) [HasT K] (E : XK) (ψ : Value → Prop) (Y : Addr → L2.St → Hp → (Hp → Prop) → Prop) (den : outParam DY) : Prop where
  run : ∀ {c : Ct K} {D : Addr} {us : List V} {h0 : c.H0 D = none} {F H : Hp} {σ : L2.St} {Γ : List En} {acc : List Da.D} {φ : List Da.D → List En → Prop} {N : Hp → Prop}, c.pn ≠ some D → c.F0 D = none → Is (c.guard D (.lst us) h0) F H σ Γ → Reps F us acc → EOk c E ψ → den Γ acc φ →
    (∀ F' H' us' acc' Γ', Is (c.guard D (.lst us') h0) F' H' σ Γ' → Same F F' → Reps F' us' acc' → φ acc' Γ' → N H') → Y D σ H N
/-- a clause with a test, behind it Y -/
def tClT (wi : TI) (g : TG) (vs : List Nat) (tt : TT) (Y : Addr → L2.St → Hp → (Hp → Prop) → Prop) (D : Addr) : L2.St → Hp → (Hp → Prop) → Prop := fun σ H N => wi σ H fun J H1 => ∃ W : Nat → Nat → Hp → Prop, (∃ m, W 0 m H1) ∧ ∀ i m H, W i m H →
  (J.stop i H ∧ N H) ∨ (J.go i H ∧ ∃ N' : Hp → Prop, (∀ H', N' H' → ∃ m', m' < m ∧ W (i + 1) m' H') ∧ ∀ x H', J.yld i H x H' → g x (wipe σ vs) H' fun σ2 H2 => wipe σ2 vs = wipe σ vs ∧ tt σ2 H2 fun b H3 => if b = true then Y D σ2 H3 N' else N' H3)
def tApY (te : TE) (D : Addr) : L2.St → Hp → (Hp → Prop) → Prop := fun σ H N => te σ H fun y H1 => ∃ acc, H1 D = some (.lst acc) ∧ acc.length < sizeLine ∧ N (upd H1 D (.lst (acc ++ [y])))
def tLcY (wi : TI) (g : TG) (tt : TT) (Y : Addr → L2.St → Hp → (Hp → Prop) → Prop) (vs : List Nat) : TE := fun σ H Q => wi σ H fun J H1 => ∀ D, H1 D = none → ∃ W : Nat → Nat → Hp → Prop, (∃ m, W 0 m (upd H1 D (.lst []))) ∧ ∀ i m H, W i m H →
  (J.stop i H ∧ Q (.ref D) H) ∨ (J.go i H ∧ ∃ N' : Hp → Prop, (∀ H', N' H' → ∃ m', m' < m ∧ W (i + 1) m' H') ∧ ∀ x H', J.yld i H x H' → g x (wipe σ vs) H' fun σ2 H2 => wipe σ2 vs = wipe σ vs ∧ tt σ2 H2 fun b H3 => if b = true then Y D σ2 H3 N' else N' H3)
def dApY (de : DT) : DY := fun Γ acc φ => acc.length ≤ 100000 ∧ de Γ fun e Γ1 => wf e fun z => φ (acc ++ [z]) Γ1
def dClT (vs gv : List Nat) (di : DA) (dg : D → List En → (List En → Prop) → Prop) (dtt : DB) (dy : DY) : DY := fun Γ acc φ => (gv.all fun i => vs.contains i) = true ∧ di Γ fun items Γ1 => ∃ J : Nat → List D → List En → Prop, J 0 acc Γ1 ∧
  ∀ j acc1 Γ2, J j acc1 Γ2 → (j = items.length → φ acc1 Γ2) ∧ ∀ d, items[j]? = some d → dg d (wipeE Γ2 vs) fun Γ3 => dtt Γ3 fun b Γ4 => if b = true then dy Γ4 acc1 fun acc2 Γ5 => J (j + 1) acc2 (wipeE Γ5 vs) else J (j + 1) acc1 (wipeE Γ4 vs)
def dLcY (vs gv : List Nat) (di : DA) (dg : D → List En → (List En → Prop) → Prop) (dtt : DB) (dy : DY) : DT := fun Γ φ => (gv.all fun i => vs.contains i) = true ∧ di Γ fun items Γ1 => ∃ J : Nat → List D → List En → Prop, J 0 [] (wipeE Γ1 vs) ∧
  ∀ j acc1 Γ2, J j acc1 Γ2 → (j = items.length → φ (.lst acc1) Γ2) ∧ ∀ d, items[j]? = some d → dg d (wipeE Γ2 vs) fun Γ3 => dtt Γ3 fun b Γ4 => if b = true then dy Γ4 acc1 fun acc2 Γ5 => J (j + 1) acc2 (wipeE Γ5 vs) else J (j + 1) acc1 (wipeE Γ4 vs)
section
variable {K : PySem.W.Frag} [HasT K] {E : XK} {ψ : Value → Prop} {te ta tb : TE} {de da db : DT} {tt tt1 : TT} {dtt dtt1 : DB} {wi wi1 wi2 : TI} {g g1 g2 : TG} {vs vs1 vs2 gv gv1 gv2 : List Nat} {di di1 di2 : DA} {dg dg1 dg2 : D → List En → (List En → Prop) → Prop}
instance snd_apY [se : Snd K E ψ te de] : SndY K E ψ (tApY te) (dApY de) := ⟨fun {c D us h0 F H σ Γ acc φ N} pn f0 I rs eo h q => by
  obtain ⟨hl, h⟩ := h
  refine se.frz (φ := fun _ _ => True) (k := fun z Γ5 => φ (acc ++ [z]) Γ5) I eo.guard h fun F5 H5 v z Γ5 I5 sF5 r5 h5 => ?_
  have hD5 := I5.guarded pn
  have fr := I5.freed pn f0 (fun vs z => nomatch z)
  have I7 := (I5.unguard pn).chg (o := .lst (us ++ [v])) fr hD5 (plain_lst _) (fun vs z => nomatch z)
  exact ⟨us, hD5, by rw [rs.length]; exact Nat.lt_of_le_of_lt hl (by decide), q F5 _ (us ++ [v]) (acc ++ [z]) Γ5 (I7.guard fr upd_same) sF5 ((rs.mono sF5).snoc r5) h5⟩⟩
instance snd_clT {Y : Addr → L2.St → Hp → (Hp → Prop) → Prop} {dy : DY} [si : SndI K E ψ wi di] [sg : SndG K g gv dg] [st : SndT K E ψ tt dtt] [sy : SndY K E ψ Y dy] : SndY K E ψ (tClT wi g vs tt Y) (dClT vs gv di dg dtt dy) := ⟨fun {c D us h0 F H σ Γ acc φ N} pn f0 I rs eo h q => by
  obtain ⟨hgv, h⟩ := h
  have hgv' : ∀ i ∈ gv, i ∈ vs := fun i hi => by simpa using List.all_eq_true.mp hgv i hi
  refine si.run I eo.guard h fun F1 H1 J items Γ1 I1 s1 it h1 => ?_
  obtain ⟨JV, jv0, step⟩ := h1
  refine ⟨fun i m H' => m = items.length - i ∧ i ≤ items.length ∧ ∃ F' Γ' us acc, Same F1 F' ∧ Reps F' us acc ∧ Is (c.guard D (.lst us) h0) F' H' σ Γ' ∧ JV i acc Γ', ⟨_, rfl, Nat.zero_le _, F1, Γ1, us, acc, Same.refl _, rs.mono s1, I1, jv0⟩, ?_⟩
  rintro i m H' ⟨rfl, hi, F', Γ', us', acc', sF, rs', IG, jv⟩
  obtain ⟨st1, st2⟩ := step i acc' Γ' jv
  by_cases hlt : i < items.length
  · obtain ⟨d, hd⟩ : ∃ d, items[i]? = some d := ⟨_, List.getElem?_eq_getElem hlt⟩
    obtain ⟨go, yl⟩ := (it _ F' H' σ Γ' i IG sF).2 d hd
    refine .inr ⟨go, fun H2 => ∃ F2 Γ2 us acc, Same F1 F2 ∧ Reps F2 us acc ∧ Is (c.guard D (.lst us) h0) F2 H2 σ Γ2 ∧ JV (i + 1) acc Γ2, fun H2 n2 => ⟨items.length - (i + 1), by omega, rfl, hlt, n2⟩, fun x H2 y => ?_⟩
    obtain ⟨F2, I2, sF2, rp⟩ := yl x H2 y
    refine sg.run (I2.wipe vs) rp (st2 d hd) fun σ3 Γ3 I3 w3 h3 => ⟨by rw [w3 vs hgv', wipe_wipe], ?_⟩
    have w3' : wipe σ3 vs = wipe σ vs := by rw [w3 vs hgv', wipe_wipe]
    refine st.run I3 eo.guard h3 fun F4 H4 b Γ4 I4 sF4 h4 => ?_
    cases b with
    | false => exact iteF ⟨F4, wipeE Γ4 vs, us', acc', sF.trans (sF2.trans sF4), rs'.mono (sF2.trans sF4), I4.unwipe w3', h4⟩
    | true => exact iteT (sy.run pn f0 I4 (rs'.mono (sF2.trans sF4)) eo h4 fun F5 H5 us5 acc5 Γ5 I5 sF5 r5 h5 => ⟨F5, wipeE Γ5 vs, us5, acc5, sF.trans (sF2.trans (sF4.trans sF5)), r5, I5.unwipe w3', h5⟩)
  · have e : i = items.length := by omega
    exact .inl ⟨(it _ F' H' σ Γ' i IG sF).1 e, q F' H' us' acc' Γ' IG (s1.trans sF) rs' (st1 e)⟩⟩
theorem snd_lcY {Y : Addr → L2.St → Hp → (Hp → Prop) → Prop} {dy : DY} [si : SndI K E ψ wi di] [sg : SndG K g gv dg] [st : SndT K E ψ tt dtt] [sy : SndY K E ψ Y dy] : Snd K E ψ (tLcY wi g tt Y vs) (dLcY vs gv di dg dtt dy) := ⟨fun {c F H σ Γ φ Q} I eo h q => by
  obtain ⟨hgv, h⟩ := h
  have hgv' : ∀ i ∈ gv, i ∈ vs := fun i hi => by simpa using List.all_eq_true.mp hgv i hi
  refine si.run I eo h fun F1 H1 J items Γ1 I1 s1 it h1 => ?_
  obtain ⟨JV, jv0, step⟩ := h1
  intro D hD
  have hF : F1 D = none := I1.unF hD
  have h0 : c.H0 D = none := I1.un hD
  have hpn : c.pn ≠ some D := fun z => (I1.pp D z).2.1.there hD
  have hF0 : c.F0 D = none := I1.f0.free hF
  refine ⟨fun i m H' => m = items.length - i ∧ i ≤ items.length ∧ ∃ F' Γ' us acc, Same F1 F' ∧ Reps F' us acc ∧ Is (c.guard D (.lst us) h0) F' H' σ Γ' ∧ JV i acc Γ', ⟨_, rfl, Nat.zero_le _, F1, wipeE Γ1 vs, [], [], Same.refl _, .nil, ?_, jv0⟩, ?_⟩
  · exact ((I1.newH (o := .lst []) hD).forgets vs).guard ⟨hF, h0, hpn, (I1.fresh hD).forgets vs⟩ upd_same
  · rintro i m H' ⟨rfl, hi, F', Γ', us', acc', sF, rs', IG, jv⟩
    obtain ⟨st1, st2⟩ := step i acc' Γ' jv
    by_cases hlt : i < items.length
    · obtain ⟨d, hd⟩ : ∃ d, items[i]? = some d := ⟨_, List.getElem?_eq_getElem hlt⟩
      obtain ⟨go, yl⟩ := (it _ F' H' σ Γ' i IG sF).2 d hd
      refine .inr ⟨go, fun H2 => ∃ F2 Γ2 us acc, Same F1 F2 ∧ Reps F2 us acc ∧ Is (c.guard D (.lst us) h0) F2 H2 σ Γ2 ∧ JV (i + 1) acc Γ2, fun H2 n2 => ⟨items.length - (i + 1), by omega, rfl, hlt, n2⟩, fun x H2 y => ?_⟩
      obtain ⟨F2, I2, sF2, rp⟩ := yl x H2 y
      refine sg.run (I2.wipe vs) rp (st2 d hd) fun σ3 Γ3 I3 w3 h3 => ⟨by rw [w3 vs hgv', wipe_wipe], ?_⟩
      have w3' : wipe σ3 vs = wipe σ vs := by rw [w3 vs hgv', wipe_wipe]
      refine st.run I3 eo.guard h3 fun F4 H4 b Γ4 I4 sF4 h4 => ?_
      cases b with
      | false => exact iteF ⟨F4, wipeE Γ4 vs, us', acc', sF.trans (sF2.trans sF4), rs'.mono (sF2.trans sF4), I4.unwipe w3', h4⟩
      | true => exact iteT (sy.run hpn hF0 I4 (rs'.mono (sF2.trans sF4)) eo h4 fun F5 H5 us5 acc5 Γ5 I5 sF5 r5 h5 => ⟨F5, wipeE Γ5 vs, us5, acc5, sF.trans (sF2.trans (sF4.trans sF5)), r5, I5.unwipe w3', h5⟩)
    · have e : i = items.length := by omega
      refine .inl ⟨(it _ F' H' σ Γ' i IG sF).1 e, ?_⟩
      have fr := IG.freed hpn hF0 (fun vs z => nomatch z)
      exact q F' H' (.ref D) (.lst acc') Γ' (IG.unguard hpn) (s1.trans sF) ⟨⟨D, us', rfl, fr.f, h0, IG.guarded hpn, rs'⟩, (fun z => nomatch z), fun a e => by cases e; exact fr.sl⟩ (st1 e)⟩
instance snd_lc2 [si : SndI K E ψ wi di] [sg : SndG K g gv dg] [st : SndT K E ψ tt dtt] [si1 : SndI K E ψ wi1 di1] [sg1 : SndG K g1 gv1 dg1] [st1 : SndT K E ψ tt1 dtt1] [se : Snd K E ψ te de] : Snd K E ψ (tLc2 wi g tt wi1 g1 tt1 te vs vs1) (dLcY vs gv di dg dtt (dClT vs1 gv1 di1 dg1 dtt1 (dApY de))) :=
  show Snd K E ψ (tLcY wi g tt (tClT wi1 g1 vs1 tt1 (tApY te)) vs) _ from snd_lcY
instance snd_lc3 [si : SndI K E ψ wi di] [sg : SndG K g gv dg] [si1 : SndI K E ψ wi1 di1] [sg1 : SndG K g1 gv1 dg1] [si2 : SndI K E ψ wi2 di2] [sg2 : SndG K g2 gv2 dg2] [se : Snd K E ψ te de] : Snd K E ψ (C3.tLc3 wi g wi1 g1 wi2 g2 te vs vs1 vs2) (dLcY vs gv di dg dYes (dClT vs1 gv1 di1 dg1 dYes (dClT vs2 gv2 di2 dg2 dYes (dApY de)))) :=
  show Snd K E ψ (tLcY wi g tYes (tClT wi1 g1 vs1 tYes (tClT wi2 g2 vs2 tYes (tApY te))) vs) _ from snd_lcY
end
end Da

set_option Elab.async false
set_option maxRecDepth 100000
set_option maxHeartbeats 4000000
set_option linter.all false
namespace Da
open PySem PySem.Spec PyProof.Rows L2 RZ HmS
section
variable {K : PySem.W.Frag} [HasT K] {E : XK} {ψ : Value → Prop} {te ta tb : TE} {de da db : DT}
/-! ### signs of a text -/
def sgD (c : Nat) : D := .str ⟨#[c]⟩
def sgs (z : Str) : List D := z.cps.toList.map sgD
def dIStr (da : DT) : DA := fun Γ φ => da Γ fun e Γ1 => wf e fun x => match x with
  | .str z => φ (sgs z) Γ1
  | _ => False
theorem itOk_str {F1 : Hp} (z : Str) : ItOk K F1 (Its z) (sgs z) := by
  refine itOk_at (fun H s => ?_) (fun i d H hd s => ?_) (fun i d H x H' hd s y => ?_)
  · show z.cps.size ≤ (sgs z).length
    unfold sgs
    rw [List.length_map, Array.length_toList]
    exact Nat.le_refl _
  · have := (List.getElem?_eq_some_iff.mp hd).1
    unfold sgs at this
    rw [List.length_map, Array.length_toList] at this
    exact this
  · obtain ⟨rfl, c, hc, rfl⟩ := y
    refine ⟨rfl, ?_⟩
    unfold sgs at hd
    rw [List.getElem?_map, Array.getElem?_toList, hc] at hd
    cases hd
    exact .str _
instance snd_iStr [a : Snd K E ψ ta da] : SndI K E ψ (iStr ta) (dIStr da) := ⟨fun {c F H σ Γ φ R} I eo h q => by
  refine a.frz (φ := fun _ _ => True) (k := fun x Γ1 => match x with | .str z => φ (sgs z) Γ1 | _ => False) I eo h fun F1 H1 v x Γ1 I1 s1 rp h1 => ?_
  cases x with
  | str z =>
    cases rp
    exact ⟨z, rfl, q F1 H1 _ (sgs z) Γ1 I1 s1 (itOk_str z) h1⟩
  | _ => exact h1.elim⟩
def rLeStr : R2 := fun x y H Q => ∃ i j, x = .str i ∧ y = .str j ∧ Q (.bl (!decide (j.cps.toList < i.cps.toList))) H
theorem op_leStr {X : Cx} : OpR X (compareOp .LtE) rLeStr := op_le_str
def dLeStr (x y : D) (φ : En → Prop) : Prop := match x, y with
  | .str i, .str j => φ (.d (.bl (!decide (j.cps.toList < i.cps.toList))))
  | _, _ => False
instance snd_leStr : SndR K rLeStr dLeStr := ⟨fun {c F H σ Γ x y d e φ Q} I rx ry h q => by
  cases d <;> cases e <;> first | exact h.elim | skip
  cases rx
  cases ry
  exact ⟨_, _, rfl, rfl, q F H _ _ I (Same.refl F) (Res.d (.bl _)) h⟩⟩
def dInSg (neg : Bool) (x y : D) (φ : En → Prop) : Prop := ∃ c z, x = sgD c ∧ y = .str z ∧ φ (.d (.bl (if neg then !decide (c ∈ z.cps.toList) else decide (c ∈ z.cps.toList))))
instance snd_inSg : SndR K rInS (dInSg false) := ⟨fun {c F H σ Γ x y d e φ Q} I rx ry h q => by
  obtain ⟨s, z, rfl, rfl, h⟩ := h
  cases rx
  cases ry
  exact ⟨s, z, rfl, rfl, q F H _ _ I (Same.refl F) (Res.d (.bl _)) h⟩⟩
instance snd_notInSg : SndR K rNotInS (dInSg true) := ⟨fun {c F H σ Γ x y d e φ Q} I rx ry h q => by
  obtain ⟨s, z, rfl, rfl, h⟩ := h
  cases rx
  cases ry
  exact ⟨s, z, rfl, rfl, q F H _ _ I (Same.refl F) (Res.d (.bl _)) h⟩⟩
/-! ### < on data -/
def rLtD (K : PySem.W.Frag) : R2 := fun x y H Q => ∃ d e, Dp K H x d ∧ Dp K H y e ∧ PySem.W.alike d e = true ∧ d ≠ .none ∧ d.depth ≤ 60 ∧ Q (.bl (PySem.W.dataLt d e)) H
theorem op_ltD {X : Cx} (hu : X.A.units + 64 < cLine) : OpR X (compareOp .Lt) (rLtD X.K) := by
  intro pins s σ H x y v u Q I rx ry h
  obtain ⟨d, e, hd, he, al, nn, dp, q⟩ := h
  obtain ⟨as, r1⟩ := Dp.reads I d x v hd rx
  obtain ⟨bs, r2⟩ := Dp.reads I e y u he ry
  exact PySem.W.lt_data r1 r2 al nn (by omega) ⟨.bl _, H, I, rfl, q⟩
def dLtD (x y : D) (φ : En → Prop) : Prop := x.flat = true ∧ y.flat = true ∧ PySem.W.alike x.py y.py = true ∧ x.py ≠ .none ∧ x.py.depth ≤ 60 ∧ φ (.d (.bl (PySem.W.dataLt x.py y.py)))
instance snd_ltD : SndR K (rLtD K) dLtD := ⟨fun {c F H σ Γ x y d e φ Q} I rx ry h q => by
  obtain ⟨f1, f2, al, nn, dp, h⟩ := h
  exact ⟨_, _, rx.dp I.fh f1, ry.dp I.fh f2, al, nn, dp, q F H _ _ I (Same.refl F) (Res.d (.bl _)) h⟩⟩
/-! ### x or y -/
def dOrT (da db : DT) : DT := fun Γ φ => da Γ fun e Γ1 => wf e fun x => ∃ b, truD x = some b ∧ if b = true then φ (.d x) Γ1 else db Γ1 φ
instance snd_orT [a : Snd K E ψ ta da] [b : Snd K E ψ tb db] : Snd K E ψ (tOrT K ta tb) (dOrT da db) := ⟨fun {c F H σ Γ φ Q} I eo h q => by
  refine a.frz (φ := fun _ _ => True) (k := fun x Γ1 => ∃ b, truD x = some b ∧ if b = true then φ (.d x) Γ1 else db Γ1 φ) I eo h fun F1 H1 v x Γ1 I1 s1 rp h1 => ?_
  obtain ⟨k, hk, h1⟩ := h1
  have tv : TruV K v H1 k := by
    cases rp with
    | non => cases hk; rfl
    | bl b => cases hk
    | int i => cases hk; rfl
    | str s => cases hk
    | tup e r =>
      cases hk
      exact .inr (.inl ⟨_, SqT.of (I1.fh _ _ e), by rw [reps_empty r]⟩)
    | lst e r =>
      cases hk
      exact .inl ⟨_, SqL.of (I1.fh _ _ e), by rw [reps_empty r]⟩
    | dK _ _ _ => cases hk
    | dT _ _ _ => cases hk
    | ins _ _ _ => cases hk
  refine ⟨k, tv, ?_⟩
  cases k with
  | true => exact iteT (q F1 H1 v (.d x) Γ1 I1 s1 (Res.d rp) h1)
  | false => exact iteF (b.run I1 eo h1 fun F2 H2 w e Γ2 I2 s2 r2 h2 => q F2 H2 w e Γ2 I2 (s1.trans s2) r2 h2)⟩
end
end Da

set_option Elab.async false
set_option maxRecDepth 100000
set_option maxHeartbeats 4000000
set_option linter.all false
namespace Da
open PySem PySem.Spec PyProof.Rows L2 RZ HmS
/-! ### methods that change their instance, by the number of their arguments -/
abbrev DSO := List Str → List O → List D → (List Str → List O → Prop) → Prop
def mo0 (k : List Str → List O → (List Str → List O → Prop) → Prop) : DSO := fun ns os ds φ => match ds with | [] => k ns os φ | _ => False
def mo1 (k : List Str → List O → D → (List Str → List O → Prop) → Prop) : DSO := fun ns os ds φ => match ds with | [x] => k ns os x φ | _ => False
def mo2 (k : List Str → List O → D → D → (List Str → List O → Prop) → Prop) : DSO := fun ns os ds φ => match ds with | [x, y] => k ns os x y φ | _ => False
def mo3 (k : List Str → List O → D → D → D → (List Str → List O → Prop) → Prop) : DSO := fun ns os ds φ => match ds with | [x, y, z] => k ns os x y z φ | _ => False
section
variable {K : PySem.W.Frag} [HasT K] {t : TS} {dt : DSt} {N : List Str} {vs : List V} {H : Hp} {Q : VK} {E' : XK} {C : Addr}
theorem lemo0 {k : List Str → List O → (List Str → List O → Prop) → Prop} (h : spO K C (mo0 k) vs H Q E') : vs.length = 1 := lenO (n := 0) h fun ns os ds φ h => match ds, h with | [], _ => rfl
theorem lemo1 {k : List Str → List O → D → (List Str → List O → Prop) → Prop} (h : spO K C (mo1 k) vs H Q E') : vs.length = 2 := lenO (n := 1) h fun ns os ds φ h => match ds, h with | [_], _ => rfl
theorem lemo2 {k : List Str → List O → D → D → (List Str → List O → Prop) → Prop} (h : spO K C (mo2 k) vs H Q E') : vs.length = 3 := lenO (n := 2) h fun ns os ds φ h => match ds, h with | [_, _], _ => rfl
theorem lemo3 {k : List Str → List O → D → D → D → (List Str → List O → Prop) → Prop} (h : spO K C (mo3 k) vs H Q E') : vs.length = 4 := lenO (n := 3) h fun ns os ds φ h => match ds, h with | [_, _, _], _ => rfl
theorem bodmo0 {k : List Str → List O → (List Str → List O → Prop) → Prop} [s : SndS K E0 (fun _ => False) t dt] (h : spO K C (mo0 k) vs H Q E') (hd : ∀ ns os φ p T, k ns os φ → dt (stO N (.ins C ns os) (p :: T) []) (poO C p φ)) : t (bodyGoal Q) (L2.start N vs) H :=
  bodyO h fun ns os ds φ p T h => match ds, h with | [], h => hd ns os φ p T h
theorem bodmo1 {k : List Str → List O → D → (List Str → List O → Prop) → Prop} [s : SndS K E0 (fun _ => False) t dt] (h : spO K C (mo1 k) vs H Q E') (hd : ∀ ns os x φ p T, k ns os x φ → dt (stO N (.ins C ns os) (p :: T) [x]) (poO C p φ)) : t (bodyGoal Q) (L2.start N vs) H :=
  bodyO h fun ns os ds φ p T h => match ds, h with | [x], h => hd ns os x φ p T h
theorem bodmo2 {k : List Str → List O → D → D → (List Str → List O → Prop) → Prop} [s : SndS K E0 (fun _ => False) t dt] (h : spO K C (mo2 k) vs H Q E') (hd : ∀ ns os x y φ p T, k ns os x y φ → dt (stO N (.ins C ns os) (p :: T) [x, y]) (poO C p φ)) : t (bodyGoal Q) (L2.start N vs) H :=
  bodyO h fun ns os ds φ p T h => match ds, h with | [x, y], h => hd ns os x y φ p T h
theorem bodmo3 {k : List Str → List O → D → D → D → (List Str → List O → Prop) → Prop} [s : SndS K E0 (fun _ => False) t dt] (h : spO K C (mo3 k) vs H Q E') (hd : ∀ ns os x y z φ p T, k ns os x y z φ → dt (stO N (.ins C ns os) (p :: T) [x, y, z]) (poO C p φ)) : t (bodyGoal Q) (L2.start N vs) H :=
  bodyO h fun ns os ds φ p T h => match ds, h with | [x, y, z], h => hd ns os x y z φ p T h
end
/-- a def with defaults that lets nothing out -/
theorem _root_.L2.FunD.ok0D {P : Program} {w : World} {K : PySem.W.Frag} {mg : Str → Option Value} {base : Heap} {x qual : Str} {params : Arguments} {body : List Stmt} {scope : Scope} {dvs : List V} {kws : List (Str × V)} {f : Addr} {fd : FuncData} {N ps : List Str} {k : Nat} {sp : Sp} (F : FunD K x qual params body scope dvs kws f fd) (S : FnScope N ps scope) (len : ∀ vs H Q E, sp vs H Q E → vs.length = ps.length)
    (hbody : ∀ (cdv : Value) (A : Around) (outer : List Env) (s : Shared) (H : Hp) (vs : List V) (Q : VK) (E : XK), Room k (A.deeper (envOfC qual scope s.heap.objs.size f cdv)) → sp vs H Q E →
      ∃ t, PSs (cxOf CX0 P w K mg base N qual scope f cdv A outer s H E).nox body t ∧ t { nx := fun _ H' => Q .non H', rt := Q } (L2.start N vs) H) : FnOk P w K mg base CX0 (k + 1) f fd ps sp :=
  FunD.ok F S len fun cdv A outer s H vs Q E hr hsp => by
    obtain ⟨t, h, q⟩ := hbody cdv A outer s H vs Q E hr hsp
    exact ⟨t, h.nox, q⟩
theorem ps_fldK {X : Cx} {K : PySem.W.Frag} {o value : Expr} {f : Str} {pos pos' : Pos} {ta tv : TE} (ha : PE X o ta) (hv : PE X value tv) (hs : swapsWith value (some (.Attribute o f pos')) pos.line X.env = pure false) (hK : X.K = K := by rfl) : PS X (.Assign [.Attribute o f pos'] value pos) (sFld K ta tv f) := by
  subst hK
  exact ps_fld ha hv hs
theorem pe_orTK {X : Cx} {K : PySem.W.Frag} {a b : Expr} {rest : List Expr} {pos : Pos} {ta tb : TE} (ha : PE X a ta) (hb : PE X (.BoolOp .Or (b :: rest) pos) tb) (hK : X.K = K := by rfl) : PE X (.BoolOp .Or (a :: b :: rest) pos) (tOrT K ta tb) := by
  subst hK
  exact pe_orT ha hb
/-! ### a tree as data -/
theorem dts_d : ∀ xs : List D, dts (xs.map O.d) = xs
  | [] => rfl
  | x :: r => by
    show x :: dts (r.map O.d) = x :: r
    rw [dts_d r]
/-! ### comprehensions of two clauses that hang on the items alone -/
theorem yesY {Γ : List En} {A B : List En → Prop} (h : A Γ) : dYes Γ fun b Γ4 => if b = true then A Γ4 else B Γ4 := (if_pos rfl : (if true = true then A Γ else B Γ) = A Γ).mpr h
theorem dLc2_pure {vs gv vs1 gv1 : List Nat} {di di1 : DA} {dg dg1 : D → List En → (List En → Prop) → Prop} {de : DT} {Γ Γ1 Γw : List En} {φ : En → List En → Prop} {items : List D} (sub : D → List D) (f : D → D → D) (st : D → List En) (hgv : (gv.all fun i => vs.contains i) = true) (hgv1 : (gv1.all fun i => vs1.contains i) = true)
    (hdi : ∀ ψ : List D → List En → Prop, ψ items Γ1 → di Γ ψ) (hw1 : wipeE Γ1 vs = Γw) (hw : wipeE Γw vs = Γw) (hl : (items.flatMap fun d => (sub d).map (f d)).length ≤ 100000)
    (ev : ∀ d ∈ items, ∀ Ψ : List En → Prop, (∀ Γ2, (∀ ψ : List D → List En → Prop, ψ (sub d) (st d) → di1 Γ2 ψ) → Ψ Γ2) → dg d Γw Ψ) (hst : ∀ d ∈ items, wipeE (st d) vs1 = st d ∧ wipeE (st d) vs = Γw)
    (ev1 : ∀ d ∈ items, ∀ d1 ∈ sub d, ∀ Ψ : List En → Prop, (∀ Γ2, (∀ ψ : En → List En → Prop, (∀ e Γ4, e.frz = some (f d d1) → wipeE Γ4 vs1 = st d → ψ e Γ4) → de Γ2 ψ) → Ψ Γ2) → dg1 d1 (st d) Ψ)
    (k : φ (.lst (items.flatMap fun d => (sub d).map (f d))) Γw) : dLcY vs gv di dg dYes (dClT vs1 gv1 di1 dg1 dYes (dApY de)) Γ φ := by
  have pre : ∀ (i : Nat) (d : D), items[i]? = some d → ∀ j, (((items.take i).flatMap fun d => (sub d).map (f d)) ++ ((sub d).take j).map (f d)).length ≤ 100000 := fun i d hd j => by
    have e : items = items.take i ++ d :: items.drop (i + 1) := by
      have hi := (List.getElem?_eq_some_iff.mp hd)
      obtain ⟨hl, he⟩ := hi
      rw [← he]
      exact (List.take_append_drop i items).symm.trans (by rw [List.drop_eq_getElem_cons hl])
    refine Nat.le_trans ?_ hl
    have e2 : (items.flatMap fun d => (sub d).map (f d)).length = ((items.take i).flatMap fun d => (sub d).map (f d)).length + ((sub d).length + ((items.drop (i + 1)).flatMap fun d => (sub d).map (f d)).length) := by
      conv => lhs; rw [e]
      rw [List.flatMap_append, List.flatMap_cons, List.length_append, List.length_append, List.length_map]
    rw [e2, List.length_append, List.length_map, List.length_take]
    omega
  refine ⟨hgv, hdi _ ⟨fun i acc Γ' => acc = (items.take i).flatMap (fun d => (sub d).map (f d)) ∧ Γ' = Γw, ⟨rfl, hw1⟩, fun i acc Γ' h => ⟨fun e => ?_, fun d hd => ?_⟩⟩⟩
  · obtain ⟨rfl, rfl⟩ := h
    rw [e, List.take_length]
    exact k
  · obtain ⟨rfl, rfl⟩ := h
    have hm := List.mem_of_getElem? hd
    obtain ⟨s1, s2⟩ := hst d hm
    rw [hw]
    refine ev d hm _ fun Γ2 q => ?_
    refine yesY ⟨hgv1, q _ ⟨fun j acc1 Γ5 => acc1 = ((items.take i).flatMap fun d => (sub d).map (f d)) ++ ((sub d).take j).map (f d) ∧ Γ5 = st d, ⟨by simp, rfl⟩, fun j acc1 Γ5 h => ⟨fun e => ?_, fun d1 hd1 => ?_⟩⟩⟩
    · obtain ⟨rfl, rfl⟩ := h
      rw [e, List.take_length, List.take_add_one, hd]
      refine ⟨?_, s2⟩
      rw [List.flatMap_append]
      simp
    · obtain ⟨rfl, rfl⟩ := h
      rw [s1]
      refine ev1 d hm d1 (List.mem_of_getElem? hd1) _ fun Γ3 q1 => ?_
      refine yesY ⟨pre i d hd j, q1 _ fun e Γ4 he hw4 => wf_of he ⟨?_, hw4⟩⟩
      rw [List.take_add_one, hd1, List.append_assoc, List.map_append]
      rfl
def pp4 (k : D → D → D → D → (En → Prop) → Prop) : List D → (En → Prop) → Prop := fun ds φ => match ds with | [x, y, z, u] => k x y z u φ | _ => False
section
variable {K : PySem.W.Frag} [HasT K] {t : TS} {dt : DSt} {N : List Str} {vs : List V} {H : Hp} {Q : VK} {E' : XK}
theorem lep4 {k : D → D → D → D → (En → Prop) → Prop} (h : spP K (pp4 k) vs H Q E') : vs.length = 5 := lenP h fun ds _ e => by match ds, e with | [_, _, _, _], _ => rfl
theorem bodp4 {k : D → D → D → D → (En → Prop) → Prop} [s : SndS K E0 (fun _ => False) t dt] (h : spP K (pp4 k) vs H Q E') (hd : ∀ x y z u φ, k x y z u φ → dt (stP N [x, y, z, u]) (poP φ)) : t (bodyGoal Q) (L2.start N vs) H :=
  bodyP (s := s) h fun ds φ e => by match ds, e with | [x, y, z, u], e => exact hd x y z u φ e
end
end Da

set_option Elab.async false
set_option maxRecDepth 100000
set_option maxHeartbeats 4000000
set_option linter.all false
namespace Da
open PySem PySem.Spec PyProof.Rows L2 RZ HmS
/-! ### a, b = x, y where y doesn't look at a: what x made stays owned -/
def Ign (i : Nat) (t : TE) : Prop := ∀ σ x H Q, t (List.set σ i (some x)) H Q → t σ H Q
def IgnM (i : Nat) (t : TE) : Prop := ∀ σ x H Q Q', t (List.set σ i (some x)) H Q → (∀ v H1, Q v H1 → Q' v H1) → t σ H Q'
def IgnA (i : Nat) (t : TA) : Prop := ∀ σ x H Q, t (List.set σ i (some x)) H Q → t σ H Q
theorem ignM_var {i j : Nat} (h : i ≠ j) : IgnM i (tVar j) := fun σ x H Q Q' q k => by
  obtain ⟨v, hv, q⟩ := q
  exact ⟨v, by rwa [List.getElem?_set_ne h] at hv, k _ _ q⟩
theorem ignA_nil {i : Nat} : IgnA i tNil := fun _ _ _ _ q => q
theorem ignA_cons {i : Nat} {ta : TE} {tr : TA} (a : IgnM i ta) (r : IgnA i tr) : IgnA i (tCons ta tr) := fun σ x H Q q => a σ x H _ _ q fun v H1 z => r σ x H1 _ z
theorem ign_call {i : Nat} {sp : Sp} {dvs : List V} {E' : XK} {tr : TA} (r : IgnA i tr) : Ign i (tCall sp dvs E' tr) := fun σ x H Q q => r σ x H _ q
theorem ign_sl {i : Nat} {r : V → Option Int → Option Int → Hp → VK → Prop} {te : TE} {tl th : TO} (h : Ign i te) (hl : ∀ σ σ', tl σ = tl σ') (hh : ∀ σ σ', th σ = th σ') : Ign i (tSl r te tl th) := fun σ x H Q q => by
  have q : te (List.set σ i (some x)) H fun y H1 => tl (List.set σ i (some x)) H1 fun l H2 => th (List.set σ i (some x)) H2 fun u H3 => r y l u H3 Q := q
  rw [hl (List.set σ i (some x)) σ, hh (List.set σ i (some x)) σ] at q
  exact h σ x H _ q
def tParS (i j : Nat) (ta tb : TE) (g : Ign i tb) : TS := tPar i j (tCons ta (tCons tb tNil))
theorem ps_parS {X : Cx} {st : Stmt} {i j : Nat} {ta tb : TE} (g : Ign i tb) (h : PS X st (tPar i j (tCons ta (tCons tb tNil)))) : PS X st (tParS i j ta tb g) := h
def dParS (i j : Nat) (da db : DT) : DSt := fun Γ P => da Γ fun e Γ1 => db (Γ1.set i e) fun e' Γ2 => P.nx (Γ2.set j e')
section
variable {K : PySem.W.Frag} [HasT K] {E : XK} {ψ : Value → Prop} {ta tb : TE} {da db : DT}
instance snds_parS {i j : Nat} {g : Ign i tb} [a : Snd K E ψ ta da] [b : Snd K E ψ tb db] : SndS K E ψ (tParS i j ta tb g) (dParS i j da db) := ⟨fun {c F H σ Γ P D} I eo h m => by
  refine a.run (φ := fun e Γ1 => db (Γ1.set i e) fun e' Γ2 => P.nx (Γ2.set j e')) I eo h fun F1 H1 v e Γ1 I1 s1 r1 h1 => ?_
  refine g σ v H1 _ ?_
  exact b.run (φ := fun e' Γ2 => P.nx (Γ2.set j e')) (I1.set r1 i) eo h1 fun F2 H2 w e' Γ2 I2 s2 r2 h2 => ⟨v, w, rfl, m.nx _ _ _ _ (I2.set r2 j) h2⟩⟩
end
end Da

set_option Elab.async false
set_option maxRecDepth 100000
set_option maxHeartbeats 4000000
set_option linter.all false
namespace Da
open PySem PySem.Spec PyProof.Rows L2 RZ HmS
section
variable {X : Cx}
/-! ### len(set(xs)), tuples of ints -/
def tLenSetT (K : PySem.W.Frag) (ta : TE) : TE := fun σ H Q => ta σ H fun x H1 => ∃ (l : Addr) (ks : List (Addr × List Int)), x = V.ref l ∧ SqL K H1 l (ks.map fun p => V.ref p.1) ∧ (∀ p ∈ ks, SqT K H1 p.1 (p.2.map V.int)) ∧ ks.length < 64 ∧
  ∀ L : List (Addr × List Int), (L.map (·.2)).Nodup → (∀ p ∈ L, p ∈ ks) → (∀ p ∈ ks, p.2 ∈ L.map (·.2)) → Q (.int L.length) H1
theorem pe_lenSetT {a : Expr} {ta : TE} {K : PySem.W.Frag} {p p2 q pos : Pos} (hu : X.A.units + 64 < cLine) (hg : Gl X "len") (hm : X.mg "len" = none) (hg2 : Gl X "set") (hm2 : X.mg "set" = none) (ha : PE X a ta) (hc : X.calm = true := by rfl)
    (na : starEach [a] X.env = (false, eval a X.env) :: starEach [] X.env := by rfl) (hK : X.K = K := by rfl) : PE X (.Call (.Name "len" p) [.Call (.Name "set" p2) [a] [] q] [] pos) (tLenSetT K ta) := by
  subst hK
  refine ⟨fun pins s σ H Q I h => ?_⟩
  refine Call_ (ld_blt I hg hm PySem.boot_len ?_)
  refine PyProof.Rows.callWith_builtin1 (PyProof.Rows.args_cons ?_ rfl) rfl rfl
  refine Call_ (ld_blt I hg2 hm2 PyProof.Rows.boot_set ?_)
  refine PyProof.Rows.callWith_type1 (PyProof.Rows.args_cons (thn (ha.run pins s σ H _ I h) fun v s1 ⟨x, H1, I1, r1, q1⟩ => PyProof.Rows.args_nil ?_) na) na rfl
  obtain ⟨l, ks, rfl, hl, hk, hf, q1⟩ := q1
  cases r1
  obtain ⟨its, rv, pl, hz⟩ := I1.list hl
  refine call_set_tups (P := X.prog) (w := X.w) ks (I1.ok.hd hc) pl.isList (by simpa using refs_of_vals rv) (fun p hp => I1.isT (hk p hp)) hf (by omega) fun h' tk L es ep t R g k => ?_
  refine PyProof.Rows.args_nil ?_
  have I2 : Inv X pins σ H1 { s1 with heap := h', toks := tk } := I1.kept fun b o e => k b o e
  obtain ⟨o, ho, hex, hd⟩ := R.ob
  have hs := SetTR.size (s := { s1 with heap := h', toks := tk }) R
  have hfit := SetTR.fits (s := { s1 with heap := h', toks := tk }) R
  refine call_len_set ho hex hd hfit (by rw [hs]; have := R.few; omega) ⟨.int L.length, H1, I2.tok _, ⟨_, by rw [hs]⟩, q1 L R.nd (fun p hp => ?_) fun p hp => ?_⟩
  · exact List.mem_of_mem_take (g.sub p hp)
  · exact g.all p (by rw [List.take_length]; exact hp)
end
theorem Reps.refs {F : Hp} : ∀ {vs : List V} {ks : List (List Int)}, Reps F vs (ks.map fun k => D.tup (k.map .int)) → ∃ ps : List (Addr × List Int), vs = ps.map (fun p => V.ref p.1) ∧ ks = ps.map (·.2) ∧ ∀ p ∈ ps, F p.1 = some (.tup (p.2.map V.int))
  | _, [], .nil => ⟨[], rfl, rfl, fun _ z => nomatch z⟩
  | _, k :: ks, .cons (.tup e r) rs => by
    obtain ⟨ps, rfl, rfl, h⟩ := Reps.refs rs
    refine ⟨(_, k) :: ps, rfl, rfl, fun p hp => ?_⟩
    rcases List.mem_cons.mp hp with rfl | hp
    · rw [r.of_ints] at e
      exact e
    · exact h p hp
/-- how many unlike ones there are -/
def Uniq (ks : List (List Int)) (n : Nat) : Prop := ∃ L : List (List Int), L.Nodup ∧ (∀ k ∈ L, k ∈ ks) ∧ (∀ k ∈ ks, k ∈ L) ∧ n = L.length
theorem uqL_len : ∀ {L ks : List (List Int)}, L.Nodup → (∀ k ∈ L, k ∈ ks) → L.length ≤ ks.length
  | [], _, _, _ => Nat.zero_le _
  | a :: r, ks, nd, h => by
    have ha := h a List.mem_cons_self
    have h2 := uqL_len (L := r) (ks := ks.erase a) (List.nodup_cons.mp nd).2 fun k hk => (List.mem_erase_of_ne (fun z => (List.nodup_cons.mp nd).1 (by rw [← z]; exact hk))).mpr (h k (List.mem_cons_of_mem _ hk))
    rw [List.length_erase_of_mem ha] at h2
    have := List.length_pos_of_mem ha
    rw [List.length_cons]
    omega
theorem uqL_nd : ∀ {ks L : List (List Int)}, L.Nodup → (∀ k ∈ L, k ∈ ks) → L.length = ks.length → ks.Nodup
  | [], _, _, _, _ => List.nodup_nil
  | a :: r, L, nd, h, e => by
    rw [List.length_cons] at e
    have hr : a ∉ r := fun z => by
      have := uqL_len (L := L) (ks := r) nd fun k hk => by
        rcases List.mem_cons.mp (h k hk) with rfl | h'
        · exact z
        · exact h'
      omega
    have h2 : ∀ k ∈ L.erase a, k ∈ r := fun k hk => by
      obtain ⟨n1, n2⟩ := (List.Nodup.mem_erase_iff nd).mp hk
      rcases List.mem_cons.mp (h k n2) with h' | h'
      · exact absurd h' n1
      · exact h'
    have nd2 : (L.erase a).Nodup := nd.erase a
    have l1 := uqL_len nd2 h2
    have l2 : L.length - 1 ≤ (L.erase a).length := by
      rw [List.length_erase]
      split <;> omega
    exact List.nodup_cons.mpr ⟨hr, uqL_nd nd2 h2 (by omega)⟩
theorem Uniq.full {ks : List (List Int)} {n : Nat} (h : Uniq ks n) : n = ks.length ↔ ks.Nodup := by
  obtain ⟨L, nd, h1, h2, rfl⟩ := h
  exact ⟨fun e => uqL_nd nd h1 e, fun nk => Nat.le_antisymm (uqL_len nd h1) (uqL_len nk h2)⟩
def dLenSetT (da : DT) : DT := fun Γ φ => da Γ fun e Γ1 => wl e fun xs => ∃ ks : List (List Int), xs = (ks.map fun k => D.tup (k.map .int)) ∧ ks.length < 64 ∧ ∀ n : Nat, Uniq ks n → φ (.d (.int n)) Γ1
section
variable {K : PySem.W.Frag} [HasT K] {E : XK} {ψ : Value → Prop} {ta : TE} {da : DT}
instance snd_lenSetT [a : Snd K E ψ ta da] : Snd K E ψ (tLenSetT K ta) (dLenSetT da) := ⟨fun {c F H σ Γ φ Q} I eo h q => a.run I eo h fun F1 H1 v e Γ1 I1 s1 r1 h1 => by
  obtain ⟨F2, p, vs, xs, rfl, I2, s2, ep, rs, ks, rfl, hl, h2⟩ := r1.frzL I1 h1
  obtain ⟨ps, rfl, rfl, hp⟩ := rs.refs
  refine ⟨p, ps, rfl, SqL.of (I2.fh _ _ ep), fun p' hp' => SqT.of (I2.fh _ _ (hp p' hp')), by simpa using hl, fun L nd h3 h4 => ?_⟩
  refine q F2 H1 _ _ Γ1 I2 (s1.trans s2) (Res.d (.int _)) (h2 L.length ⟨L.map (·.2), nd, fun k hk => ?_, fun k hk => ?_, (List.length_map _).symm⟩)
  · obtain ⟨z, hz, rfl⟩ := List.mem_map.mp hk
    exact List.mem_map.mpr ⟨z, h3 z hz, rfl⟩
  · obtain ⟨z, hz, rfl⟩ := List.mem_map.mp hk
    exact h4 z hz⟩
/-! ### divmod -/
def rDivm : List V → Hp → VK → Prop := fun xs H Q => ∃ i j, xs = [.int i, .int j] ∧ CDiv i j ∧ ∀ p, H p = none → Q (.ref p) (upd H p (.tup [.int (i / j), .int (i % j)]))
def dDivmR (xs : List D) (φ : En → Prop) : Prop := match xs with
  | [.int i, .int j] => CDiv i j ∧ φ (.d (.tup [.int (i / j), .int (i % j)]))
  | _ => False
instance snd_divm : SndC K rDivm dDivmR := ⟨fun {c F H σ Γ xs ds φ Q} I r h q => by
  match ds, r, h with
  | [.int i, .int j], .cons (.int _) (.cons (.int _) .nil), h =>
    refine ⟨i, j, rfl, h.1, fun p hp => ?_⟩
    obtain ⟨I2, s2, _⟩ := I.new (o := .tup [V.int (i / j), V.int (i % j)]) hp
    exact q _ _ _ _ I2 s2 (Res.d (.tup upd_same (.cons (.int _) (.cons (.int _) .nil)))) h.2⟩
end
end Da

set_option Elab.async false
set_option maxRecDepth 100000
set_option maxHeartbeats 4000000
set_option linter.all false
namespace Da
open PySem PySem.Spec PyProof.Rows L2 RZ HmS
def rMaxD (K : PySem.W.Frag) : List V → Hp → VK → Prop := fun vs H Q => ∃ (a : Addr) (xs : List V) (x : PyData) (ds : List PyData), vs = [.ref a] ∧ SqL K H a xs ∧ DpAll K H xs (x :: ds) ∧ PySem.W.AlikeAll (x :: ds) ∧ PyData.depthAll (x :: ds) ≤ 60 ∧
  ∀ (i : Nat) v, xs[i]? = some v → (x :: ds)[i]? = some (PySem.W.maxD x ds) → Q v H
theorem cr_maxD {X : Cx} (hc : X.calm = true) (hu : X.A.units + 64 < cLine) : CallR X (.builtin "max") (rMaxD X.K) := by
  intro pins s σ H xs us Q I r h
  obtain ⟨a, vs, x, ds, rfl, hs, hd, al, dp, q⟩ := h
  obtain ⟨u, rfl, rx⟩ := vals1 r
  cases rx
  obtain ⟨its, rv, pl, _⟩ := I.list hs
  obtain ⟨as, rd⟩ := Dp.readsAll I (x :: ds) vs its hd rv
  refine PySem.W.max_list_data (vs := its.toArray) (I.ok.hd hc) pl.isList (by simpa using rd) al (by omega) fun i v h' tk bs hv hr hk => ?_
  have hv : its[i]? = some v := by simpa using hv
  obtain ⟨w, hw, rw1⟩ := vals_get rv hv
  obtain ⟨d, hd1, dp1⟩ := dpAll_get hd hw
  obtain ⟨as2, rd2⟩ := Dp.reads I d w v dp1 rw1
  have e := (PyProof.Rows.reads_det (fun b o e _ => hk b o e) rd2 hr).1
  exact ⟨w, H, I.kept hk, rw1, q i w hw (by rw [e]; exact hd1)⟩
def dMaxR (xs : List D) (φ : En → Prop) : Prop := match xs with
  | [.lst (x :: ds)] => flats (x :: ds) = true ∧ PySem.W.AlikeAll (pys (x :: ds)) ∧ PyData.depthAll (pys (x :: ds)) ≤ 60 ∧ ∀ z ∈ x :: ds, z.py = PySem.W.maxD x.py (pys ds) → φ (.d z)
  | _ => False
section
variable {K : PySem.W.Frag} [HasT K] {E : XK} {ψ : Value → Prop} {te ta tb tx : TE} {da db dx : DT} {tt tu : TT} {dtt dtu : DB} {al : TA} {dal : DA} {t u : TS} {dt du : DSt}
instance snd_maxD : SndC K (rMaxD K) dMaxR := ⟨fun {c F H σ Γ xs ds φ Q} I r h q => by
  match ds, r, h with
  | [.lst (x :: es)], r, h =>
    obtain ⟨h1, h2, h3, h4⟩ := h
    obtain ⟨v, rfl, rp⟩ := one_of r
    cases rp with
    | @lst a vs _ e rs =>
      refine ⟨a, vs, x.py, pys es, rfl, SqL.of (I.fh _ _ e), by simpa only [pys] using rs.dp I.fh h1, by simpa only [pys] using h2, by simpa only [pys] using h3, fun i v hv hm => ?_⟩
      obtain ⟨y, hy, rpy⟩ := rs.getV hv
      obtain ⟨z, hz, ez⟩ := pys_get (ds := x :: es) (i := i) (by simpa only [pys] using hm)
      rw [hy] at hz
      cases hz
      exact q F H v _ I (Same.refl F) (Res.d rpy) (h4 y (List.mem_of_getElem? hy) ez)⟩
/-! ### tuple of a dict's keys -/
end
def rMaxDef (K : PySem.W.Frag) : List V → List V → Hp → VK → Prop := fun vs zs H Q => ∃ (a : Addr) (xs : List V) (d : V) (ds : List PyData), vs = [.ref a] ∧ zs = [d] ∧ SqL K H a xs ∧ DpAll K H xs ds ∧ PySem.W.AlikeAll ds ∧ PyData.depthAll ds ≤ 60 ∧
  (ds = [] → Q d H) ∧ ∀ (x : PyData) (es : List PyData), ds = x :: es → ∀ (i : Nat) v, xs[i]? = some v → ds[i]? = some (PySem.W.maxD x es) → Q v H
theorem cr_maxDef {X : Cx} (hc : X.calm = true) (hu : X.A.units + 64 < cLine) : CallRK X (.builtin "max") [Str.ofString "default"] (rMaxDef X.K) := by
  intro pins s σ H vs zs us ws Q I r rz h
  obtain ⟨a, xs, d, ds, rfl, rfl, hs, hd, al, dp, q0, q⟩ := h
  obtain rfl := Vals.ref1 r
  obtain ⟨wd, rfl, ed⟩ := vals1 rz
  obtain ⟨its, rv, pl, _⟩ := I.list hs
  obtain ⟨as, rd⟩ := Dp.readsAll I ds xs its hd rv
  refine PySem.W.max_list_default (vs := its.toArray) (I.ok.hd hc) pl.isList (by simpa using rd) al (by omega) (fun e h' tk hk => ⟨d, H, I.kept hk, ed, q0 e⟩) fun x es i v h' tk bs e hv hr hk => ?_
  have hv : its[i]? = some v := by simpa using hv
  obtain ⟨w, hw, rw1⟩ := vals_get rv hv
  obtain ⟨d2, hd1, dp1⟩ := dpAll_get hd hw
  obtain ⟨as2, rd2⟩ := Dp.reads I d2 w v dp1 rw1
  have e2 := (PyProof.Rows.reads_det (fun b o e _ => hk b o e) rd2 hr).1
  exact ⟨w, H, I.kept hk, rw1, q x es e i w hw (by rw [e2]; exact hd1)⟩
section
variable {K : PySem.W.Frag} [HasT K] {E : XK} {ψ : Value → Prop} {te ta tb tx : TE} {da db dx : DT} {tt tu : TT} {dtt dtu : DB} {al : TA} {dal : DA} {t u : TS} {dt du : DSt}
def dMaxDefR (xs : List D) (d : D) (φ : En → Prop) : Prop := match xs with
  | [.lst []] => φ (.d d)
  | [.lst (x :: ds)] => dMaxR [.lst (x :: ds)] φ
  | _ => False
def dMaxDef (da db : DT) : DT := fun Γ φ => da Γ fun e Γ1 => wf e fun x => db Γ1 fun e' Γ2 => wf e' fun d => dMaxDefR [x] d fun z => φ z Γ2
instance snd_maxDef [sa : Snd K E ψ ta da] [sb : Snd K E ψ tb db] : Snd K E ψ (tCKw (rMaxDef K) (tCons ta tNil) (tCons tb tNil)) (dMaxDef da db) := ⟨fun {c F H σ Γ φ Q} I eo h q => by
  refine sa.frz (φ := fun _ _ => True) (k := fun x Γ1 => db Γ1 fun e' Γ2 => wf e' fun d => dMaxDefR [x] d fun z => φ z Γ2) I eo h fun F1 H1 v x Γ1 I1 s1 r1 h1 => ?_
  refine sb.frz (φ := fun _ _ => True) (k := fun d Γ2 => dMaxDefR [x] d fun z => φ z Γ2) I1 eo h1 fun F2 H2 u d Γ2 I2 s2 r2 h2 => ?_
  have r1' := r1.mono s2
  cases x with
  | lst xs =>
    cases r1' with
    | @lst a vs _ e rs =>
      cases xs with
      | nil =>
        cases rs
        exact ⟨a, [], u, [], rfl, rfl, SqL.of (I2.fh _ _ e), .nil, ⟨by simp, by simp⟩, by simp [PyData.depthAll], fun _ => q F2 H2 _ _ Γ2 I2 (s1.trans s2) (Res.d r2) h2, fun x es z => nomatch z⟩
      | cons x es =>
        obtain ⟨h1, h3, h4, h5⟩ := h2
        refine ⟨a, vs, u, pys (x :: es), rfl, rfl, SqL.of (I2.fh _ _ e), rs.dp I2.fh h1, h3, h4, (fun z => by simp [pys] at z), fun y ys e1 i v hv hm => ?_⟩
        obtain ⟨w, hy, rpy⟩ := rs.getV hv
        obtain ⟨z, hz, ez⟩ := pys_get (ds := x :: es) (i := i) hm
        rw [hy] at hz
        cases hz
        rw [pys] at e1
        cases e1
        exact q F2 H2 v _ Γ2 I2 (s1.trans s2) (Res.d rpy) (h5 w (List.mem_of_getElem? hy) ez)
  | _ => exact h2.elim⟩
end
end Da

set_option Elab.async false
set_option maxRecDepth 100000
set_option maxHeartbeats 4000000
set_option linter.all false
/-! a list comprehension whose element may let an exception out -/
namespace CQ
open PySem PySem.Spec PyProof.Rows L2
section
variable {X : Cx} {pins : List (Addr × Obj)} {σ : L2.St} {H : Hp} {sI s' : Shared} {C : Addr} {ce : Env} {m : Str → Option Value} {u : Value} {W : WX} {E : XK}
theorem frames_but {B h h' : Heap} {C : Addr} (hk : ∀ b o, b ≠ C → h.get? b = some o → h'.get? b = some o) : ∀ {l : List Env}, C ∉ frs l → h.FunFrames B l → h'.FunFrames B l
  | [], _, _ => trivial
  | env :: l, hn, h => by
    obtain ⟨k, ⟨L, o, hf, hb, ho, hd⟩, r⟩ := h
    have nL : L ≠ C := fun q => hn (q ▸ List.mem_filterMap.mpr ⟨env, List.mem_cons_self, hf⟩)
    exact ⟨k, ⟨L, o, hf, hb, hk L o nL ho, hd⟩, frames_but hk (fun q => hn (by
      obtain ⟨e, he, w⟩ := List.mem_filterMap.mp q
      exact List.mem_filterMap.mpr ⟨e, List.mem_cons_of_mem _ he, w⟩)) r⟩
theorem frames_sub {B B' h : Heap} (hk : ∀ b, B.get? b = none → B'.get? b = none) : ∀ {l : List Env}, h.FunFrames B l → h.FunFrames B' l
  | [], _ => trivial
  | _ :: _, ⟨k, ⟨L, o, hf, hb, r⟩, t⟩ => ⟨k, ⟨L, o, hf, hk L hb, r⟩, frames_sub hk t⟩
/-- out of a call in the element: noted, the block let go, held by the def's frame -/
theorem noted_call (tk : Takes X W) (hW : ∀ cls d σ H, E cls d H → W cls d σ H) (hs : X.stack = X.env :: X.outer) (hf : X.env.frame = some X.env.locals) (J : Inv X pins σ H sI) (fp : FpOk X pins H C) (hC : sI.heap.Ns C m)
    (hce : ce.frame = X.env.frame) (hcl : ce.locals = C) (c : CX X.prog X.w X.stack H sI E u s') : notedBy (model X.prog X.w) X.A ce (CompFails (model X.prog X.w) X.A X.xe ce) u s' := by
  have nst : C ∉ frs X.stack := fun q => (List.mem_cons.mp (J.stkSub C q)).elim fp.2.1 fp.2.2.1
  have c' : CX X.prog X.w X.stack H sI (fun cls d H => E cls d H ∧ H C = none) u s' := by
    obtain ⟨a, B, H', cls, d, e, fl, hok, ub, na, os, ag, hE⟩ := c
    obtain ⟨o, es, ep, ho, r⟩ := hC
    exact ⟨a, B, H', cls, d, e, fl, hok, ub, na, os, ag, hE, ub.free C o ho fp.1⟩
  have hC1 : s'.heap.Ns C m := by
    obtain ⟨a, B, H', cls, d, e, fl, hok, ub, na, os, ag, hE⟩ := c
    exact hC.at fun o e => fl.1 C o (ub.keep C o e fp.1 nst)
  obtain ⟨a, B, s2, pins2, σ2, H2, cls, d, rfl, I2, nb, up, sky, na, os, ag, w⟩ := XE.of_call (W := fun cls d _ H => E cls d H ∧ H C = none) J (fun _ _ _ h => h) c'
  have I3 : Inv X [] σ2 H2 s2 := (show Inv X ([] ++ pins2) σ2 H2 s2 from I2).unpinned
  have I4 : Inv X [] σ2 H2 { s2 with heap := PySem.W.hideAll s2.heap [C] } := I3.turned (t' := s2.toks) (fun b o hb e => PySem.W.hideAll_get _ e (by simpa using hb)) w.2 fp.2.1 fp.2.2.2.1 fp.2.2.2.2.1
    (fun p hp => fp.2.2.2.2.2 p (List.mem_append_left _ (by simpa using hp)))
  have key : ∀ h1, HandSPX.HeldZ B X.stack a (Zc cls d) X.env.locals h1 → s'.heap.UpToSlots h1 → CompFails (model X.prog X.w) X.A X.xe ce (.ref a) { s' with heap := h1 } := by
    intro h1 hh up1
    have hn1 : h1.Ns C m := hC1.upToSlots up1
    refine ⟨m, hcl ▸ hn1, fun h2 m2 hn2 sb => ?_⟩
    rw [hcl] at hn2 sb
    obtain ⟨k1, k2, k3, oe, vs, T, oT, ts, he, hz, hd, hv, hnT, hTe, hT, hdT, h3⟩ := hh
    obtain ⟨oC, es, ep, hoC, hdC, _⟩ := hn1
    have naC : a ≠ C := fun q => by
      rw [q, hoC] at he
      cases he
      rw [hdC] at hd
      cases hd
    have nTC : T ≠ C := fun q => by
      rw [q, hoC] at hT
      cases hT
      rw [hdC] at hdT
      cases hdT
    have hk : ∀ b o, b ≠ C → h1.get? b = some o → h2.get? b = some o := fun b o hb e => (sb.2 b hb).trans e
    have nB : ∀ b, B.get? b = none → (PySem.W.hideAll B [C]).get? b = none := fun b e => by
      cases q : (PySem.W.hideAll B [C]).get? b with
      | none => rfl
      | some o =>
        have z := PySem.W.of_hideAll [C] q
        rw [e] at z
        cases z
    have nC : ∀ {b o}, (PySem.W.hideAll B [C]).get? b = some o → b ≠ C ∧ B.get? b = some o := fun {b o} e => by
      refine ⟨fun q => ?_, PySem.W.of_hideAll [C] e⟩
      rw [q, PySem.W.hideAll_none [C] (by simp)] at e
      cases e
    have f2 : h2.FunFrames (PySem.W.hideAll B [C]) X.stack := frames_sub nB (frames_but hk nst k3)
    have b2 : (PySem.W.hideAll B [C]).StaysIn h2 := fun b o e => hk b o (nC e).1 (k1 b o (nC e).2)
    have he2 := hk _ _ naC he
    unfold PySem.passOn
    refine wpAny_bind (wpAny_field he2 hd hv ?_)
    rw [if_neg (show ¬ ((Value.ref T == Value.none) = true) from by simp)]
    rw [hce, hf]
    refine wpAny_bind (HandSPX.setFlight_onZ (s := { s' with heap := h2 }) (L := X.env.locals) ⟨b2, nB _ k2, f2, oe, vs, T, oT, ts, he2, hz, hd, hv, nB _ hnT, hTe, hk _ _ nTC hT, hdT, h3⟩ fun h4 hh4 up4 => ?_)
    refine wpAny_throw (tk _ _ ⟨a, PySem.W.hideAll B [C], { s2 with heap := PySem.W.hideAll s2.heap [C] }, [], σ2, H2, cls, d, rfl, I4, fun b o e hb => ?_, fun b o e hnf => ?_, .inr (.inr hh4), na, os, ag, hW _ _ _ _ w.1⟩)
    · have e' : (PySem.W.hideAll s2.heap [C]).get? b = some o := e
      have hbC : b ≠ C := fun q => by
        rw [q, PySem.W.hideAll_none [C] (by simp)] at e'
        cases e'
      exact PySem.W.hideAll_get [C] (nb b o (PySem.W.of_hideAll [C] e') hb) (by simpa using hbC)
    · have e' : (PySem.W.hideAll s2.heap [C]).get? b = some o := e
      have hbC : b ≠ C := fun q => by
        rw [q, PySem.W.hideAll_none [C] (by simp)] at e'
        cases e'
      obtain ⟨s1, e1⟩ := up b o (PySem.W.of_hideAll [C] e') hnf
      obtain ⟨s2, e2⟩ := up1 b _ e1 hnf
      obtain ⟨s3, e3⟩ := up4 b _ (hk b _ hbC e2) hnf
      exact ⟨s3, e3⟩
  have hfr : X.A.frames = some (X.env :: X.outer) := by rw [I2.ok.frames, hs]
  show wpAny _ _ (noteFrame (.ref a) ce) _ _ s'
  rw [noteFrame_env _ hce]
  rw [hs] at sky key
  rcases sky with ⟨hB, hn, hl, oe, vs, he, hz, hd, h1⟩ | fl | hh
  · exact HandSPX.look_newZ Zc.steady hfr hl hf he hB hn hd h1 hz key
  · exact HandSPX.looks_onZ Zc.steady hfr hf fl key
  · exact HandSPX.againZ hf hh.2.2.2 (key _ hh (Heap.UpToSlots.refl _))
/-- what the callees of the block's element may let out is taken by the wish xe -/
def Lets (B : Cx) (E : XK) : Prop := ∀ (pins : List (Addr × Obj)) (σ : L2.St) (H : Hp) (s : Shared) (e : Value) (s' : Shared), Inv B pins σ H s → CX B.prog B.w B.stack H s E e s' → B.xe e s'
theorem pe_lcX {elt tg iter : Expr} {ifs : List Expr} {scope : Scope} {own : List (Str × Nat)} {pos : Pos} {wi : TI} {g : TG} {tt : TT} {te : TE} (tk : Takes X W) (hW : ∀ cls d σ H, E cls d H → W cls d σ H) (hst : X.stack = X.env :: X.outer) (hf : X.env.frame = some X.env.locals)
    (hc : X.calm = true) (hN : X.N.Nodup) (hi : PI X tg iter wi) (ok : BlkOk X.N X.env.scope scope own)
    (hg : ∀ (s : Shared) (H : Hp) (C : Addr) (cl : List (Str × Addr)) (fp : List Addr), PG (X.blk s H scope (compEnvC scope cl C X.env) fp) tg g) (ht : ∀ (s : Shared) (H : Hp) (C : Addr) (cl : List (Str × Addr)) (fp : List Addr), PTs (X.blk s H scope (compEnvC scope cl C X.env) fp) ifs tt)
    (he : ∀ (s : Shared) (H : Hp) (C : Addr) (cl : List (Str × Addr)) (fp : List Addr) (xe : Value → Shared → Prop), Lets ((X.blk s H scope (compEnvC scope cl C X.env) fp).wish xe) E → PE ((X.blk s H scope (compEnvC scope cl C X.env) fp).wish xe) elt te) (hs : ∀ x, foldedSetIterable iter X.env x = pure x := by intro _; rfl) :
    PE X (.ListComp elt [⟨tg, iter, ifs, 0⟩] scope pos) (tLc wi g tt te (own.map (·.2))) := by
  refine ⟨fun pins s σ H Q I h => ?_⟩
  rw [eval_ListComp]
  have hfree : ∀ y ∈ scope.names, y.2 = .free → ∃ c, X.env.cells.lookup y.1 = some c := fun y hy e => (ok.free y hy e).elim (fun k => I.ok.has _ (.inl k)) fun k => I.ok.has _ (.inr k)
  refine comprehension_at (use := none) rfl hs (closure_ok hfree) ok.kind (fun y hy e => by rw [ok.uniq y hy, e]) (thn (hi.run pins s σ H _ I h) fun xv s1 hx => thn hx fun itv s2 h2 => ?_)
  obtain ⟨it, fp, tn, J, H2, rfl, I2, T, st2, f2, q⟩ := h2
  refine wpAny_newObj_type (newEnv_comp ?_) (by show 0 ≤ sizeLine; decide)
  have hDn : H2 s2.heap.objs.size = none := I2.hok.fresh (Nat.le_refl _)
  obtain ⟨V, ⟨m0, w0⟩, tr⟩ := q _ hDn
  generalize hD : s2.heap.objs.size = D at hDn w0 tr ⊢
  generalize hs3 : ({ s2 with heap := s2.heap.push { cls := .type "list", data := .seq ([] : List Value).toArray } } : Shared) = s3
  have h3 : s3.heap = s2.heap.push { cls := .type "list", data := .seq ([] : List Value).toArray } := by rw [← hs3]
  have I3 : Inv X pins σ (upd H2 D (.lst [])) s3 := by
    rw [← hs3]
    exact I2.laid (t' := s2.toks) (fun b o e => Heap.get?_push_of_some _ e) (Nat.le_of_eq hD) ⟨Nat.zero_le _, [], 0, .nil, by rw [← hD]; exact Heap.get?_push_size _ rfl⟩
  have f3 : ∀ b ∈ fp, FpOk X pins (upd H2 D (.lst [])) b ∧ b < s3.heap.objs.size := fun b hb => by
    obtain ⟨o, e, _⟩ := T.obj _ _ st2 b hb
    have hlt : b < s2.heap.objs.size := Heap.lt_size e
    refine ⟨⟨?_, (f2 b hb).2⟩, ?_⟩
    · rw [upd_ne (show b ≠ D from hD ▸ Nat.ne_of_lt hlt)]
      exact (f2 b hb).1
    · rw [h3, Heap.size_push]
      exact Nat.lt_succ_of_lt hlt
  have I4 := block_start I3 ok hN f3
  have pg := hg s3 (upd H2 D (.lst [])) s3.heap.objs.size (cellsFrom (s3.heap.objs.size + 1) scope.names (cloFrom X.env.cells scope.names [])) fp
  have pt := ht s3 (upd H2 D (.lst [])) s3.heap.objs.size (cellsFrom (s3.heap.objs.size + 1) scope.names (cloFrom X.env.cells scope.names [])) fp
  have pe := he s3 (upd H2 D (.lst [])) s3.heap.objs.size (cellsFrom (s3.heap.objs.size + 1) scope.names (cloFrom X.env.cells scope.names [])) fp
  show codeAny _ _ (.compStart (.ListComp elt [⟨tg, iter, ifs, 0⟩] scope pos) 0 (.ref it) (.ref D) (compEnvC scope (cellsFrom (s3.heap.objs.size + 1) scope.names (cloFrom X.env.cells scope.names [])) s3.heap.objs.size X.env)) (compEnds (model X.prog X.w) X.A X.xe none _ (.ref D) (compEnvC scope (cellsFrom (s3.heap.objs.size + 1) scope.names (cloFrom X.env.cells scope.names [])) s3.heap.objs.size X.env)) { s3 with heap := pushCells (s3.heap.push { cls := .type "dict", data := .dict #[] }) scope.names }
  have nfp : ∀ b ∈ fp, (upd H2 D (.lst [])) b = none := fun b hb => (f3 b hb).1.1
  generalize hce : compEnvC scope (cellsFrom (s3.heap.objs.size + 1) scope.names (cloFrom X.env.cells scope.names [])) s3.heap.objs.size X.env = ce at I4 pg pt pe ⊢
  have cL : ce.locals = s3.heap.objs.size := by rw [← hce]; rfl
  have cF : ce.frame = X.env.frame := by rw [← hce]; rfl
  generalize hH3 : upd H2 D (.lst []) = H3 at I3 I4 pg pt pe w0 nfp f3
  generalize hs4 : ({ s3 with heap := pushCells (s3.heap.push { cls := .type "dict", data := .dict #[] }) scope.names } : Shared) = s4 at I4 ⊢
  have st3 : tn 0 s3.heap := T.keep _ _ _ st2 fun b _ o e => by rw [h3]; exact Heap.get?_push_of_some _ e
  have st4 : tn 0 s4.heap := T.keep _ _ _ st3 fun b _ o e => by rw [← hs4]; exact pushCells_keeps _ _ _ _ (Heap.get?_push_of_some _ e)
  -- from the block's context back to the def's
  have back : ∀ {p : List (Addr × Obj)} {σ' : L2.St} {H' : Hp} {s' : Shared}, Inv (X.blk s3 H3 scope ce fp) p σ' H' s' → Inv X pins σ H' s' ∧ FpOk X pins H' s3.heap.objs.size ∧ ∃ m, s'.heap.Ns s3.heap.objs.size m := fun {p σ' H' s'} I' => by
    have nC : H' ce.locals = none := I'.free
    obtain ⟨m, hn, _⟩ := I'.loc
    have hn : s'.heap.Ns ce.locals m := hn
    rw [cL] at hn nC
    exact ⟨I3.call' (ch := fp) I'.os I'.base I'.hok I'.bare fun b hb => ⟨(f3 b hb).1.2.2.2.1, (f3 b hb).1.2.1, (f3 b hb).1.2.2.2.2.1, (f3 b hb).1.2.2.2.2.2⟩, I3.fpOk (Nat.le_refl _) nC, m, hn⟩
  have stat : ∀ {σ' : L2.St} {H' : Hp} {s' : Shared}, Inv (X.blk s3 H3 scope ce fp) [] σ' H' s' → (∀ b ∈ fp, H' b = none) → ∀ b ∈ fp, FpOk (X.blk s3 H3 scope ce fp) [] H' b := fun {σ' H' s'} I' hn b hb =>
    ⟨hn b hb, (I'.ok.exf b hb).1, I'.ok.exfs b hb, .inl hb, fun x c e => (I'.ok.exf b hb).2 x c e, fun p hp => absurd (show p ∈ ([] : List (Addr × Obj)) ++ [] from hp) (by simp)⟩
  have lp : codeAny (model X.prog X.w) X.A (.compLoop (.ListComp elt [⟨tg, iter, ifs, 0⟩] scope pos) 0 (.ref it) (.ref D) ce) (compEnds (model X.prog X.w) X.A X.xe none (EP X pins σ Q) (.ref D) ce) s4 := by
    refine compLoop_any (fun n s' => ∃ i H', Inv (X.blk s3 H3 scope ce fp) [] (wipe σ (own.map (·.2))) H' s' ∧ tn i s'.heap ∧ (∀ b ∈ fp, H' b = none) ∧ V i n H') ?_ m0 ⟨0, H3, I4, st4, nfp, w0⟩
    rintro n s5 ⟨i, H5, I5, st5, n5, w5⟩
    rcases tr i n H5 w5 with ⟨stop, qq⟩ | ⟨go, Nx, hNx, step⟩
    · refine thnF (T.done (X.blk s3 H3 scope ce fp) rfl rfl rfl hc i [] s5 _ H5 (fun _ _ => False) I5 (stat I5 n5) st5 stop) fun r s6 ⟨hr, I6⟩ => ?_
      subst hr
      obtain ⟨I7, ⟨f0, f1, f2', f5, f6, f7⟩, m, hn⟩ := back I6
      refine ⟨m, cL ▸ hn, fun h'' sb => ?_⟩
      rw [cL] at sb
      exact ⟨.ref D, H5, I7.turned (t' := s6.toks) (fun b o hb e => (sb.2 b hb).trans e) f0 f1 f5 f6 f7, rfl, qq⟩
    · refine thnF (T.item (X.blk s3 H3 scope ce fp) rfl rfl rfl hc i [] s5 _ H5 (fun _ _ => False) I5 (stat I5 n5) st5 go) fun r s6 ⟨y, hr, h6⟩ => ?_
      subst hr
      refine thnF h6 fun _ s7 ⟨x, H7, I7, r7, y7, st7, n7⟩ => ?_
      refine thnF (pg.run _ s7 _ H7 x y _ (I7.pinned (stat I7 n7) (T.obj _ _ st7)) r7 (step x H7 y7)) fun _ s8 ⟨σ8, H8, I8, hw8, q8⟩ => ?_
      refine thnF (pt.run _ s8 σ8 H8 _ I8 q8) fun b s9 ⟨H9, I9, q9⟩ => ?_
      have fin : ∀ {s' : Shared} {H' : Hp}, Inv (X.blk s3 H3 scope ce fp) ([] ++ pinsAt fp s7.heap) σ8 H' s' → Nx H' → ∃ m, m < n ∧ ∃ i H', Inv (X.blk s3 H3 scope ce fp) [] (wipe σ (own.map (·.2))) H' s' ∧ tn i s'.heap ∧ (∀ b ∈ fp, H' b = none) ∧ V i m H' := fun {s' H'} I' nx => by
        obtain ⟨m', hm, w'⟩ := hNx H' nx
        have kept : ∀ b ∈ fp, ∀ o, s7.heap.get? b = some o → s'.heap.get? b = some o ∧ H' b = none := fun b hb o eo =>
          have z := I'.pin (b, o) (List.mem_append_right _ (List.mem_append_right _ (mem_pinsAt hb eo)))
          ⟨z.1, z.2.1⟩
        refine ⟨m', hm, i + 1, H', (I'.unpinned (pins := [])).weak (by rw [← hw8, wipe_length]) (fun j v ev => ?_), T.keep _ _ _ st7 fun b hb o eo => (kept b hb o eo).1, fun b hb => ?_, w'⟩
        · rw [← hw8] at ev
          exact (wipe_some ev).1
        · obtain ⟨o, eo, _⟩ := T.obj _ _ st7 b hb
          exact (kept b hb o eo).2
      cases b with
      | false =>
        rw [if_neg (by decide)] at q9 ⊢
        exact fin I9 q9
      | true =>
        rw [if_pos rfl] at q9 ⊢
        let xe : Value → Shared → Prop := fun e s' => ∃ (p : List (Addr × Obj)) (σ' : L2.St) (H' : Hp) (sI : Shared), Inv (X.blk s3 H3 scope ce fp) p σ' H' sI ∧ CX X.prog X.w X.stack H' sI E e s'
        have pe' := (pe xe fun p σ' H' s' e s'' I' c => ⟨p, σ', H', s', Inv.unwish I', c⟩).run _ s9 σ8 H9 _ (I9.wish xe) q9
        refine wpAny_mono pe' (fun z s10 h10 => ?_) fun e s10 h10 => ?_
        · obtain ⟨yv, H10, I10, r10, acc, hD10, hz10, nx⟩ := h10
          exact wpAny_mono (app_ok (X := X.blk s3 H3 scope ce fp) (E := fun _ _ => False) (Inv.unwish I10) hD10 hz10 r10 fun s11 I11 => fin I11 nx) (fun _ _ q => q) fun _ _ q => q.elim
        · obtain ⟨p, σ', H', sI, I', c⟩ := h10
          obtain ⟨J7, fc, m, hn⟩ := back I'
          exact noted_call tk hW hst hf J7 fc hn cF cL c
  exact codeAny_compStart_list lp (T.self X.A 0 _ _ _ st4 lp)
end
end CQ

set_option Elab.async false
set_option maxRecDepth 100000
set_option maxHeartbeats 4000000
set_option linter.all false
/-! a lambda of a frame whose slots are frozen first -/
namespace Da
open PySem PySem.Spec PyProof.Rows L2
def dFz : List Nat → List En → (List En → Prop) → Prop
  | [], Γ, φ => φ Γ
  | i :: r, Γ, φ => ∃ e x, Γ[i]? = some e ∧ e.frz = some x ∧ dFz r (Γ.set i (.d x)) φ
theorem fz_is {K : PySem.W.Frag} [HasT K] {c : Ct K} {H : Hp} {σ : L2.St} : ∀ {fs : List Nat} {F : Hp} {Γ : List En} {φ : List En → Prop}, Is c F H σ Γ → dFz fs Γ φ → ∃ F1 Γ0, Is c F1 H σ Γ0 ∧ Same F F1 ∧ φ Γ0
  | [], F, Γ, _, I, h => ⟨F, Γ, I, Same.refl F, h⟩
  | i :: r, F, Γ, _, I, ⟨e, x, g, z, h⟩ => by
    obtain ⟨F1, v, hv, I1, s1, rp⟩ := I.frzSlot g z
    obtain ⟨F2, Γ0, I2, s2, h2⟩ := fz_is I1 h
    exact ⟨F2, Γ0, I2, s1.trans s2, h2⟩
def dWhyF (wo : Value → Str → Prop) (okw : Str) (den : (Value → Prop) → DT) : DT := fun Γ φ => ∃ fs : List Nat, dFz fs Γ fun Γ0 => dWhy wo okw den Γ0 φ
instance (priority := high) snd_lamF {K : PySem.W.Frag} [HasT K] {E : XK} {ψ : Value → Prop} {wo : Value → Str → Prop} {okw : Str} {t : XK → TE} {den : (Value → Prop) → DT} [s : ∀ E' ψ', Snd K E' ψ' (t E') (den ψ')] : Snd K E ψ (LamX.tLam (HasT.T K) (TTwhy wo okw) t) (dWhyF wo okw den) := ⟨fun {c F H σ Γ φ Q} I eo h q => by
  obtain ⟨fs, h⟩ := h
  obtain ⟨F1, Γ0, I1, s1, h1⟩ := fz_is I h
  exact (snd_lam (E := E) (ψ := ψ)).run I1 eo h1 fun F2 H2 v e Γ2 I2 s2 r2 z => q F2 H2 v e Γ2 I2 (s1.trans s2) r2 z⟩
end Da

set_option Elab.async false
set_option maxRecDepth 100000
set_option maxHeartbeats 4000000
set_option linter.all false
/-! a constructor, a method of an owned instance, that may raise -/
namespace Da
open PySem PySem.Spec PyProof.Rows L2 RZ HmS
section
variable {K : PySem.W.Frag} [HasT K]
abbrev DSOX := List Str → List O → List D → (List Str → List O → Prop) → (Value → Prop) → Prop
def spOX (K : PySem.W.Frag) [HasT K] (C : Addr) (den : DSOX) : Sp := fun vs H Q E => ∃ (p : Addr) (us : List V) (F : Hp) (T : List Addr) (ns : List Str) (os : List O) (ds : List D) (φ : List Str → List O → Prop) (ψ : Value → Prop),
  vs = .ref p :: us ∧ Ow F H (p :: T) (.ref p) (.ins C ns os) ∧ (p :: T).Nodup ∧ Same F H ∧ FN F ∧ TbOk K H ∧ Reps F us ds ∧ den ns os ds φ ψ ∧
  (∀ F' H' ns' os' T', Same F F' → (∀ a u, a ∉ (p :: T) → NT u → H a = some u → H' a = some u) → TbOk K H' → Same F' H' → FN F' → (∀ a u, F' a = some u → F a = some u ∨ Soft (cO K F H (p :: T)).H0 a) → Held (cO K F H (p :: T)) F' H' (.ow (.ins C ns' os') (p :: T')) (.ref p) → φ ns' os' → Q .non H') ∧
  ∀ C' H', (∀ a u, a ∉ (p :: T) → NT u → H a = some u → H' a = some u) → TbOk K H' → ψ C' → E C' none H'
theorem bodyOX {t : TS} {dts : (Value → Prop) → DSt} {N : List Str} {vs : List V} {H : Hp} {Q : VK} {E' : XK} {C : Addr} {den : DSOX} [s : ∀ ψ, SndS K E' ψ t (dts ψ)] (h : spOX K C den vs H Q E')
    (hd : ∀ ns os ds φ ψ p T, den ns os ds φ ψ → dts ψ (stO N (.ins C ns os) (p :: T) ds) (poO C p φ)) : t { nx := fun _ H' => Q .non H', rt := Q } (L2.start N vs) H := by
  obtain ⟨p, us, F, T, ns, os, ds, φ, ψ, rfl, ow, nd, fh, fn, tb, r, h1, q, qx⟩ := h
  have up : ∀ {H' : Hp}, (∀ a u, (cO K F H (p :: T)).H0 a = some u → H' a = some u) → ∀ a u, a ∉ (p :: T) → NT u → H a = some u → H' a = some u := fun {H'} k a u n nt e => k a u (by show (if a ∈ (p :: T) then none else ntH H a) = some u; rw [if_neg n]; exact ntH_of e nt)
  refine (s ψ).run (enterO ow nd fh fn tb r) (fun C' H' h2 _ t2 z => qx C' H' (up fun a u e => h2 a u (fun w => nomatch w) e) t2 z) (hd ns os ds φ ψ p T h1) ⟨fun F' H' σ' Γ' I z => ?_, fun F' H' σ' Γ' v e I hh n z => z.elim, fun _ _ _ _ _ z => z.elim, fun _ _ _ _ _ z => z.elim⟩
  obtain ⟨ns', os', T', g, hφ⟩ := z
  obtain ⟨v, _, hh⟩ := I.at_ 0 _ g (fun z => nomatch z)
  cases ow_ins hh.1
  exact q F' H' ns' os' T' I.f0 (up fun a u e => I.h0 a u (fun z => nomatch z) e) I.tb I.fh I.fn I.nw hh hφ
theorem lenOX {C : Addr} {den : DSOX} {n : Nat} {vs : List V} {H : Hp} {Q : VK} {E' : XK} (h : spOX K C den vs H Q E') (f : ∀ ns os ds φ ψ, den ns os ds φ ψ → ds.length = n) : vs.length = n + 1 := by
  obtain ⟨p, us, F, T, ns, os, ds, φ, ψ, rfl, _, _, _, _, _, r, h1, _⟩ := h
  rw [List.length_cons, r.length, f ns os ds φ ψ h1]
variable {E : XK} {ψ : Value → Prop} {al : TA} {dal : DA}
/-- C(..), which may raise -/
def dMakeX (C : Addr) (den : DSOX) (dvs : List V) (ψ : Value → Prop) (dal : DA) : DT := fun Γ φ => dal Γ fun xs Γ1 => (dvs.all isSc) = true ∧ den [] [] (xs ++ dvs.map vD) (fun ns2 os2 => ∀ p T2, φ (.ow (.ins C ns2 os2) (p :: T2)) Γ1) ψ
instance snd_makeX {C : Addr} {den : DSOX} {dvs : List V} [sl : SndA K E ψ al dal] : Snd K E ψ (tMake C (spOX K C den) dvs E al) (dMakeX C den dvs ψ dal) := ⟨fun {c F H σ Γ φ Q} I eo h q => by
  refine sl.run I eo h fun F1 H1 vs xs Γ1 I1 s1 r1 h1 => ?_
  obtain ⟨hsc, h1⟩ := h1
  intro x dx hx hdx nx
  have I2 : Is c F1 (upd H1 dx (.own x)) σ Γ1 := I1.newH hdx
  have hx2 : (upd H1 dx (.own x)) x = none := by rw [upd_ne nx.symm]; exact hx
  have I3 : Is c F1 (upd (upd H1 dx (.own x)) x (.ins C dx [])) σ Γ1 := I2.newH hx2
  have hat : (upd (upd H1 dx (.own x)) x (.ins C dx [])) x = some (.ins C dx []) := upd_same
  have old : ∀ {a : Addr} {u : HO}, H1 a = some u → a ∉ [x] ∧ (upd (upd H1 dx (.own x)) x (.ins C dx [])) a = some u := fun {a u} e => by
    have n1 : a ≠ x := fun z => by rw [z, hx] at e; cases e
    have n2 : a ≠ dx := fun z => by rw [z, hdx] at e; cases e
    exact ⟨by simpa using n1, by rw [upd_ne n1, upd_ne n2]; exact e⟩
  refine ⟨x, vs ++ dvs, F1, [], [], [], xs ++ dvs.map vD, _, ψ, rfl, .ins (I1.unF hx) hat rfl .nil, (by simp), I3.fh, I3.fn, I3.tb, r1.app (Reps.scs hsc), h1, fun F' H' ns' os' T' sf k tb fh fn nw h2 hφ => ⟨rfl, ?_⟩, fun C' H' k t2 z => eo C' H' (fun a u np e => ?_) (fun p e => ?_) t2 z⟩
  rotate_left
  · exact k a u (old (I1.h0 a u np e)).1 (I1.hn a u e) (old (I1.h0 a u np e)).2
  · obtain ⟨_, ⟨i1, i2, i3, i4, hp, b⟩, _⟩ := I1.pp p e
    exact ⟨i1, i2, i3, i4, k p _ (old hp).1 (fun _ z => nomatch z) (old hp).2, b⟩
  have free : ∀ a ∈ [x], c.H0 a = none ∧ Not σ Γ1 a := fun a m => by
    cases List.mem_singleton.mp m
    exact ⟨I1.un hx, I1.fresh hx⟩
  have I4 : Is c F' H' σ Γ1 := I3.growX (S := [x]) (fun a m => ⟨(free a m).1, (free a m).2, fun vs e => by
    cases List.mem_singleton.mp m
    rw [hat] at e
    cases e⟩) sf k tb fh fn (fun a u e => (nw a u e).imp id fun z => by
      by_cases m : a ∈ [x]
      · exact .inl m
      · refine .inr ?_
        rcases z with z | ⟨vs, z⟩
        · have z : (if a ∈ [x] then none else ntH _ a) = none := z
          rw [if_neg m] at z
          exact .inl z
        · have z : (if a ∈ [x] then none else ntH _ a) = some (.tup vs) := z
          rw [if_neg m] at z
          exact .inr ⟨vs, z⟩)
  exact q F' H' (.ref x) (.ow (.ins C ns' os') (x :: T')) Γ1 I4 (s1.trans sf) ⟨⟨h2.1, h2.2.1, fun a m => (I3.unNt free (h2.2.2 a m)).1⟩, (fun z => nomatch z), fun a m => (I3.unNt free (h2.2.2 a m)).2⟩ (hφ x T')⟩
variable {t : TS} {dts : (Value → Prop) → DSt} {N : List Str} {vs : List V} {H : Hp} {Q : VK} {E' : XK} {C : Addr}
def mo1X (k : List Str → List O → D → (List Str → List O → Prop) → (Value → Prop) → Prop) : DSOX := fun ns os ds φ ψ => match ds with | [x] => k ns os x φ ψ | _ => False
def mo2X (k : List Str → List O → D → D → (List Str → List O → Prop) → (Value → Prop) → Prop) : DSOX := fun ns os ds φ ψ => match ds with | [x, y] => k ns os x y φ ψ | _ => False
def mo3X (k : List Str → List O → D → D → D → (List Str → List O → Prop) → (Value → Prop) → Prop) : DSOX := fun ns os ds φ ψ => match ds with | [x, y, z] => k ns os x y z φ ψ | _ => False
theorem lemo1X {k : List Str → List O → D → (List Str → List O → Prop) → (Value → Prop) → Prop} (h : spOX K C (mo1X k) vs H Q E') : vs.length = 2 := lenOX (n := 1) h fun ns os ds φ ψ h => match ds, h with | [_], _ => rfl
theorem lemo2X {k : List Str → List O → D → D → (List Str → List O → Prop) → (Value → Prop) → Prop} (h : spOX K C (mo2X k) vs H Q E') : vs.length = 3 := lenOX (n := 2) h fun ns os ds φ ψ h => match ds, h with | [_, _], _ => rfl
theorem lemo3X {k : List Str → List O → D → D → D → (List Str → List O → Prop) → (Value → Prop) → Prop} (h : spOX K C (mo3X k) vs H Q E') : vs.length = 4 := lenOX (n := 3) h fun ns os ds φ ψ h => match ds, h with | [_, _, _], _ => rfl
theorem bodmo1X {k : List Str → List O → D → (List Str → List O → Prop) → (Value → Prop) → Prop} [s : ∀ ψ, SndS K E' ψ t (dts ψ)] (h : spOX K C (mo1X k) vs H Q E') (hd : ∀ ns os x φ ψ p T, k ns os x φ ψ → dts ψ (stO N (.ins C ns os) (p :: T) [x]) (poO C p φ)) : t (bodyGoal Q) (L2.start N vs) H :=
  bodyOX (s := s) h fun ns os ds φ ψ p T h => match ds, h with | [x], h => hd ns os x φ ψ p T h
theorem bodmo2X {k : List Str → List O → D → D → (List Str → List O → Prop) → (Value → Prop) → Prop} [s : ∀ ψ, SndS K E' ψ t (dts ψ)] (h : spOX K C (mo2X k) vs H Q E') (hd : ∀ ns os x y φ ψ p T, k ns os x y φ ψ → dts ψ (stO N (.ins C ns os) (p :: T) [x, y]) (poO C p φ)) : t (bodyGoal Q) (L2.start N vs) H :=
  bodyOX (s := s) h fun ns os ds φ ψ p T h => match ds, h with | [x, y], h => hd ns os x y φ ψ p T h
theorem bodmo3X {k : List Str → List O → D → D → D → (List Str → List O → Prop) → (Value → Prop) → Prop} [s : ∀ ψ, SndS K E' ψ t (dts ψ)] (h : spOX K C (mo3X k) vs H Q E') (hd : ∀ ns os x y z φ ψ p T, k ns os x y z φ ψ → dts ψ (stO N (.ins C ns os) (p :: T) [x, y, z]) (poO C p φ)) : t (bodyGoal Q) (L2.start N vs) H :=
  bodyOX (s := s) h fun ns os ds φ ψ p T h => match ds, h with | [x, y, z], h => hd ns os x y z φ ψ p T h
end
end Da

set_option Elab.async false
set_option maxRecDepth 100000
set_option maxHeartbeats 4000000
set_option linter.all false
/-! a def that gives back what the lambda gives, or a word where one exception comes -/
namespace Da
open PySem PySem.Spec PyProof.Rows L2
section
variable {K : PySem.W.Frag} [HasT K]
def dTold (K : PySem.W.Frag) (CS : Addr) (ret : Str) (den : (Value → Prop) → DT) : DT := fun Γ φ => PySem.W.exmOne K (.ref CS) (.ref CS) = some true ∧ ∃ fs : List Nat, dFz fs Γ fun Γ0 =>
  ∃ ψ : Value → Prop, (∀ C, ψ C → C = .ref CS ∧ φ (.d (.str ret)) Γ0) ∧ den ψ (Γ0.map onlyE) fun e _ => ∃ x, e = .d x ∧ φ (.d x) Γ0
instance snd_told {E : XK} {ψ : Value → Prop} {CS : Addr} {ret : Str} {t : XK → TE} {den : (Value → Prop) → DT} [s : ∀ E' ψ', Snd K E' ψ' (t E') (den ψ')] : Snd K E ψ (LamX.tLam (HasT.T K) (LamX.TTold K CS ret) t) (dTold K CS ret den) := ⟨fun {c F H σ Γ φ Q} I eo h q => by
  obtain ⟨ex1, fs, h⟩ := h
  obtain ⟨F1, Γ0, I1, s1, ψ', h1, h2⟩ := fz_is I h
  refine ⟨I1.tb, fun H1 ex tb1 => ?_⟩
  have sh : NS H H1 := fun b o n e => ex b o e n
  have bk : ∀ {H2 : Hp}, NS H1 H2 → TbOk K H2 → Is c F1 H2 σ Γ0 := fun {H2} s2 t2 => I1.growN (Same.refl F1) (sh.trans s2) t2 (fun a o e => s2 a o (I1.fn a o e) (sh a o (I1.fn a o e) (I1.fh a o e))) I1.fn fun a o e => .inl e
  refine (s _ ψ').run (I1.only sh tb1) (fun C H' k _ t2 z => ?_) h2 fun F2 H2 v e Γ2 I2 s2 r2 z => ?_
  · obtain ⟨rfl, hφ⟩ := h1 C z
    exact ⟨true, ex1, fun _ => q F1 H' _ _ Γ0 (bk (fun b o n e => k b o (fun z => nomatch z) (ntH_of e n)) t2) s1 (Res.d (.str ret)) hφ, fun z => by cases z⟩
  · obtain ⟨x, rfl, hφ⟩ := z
    have sh2 : NS H1 H2 := fun b o n e => I2.h0 b o (fun z => nomatch z) (ntH_of e n)
    have soft : ∀ {a : Addr}, Soft (ntH H1) a → Soft (ntH H) a := fun {a} w => by
      cases e : ntH H a with
      | none => exact .inl e
      | some o =>
        obtain ⟨e1, n1⟩ := ntH_some e
        have e2 := ntH_of (sh a o n1 e1) n1
        rcases w with w | ⟨vs, w⟩
        · rw [e2] at w; cases w
        · rw [e2] at w
          cases w
          exact .inr ⟨vs, e⟩
    have I3 : Is c F2 H2 σ Γ0 := I1.growN s2 (sh.trans sh2) I2.tb I2.fh I2.fn fun a o e => (I2.nw a o e).imp id soft
    exact q F2 H2 v (.d x) Γ0 I3 (s1.trans s2) (Res.d r2.1) hφ⟩
end
end Da

set_option Elab.async false
set_option maxRecDepth 100000
set_option maxHeartbeats 4000000
set_option linter.all false
/-! the end of a law with lambdas where something is shown -/
namespace Da
open PySem PySem.Spec PyProof.Rows L2
theorem law_callTG {P : Program} {w : World} {K : PySem.W.Frag} {mg mb : Str → Option Value} {k : Nat} {fa a : Addr} {cs : List (Addr × Addr)} {fd : FuncData} {x : Str} {sp : Sp} {s₁ : Shared} {vs : List Value} {ns : List Int}
    (KX : K.In s₁.heap) (hns : s₁.heap.Ns mainGlobals mg) (hb : s₁.heap.Ns builtinsNs mb) (hbb : ∀ x : Str, x ≠ "__name__" → mb x = bootBuiltins x) (hlim : s₁.heap.NoLimit) (hg : s₁.gens = #[])
    (hT : ∀ p ∈ cs, s₁.heap.get? p.2 = some { cls := .none, data := .fields #[] }) (nT : ∀ p ∈ cs, K.lookup p.2 = none) (C : ∀ p ∈ cs, PySem.W.CodeHd s₁.heap p.1 p.2)
    (hbm : ∃ (bm : Addr) (ob : Obj), mg "__builtins__" = some (.ref bm) ∧ bm ≠ builtinsNs ∧ s₁.heap.get? bm = some ob ∧ ob.cls = .type "module" ∧ ob.dict = some builtinsNs ∧ ob.data = .plain)
    (ha : s₁.heap.get? a = some { cls := .type "list", data := .seq vs.toArray }) (hi : IntsAre vs ns) (hl : ns.length ≤ sizeLine) (hr : Room k callerA)
    (F : ∀ base : Heap, K.In base → base.Ns mainGlobals mg → (∀ p ∈ cs, LamX.TabB base mg p.1 p.2) → FnG P w K mg base k fa fd [x] sp) (hbind : ∀ (s : Shared) (u : Value), BindsTo s fd ⟨[u], []⟩ [(x, u)])
    (hsp : ∀ H : Hp, (∀ p ∈ cs, H p.2 = some (.tbl #[])) → SqL K H a (ns.map V.int) → sp [.ref a] H (fun v _ => v = .bl true) fun _ _ _ => False) :
    codeAny (model P w) callerA (.call (.ref fa) ⟨[.ref a], []⟩) (fun r s' => r = .ok (.ret (.bool true)) ∧ OldK s₁.heap s'.heap ∧ s'.os = s₁.os ∧ AllBare s'.gens) s₁ := by
  have rv := vals_ints hi
  have lenV := hi.length
  have tab : ∀ {b : Addr}, (∃ p ∈ cs, p.2 = b) → s₁.heap.get? b = some { cls := .none, data := .fields #[] } := by
    rintro b ⟨p, hp, rfl⟩
    exact hT p hp
  have noTab : ¬ ∃ p ∈ cs, p.2 = a := by
    intro z
    have e := tab z
    rw [ha] at e
    have e' : Data.seq vs.toArray _ = Data.fields #[] := congrArg Obj.data (Option.some.inj e)
    cases e'
  have step : ∀ H : Hp, (∀ p ∈ cs, H p.2 = some (.tbl #[])) → (∀ b u, H b = some u → (b = a ∧ ∃ o xs, u = .frz o (.lst xs)) ∨ ∃ p ∈ cs, p.2 = b) → SqL K H a (ns.map V.int) → HOk P w H s₁.heap → (H a ≠ none → K.lookup a = none) →
      codeAny (model P w) callerA (.call (.ref fa) ⟨[.ref a], []⟩) (fun r s' => r = .ok (.ret (.bool true)) ∧ OldK s₁.heap s'.heap ∧ s'.os = s₁.os ∧ AllBare s'.gens) s₁ := by
    intro H tabs cls sq hok off
    have free : ∀ {b : Addr} {o : Obj}, s₁.heap.get? b = some o → b ≠ a → o.data ≠ .fields #[] → H b = none := by
      intro b o e na nd
      cases q : H b with
      | none => rfl
      | some u =>
        rcases cls b u q with ⟨z, _⟩ | t
        · exact absurd z na
        · rw [tab t] at e
          cases e
          exact absurd rfl nd
    have hid : ∀ {b : Addr} {o : Obj}, s₁.heap.get? b = some o → H b = none → (hidT s₁.heap H).get? b = some o := hidT_get
    have notA : ∀ {b : Addr} {o : Obj}, s₁.heap.get? b = some o → (∀ us n, o.data ≠ .seq us n) → b ≠ a := by
      intro b o e d z
      rw [z, ha] at e
      cases e
      exact d _ _ rfl
    have spaces : ∀ {b : Addr} {m : Str → Option Value}, s₁.heap.Ns b m → (hidT s₁.heap H).Ns b m := by
      rintro b m ⟨o, es, ep, e, d, r⟩
      refine ⟨o, es, ep, hid e (free e (notA e fun us n z => ?_) fun z => ?_), d, r⟩
      · rw [d] at z; cases z
      · rw [d] at z; cases z
    have kin : K.In (hidT s₁.heap H) := by
      intro b o e
      refine hid (KX b o e) ?_
      cases q : H b with
      | none => rfl
      | some u =>
        rcases cls b u q with ⟨rfl, _⟩ | ⟨p, hp, rfl⟩
        · rw [off (by rw [q]; simp)] at e
          cases e
        · rw [nT p hp] at e
          cases e
    have md : Mod K mg (hidT s₁.heap H) := by
      obtain ⟨mc, h1, h2⟩ := hlim
      exact ⟨kin, spaces hns, ⟨mb, spaces hb, hbb⟩, mc, spaces h1, h2⟩
    have tb : ∀ p ∈ cs, LamX.TabB (hidT s₁.heap H) mg p.1 p.2 := by
      intro p hp
      have tp := hT p hp
      constructor
      · obtain ⟨o, us, file, tf, flags, tg, inF, text, tt, e1, r1, r2, r3, r⟩ := C p hp
        refine ⟨o, us, file, tf, flags, tg, inF, text, tt, hid e1 (free e1 (notA e1 fun us' n z => ?_) fun z => ?_), r1, r2, r3, r⟩
        · rw [r2] at z; cases z
        · rw [r2] at z
          cases z
          simp at r3
      · obtain ⟨bm, ob, b1, b2, b3, b4, b5, b6⟩ := hbm
        refine ⟨bm, ob, b1, b2, fun q => ?_, fun q => ?_, hid b3 (free b3 (notA b3 fun us n z => ?_) fun z => ?_), b4, b5, b6⟩
        · obtain ⟨o, es, ep, e, hd, _⟩ := hns
          rw [q, e] at b3
          cases b3
          rw [hd] at b6
          cases b6
        · rw [q, tp] at b3
          cases b3
          cases b6
        · rw [b6] at z; cases z
        · rw [b6] at z; cases z
      · intro z
        obtain ⟨o, es, ep, e, hd, _⟩ := hns
        rw [z, tp] at e
        cases e
        cases hd
    have none0 : ∀ {b : Addr}, b ∈ frs [] → False := fun {b} z => by
      have z : b ∈ ([] : List Addr) := z
      simp at z
    have env : Env0 P w K mg (hidT s₁.heap H) callerA [] s₁ H := ⟨rfl, md, fun b o => of_hidT, Nat.le_of_eq (hidT_size _ _), trivial, fun b z => (none0 z).elim, hok, .of_eq hg⟩
    have run := (F _ kin (spaces hns) tb).go callerA [] s₁ H ⟨[.ref a], []⟩ [.ref a] [.ref a] _ _ rfl hr env (hbind s₁ (.ref a)) (.cons rfl .nil) (hsp H tabs sq)
    refine codeAny_mono run ?_
    intro r s' h
    match r, h with
    | .error e, h => exact False.elim h
    | .ok .next, h => exact False.elim h
    | .ok .brk, h => exact False.elim h
    | .ok .cont, h => exact False.elim h
    | .ok (.ret u), ⟨v, H', os, bare, un, hok', r', q⟩ =>
      have q : v = .bl true := q
      subst q
      have r' : u = Value.bool true := r'
      subst r'
      have kept : ∀ {b : Addr} {o : Obj}, (¬ ∃ p ∈ cs, p.2 = b) → s₁.heap.get? b = some o → s'.heap.get? b = some o := by
        intro b o nt e
        cases q : H b with
        | none => exact un.keep b o e q (fun z => none0 z) (by simp)
        | some u =>
          rcases cls b u q with ⟨_, ob, xs, rfl⟩ | t
          · obtain ⟨e1, _⟩ := hok b _ q
            obtain ⟨e2, _⟩ := hok' b _ (un.frzs b ob _ q)
            rw [e] at e1
            cases e1
            exact e2
          · exact absurd t nt
      have grown : ∀ p ∈ cs, ∃ more : Array Value, s'.heap.get? p.2 = some { cls := .none, data := .fields more } := by
        intro p hp
        obtain ⟨more, z⟩ := un.tbls p.2 #[] (tabs p hp)
        exact ⟨_, hok' p.2 _ z⟩
      refine ⟨rfl, ⟨fun b o e => ?_, fun b o e => ?_⟩, os, bare⟩
      · by_cases t : ∃ p ∈ cs, p.2 = b
        · obtain ⟨p, hp, rfl⟩ := t
          obtain ⟨more, hm⟩ := grown p hp
          rw [hT p hp] at e
          cases e
          exact .inr (.inl ⟨((C p hp).tab (hT p hp)).isCodeTable, rfl, #[], more, rfl, by rw [Array.empty_append]; exact hm⟩)
        · exact .inl (kept t e)
      · by_cases t : ∃ p ∈ cs, p.2 = b
        · obtain ⟨p, hp, rfl⟩ := t
          obtain ⟨more, hm⟩ := grown p hp
          exact ⟨_, hm⟩
        · exact ⟨o, kept t e⟩
  let TH : Hp := fun b => if b ∈ cs.map (·.2) then some (.tbl #[]) else none
  have th1 : ∀ {b : Addr}, (∃ p ∈ cs, p.2 = b) → TH b = some (.tbl #[]) := fun {b} t => if_pos (List.mem_map.mpr t)
  have th2 : ∀ {b : Addr} {u : HO}, TH b = some u → (∃ p ∈ cs, p.2 = b) ∧ u = .tbl #[] := by
    intro b u z
    by_cases t : b ∈ cs.map (·.2)
    · rw [show TH b = some (.tbl #[]) from if_pos t] at z
      cases z
      exact ⟨List.mem_map.mp t, rfl⟩
    · rw [show TH b = none from if_neg t] at z
      cases z
  by_cases hk : K.lookup a = none
  · let AH : Hp := fun b => if b = a then some (.frz { cls := .type "list", data := .seq vs.toArray } (.lst (ns.map V.int))) else TH b
    have a1 : AH a = some (.frz { cls := .type "list", data := .seq vs.toArray } (.lst (ns.map V.int))) := if_pos rfl
    have a2 : ∀ {b : Addr}, b ≠ a → AH b = TH b := fun {b} n => if_neg n
    refine step AH (fun p hp => ?_) (fun b u z => ?_) (.inl (.inr ⟨_, a1⟩)) (fun b u z => ?_) fun _ => hk
    · rw [a2 fun e => noTab ⟨p, hp, e⟩]
      exact th1 ⟨p, hp, rfl⟩
    · by_cases e : b = a
      · subst e
        rw [a1] at z
        cases z
        exact .inl ⟨rfl, _, _, rfl⟩
      · rw [a2 e] at z
        exact .inr (th2 z).1
    · by_cases e : b = a
      · subst e
        rw [a1] at z
        cases z
        refine ⟨ha, ?_, vs, _, rv, ha⟩
        rw [List.length_map]
        exact hl
      · rw [a2 e] at z
        obtain ⟨t, rfl⟩ := th2 z
        exact tab t
  · obtain ⟨o, hk⟩ : ∃ o, K.lookup a = some o := by
      cases q : K.lookup a with
      | none => exact absurd q hk
      | some o => exact ⟨o, rfl⟩
    have e := KX a o hk
    rw [ha] at e
    cases e
    refine step TH (fun p hp => th1 ⟨p, hp, rfl⟩) (fun b u z => .inr (th2 z).1) (.inr ⟨_, vs.toArray, _, hk, rfl, rfl, rfl, ?_, by simpa using rv⟩) (fun b u z => ?_) (fun z => ?_)
    · rw [List.size_toArray, lenV]
      exact hl
    · obtain ⟨t, rfl⟩ := th2 z
      exact tab t
    · refine absurd ?_ z
      exact if_neg fun t => noTab (List.mem_map.mp t)
/-- what is known of a law that shows something, and has lambdas, at the head's heap h -/
def LawAtG (l : PySem.W.OpenLaw) (w : World) (K : PySem.W.Frag) (k n : Nat) (x : Str) (mg : Str → Option Value) (fa : Addr) (h : Heap) : Prop :=
  ∃ (fd : FuncData) (cs : List (Addr × Addr)) (sp : Sp), (∀ p ∈ cs, h.get? p.2 = some { cls := .none, data := .fields #[] }) ∧ (∀ p ∈ cs, K.lookup p.2 = none) ∧ (∀ p ∈ cs, PySem.W.CodeHd h p.1 p.2) ∧ (∀ (s : Shared) (u : Value), BindsTo s fd ⟨[u], []⟩ [(x, u)]) ∧
    (∀ (H : Hp) (a : Addr) (ns : List Int), ns.length ≤ n → (∀ p ∈ cs, H p.2 = some (.tbl #[])) → SqL K H a (ns.map V.int) → sp [.ref a] H (fun v _ => v = .bl true) fun _ _ _ => False) ∧
    ∀ base : Heap, K.In base → base.Ns mainGlobals mg → (∀ p ∈ cs, LamX.TabB base mg p.1 p.2) → FnG l.prog w K mg base k fa fd [x] sp
theorem walk_ofTG {l : PySem.W.OpenLaw} {n k : Nat} {q : Program} {loose : List Str} {XP : (Str → Option Value) → Heap → Prop} {YP : World → Heap → Prop} {d : DefRec} {K : Params → PySem.W.Frag} {x : Str}
    (hn : l.most = some n) (hn2 : n ≤ sizeLine) (hdf : d.params.defaults = []) (hr : Room k callerA) (hY : ∀ (w : World) (h : Heap), YP w h → (K w.params).In h)
    (F : ∀ (w : World) (mg : Str → Option Value) (fa : Addr) (h : Heap), YP w h → (K w.params).In h → h.Ns mainGlobals mg → mg d.name = some (.ref fa) → LawAtG l w (K w.params) k n x mg fa h) :
    PySem.W.WalkO q loose XP YP l.row.toRowW d [] (fun f vs => PySem.call f vs) := by
  apply Att.attach_callB hn hdf
  intro w s₀ s₁ mg mb fa o pm cd doc a vs ns G Y ho hd hcd hmg hobj hints hlen hbits hg
  have kx := hY w _ Y
  obtain ⟨fd, cs, sp, hT, nT, C, hb, hsp, hF⟩ := F w mg fa _ Y kx G.T.g hmg
  exact law_callTG kx G.T.g G.T.b G.T.builtins G.T.nolimit hg hT nT C G.T.bmain hobj hints (Nat.le_trans hlen hn2) hr hF hb fun H hH hS => hsp H a ns hlen hH hS
end Da

set_option Elab.async false
set_option maxRecDepth 100000
set_option maxHeartbeats 4000000
set_option linter.all false
/-! a law with lambdas that shows something; repr of whatever data -/
namespace Da
open PySem PySem.Spec PyProof.Rows L2 RZ HmS
section
variable {P : Program} {w : World} {K : PySem.W.Frag} {mg : Str → Option Value} {base : Heap}
theorem okGL {x : Str} {st : Stmt} {f c : Addr} {fd : FuncData} {N ps : List Str} {k : Nat} {sp : Sp} (F : FunL K x st f fd c) (S : FnScope N ps (defScope st)) (len : ∀ vs H Q E, sp vs H Q E → vs.length = ps.length)
    (hb : ∀ (A : Around) (outer : List Env) (s : Shared) (H : Hp) (vs : List V) (Q : VK) (E : XK), Room k (A.deeper (envOfC x (defScope st) s.heap.objs.size f (.ref c))) → (A.deeper (envOfC x (defScope st) s.heap.objs.size f (.ref c))).guards = some [] → sp vs H Q E →
      ∃ t, PSs (cxOf CX0 P w K mg base N x (defScope st) f (.ref c) A outer s H E).nox (defBody st) t ∧ t { nx := fun _ H' => Q .non H', rt := Q } (start N vs) H) : FnG P w K mg base (k + 1) f fd ps sp := by
  obtain ⟨oc, od, kV, doc, pm, an, ct, osl, rfl, lk, hcd⟩ := F.ex
  constructor
  · exact len
  intro A outer s H args us vs Q E hg hr e0 hbd rv hsp
  have inH : K.In s.heap := e0.mod.kin.keeps (fun b o e => (e0.bs b o e).1)
  have nl : s.heap.NoLimit := e0.mod.nolimit.keeps (fun b o e => (e0.bs b o e).1)
  have kinds : ∀ y ∈ ps.zip us, (defScope st).names.lookup y.1 = some .local ∨ ((defScope st).names.lookup y.1 = some .cell ∧ ((cellsFrom (s.heap.objs.size + 1) (defScope st).names []).lookup y.1).isSome = true) := by
    rintro ⟨n, v⟩ hy
    exact (S.par n (List.of_mem_zip hy).1).imp id fun q => ⟨q, PySem.W.cellsFrom_some _ _ _ (.inl q)⟩
  apply codeAny_call_function hr.depth (inH _ _ lk) rfl S.co S.gen rfl (PySem.W.codeRec_of inH hcd) (hbd _ _ _ _ ?_)
  apply wpAny_newFunctionEnv_cells S.kind kinds
  intro env he s1 x
  subst he
  constructor
  · exact nl.keeps x.toInCall.keep
  apply codeAny_func
  obtain ⟨t, ht, hq⟩ := hb A outer s H vs Q E (hr.deeper _) (guards_deeper hg) hsp
  have I := inv_start (E := E) (mg := mg) (CX := CX0) S hr.hd e0 (len _ _ _ _ hsp) rv x
  apply wpAny_mono (ht.nox.run [] s1 (start N vs) H _ I hq)
  · intro fl s' hs
    cases fl with
    | ret u => obtain ⟨v, σ', H', J, r, q⟩ := hs; exact ⟨v, H', J.os, J.bare, J.base, J.hok, r, q⟩
    | next => obtain ⟨σ', H', J, q⟩ := hs; exact ⟨V.non, H', J.os, J.bare, J.base, J.hok, rfl, q⟩
    | brk => obtain ⟨_, _, _, q⟩ := hs; exact q.elim
    | cont => obtain ⟨_, _, _, q⟩ := hs; exact q.elim
  · exact fun e s' hs => hs
end
section
variable {X : Cx} {K : PySem.W.Frag} [HasT K]
def rReprV (K : PySem.W.Frag) : List V → Hp → VK → Prop := fun xs H Q => rRepr K xs H Q ∨ ∃ z : Str, xs = [.str z] ∧ (reprText z).length ≤ sizeLine ∧ Q (.str (reprText z)) H
theorem cr_reprV (hG : X.A.guards = some []) (hu : X.A.units + 64 < cLine) : CallR X (.builtin "repr") (rReprV X.K) := by
  intro pins s σ H xs us Q I r h
  rcases h with h | ⟨z, rfl, hz, q⟩
  · exact cr_repr hG hu pins s σ H xs us Q I r h
  · obtain ⟨u, rfl, ru⟩ := vals1 r
    obtain ⟨t, rfl⟩ := ru
    exact PySem.P.repr_of_str ⟨.str (reprText z), H, I.tok _, ⟨_, rfl⟩, q⟩ hz
def dReprV (xs : List D) (φ : En → Prop) : Prop := match xs with
  | [.str z] => (reprText z).length ≤ sizeLine ∧ φ (.d (.str (reprText z)))
  | xs => dReprR xs φ
instance snd_reprV : SndC K (rReprV K) dReprV := ⟨fun {c F H σ Γ xs ds φ Q} I r h q => by
  have gen : dReprR ds φ → rReprV K xs H Q := fun h => .inl ((snd_repr (K := K)).run I r h q)
  match ds, r, h with
  | [.str z], r, ⟨h1, h2⟩ =>
    obtain ⟨v, rfl, rp⟩ := one_of r
    cases rp
    exact .inr ⟨z, rfl, h1, q F H _ _ I (Same.refl F) (Res.d (.str _)) h2⟩
  | [], r, h => exact gen h
  | [.tup _], r, h => exact gen h
  | [.lst _], r, h => exact gen h
  | [.int _], r, h => exact gen h
  | [.bl _], r, h => exact gen h
  | [.non], r, h => exact gen h
  | [.dK _ _], r, h => exact gen h
  | [.dT _ _], r, h => exact gen h
  | [.ins _ _ _], r, h => exact gen h
  | a :: b :: l, r, h =>
    have h : dReprR (a :: b :: l) φ := by cases a <;> exact h
    exact gen h⟩
end
end Da

set_option Elab.async false
set_option maxRecDepth 100000
set_option maxHeartbeats 4000000
set_option linter.all false
/-! calls by names -/
namespace Da
open PySem PySem.Spec PyProof.Rows L2
section
variable {K : PySem.W.Frag} [HasT K] {E : XK} {ψ : Value → Prop} {al tk : TA} {dal dkw : DA}
/-- what puts arguments in order does so with data as with values -/
class Puts (gV : List V → List V → List V) (gD : outParam (List D → List D → List D)) : Prop where
  rep : ∀ {F : Hp} {vs zs : List V} {xs ys : List D}, Reps F vs xs → Reps F zs ys → Reps F (gV vs zs) (gD xs ys)
def dCallK (den : List D → (En → Prop) → (Value → Prop) → Prop) (gD : List D → List D → List D) (ψ : Value → Prop) (dal dkw : DA) : DT := fun Γ φ => dal Γ fun xs Γ1 => dkw Γ1 fun ys Γ2 => den (gD xs ys) (fun e => φ e Γ2) ψ
instance snd_callK {den : List D → (En → Prop) → (Value → Prop) → Prop} {gV : List V → List V → List V} {gD : List D → List D → List D} [p : Puts gV gD] [sl : SndA K E ψ al dal] [sk : SndA K E ψ tk dkw] : Snd K E ψ (tCallK (spX K den) gV E al tk) (dCallK den gD ψ dal dkw) := ⟨fun {c F H σ Γ φ Q} I eo h q => by
  refine sl.run I eo h fun F1 H1 vs xs Γ1 I1 s1 r1 h1 => ?_
  refine sk.run I1 eo h1 fun F2 H2 zs ys Γ2 I2 s2 r2 h2 => ?_
  exact call_run I2 eo (p.rep (Reps.mono s2 r1) r2) h2 fun F3 H3 v e I3 s3 r3 z => q F3 H3 v e Γ2 I3 (s1.trans (s2.trans s3)) r3 z⟩
end
section
variable {X : Cx} {CX : CXT} {k : Nat} {f : Addr} {fd : FuncData} {ps ks : List Str} {sp : Sp} {E : XK} {x : Str} {p pos : Pos} {kws : List Keyword} {tk : TA} {g : List Value → List Value → List Value} {gV : List V → List V → List V}
/-- f(k = v, ..) -/
theorem pe_callK0 (F : FnOk X.prog X.w X.K X.mg X.base CX k f fd ps sp) (hr : Room k X.A) (hg : Gl X x) (hm : X.mg x = some (.ref f)) (hk : PySem.W.keepIn X.K (.ref f) = true) (hb : KBinds X.K fd ps ks g gV) (hx : Passes CX X E)
    (hkw : PK X kws tk) (hall : (backToKw pos (keywordEach kws X.env)).all (·.1.isSome) = true := by rfl) (hks : (backToKw pos (keywordEach kws X.env)).filterMap (·.1) = ks := by rfl)
    (hdb : (x == ("__debug__" : Str)) = false := by decide) (hpl : (backToKw pos (keywordEach kws X.env)).any (·.1.isNone) = false := by rfl) :
    PE X (.Call (.Name x p) [] kws pos) (tCallK sp gV E tNil tk) := by
  refine ⟨fun pins s σ H Q I h => ?_⟩
  refine wpAny_Call_Name_kw (ld_glob I hg hm ?_ hdb)
  refine PySem.W.callWith_KW0 (h₀ := X.base) I.ok.mod.kin hk hall (thn (hkw.run pos pins s σ H _ I h) fun ws s2 ⟨zs, H2, I2, rz, q2⟩ => ⟨I2.kIn, ?_⟩) hpl
  rw [hks]
  exact run_fnk F hr hb hx I2 .nil rz q2
end
end Da

set_option Elab.async false
set_option maxRecDepth 100000
set_option maxHeartbeats 4000000
set_option linter.all false
/-! == and != of instances by an own __eq__, isinstance of an own class -/
namespace Da
open PySem PySem.Spec PyProof.Rows L2 RZ HmS
section
variable {K : PySem.W.Frag} [HasT K] {E : XK} {ψ : Value → Prop} {ta : TE} {da : DT}
def D.isIns (C : Addr) (x : D) : Prop := ∃ ns xs, x = .ins C ns xs
def dOwnEq (C : Addr) (k : D → D → (En → Prop) → Prop) (x y : D) (φ : En → Prop) : Prop := x.isIns C ∧ y.isIns C ∧ k x y φ
def dOwnNe (C : Addr) (k : D → D → (En → Prop) → Prop) (x y : D) (φ : En → Prop) : Prop := x.isIns C ∧ y.isIns C ∧ k x y fun e => ∃ b, e = .d (.bl b) ∧ φ (.d (.bl (!b)))
theorem rep_ins {F H : Hp} {v : V} {x : D} {C : Addr} (fh : Same F H) (r : Rep F v x) (h : x.isIns C) : ∃ a dx fs, v = .ref a ∧ H a = some (.ins C dx fs) := by
  obtain ⟨ns, xs, rfl⟩ := h
  cases r with
  | ins e _ _ => exact ⟨_, _, _, rfl, fh _ _ e⟩
instance snd_ownEq {C : Addr} {k : D → D → (En → Prop) → Prop} : SndR K (HmQ.rOwnEq C (spX K (sp2 k)) E0) (dOwnEq C k) := ⟨fun {c F H σ Γ x y d e φ Q} I rx ry h q => by
  obtain ⟨h1, h2, h3⟩ := h
  obtain ⟨a, dx, fs, rfl, ha⟩ := rep_ins I.fh rx h1
  obtain ⟨b, dy, gs, rfl, hb⟩ := rep_ins I.fh ry h2
  refine ⟨a, b, dx, dy, fs, gs, rfl, rfl, ha, hb, ?_⟩
  exact call_run (ψ' := fun _ => False) (φ := φ) I (fun _ _ _ _ _ z => z) (.cons rx (.cons ry .nil)) h3 fun F2 H2 v e I2 s2 r2 p => q F2 H2 v e I2 s2 r2 p⟩
instance snd_ownNe {C : Addr} {k : D → D → (En → Prop) → Prop} : SndR K (HmQ.rOwnNe C (spX K (sp2 k)) E0) (dOwnNe C k) := ⟨fun {c F H σ Γ x y d e φ Q} I rx ry h q => by
  obtain ⟨h1, h2, h3⟩ := h
  obtain ⟨a, dx, fs, rfl, ha⟩ := rep_ins I.fh rx h1
  obtain ⟨b, dy, gs, rfl, hb⟩ := rep_ins I.fh ry h2
  refine ⟨a, b, dx, dy, fs, gs, rfl, rfl, ha, hb, ?_⟩
  refine call_run (ψ' := fun _ => False) (φ := fun e => ∃ b, e = .d (.bl b) ∧ φ (.d (.bl (!b)))) I (fun _ _ _ _ _ z => z) (.cons rx (.cons ry .nil)) h3 fun F2 H2 v e I2 s2 r2 p => ?_
  obtain ⟨r, rfl, p⟩ := p
  cases (show Rep F2 v (.bl r) from r2.1)
  exact ⟨r, rfl, q F2 H2 _ _ I2 s2 (Res.d (.bl (!r))) p⟩⟩
/-- == of dicts of whole numbers by tuples -/
def dEqDi (x y : D) (φ : En → Prop) : Prop := ∃ ka kb : List (List Key × Int), x = .dT (ka.map Prod.fst) (ka.map fun c => .int c.2) ∧ y = .dT (kb.map Prod.fst) (kb.map fun c => .int c.2) ∧ φ (.d (.bl (HmQ.sameD ka kb)))
instance snd_eqDi : SndR K HmQ.rEqD dEqDi := ⟨fun {c F H σ Γ x y d e φ Q} I rx ry h q => by
  obtain ⟨ka, kb, rfl, rfl, h⟩ := h
  cases rx with
  | @dT a kvs _ _ e1 k1 r1 =>
    cases ry with
    | @dT b kws _ _ e2 k2 r2 =>
      have z1 := kvs_of k1 r1
      have z2 := kvs_of k2 r2
      subst z1 z2
      exact ⟨a, b, ka, kb, rfl, rfl, I.fh _ _ e1, I.fh _ _ e2, q F H _ _ I (Same.refl F) (Res.d (.bl _)) h⟩⟩
/-- what isinstance asks of the class -/
structure OwnIsi (K : PySem.W.Frag) (C : Addr) : Prop where
  cl : Cls K C
  ca : PySem.W.findIn K (.ref C) "__class__" = some (some (.builtin "object.__class__"))
  cn : PySem.W.specialIn K (.builtin "object.__class__") "__get__" = some (some (.builtin "getset_descriptor.__get__"))
  ct : PySem.W.takesIn K (.builtin "object.__class__") = some true
  cm : PySem.W.mroIn K C (.type "object") = some true
  ki : PySem.W.kitOne K (.ref C) (.ref C) = some true
def dIsiO (K : PySem.W.Frag) (C : Addr) (da : DT) : DT := fun Γ φ => OwnIsi K C ∧ da Γ fun e Γ1 => wf e fun x => x.isIns C ∧ φ (.d (.bl true)) Γ1
instance snd_isiO {C : Addr} [sa : Snd K E ψ ta da] : Snd K E ψ (tCB (rIsi K) (tCons ta (tCons (tC (.ref C)) tNil))) (dIsiO K C da) := ⟨fun {c F H σ Γ φ Q} I eo h q => by
  obtain ⟨O, h⟩ := h
  refine sa.frz (φ := fun _ _ => True) (k := fun x Γ1 => x.isIns C ∧ φ (.d (.bl true)) Γ1) I eo h fun F1 H1 v x Γ1 I1 s1 r1 h1 => ?_
  obtain ⟨hx, h1⟩ := h1
  obtain ⟨a, dx, fs, rfl, ha⟩ := rep_ins I1.fh r1 hx
  exact ⟨_, .ref C, .ref C, .ref C, true, rfl, .own C, .base (.ins ha O.cl O.ca O.cn O.ct O.cm), O.ki, q F1 H1 _ _ Γ1 I1 s1 (Res.d (.bl _)) h1⟩⟩
end
end Da

set_option Elab.async false
set_option maxRecDepth 100000
set_option maxHeartbeats 4000000
set_option linter.all false
/-! a lambda that calls a method of an owned instance: it raises and nothing is changed, or it changes the instance -/
namespace Da
open PySem PySem.Spec PyProof.Rows L2 RZ HmS
section
variable {P : Program} {w : World} {K : PySem.W.Frag} [HasT K] {mg : Str → Option Value} {base : Heap} {CX : CXT} {n : Nat} {f : Addr} {fd : FuncData} {ps : List Str} {C : Addr}
/-- what never raises, beside what may -/
theorem fn_up {sp : Sp} (F : FnOk P w K mg base CX0 n f fd ps sp) : FnOk P w K mg base CX n f fd ps sp :=
  ⟨F.len, fun A outer s H args us vs Q E hr he hb hv h => codeAny_mono (F.run A outer s H args us vs Q E hr he hb hv h) fun r s' z => by
    cases r with
    | ok fl => cases fl <;> exact z
    | error e => exact (show False from z).elim⟩
abbrev DXp := List D → (En → Prop) → (Value → Prop) → Prop
def dOrX (d1 d2 : DXp) : DXp := fun ds φ ψ => d1 ds φ ψ ∨ d2 ds φ ψ
/-- two promises of one def -/
theorem fnX {d1 d2 : DXp} (a : FnOk P w K mg base CX n f fd ps (spX K d1)) (b : FnOk P w K mg base CX n f fd ps (spX K d2)) : FnOk P w K mg base CX n f fd ps (spX K (dOrX d1 d2)) := by
  have sp : ∀ vs H Q E, spX K (dOrX d1 d2) vs H Q E → spX K d1 vs H Q E ∨ spX K d2 vs H Q E := fun vs H Q E h => by
    obtain ⟨F, ds, φ, ψ, h1, h2, h3, h4, h5, h6⟩ := h
    rcases h5 with h5 | h5
    · exact .inl ⟨F, ds, φ, ψ, h1, h2, h3, h4, h5, h6⟩
    · exact .inr ⟨F, ds, φ, ψ, h1, h2, h3, h4, h5, h6⟩
  exact ⟨fun vs H Q E h => (sp vs H Q E h).elim (a.len vs H Q E) (b.len vs H Q E), fun A outer s H args us vs Q E hr he hb hv h => (sp vs H Q E h).elim (a.run A outer s H args us vs Q E hr he hb hv) (b.run A outer s H args us vs Q E hr he hb hv)⟩
/-- a method told twice: by the frozen instance (which may raise), by the owned one (which is changed) -/
abbrev DOp := List Str → List O → List D → (List Str → List O → Prop) → Prop
def spB (K : PySem.W.Frag) [HasT K] (C : Addr) (dx : DXp) (dow : DOp) : Sp := fun vs H Q E => spX K dx vs H Q E ∨ spO K C dow vs H Q E
theorem fnB {dx : DXp} {dow : DOp} (a : FnOk P w K mg base CX n f fd ps (spX K dx)) (b : FnOk P w K mg base CX n f fd ps (spO K C dow)) : FnOk P w K mg base CX n f fd ps (spB K C dx dow) :=
  ⟨fun vs H Q E h => h.elim (a.len vs H Q E) (b.len vs H Q E), fun A outer s H args us vs Q E hr he hb hv h => h.elim (a.run A outer s H args us vs Q E hr he hb hv) (b.run A outer s H args us vs Q E hr he hb hv)⟩
end
section
variable {K : PySem.W.Frag} [HasT K] {E : XK} {ψ : Value → Prop} {al : TA} {dal : DA}
def dMethB (C : Addr) (m : Str) (i : Nat) (dx : DXp) (dow : DOp) (dvs : List V) (ψ : Value → Prop) (dal : DA) : DT := fun Γ φ =>
  dMeth C m dx dvs ψ (dVar i) dal Γ φ ∨ dMethO C m i dow dvs dal Γ φ
instance snd_methB {C : Addr} {m : Str} {i : Nat} {dx : DXp} {dow : DOp} {dvs : List V} [a : Snd K E ψ (tVar i) (dVar i)] [sl : SndA K E ψ al dal] : Snd K E ψ (tMeth C m (spB K C dx dow) dvs E (tVar i) al) (dMethB C m i dx dow dvs ψ dal) := ⟨fun {c F H σ Γ φ Q} I eo h q => by
  rcases h with h | h
  · refine a.frz (φ := fun _ _ => True) (k := fun x Γ1 => (∃ ns xs, x = .ins C ns xs ∧ lookN ns xs m = none) ∧ dal Γ1 fun ys Γ2 => (dvs.all isSc) = true ∧ dx (x :: (ys ++ dvs.map vD)) (fun e => φ e Γ2) ψ) I eo h fun F1 H1 w x Γ1 I1 s1 rp h1 => ?_
    obtain ⟨⟨ns, xs, rfl, hl⟩, h1⟩ := h1
    cases id rp with
    | @ins a _ dx fs _ _ e en rs =>
      subst en
      refine ⟨a, dx, fs, rfl, I1.fh _ _ e, (look_fs rs).2 hl, ?_⟩
      refine sl.run I1 eo h1 fun F2 H2 vs ys Γ2 I2 s2 r2 h2 => ?_
      exact .inl (call_run I2 eo (.cons (rp.mono s2) (r2.app (Reps.scs h2.1))) h2.2 fun F3 H3 v e I3 s3 r3 p => q F3 H3 v e Γ2 I3 ((s1.trans s2).trans s3) r3 p)
  · obtain ⟨⟨ns0, os0, S0, g0, hm⟩, h⟩ := h
    obtain ⟨v, hv, hh0⟩ := I.at_ i _ g0 (fun z => nomatch z)
    obtain ⟨p, T0, eS, ev⟩ := ow_hd hh0.1
    subst ev eS
    refine ⟨_, hv, ?_⟩
    obtain ⟨dx, fs, hp, hl⟩ : ∃ dx fs, H p = some (.ins C dx fs) ∧ fs.lookup m = none := by
      have z := hh0.1
      cases z with
      | ins _ e1 e2 _ => exact ⟨_, _, e1, lookup_none (by rw [e2]; exact hm)⟩
    refine ⟨p, dx, fs, rfl, hp, hl, ?_⟩
    refine sl.run I eo h fun F1 H1 vs xs Γ1 I1 s1 r1 h1 => ?_
    obtain ⟨hsc, ns, os, S, g, h1⟩ := h1
    obtain ⟨v', hv', hh⟩ := I1.at_ i _ g (fun z => nomatch z)
    rw [hv] at hv'
    cases hv'
    obtain ⟨p', T, eS, ev⟩ := ow_hd hh.1
    cases ev
    subst eS
    refine .inr ⟨p, vs ++ dvs, F1, T, ns, os, xs ++ dvs.map vD, _, rfl, hh.1, hh.2.1, I1.fh, I1.fn, I1.tb, r1.app (Reps.scs hsc), h1, fun F' H' ns' os' T' sf k tb fh fn nw h2 hφ => ?_⟩
    exact q F' H' .non (.d .non) _ (I1.calledO g hv sf k tb fh fn nw h2) (s1.trans sf) (Res.d .non) (hφ p T')⟩
/-! ### the lambda -/
theorem Is.onlyO {c : Ct K} {F H : Hp} {σ : L2.St} {Γ : List En} {i : Nat} {o : O} {S : List Addr} (I : Is c F H σ Γ) (g : Γ[i]? = some (.ow o S)) : Is (cO K F H S) F H σ ((Γ.map onlyE).set i (.ow o S)) := by
  have il : i < Γ.length := (List.getElem?_eq_some_iff.mp g).1
  have low : ∀ (j : Nat) (e : En), j ≠ i → ((Γ.map onlyE).set i (.ow o S))[j]? = some e → e ≠ .no → ∃ y, Γ[j]? = some (.d y) ∧ e = .d y := fun j e ji h n => by
    rw [List.getElem?_set_ne (fun z => ji z.symm), List.getElem?_map] at h
    cases q : Γ[j]? with
    | none => rw [q] at h; cases h
    | some u =>
      rw [q] at h
      obtain ⟨y, rfl, e2⟩ := onlyE_some (Option.some.inj h) n
      exact ⟨y, rfl, e2⟩
  have here : ((Γ.map onlyE).set i (.ow o S))[i]? = some (.ow o S) := List.getElem?_set_self (by rw [List.length_map]; exact il)
  have own0 : ∀ (j : Nat) (e : En) (v : V) (a : Addr), ((Γ.map onlyE).set i (.ow o S))[j]? = some e → Adr e v a → j = i := fun j e v a h x => Classical.byContradiction fun ji => by
    obtain ⟨y, _, rfl⟩ := low j e ji h (adr_no x)
    exact x.elim
  have hs : ∀ a u, (cO K F H S).H0 a = some u → ntH H a = some u := fun a u e => by
    have e : (if a ∈ S then none else ntH H a) = some u := e
    split at e
    · cases e
    · exact e
  refine ⟨Same.refl F, I.fh, fun a o e => .inl e, fun a u _ e => (ntH_some (hs a u e)).1, (fun q e => nomatch e), by rw [List.length_set, List.length_map]; exact I.len, fun j e h n => ?_, fun j k a e e' v v' jk h h' s s' o o' => jk ((own0 j e v a h o).trans (own0 k e' v' a h' o').symm), I.fn, I.tb, fun a u e => (ntH_some (hs a u e)).2⟩
  by_cases ji : j = i
  · subst ji
    rw [here] at h
    cases h
    obtain ⟨v, hv, hh⟩ := I.at_ j _ g (fun z => nomatch z)
    exact ⟨v, hv, hh.1, hh.2.1, fun a m => if_pos m⟩
  · obtain ⟨y, g2, rfl⟩ := low j e ji h n
    obtain ⟨v, hv, r⟩ := I.at_ j _ g2 (fun z => nomatch z)
    exact ⟨v, hv, r⟩
/-- a test that looks at what slot i owns -/
def tBrwT (_ : Nat) (tt : TT) : TT := tt
theorem pt_brw {X : Cx} {e : Expr} {tt : TT} (i : Nat) (h : PT X e tt) : PT X e (tBrwT i tt) := h
def dBrwT (i : Nat) (dtt : DB) : DB := fun Γ φ => ∃ o S, Γ[i]? = some (.ow o S) ∧ dtt ((Γ.map onlyE).set i (.d o.dt)) fun b _ => φ b Γ
instance snd_brwT {i : Nat} {tt : TT} {dtt : DB} [s : SndT K E ψ tt dtt] : SndT K E ψ (tBrwT i tt) (dBrwT i dtt) := ⟨fun {c F H σ Γ φ Q} I eo h q => by
  obtain ⟨o, S, g, h⟩ := h
  obtain ⟨v, hv, I0, r⟩ := I.resOf g (fun z => nomatch z)
  obtain ⟨I1, s1, rep⟩ := I0.moreS r.1.1 r.1.2.2 r.2.2
  have J := (I1.only (NS.refl H) I1.tb).set (v := v) (e := .d o.dt) (Res.d rep) i
  rw [set_same hv, List.map_set, List.set_set] at J
  refine s.run J (EOk.low I eo) h fun F2 H2 b Γ2 I2 _ z => ?_
  have sh : NS H H2 := fun b u n e2 => I2.h0 b u (fun z => nomatch z) (ntH_of e2 n)
  exact q F H2 b Γ (I.growN (Same.refl F) sh I2.tb (fun a o e => sh a o (I.fn a o e) (I.fh a o e)) I.fn fun a o e => .inl e) (Same.refl F) z⟩
def tLamB (_ : Nat) (te : TE) : TE := te
theorem pe_lamB {X : Cx} {e : Expr} {te : TE} (i : Nat) (h : PE X e te) : PE X e (tLamB i te) := h
/-- a lambda that looks at what slot i owns, or changes it -/
def dWhyB (i : Nat) (wo : Value → Str → Prop) (okw : Str) (den : (Value → Prop) → DT) : DT := fun Γ φ => ∃ o S, Γ[i]? = some (.ow o S) ∧
  ((∃ ψ : Value → Prop, (∀ C, ψ C → ∃ w, wo C w ∧ φ (.d (.str w)) Γ) ∧ den ψ ((Γ.map onlyE).set i (.d o.dt)) fun _ _ => φ (.d (.str okw)) Γ) ∨
    den (fun _ => False) ((Γ.map onlyE).set i (.ow o S)) fun _ Γ2 => ∃ o2 S2, Γ2[i]? = some (.ow o2 S2) ∧ φ (.d (.str okw)) (Γ.set i (.ow o2 S2)))
instance snd_lamB {i : Nat} {wo : Value → Str → Prop} {okw : Str} {t : XK → TE} {den : (Value → Prop) → DT} [s : ∀ E' ψ', Snd K E' ψ' (t E') (den ψ')] : Snd K E ψ (tLamB i (LamX.tLam (HasT.T K) (TTwhy wo okw) t)) (dWhyB i wo okw den) := ⟨fun {c F H σ Γ φ Q} I eo h q => by
  obtain ⟨o, S, g, h⟩ := h
  refine ⟨I.tb, fun H1 ex tb1 => ?_⟩
  have sh : NS H H1 := fun b o n e => ex b o e n
  have bk : ∀ {H2 : Hp}, NS H1 H2 → TbOk K H2 → Is c F H2 σ Γ := fun {H2} s2 t2 => I.growN (Same.refl F) (sh.trans s2) t2 (fun a o e => s2 a o (I.fn a o e) (sh a o (I.fn a o e) (I.fh a o e))) I.fn fun a o e => .inl e
  have I1 : Is c F H1 σ Γ := bk (NS.refl H1) tb1
  rcases h with ⟨ψ', h1, h2⟩ | h2
  · obtain ⟨v, hv, I0, r⟩ := I1.resOf g (fun z => nomatch z)
    obtain ⟨I2, s1, rep⟩ := I0.moreS r.1.1 r.1.2.2 r.2.2
    have J := (I2.only (NS.refl H1) I2.tb).set (v := v) (e := .d o.dt) (Res.d rep) i
    rw [set_same hv, List.map_set, List.set_set] at J
    refine (s _ ψ').run J (fun C H' k _ t2 z => ?_) h2 fun F2 H2 v e Γ2 I3 _ _ z => ?_
    · obtain ⟨w, hw, hφ⟩ := h1 C z
      exact ⟨w, hw, q F H' _ _ Γ (bk (fun b o n e => k b o (fun z => nomatch z) (ntH_of e n)) t2) (Same.refl F) (Res.d (.str w)) hφ⟩
    · exact q F H2 _ _ Γ (bk (fun b o n e => I3.h0 b o (fun z => nomatch z) (ntH_of e n)) I3.tb) (Same.refl F) (Res.d (.str okw)) z
  · obtain ⟨v, hv, hh⟩ := I1.at_ i _ g (fun z => nomatch z)
    refine (s _ fun _ => False).run (I1.onlyO g) (fun _ _ _ _ _ z => z.elim) h2 fun F2 H2 v2 e Γ2 I3 s3 _ z => ?_
    obtain ⟨o2, S2, g2, z⟩ := z
    obtain ⟨v3, hv3, hh3⟩ := I3.at_ i _ g2 (fun z => nomatch z)
    rw [hv] at hv3
    cases hv3
    exact q F2 H2 _ _ _ (I1.calledO g hv s3 (fun a u n nt e => I3.h0 a u (fun z => nomatch z) (by show (if a ∈ S then none else ntH H1 a) = some u; rw [if_neg n]; exact ntH_of e nt)) I3.tb I3.fh I3.fn I3.nw hh3) s3 (Res.d (.str okw)) z⟩
end
end Da

set_option Elab.async false
set_option maxRecDepth 100000
set_option maxHeartbeats 4000000
set_option linter.all false
namespace Dl
open PySem PySem.Spec PyProof.Rows L2 RZ HmS Da
/-! ### the mathematics of albums -/
abbrev St3 := Int × Int × Int
abbrev Cts := List (St3 × Int)
def keyT (s : St3) : List Key := [.inl s.1, .inl s.2.1, .inl s.2.2]
def stD (s : St3) : D := .tup [.int s.1, .int s.2.1, .int s.2.2]
theorem keysOf_st (s : St3) : keysOf (stD s) = some (keyT s) := rfl
theorem keyT_inj {s t : St3} (h : keyT s = keyT t) : s = t := by
  obtain ⟨a, b, c⟩ := s
  obtain ⟨x, y, z⟩ := t
  simp only [keyT, List.cons.injEq, Sum.inl.injEq, and_true] at h
  obtain ⟨rfl, rfl, rfl⟩ := h
  rfl
def kcT (c : St3 × Int) : List Key × Int := (keyT c.1, c.2)
def kyA (cs : Cts) : List (List Key) := (cs.map kcT).map Prod.fst
def vlA (cs : Cts) : List D := (cs.map kcT).map fun c => .int c.2
def getA : Cts → St3 → Option Int
  | [], _ => none
  | (t, n) :: r, s => if t = s then some n else getA r s
def cntA (cs : Cts) (s : St3) : Int := (getA cs s).getD 0
def putA (cs : Cts) (s : St3) (m : Int) : Cts := if cs.any (fun c => decide (c.1 = s)) then cs.map (fun c => if c.1 = s then (c.1, m) else c) else cs ++ [(s, m)]
def addA (cs : Cts) (s : St3) (m : Int) : Cts := putA cs s (cntA cs s + m)
def delA (cs : Cts) (s : St3) : Cts := cs.filter fun c => decide (c.1 ≠ s)
def countsA (ss : List St3) : Cts := ss.foldl (fun cs s => addA cs s 1) []
theorem kyA_cons (c : St3 × Int) (cs : Cts) : kyA (c :: cs) = keyT c.1 :: kyA cs := rfl
theorem vlA_cons (c : St3 × Int) (cs : Cts) : vlA (c :: cs) = .int c.2 :: vlA cs := rfl
theorem kyA_len (cs : Cts) : (kyA cs).length = cs.length := by
  unfold kyA
  rw [List.length_map, List.length_map]
theorem look_A : ∀ (cs : Cts) (s : St3), lookD (kyA cs) (vlA cs) (keyT s) = (getA cs s).map D.int
  | [], _ => rfl
  | (t, n) :: r, s => by
    rw [kyA_cons, vlA_cons]
    show (if keyT t = keyT s then some (D.int n) else lookD (kyA r) (vlA r) (keyT s)) = Option.map D.int (if t = s then some n else getA r s)
    by_cases h : t = s
    · rw [if_pos h, if_pos (by rw [h])]
      rfl
    · rw [if_neg h, if_neg fun z => h (keyT_inj z)]
      exact look_A r s
theorem look_getD (cs : Cts) (s : St3) : (lookD (kyA cs) (vlA cs) (keyT s)).getD (.int 0) = .int (cntA cs s) := by
  rw [look_A]
  unfold cntA
  cases getA cs s <;> rfl
theorem has_A (cs : Cts) (s : St3) : hasT (kyA cs) (keyT s) = cs.any fun c => decide (c.1 = s) := by
  unfold hasT kyA
  rw [List.any_map, List.any_map]
  congr 1
  funext c
  show decide (keyT c.1 = keyT s) = decide (c.1 = s)
  exact decide_eq_decide.mpr ⟨keyT_inj, fun e => by rw [e]⟩
theorem put_xs (s : St3) (m : Int) : ∀ cs : Cts, putTx (kyA cs) (vlA cs) (keyT s) (.int m) = vlA (cs.map fun c => if c.1 = s then (c.1, m) else c)
  | [] => rfl
  | c :: r => by
    rw [kyA_cons, vlA_cons, List.map_cons, vlA_cons]
    show (if keyT c.1 = keyT s then D.int m else D.int c.2) :: putTx (kyA r) (vlA r) (keyT s) (.int m) = _
    rw [put_xs s m r]
    by_cases h : c.1 = s
    · rw [if_pos h, if_pos (by rw [h])]
    · rw [if_neg h, if_neg fun z => h (keyT_inj z)]
theorem put_ky (s : St3) (m : Int) : ∀ cs : Cts, kyA (cs.map fun c => if c.1 = s then (c.1, m) else c) = kyA cs
  | [] => rfl
  | c :: r => by
    rw [List.map_cons, kyA_cons, kyA_cons, put_ky s m r]
    by_cases h : c.1 = s
    · rw [if_pos h]
    · rw [if_neg h]
theorem put_A (cs : Cts) (s : St3) (m : Int) : putTs (kyA cs) (keyT s) = kyA (putA cs s m) ∧ putTD (kyA cs) (vlA cs) (keyT s) (.int m) = vlA (putA cs s m) := by
  unfold putTs putTD putA
  rw [has_A]
  split
  · exact ⟨(put_ky s m cs).symm, put_xs s m cs⟩
  · unfold kyA vlA
    rw [List.map_append, List.map_append, List.map_append]
    exact ⟨rfl, rfl⟩
theorem del_A (s : St3) : ∀ cs : Cts, dropTs (kyA cs) (keyT s) = kyA (delA cs s) ∧ dropTD (kyA cs) (vlA cs) (keyT s) = vlA (delA cs s)
  | [] => ⟨rfl, rfl⟩
  | c :: r => by
    obtain ⟨h1, h2⟩ := del_A s r
    have e1 : dropTD (kyA (c :: r)) (vlA (c :: r)) (keyT s) = if keyT c.1 ≠ keyT s then D.int c.2 :: dropTD (kyA r) (vlA r) (keyT s) else dropTD (kyA r) (vlA r) (keyT s) := rfl
    rw [e1]
    by_cases h : c.1 = s
    · have f1 : delA (c :: r) s = delA r s := by
        unfold delA
        rw [List.filter_cons, if_neg (by simpa using h)]
      have f2 : dropTs (kyA (c :: r)) (keyT s) = dropTs (kyA r) (keyT s) := by
        unfold dropTs
        rw [kyA_cons, List.filter_cons, if_neg (by simp [h])]
      rw [f1, f2, if_neg (by simp [h])]
      exact ⟨h1, h2⟩
    · have f1 : delA (c :: r) s = c :: delA r s := by
        unfold delA
        rw [List.filter_cons, if_pos (by simpa using h)]
      have hk : keyT c.1 ≠ keyT s := fun z => h (keyT_inj z)
      have f2 : dropTs (kyA (c :: r)) (keyT s) = keyT c.1 :: dropTs (kyA r) (keyT s) := by
        unfold dropTs
        rw [kyA_cons, List.filter_cons, if_pos (by simpa using hk)]
      rw [f1, f2, if_pos hk, h1, h2]
      exact ⟨rfl, rfl⟩
theorem putA_len (cs : Cts) (s : St3) (m : Int) : (putA cs s m).length ≤ cs.length + 1 := by
  unfold putA
  split
  · rw [List.length_map]
    omega
  · rw [List.length_append]
    exact Nat.le_refl _
theorem addA_len (cs : Cts) (s : St3) (m : Int) : (addA cs s m).length ≤ cs.length + 1 := putA_len ..
theorem foldl_len (f : Cts → St3 → Cts) (h : ∀ cs s, (f cs s).length ≤ cs.length + 1) : ∀ (ss : List St3) (cs : Cts), (ss.foldl f cs).length ≤ cs.length + ss.length
  | [], cs => Nat.le_refl _
  | s :: r, cs => by
    have h1 := foldl_len f h r (f cs s)
    have h2 := h cs s
    rw [List.foldl_cons, List.length_cons]
    omega
theorem countsA_len (ss : List St3) : (countsA ss).length ≤ ss.length := by
  have := foldl_len (fun cs s => addA cs s 1) (fun cs s => addA_len cs s 1) ss []
  simpa [countsA] using this
theorem countsA_snoc (ss : List St3) (s : St3) : countsA (ss ++ [s]) = addA (countsA ss) s 1 := by
  unfold countsA
  rw [List.foldl_append]
  rfl
theorem getA_mem : ∀ {cs : Cts} {s : St3} {n : Int}, getA cs s = some n → (s, n) ∈ cs
  | (t, k) :: r, s, n, h => by
    have h : (if t = s then some k else getA r s) = some n := h
    by_cases e : t = s
    · rw [if_pos e] at h
      cases h
      rw [e]
      exact List.mem_cons_self
    · rw [if_neg e] at h
      exact List.mem_cons_of_mem _ (getA_mem h)
/-- counts that an album may have: each stamp once, each at least once there -/
structure CtOk (ok : St3 → Prop) (cs : Cts) : Prop where
  nd : (cs.map (·.1)).Nodup
  pos : ∀ c ∈ cs, 1 ≤ c.2
  st : ∀ c ∈ cs, ok c.1
theorem CtOk.nil {ok : St3 → Prop} : CtOk ok [] := ⟨List.nodup_nil, (fun _ h => nomatch h), fun _ h => nomatch h⟩
theorem putA_keys (cs : Cts) (s : St3) (m : Int) : (putA cs s m).map (·.1) = if cs.any (fun c => decide (c.1 = s)) = true then cs.map (·.1) else cs.map (·.1) ++ [s] := by
  unfold putA
  split
  · rw [List.map_map]
    refine List.map_congr_left fun c _ => ?_
    show (if c.1 = s then (c.1, m) else c).1 = c.1
    split <;> rfl
  · rw [List.map_append]
    rfl
theorem any_mem {cs : Cts} {s : St3} : (cs.any fun c => decide (c.1 = s)) = true ↔ s ∈ cs.map (·.1) := by
  rw [List.any_eq_true, List.mem_map]
  exact ⟨fun ⟨c, h1, h2⟩ => ⟨c, h1, of_decide_eq_true h2⟩, fun ⟨c, h1, h2⟩ => ⟨c, h1, decide_eq_true h2⟩⟩
theorem CtOk.put {ok : St3 → Prop} {cs : Cts} (h : CtOk ok cs) {s : St3} (hs : ok s) {m : Int} (hm : 1 ≤ m) : CtOk ok (putA cs s m) := by
  have mem : ∀ c ∈ putA cs s m, c ∈ cs ∨ c = (s, m) := fun c hc => by
    unfold putA at hc
    split at hc
    · obtain ⟨d, hd, rfl⟩ := List.mem_map.mp hc
      split
      · rename_i e
        exact .inr (by rw [e])
      · exact .inl hd
    · rcases List.mem_append.mp hc with z | z
      · exact .inl z
      · exact .inr (List.mem_singleton.mp z)
  refine ⟨?_, fun c hc => ?_, fun c hc => ?_⟩
  · rw [putA_keys]
    split
    · exact h.nd
    · rename_i n
      refine List.nodup_append.mpr ⟨h.nd, by simp, fun a ha b hb z => ?_⟩
      rw [List.mem_singleton] at hb
      subst hb
      subst z
      exact n (any_mem.mpr ha)
  · rcases mem c hc with z | z
    · exact h.pos c z
    · rw [z]
      exact hm
  · rcases mem c hc with z | z
    · exact h.st c z
    · rw [z]
      exact hs
theorem CtOk.cnt {ok : St3 → Prop} {cs : Cts} (h : CtOk ok cs) (s : St3) : 0 ≤ cntA cs s := by
  unfold cntA
  cases e : getA cs s with
  | none => exact Int.le_refl _
  | some n =>
    have := h.pos _ (getA_mem e)
    show 0 ≤ n
    have : 1 ≤ n := this
    omega
theorem CtOk.add {ok : St3 → Prop} {cs : Cts} (h : CtOk ok cs) {s : St3} (hs : ok s) {m : Int} (hm : 1 ≤ m) : CtOk ok (addA cs s m) := h.put hs (by have := h.cnt s; omega)
theorem CtOk.counts {ok : St3 → Prop} : ∀ {ss : List St3} {cs : Cts}, CtOk ok cs → (∀ s ∈ ss, ok s) → CtOk ok (ss.foldl (fun cs s => addA cs s 1) cs)
  | [], _, h, _ => h
  | s :: r, cs, h, k => CtOk.counts (ss := r) (cs := addA cs s 1) (h.add (m := 1) (k s List.mem_cons_self) (by decide)) fun t ht => k t (List.mem_cons_of_mem _ ht)
theorem CtOk.perm {ok : St3 → Prop} {cs ds : Cts} (h : CtOk ok cs) (p : ds.Perm cs) : CtOk ok ds :=
  ⟨(p.map _).nodup_iff.mpr h.nd, fun c hc => h.pos c (p.mem_iff.mp hc), fun c hc => h.st c (p.mem_iff.mp hc)⟩
/-! ### the stamps, rising -/
def rowI (s : St3) : List Int := [s.1, s.2.1, s.2.2]
theorem rowI_inj {s t : St3} (h : rowI s = rowI t) : s = t := by
  simp only [rowI, List.cons.injEq, and_true] at h
  exact Prod.ext h.1 (Prod.ext h.2.1 h.2.2)
theorem dl_st (s t : St3) : PySem.W.dataLt (keyD (keyT s)) (keyD (keyT t)) = decide (rowI s < rowI t) := by
  show PySem.W.dataLt (.tuple ((rowI s).map PyData.int)) (.tuple ((rowI t).map PyData.int)) = _
  rw [PySem.W.dataLt_tuple]
  exact PySem.W.dataLt_ints (rowI s) (rowI t)
def riseA (cs : Cts) : Cts := cs.mergeSort (PySem.W.dataLe false fun c => keyD (keyT c.1))
def stLt (a b : St3 × Int) : Prop := rowI a.1 < rowI b.1
theorem riseA_perm (cs : Cts) : (riseA cs).Perm cs := List.mergeSort_perm _ _
theorem riseA_len (cs : Cts) : (riseA cs).length = cs.length := (riseA_perm cs).length_eq
theorem riseA_rise {cs : Cts} (nd : (cs.map (·.1)).Nodup) : (riseA cs).Pairwise stLt := by
  have h1 : (riseA cs).Pairwise (fun a b => PySem.W.dataLe false (fun c : St3 × Int => keyD (keyT c.1)) a b = true) := PySem.W.sort_pairwise (PySem.W.sortLe_total _ _ _) _
  have h2 : ((riseA cs).map (·.1)).Nodup := ((riseA_perm cs).map _).nodup_iff.mpr nd
  rw [List.Nodup, List.pairwise_map] at h2
  refine (h1.and h2).imp fun {a b} h => ?_
  have h3 : (!PySem.W.dataLt (keyD (keyT b.1)) (keyD (keyT a.1))) = true := h.1
  rw [dl_st] at h3
  have h4 : ¬ rowI b.1 < rowI a.1 := fun z => by rw [decide_eq_true z] at h3; cases h3
  exact Std.lt_of_le_of_ne h4 fun z => h.2 (rowI_inj z)
theorem stLt_asym {a b : St3 × Int} (h : stLt a b) (h' : stLt b a) : False := List.lt_irrefl _ (List.lt_trans h h')
theorem al_st (s t : St3) : PySem.W.alike (keyD (keyT s)) (keyD (keyT t)) = true := by simp [keyD, keyT, HmS.kD, PySem.W.alike, PySem.W.alikeAll]
theorem eqv_st {s t : St3} (h : s ≠ t) : PyData.eqv (keyD (keyT s)) (keyD (keyT t)) = false := by
  cases e : PyData.eqv (keyD (keyT s)) (keyD (keyT t)) with
  | false => rfl
  | true =>
    refine absurd ?_ h
    simp [keyD, keyT, HmS.kD, PyData.eqv, PyData.eqvAll] at e
    exact Prod.ext e.1 (Prod.ext e.2.1 e.2.2)
theorem sortC_rise {cs : Cts} (nd : (cs.map (·.1)).Nodup) : sortC (cs.map kcT) = (riseA cs).map kcT := by
  have e : sortC (cs.map kcT) = (cs.mergeSort (PySem.W.dataLe false fun c => encC (kcT c))).map kcT := by
    unfold sortC
    exact (PySem.W.sort_maps (r := PySem.W.dataLe false fun c : St3 × Int => encC (kcT c)) kcT (fun a _ b _ => rfl)).symm
  rw [e]
  congr 1
  have hp : (cs.mergeSort (PySem.W.dataLe false fun c => encC (kcT c))).Perm cs := List.mergeSort_perm _ _
  refine List.Perm.eq_of_pairwise (le := stLt) (fun a b _ _ h h' => (stLt_asym h h').elim) ?_ (riseA_rise nd) (hp.trans (riseA_perm cs).symm)
  have h1 : (cs.mergeSort (PySem.W.dataLe false fun c => encC (kcT c))).Pairwise (fun a b => PySem.W.dataLe false (fun c : St3 × Int => encC (kcT c)) a b = true) := PySem.W.sort_pairwise (PySem.W.sortLe_total _ _ _) _
  have h2 : ((cs.mergeSort (PySem.W.dataLe false fun c => encC (kcT c))).map (·.1)).Nodup := (hp.map _).nodup_iff.mpr nd
  rw [List.Nodup, List.pairwise_map] at h2
  refine (h1.and h2).imp fun {a b} h => ?_
  have h3 : (!PySem.W.dataLt (encC (kcT b)) (encC (kcT a))) = true := h.1
  have h5 : PySem.W.dataLt (encC (kcT b)) (encC (kcT a)) = decide (rowI b.1 < rowI a.1) := by
    show PySem.W.dataLt (.tuple [keyD (keyT b.1), .int b.2]) (.tuple [keyD (keyT a.1), .int a.2]) = _
    rw [PySem.W.dataLt_pair (al_st _ _) (by simp [PySem.W.alike]), eqv_st (Ne.symm h.2), if_neg Bool.false_ne_true, dl_st]
  rw [h5] at h3
  have h4 : ¬ rowI b.1 < rowI a.1 := fun z => by rw [decide_eq_true z] at h3; cases h3
  exact Std.lt_of_le_of_ne h4 fun z => h.2 (rowI_inj z)
/-- a stamp with how many -/
def rwD (c : St3 × Int) : D := .tup [stD c.1, .int c.2]
theorem rows_rise {cs : Cts} (nd : (cs.map (·.1)).Nodup) : (sortC (cs.map kcT)).map rowC = (riseA cs).map rwD := by
  rw [sortC_rise nd, List.map_map]
  rfl
theorem ky_nodup {cs : Cts} : ((cs.map kcT).map Prod.fst).Nodup ↔ (cs.map (·.1)).Nodup := by
  rw [List.map_map]
  have e : cs.map (Prod.fst ∘ kcT) = (cs.map (·.1)).map keyT := by rw [List.map_map]; rfl
  rw [e]
  constructor
  · intro h
    rw [List.Nodup, List.pairwise_map] at h
    exact h.imp fun hn z => hn (by rw [z])
  · intro h
    rw [List.Nodup, List.pairwise_map]
    exact h.imp fun hn z => hn (keyT_inj z)
theorem st_srt (ss : List St3) : SrtOk (ss.map stD) := by
  refine ⟨?_, ?_, fun x hx => ?_⟩
  · rw [List.map_map]
    exact fun x hx y hy => by
      obtain ⟨a, _, rfl⟩ := List.mem_map.mp hx
      obtain ⟨b, _, rfl⟩ := List.mem_map.mp hy
      simp [stD, D.py, pys, PySem.W.alike, PySem.W.alikeAll]
  · rw [List.map_map]
    exact PySem.W.Sortable.tuples fun h => ⟨_, _, rfl⟩
  · obtain ⟨a, _, rfl⟩ := List.mem_map.mp hx
    refine ⟨rfl, ?_⟩
    simp [stD, D.py, pys, PyData.depth, PyData.depthAll]
theorem sort_st (cs : Cts) : sortD ((cs.map (·.1)).map stD) = ((riseA cs).map (·.1)).map stD := by
  unfold sortD riseA
  rw [List.map_map, List.map_map]
  exact (PySem.W.sort_maps (r := PySem.W.dataLe false fun c : St3 × Int => keyD (keyT c.1)) (fun c => stD c.1) (fun a _ b _ => rfl)).symm
theorem addA_new {cs : Cts} {s : St3} {m : Int} (h : s ∉ cs.map (·.1)) : addA cs s m = cs ++ [(s, m)] := by
  have e : cs.any (fun c => decide (c.1 = s)) = false := by
    cases q : cs.any (fun c => decide (c.1 = s)) with
    | false => rfl
    | true => exact absurd (any_mem.mp q) h
  have g : getA cs s = none := by
    cases q : getA cs s with
    | none => rfl
    | some n => exact absurd (List.mem_map.mpr ⟨_, getA_mem q, rfl⟩) h
  unfold addA putA cntA
  rw [e, g, if_neg Bool.false_ne_true]
  show cs ++ [(s, 0 + m)] = _
  rw [Int.zero_add]
theorem get_nd {cs : Cts} (nd : (cs.map (·.1)).Nodup) : ∀ {c : St3 × Int}, c ∈ cs → getA cs c.1 = some c.2 := by
  induction cs with
  | nil => exact fun h => nomatch h
  | cons d r ih =>
    intro c hc
    rw [List.map_cons, List.nodup_cons] at nd
    show (if d.1 = c.1 then some d.2 else getA r c.1) = some c.2
    rcases List.mem_cons.mp hc with e | h
    · rw [e, if_pos rfl]
    · rw [if_neg fun z => nd.1 (by rw [z]; exact List.mem_map.mpr ⟨c, h, rfl⟩)]
      exact ih nd.2 h
/-! ### places -/
def plcA : Nat → List (Str × Int × Int) → List (Int × Int)
  | _, [] => []
  | i, t :: r => ((List.range t.2.2.toNat).map fun k : Nat => ((i : Int), (k : Int))) ++ plcA (i + 1) r
def plD (p : Int × Int) : D := .tup [.int p.1, .int p.2]
theorem plcA_mem : ∀ {ss : List (Str × Int × Int)} {i : Nat} {p : Int × Int}, p ∈ plcA i ss ↔ ∃ (k : Nat) (t : Str × Int × Int), ss[k]? = some t ∧ p.1 = ((i + k : Nat) : Int) ∧ 0 ≤ p.2 ∧ p.2 < t.2.2
  | [], i, p => ⟨fun h => (nomatch h), fun ⟨k, t, h, _⟩ => by simp at h⟩
  | t :: r, i, p => by
    show p ∈ ((List.range t.2.2.toNat).map fun k : Nat => ((i : Int), (k : Int))) ++ plcA (i + 1) r ↔ _
    rw [List.mem_append, plcA_mem (ss := r)]
    constructor
    · rintro (h | ⟨k, u, h1, h2, h3⟩)
      · obtain ⟨k, hk, rfl⟩ := List.mem_map.mp h
        rw [List.mem_range] at hk
        exact ⟨0, t, rfl, rfl, by show (0 : Int) ≤ (k : Int); omega, by show (k : Int) < t.2.2; omega⟩
      · exact ⟨k + 1, u, by simpa using h1, by rw [h2]; congr 1; omega, h3⟩
    · rintro ⟨k, u, h1, h2, h3, h4⟩
      cases k with
      | zero =>
        cases h1
        refine .inl (List.mem_map.mpr ⟨p.2.toNat, by rw [List.mem_range]; omega, ?_⟩)
        exact Prod.ext h2.symm (by show ((p.2.toNat : Nat) : Int) = p.2; omega)
      | succ k => exact .inr ⟨k, u, by simpa using h1, by rw [h2]; congr 1; omega, h3, h4⟩
theorem plcA_len : ∀ {ss : List (Str × Int × Int)} {i : Nat}, (∀ t ∈ ss, t.2.2 ≤ 6) → (plcA i ss).length ≤ 6 * ss.length
  | [], _, _ => Nat.le_refl _
  | t :: r, i, h => by
    have h1 := plcA_len (ss := r) (i := i + 1) fun u hu => h u (List.mem_cons_of_mem _ hu)
    have h2 := h t List.mem_cons_self
    show (((List.range t.2.2.toNat).map fun k : Nat => ((i : Int), (k : Int))) ++ plcA (i + 1) r).length ≤ _
    rw [List.length_append, List.length_map, List.length_range, List.length_cons]
    omega
theorem plcA_snoc : ∀ (ss : List (Str × Int × Int)) (i : Nat) (t : Str × Int × Int), plcA i (ss ++ [t]) = plcA i ss ++ ((List.range t.2.2.toNat).map fun k : Nat => (((i + ss.length : Nat) : Int), (k : Int)))
  | [], i, t => by simp [plcA]
  | u :: r, i, t => by
    show ((List.range u.2.2.toNat).map fun k : Nat => ((i : Int), (k : Int))) ++ plcA (i + 1) (r ++ [t]) = _
    rw [plcA_snoc r (i + 1) t, ← List.append_assoc]
    show _ = (((List.range u.2.2.toNat).map fun k : Nat => ((i : Int), (k : Int))) ++ plcA (i + 1) r) ++ _
    congr 2
    funext k
    congr 2
    rw [List.length_cons]
    omega
/-- whether a stamp is there -/
def hasS (cs : Cts) (s : St3) : Bool := (getA cs s).isSome
theorem has_look (cs : Cts) (s : St3) : (lookD (kyA cs) (vlA cs) (keyT s)).isSome = hasS cs s := by
  rw [look_A]
  unfold hasS
  cases getA cs s <;> rfl
def fillB (cs : Cts) (a b : Int) : Bool := hasS cs (a, b, 0) || hasS cs (a, b, 1)
/-- gaps -/
def gapL (cs : Cts) (i : Int) (m : Nat) : List Int := ((List.range m).map fun k : Nat => (k : Int)).filter fun k => !fillB cs i k
theorem gap_len (cs : Cts) (i : Int) (m : Nat) : (gapL cs i m).length ≤ m := by
  unfold gapL
  refine Nat.le_trans (List.length_filter_le _ _) ?_
  rw [List.length_map, List.length_range]
  exact Nat.le_refl _
theorem gap_upI (cs : Cts) (i : Int) (m : Nat) (f : D → Bool) (hf : ∀ k : Int, f (.int k) = !fillB cs i k) : (upI 0 m).filter f = (gapL cs i m).map D.int := by
  unfold upI gapL
  rw [List.filter_map, List.filter_map, List.map_map]
  have e1 : ∀ l : List Nat, (l.filter (f ∘ fun k : Nat => D.int (0 + (k : Int)))) = l.filter ((fun k => !fillB cs i k) ∘ fun k : Nat => (k : Int)) := fun l => by
    refine List.filter_congr fun a _ => ?_
    show f (.int (0 + (a : Int))) = !fillB cs i (a : Int)
    rw [hf, Int.zero_add]
  rw [e1]
  refine List.map_congr_left fun a _ => ?_
  show D.int (0 + (a : Int)) = .int a
  rw [Int.zero_add]
/-- doubles -/
def keepsB (cs : Cts) (s : St3) : Bool := decide (s.2.2 = 1) || !hasS cs (s.1, s.2.1, 1)
def spareA (cs : Cts) (c : St3 × Int) : Int := if keepsB cs c.1 then c.2 - 1 else c.2
def dblA (cs : Cts) : Cts := ((riseA cs).map fun c => (c.1, spareA cs c)).filter fun c => decide (0 < c.2)
end Dl

set_option Elab.async false
set_option maxRecDepth 100000
set_option maxHeartbeats 4000000
set_option linter.all false
namespace Dl
open PySem PySem.Spec PyProof.Rows L2 RZ HmS Da
/-! ### alike counts, counts less -/
def eqC (as bs : Cts) : Bool := HmQ.sameD (as.map kcT) (bs.map kcT)
theorem find_kcT (s : St3) : ∀ ds : Cts, ((ds.map kcT).find? fun z => decide (z.1 = keyT s)) = (getA ds s).map fun n => (keyT s, n)
  | [] => rfl
  | (t, n) :: r => by
    show List.find? _ (kcT (t, n) :: r.map kcT) = (if t = s then some n else getA r s).map _
    by_cases c : t = s
    · rw [if_pos c, List.find?_cons_of_pos (by show decide (keyT t = keyT s) = true; simp [c]), ← c]
      rfl
    · rw [if_neg c, List.find?_cons_of_neg (by show ¬ decide (keyT t = keyT s) = true; simpa using fun z => c (keyT_inj z))]
      exact find_kcT s r
theorem eqC_all (cs ds : Cts) : eqC cs ds = true ↔ cs.length = ds.length ∧ ∀ c ∈ cs, getA ds c.1 = some c.2 := by
  unfold eqC HmQ.sameD
  rw [Bool.and_eq_true, List.length_map, List.length_map, beq_iff_eq, List.all_eq_true]
  refine and_congr_right fun _ => ⟨fun h c hc => ?_, fun h e he => ?_⟩
  · have := h (kcT c) (List.mem_map.mpr ⟨c, hc, rfl⟩)
    rw [show (kcT c).1 = keyT c.1 from rfl, find_kcT] at this
    cases e : getA ds c.1 with
    | none =>
      rw [e] at this
      cases this
    | some n =>
      rw [e] at this
      have : (c.2 == n) = true := this
      rw [beq_iff_eq.mp this]
  · obtain ⟨c, hc, rfl⟩ := List.mem_map.mp he
    rw [show (kcT c).1 = keyT c.1 from rfl, find_kcT, h c hc]
    show (c.2 == c.2) = true
    exact beq_self_eq_true _
theorem cntA_mem {ok : St3 → Prop} {cs : Cts} (h : CtOk ok cs) {c : St3 × Int} (hc : c ∈ cs) : cntA cs c.1 = c.2 := by
  unfold cntA
  rw [get_nd h.nd hc]
  rfl
theorem cntA_no {cs : Cts} {s : St3} (h : s ∉ cs.map (·.1)) : cntA cs s = 0 := by
  unfold cntA
  cases e : getA cs s with
  | none => rfl
  | some n => exact absurd (List.mem_map.mpr ⟨_, getA_mem e, rfl⟩) h
theorem cntA_yes {ok : St3 → Prop} {cs : Cts} (h : CtOk ok cs) {s : St3} (hs : s ∈ cs.map (·.1)) : 1 ≤ cntA cs s := by
  obtain ⟨c, hc, rfl⟩ := List.mem_map.mp hs
  rw [cntA_mem h hc]
  exact h.pos c hc
theorem getA_cnt {ok : St3 → Prop} {cs : Cts} (h : CtOk ok cs) (s : St3) : getA cs s = if cntA cs s = 0 then none else some (cntA cs s) := by
  unfold cntA
  cases e : getA cs s with
  | none => rfl
  | some n =>
    have z := h.pos _ (getA_mem e)
    have z : 1 ≤ n := z
    show some n = if n = 0 then none else some n
    rw [if_neg (by omega)]
theorem perm_cnt {ok ok' : St3 → Prop} {as bs : Cts} (ha : CtOk ok as) (hb : CtOk ok' bs) (h : ∀ s, cntA as s = cntA bs s) : as.Perm bs := by
  have sub : ∀ {ok ok' : St3 → Prop} {as bs : Cts}, CtOk ok as → CtOk ok' bs → (∀ s, cntA as s = cntA bs s) → ∀ c ∈ as, c ∈ bs := fun {ok ok' as bs} ha hb h c hc => by
    have g := getA_cnt hb c.1
    rw [← h, cntA_mem ha hc] at g
    have := ha.pos c hc
    rw [if_neg (by omega)] at g
    exact getA_mem g
  have nda : as.Nodup := List.Pairwise.of_map (S := fun a b => a ≠ b) (fun c : St3 × Int => c.1) (fun a b z w => z (by rw [w])) ha.nd
  have ndb : bs.Nodup := List.Pairwise.of_map (S := fun a b => a ≠ b) (fun c : St3 × Int => c.1) (fun a b z w => z (by rw [w])) hb.nd
  exact (List.perm_ext_iff_of_nodup nda ndb).mpr fun c => ⟨sub ha hb h c, sub hb ha (fun s => (h s).symm) c⟩
theorem eqC_iff {ok ok' : St3 → Prop} {as bs : Cts} (ha : CtOk ok as) (hb : CtOk ok' bs) : eqC as bs = true ↔ ∀ s, cntA as s = cntA bs s := by
  rw [eqC_all]
  constructor
  · rintro ⟨hl, h⟩ s
    by_cases m : s ∈ as.map (·.1)
    · obtain ⟨c, hc, rfl⟩ := List.mem_map.mp m
      rw [cntA_mem ha hc]
      unfold cntA
      rw [h c hc]
      rfl
    · rw [cntA_no m]
      refine (cntA_no fun m2 => ?_).symm
      have nd : (s :: as.map (·.1)).Nodup := List.nodup_cons.mpr ⟨m, ha.nd⟩
      have sub : (s :: as.map (·.1)) ⊆ bs.map (·.1) := by
        intro t ht
        rcases List.mem_cons.mp ht with rfl | ht
        · exact m2
        · obtain ⟨c, hc, rfl⟩ := List.mem_map.mp ht
          exact List.mem_map.mpr ⟨_, getA_mem (h c hc), rfl⟩
      have := nd.length_le_of_subset sub
      rw [List.length_cons, List.length_map, List.length_map] at this
      omega
  · intro h
    have p := perm_cnt ha hb h
    exact ⟨p.length_eq, fun c hc => get_nd hb.nd (p.mem_iff.mp hc)⟩
theorem cnt_putA (cs : Cts) (s t : St3) (m : Int) : cntA (putA cs s m) t = if t = s then m else cntA cs t := by
  have get_app : ∀ (cs : Cts), getA (cs ++ [(s, m)]) t = match getA cs t with | some n => some n | none => if s = t then some m else none := by
    intro cs
    induction cs with
    | nil => rfl
    | cons c r ih =>
      show (if c.1 = t then some c.2 else getA (r ++ [(s, m)]) t) = match (if c.1 = t then some c.2 else getA r t) with | some n => some n | none => if s = t then some m else none
      by_cases e : c.1 = t
      · rw [if_pos e, if_pos e]
      · rw [if_neg e, if_neg e]
        exact ih
  have get_map : ∀ (cs : Cts), s ∈ cs.map (·.1) → getA (cs.map fun c => if c.1 = s then (c.1, m) else c) t = if t = s then some m else getA cs t := by
    intro cs
    induction cs with
    | nil => intro h; cases h
    | cons c r ih =>
      intro h
      show (if (if c.1 = s then (c.1, m) else c).1 = t then some (if c.1 = s then (c.1, m) else c).2 else getA (r.map fun c => if c.1 = s then (c.1, m) else c) t) = if t = s then some m else if c.1 = t then some c.2 else getA r t
      by_cases e : c.1 = s
      · rw [if_pos e]
        show (if c.1 = t then some m else _) = _
        by_cases e2 : t = s
        · rw [if_pos (by rw [e, e2]), if_pos e2]
        · have e3 : ¬ c.1 = t := fun z => e2 (by rw [← z, e])
          rw [if_neg e3, if_neg e2, if_neg e3]
          by_cases e4 : s ∈ r.map (·.1)
          · rw [ih e4, if_neg e2]
          · have : (r.map fun c => if c.1 = s then (c.1, m) else c) = r := by
              refine (List.map_congr_left fun d hd => ?_).trans (List.map_id r)
              rw [if_neg fun z => e4 (List.mem_map.mpr ⟨d, hd, z⟩)]
              rfl
            rw [this]
      · rw [if_neg e]
        have h' : s ∈ r.map (·.1) := (List.mem_cons.mp h).elim (fun z => absurd z.symm e) id
        rw [ih h']
        by_cases e2 : t = s
        · rw [if_pos e2, if_neg (fun z => e (by rw [z, e2]))]
          rw [if_pos e2]
        · rw [if_neg e2, if_neg e2]
  unfold putA
  by_cases e : (cs.any fun c => decide (c.1 = s)) = true
  · rw [if_pos e]
    unfold cntA
    rw [get_map cs (any_mem.mp e)]
    by_cases e2 : t = s
    · rw [if_pos e2, if_pos e2]
      rfl
    · rw [if_neg e2, if_neg e2]
  · rw [if_neg e]
    have ns : s ∉ cs.map (·.1) := fun z => e (any_mem.mpr z)
    unfold cntA
    rw [get_app]
    by_cases e2 : t = s
    · subst e2
      have : getA cs t = none := by
        cases q : getA cs t with
        | none => rfl
        | some n => exact absurd (List.mem_map.mpr ⟨_, getA_mem q, rfl⟩) ns
      rw [this, if_pos rfl, if_pos rfl]
      rfl
    · rw [if_neg e2]
      cases q : getA cs t with
      | none =>
        show ((if s = t then some m else none : Option Int)).getD 0 = 0
        rw [if_neg fun z => e2 z.symm]
        rfl
      | some n => rfl
theorem cnt_addA (cs : Cts) (s t : St3) (m : Int) : cntA (addA cs s m) t = if t = s then cntA cs s + m else cntA cs t := cnt_putA ..
theorem cnt_delA (cs : Cts) (s t : St3) : cntA (delA cs s) t = if t = s then 0 else cntA cs t := by
  unfold delA
  induction cs with
  | nil =>
    show (0 : Int) = if t = s then 0 else 0
    split <;> rfl
  | cons c r ih =>
    by_cases h : c.1 = s
    · rw [List.filter_cons_of_neg (by simpa using h), ih]
      by_cases e : t = s
      · rw [if_pos e, if_pos e]
      · rw [if_neg e, if_neg e]
        show cntA r t = (if c.1 = t then some c.2 else getA r t).getD 0
        rw [if_neg fun z => e (by rw [← z, h])]
        rfl
    · rw [List.filter_cons_of_pos (by simpa using h)]
      show (if c.1 = t then some c.2 else getA _ t).getD 0 = if t = s then 0 else (if c.1 = t then some c.2 else getA r t).getD 0
      by_cases e : c.1 = t
      · rw [if_pos e, if_pos e, if_neg fun z => h (by rw [e, z])]
      · rw [if_neg e, if_neg e]
        exact ih
def takeA (cs : Cts) (s : St3) (m : Int) : Cts := if cntA cs s - m = 0 then delA cs s else putA cs s (cntA cs s - m)
theorem cnt_takeA (cs : Cts) (s t : St3) (m : Int) : cntA (takeA cs s m) t = if t = s then cntA cs s - m else cntA cs t := by
  unfold takeA
  by_cases h : cntA cs s - m = 0
  · rw [if_pos h, cnt_delA]
    by_cases e : t = s
    · rw [if_pos e, if_pos e, h]
    · rw [if_neg e, if_neg e]
  · rw [if_neg h, cnt_putA]
theorem CtOk.filt {ok : St3 → Prop} {cs : Cts} (h : CtOk ok cs) (f : St3 × Int → Bool) : CtOk ok (cs.filter f) :=
  ⟨h.nd.sublist ((List.filter_sublist (p := f)).map _), fun c hc => h.pos c (List.mem_filter.mp hc).1, fun c hc => h.st c (List.mem_filter.mp hc).1⟩
theorem CtOk.take {ok : St3 → Prop} {cs : Cts} (h : CtOk ok cs) {s : St3} (hs : ok s) {m : Int} (hm : m ≤ cntA cs s) : CtOk ok (takeA cs s m) := by
  unfold takeA
  by_cases e : cntA cs s - m = 0
  · rw [if_pos e]
    exact h.filt _
  · rw [if_neg e]
    exact h.put hs (by omega)
theorem takeA_len (cs : Cts) (s : St3) (m : Int) : (takeA cs s m).length ≤ cs.length + 1 := by
  unfold takeA
  split
  · exact Nat.le_trans (List.length_filter_le _ _) (Nat.le_succ _)
  · exact putA_len ..
theorem cnt_perm {ok : St3 → Prop} {as bs : Cts} (ha : CtOk ok as) (p : as.Perm bs) (s : St3) : cntA as s = cntA bs s := by
  have hb : CtOk ok bs := ha.perm p.symm
  by_cases m : s ∈ as.map (·.1)
  · obtain ⟨c, hc, rfl⟩ := List.mem_map.mp m
    rw [cntA_mem ha hc, cntA_mem hb (p.mem_iff.mp hc)]
  · rw [cntA_no m, cntA_no fun z => m ((p.map _).mem_iff.mpr z)]
theorem cnt_rise {ok : St3 → Prop} {cs : Cts} (h : CtOk ok cs) (s : St3) : cntA (riseA cs) s = cntA cs s := cnt_perm (h.perm (riseA_perm cs)) (riseA_perm cs) s
theorem rise_ext {ok ok' : St3 → Prop} {as bs : Cts} (ha : CtOk ok as) (hb : CtOk ok' bs) (h : ∀ s, cntA as s = cntA bs s) : riseA as = riseA bs := by
  have p : (riseA as).Perm (riseA bs) := (riseA_perm as).trans ((perm_cnt ha hb h).trans (riseA_perm bs).symm)
  exact List.Perm.eq_of_pairwise (le := stLt) (fun a b _ _ h h' => (stLt_asym h h').elim) (riseA_rise ha.nd) (riseA_rise hb.nd) p
end Dl

set_option Elab.async false
set_option maxRecDepth 100000
set_option maxHeartbeats 4000000
set_option linter.all false
namespace Dl
open PySem PySem.Spec PyProof.Rows L2 RZ HmS Da
/-! ### dicts of numbers by whatever keys -/
section
variable {α : Type} [DecidableEq α]
def kyG (κ : α → List Key) (cs : List (α × Int)) : List (List Key) := cs.map fun c => κ c.1
def vlG (cs : List (α × Int)) : List D := cs.map fun c => .int c.2
def getG : List (α × Int) → α → Option Int
  | [], _ => none
  | (t, n) :: r, s => if t = s then some n else getG r s
def putG (cs : List (α × Int)) (s : α) (m : Int) : List (α × Int) := if cs.any (fun c => decide (c.1 = s)) then cs.map (fun c => if c.1 = s then (c.1, m) else c) else cs ++ [(s, m)]
variable {κ : α → List Key} (inj : ∀ a b, κ a = κ b → a = b)
include inj
theorem look_G : ∀ (cs : List (α × Int)) (s : α), lookD (kyG κ cs) (vlG cs) (κ s) = (getG cs s).map D.int
  | [], _ => rfl
  | (t, n) :: r, s => by
    show (if κ t = κ s then some (D.int n) else lookD (kyG κ r) (vlG r) (κ s)) = Option.map D.int (if t = s then some n else getG r s)
    by_cases h : t = s
    · rw [if_pos h, if_pos (by rw [h])]
      rfl
    · rw [if_neg h, if_neg fun z => h (inj _ _ z)]
      exact look_G r s
theorem has_G (cs : List (α × Int)) (s : α) : hasT (kyG κ cs) (κ s) = cs.any fun c => decide (c.1 = s) := by
  unfold hasT kyG
  rw [List.any_map]
  congr 1
  funext c
  show decide (κ c.1 = κ s) = decide (c.1 = s)
  exact decide_eq_decide.mpr ⟨inj _ _, fun e => by rw [e]⟩
theorem put_xsG (s : α) (m : Int) : ∀ cs : List (α × Int), putTx (kyG κ cs) (vlG cs) (κ s) (.int m) = vlG (cs.map fun c => if c.1 = s then (c.1, m) else c)
  | [] => rfl
  | c :: r => by
    show (if κ c.1 = κ s then D.int m else D.int c.2) :: putTx (kyG κ r) (vlG r) (κ s) (.int m) = .int (if c.1 = s then (c.1, m) else c).2 :: vlG (r.map fun c => if c.1 = s then (c.1, m) else c)
    rw [put_xsG s m r]
    by_cases h : c.1 = s
    · rw [if_pos h, if_pos (by rw [h])]
    · rw [if_neg h, if_neg fun z => h (inj _ _ z)]
omit inj in
theorem put_kyG (s : α) (m : Int) : ∀ cs : List (α × Int), kyG κ (cs.map fun c => if c.1 = s then (c.1, m) else c) = kyG κ cs
  | [] => rfl
  | c :: r => by
    show κ (if c.1 = s then (c.1, m) else c).1 :: kyG κ (r.map fun c => if c.1 = s then (c.1, m) else c) = κ c.1 :: kyG κ r
    rw [put_kyG s m r]
    by_cases h : c.1 = s
    · rw [if_pos h]
    · rw [if_neg h]
theorem put_G (cs : List (α × Int)) (s : α) (m : Int) : putTs (kyG κ cs) (κ s) = kyG κ (putG cs s m) ∧ putTD (kyG κ cs) (vlG cs) (κ s) (.int m) = vlG (putG cs s m) := by
  unfold putTs putTD putG
  rw [has_G inj]
  split
  · exact ⟨(put_kyG s m cs).symm, put_xsG inj s m cs⟩
  · unfold kyG vlG
    rw [List.map_append, List.map_append]
    exact ⟨rfl, rfl⟩
omit inj
omit [DecidableEq α] in
theorem kyG_len (cs : List (α × Int)) : (kyG κ cs).length = cs.length := List.length_map ..
theorem putG_mem {cs : List (α × Int)} {s : α} {m : Int} {c : α × Int} (h : c ∈ putG cs s m) : c ∈ cs ∨ c = (s, m) := by
  unfold putG at h
  split at h
  · obtain ⟨d, hd, rfl⟩ := List.mem_map.mp h
    split
    · rename_i e
      exact .inr (by rw [e])
    · exact .inl hd
  · exact (List.mem_append.mp h).imp id List.mem_singleton.mp
theorem putG_len (cs : List (α × Int)) (s : α) (m : Int) : (putG cs s m).length ≤ cs.length + 1 ∧ 1 ≤ (putG cs s m).length ∧ cs.length ≤ (putG cs s m).length := by
  unfold putG
  split
  · rename_i h
    rw [List.length_map]
    have : cs ≠ [] := fun z => by rw [z] at h; cases h
    have := List.length_pos_iff.mpr this
    omega
  · rw [List.length_append, List.length_singleton]
    omega
theorem putG_nd {cs : List (α × Int)} {s : α} {m : Int} (nd : (cs.map (·.1)).Nodup) : ((putG cs s m).map (·.1)).Nodup := by
  unfold putG
  split
  · rw [List.map_map]
    have e : cs.map ((·.1) ∘ fun c => if c.1 = s then (c.1, m) else c) = cs.map (·.1) := List.map_congr_left fun c _ => by
      show (if c.1 = s then (c.1, m) else c).1 = c.1
      split <;> rfl
    rw [e]
    exact nd
  · rename_i n
    rw [List.map_append]
    refine List.nodup_append.mpr ⟨nd, by simp, fun a ha b hb z => ?_⟩
    rw [List.map_singleton, List.mem_singleton] at hb
    subst hb
    subst z
    obtain ⟨c, hc, e⟩ := List.mem_map.mp ha
    exact n (List.any_eq_true.mpr ⟨c, hc, decide_eq_true e⟩)
theorem getG_mem {cs : List (α × Int)} (nd : (cs.map (·.1)).Nodup) : ∀ {c : α × Int}, c ∈ cs → getG cs c.1 = some c.2 := by
  induction cs with
  | nil => exact fun h => nomatch h
  | cons d r ih =>
    intro c hc
    rw [List.map_cons, List.nodup_cons] at nd
    show (if d.1 = c.1 then some d.2 else getG r c.1) = some c.2
    rcases List.mem_cons.mp hc with e | h
    · rw [e, if_pos rfl]
    · rw [if_neg fun z => nd.1 (by rw [z]; exact List.mem_map.mpr ⟨c, h, rfl⟩)]
      exact ih nd.2 h
end
theorem it_sorted {i : Nat} {Γ : List En} {ks : List (List Key)} {xs : List D} {φ : List D → List En → Prop} (g : Γ[i]? = some (.d (.dT ks xs))) (hl : ks.length ≤ 100000) (hs : SrtOk (ks.map tupD)) (h : φ (sortD (ks.map tupD)) Γ) :
    dILst (dCB dSortR (dCons (dCB dListT (dCons (dVar i) dNil)) dNil)) Γ φ := by
  simp only [dILst, dCB, dCons, dNil, dVar, g, wf, dListT, dSortR, wl]
  exact ⟨by rw [List.length_map]; exact hl, hs, h⟩
/-! ### lists of numbers, sorted -/
theorem int_srt (is : List Int) : SrtOk (is.map D.int) := by
  refine ⟨?_, ?_, fun x hx => ?_⟩
  · rw [List.map_map]
    exact fun x hx y hy => by
      obtain ⟨a, _, rfl⟩ := List.mem_map.mp hx
      obtain ⟨b, _, rfl⟩ := List.mem_map.mp hy
      rfl
  · rw [List.map_map]
    exact PySem.W.Sortable.others (enc := fun i : Int => PyData.int i) fun h => ⟨(fun z => nomatch z), fun xs z => nomatch z⟩
  · obtain ⟨a, _, rfl⟩ := List.mem_map.mp hx
    exact ⟨rfl, by simp [D.py, PyData.depth]⟩
theorem sort_ints (is : List Int) : ∃ ks : List Int, sortD (is.map D.int) = ks.map D.int ∧ ks.Perm is ∧ (is.Nodup → ks.Pairwise (· < ·)) := by
  refine ⟨is.mergeSort (PySem.W.dataLe false fun i => PyData.int i), ?_, List.mergeSort_perm _ _, fun nd => ?_⟩
  · unfold sortD
    exact (PySem.W.sort_maps (r := PySem.W.dataLe false fun i : Int => PyData.int i) D.int (fun a _ b _ => rfl)).symm
  · have h1 : (is.mergeSort (PySem.W.dataLe false fun i => PyData.int i)).Pairwise (fun a b => PySem.W.dataLe false (fun i : Int => PyData.int i) a b = true) := PySem.W.sort_pairwise (PySem.W.sortLe_total _ _ _) _
    have h2 : (is.mergeSort (PySem.W.dataLe false fun i => PyData.int i)).Nodup := (List.mergeSort_perm _ _).nodup_iff.mpr nd
    refine (h1.and h2).imp fun {a b} h => ?_
    have h3 : (!PySem.W.dataLt (.int b) (.int a)) = true := h.1
    rw [PySem.W.dataLt_int] at h3
    have h4 : ¬ b < a := fun z => by rw [decide_eq_true z] at h3; cases h3
    have h5 : a ≠ b := h.2
    omega
/-! ### heads of sets -/
def hdD (h : Str × Int) : D := .tup [.str h.1, .int h.2]
def hdK (h : Str × Int) : List Key := [.inr h.1, .inl h.2]
theorem hdK_inj (a b : Str × Int) (h : hdK a = hdK b) : a = b := by
  simp only [hdK, List.cons.injEq, Sum.inr.injEq, Sum.inl.injEq, and_true] at h
  exact Prod.ext h.1 h.2
def hdLt (a b : Str × Int) : Bool := PySem.W.dataLt (hdD a).py (hdD b).py
abbrev hdR (s t : Str × Int) : Prop := s.1.cps.toList < t.1.cps.toList ∨ (s.1 = t.1 ∧ s.2 < t.2)
theorem hd_lt (s t : Str × Int) : hdLt s t = decide (hdR s t) := by
  show PySem.W.dataLt (.tuple [.str s.1, .int s.2]) (.tuple [.str t.1, .int t.2]) = _
  rw [PySem.W.dataLt_pair (by simp [PySem.W.alike]) (by simp [PySem.W.alike])]
  by_cases e : s.1 = t.1
  · have e1 : PyData.eqv (.str s.1) (.str t.1) = true := by rw [e]; simp [PyData.eqv]
    rw [if_pos e1]
    by_cases e2 : s.2 = t.2
    · rw [if_pos (by rw [e2]; simp [PyData.eqv])]
      refine (decide_eq_false ?_).symm
      rintro (z | z)
      · rw [e] at z
        exact absurd z (List.lt_irrefl _)
      · omega
    · rw [if_neg (by simpa [PyData.eqv] using e2), PySem.W.dataLt_int]
      refine decide_eq_decide.mpr ⟨fun z => .inr ⟨e, z⟩, fun z => ?_⟩
      rcases z with z | z
      · rw [e] at z
        exact absurd z (List.lt_irrefl _)
      · exact z.2
  · rw [if_neg (by simpa [PyData.eqv] using e), PySem.W.dataLt_str]
    refine decide_eq_decide.mpr ⟨.inl, fun z => ?_⟩
    rcases z with z | z
    · exact z
    · exact absurd z.1 e
theorem hd_tri {s t : Str × Int} (h : ¬ hdR t s) (n : s ≠ t) : hdR s t := by
  by_cases e : s.1 = t.1
  · refine .inr ⟨e, ?_⟩
    have h1 : ¬ t.2 < s.2 := fun z => h (.inr ⟨e.symm, z⟩)
    have h2 : s.2 ≠ t.2 := fun z => n (Prod.ext e z)
    omega
  · refine .inl (Std.lt_of_le_of_ne (fun z => h (.inl z)) fun z => e ?_)
    cases hs : s.1 with
    | mk a =>
      cases ht : t.1 with
      | mk b =>
        rw [hs, ht] at z
        have z : a.toList = b.toList := z
        rw [show a = b from Array.toList_inj.mp z]
def sortH (hs : List (Str × Int)) : List (Str × Int) := hs.mergeSort (PySem.W.dataLe false fun h => (hdD h).py)
theorem sortH_perm (hs : List (Str × Int)) : (sortH hs).Perm hs := List.mergeSort_perm _ _
theorem sortH_D (hs : List (Str × Int)) : sortD (hs.map hdD) = (sortH hs).map hdD := by
  unfold sortD sortH
  exact (PySem.W.sort_maps (r := PySem.W.dataLe false fun h : Str × Int => (hdD h).py) hdD (fun a _ b _ => rfl)).symm
theorem sortH_rise {hs : List (Str × Int)} (nd : hs.Nodup) : (sortH hs).Pairwise hdR := by
  have h1 : (sortH hs).Pairwise (fun a b => PySem.W.dataLe false (fun h : Str × Int => (hdD h).py) a b = true) := PySem.W.sort_pairwise (PySem.W.sortLe_total _ _ _) _
  have h2 : (sortH hs).Nodup := (sortH_perm hs).nodup_iff.mpr nd
  refine (h1.and h2).imp fun {a b} h => ?_
  have h3 : (!hdLt b a) = true := h.1
  rw [hd_lt] at h3
  exact hd_tri (fun z => by rw [decide_eq_true z] at h3; cases h3) h.2
theorem hd_srt (hs : List (Str × Int)) : SrtOk (hs.map hdD) := by
  refine ⟨?_, ?_, fun x hx => ?_⟩
  · rw [List.map_map]
    exact fun x hx y hy => by
      obtain ⟨a, _, rfl⟩ := List.mem_map.mp hx
      obtain ⟨b, _, rfl⟩ := List.mem_map.mp hy
      simp [hdD, D.py, pys, PySem.W.alike, PySem.W.alikeAll]
  · rw [List.map_map]
    exact PySem.W.Sortable.tuples fun h => ⟨_, _, rfl⟩
  · obtain ⟨a, _, rfl⟩ := List.mem_map.mp hx
    refine ⟨rfl, ?_⟩
    simp [hdD, D.py, pys, PyData.depth, PyData.depthAll]
end Dl

set_option Elab.async false
set_option maxRecDepth 100000
set_option maxHeartbeats 4000000
set_option linter.all false
set_option synthInstance.maxHeartbeats 4000000
set_option synthInstance.maxSize 10000

namespace Dl
open PySem PySem.Spec PyProof.Rows L2 RZ HmS Da
def topSt (i : Nat) : Stmt := PySem.Challenge.pw_hingemount_k11_albums_refused.main.body.getD i (.Pass ⟨0, 0, 0, 0⟩)
abbrev st_in_figures : Stmt := topSt 3
abbrev nm_in_figures : List Str := ["number", "pieces", "left", "piece"]
abbrev ps_in_figures : List Str := ["number"]
theorem sc_in_figures : FnScope nm_in_figures ps_in_figures (defScope st_in_figures) := ⟨rfl, rfl, rfl, by decide +kernel, rfl, by decide +kernel, by decide +kernel⟩
abbrev st_list_words : Stmt := topSt 4
abbrev nm_list_words : List Str := ["book", "land", "year", "many"]
abbrev ps_list_words : List Str := ["book"]
theorem sc_list_words : FnScope nm_list_words ps_list_words (defScope st_list_words) := ⟨rfl, rfl, rfl, by decide +kernel, rfl, by decide +kernel, by decide +kernel⟩
abbrev st_stamp_row : Stmt := topSt 5
abbrev nm_stamp_row : List Str := ["stamp", "many", "at", "number", "grade"]
abbrev ps_stamp_row : List Str := ["stamp", "many"]
theorem sc_stamp_row : FnScope nm_stamp_row ps_stamp_row (defScope st_stamp_row) := ⟨rfl, rfl, rfl, by decide +kernel, rfl, by decide +kernel, by decide +kernel⟩
abbrev st_album_rows : Stmt := topSt 6
abbrev nm_album_rows : List Str := ["name", "book", "counts", "head", "stamps", "stamp", "many"]
abbrev ps_album_rows : List Str := ["name", "book", "counts"]
theorem sc_album_rows : FnScope nm_album_rows ps_album_rows (defScope st_album_rows) := ⟨rfl, rfl, rfl, by decide +kernel, rfl, by decide +kernel, by decide +kernel⟩
abbrev st_is_whole : Stmt := topSt 20
abbrev nm_is_whole : List Str := ["thing"]
abbrev ps_is_whole : List Str := ["thing"]
theorem sc_is_whole : FnScope nm_is_whole ps_is_whole (defScope st_is_whole) := ⟨rfl, rfl, rfl, by decide +kernel, rfl, by decide +kernel, by decide +kernel⟩
abbrev st_is_whole_from : Stmt := topSt 21
abbrev nm_is_whole_from : List Str := ["thing", "least"]
abbrev ps_is_whole_from : List Str := ["thing", "least"]
theorem sc_is_whole_from : FnScope nm_is_whole_from ps_is_whole_from (defScope st_is_whole_from) := ⟨rfl, rfl, rfl, by decide +kernel, rfl, by decide +kernel, by decide +kernel⟩
abbrev st_is_whole_within : Stmt := topSt 22
abbrev nm_is_whole_within : List Str := ["thing", "least", "most"]
abbrev ps_is_whole_within : List Str := ["thing", "least", "most"]
theorem sc_is_whole_within : FnScope nm_is_whole_within ps_is_whole_within (defScope st_is_whole_within) := ⟨rfl, rfl, rfl, by decide +kernel, rfl, by decide +kernel, by decide +kernel⟩
abbrev st_is_letters : Stmt := topSt 23
abbrev nm_is_letters : List Str := ["thing", "fewest", "most", "sign"]
abbrev ps_is_letters : List Str := ["thing", "fewest", "most"]
theorem sc_is_letters : FnScope nm_is_letters ps_is_letters (defScope st_is_letters) := ⟨rfl, rfl, rfl, by decide +kernel, rfl, by decide +kernel, by decide +kernel⟩
abbrev st_is_tuple : Stmt := topSt 24
abbrev nm_is_tuple : List Str := ["thing", "fewest", "most"]
abbrev ps_is_tuple : List Str := ["thing", "fewest", "most"]
theorem sc_is_tuple : FnScope nm_is_tuple ps_is_tuple (defScope st_is_tuple) := ⟨rfl, rfl, rfl, by decide +kernel, rfl, by decide +kernel, by decide +kernel⟩
abbrev st_is_rising : Stmt := topSt 25
abbrev nm_is_rising : List Str := ["things", "ahead", "behind"]
abbrev ps_is_rising : List Str := ["things"]
theorem sc_is_rising : FnScope nm_is_rising ps_is_rising (defScope st_is_rising) := ⟨rfl, rfl, rfl, by decide +kernel, rfl, by decide +kernel, by decide +kernel⟩
abbrev st_is_rising_within : Stmt := topSt 26
abbrev nm_is_rising_within : List Str := ["thing", "least", "most", "part"]
abbrev ps_is_rising_within : List Str := ["thing", "least", "most"]
theorem sc_is_rising_within : FnScope nm_is_rising_within ps_is_rising_within (defScope st_is_rising_within) := ⟨rfl, rfl, rfl, by decide +kernel, rfl, by decide +kernel, by decide +kernel⟩
abbrev st_is_year : Stmt := topSt 30
abbrev nm_is_year : List Str := ["thing"]
abbrev ps_is_year : List Str := ["thing"]
theorem sc_is_year : FnScope nm_is_year ps_is_year (defScope st_is_year) := ⟨rfl, rfl, rfl, by decide +kernel, rfl, by decide +kernel, by decide +kernel⟩
abbrev st_is_set : Stmt := topSt 31
abbrev nm_is_set : List Str := ["thing", "land", "year", "many"]
abbrev ps_is_set : List Str := ["thing"]
theorem sc_is_set : FnScope nm_is_set ps_is_set (defScope st_is_set) := ⟨rfl, rfl, rfl, by decide +kernel, rfl, by decide +kernel, by decide +kernel⟩
abbrev st_is_list : Stmt := topSt 32
abbrev nm_is_list : List Str := ["thing", "part"]
abbrev ps_is_list : List Str := ["thing"]
theorem sc_is_list : FnScope nm_is_list ps_is_list (defScope st_is_list) := ⟨rfl, rfl, rfl, by decide +kernel, rfl, by decide +kernel, by decide +kernel⟩
abbrev st_is_set_number : Stmt := topSt 33
abbrev nm_is_set_number : List Str := ["book", "thing"]
abbrev ps_is_set_number : List Str := ["book", "thing"]
theorem sc_is_set_number : FnScope nm_is_set_number ps_is_set_number (defScope st_is_set_number) := ⟨rfl, rfl, rfl, by decide +kernel, rfl, by decide +kernel, by decide +kernel⟩
abbrev st_is_place : Stmt := topSt 34
abbrev nm_is_place : List Str := ["book", "thing", "at", "number"]
abbrev ps_is_place : List Str := ["book", "thing"]
theorem sc_is_place : FnScope nm_is_place ps_is_place (defScope st_is_place) := ⟨rfl, rfl, rfl, by decide +kernel, rfl, by decide +kernel, by decide +kernel⟩
abbrev st_is_stamp : Stmt := topSt 35
abbrev nm_is_stamp : List Str := ["book", "thing"]
abbrev ps_is_stamp : List Str := ["book", "thing"]
theorem sc_is_stamp : FnScope nm_is_stamp ps_is_stamp (defScope st_is_stamp) := ⟨rfl, rfl, rfl, by decide +kernel, rfl, by decide +kernel, by decide +kernel⟩
abbrev st_is_stamps : Stmt := topSt 37
abbrev nm_is_stamps : List Str := ["book", "thing", "part"]
abbrev ps_is_stamps : List Str := ["book", "thing"]
theorem sc_is_stamps : FnScope nm_is_stamps ps_is_stamps (defScope st_is_stamps) := ⟨rfl, rfl, rfl, by decide +kernel, rfl, by decide +kernel, by decide +kernel⟩
abbrev st_filled : Stmt := topSt 39
abbrev nm_filled : List Str := ["book", "name", "counts", "album", "stamp", "many"]
abbrev ps_filled : List Str := ["book", "name", "counts"]
theorem sc_filled : FnScope nm_filled ps_filled (defScope st_filled) := ⟨rfl, rfl, rfl, by decide +kernel, rfl, by decide +kernel, by decide +kernel⟩
abbrev st_parted : Stmt := topSt 40
abbrev nm_parted : List Str := ["album", "places", "inside", "outside", "stamp", "many"]
abbrev ps_parted : List Str := ["album", "places"]
theorem sc_parted : FnScope nm_parted ps_parted (defScope st_parted) := ⟨rfl, rfl, rfl, by decide +kernel, rfl, by decide +kernel, by decide +kernel⟩
abbrev st__law_cell_at : Stmt := topSt 42
abbrev nm__law_cell_at : List Str := ["_law_script", "_law_k"]
abbrev ps__law_cell_at : List Str := ["_law_script", "_law_k"]
theorem sc__law_cell_at : FnScope nm__law_cell_at ps__law_cell_at (defScope st__law_cell_at) := ⟨rfl, rfl, rfl, by decide +kernel, rfl, by decide +kernel, by decide +kernel⟩
abbrev st__law_pen : Stmt := topSt 43
abbrev nm__law_pen : List Str := ["_law_cell"]
abbrev ps__law_pen : List Str := ["_law_cell"]
theorem sc__law_pen : FnScope nm__law_pen ps__law_pen (defScope st__law_pen) := ⟨rfl, rfl, rfl, by decide +kernel, rfl, by decide +kernel, by decide +kernel⟩
abbrev st__law_draw : Stmt := topSt 44
abbrev nm__law_draw : List Str := ["_law_pen_here", "_law_bound", "_law_found", "_law_stir"]
abbrev ps__law_draw : List Str := ["_law_pen_here", "_law_bound"]
theorem sc__law_draw : FnScope nm__law_draw ps__law_draw (defScope st__law_draw) := ⟨rfl, rfl, rfl, by decide +kernel, rfl, by decide +kernel, by decide +kernel⟩
abbrev st__law_list : Stmt := topSt 45
abbrev nm__law_list : List Str := ["_law_pen_here", "_law_found", "_law_k", "_law_land", "_law_year"]
abbrev ps__law_list : List Str := ["_law_pen_here"]
theorem sc__law_list : FnScope nm__law_list ps__law_list (defScope st__law_list) := ⟨rfl, rfl, rfl, by decide +kernel, rfl, by decide +kernel, by decide +kernel⟩
abbrev st__law_places : Stmt := topSt 46
abbrev nm__law_places : List Str := ["_law_sets", "_law_found", "_law_at", "_law_land", "_law_year", "_law_many", "_law_number"]
abbrev ps__law_places : List Str := ["_law_sets"]
theorem sc__law_places : FnScope nm__law_places ps__law_places (defScope st__law_places) := ⟨rfl, rfl, rfl, by decide +kernel, rfl, by decide +kernel, by decide +kernel⟩
abbrev st__law_stamps : Stmt := topSt 48
abbrev nm__law_stamps : List Str := ["_law_pen_here", "_law_sets", "_law_most", "_law_places_here", "_law_found", "_law_k", "_law_place"]
abbrev ps__law_stamps : List Str := ["_law_pen_here", "_law_sets", "_law_most"]
theorem sc__law_stamps : FnScope nm__law_stamps ps__law_stamps (defScope st__law_stamps) := ⟨rfl, rfl, rfl, by decide +kernel, rfl, by decide +kernel, by decide +kernel⟩
abbrev st__law_thing : Stmt := topSt 54
abbrev nm__law_thing : List Str := ["_law_pen_here", "_law_deep", "_law_way", "_law_parts", "_law_k"]
abbrev ps__law_thing : List Str := ["_law_pen_here", "_law_deep"]
theorem sc__law_thing : FnScope nm__law_thing ps__law_thing (defScope st__law_thing) := ⟨rfl, rfl, rfl, by decide +kernel, rfl, by decide +kernel, by decide +kernel⟩
abbrev st__law_spoilt : Stmt := topSt 55
abbrev nm__law_spoilt : List Str := ["_law_pen_here", "_law_thing_here", "_law_at", "_law_way"]
abbrev ps__law_spoilt : List Str := ["_law_pen_here", "_law_thing_here"]
theorem sc__law_spoilt : FnScope nm__law_spoilt ps__law_spoilt (defScope st__law_spoilt) := ⟨rfl, rfl, rfl, by decide +kernel, rfl, by decide +kernel, by decide +kernel⟩
abbrev st__law_word : Stmt := topSt 56
abbrev nm__law_word : List Str := ["_law_call"]
abbrev ps__law_word : List Str := ["_law_call"]
theorem sc__law_word : FnScope nm__law_word ps__law_word (defScope st__law_word) := ⟨rfl, rfl, rfl, by decide +kernel, rfl, by decide +kernel, by decide +kernel⟩
abbrev st__law_are_sets : Stmt := topSt 57
abbrev nm__law_are_sets : List Str := ["_law_sets", "_law_thing_here", "_law_one"]
abbrev ps__law_are_sets : List Str := ["_law_sets", "_law_thing_here"]
theorem sc__law_are_sets : FnScope nm__law_are_sets ps__law_are_sets (defScope st__law_are_sets) := ⟨rfl, rfl, rfl, by decide +kernel, rfl, by decide +kernel, by decide +kernel⟩
abbrev st_law : Stmt := topSt 58
abbrev nm_law : List Str := ["_law_script", "_law_pen_here", "_law_sets", "_law_album", "_law_kept", "_law_rows", "_law_thing_here", "_law_due", "_law_turn", "_law_many", "_law_good", "_law_other"]
abbrev ps_law : List Str := ["_law_script"]
theorem sc_law : FnScope nm_law ps_law (defScope st_law) := ⟨rfl, rfl, rfl, by decide +kernel, rfl, by decide +kernel, by decide +kernel⟩
def dNm : List Str := (["in_figures", "list_words", "stamp_row", "album_rows", "is_whole", "is_whole_from", "is_whole_within", "is_letters"] : List Str) ++ (["is_tuple", "is_rising", "is_rising_within", "is_year", "is_set", "is_list", "is_set_number", "is_place"] : List Str) ++ (["is_stamp", "is_stamps", "filled", "parted", "_law_cell_at", "_law_pen", "_law_draw", "_law_list"] : List Str) ++ (["_law_places", "_law_stamps", "_law_thing", "_law_spoilt", "_law_word", "_law_are_sets", "law"] : List Str)
def dSt : List Stmt := ([st_in_figures, st_list_words, st_stamp_row, st_album_rows, st_is_whole, st_is_whole_from, st_is_whole_within, st_is_letters] : List Stmt) ++ ([st_is_tuple, st_is_rising, st_is_rising_within, st_is_year, st_is_set, st_is_list, st_is_set_number, st_is_place] : List Stmt) ++ ([st_is_stamp, st_is_stamps, st_filled, st_parted, st__law_cell_at, st__law_pen, st__law_draw, st__law_list] : List Stmt) ++ ([st__law_places, st__law_stamps, st__law_thing, st__law_spoilt, st__law_word, st__law_are_sets, st_law] : List Stmt)

def bnm : List Str := (["len", "int", "range", "sorted", "tuple", "enumerate", "isinstance", "bool"] : List Str) ++ (["str", "all", "any", "zip", "max", "min", "list", "set"] : List Str) ++ (["sum", "repr", "dict", "divmod"] : List Str)
structure Txt (K : PySem.W.Frag) (mg : Str → Option Value) (ad : Nat → Addr) (fd : Nat → FuncData) : Prop where
  z : ∀ i, i < 20 → mg (bnm.getD i "") = none
  g : ∀ i, i < 31 → mg (dNm.getD i "") = some (.ref (ad i))
  k : ∀ i, i < 31 → PySem.W.keepIn K (.ref (ad i)) = true
  f : ∀ i, i < 31 → Fun K (dNm.getD i "") (dNm.getD i "") (dSt.getD i (topSt 0)) (ad i) (fd i)
section
variable {P : Program} {w : World} {K : PySem.W.Frag} {mg : Str → Option Value} {base : Heap} {ad : Nat → Addr} {fd : Nat → FuncData}
theorem bd_in_figures (T : Txt K mg ad fd) : Binds K (fd 0) ps_in_figures [] := (show Fun K "in_figures" "in_figures" st_in_figures (ad 0) (fd 0) from T.f 0 (by decide)).binds fun _ _ _ _ _ _ us hl => match us, hl with | [_], _ => rfl
theorem bd_list_words (T : Txt K mg ad fd) : Binds K (fd 1) ps_list_words [] := (show Fun K "list_words" "list_words" st_list_words (ad 1) (fd 1) from T.f 1 (by decide)).binds fun _ _ _ _ _ _ us hl => match us, hl with | [_], _ => rfl
theorem bd_stamp_row (T : Txt K mg ad fd) : Binds K (fd 2) ps_stamp_row [] := (show Fun K "stamp_row" "stamp_row" st_stamp_row (ad 2) (fd 2) from T.f 2 (by decide)).binds fun _ _ _ _ _ _ us hl => match us, hl with | [_, _], _ => rfl
theorem bd_album_rows (T : Txt K mg ad fd) : Binds K (fd 3) ps_album_rows [] := (show Fun K "album_rows" "album_rows" st_album_rows (ad 3) (fd 3) from T.f 3 (by decide)).binds fun _ _ _ _ _ _ us hl => match us, hl with | [_, _, _], _ => rfl
theorem bd_is_whole (T : Txt K mg ad fd) : Binds K (fd 4) ps_is_whole [] := (show Fun K "is_whole" "is_whole" st_is_whole (ad 4) (fd 4) from T.f 4 (by decide)).binds fun _ _ _ _ _ _ us hl => match us, hl with | [_], _ => rfl
theorem bd_is_whole_from (T : Txt K mg ad fd) : Binds K (fd 5) ps_is_whole_from [] := (show Fun K "is_whole_from" "is_whole_from" st_is_whole_from (ad 5) (fd 5) from T.f 5 (by decide)).binds fun _ _ _ _ _ _ us hl => match us, hl with | [_, _], _ => rfl
theorem bd_is_whole_within (T : Txt K mg ad fd) : Binds K (fd 6) ps_is_whole_within [] := (show Fun K "is_whole_within" "is_whole_within" st_is_whole_within (ad 6) (fd 6) from T.f 6 (by decide)).binds fun _ _ _ _ _ _ us hl => match us, hl with | [_, _, _], _ => rfl
theorem bd_is_letters (T : Txt K mg ad fd) : Binds K (fd 7) ps_is_letters [] := (show Fun K "is_letters" "is_letters" st_is_letters (ad 7) (fd 7) from T.f 7 (by decide)).binds fun _ _ _ _ _ _ us hl => match us, hl with | [_, _, _], _ => rfl
theorem bd_is_tuple (T : Txt K mg ad fd) : Binds K (fd 8) ps_is_tuple [] := (show Fun K "is_tuple" "is_tuple" st_is_tuple (ad 8) (fd 8) from T.f 8 (by decide)).binds fun _ _ _ _ _ _ us hl => match us, hl with | [_, _, _], _ => rfl
theorem bd_is_rising (T : Txt K mg ad fd) : Binds K (fd 9) ps_is_rising [] := (show Fun K "is_rising" "is_rising" st_is_rising (ad 9) (fd 9) from T.f 9 (by decide)).binds fun _ _ _ _ _ _ us hl => match us, hl with | [_], _ => rfl
theorem bd_is_rising_within (T : Txt K mg ad fd) : Binds K (fd 10) ps_is_rising_within [] := (show Fun K "is_rising_within" "is_rising_within" st_is_rising_within (ad 10) (fd 10) from T.f 10 (by decide)).binds fun _ _ _ _ _ _ us hl => match us, hl with | [_, _, _], _ => rfl
theorem bd_is_year (T : Txt K mg ad fd) : Binds K (fd 11) ps_is_year [] := (show Fun K "is_year" "is_year" st_is_year (ad 11) (fd 11) from T.f 11 (by decide)).binds fun _ _ _ _ _ _ us hl => match us, hl with | [_], _ => rfl
theorem bd_is_set (T : Txt K mg ad fd) : Binds K (fd 12) ps_is_set [] := (show Fun K "is_set" "is_set" st_is_set (ad 12) (fd 12) from T.f 12 (by decide)).binds fun _ _ _ _ _ _ us hl => match us, hl with | [_], _ => rfl
theorem bd_is_list (T : Txt K mg ad fd) : Binds K (fd 13) ps_is_list [] := (show Fun K "is_list" "is_list" st_is_list (ad 13) (fd 13) from T.f 13 (by decide)).binds fun _ _ _ _ _ _ us hl => match us, hl with | [_], _ => rfl
theorem bd_is_set_number (T : Txt K mg ad fd) : Binds K (fd 14) ps_is_set_number [] := (show Fun K "is_set_number" "is_set_number" st_is_set_number (ad 14) (fd 14) from T.f 14 (by decide)).binds fun _ _ _ _ _ _ us hl => match us, hl with | [_, _], _ => rfl
theorem bd_is_place (T : Txt K mg ad fd) : Binds K (fd 15) ps_is_place [] := (show Fun K "is_place" "is_place" st_is_place (ad 15) (fd 15) from T.f 15 (by decide)).binds fun _ _ _ _ _ _ us hl => match us, hl with | [_, _], _ => rfl
theorem bd_is_stamp (T : Txt K mg ad fd) : Binds K (fd 16) ps_is_stamp [] := (show Fun K "is_stamp" "is_stamp" st_is_stamp (ad 16) (fd 16) from T.f 16 (by decide)).binds fun _ _ _ _ _ _ us hl => match us, hl with | [_, _], _ => rfl
theorem bd_is_stamps (T : Txt K mg ad fd) : Binds K (fd 17) ps_is_stamps [] := (show Fun K "is_stamps" "is_stamps" st_is_stamps (ad 17) (fd 17) from T.f 17 (by decide)).binds fun _ _ _ _ _ _ us hl => match us, hl with | [_, _], _ => rfl
theorem bd_filled (T : Txt K mg ad fd) : Binds K (fd 18) ps_filled [] := (show Fun K "filled" "filled" st_filled (ad 18) (fd 18) from T.f 18 (by decide)).binds fun _ _ _ _ _ _ us hl => match us, hl with | [_, _, _], _ => rfl
theorem bd_parted (T : Txt K mg ad fd) : Binds K (fd 19) ps_parted [] := (show Fun K "parted" "parted" st_parted (ad 19) (fd 19) from T.f 19 (by decide)).binds fun _ _ _ _ _ _ us hl => match us, hl with | [_, _], _ => rfl
theorem bd__law_cell_at (T : Txt K mg ad fd) : Binds K (fd 20) ps__law_cell_at [] := (show Fun K "_law_cell_at" "_law_cell_at" st__law_cell_at (ad 20) (fd 20) from T.f 20 (by decide)).binds fun _ _ _ _ _ _ us hl => match us, hl with | [_, _], _ => rfl
theorem bd__law_pen (T : Txt K mg ad fd) : Binds K (fd 21) ps__law_pen [] := (show Fun K "_law_pen" "_law_pen" st__law_pen (ad 21) (fd 21) from T.f 21 (by decide)).binds fun _ _ _ _ _ _ us hl => match us, hl with | [_], _ => rfl
theorem bd__law_draw (T : Txt K mg ad fd) : Binds K (fd 22) ps__law_draw [] := (show Fun K "_law_draw" "_law_draw" st__law_draw (ad 22) (fd 22) from T.f 22 (by decide)).binds fun _ _ _ _ _ _ us hl => match us, hl with | [_, _], _ => rfl
theorem bd__law_list (T : Txt K mg ad fd) : Binds K (fd 23) ps__law_list [] := (show Fun K "_law_list" "_law_list" st__law_list (ad 23) (fd 23) from T.f 23 (by decide)).binds fun _ _ _ _ _ _ us hl => match us, hl with | [_], _ => rfl
theorem bd__law_places (T : Txt K mg ad fd) : Binds K (fd 24) ps__law_places [] := (show Fun K "_law_places" "_law_places" st__law_places (ad 24) (fd 24) from T.f 24 (by decide)).binds fun _ _ _ _ _ _ us hl => match us, hl with | [_], _ => rfl
theorem bd__law_stamps (T : Txt K mg ad fd) : Binds K (fd 25) ps__law_stamps [] := (show Fun K "_law_stamps" "_law_stamps" st__law_stamps (ad 25) (fd 25) from T.f 25 (by decide)).binds fun _ _ _ _ _ _ us hl => match us, hl with | [_, _, _], _ => rfl
theorem bd__law_thing (T : Txt K mg ad fd) : Binds K (fd 26) ps__law_thing [] := (show Fun K "_law_thing" "_law_thing" st__law_thing (ad 26) (fd 26) from T.f 26 (by decide)).binds fun _ _ _ _ _ _ us hl => match us, hl with | [_, _], _ => rfl
theorem bd__law_spoilt (T : Txt K mg ad fd) : Binds K (fd 27) ps__law_spoilt [] := (show Fun K "_law_spoilt" "_law_spoilt" st__law_spoilt (ad 27) (fd 27) from T.f 27 (by decide)).binds fun _ _ _ _ _ _ us hl => match us, hl with | [_, _], _ => rfl
theorem bd__law_word (T : Txt K mg ad fd) : Binds K (fd 28) ps__law_word [] := (show Fun K "_law_word" "_law_word" st__law_word (ad 28) (fd 28) from T.f 28 (by decide)).binds fun _ _ _ _ _ _ us hl => match us, hl with | [_], _ => rfl
theorem bd__law_are_sets (T : Txt K mg ad fd) : Binds K (fd 29) ps__law_are_sets [] := (show Fun K "_law_are_sets" "_law_are_sets" st__law_are_sets (ad 29) (fd 29) from T.f 29 (by decide)).binds fun _ _ _ _ _ _ us hl => match us, hl with | [_, _], _ => rfl
theorem bd_law (T : Txt K mg ad fd) : Binds K (fd 30) ps_law [] := (show Fun K "law" "law" st_law (ad 30) (fd 30) from T.f 30 (by decide)).binds fun _ _ _ _ _ _ us hl => match us, hl with | [_], _ => rfl

end
abbrev st_Album__check_some : Stmt := inClass (topSt 38) 3
abbrev nm_Album__check_some : List Str := ["self", "stamp", "many"]
abbrev ps_Album__check_some : List Str := ["self", "stamp", "many"]
theorem sc_Album__check_some : FnScope nm_Album__check_some ps_Album__check_some (defScope st_Album__check_some) := ⟨rfl, rfl, rfl, by decide +kernel, rfl, by decide +kernel, by decide +kernel⟩
abbrev st_Album__check_stamp : Stmt := inClass (topSt 38) 4
abbrev nm_Album__check_stamp : List Str := ["self", "stamp"]
abbrev ps_Album__check_stamp : List Str := ["self", "stamp"]
theorem sc_Album__check_stamp : FnScope nm_Album__check_stamp ps_Album__check_stamp (defScope st_Album__check_stamp) := ⟨rfl, rfl, rfl, by decide +kernel, rfl, by decide +kernel, by decide +kernel⟩
abbrev st_Album_book : Stmt := inClass (topSt 38) 5
abbrev nm_Album_book : List Str := ["self"]
abbrev ps_Album_book : List Str := ["self"]
theorem sc_Album_book : FnScope nm_Album_book ps_Album_book (defScope st_Album_book) := ⟨rfl, rfl, rfl, by decide +kernel, rfl, by decide +kernel, by decide +kernel⟩
abbrev st_Album_called : Stmt := inClass (topSt 38) 6
abbrev nm_Album_called : List Str := ["self"]
abbrev ps_Album_called : List Str := ["self"]
theorem sc_Album_called : FnScope nm_Album_called ps_Album_called (defScope st_Album_called) := ⟨rfl, rfl, rfl, by decide +kernel, rfl, by decide +kernel, by decide +kernel⟩
abbrev st_Album_count_of : Stmt := inClass (topSt 38) 7
abbrev nm_Album_count_of : List Str := ["self", "stamp"]
abbrev ps_Album_count_of : List Str := ["self", "stamp"]
theorem sc_Album_count_of : FnScope nm_Album_count_of ps_Album_count_of (defScope st_Album_count_of) := ⟨rfl, rfl, rfl, by decide +kernel, rfl, by decide +kernel, by decide +kernel⟩
abbrev st_Album_all_of : Stmt := inClass (topSt 38) 8
abbrev nm_Album_all_of : List Str := ["self"]
abbrev ps_Album_all_of : List Str := ["self"]
theorem sc_Album_all_of : FnScope nm_Album_all_of ps_Album_all_of (defScope st_Album_all_of) := ⟨rfl, rfl, rfl, by decide +kernel, rfl, by decide +kernel, by decide +kernel⟩
abbrev st_Album_gaps : Stmt := inClass (topSt 38) 9
abbrev nm_Album_gaps : List Str := ["self", "place", "number"]
abbrev ps_Album_gaps : List Str := ["self", "place"]
theorem sc_Album_gaps : FnScope nm_Album_gaps ps_Album_gaps (defScope st_Album_gaps) := ⟨rfl, rfl, rfl, by decide +kernel, rfl, by decide +kernel, by decide +kernel⟩
abbrev st_Album__fills : Stmt := inClass (topSt 38) 10
abbrev nm_Album__fills : List Str := ["self", "at", "number"]
abbrev ps_Album__fills : List Str := ["self", "at", "number"]
theorem sc_Album__fills : FnScope nm_Album__fills ps_Album__fills (defScope st_Album__fills) := ⟨rfl, rfl, rfl, by decide +kernel, rfl, by decide +kernel, by decide +kernel⟩
abbrev st_Album_twin : Stmt := inClass (topSt 38) 14
abbrev nm_Album_twin : List Str := ["self"]
abbrev ps_Album_twin : List Str := ["self"]
theorem sc_Album_twin : FnScope nm_Album_twin ps_Album_twin (defScope st_Album_twin) := ⟨rfl, rfl, rfl, by decide +kernel, rfl, by decide +kernel, by decide +kernel⟩
abbrev st_Album___eq__ : Stmt := inClass (topSt 38) 16
abbrev nm_Album___eq__ : List Str := ["self", "other"]
abbrev ps_Album___eq__ : List Str := ["self", "other"]
theorem sc_Album___eq__ : FnScope nm_Album___eq__ ps_Album___eq__ (defScope st_Album___eq__) := ⟨rfl, rfl, rfl, by decide +kernel, rfl, by decide +kernel, by decide +kernel⟩
abbrev st_Album___init__ : Stmt := inClass (topSt 38) 0
abbrev nm_Album___init__ : List Str := ["self", "book", "name", "stamps", "stamp"]
abbrev ps_Album___init__ : List Str := ["self", "book", "name", "stamps"]
theorem sc_Album___init__ : FnScope nm_Album___init__ ps_Album___init__ (defScope st_Album___init__) := ⟨rfl, rfl, rfl, by decide +kernel, rfl, by decide +kernel, by decide +kernel⟩
abbrev st_Album_put : Stmt := inClass (topSt 38) 1
abbrev nm_Album_put : List Str := ["self", "stamp", "many"]
abbrev ps_Album_put : List Str := ["self", "stamp", "many"]
theorem sc_Album_put : FnScope nm_Album_put ps_Album_put (defScope st_Album_put) := ⟨rfl, rfl, rfl, by decide +kernel, rfl, by decide +kernel, by decide +kernel⟩
abbrev st_Album_take : Stmt := inClass (topSt 38) 2
abbrev nm_Album_take : List Str := ["self", "stamp", "many", "left"]
abbrev ps_Album_take : List Str := ["self", "stamp", "many"]
theorem sc_Album_take : FnScope nm_Album_take ps_Album_take (defScope st_Album_take) := ⟨rfl, rfl, rfl, by decide +kernel, rfl, by decide +kernel, by decide +kernel⟩
def mNm : List Str := ["_check_some", "_check_stamp", "book", "called", "count_of", "all_of", "gaps", "_fills", "twin", "__eq__", "__init__", "put", "take"]
def mQn : List Str := ["Album._check_some", "Album._check_stamp", "Album.book", "Album.called", "Album.count_of", "Album.all_of", "Album.gaps", "Album._fills", "Album.twin", "Album.__eq__", "Album.__init__", "Album.put", "Album.take"]
def mSt : List Stmt := [st_Album__check_some, st_Album__check_stamp, st_Album_book, st_Album_called, st_Album_count_of, st_Album_all_of, st_Album_gaps, st_Album__fills, st_Album_twin, st_Album___eq__, st_Album___init__, st_Album_put, st_Album_take]
structure TxtM (K : PySem.W.Frag) (mg : Str → Option Value) (C : Addr) (am : Nat → Addr) (fm : Nat → FuncData) : Prop where
  cl : Cls K C
  nB : NoAttr K C "_book"
  nN : NoAttr K C "_name"
  nM : NoAttr K C "_many"
  mgC : mg "Album" = some (.ref C)
  mkA : Mk K C (am 10)
  m : ∀ i, i < 13 → Meth K C (mNm.getD i "") (am i)
  f : ∀ i, i < 10 → Fun K (mNm.getD i "") (mQn.getD i "") (mSt.getD i (topSt 0)) (am i) (fm i)
  fd___init__ : FunD K "__init__" "Album.__init__" (defArgs st_Album___init__) (defBody st_Album___init__) (defScope st_Album___init__) [.str "", .non] [] (am 10) (fm 10)
  fd_put : FunD K "put" "Album.put" (defArgs st_Album_put) (defBody st_Album_put) (defScope st_Album_put) [.int 1] [] (am 11) (fm 11)
  fd_take : FunD K "take" "Album.take" (defArgs st_Album_take) (defBody st_Album_take) (defScope st_Album_take) [.int 1] [] (am 12) (fm 12)
  oc : HmQ.OwnCmp K C (am 9)
  oi : OwnIsi K C
structure TxtG (mg : Str → Option Value) : Prop where
  hinged : ∃ t, mg "HINGED" = some (.int 0 t)
  whole : ∃ t, mg "WHOLE" = some (.int 1 t)
section
variable {K : PySem.W.Frag} {mg : Str → Option Value} {C : Addr} {am : Nat → Addr} {fm : Nat → FuncData}
theorem bm__check_some (TM : TxtM K mg C am fm) : Binds K (fm 0) ps_Album__check_some [] := (show Fun K "_check_some" "Album._check_some" st_Album__check_some (am 0) (fm 0) from TM.f 0 (by decide)).binds fun _ _ _ _ _ _ us hl => match us, hl with | [_, _, _], _ => rfl
theorem bm__check_stamp (TM : TxtM K mg C am fm) : Binds K (fm 1) ps_Album__check_stamp [] := (show Fun K "_check_stamp" "Album._check_stamp" st_Album__check_stamp (am 1) (fm 1) from TM.f 1 (by decide)).binds fun _ _ _ _ _ _ us hl => match us, hl with | [_, _], _ => rfl
theorem bm_book (TM : TxtM K mg C am fm) : Binds K (fm 2) ps_Album_book [] := (show Fun K "book" "Album.book" st_Album_book (am 2) (fm 2) from TM.f 2 (by decide)).binds fun _ _ _ _ _ _ us hl => match us, hl with | [_], _ => rfl
theorem bm_called (TM : TxtM K mg C am fm) : Binds K (fm 3) ps_Album_called [] := (show Fun K "called" "Album.called" st_Album_called (am 3) (fm 3) from TM.f 3 (by decide)).binds fun _ _ _ _ _ _ us hl => match us, hl with | [_], _ => rfl
theorem bm_count_of (TM : TxtM K mg C am fm) : Binds K (fm 4) ps_Album_count_of [] := (show Fun K "count_of" "Album.count_of" st_Album_count_of (am 4) (fm 4) from TM.f 4 (by decide)).binds fun _ _ _ _ _ _ us hl => match us, hl with | [_, _], _ => rfl
theorem bm_all_of (TM : TxtM K mg C am fm) : Binds K (fm 5) ps_Album_all_of [] := (show Fun K "all_of" "Album.all_of" st_Album_all_of (am 5) (fm 5) from TM.f 5 (by decide)).binds fun _ _ _ _ _ _ us hl => match us, hl with | [_], _ => rfl
theorem bm_gaps (TM : TxtM K mg C am fm) : Binds K (fm 6) ps_Album_gaps [] := (show Fun K "gaps" "Album.gaps" st_Album_gaps (am 6) (fm 6) from TM.f 6 (by decide)).binds fun _ _ _ _ _ _ us hl => match us, hl with | [_, _], _ => rfl
theorem bm__fills (TM : TxtM K mg C am fm) : Binds K (fm 7) ps_Album__fills [] := (show Fun K "_fills" "Album._fills" st_Album__fills (am 7) (fm 7) from TM.f 7 (by decide)).binds fun _ _ _ _ _ _ us hl => match us, hl with | [_, _, _], _ => rfl
theorem bm_twin (TM : TxtM K mg C am fm) : Binds K (fm 8) ps_Album_twin [] := (show Fun K "twin" "Album.twin" st_Album_twin (am 8) (fm 8) from TM.f 8 (by decide)).binds fun _ _ _ _ _ _ us hl => match us, hl with | [_], _ => rfl
theorem bm___eq__ (TM : TxtM K mg C am fm) : Binds K (fm 9) ps_Album___eq__ [] := (show Fun K "__eq__" "Album.__eq__" st_Album___eq__ (am 9) (fm 9) from TM.f 9 (by decide)).binds fun _ _ _ _ _ _ us hl => match us, hl with | [_, _], _ => rfl
theorem bm___init___2 (TM : TxtM K mg C am fm) : ∃ ds, Vals ([.str "", .non] : List V) ds ∧ Binds K (fm 10) ps_Album___init__ ds := TM.fd___init__.binds1 (ps := ps_Album___init__) 2 0 (by simp) rfl (fun _ _ _ _ _ _ _ us its l1 l2 => match us, its, l1, l2 with | [_, _], [_, _], _, _ => ⟨_, rfl, rfl⟩)
theorem bm___init___3 (TM : TxtM K mg C am fm) : ∃ ds, Vals ([.non] : List V) ds ∧ Binds K (fm 10) ps_Album___init__ ds := TM.fd___init__.binds1 (ps := ps_Album___init__) 3 1 (by simp) rfl (fun _ _ _ _ _ _ _ us its l1 l2 => match us, its, l1, l2 with | [_, _, _], [_, _], _, _ => ⟨_, rfl, rfl⟩)
theorem bm___init___4 (TM : TxtM K mg C am fm) : ∃ ds, Vals ([] : List V) ds ∧ Binds K (fm 10) ps_Album___init__ ds := TM.fd___init__.binds1 (ps := ps_Album___init__) 4 2 (by simp) rfl (fun _ _ _ _ _ _ _ us its l1 l2 => match us, its, l1, l2 with | [_, _, _, _], [_, _], _, _ => ⟨_, rfl, rfl⟩)
theorem bm_put_2 (TM : TxtM K mg C am fm) : ∃ ds, Vals ([.int 1] : List V) ds ∧ Binds K (fm 11) ps_Album_put ds := TM.fd_put.binds1 (ps := ps_Album_put) 2 0 (by simp) rfl (fun _ _ _ _ _ _ _ us its l1 l2 => match us, its, l1, l2 with | [_, _], [_], _, _ => ⟨_, rfl, rfl⟩)
theorem bm_put_3 (TM : TxtM K mg C am fm) : ∃ ds, Vals ([] : List V) ds ∧ Binds K (fm 11) ps_Album_put ds := TM.fd_put.binds1 (ps := ps_Album_put) 3 1 (by simp) rfl (fun _ _ _ _ _ _ _ us its l1 l2 => match us, its, l1, l2 with | [_, _, _], [_], _, _ => ⟨_, rfl, rfl⟩)
theorem bm_take_2 (TM : TxtM K mg C am fm) : ∃ ds, Vals ([.int 1] : List V) ds ∧ Binds K (fm 12) ps_Album_take ds := TM.fd_take.binds1 (ps := ps_Album_take) 2 0 (by simp) rfl (fun _ _ _ _ _ _ _ us its l1 l2 => match us, its, l1, l2 with | [_, _], [_], _, _ => ⟨_, rfl, rfl⟩)
theorem bm_take_3 (TM : TxtM K mg C am fm) : ∃ ds, Vals ([] : List V) ds ∧ Binds K (fm 12) ps_Album_take ds := TM.fd_take.binds1 (ps := ps_Album_take) 3 1 (by simp) rfl (fun _ _ _ _ _ _ _ us its l1 l2 => match us, its, l1, l2 with | [_, _, _], [_], _, _ => ⟨_, rfl, rfl⟩)
end
end Dl

set_option Elab.async false
set_option maxRecDepth 100000
set_option maxHeartbeats 4000000
set_option linter.all false
set_option synthInstance.maxHeartbeats 4000000
set_option synthInstance.maxSize 10000

namespace Dl
open PySem PySem.Spec PyProof.Rows L2 RZ HmS Da
section
variable {P : Program} {w : World} {K : PySem.W.Frag} [HasT K] {mg : Str → Option Value} {base : Heap} {ad : Nat → Addr} {fd : Nat → FuncData}
/-! ### kinds -/
def isW : D → Bool
  | .int _ => true
  | _ => false
def inB (x : D) (a b : Int) : Bool := match x with
  | .int i => decide (a ≤ i) && decide (i ≤ b)
  | _ => false
def tupB (x : D) (a b : Int) : Bool := match x with
  | .tup xs => decide (a ≤ xs.length) && decide ((xs.length : Int) ≤ b)
  | _ => false
def kIsW (x : D) (φ : En → Prop) : Prop := x.ty.isSome = true ∧ φ (.d (.bl (isW x)))
def kIn (x a b : D) (φ : En → Prop) : Prop := ∃ i j : Int, a = .int i ∧ b = .int j ∧ x.ty.isSome = true ∧ φ (.d (.bl (inB x i j)))
def kTup (x a b : D) (φ : En → Prop) : Prop := ∃ i j : Int, a = .int i ∧ b = .int j ∧ x.ty.isSome = true ∧ φ (.d (.bl (tupB x i j)))
theorem ok_is_whole (T : Txt K mg ad fd) : FnOk P w K mg base CX0 1 (ad 4) (fd 4) ps_is_whole (spX K (sp1 kIsW)) := by
  refine (show Fun K "is_whole" "is_whole" st_is_whole (ad 4) (fd 4) from T.f 4 (by decide)).ok sc_is_whole (fun vs H Q E h => len1 h) (fun cdv A outer s H vs Q E hr h => ?_)
  have hu := hu_of hr
  have hu65 := hu65_of hr
  refine ⟨_, (pss_one (ps_ret (pe_and (pe_callB (r := rIsi K) call_isi (by rfl) (T.z 6 (by decide)) (by decide +kernel) (pa_cons (pv 0) (pa_cons (pe_bltn (v := .ty "int") (by rfl) (T.z 1 (by decide)) (by decide +kernel) rfl) pa_nil))) (pe_one (pe_not (pe_callB (r := rIsi K) call_isi (by rfl) (T.z 6 (by decide)) (by decide +kernel) (pa_cons (pv 0) (pa_cons (pe_bltn (v := .ty "bool") (by rfl) (T.z 7 (by decide)) (by decide +kernel) rfl) pa_nil)))))))), ?_⟩
  refine body1 h fun x φ hk => ?_
  rw [show st0 nm_is_whole [x] = [.d x] from rfl]
  obtain ⟨hx, hk⟩ := hk
  cases x with
  | ins C ns xs => exact absurd hx Bool.false_ne_true
  | int i => exact ⟨by decide, _, rfl, by decide, _, rfl, hk⟩
  | bl i => exact ⟨by decide, _, rfl, by decide, _, rfl, hk⟩
  | _ => exact ⟨by decide, _, rfl, hk⟩
theorem ok_is_whole_within (T : Txt K mg ad fd) : FnOk P w K mg base CX0 2 (ad 6) (fd 6) ps_is_whole_within (spX K (sp3 kIn)) := by
  refine (show Fun K "is_whole_within" "is_whole_within" st_is_whole_within (ad 6) (fd 6) from T.f 6 (by decide)).ok sc_is_whole_within (fun vs H Q E h => len3 h) (fun cdv A outer s H vs Q E hr h => ?_)
  have hu := hu_of hr
  have hu65 := hu65_of hr
  refine ⟨_, (pss_one (ps_ret (pe_and (pe_call (ok_is_whole (K := K) T) (hr.mono (by omega)) (by rfl) (T.g 4 (by decide)) (T.k 4 (by decide)) (bd_is_whole T) .nil pass0 (pa_cons (pv 0) pa_nil)) (pe_one (pe_chain op_le op_le (pv 1) (pv 0) (pv 2)))))), ?_⟩
  refine body3 h fun x y z φ hk => ?_
  rw [show st0 nm_is_whole_within [x, y, z] = [.d x, .d y, .d z] from rfl]
  obtain ⟨i, j, rfl, rfl, hx, hk⟩ := hk
  (try simp only [dVar, dC, dNil, dCons, dTup, dLst, dOp, onI, dI, dI0, dUn, dEq, dNe, dIxT, dIxL, dIxLv, dAndV, dOrV, dNotV, dB, dAnd, dOr, dNot, dYes, dIf, dChain, dCB, dLenR, dLenv, dListR, dTupR, dMxR, dMnR, dIntR, dIsi, dNoPart, dPart, dSl, dCatA, dCat, dRep, dIn, dInD, dIsN, D.isN, dCall, dCallP, dCallS, dPen0, dTruv, dRg1, dRg2, dLstRg, dTupRg, dLenSet, wf, wb, wi, wt, wl, vD, isSc, dSeq, dNext, dRet, dRetv, dRetN, dIfS, dAsg, dAsgT, dgTup, dgCons, dPar, dApp, dExt, dSetL, dPopAt, dRse, dNever, dDrop, dITup, dILst, dIRng1, dIRng2, dIDn, dIEnT, dIEnL, dIZip, po, poP, sp0, sp1, sp2, sp3, sp4, sp5, pp0, pp1, pp2, pp3, pp4, mo0, mo1, mo2, mo3, dBrw, immE, dMethO, dMake, dFSet, dFPut, fputK, dFDel, dGet2X, dOrT, dIStr, dLeStr, dAttr, dMeth, List.set_cons_zero, List.set_cons_succ, List.getElem?_cons_zero, List.getElem?_cons_succ, List.all_nil, List.map_nil, List.append_nil, List.cons_append, List.nil_append, true_and, ite_true, if_true])
  refine ⟨hx, ?_⟩
  cases x with
  | int n =>
    refine ifT rfl ?_
    (try simp only [dVar, dC, dNil, dCons, dTup, dLst, dOp, onI, dI, dI0, dUn, dEq, dNe, dIxT, dIxL, dIxLv, dAndV, dOrV, dNotV, dB, dAnd, dOr, dNot, dYes, dIf, dChain, dCB, dLenR, dLenv, dListR, dTupR, dMxR, dMnR, dIntR, dIsi, dNoPart, dPart, dSl, dCatA, dCat, dRep, dIn, dInD, dIsN, D.isN, dCall, dCallP, dCallS, dPen0, dTruv, dRg1, dRg2, dLstRg, dTupRg, dLenSet, wf, wb, wi, wt, wl, vD, isSc, dSeq, dNext, dRet, dRetv, dRetN, dIfS, dAsg, dAsgT, dgTup, dgCons, dPar, dApp, dExt, dSetL, dPopAt, dRse, dNever, dDrop, dITup, dILst, dIRng1, dIRng2, dIDn, dIEnT, dIEnL, dIZip, po, poP, sp0, sp1, sp2, sp3, sp4, sp5, pp0, pp1, pp2, pp3, pp4, mo0, mo1, mo2, mo3, dBrw, immE, dMethO, dMake, dFSet, dFPut, fputK, dFDel, dGet2X, dOrT, dIStr, dLeStr, dAttr, dMeth, List.set_cons_zero, List.set_cons_succ, List.getElem?_cons_zero, List.getElem?_cons_succ, List.all_nil, List.map_nil, List.append_nil, List.cons_append, List.nil_append, true_and, ite_true, if_true])
    refine ifB (fun c => ?_) (fun c => ?_)
    · rw [inB, c, Bool.true_and] at hk
      exact hk
    · rw [inB, c, Bool.false_and] at hk
      exact hk
  | _ => exact hk
theorem ok_is_tuple (T : Txt K mg ad fd) : FnOk P w K mg base CX0 1 (ad 8) (fd 8) ps_is_tuple (spX K (sp3 kTup)) := by
  refine (show Fun K "is_tuple" "is_tuple" st_is_tuple (ad 8) (fd 8) from T.f 8 (by decide)).ok sc_is_tuple (fun vs H Q E h => len3 h) (fun cdv A outer s H vs Q E hr h => ?_)
  have hu := hu_of hr
  have hu65 := hu65_of hr
  refine ⟨_, (pss_one (ps_ret (pe_and (pe_callB (r := rIsi K) call_isi (by rfl) (T.z 6 (by decide)) (by decide +kernel) (pa_cons (pv 0) (pa_cons (pe_bltn (v := .ty "tuple") (by rfl) (T.z 4 (by decide)) (by decide +kernel) rfl) pa_nil))) (pe_one (pe_chain op_le op_le (pv 1) (pe_callB (r := Da.rLen K) cl_len (by rfl) (T.z 0 (by decide)) (by decide +kernel) (pa_cons (pv 0) pa_nil)) (pv 2)))))), ?_⟩
  refine body3 h fun x y z φ hk => ?_
  rw [show st0 nm_is_tuple [x, y, z] = [.d x, .d y, .d z] from rfl]
  obtain ⟨i, j, rfl, rfl, hx, hk⟩ := hk
  cases x with
  | ins C ns xs => exact absurd hx Bool.false_ne_true
  | tup xs =>
    (try simp only [dVar, dC, dNil, dCons, dTup, dLst, dOp, onI, dI, dI0, dUn, dEq, dNe, dIxT, dIxL, dIxLv, dAndV, dOrV, dNotV, dB, dAnd, dOr, dNot, dYes, dIf, dChain, dCB, dLenR, dLenv, dListR, dTupR, dMxR, dMnR, dIntR, dIsi, dNoPart, dPart, dSl, dCatA, dCat, dRep, dIn, dInD, dIsN, D.isN, dCall, dCallP, dCallS, dPen0, dTruv, dRg1, dRg2, dLstRg, dTupRg, dLenSet, wf, wb, wi, wt, wl, vD, isSc, dSeq, dNext, dRet, dRetv, dRetN, dIfS, dAsg, dAsgT, dgTup, dgCons, dPar, dApp, dExt, dSetL, dPopAt, dRse, dNever, dDrop, dITup, dILst, dIRng1, dIRng2, dIDn, dIEnT, dIEnL, dIZip, po, poP, sp0, sp1, sp2, sp3, sp4, sp5, pp0, pp1, pp2, pp3, pp4, mo0, mo1, mo2, mo3, dBrw, immE, dMethO, dMake, dFSet, dFPut, fputK, dFDel, dGet2X, dOrT, dIStr, dLeStr, dAttr, dMeth, List.set_cons_zero, List.set_cons_succ, List.getElem?_cons_zero, List.getElem?_cons_succ, List.all_nil, List.map_nil, List.append_nil, List.cons_append, List.nil_append, true_and, ite_true, if_true])
    refine ⟨by decide, _, rfl, ifT rfl ?_⟩
    (try simp only [dVar, dC, dNil, dCons, dTup, dLst, dOp, onI, dI, dI0, dUn, dEq, dNe, dIxT, dIxL, dIxLv, dAndV, dOrV, dNotV, dB, dAnd, dOr, dNot, dYes, dIf, dChain, dCB, dLenR, dLenv, dListR, dTupR, dMxR, dMnR, dIntR, dIsi, dNoPart, dPart, dSl, dCatA, dCat, dRep, dIn, dInD, dIsN, D.isN, dCall, dCallP, dCallS, dPen0, dTruv, dRg1, dRg2, dLstRg, dTupRg, dLenSet, wf, wb, wi, wt, wl, vD, isSc, dSeq, dNext, dRet, dRetv, dRetN, dIfS, dAsg, dAsgT, dgTup, dgCons, dPar, dApp, dExt, dSetL, dPopAt, dRse, dNever, dDrop, dITup, dILst, dIRng1, dIRng2, dIDn, dIEnT, dIEnL, dIZip, po, poP, sp0, sp1, sp2, sp3, sp4, sp5, pp0, pp1, pp2, pp3, pp4, mo0, mo1, mo2, mo3, dBrw, immE, dMethO, dMake, dFSet, dFPut, fputK, dFDel, dGet2X, dOrT, dIStr, dLeStr, dAttr, dMeth, List.set_cons_zero, List.set_cons_succ, List.getElem?_cons_zero, List.getElem?_cons_succ, List.all_nil, List.map_nil, List.append_nil, List.cons_append, List.nil_append, true_and, ite_true, if_true])
    refine ifB (fun c => ?_) (fun c => ?_)
    · rw [tupB, c, Bool.true_and] at hk
      exact hk
    · rw [tupB, c, Bool.false_and] at hk
      exact hk
  | _ =>
    (try simp only [dVar, dC, dNil, dCons, dTup, dLst, dOp, onI, dI, dI0, dUn, dEq, dNe, dIxT, dIxL, dIxLv, dAndV, dOrV, dNotV, dB, dAnd, dOr, dNot, dYes, dIf, dChain, dCB, dLenR, dLenv, dListR, dTupR, dMxR, dMnR, dIntR, dIsi, dNoPart, dPart, dSl, dCatA, dCat, dRep, dIn, dInD, dIsN, D.isN, dCall, dCallP, dCallS, dPen0, dTruv, dRg1, dRg2, dLstRg, dTupRg, dLenSet, wf, wb, wi, wt, wl, vD, isSc, dSeq, dNext, dRet, dRetv, dRetN, dIfS, dAsg, dAsgT, dgTup, dgCons, dPar, dApp, dExt, dSetL, dPopAt, dRse, dNever, dDrop, dITup, dILst, dIRng1, dIRng2, dIDn, dIEnT, dIEnL, dIZip, po, poP, sp0, sp1, sp2, sp3, sp4, sp5, pp0, pp1, pp2, pp3, pp4, mo0, mo1, mo2, mo3, dBrw, immE, dMethO, dMake, dFSet, dFPut, fputK, dFDel, dGet2X, dOrT, dIStr, dLeStr, dAttr, dMeth, List.set_cons_zero, List.set_cons_succ, List.getElem?_cons_zero, List.getElem?_cons_succ, List.all_nil, List.map_nil, List.append_nil, List.cons_append, List.nil_append, true_and, ite_true, if_true])
    exact ⟨by decide, _, rfl, hk⟩
def kOwn (x : D) (φ : En → Prop) : Prop := x.ty.isSome = true ∧ φ (.d (.bl (inB x 0 5)))
/-! ### owners, deals -/
def owD (os : List Int) : D := .tup (os.map .int)
def mvD (m : Mv) : D := .tup [.int m.1, .int m.2.1, .int m.2.2]
def dlD (d : List Mv) : D := .tup (d.map mvD)
def dsD (ds : List (List Mv)) : D := .tup (ds.map dlD)
def kOwns (x : D) (φ : En → Prop) : Prop := ∃ os, x = owD os ∧ OwOk os ∧ φ (.d (.bl true))
def kMvd (x : D) (φ : En → Prop) : Prop := ∃ d : List Mv, x = dlD d ∧ d.length ≤ 100 ∧ φ (.lst ((d.map (·.1)).map .int))
end
end Dl

set_option Elab.async false
set_option maxRecDepth 100000
set_option maxHeartbeats 4000000
set_option linter.all false
set_option synthInstance.maxHeartbeats 4000000
set_option synthInstance.maxSize 10000

namespace Dl
open PySem PySem.Spec PyProof.Rows L2 RZ HmS Da
section
variable {P : Program} {w : World} {K : PySem.W.Frag} [HasT K] {mg : Str → Option Value} {base : Heap} {ad : Nat → Addr} {fd : Nat → FuncData}
def kMove (o x : D) (φ : En → Prop) : Prop := ∃ os m, o = owD os ∧ x = mvD m ∧ MvOk os m ∧ os.length ≤ 12 ∧ φ (.d (.bl true))
theorem inB_of {i a b : Int} (h : a ≤ i) (h' : i ≤ b) : inB (.int i) a b = true := by simp only [inB, Bool.and_eq_true, decide_eq_true_eq]; exact ⟨h, h'⟩
theorem fit_int (i : Int) : (D.int i).fit = true := by simp [D.fit, D.flat, D.py, SeqAt.shaped, PyData.canLay0, PyData.depth]
theorem eqv_int (i j : Int) : (D.int i).eqv (.int j) = decide (i = j) := by simp only [D.eqv, D.py, PyData.eqv]; exact Bool.beq_eq_decide_eq ..
def kOnce (x : D) (φ : En → Prop) : Prop := ∃ is : List Int, x = .lst (is.map .int) ∧ is.Nodup ∧ is.length ≤ 4000 ∧ φ (.d (.bl true))
def kDeal (o x : D) (φ : En → Prop) : Prop := ∃ os d, o = owD os ∧ x = dlD d ∧ DlOk os d ∧ os.length ≤ 12 ∧ φ (.d (.bl true))
theorem tupB_of {xs : List D} {a b : Int} (h : a ≤ xs.length) (h' : (xs.length : Int) ≤ b) : tupB (.tup xs) a b = true := by simp only [tupB, Bool.and_eq_true, decide_eq_true_eq]; exact ⟨h, h'⟩
theorem rep_bls (n : Nat) : List.replicate n (D.bl true) = (List.replicate n true).map D.bl ∧ (List.replicate n true).all id = true := by
  refine ⟨by rw [List.map_replicate], ?_⟩
  rw [List.all_replicate]
  simp
def kDoneT (o x : D) (φ : En → Prop) : Prop := ∃ os ds, o = owD os ∧ x = dsD ds ∧ (∀ d ∈ ds, ∀ m ∈ d, 0 ≤ m.1 ∧ m.1 < os.length) ∧ φ (.d (owD (doneM os ds)))
def kDoneL (o x : D) (φ : En → Prop) : Prop := ∃ (os : List Int) (ds : List (List Mv)), o = owD os ∧ x = .lst (ds.map dlD) ∧ (∀ d ∈ ds, ∀ m ∈ d, 0 ≤ m.1 ∧ m.1 < os.length) ∧ φ (.d (owD (doneM os ds)))
theorem ixN_ok {n : Nat} {i : Int} (h0 : 0 ≤ i) (h1 : i < n) : ixN n i = some i.toNat := by
  unfold ixN
  rw [if_pos h0, if_pos h1]
end
end Dl

set_option Elab.async false
set_option maxRecDepth 100000
set_option maxHeartbeats 4000000
set_option linter.all false
set_option synthInstance.maxHeartbeats 4000000
set_option synthInstance.maxSize 10000

namespace Dl
open PySem PySem.Spec PyProof.Rows L2 RZ HmS Da
section
variable {P : Program} {w : World} {K : PySem.W.Frag} [HasT K] {mg : Str → Option Value} {base : Heap} {ad : Nat → Addr} {fd : Nat → FuncData}
theorem at_map {α β : Type} {xs : List α} {g : α → β} {i : Nat} {y : β} (h : (xs.map g)[i]? = some y) : ∃ d, xs[i]? = some d ∧ y = g d := by
  rw [List.getElem?_map] at h
  cases e : xs[i]? with
  | none => rw [e] at h; cases h
  | some d =>
    rw [e] at h
    cases h
    exact ⟨d, rfl, rfl⟩
theorem dl_at {ds : List (List Mv)} {i : Nat} {d : List Mv} (h : ds[i]? = some d) : dl ds i = d ∧ i < ds.length := by
  refine ⟨?_, (List.getElem?_eq_some_iff.mp h).1⟩
  unfold dl
  rw [List.getD_eq_getElem?_getD, h]
  rfl
theorem dl_get {ds : List (List Mv)} {i : Nat} (h : i < ds.length) : ds[i]? = some (dl ds i) := by
  unfold dl
  rw [List.getD_eq_getElem?_getD, List.getElem?_eq_getElem h]
  rfl
theorem atI_ok {α : Type} {xs : List α} {i : Nat} {x : α} (h : xs[i]? = some x) : atI xs (i : Int) = some x := by
  unfold atI
  rw [ixN_ok (by omega) (by have := (List.getElem?_eq_some_iff.mp h).1; omega), Int.toNat_natCast]
  exact h
structure In2 (os : List Int) (ds : List (List Mv)) : Prop where
  ow : OwOk os
  vd : DlsOk os ds
  l : ds.length ≤ 10
theorem In2.ln {os : List Int} {ds : List (List Mv)} (h : In2 os ds) : ∀ d ∈ ds, d.length ≤ 6 := dlsOk_ln h.vd
theorem cutL_to {α : Type} {xs : List α} {n : Nat} : cutL xs none (some (n : Int)) = xs.take n := by
  unfold cutL
  rw [HT.sIx_none, HT.sIx_nat, List.drop_zero, Nat.sub_zero]
  by_cases h : n ≤ xs.length
  · rw [Nat.min_eq_left h]
  · rw [Nat.min_eq_right (by omega), List.take_length, List.take_of_length_le (by omega)]
def kChkD (o x : D) (φ : En → Prop) : Prop := ∃ os ds, o = owD os ∧ x = dsD ds ∧ In2 os ds ∧ φ (.d .non)
def kChkF (o x y : D) (φ : En → Prop) : Prop := ∃ os ds s, o = owD os ∧ x = dsD ds ∧ y = .int s ∧ In2 os ds ∧ 0 ≤ s ∧ s < os.length ∧ φ (.d .non)
def kChkP (o x y z : D) (φ : En → Prop) : Prop := ∃ os ds s, ∃ p : Nat, o = owD os ∧ x = dsD ds ∧ y = .int s ∧ z = .int p ∧ In2 os ds ∧ 0 ≤ s ∧ s < os.length ∧ p < ds.length ∧ φ (.d .non)
def kBehind (o x y : D) (φ : En → Prop) : Prop := ∃ os ds, ∃ n : Nat, o = owD os ∧ x = dsD ds ∧ y = .int n ∧ In2 os ds ∧ n ≤ ds.length ∧ φ (.d (owD (doneM os (ds.take n))))
def kDls (o x : D) (φ : En → Prop) : Prop := ∃ os ds, o = owD os ∧ x = dsD ds ∧ In2 os ds ∧ φ (.d (.bl true))
end
end Dl

set_option Elab.async false
set_option maxRecDepth 100000
set_option maxHeartbeats 4000000
set_option linter.all false
set_option synthInstance.maxHeartbeats 4000000
set_option synthInstance.maxSize 10000

namespace Dl
open PySem PySem.Spec PyProof.Rows L2 RZ HmS Da
section
variable {P : Program} {w : World} {K : PySem.W.Frag} [HasT K] {mg : Str → Option Value} {base : Heap} {ad : Nat → Addr} {fd : Nat → FuncData}
/-! ### rising -/
def risI : List Int → Bool
  | a :: b :: r => decide (a < b) && risI (b :: r)
  | _ => true
def prs : List Int → List (Int × Int)
  | a :: b :: r => (a, b) :: prs (b :: r)
  | _ => []
theorem risI_prs : ∀ is : List Int, risI is = (prs is).all fun p => decide (p.1 < p.2)
  | [] => rfl
  | [_] => rfl
  | a :: b :: r => by
    show (decide (a < b) && risI (b :: r)) = (decide (a < b) && (prs (b :: r)).all _)
    rw [risI_prs (b :: r)]
def prD (p : Int × Int) : D := .tup [.int p.1, .int p.2]
theorem zip_prs : ∀ is : List Int, zipD (is.map .int) ((is.map D.int).drop 1) = (prs is).map prD
  | [] => rfl
  | [_] => rfl
  | a :: b :: r => by
    show D.tup [.int a, .int b] :: zipD ((b :: r).map .int) (r.map D.int) = prD (a, b) :: (prs (b :: r)).map prD
    have := zip_prs (b :: r)
    rw [show ((b :: r).map D.int).drop 1 = r.map D.int from rfl] at this
    rw [this]
    rfl
theorem prs_len : ∀ is : List Int, (prs is).length ≤ is.length
  | [] => Nat.le_refl _
  | [_] => Nat.zero_le _
  | a :: b :: r => by
    have := prs_len (b :: r)
    simp only [prs, List.length_cons] at this ⊢
    omega
theorem cutL_from {α : Type} {xs : List α} {n : Nat} : cutL xs (some (n : Int)) none = xs.drop n := by
  unfold cutL
  rw [HT.sIx_none, HT.sIx_nat]
  by_cases h : n ≤ xs.length
  · rw [Nat.min_eq_left h, List.take_of_length_le (by rw [List.length_drop]; omega)]
  · rw [Nat.min_eq_right (by omega), List.drop_length, List.drop_of_length_le (by omega), List.take_nil]
theorem drop_last {α : Type} : ∀ xs : List α, xs.drop (xs.length - 1) = xs.getLast?.toList
  | [] => rfl
  | [_] => rfl
  | a :: b :: r => by
    rw [List.getLast?_cons_cons, ← drop_last (b :: r)]
    rfl
theorem cutL_last {α : Type} {xs : List α} : cutL xs (some (-1)) none = xs.getLast?.toList := by
  unfold cutL
  rw [HT.sIx_none]
  have : HT.sIx xs.length 0 (some (-1)) = xs.length - 1 := by
    show (if (-1 : Int) < 0 then ((-1 : Int) + (xs.length : Int)).toNat else min (-1 : Int).toNat xs.length) = _
    rw [if_pos (by omega)]
    omega
  rw [this, drop_last, List.take_of_length_le (by cases e : xs.getLast? with
    | none => exact Nat.zero_le _
    | some y =>
      cases xs with
      | nil => cases e
      | cons a r => simp only [Option.toList_some, List.length_cons, List.length_nil]; omega)]
def kRis (x : D) (φ : En → Prop) : Prop := ∃ is : List Int, x = .tup (is.map .int) ∧ is.length ≤ 1000 ∧ φ (.d (.bl (risI is)))
theorem ok_is_rising (T : Txt K mg ad fd) : FnOk P w K mg base CX0 1 (ad 9) (fd 9) ps_is_rising (spX K (sp1 kRis)) := by
  refine (show Fun K "is_rising" "is_rising" st_is_rising (ad 9) (fd 9) from T.f 9 (by decide)).ok sc_is_rising (fun vs H Q E h => len1 h) (fun cdv A outer s H vs Q E hr h => ?_)
  have hu := hu_of hr
  have hu65 := hu65_of hr
  refine ⟨_, (pss_one (ps_ret (pe_callB (r := rAll K) (cr_all rfl) (by rfl) (T.z 9 (by decide)) (by decide +kernel) (pa_cons (pe_lc (own := [("ahead", 1), ("behind", 2)]) (g := (gTup K 2 (gCons (gName 1) (gCons (gName 2) gNil)))) (tt := tYes) rfl sc_is_rising.nd (pi_zipAK (K := K) (by rfl) (T.z 11 (by decide)) (pa_cons (pv 0) (pa_cons (pe_slice (r := rSlA K) sl_tupA (pv 0) (po_some pe_int) po_none) pa_nil)))
      (blkOk_by (N := nm_is_rising) (sc := defScope st_is_rising) (by decide +kernel)) (fun _ _ _ _ _ => by exact (pg_tupK (K := K) (n := 2) rfl (pgs_cons (pg_name (i := 1) sc_is_rising.nd rfl (Or.inl rfl)) (pgs_cons (pg_name (i := 2) sc_is_rising.nd rfl (Or.inl rfl)) pgs_nil)))) (fun _ _ _ _ _ => pts_nil)
      (fun _ _ _ _ _ => by exact (pe_cmpR op_lt (pv 1) (pv 2) (nomark _)))) pa_nil)))), ?_⟩
  refine body1 h fun x φ hk => ?_
  rw [show st0 nm_is_rising [x] = [.d x, .no, .no] from rfl]
  obtain ⟨is, rfl, hl, hk⟩ := hk
  have pl := prs_len is
  (try simp only [dVar, dC, dNil, dCons, dTup, dLst, dOp, onI, dI, dI0, dUn, dEq, dNe, dIxT, dIxL, dIxLv, dAndV, dOrV, dNotV, dB, dAnd, dOr, dNot, dYes, dIf, dChain, dCB, dLenR, dLenv, dListR, dTupR, dMxR, dMnR, dIntR, dIsi, dNoPart, dPart, dSl, dCatA, dCat, dRep, dIn, dInD, dIsN, D.isN, dCall, dCallP, dCallS, dPen0, dTruv, dRg1, dRg2, dLstRg, dTupRg, dLenSet, wf, wb, wi, wt, wl, vD, isSc, dSeq, dNext, dRet, dRetv, dRetN, dIfS, dAsg, dAsgT, dgTup, dgCons, dPar, dApp, dExt, dSetL, dPopAt, dRse, dNever, dDrop, dITup, dILst, dIRng1, dIRng2, dIDn, dIEnT, dIEnL, dIZip, po, poP, sp0, sp1, sp2, sp3, sp4, sp5, pp0, pp1, pp2, pp3, pp4, mo0, mo1, mo2, mo3, dBrw, immE, dMethO, dMake, dFSet, dFPut, fputK, dFDel, dGet2X, dOrT, dIStr, dLeStr, dAttr, dMeth, List.set_cons_zero, List.set_cons_succ, List.getElem?_cons_zero, List.getElem?_cons_succ, List.all_nil, List.map_nil, List.append_nil, List.cons_append, List.nil_append, true_and, ite_true, if_true])
  refine dLc_pure (items := (prs is).map prD) (Γ1 := [.d (.tup (is.map .int)), .no, .no]) (Γw := [.d (.tup (is.map .int)), .no, .no]) (fun x => match x with | .tup [.int a, .int b] => .bl (decide (a < b)) | _ => .non) rfl (fun ψ h => ?_) rfl rfl (by rw [List.length_map]; omega) (fun d hd ψ q => ?_) ?_
  · (try simp only [dVar, dC, dNil, dCons, dTup, dLst, dOp, onI, dI, dI0, dUn, dEq, dNe, dIxT, dIxL, dIxLv, dAndV, dOrV, dNotV, dB, dAnd, dOr, dNot, dYes, dIf, dChain, dCB, dLenR, dLenv, dListR, dTupR, dMxR, dMnR, dIntR, dIsi, dNoPart, dPart, dSl, dCatA, dCat, dRep, dIn, dInD, dIsN, D.isN, dCall, dCallP, dCallS, dPen0, dTruv, dRg1, dRg2, dLstRg, dTupRg, dLenSet, wf, wb, wi, wt, wl, vD, isSc, dSeq, dNext, dRet, dRetv, dRetN, dIfS, dAsg, dAsgT, dgTup, dgCons, dPar, dApp, dExt, dSetL, dPopAt, dRse, dNever, dDrop, dITup, dILst, dIRng1, dIRng2, dIDn, dIEnT, dIEnL, dIZip, po, poP, sp0, sp1, sp2, sp3, sp4, sp5, pp0, pp1, pp2, pp3, pp4, mo0, mo1, mo2, mo3, dBrw, immE, dMethO, dMake, dFSet, dFPut, fputK, dFDel, dGet2X, dOrT, dIStr, dLeStr, dAttr, dMeth, List.set_cons_zero, List.set_cons_succ, List.getElem?_cons_zero, List.getElem?_cons_succ, List.all_nil, List.map_nil, List.append_nil, List.cons_append, List.nil_append, true_and, ite_true, if_true])
    have e : cutL (is.map D.int) (some 1) none = (is.map D.int).drop 1 := cutL_from (n := 1)
    rw [e, zip_prs]
    exact h
  · obtain ⟨p, hp, rfl⟩ := List.mem_map.mp hd
    (try simp only [dVar, dC, dNil, dCons, dTup, dLst, dOp, onI, dI, dI0, dUn, dEq, dNe, dIxT, dIxL, dIxLv, dAndV, dOrV, dNotV, dB, dAnd, dOr, dNot, dYes, dIf, dChain, dCB, dLenR, dLenv, dListR, dTupR, dMxR, dMnR, dIntR, dIsi, dNoPart, dPart, dSl, dCatA, dCat, dRep, dIn, dInD, dIsN, D.isN, dCall, dCallP, dCallS, dPen0, dTruv, dRg1, dRg2, dLstRg, dTupRg, dLenSet, wf, wb, wi, wt, wl, vD, isSc, dSeq, dNext, dRet, dRetv, dRetN, dIfS, dAsg, dAsgT, dgTup, dgCons, dPar, dApp, dExt, dSetL, dPopAt, dRse, dNever, dDrop, dITup, dILst, dIRng1, dIRng2, dIDn, dIEnT, dIEnL, dIZip, po, poP, sp0, sp1, sp2, sp3, sp4, sp5, pp0, pp1, pp2, pp3, pp4, mo0, mo1, mo2, mo3, dBrw, immE, dMethO, dMake, dFSet, dFPut, fputK, dFDel, dGet2X, dOrT, dIStr, dLeStr, dAttr, dMeth, List.set_cons_zero, List.set_cons_succ, List.getElem?_cons_zero, List.getElem?_cons_succ, List.all_nil, List.map_nil, List.append_nil, List.cons_append, List.nil_append, true_and, ite_true, if_true, prD])
    exact ⟨rfl, q _ _ rfl rfl⟩
  · (try simp only [dVar, dC, dNil, dCons, dTup, dLst, dOp, onI, dI, dI0, dUn, dEq, dNe, dIxT, dIxL, dIxLv, dAndV, dOrV, dNotV, dB, dAnd, dOr, dNot, dYes, dIf, dChain, dCB, dLenR, dLenv, dListR, dTupR, dMxR, dMnR, dIntR, dIsi, dNoPart, dPart, dSl, dCatA, dCat, dRep, dIn, dInD, dIsN, D.isN, dCall, dCallP, dCallS, dPen0, dTruv, dRg1, dRg2, dLstRg, dTupRg, dLenSet, wf, wb, wi, wt, wl, vD, isSc, dSeq, dNext, dRet, dRetv, dRetN, dIfS, dAsg, dAsgT, dgTup, dgCons, dPar, dApp, dExt, dSetL, dPopAt, dRse, dNever, dDrop, dITup, dILst, dIRng1, dIRng2, dIDn, dIEnT, dIEnL, dIZip, po, poP, sp0, sp1, sp2, sp3, sp4, sp5, pp0, pp1, pp2, pp3, pp4, mo0, mo1, mo2, mo3, dBrw, immE, dMethO, dMake, dFSet, dFPut, fputK, dFDel, dGet2X, dOrT, dIStr, dLeStr, dAttr, dMeth, List.set_cons_zero, List.set_cons_succ, List.getElem?_cons_zero, List.getElem?_cons_succ, List.all_nil, List.map_nil, List.append_nil, List.cons_append, List.nil_append, true_and, ite_true, if_true])
    refine ⟨(prs is).map fun p => decide (p.1 < p.2), by rw [List.map_map, List.map_map]; rfl, ?_⟩
    rw [List.all_map]
    rw [risI_prs] at hk
    exact hk
def intOf : D → Int
  | .int i => i
  | _ => 0
def risW (x : D) (a b : Int) : Bool := match x with
  | .tup xs => xs.all (fun y => inB y a b) && risI (xs.map intOf)
  | _ => false
theorem inB_ints {a b : Int} : ∀ {xs : List D}, xs.all (fun y => inB y a b) = true → xs = (xs.map intOf).map .int
  | [], _ => rfl
  | x :: r, h => by
    rw [List.all_cons, Bool.and_eq_true] at h
    rw [List.map_cons, List.map_cons, ← inB_ints h.2]
    cases x <;> first | rfl | exact absurd h.1 Bool.false_ne_true
def kRisW (x y z : D) (φ : En → Prop) : Prop := ∃ a b : Int, y = .int a ∧ z = .int b ∧ x.ty.isSome = true ∧ (∀ xs, x = .tup xs → xs.length ≤ 1000 ∧ ∀ u ∈ xs, u.ty.isSome = true) ∧ φ (.d (.bl (risW x a b)))
theorem ok_is_rising_within (T : Txt K mg ad fd) : FnOk P w K mg base CX0 3 (ad 10) (fd 10) ps_is_rising_within (spX K (sp3 kRisW)) := by
  refine (show Fun K "is_rising_within" "is_rising_within" st_is_rising_within (ad 10) (fd 10) from T.f 10 (by decide)).ok sc_is_rising_within (fun vs H Q E h => len3 h) (fun cdv A outer s H vs Q E hr h => ?_)
  have hu := hu_of hr
  have hu65 := hu65_of hr
  refine ⟨_, (pss_cons (ps_if (PW.pt (pw_or (pt_not (pt_val (pe_callB (r := rIsi K) call_isi (by rfl) (T.z 6 (by decide)) (by decide +kernel) (pa_cons (pv 0) (pa_cons (pe_bltn (v := .ty "tuple") (by rfl) (T.z 4 (by decide)) (by decide +kernel) rfl) pa_nil))))) (pw_or1 (pt_not (pt_val (pe_callB (r := rAll K) (cr_all rfl) (by rfl) (T.z 9 (by decide)) (by decide +kernel) (pa_cons (pe_lc (own := [("part", 3)]) (g := (gName 3)) (tt := tYes) rfl sc_is_rising_within.nd (pi_tupK (K := K) (pv 0))
      (blkOk_by (N := nm_is_rising_within) (sc := defScope st_is_rising_within) (by decide +kernel)) (fun _ _ _ _ _ => by exact (pg_name (i := 3) sc_is_rising_within.nd rfl (Or.inl rfl))) (fun _ _ _ _ _ => pts_nil)
      (fun _ _ _ _ _ => by exact (pe_call (ok_is_whole_within (K := K) T) (hr.mono (by omega)) (by rfl) (T.g 6 (by decide)) (T.k 6 (by decide)) (bd_is_whole_within T) .nil pass0 (pa_cons (pv 3) (pa_cons (pv 1) (pa_cons (pv 2) pa_nil)))))) pa_nil)))))))
    (pss_one (ps_ret pe_bl))
    pss_nil)
  (pss_one (ps_ret (pe_call (ok_is_rising (K := K) T) (hr.mono (by omega)) (by rfl) (T.g 9 (by decide)) (T.k 9 (by decide)) (bd_is_rising T) .nil pass0 (pa_cons (pv 0) pa_nil))))), ?_⟩
  refine body3 h fun x y z φ hk => ?_
  rw [show st0 nm_is_rising_within [x, y, z] = [.d x, .d y, .d z, .no] from rfl]
  obtain ⟨a, b, rfl, rfl, hx, hp, hk⟩ := hk
  cases x with
  | ins C ns xs => exact absurd hx Bool.false_ne_true
  | tup xs =>
    obtain ⟨hl, hy⟩ := hp xs rfl
    refine ⟨by decide, true, rfl, ?_⟩
    (try simp only [dVar, dC, dNil, dCons, dTup, dLst, dOp, onI, dI, dI0, dUn, dEq, dNe, dIxT, dIxL, dIxLv, dAndV, dOrV, dNotV, dB, dAnd, dOr, dNot, dYes, dIf, dChain, dCB, dLenR, dLenv, dListR, dTupR, dMxR, dMnR, dIntR, dIsi, dNoPart, dPart, dSl, dCatA, dCat, dRep, dIn, dInD, dIsN, D.isN, dCall, dCallP, dCallS, dPen0, dTruv, dRg1, dRg2, dLstRg, dTupRg, dLenSet, wf, wb, wi, wt, wl, vD, isSc, dSeq, dNext, dRet, dRetv, dRetN, dIfS, dAsg, dAsgT, dgTup, dgCons, dPar, dApp, dExt, dSetL, dPopAt, dRse, dNever, dDrop, dITup, dILst, dIRng1, dIRng2, dIDn, dIEnT, dIEnL, dIZip, po, poP, sp0, sp1, sp2, sp3, sp4, sp5, pp0, pp1, pp2, pp3, pp4, mo0, mo1, mo2, mo3, dBrw, immE, dMethO, dMake, dFSet, dFPut, fputK, dFDel, dGet2X, dOrT, dIStr, dLeStr, dAttr, dMeth, List.set_cons_zero, List.set_cons_succ, List.getElem?_cons_zero, List.getElem?_cons_succ, List.all_nil, List.map_nil, List.append_nil, List.cons_append, List.nil_append, true_and, ite_true, if_true, Bool.not_true, Bool.not_false, Bool.false_eq_true, if_false])
    refine dLc_pure (items := xs) (Γ1 := [.d (.tup xs), .d (.int a), .d (.int b), .no]) (Γw := [.d (.tup xs), .d (.int a), .d (.int b), .no]) (fun y => .bl (inB y a b)) rfl (fun ψ h => h) rfl rfl (by omega) (fun d hd ψ q => ?_) ?_
    · (try simp only [dVar, dC, dNil, dCons, dTup, dLst, dOp, onI, dI, dI0, dUn, dEq, dNe, dIxT, dIxL, dIxLv, dAndV, dOrV, dNotV, dB, dAnd, dOr, dNot, dYes, dIf, dChain, dCB, dLenR, dLenv, dListR, dTupR, dMxR, dMnR, dIntR, dIsi, dNoPart, dPart, dSl, dCatA, dCat, dRep, dIn, dInD, dIsN, D.isN, dCall, dCallP, dCallS, dPen0, dTruv, dRg1, dRg2, dLstRg, dTupRg, dLenSet, wf, wb, wi, wt, wl, vD, isSc, dSeq, dNext, dRet, dRetv, dRetN, dIfS, dAsg, dAsgT, dgTup, dgCons, dPar, dApp, dExt, dSetL, dPopAt, dRse, dNever, dDrop, dITup, dILst, dIRng1, dIRng2, dIDn, dIEnT, dIEnL, dIZip, po, poP, sp0, sp1, sp2, sp3, sp4, sp5, pp0, pp1, pp2, pp3, pp4, mo0, mo1, mo2, mo3, dBrw, immE, dMethO, dMake, dFSet, dFPut, fputK, dFDel, dGet2X, dOrT, dIStr, dLeStr, dAttr, dMeth, List.set_cons_zero, List.set_cons_succ, List.getElem?_cons_zero, List.getElem?_cons_succ, List.all_nil, List.map_nil, List.append_nil, List.cons_append, List.nil_append, true_and, ite_true, if_true])
      exact ⟨a, b, rfl, rfl, hy d hd, q _ _ rfl rfl⟩
    · (try simp only [dVar, dC, dNil, dCons, dTup, dLst, dOp, onI, dI, dI0, dUn, dEq, dNe, dIxT, dIxL, dIxLv, dAndV, dOrV, dNotV, dB, dAnd, dOr, dNot, dYes, dIf, dChain, dCB, dLenR, dLenv, dListR, dTupR, dMxR, dMnR, dIntR, dIsi, dNoPart, dPart, dSl, dCatA, dCat, dRep, dIn, dInD, dIsN, D.isN, dCall, dCallP, dCallS, dPen0, dTruv, dRg1, dRg2, dLstRg, dTupRg, dLenSet, wf, wb, wi, wt, wl, vD, isSc, dSeq, dNext, dRet, dRetv, dRetN, dIfS, dAsg, dAsgT, dgTup, dgCons, dPar, dApp, dExt, dSetL, dPopAt, dRse, dNever, dDrop, dITup, dILst, dIRng1, dIRng2, dIDn, dIEnT, dIEnL, dIZip, po, poP, sp0, sp1, sp2, sp3, sp4, sp5, pp0, pp1, pp2, pp3, pp4, mo0, mo1, mo2, mo3, dBrw, immE, dMethO, dMake, dFSet, dFPut, fputK, dFDel, dGet2X, dOrT, dIStr, dLeStr, dAttr, dMeth, List.set_cons_zero, List.set_cons_succ, List.getElem?_cons_zero, List.getElem?_cons_succ, List.all_nil, List.map_nil, List.append_nil, List.cons_append, List.nil_append, true_and, ite_true, if_true])
      refine ⟨xs.map fun y => inB y a b, by rw [List.map_map]; rfl, ?_⟩
      rw [List.all_map]
      cases c : xs.all (fun y => inB y a b) with
      | true =>
        have c' : xs.all (id ∘ fun y => inB y a b) = true := c
        rw [c']
        refine ifF rfl ?_
        (try simp only [dVar, dC, dNil, dCons, dTup, dLst, dOp, onI, dI, dI0, dUn, dEq, dNe, dIxT, dIxL, dIxLv, dAndV, dOrV, dNotV, dB, dAnd, dOr, dNot, dYes, dIf, dChain, dCB, dLenR, dLenv, dListR, dTupR, dMxR, dMnR, dIntR, dIsi, dNoPart, dPart, dSl, dCatA, dCat, dRep, dIn, dInD, dIsN, D.isN, dCall, dCallP, dCallS, dPen0, dTruv, dRg1, dRg2, dLstRg, dTupRg, dLenSet, wf, wb, wi, wt, wl, vD, isSc, dSeq, dNext, dRet, dRetv, dRetN, dIfS, dAsg, dAsgT, dgTup, dgCons, dPar, dApp, dExt, dSetL, dPopAt, dRse, dNever, dDrop, dITup, dILst, dIRng1, dIRng2, dIDn, dIEnT, dIEnL, dIZip, po, poP, sp0, sp1, sp2, sp3, sp4, sp5, pp0, pp1, pp2, pp3, pp4, mo0, mo1, mo2, mo3, dBrw, immE, dMethO, dMake, dFSet, dFPut, fputK, dFDel, dGet2X, dOrT, dIStr, dLeStr, dAttr, dMeth, List.set_cons_zero, List.set_cons_succ, List.getElem?_cons_zero, List.getElem?_cons_succ, List.all_nil, List.map_nil, List.append_nil, List.cons_append, List.nil_append, true_and, ite_true, if_true])
        refine ⟨xs.map intOf, by rw [← inB_ints c], by rw [List.length_map]; exact hl, ?_⟩
        simp only [risW, c, Bool.true_and] at hk
        exact hk
      | false =>
        have c' : xs.all (id ∘ fun y => inB y a b) = false := c
        rw [c']
        simp only [risW, c, Bool.false_and] at hk
        exact ifT rfl hk
  | _ =>
    refine ⟨by decide, false, rfl, ?_⟩
    (try simp only [dVar, dC, dNil, dCons, dTup, dLst, dOp, onI, dI, dI0, dUn, dEq, dNe, dIxT, dIxL, dIxLv, dAndV, dOrV, dNotV, dB, dAnd, dOr, dNot, dYes, dIf, dChain, dCB, dLenR, dLenv, dListR, dTupR, dMxR, dMnR, dIntR, dIsi, dNoPart, dPart, dSl, dCatA, dCat, dRep, dIn, dInD, dIsN, D.isN, dCall, dCallP, dCallS, dPen0, dTruv, dRg1, dRg2, dLstRg, dTupRg, dLenSet, wf, wb, wi, wt, wl, vD, isSc, dSeq, dNext, dRet, dRetv, dRetN, dIfS, dAsg, dAsgT, dgTup, dgCons, dPar, dApp, dExt, dSetL, dPopAt, dRse, dNever, dDrop, dITup, dILst, dIRng1, dIRng2, dIDn, dIEnT, dIEnL, dIZip, po, poP, sp0, sp1, sp2, sp3, sp4, sp5, pp0, pp1, pp2, pp3, pp4, mo0, mo1, mo2, mo3, dBrw, immE, dMethO, dMake, dFSet, dFPut, fputK, dFDel, dGet2X, dOrT, dIStr, dLeStr, dAttr, dMeth, List.set_cons_zero, List.set_cons_succ, List.getElem?_cons_zero, List.getElem?_cons_succ, List.all_nil, List.map_nil, List.append_nil, List.cons_append, List.nil_append, true_and, ite_true, if_true, Bool.not_true, Bool.not_false, Bool.false_eq_true, if_false])
    exact hk
/-! ### what a deal leans on -/
def natD (n : Nat) : D := .int (n : Int)
theorem inD_ints (s : Int) (is : List Int) : inD (.int s) (is.map .int) = is.contains s := by
  unfold inD
  rw [List.any_map, List.contains_eq_any_beq]
  congr 1
  funext i
  show (D.int i).eqv (.int s) = (s == i)
  rw [eqv_int]
  by_cases z : i = s
  · subst z
    simp
  · have : ¬ s = i := fun w => z w.symm
    simp [z, this]
theorem sc_ints (is : List Int) : (is.map D.int).all D.sc = true := by
  rw [List.all_map]
  exact List.all_eq_true.mpr fun _ _ => rfl
theorem inD_nats (s : Nat) (is : List Nat) : inD (natD s) (is.map natD) = is.contains s := by
  have e : is.map natD = (is.map fun n : Nat => (n : Int)).map .int := by rw [List.map_map]; rfl
  rw [e]
  show inD (.int (s : Int)) _ = _
  rw [inD_ints, List.contains_eq_any_beq, List.contains_eq_any_beq, List.any_map]
  congr 1
  funext i
  show ((s : Int) == (i : Int)) = (s == i)
  rw [Bool.eq_iff_iff, beq_iff_eq, beq_iff_eq]
  omega
theorem sc_nats (is : List Nat) : (is.map natD).all D.sc = true := by
  rw [List.all_map]
  exact List.all_eq_true.mpr fun _ _ => rfl
def kLean (x y : D) (φ : En → Prop) : Prop := ∃ ds, ∃ p : Nat, x = dsD ds ∧ y = natD p ∧ p < ds.length ∧ ds.length ≤ 10 ∧ (∀ d ∈ ds, d.length ≤ 6) ∧ φ (.lst ((leans ds p).map natD))
def lastOf (ds : List (List Mv)) (p : Nat) (s : Int) : List Nat := (movers ds p s).getLast?.toList
theorem lastOf_len {ds : List (List Mv)} {p : Nat} {s : Int} : (lastOf ds p s).length ≤ 1 := by
  unfold lastOf
  cases (movers ds p s).getLast? <;> simp
theorem flat_len {α : Type} {g : α → List Nat} (h : ∀ a, (g a).length ≤ 1) : ∀ l : List α, (l.flatMap g).length ≤ l.length
  | [] => Nat.le_refl _
  | a :: r => by
    rw [List.flatMap_cons, List.length_append, List.length_cons]
    have := h a
    have := flat_len h r
    omega
theorem upI_movers {ds : List (List Mv)} {p : Nat} {s : Int} : ((upI 0 p).filter fun x => (mvd (dl ds (intOf x).toNat)).contains s) = (movers ds p s).map natD := by
  unfold upI movers
  rw [List.filter_map]
  have : ((fun x => (mvd (dl ds (intOf x).toNat)).contains s) ∘ fun i : Nat => D.int (0 + (i : Int))) = fun i : Nat => (mvd (dl ds i)).contains s := by
    funext i
    show (mvd (dl ds (0 + (i : Int)).toNat)).contains s = _
    rw [show ((0 : Int) + (i : Int)).toNat = i by omega]
  rw [this]
  refine List.map_congr_left fun i _ => ?_
  show D.int (0 + (i : Int)) = .int (i : Int)
  rw [Int.zero_add]
theorem getLast_map {α β : Type} (g : α → β) (l : List α) : (l.map g).getLast?.toList = l.getLast?.toList.map g := by
  rw [List.getLast?_map]
  cases l.getLast? <;> rfl
end
end Dl

set_option Elab.async false
set_option maxRecDepth 100000
set_option maxHeartbeats 4000000
set_option linter.all false
set_option synthInstance.maxHeartbeats 4000000
set_option synthInstance.maxSize 10000

namespace Dl
open PySem PySem.Spec PyProof.Rows L2 RZ HmS Da
section
variable {P : Program} {w : World} {K : PySem.W.Frag} [HasT K] {mg : Str → Option Value} {base : Heap} {ad : Nat → Addr} {fd : Nat → FuncData}
/-! ### the pen -/
def kCell (x : D) (φ : En → Prop) : Prop := ∃ j : Nat, x = .int j ∧ ∀ z : Int, φ (.d (.int z))
theorem ok__law_cell_at (T : Txt K mg ad fd) : FnOk P w K mg base CX0 1 (ad 20) (fd 20) ps__law_cell_at (spS K (pp1 kCell)) := by
  refine (show Fun K "_law_cell_at" "_law_cell_at" st__law_cell_at (ad 20) (fd 20) from T.f 20 (by decide)).ok sc__law_cell_at (fun vs H Q E h => ?_) (fun cdv A outer s H vs Q E hr h => ?_)
  · obtain ⟨l, ns, us, ds, φ, rfl, _, rfl, _, hd, _⟩ := h
    match ds, hd with
    | [_], _ => rfl
  · obtain ⟨l, ns, us, ds, φ, rfl, hS, rfl, _, hd, q⟩ := h
    match ds, hd with
    | [x], hd =>
      obtain ⟨j, rfl, hz⟩ := hd
      have q := fun z => q z (hz z)
      refine ⟨_, pss_cons (ps_if (pt_cmpR op_lt (pv 1) (pe_callB call_len_seq (by rfl) (T.z 0 (by decide)) PySem.boot_len (pa_cons (pv 0) pa_nil)) (nomark _))
        (pss_one (ps_ret (pe_ix ix_list (pv 0) (pv 1) (fun _ _ => rfl)))) pss_nil) (pss_one (ps_ret pe_int)), ?_⟩
      refine ⟨_, rfl, _, rfl, l, _, rfl, .inl hS, _, _, rfl, rfl, _, rfl, ?_⟩
      refine ite2 (fun c => ?_) (fun c => q 0)
      have c' := of_decide_eq_true c
      rw [List.length_map] at c'
      have hj : j < ns.length := by omega
      refine ⟨_, rfl, _, rfl, l, _, _, .int ns[j], rfl, rfl, hS, ?_, q _⟩
      exact atI_nat (by rw [List.getElem?_map, List.getElem?_eq_getElem hj]; rfl)
theorem ok__law_pen (T : Txt K mg ad fd) : FnOk P w K mg base CX0 1 (ad 21) (fd 21) ps__law_pen spPen0 := by
  refine (show Fun K "_law_pen" "_law_pen" st__law_pen (ad 21) (fd 21) from T.f 21 (by decide)).ok sc__law_pen (fun vs H Q E h => ?_) (fun cdv A outer s H vs Q E hr h => ?_)
  · obtain ⟨z, rfl, _⟩ := h
    rfl
  · obtain ⟨z, rfl, q⟩ := h
    refine ⟨_, pss_one (ps_ret (pe_lst (pa_cons (pv 0) (pa_cons (pe_callTy call_int1 (by rfl) (T.z 1 (by decide)) (by decide +kernel)
        (pa_cons (pe_cmpR op_ge (pv 0) (pe_op op_pow pe_int pe_int) (nomark _)) pa_nil))
      (pa_cons pe_int (pa_cons (pe_op op_mod (pv 0) pe_int) pa_nil)))))), ?_⟩
    refine ⟨_, rfl, _, rfl, _, _, rfl, rfl, ⟨by decide, by decide, by decide⟩, _, _, rfl, rfl, .inr ⟨_, rfl, ?_⟩⟩
    refine ⟨_, rfl, _, _, rfl, rfl, (by show (0 : Int) < 1000000007; decide), (by show 4 ≤ sizeLine; decide), fun p hp => ?_⟩
    exact q p _ hp ⟨_, _, _, _, upd_same, Int.emod_nonneg _ (by decide), Int.emod_lt_of_pos _ (by decide)⟩ (fun b hb => upd_ne hb)
def kDraw (x : D) (φ : En → Prop) : Prop := ∃ n : Int, x = .int n ∧ 0 < n ∧ n < 1073741824 ∧ ∀ r : Int, 0 ≤ r → r < n → φ (.d (.int r))
theorem ok__law_draw (T : Txt K mg ad fd) : FnOk P w K mg base CX0 1 (ad 22) (fd 22) ps__law_draw (spP K (pp1 kDraw)) := by
  refine (show Fun K "_law_draw" "_law_draw" st__law_draw (ad 22) (fd 22) from T.f 22 (by decide)).ok sc__law_draw (fun vs H Q E h => lep1 h) (fun cdv A outer s H vs Q E hr h => ?_)
  obtain ⟨p, us, F, ds, φ, rfl, fp, ⟨a, b, c, d, hp, d0, d1⟩, fh, fn, tb, r, hd, q⟩ := h
  match ds, r, hd with
  | [x], r, hd =>
    obtain ⟨n, rfl, n0, n1, hφ⟩ := hd
    obtain ⟨x, rfl, rp⟩ := one_of r
    cases rp
    have q : ∀ (r : Int) H', 0 ≤ r → r < n → PenAt H' p → (∀ b, b ≠ p → H' b = H b) → Q (.int r) H' := fun r H' r0 r1 pen but => by
      refine q F H' (.int r) (.d (.int r)) (Same.refl F) (fun a o n _ e => by rw [but a n]; exact e) (tb.chg hp (plain_lst _) but) pen (fun a o e => ?_) fn (fun a o e => .inl e) (.int r : Rep F (.int r) (.int r)) (fun z => nomatch z) (fun z => nomatch z) (hφ r r0 r1)
      have : a ≠ p := ne_of_none e fp
      rw [but a this]
      exact fh a o e
    refine ⟨_, pss_cons (ps_if (PW.pt (pw_and (pt_cmpR op_eq (pe_ix ix_list (pv 0) pe_int (fun _ _ => rfl)) pe_int (nomark _))
          (pw_and1 (pt_cmpR op_gt (pe_ix ix_list (pv 0) pe_int (fun _ _ => rfl)) pe_int (nomark _)))))
        (pss_cons (ps_set (i := 2) sc__law_draw.nd rfl (Or.inl rfl) (pe_op op_mod (pe_ix ix_list (pv 0) pe_int (fun _ _ => rfl)) (pv 1)))
        (pss_cons (ps_asg (pe_op op_fdiv (pe_ix ix_list (pv 0) pe_int (fun _ _ => rfl)) (pv 1)) (pg_sub (pv 0) pe_int set_list))
        (pss_one (ps_ret (pv 2))))) pss_nil)
      (pss_cons (ps_asg (pe_op op_add (pe_ix ix_list (pv 0) pe_int (fun _ _ => rfl)) pe_int) (pg_sub (pv 0) pe_int set_list))
      (pss_cons (ps_set (i := 3) sc__law_draw.nd rfl (Or.inl rfl)
          (pe_op op_mod (pe_op op_mul (pe_op op_add (pe_ix ix_list (pv 0) pe_int (fun _ _ => rfl)) pe_int) (pe_op op_add pe_int (pe_op op_mul pe_int (pe_ix ix_list (pv 0) pe_int (fun _ _ => rfl))))) pe_int))
      (pss_cons (ps_set (i := 3) sc__law_draw.nd rfl (Or.inl rfl)
          (pe_op op_mod (pe_op op_add (pe_op op_add (pe_op op_mul (pv 3) (pv 3)) (pe_op op_mul pe_int (pe_ix ix_list (pv 0) pe_int (fun _ _ => rfl)))) pe_int) pe_int))
      (pss_one (ps_ret (pe_op op_mod (pe_op op_fdiv (pe_op op_mod (pe_op op_mul (pv 3) pe_int) pe_int) pe_int) (pv 1))))))), ?_⟩
    have back : ∀ r : Int, 0 ≤ r % n ∧ r % n < n := fun r => ⟨Int.emod_nonneg _ (by omega), Int.emod_lt_of_pos _ n0⟩
    refine ⟨_, rfl, p, _, _, _, rfl, rfl, SqL.of hp, rfl, rfl, _, rfl, ?_⟩
    refine (fun slow => ite2 (fun _ => ⟨_, rfl, p, _, _, _, rfl, rfl, SqL.of hp, rfl, _, _, rfl, rfl, _, rfl, ite2 (fun _ => ?fast) (fun _ => slow)⟩) (fun _ => slow)) ?slow
    case fast =>
      refine ⟨_, rfl, p, _, _, _, rfl, rfl, SqL.of hp, rfl, _, rfl, _, _, rfl, rfl, n0, ?_⟩
      refine ⟨_, rfl, p, _, _, _, rfl, rfl, SqL.of hp, rfl, _, rfl, _, _, rfl, rfl, ⟨n0, n1⟩, _, rfl, p, _, _, _, rfl, rfl, hp, rfl, _, rfl, ?_⟩
      exact q _ _ (back _).1 (back _).2 ⟨_, b, c, d, upd_same, d0, d1⟩ (fun b hb => upd_ne hb)
    case slow =>
      refine ⟨_, rfl, p, _, _, _, rfl, rfl, SqL.of hp, rfl, _, _, rfl, rfl, _, rfl, p, _, _, _, rfl, rfl, hp, rfl, ?_⟩
      refine ⟨_, rfl, p, _, _, _, rfl, rfl, SqL.of upd_same, rfl, _, _, rfl, rfl, _, rfl, p, _, _, _, rfl, rfl, SqL.of upd_same, rfl, _, _, rfl, rfl, .inl ⟨by decide, by decide⟩, _, _, rfl, rfl, _, _, rfl, rfl, .inl ⟨by omega, by omega⟩, _, _, rfl, rfl, (by show (0 : Int) < 2147483647; decide), ?_⟩
      generalize hx : ((d + 17) * (69621 + 2 * (c + 1))) % 2147483647 = x
      have x0 : 0 ≤ x := by rw [← hx]; exact Int.emod_nonneg _ (by decide)
      have x1 : x < 2147483647 := by rw [← hx]; exact Int.emod_lt_of_pos _ (by decide)
      refine ⟨_, rfl, _, rfl, _, _, rfl, rfl, .inl ⟨by omega, by omega⟩, _, rfl, p, _, _, _, rfl, rfl, SqL.of upd_same, rfl, _, _, rfl, rfl, .inl ⟨by decide, by decide⟩, _, _, rfl, rfl, _, _, rfl, rfl, _, _, rfl, rfl, (by show (0 : Int) < 2147483629; decide), ?_⟩
      generalize hy : (x * x + 40503 * (c + 1) + 5) % 2147483629 = y
      have y0 : 0 ≤ y := by rw [← hy]; exact Int.emod_nonneg _ (by decide)
      have y1 : y < 2147483629 := by rw [← hy]; exact Int.emod_lt_of_pos _ (by decide)
      refine ⟨_, rfl, _, _, rfl, rfl, .inl ⟨by omega, by omega⟩, _, _, rfl, rfl, (by show (0 : Int) < 2147483647; decide), _, _, rfl, rfl, ⟨by decide, by decide⟩, _, rfl, _, _, rfl, rfl, n0, ?_⟩
      exact q _ _ (back _).1 (back _).2 ⟨a, b, c + 1, d, upd_same, d0, d1⟩ (fun b hb => upd_ne hb)
/-! ### what the law draws -/
def kLOwn (φ : En → Prop) : Prop := ∀ os, OwOk os → φ (.d (owD os))
theorem map_erase {α β : Type} (g : α → β) : ∀ (l : List α) (k : Nat), (l.map g).eraseIdx k = (l.eraseIdx k).map g
  | [], _ => rfl
  | _ :: _, 0 => rfl
  | a :: r, k + 1 => by
    show g a :: (r.map g).eraseIdx k = g a :: (r.eraseIdx k).map g
    rw [map_erase g r k]
theorem erase_perm {α : Type} : ∀ (l : List α) (k : Nat) (h : k < l.length), ([l[k]] ++ l.eraseIdx k).Perm l
  | a :: r, 0, h => List.Perm.refl _
  | a :: r, k + 1, h => by
    have ih := erase_perm r k (by simpa using h)
    show (r[k]'(by simpa using h) :: a :: r.eraseIdx k).Perm (a :: r)
    exact (List.Perm.swap a _ _).trans (List.Perm.cons a ih)
def kLMix (x : D) (φ : En → Prop) : Prop := ∃ is : List Int, x = .lst (is.map .int) ∧ is.length ≤ 12 ∧ ∀ js : List Int, js.Perm is → φ (.lst (js.map .int))
end
end Dl


set_option Elab.async false
set_option maxRecDepth 100000
set_option maxHeartbeats 4000000
set_option linter.all false
set_option synthInstance.maxHeartbeats 4000000
set_option synthInstance.maxSize 10000

namespace Dl
open PySem PySem.Spec PyProof.Rows L2 RZ HmS Da
section
variable {P : Program} {w : World} {K : PySem.W.Frag} [HasT K] {mg : Str → Option Value} {base : Heap} {ad : Nat → Addr} {fd : Nat → FuncData}
/-! ### things of whatever kind -/
def kThing (n : Nat) (x : D) (φ : En → Prop) : Prop := ∃ d : Nat, x = .int d ∧ d < n ∧ ∀ e y, e ≠ .pen → e.frz = some y → y.good = true → φ e
theorem zero__law_thing {ds : List D} {φ : En → Prop} (h : pp1 (kThing 0) ds φ) : False := by
  match ds, h with
  | [_], ⟨_, _, h, _⟩ => exact absurd h (Nat.not_lt_zero _)
theorem ok__law_thing (T : Txt K mg ad fd) (n : Nat) : FnOk P w K mg base CX0 (n + 1) (ad 26) (fd 26) ps__law_thing (spP K (pp1 (kThing n))) := by
  induction n with
  | zero =>
    refine ⟨fun vs H Q E h => lep1 h, fun A outer s H args us vs Q E hr he hb hv h => ?_⟩
    obtain ⟨p, us, F, ds, φ, _, _, _, _, _, _, _, hd, _⟩ := h
    exact (zero__law_thing hd).elim
  | succ n ih =>
    rw [show n + 1 + 1 = n + 1 + 1 by omega]
    refine (show Fun K "_law_thing" "_law_thing" st__law_thing (ad 26) (fd 26) from T.f 26 (by decide)).ok sc__law_thing (fun vs H Q E h => lep1 h) (fun cdv A outer s H vs Q E hr h => ?_)
    have hu := hu_of hr
    have hu65 := hu65_of hr
    refine ⟨_, (pss_cons (ps_set (i := 2) sc__law_thing.nd rfl (Or.inl rfl) (pe_call (ok__law_draw (K := K) T) (hr.mono (by omega)) (by rfl) (T.g 22 (by decide)) (T.k 22 (by decide)) (bd__law_draw T) .nil pass0 (pa_cons (pv 0) (pa_cons pe_int pa_nil))))
  (pss_cons (ps_if (PW.pt (pw_or (pt_cmpR op_lt (pv 2) pe_int (nomark _)) (pw_or1 (pt_cmpR (r := rEqD K) (op_eqD hr.units) (pv 1) pe_int (nomark _)))))
    (pss_one (ps_ret (pe_ix (r := rIxL K) ix_list (pe_lst (pa_cons pe_non (pa_cons pe_bl (pa_cons pe_bl (pa_cons pe_int (pa_cons pe_int (pa_cons (pe_un un_neg pe_int) (pa_cons pe_int (pa_cons (pe_op op_pow pe_int pe_int) (pa_cons pe_str (pa_cons pe_str (pa_cons (pe_tup pa_nil) (pa_cons (pe_lst pa_nil) pa_nil))))))))))))) (pe_call (ok__law_draw (K := K) T) (hr.mono (by omega)) (by rfl) (T.g 22 (by decide)) (T.k 22 (by decide)) (bd__law_draw T) .nil pass0 (pa_cons (pv 0) (pa_cons pe_int pa_nil))) (fun _ _ => rfl))))
    pss_nil)
  (pss_cons (ps_setLc (i := 3) (own := [("_law_k", 4)]) (g := (gName 4)) (tt := tYes) (by rfl) sc__law_thing.nd rfl rfl (sw_true rfl rfl rfl (by decide +kernel)) (pi_range1 (by rfl) (T.z 2 (by decide)) (pa_cons (pe_call (ok__law_draw (K := K) T) (hr.mono (by omega)) (by rfl) (T.g 22 (by decide)) (T.k 22 (by decide)) (bd__law_draw T) .nil pass0 (pa_cons (pv 0) (pa_cons pe_int pa_nil))) pa_nil))
      (blkOk_by (N := nm__law_thing) (sc := defScope st__law_thing) (by decide +kernel)) (fun _ _ _ _ _ => by exact (pg_name (i := 4) sc__law_thing.nd rfl (Or.inl rfl))) (fun _ _ _ _ _ => pts_nil)
      (fun _ _ _ _ _ => by exact (pe_call ih (hr.mono (by omega)) (by rfl) (T.g 26 (by decide)) (T.k 26 (by decide)) (bd__law_thing T) .nil pass0 (pa_cons (pv 0) (pa_cons (pe_op op_sub (pv 1) pe_int) pa_nil)))))
  (pss_cons (ps_if (pt_cmpR (r := rEqD K) (op_eqD hr.units) (pv 2) pe_int (nomark _))
    (pss_one (ps_ret (pv 3)))
    pss_nil)
  (pss_cons (ps_if (pt_cmpR (r := rEqD K) (op_eqD hr.units) (pv 2) pe_int (nomark _))
    (pss_one (ps_ret (pe_disp (pps_cons pe_str (pv 3) pps_nil) (by rfl) (by rfl) (by simp) (by decide))))
    pss_nil)
  (pss_one (ps_ret (pe_callTy (r := rTuple K) cl_tuple (by rfl) (T.z 4 (by decide)) (by decide +kernel) (pa_cons (pv 3) pa_nil))))))))), ?_⟩
    refine bodp1 h fun x φ hk => ?_
    rw [show stP nm__law_thing [x] = [.pen, .d x, .no, .no, .no] from rfl]
    obtain ⟨d, rfl, dn, hk⟩ := hk
    (try dsimp only [dNext, dSeq, dIfS, dB, dOp, dNot, dOr, dAnd, dNotV, dOrV, dAndV, dAsg, dRet, dDrop, dCB, dIf, dTup, dLst, dCons, dNil, wf_d, wf_l, wb_b, wi_i, wt_t, wl_l, wl_d, tupR_t, tupR_l, lstR_t, lstR_l, List.set_cons_zero, List.set_cons_succ])
    refine ⟨rfl, rfl, rfl, rfl, 12, rfl, by decide, by decide, fun r r0 r1 => ?_⟩
    (try dsimp only [dNext, dSeq, dIfS, dB, dOp, dNot, dOr, dAnd, dNotV, dOrV, dAndV, dAsg, dRet, dDrop, dCB, dIf, dTup, dLst, dCons, dNil, wf_d, wf_l, wb_b, wi_i, wt_t, wl_l, wl_d, tupR_t, tupR_l, lstR_t, lstR_l, List.set_cons_zero, List.set_cons_succ])
    refine ⟨rfl, rfl, ?_⟩
    refine ifB (fun c8 => ?_) (fun c8 => ?_)
    · refine ⟨rfl, rfl, rfl, rfl, rfl, rfl, rfl, rfl, rfl, rfl, ⟨by decide, by decide, by decide⟩, rfl, rfl, rfl, by simp, by simp, by simp, rfl, rfl, rfl, rfl, 12, rfl, by decide, by decide, fun k k0 k1 => ?_⟩
      have hz : ∃ z, atI [D.non, .bl true, .bl false, .int 0, .int 1, .int (-1), .int 9, .int (10 ^ 39), .str "", .str "a", .tup [], .lst []] k = some z ∧ z.good = true := by
        have : k = 0 ∨ k = 1 ∨ k = 2 ∨ k = 3 ∨ k = 4 ∨ k = 5 ∨ k = 6 ∨ k = 7 ∨ k = 8 ∨ k = 9 ∨ k = 10 ∨ k = 11 := by omega
        rcases this with rfl | rfl | rfl | rfl | rfl | rfl | rfl | rfl | rfl | rfl | rfl | rfl <;> exact ⟨_, rfl, rfl⟩
      obtain ⟨z, ez, gz⟩ := hz
      exact ⟨z, ez, (fun w => nomatch w), hk _ z (fun w => nomatch w) rfl gz⟩
    refine ⟨rfl, fit_int _, fit_int _, ?_⟩
    refine ifB (fun c0 => ?_) (fun c0 => ?_)
    · refine ⟨rfl, rfl, rfl, rfl, rfl, rfl, rfl, rfl, rfl, rfl, ⟨by decide, by decide, by decide⟩, rfl, rfl, rfl, by simp, by simp, by simp, rfl, rfl, rfl, rfl, 12, rfl, by decide, by decide, fun k k0 k1 => ?_⟩
      have hz : ∃ z, atI [D.non, .bl true, .bl false, .int 0, .int 1, .int (-1), .int 9, .int (10 ^ 39), .str "", .str "a", .tup [], .lst []] k = some z ∧ z.good = true := by
        have : k = 0 ∨ k = 1 ∨ k = 2 ∨ k = 3 ∨ k = 4 ∨ k = 5 ∨ k = 6 ∨ k = 7 ∨ k = 8 ∨ k = 9 ∨ k = 10 ∨ k = 11 := by omega
        rcases this with rfl | rfl | rfl | rfl | rfl | rfl | rfl | rfl | rfl | rfl | rfl | rfl <;> exact ⟨_, rfl, rfl⟩
      obtain ⟨z, ez, gz⟩ := hz
      exact ⟨z, ez, (fun w => nomatch w), hk _ z (fun w => nomatch w) rfl gz⟩
    have d0 : d ≠ 0 := fun z => by
      subst z
      have : (D.int ((0 : Nat) : Int)).eqv (vD (V.int 0)) = true := (eqv_int _ _).trans (decide_eq_true rfl)
      rw [this] at c0
      cases c0
    refine ⟨rfl, rfl, rfl, rfl, rfl, 4, rfl, by decide, by decide, fun k k0 k1 => ⟨by omega, by omega, by rw [upI_len]; omega, fun i acc Γ => Γ = [.pen, .d (.int d), .d (.int r), .no, .no] ∧ acc.length = i ∧ ∀ x ∈ acc, x.good = true, ⟨rfl, rfl, by simp⟩, ?_⟩⟩
    rintro i acc Γ ⟨rfl, hl, hg⟩
    refine ⟨fun e => ?_, fun y hy => ?_⟩
    · rw [upI_len] at e
      have gl : (D.lst acc).good = true := good_lst hg (by omega)
      have gt : (D.tup acc).good = true := good_tup hg (by omega)
      refine ⟨rfl, fit_int _, fit_int _, ?_⟩
      refine ifB (fun c => ?_) (fun c => ?_)
      · exact ⟨.lst acc, rfl, (fun z => nomatch z), (fun z => nomatch z), hk _ _ (fun z => nomatch z) rfl gl⟩
      refine ⟨rfl, fit_int _, fit_int _, ?_⟩
      refine ifB (fun c => ?_) (fun c => ?_)
      · exact ⟨(fun z => nomatch z), hk _ (.dK [.inr (Str.ofString "a")] [.lst acc]) (fun z => nomatch z) rfl (by rw [D.good, goods, gl]; rfl)⟩
      · exact ⟨(fun z => nomatch z), hk _ _ (fun z => nomatch z) rfl gt⟩
    · refine ⟨rfl, rfl, rfl, rfl, rfl, d - 1, congrArg D.int (by omega), by omega, fun e z np ef gz => ?_⟩
      refine wf_of ef ⟨rfl, by rw [List.length_append, hl]; rfl, fun x hx => ?_⟩
      rcases List.mem_append.mp hx with w | w
      · exact hg x w
      · rw [List.mem_singleton] at w
        rw [w]
        exact gz
theorem good_str {s : Str} (h : s.length ≤ 1000) : (D.str s).good = true := by
  rw [D.good]
  exact decide_eq_true h
theorem good_rev {xs : List D} (h : ∀ x ∈ xs, x.good = true) : ∀ x ∈ xs.reverse, x.good = true := fun x hx => h x (List.mem_reverse.mp hx)
theorem cut_mem {xs : List D} {lo hi : Option Int} {x : D} (h : x ∈ cutL xs lo hi) : x ∈ xs := List.mem_of_mem_drop (List.mem_of_mem_take h)
theorem cut_len {xs : List D} {lo hi : Option Int} : (cutL xs lo hi).length ≤ xs.length := by
  unfold cutL
  rw [List.length_take, List.length_drop]
  omega
theorem str_len {i : Int} (h : i.natAbs < 2 ^ 40) : (Str.ofString (toString i)).length ≤ 42 := by
  have := PySem.int_text_length_le10 (a := i) (k := 40) (by decide) (Nat.lt_of_lt_of_le h (by decide))
  rw [PySem.ofString_length]
  omega
theorem log_small {i : Int} (h : i.natAbs < 2 ^ 40) : i.natAbs.log2 < 1920 := by
  by_cases z : i.natAbs = 0
  · rw [z]
    decide
  · exact Nat.lt_trans ((Nat.log2_lt z).mpr h) (by decide)
theorem pick4 {P : D → Prop} {a b c d : D} {w : Int} (w0 : 0 ≤ w) (w1 : decide (w < 4) = true) (h1 : P a) (h2 : P b) (h3 : P c) (h4 : P d) : ∃ z, atI [a, b, c, d] w = some z ∧ P z := by
  have w1 := of_decide_eq_true w1
  have : w = 0 ∨ w = 1 ∨ w = 2 ∨ w = 3 := by omega
  rcases this with rfl | rfl | rfl | rfl
  · exact ⟨_, rfl, h1⟩
  · exact ⟨_, rfl, h2⟩
  · exact ⟨_, rfl, h3⟩
  · exact ⟨_, rfl, h4⟩
def kSpoilt (n : Nat) (x : D) (φ : En → Prop) : Prop := ∃ m, m < n ∧ n ≤ 12 ∧ x.base m = true ∧ ∀ e y, e ≠ .pen → e.frz = some y → y.good = true → φ e
theorem zero__law_spoilt {ds : List D} {φ : En → Prop} (h : pp1 (kSpoilt 0) ds φ) : False := by
  match ds, h with
  | [_], ⟨_, h, _⟩ => exact absurd h (Nat.not_lt_zero _)
theorem ok__law_spoilt (T : Txt K mg ad fd) (n : Nat) : FnOk P w K mg base CX0 (n + 5) (ad 27) (fd 27) ps__law_spoilt (spP K (pp1 (kSpoilt n))) := by
  induction n with
  | zero =>
    refine ⟨fun vs H Q E h => lep1 h, fun A outer s H args us vs Q E hr he hb hv h => ?_⟩
    obtain ⟨p, us, F, ds, φ, _, _, _, _, _, _, _, hd, _⟩ := h
    exact (zero__law_spoilt hd).elim
  | succ n ih =>
    rw [show n + 1 + 5 = n + 5 + 1 by omega]
    refine (show Fun K "_law_spoilt" "_law_spoilt" st__law_spoilt (ad 27) (fd 27) from T.f 27 (by decide)).ok sc__law_spoilt (fun vs H Q E h => lep1 h) (fun cdv A outer s H vs Q E hr h => ?_)
    have hu := hu_of hr
    have hu65 := hu65_of hr
    refine ⟨_, (pss_cons (ps_if (PW.pt (pw_and (pt_val (pe_callB (r := rIsi K) call_isi (by rfl) (T.z 6 (by decide)) (by decide +kernel) (pa_cons (pv 1) (pa_cons (pe_bltn (v := .ty "tuple") (by rfl) (T.z 4 (by decide)) (by decide +kernel) rfl) pa_nil)))) (pw_and (pt_cmpR (r := rNeD K) (op_neD hr.units) (pv 1) (pe_tup pa_nil) (nomark _)) (pw_and1 (pt_cmpR op_gt (pe_call (ok__law_draw (K := K) T) (hr.mono (by omega)) (by rfl) (T.g 22 (by decide)) (T.k 22 (by decide)) (bd__law_draw T) .nil pass0 (pa_cons (pv 0) (pa_cons pe_int pa_nil))) pe_int (nomark _))))))
    (pss_cons (ps_set (i := 2) sc__law_spoilt.nd rfl (Or.inl rfl) (pe_call (ok__law_draw (K := K) T) (hr.mono (by omega)) (by rfl) (T.g 22 (by decide)) (T.k 22 (by decide)) (bd__law_draw T) .nil pass0 (pa_cons (pv 0) (pa_cons (pe_callB (r := Da.rLen K) cl_len (by rfl) (T.z 0 (by decide)) (by decide +kernel) (pa_cons (pv 1) pa_nil)) pa_nil))))
  (pss_one (ps_ret (pe_op (r := rCatA K) op_catA (pe_op (r := rCatA K) op_catA (pe_slice (r := rSlA K) sl_tupA (pv 1) po_none (po_some (pv 2))) (pe_tup (pa_cons (pe_call ih (hr.mono (by omega)) (by rfl) (T.g 27 (by decide)) (T.k 27 (by decide)) (bd__law_spoilt T) .nil pass0 (pa_cons (pv 0) (pa_cons (pe_ix (r := rIxT K) ix_tup (pv 1) (pv 2) (fun _ _ => rfl)) pa_nil))) pa_nil))) (pe_slice (r := rSlA K) sl_tupA (pv 1) (po_some (pe_op op_add (pv 2) pe_int)) po_none)))))
    pss_nil)
  (pss_cons (ps_set (i := 3) sc__law_spoilt.nd rfl (Or.inl rfl) (pe_call (ok__law_draw (K := K) T) (hr.mono (by omega)) (by rfl) (T.g 22 (by decide)) (T.k 22 (by decide)) (bd__law_draw T) .nil pass0 (pa_cons (pv 0) (pa_cons pe_int pa_nil))))
  (pss_cons (ps_if (PW.pt (pw_and (pt_val (pe_callB (r := rIsi K) call_isi (by rfl) (T.z 6 (by decide)) (by decide +kernel) (pa_cons (pv 1) (pa_cons (pe_bltn (v := .ty "tuple") (by rfl) (T.z 4 (by decide)) (by decide +kernel) rfl) pa_nil)))) (pw_and1 (pt_cmpR op_lt (pv 3) pe_int (nomark _)))))
    (pss_one (ps_ret (pe_ix (r := rIxL K) ix_list (pe_lst (pa_cons (pe_op (r := rCatA K) op_catA (pv 1) (pe_slice (r := rSlA K) sl_tupA (pv 1) (po_some (pe_un un_neg pe_int)) po_none)) (pa_cons (pe_slice (r := rSlA K) sl_tupA (pv 1) po_none (po_some (pe_un un_neg pe_int))) (pa_cons (pe_callTy (r := rList K) cl_list (by rfl) (T.z 14 (by decide)) (by decide +kernel) (pa_cons (pv 1) pa_nil)) (pa_cons (pe_revT (K := K) (pv 1)) pa_nil))))) (pv 3) (fun _ _ => rfl))))
    pss_nil)
  (pss_cons (ps_if (PW.pt (pw_and (pt_val (pe_callB (r := rIsi K) call_isi (by rfl) (T.z 6 (by decide)) (by decide +kernel) (pa_cons (pv 1) (pa_cons (pe_bltn (v := .ty "int") (by rfl) (T.z 1 (by decide)) (by decide +kernel) rfl) pa_nil)))) (pw_and1 (pt_cmpR op_lt (pv 3) pe_int (nomark _)))))
    (pss_one (ps_ret (pe_ix (r := rIxL K) ix_list (pe_lst (pa_cons (pe_op op_add (pv 1) pe_int) (pa_cons (pe_op op_sub (pv 1) pe_int) (pa_cons (pe_cmpR op_gt (pv 1) pe_int (nomark _)) (pa_cons (pe_callTy (r := rStrI) cl_strI (by rfl) (T.z 8 (by decide)) (by decide +kernel) (pa_cons (pv 1) pa_nil)) pa_nil))))) (pv 3) (fun _ _ => rfl))))
    pss_nil)
  (pss_cons (ps_if (PW.pt (pw_and (pt_val (pe_callB (r := rIsi K) call_isi (by rfl) (T.z 6 (by decide)) (by decide +kernel) (pa_cons (pv 1) (pa_cons (pe_bltn (v := .ty "str") (by rfl) (T.z 8 (by decide)) (by decide +kernel) rfl) pa_nil)))) (pw_and1 (pt_cmpR op_lt (pv 3) pe_int (nomark _)))))
    (pss_one (ps_ret (pe_ix (r := rIxL K) ix_list (pe_lst (pa_cons (pe_op (r := Da.rAddS) op_addS (pv 1) pe_str) (pa_cons (pe_upS (pv 1)) (pa_cons (pe_slice (r := rSlS) sl_str (pv 1) po_none (po_some (pe_un un_neg pe_int))) (pa_cons (pe_op (r := Da.rAddS) op_addS pe_str (pv 1)) pa_nil))))) (pv 3) (fun _ _ => rfl))))
    pss_nil)
  (pss_one (ps_ret (pe_call (ok__law_thing (K := K) T 3) (hr.mono (by omega)) (by rfl) (T.g 26 (by decide)) (T.k 26 (by decide)) (bd__law_thing T) .nil pass0 (pa_cons (pv 0) (pa_cons pe_int pa_nil)))))))))), ?_⟩
    refine bodp1 h fun x φ hk => ?_
    rw [show stP nm__law_spoilt [x] = [.pen, .d x, .no, .no] from rfl]
    obtain ⟨m, mn, n12, hb, hk⟩ := hk
    have last : ∀ Γ : List En, Γ[0]? = some .pen → dRet (dCallP 0 (pp1 (kThing 3)) [] (dCons (dC (V.int 2)) dNil)) Γ (poP φ) := fun Γ hp =>
      ⟨hp, rfl, hp, rfl, 2, rfl, by decide, fun e y ne ef gy => ⟨ne, hk e y ne ef gy⟩⟩
    cases x with
    | tup xs =>
      obtain ⟨k, rfl, xl, xb⟩ := base_tup hb
      have xg : ∀ x ∈ xs, x.good = true := fun x hx => base_good (xb x hx)
      refine seqIf (fun Γ => Γ = [.pen, .d (.tup xs), .no, .no]) (fun N hN => ?_) ?_
      · refine ⟨by decide, true, rfl, ?_⟩
        (dsimp only [dB, dAnd, dOr, dNot, dEqE, wf_d, wf_l, wb_b, wi_i, wt_t, wl_l, wl_d, List.set_cons_zero, List.set_cons_succ])
        refine ifT rfl ⟨by simp, fit_of (base_fit hb) (by omega), by decide, ?_⟩
        (dsimp only [dB, dAnd, dOr, dNot, dEqE, wf_d, wf_l, wb_b, wi_i, wt_t, wl_l, wl_d, List.set_cons_zero, List.set_cons_succ])
        refine ifB (fun c1 => ?_) (fun c1 => ifF rfl (hN _ rfl))
        refine ⟨rfl, rfl, rfl, rfl, 6, rfl, by decide, by decide, fun r r0 r1 => ⟨rfl, rfl, ?_⟩⟩
        (dsimp only [dB, dAnd, dOr, dNot, dEqE, wf_d, wf_l, wb_b, wi_i, wt_t, wl_l, wl_d, List.set_cons_zero, List.set_cons_succ])
        refine ifB (fun c2 => ?_) (fun c2 => hN _ rfl)
        have x1 : 1 ≤ xs.length := by
          cases xs with
          | nil => exact absurd c1 (by decide)
          | cons a r => simp
        refine ⟨rfl, rfl, rfl, xs.length, rfl, by omega, by omega, fun j j0 j1 => ?_⟩
        (dsimp only [dB, dAnd, dOr, dNot, dEqE, wf_d, wf_l, wb_b, wi_i, wt_t, wl_l, wl_d, List.set_cons_zero, List.set_cons_succ])
        have jl : j.toNat < xs.length := by omega
        have ea : atI xs j = some xs[j.toNat] := by
          have z := atI_ok (xs := xs) (i := j.toNat) (x := xs[j.toNat]) (List.getElem?_eq_getElem jl)
          rw [Int.toNat_of_nonneg j0] at z
          exact z
        refine ⟨rfl, rfl, _, ea, rfl, rfl, k, by omega, by omega, xb _ (List.getElem_mem jl), fun e y ne ef gy => wf_of ef ⟨by simp, ?_⟩⟩
        have l1 := cut_len (xs := xs) (lo := none) (hi := some j)
        have l2 := cut_len (xs := xs) (lo := some (j + 1)) (hi := none)
        refine ⟨by simp; omega, rfl, rfl, rfl, by simp; omega, (fun z => nomatch z), hk _ _ (fun z => nomatch z) rfl (good_tup (fun x hx => ?_) (by simp; omega))⟩
        rcases List.mem_append.mp hx with hx | hx
        · rcases List.mem_append.mp hx with hx | hx
          · exact xg _ (cut_mem hx)
          · rw [List.mem_singleton] at hx
            rw [hx]
            exact gy
        · exact xg _ (cut_mem hx)
      · rintro Γ rfl
        refine ⟨rfl, rfl, rfl, rfl, 8, rfl, by decide, by decide, fun wy w0 w1 => ?_⟩
        (dsimp only [dB, dAnd, dOr, dNot, dEqE, wf_d, wf_l, wb_b, wi_i, wt_t, wl_l, wl_d, List.set_cons_zero, List.set_cons_succ])
        refine seqIf (fun Γ => Γ = [.pen, .d (.tup xs), .no, .d (.int wy)]) (fun N hN => ?_) ?_
        · refine ⟨by decide, true, rfl, ?_⟩
          (dsimp only [dB, dAnd, dOr, dNot, dEqE, wf_d, wf_l, wb_b, wi_i, wt_t, wl_l, wl_d, List.set_cons_zero, List.set_cons_succ])
          refine ifT rfl ⟨rfl, rfl, ?_⟩
          (dsimp only [dB, dAnd, dOr, dNot, dEqE, wf_d, wf_l, wb_b, wi_i, wt_t, wl_l, wl_d, List.set_cons_zero, List.set_cons_succ])
          refine ifB (fun c => ?_) (fun c => hN _ rfl)
          have l1 := cut_len (xs := xs) (lo := some (-1)) (hi := none)
          have l2 := cut_len (xs := xs) (lo := none) (hi := some (-1))
          refine ⟨rfl, rfl, rfl, by show xs.length + (cutL xs (some (-1)) none).length ≤ 1000000; omega, rfl, rfl, rfl, by simp, ?_⟩
          refine pick4 w0 c ?_ ?_ ?_ ?_
          · refine ⟨(fun z => nomatch z), hk _ _ (fun z => nomatch z) rfl (good_tup (fun x hx => ?_) (by simp; omega))⟩
            rcases List.mem_append.mp hx with hx | hx
            · exact xg _ hx
            · exact xg _ (cut_mem hx)
          · exact ⟨(fun z => nomatch z), hk _ _ (fun z => nomatch z) rfl (good_tup (fun x hx => xg _ (cut_mem hx)) (by omega))⟩
          · exact ⟨(fun z => nomatch z), hk _ _ (fun z => nomatch z) rfl (good_lst xg (by omega))⟩
          · exact ⟨(fun z => nomatch z), hk _ _ (fun z => nomatch z) rfl (good_tup (good_rev xg) (by simp; omega))⟩
        rintro Γ rfl
        refine seqIf (fun Γ => Γ = [.pen, .d (.tup xs), .no, .d (.int wy)]) (fun N hN => ?_) ?_
        · refine ⟨by decide, false, rfl, ?_⟩
          (dsimp only [dB, dAnd, dOr, dNot, dEqE, wf_d, wf_l, wb_b, wi_i, wt_t, wl_l, wl_d, List.set_cons_zero, List.set_cons_succ])
          exact ifF rfl (ifF rfl (hN _ rfl))
        rintro Γ rfl
        refine seqIf (fun Γ => Γ = [.pen, .d (.tup xs), .no, .d (.int wy)]) (fun N hN => ?_) ?_
        · refine ⟨by decide, false, rfl, ?_⟩
          (dsimp only [dB, dAnd, dOr, dNot, dEqE, wf_d, wf_l, wb_b, wi_i, wt_t, wl_l, wl_d, List.set_cons_zero, List.set_cons_succ])
          exact ifF rfl (ifF rfl (hN _ rfl))
        rintro Γ rfl
        exact last _ rfl
    | int i =>
      have ib : i.natAbs < 2 ^ 40 := by
        cases m <;> (rw [D.base] at hb; exact of_decide_eq_true hb)
      refine seqIf (fun Γ => Γ = [.pen, .d (.int i), .no, .no]) (fun N hN => ?_) ?_
      · refine ⟨by decide, false, rfl, ?_⟩
        (dsimp only [dB, dAnd, dOr, dNot, dEqE, wf_d, wf_l, wb_b, wi_i, wt_t, wl_l, wl_d, List.set_cons_zero, List.set_cons_succ])
        exact ifF rfl (ifF rfl (hN _ rfl))
      rintro Γ rfl
      refine ⟨rfl, rfl, rfl, rfl, 8, rfl, by decide, by decide, fun wy w0 w1 => ?_⟩
      (dsimp only [dB, dAnd, dOr, dNot, dEqE, wf_d, wf_l, wb_b, wi_i, wt_t, wl_l, wl_d, List.set_cons_zero, List.set_cons_succ])
      refine seqIf (fun Γ => Γ = [.pen, .d (.int i), .no, .d (.int wy)]) (fun N hN => ?_) ?_
      · refine ⟨by decide, false, rfl, ?_⟩
        (dsimp only [dB, dAnd, dOr, dNot, dEqE, wf_d, wf_l, wb_b, wi_i, wt_t, wl_l, wl_d, List.set_cons_zero, List.set_cons_succ])
        exact ifF rfl (ifF rfl (hN _ rfl))
      rintro Γ rfl
      refine seqIf (fun Γ => Γ = [.pen, .d (.int i), .no, .d (.int wy)]) (fun N hN => ?_) ?_
      · refine ⟨by decide, true, rfl, ?_⟩
        (dsimp only [dB, dAnd, dOr, dNot, dEqE, wf_d, wf_l, wb_b, wi_i, wt_t, wl_l, wl_d, List.set_cons_zero, List.set_cons_succ])
        refine ifT rfl ⟨rfl, rfl, ?_⟩
        (dsimp only [dB, dAnd, dOr, dNot, dEqE, wf_d, wf_l, wb_b, wi_i, wt_t, wl_l, wl_d, List.set_cons_zero, List.set_cons_succ])
        refine ifB (fun c => ?_) (fun c => hN _ rfl)
        refine ⟨rfl, rfl, rfl, rfl, rfl, rfl, log_small ib, by simp, ?_⟩
        refine pick4 w0 c ?_ ?_ ?_ ?_
        · exact ⟨(fun z => nomatch z), hk _ _ (fun z => nomatch z) rfl rfl⟩
        · exact ⟨(fun z => nomatch z), hk _ _ (fun z => nomatch z) rfl rfl⟩
        · exact ⟨(fun z => nomatch z), hk _ _ (fun z => nomatch z) rfl rfl⟩
        · exact ⟨(fun z => nomatch z), hk _ _ (fun z => nomatch z) rfl (good_str (by have := str_len ib; omega))⟩
      rintro Γ rfl
      refine seqIf (fun Γ => Γ = [.pen, .d (.int i), .no, .d (.int wy)]) (fun N hN => ?_) ?_
      · refine ⟨by decide, false, rfl, ?_⟩
        (dsimp only [dB, dAnd, dOr, dNot, dEqE, wf_d, wf_l, wb_b, wi_i, wt_t, wl_l, wl_d, List.set_cons_zero, List.set_cons_succ])
        exact ifF rfl (ifF rfl (hN _ rfl))
      rintro Γ rfl
      exact last _ rfl
    | str s =>
      have sb : s.length ≤ 100 := by
        cases m <;> (rw [D.base, Bool.and_eq_true] at hb; exact of_decide_eq_true hb.1)
      refine seqIf (fun Γ => Γ = [.pen, .d (.str s), .no, .no]) (fun N hN => ?_) ?_
      · refine ⟨by decide, false, rfl, ?_⟩
        (dsimp only [dB, dAnd, dOr, dNot, dEqE, wf_d, wf_l, wb_b, wi_i, wt_t, wl_l, wl_d, List.set_cons_zero, List.set_cons_succ])
        exact ifF rfl (ifF rfl (hN _ rfl))
      rintro Γ rfl
      refine ⟨rfl, rfl, rfl, rfl, 8, rfl, by decide, by decide, fun wy w0 w1 => ?_⟩
      (dsimp only [dB, dAnd, dOr, dNot, dEqE, wf_d, wf_l, wb_b, wi_i, wt_t, wl_l, wl_d, List.set_cons_zero, List.set_cons_succ])
      refine seqIf (fun Γ => Γ = [.pen, .d (.str s), .no, .d (.int wy)]) (fun N hN => ?_) ?_
      · refine ⟨by decide, false, rfl, ?_⟩
        (dsimp only [dB, dAnd, dOr, dNot, dEqE, wf_d, wf_l, wb_b, wi_i, wt_t, wl_l, wl_d, List.set_cons_zero, List.set_cons_succ])
        exact ifF rfl (ifF rfl (hN _ rfl))
      rintro Γ rfl
      refine seqIf (fun Γ => Γ = [.pen, .d (.str s), .no, .d (.int wy)]) (fun N hN => ?_) ?_
      · refine ⟨by decide, false, rfl, ?_⟩
        (dsimp only [dB, dAnd, dOr, dNot, dEqE, wf_d, wf_l, wb_b, wi_i, wt_t, wl_l, wl_d, List.set_cons_zero, List.set_cons_succ])
        exact ifF rfl (ifF rfl (hN _ rfl))
      rintro Γ rfl
      refine seqIf (fun Γ => Γ = [.pen, .d (.str s), .no, .d (.int wy)]) (fun N hN => ?_) ?_
      · refine ⟨by decide, true, rfl, ?_⟩
        (dsimp only [dB, dAnd, dOr, dNot, dEqE, wf_d, wf_l, wb_b, wi_i, wt_t, wl_l, wl_d, List.set_cons_zero, List.set_cons_succ])
        refine ifT rfl ⟨rfl, rfl, ?_⟩
        (dsimp only [dB, dAnd, dOr, dNot, dEqE, wf_d, wf_l, wb_b, wi_i, wt_t, wl_l, wl_d, List.set_cons_zero, List.set_cons_succ])
        refine ifB (fun c => ?_) (fun c => hN _ rfl)
        have a1 : (Str.ofString "a").length = 1 := rfl
        have a2 : (Str.ofString "1").length = 1 := rfl
        have l1 := PyProof.Rows.len_upper s
        have l2 := L2.cutS_length s none (some (-1))
        refine ⟨rfl, by omega, by omega, rfl, rfl, by omega, rfl, by omega, by simp, ?_⟩
        refine pick4 w0 c ?_ ?_ ?_ ?_
        · exact ⟨(fun z => nomatch z), hk _ _ (fun z => nomatch z) rfl (good_str (by rw [PySem.Str.length_append]; omega))⟩
        · exact ⟨(fun z => nomatch z), hk _ _ (fun z => nomatch z) rfl (good_str (by omega))⟩
        · exact ⟨(fun z => nomatch z), hk _ _ (fun z => nomatch z) rfl (good_str (by omega))⟩
        · exact ⟨(fun z => nomatch z), hk _ _ (fun z => nomatch z) rfl (good_str (by rw [PySem.Str.length_append]; omega))⟩
      rintro Γ rfl
      exact last _ rfl
    | _ => simp [D.base] at hb
end
end Dl

set_option Elab.async false
set_option maxRecDepth 100000
set_option maxHeartbeats 4000000
set_option linter.all false
set_option synthInstance.maxHeartbeats 4000000
set_option synthInstance.maxSize 10000


namespace Dl
open PySem PySem.Spec PyProof.Rows L2 RZ HmS Da
section
variable {P : Program} {w : World} {K : PySem.W.Frag} [HasT K] {mg : Str → Option Value} {base : Heap} {ad am : Nat → Addr} {fd fm : Nat → FuncData} {C : Addr}
/-! ### letters, sets, lists, stamps, of things of whatever kind -/
theorem isN_t {neg : Bool} {x : D} {φ : En → Prop} (b : Bool) (e : (if neg then !x.isN else x.isN) = b) (h : φ (.d (.bl b))) : dIsN neg x .non φ := by
  subst e
  exact h
theorem wb_t {b : Bool} {k : Bool → Prop} (h : k b) : wb (.d (.bl b)) k := h
def signB (c : Nat) : Bool := !decide ([c] < [97]) && !decide ([122] < [c])
def letB (x : D) (a b : Int) : Bool := match x with
  | .str z => (decide (a ≤ (z.length : Int)) && decide ((z.length : Int) ≤ b)) && z.cps.toList.all signB
  | _ => false
def sgF (x : D) : D := match x with
  | .str s => .bl (s.cps.toList.all signB)
  | _ => .non
theorem sgF_eq (c : Nat) : sgF (sgD c) = .bl (signB c) := by
  show D.bl ([c].all signB) = _
  simp
theorem a_cps : (Str.ofString "a").cps.toList = [97] := by decide +kernel
theorem z_cps : (Str.ofString "z").cps.toList = [122] := by decide +kernel
def kFrom (x a : D) (φ : En → Prop) : Prop := ∃ i : Int, a = .int i ∧ x.ty.isSome = true ∧ φ (.d (.bl (match x with | .int n => decide (n ≥ i) | _ => false)))
theorem ok_is_whole_from (T : Txt K mg ad fd) : FnOk P w K mg base CX0 2 (ad 5) (fd 5) ps_is_whole_from (spX K (sp2 kFrom)) := by
  refine (show Fun K "is_whole_from" "is_whole_from" st_is_whole_from (ad 5) (fd 5) from T.f 5 (by decide)).ok sc_is_whole_from (fun vs H Q E h => len2 h) (fun cdv A outer s H vs Q E hr h => ?_)
  have hu := hu_of hr
  have hu65 := hu65_of hr
  refine ⟨_, (pss_one (ps_ret (pe_and (pe_call (ok_is_whole (K := K) T) (hr.mono (by omega)) (by rfl) (T.g 4 (by decide)) (T.k 4 (by decide)) (bd_is_whole T) .nil pass0 (pa_cons (pv 0) pa_nil)) (pe_one (pe_cmpR op_ge (pv 0) (pv 1) (nomark _)))))), ?_⟩
  refine body2 h fun x y φ hk => ?_
  rw [show st0 nm_is_whole_from [x, y] = [.d x, .d y] from rfl]
  obtain ⟨i, rfl, hx, hk⟩ := hk
  (try dsimp only [dNext, dSeq, dIfS, dB, dOp, dNot, dOr, dAnd, dNotV, dOrV, dAndV, dAsg, dRet, dDrop, dCB, dIf, dTup, dLst, dCons, dNil, wf_d, wf_l, wb_b, wi_i, wt_t, wl_l, wl_d, tupR_t, tupR_l, lstR_t, lstR_l, List.set_cons_zero, List.set_cons_succ])
  refine ⟨rfl, hx, ?_⟩
  cases x with
  | int n =>
    (try dsimp only [dNext, dSeq, dIfS, dB, dOp, dNot, dOr, dAnd, dNotV, dOrV, dAndV, dAsg, dRet, dDrop, dCB, dIf, dTup, dLst, dCons, dNil, wf_d, wf_l, wb_b, wi_i, wt_t, wl_l, wl_d, tupR_t, tupR_l, lstR_t, lstR_l, List.set_cons_zero, List.set_cons_succ])
    exact ifT rfl ⟨rfl, hk⟩
  | _ => exact hk
def kLet (x a b : D) (φ : En → Prop) : Prop := ∃ i j : Int, a = .int i ∧ b = .int j ∧ x.good = true ∧ φ (.d (.bl (letB x i j)))
theorem ok_is_letters (T : Txt K mg ad fd) : FnOk P w K mg base CX0 1 (ad 7) (fd 7) ps_is_letters (spX K (sp3 kLet)) := by
  refine (show Fun K "is_letters" "is_letters" st_is_letters (ad 7) (fd 7) from T.f 7 (by decide)).ok sc_is_letters (fun vs H Q E h => len3 h) (fun cdv A outer s H vs Q E hr h => ?_)
  have hu := hu_of hr
  have hu65 := hu65_of hr
  refine ⟨_, (pss_cons (ps_if (PW.pt (pw_or (pt_not (pt_val (pe_callB (r := rIsi K) call_isi (by rfl) (T.z 6 (by decide)) (by decide +kernel) (pa_cons (pv 0) (pa_cons (pe_bltn (v := .ty "str") (by rfl) (T.z 8 (by decide)) (by decide +kernel) rfl) pa_nil))))) (pw_or1 (pt_not (pt_chain op_le op_le (pv 1) (pe_callB (r := Da.rLen K) cl_len (by rfl) (T.z 0 (by decide)) (by decide +kernel) (pa_cons (pv 0) pa_nil)) (pv 2))))))
    (pss_one (ps_ret pe_bl))
    pss_nil)
  (pss_one (ps_ret (pe_callB (r := rAll K) (cr_all rfl) (by rfl) (T.z 9 (by decide)) (by decide +kernel) (pa_cons (pe_lc (own := [("sign", 3)]) (g := (gName 3)) (tt := tYes) rfl sc_is_letters.nd (pi_str (pv 0))
      (blkOk_by (N := nm_is_letters) (sc := defScope st_is_letters) (by decide +kernel)) (fun _ _ _ _ _ => by exact (pg_name (i := 3) sc_is_letters.nd rfl (Or.inl rfl))) (fun _ _ _ _ _ => pts_nil)
      (fun _ _ _ _ _ => by exact (pe_chain (r := rLeStr) (r' := rLeStr) op_leStr op_leStr pe_str (pv 3) pe_str))) pa_nil))))), ?_⟩
  refine body3 h fun x y z φ hk => ?_
  rw [show st0 nm_is_letters [x, y, z] = [.d x, .d y, .d z, .no] from rfl]
  obtain ⟨i, j, rfl, rfl, hg, hk⟩ := hk
  have ht := good_ty hg
  cases x with
  | ins C ns xs => exact absurd ht Bool.false_ne_true
  | str z =>
    have hz : z.length ≤ 1000 := of_decide_eq_true hg
    refine ⟨by decide, true, rfl, ?_⟩
    (try dsimp only [dNext, dSeq, dIfS, dB, dOp, dNot, dOr, dAnd, dNotV, dOrV, dAndV, dAsg, dRet, dDrop, dCB, dIf, dTup, dLst, dCons, dNil, wf_d, wf_l, wb_b, wi_i, wt_t, wl_l, wl_d, tupR_t, tupR_l, lstR_t, lstR_l, List.set_cons_zero, List.set_cons_succ])
    refine ifF rfl ⟨by rw [sizeLine_eq]; omega, rfl, ?_⟩
    have e0 : letB (.str z) i j = ((decide (i ≤ (z.length : Int)) && decide ((z.length : Int) ≤ j)) && z.cps.toList.all signB) := rfl
    rw [e0] at hk
    refine ifB (fun c1 => ⟨rfl, ?_⟩) (fun c1 => ?_)
    · rw [c1, Bool.true_and] at hk
      show (if (!decide ((z.length : Int) ≤ j)) = true then _ else _)
      refine ifB (fun c2 => ?_) (fun c2 => ?_)
      · rw [Bool.not_eq_true'] at c2
        rw [c2, Bool.false_and] at hk
        exact ⟨rfl, hk⟩
      · rw [Bool.not_eq_false'] at c2
        rw [c2, Bool.true_and] at hk
        have ll : (sgs z).length ≤ 100000 := by
          unfold sgs
          rw [List.length_map, Array.length_toList]
          exact Nat.le_trans hz (by decide)
        refine dLc_pure (items := sgs z) (Γ1 := [.d (.str z), .d (.int i), .d (.int j), .no]) (Γw := [.d (.str z), .d (.int i), .d (.int j), .no]) sgF rfl (fun ψ h => h) rfl rfl ll (fun d hd ψ q => ?_) ?_
        · obtain ⟨c, _, rfl⟩ := List.mem_map.mp hd
          refine ⟨rfl, ?_⟩
          show (if (!decide ([c] < (Str.ofString "a").cps.toList)) = true then _ else _)
          rw [a_cps]
          refine ifB (fun c3 => ⟨rfl, ?_⟩) (fun c3 => ?_)
          · refine q _ _ ?_ rfl
            show some (D.bl (!decide ((Str.ofString "z").cps.toList < [c]))) = _
            rw [z_cps, sgF_eq, signB, c3, Bool.true_and]
          · refine q _ _ ?_ rfl
            rw [sgF_eq, signB, c3, Bool.false_and]
            rfl
        · refine ⟨z.cps.toList.map signB, by unfold sgs; rw [List.map_map, List.map_map]; exact List.map_congr_left fun c _ => sgF_eq c, ?_⟩
          rw [List.all_map]
          exact hk
    · rw [c1, Bool.false_and, Bool.false_and] at hk
      exact wb_t (ifT rfl ⟨rfl, hk⟩)
  | _ =>
    refine ⟨by decide, false, rfl, ?_⟩
    (try dsimp only [dNext, dSeq, dIfS, dB, dOp, dNot, dOr, dAnd, dNotV, dOrV, dAndV, dAsg, dRet, dDrop, dCB, dIf, dTup, dLst, dCons, dNil, wf_d, wf_l, wb_b, wi_i, wt_t, wl_l, wl_d, tupR_t, tupR_l, lstR_t, lstR_l, List.set_cons_zero, List.set_cons_succ])
    exact ifT rfl (ifT rfl ⟨rfl, hk⟩)
/-! sets, lists -/
def kYea (x : D) (φ : En → Prop) : Prop := x.ty.isSome = true ∧ φ (.d (.bl (inB x 1840 2100)))
theorem ok_is_year (T : Txt K mg ad fd) : FnOk P w K mg base CX0 3 (ad 11) (fd 11) ps_is_year (spX K (sp1 kYea)) := by
  refine (show Fun K "is_year" "is_year" st_is_year (ad 11) (fd 11) from T.f 11 (by decide)).ok sc_is_year (fun vs H Q E h => len1 h) (fun cdv A outer s H vs Q E hr h => ?_)
  have hu := hu_of hr
  have hu65 := hu65_of hr
  refine ⟨_, (pss_one (ps_ret (pe_call (ok_is_whole_within (K := K) T) (hr.mono (by omega)) (by rfl) (T.g 6 (by decide)) (T.k 6 (by decide)) (bd_is_whole_within T) .nil pass0 (pa_cons (pv 0) (pa_cons pe_int (pa_cons pe_int pa_nil)))))), ?_⟩
  refine body1 h fun x φ hk => ?_
  rw [show st0 nm_is_year [x] = [.d x] from rfl]
  obtain ⟨hx, hk⟩ := hk
  exact ⟨rfl, rfl, rfl, 1840, 2100, rfl, rfl, hx, hk⟩
def setB (x : D) : Bool := match x with
  | .tup [l, y, m] => (letB l 1 8 && inB y 1840 2100) && inB m 1 6
  | _ => false
def kSetB (x : D) (φ : En → Prop) : Prop := x.good = true ∧ φ (.d (.bl (setB x)))
theorem tup3 {x : D} (c : tupB x 3 3 = true) : ∃ u v w, x = .tup [u, v, w] := by
  cases x with
  | tup xs =>
    simp only [tupB, Bool.and_eq_true, decide_eq_true_eq] at c
    have : xs.length = 3 := by omega
    match xs, this with
    | [u, v, w], _ => exact ⟨u, v, w, rfl⟩
  | _ => cases c
theorem tup2 {x : D} (c : tupB x 2 2 = true) : ∃ u v, x = .tup [u, v] := by
  cases x with
  | tup xs =>
    simp only [tupB, Bool.and_eq_true, decide_eq_true_eq] at c
    have : xs.length = 2 := by omega
    match xs, this with
    | [u, v], _ => exact ⟨u, v, rfl⟩
  | _ => cases c
theorem not3 {x : D} {B : D → D → D → Bool} {f : D → Bool} (hf : ∀ y, f y = match y with | .tup [u, v, w] => B u v w | _ => false) (c : tupB x 3 3 = false) : f x = false := by
  rw [hf]
  cases x with
  | tup xs =>
    match xs, c with
    | [a, b, d], c => exact absurd c (by simp [tupB])
    | [], _ => rfl
    | [_], _ => rfl
    | [_, _], _ => rfl
    | _ :: _ :: _ :: _ :: _, _ => rfl
  | _ => rfl
theorem not2 {x : D} {B : D → D → Bool} {f : D → Bool} (hf : ∀ y, f y = match y with | .tup [u, v] => B u v | _ => false) (c : tupB x 2 2 = false) : f x = false := by
  rw [hf]
  cases x with
  | tup xs =>
    match xs, c with
    | [a, b], c => exact absurd c (by simp [tupB])
    | [], _ => rfl
    | [_], _ => rfl
    | _ :: _ :: _ :: _, _ => rfl
  | _ => rfl
theorem ok_is_set (T : Txt K mg ad fd) : FnOk P w K mg base CX0 4 (ad 12) (fd 12) ps_is_set (spX K (sp1 kSetB)) := by
  refine (show Fun K "is_set" "is_set" st_is_set (ad 12) (fd 12) from T.f 12 (by decide)).ok sc_is_set (fun vs H Q E h => len1 h) (fun cdv A outer s H vs Q E hr h => ?_)
  have hu := hu_of hr
  have hu65 := hu65_of hr
  refine ⟨_, (pss_cons (ps_if (pt_not (pt_val (pe_call (ok_is_tuple (K := K) T) (hr.mono (by omega)) (by rfl) (T.g 8 (by decide)) (T.k 8 (by decide)) (bd_is_tuple T) .nil pass0 (pa_cons (pv 0) (pa_cons pe_int (pa_cons pe_int pa_nil))))))
    (pss_one (ps_ret pe_bl))
    pss_nil)
  (pss_cons (ps_asg (pv 0) (pg_tupK (K := K) (n := 3) rfl (pgs_cons (pg_name (i := 1) sc_is_set.nd rfl (Or.inl rfl)) (pgs_cons (pg_name (i := 2) sc_is_set.nd rfl (Or.inl rfl)) (pgs_cons (pg_name (i := 3) sc_is_set.nd rfl (Or.inl rfl)) pgs_nil)))))
  (pss_one (ps_ret (pe_and (pe_call (ok_is_letters (K := K) T) (hr.mono (by omega)) (by rfl) (T.g 7 (by decide)) (T.k 7 (by decide)) (bd_is_letters T) .nil pass0 (pa_cons (pv 1) (pa_cons pe_int (pa_cons pe_int pa_nil)))) (pe_and (pe_call (ok_is_year (K := K) T) (hr.mono (by omega)) (by rfl) (T.g 11 (by decide)) (T.k 11 (by decide)) (bd_is_year T) .nil pass0 (pa_cons (pv 2) pa_nil)) (pe_one (pe_call (ok_is_whole_within (K := K) T) (hr.mono (by omega)) (by rfl) (T.g 6 (by decide)) (T.k 6 (by decide)) (bd_is_whole_within T) .nil pass0 (pa_cons (pv 3) (pa_cons pe_int (pa_cons pe_int pa_nil))))))))))), ?_⟩
  refine body1 h fun x φ hk => ?_
  rw [show st0 nm_is_set [x] = [.d x, .no, .no, .no] from rfl]
  obtain ⟨hg, hk⟩ := hk
  refine ⟨rfl, rfl, rfl, 3, 3, rfl, rfl, good_ty hg, ?_⟩
  (dsimp only [dB, dAnd, dOr, dNot, dEqE, wf_d, wf_l, wb_b, wi_i, wt_t, wl_l, wl_d, List.set_cons_zero, List.set_cons_succ])
  cases c : tupB x 3 3 with
  | false =>
    rw [not3 (f := setB) (fun _ => rfl) c] at hk
    exact ifT rfl ⟨rfl, hk⟩
  | true =>
    obtain ⟨l, y, m, rfl⟩ := tup3 c
    have pg := (tup_good hg).1
    have e0 : setB (.tup [l, y, m]) = ((letB l 1 8 && inB y 1840 2100) && inB m 1 6) := rfl
    rw [e0] at hk
    refine ifF rfl ?_
    (try dsimp only [dNext, dSeq, dIfS, dB, dOp, dNot, dOr, dAnd, dNotV, dOrV, dAndV, dAsg, dRet, dDrop, dCB, dIf, dTup, dLst, dCons, dNil, wf_d, wf_l, wb_b, wi_i, wt_t, wl_l, wl_d, tupR_t, tupR_l, lstR_t, lstR_l, List.set_cons_zero, List.set_cons_succ])
    refine ⟨rfl, rfl, rfl, rfl, rfl, 1, 8, rfl, rfl, pg l (by simp), ?_⟩
    (dsimp only [dB, dAnd, dOr, dNot, dEqE, wf_d, wf_l, wb_b, wi_i, wt_t, wl_l, wl_d, List.set_cons_zero, List.set_cons_succ])
    refine ifB (fun c1 => ⟨rfl, good_ty (pg y (by simp)), ?_⟩) (fun c1 => ?_)
    · (dsimp only [dB, dAnd, dOr, dNot, dEqE, wf_d, wf_l, wb_b, wi_i, wt_t, wl_l, wl_d, List.set_cons_zero, List.set_cons_succ])
      rw [c1, Bool.true_and] at hk
      refine ifB (fun c2 => ⟨rfl, rfl, rfl, 1, 6, rfl, rfl, good_ty (pg m (by simp)), ?_⟩) (fun c2 => ?_)
      · rw [c2, Bool.true_and] at hk
        exact hk
      · rw [c2, Bool.false_and] at hk
        exact hk
    · rw [c1, Bool.false_and, Bool.false_and] at hk
      exact hk
/-- heads of sets, rising -/
def prsH : List (Str × Int) → List ((Str × Int) × (Str × Int))
  | a :: b :: r => (a, b) :: prsH (b :: r)
  | _ => []
def risH : List (Str × Int) → Bool
  | a :: b :: r => hdLt a b && risH (b :: r)
  | _ => true
theorem risH_prs : ∀ hs : List (Str × Int), risH hs = (prsH hs).all fun p => hdLt p.1 p.2
  | [] => rfl
  | [_] => rfl
  | a :: b :: r => by
    show (hdLt a b && risH (b :: r)) = (hdLt a b && (prsH (b :: r)).all _)
    rw [risH_prs (b :: r)]
def prH (p : (Str × Int) × (Str × Int)) : D := .tup [hdD p.1, hdD p.2]
theorem zip_prsH : ∀ hs : List (Str × Int), zipD (hs.map hdD) ((hs.map hdD).drop 1) = (prsH hs).map prH
  | [] => rfl
  | [_] => rfl
  | a :: b :: r => by
    show D.tup [hdD a, hdD b] :: zipD ((b :: r).map hdD) (r.map hdD) = prH (a, b) :: (prsH (b :: r)).map prH
    have := zip_prsH (b :: r)
    rw [show ((b :: r).map hdD).drop 1 = r.map hdD from rfl] at this
    rw [this]
    rfl
theorem prsH_len : ∀ hs : List (Str × Int), (prsH hs).length ≤ hs.length
  | [] => Nat.le_refl _
  | [_] => Nat.zero_le _
  | a :: b :: r => by
    have := prsH_len (b :: r)
    simp only [prsH, List.length_cons] at this ⊢
    omega
theorem hd_flat (h : Str × Int) : (hdD h).flat = true := rfl
theorem hd_alike (a b : Str × Int) : PySem.W.alike (hdD a).py (hdD b).py = true := by
  simp [hdD, D.py, pys, PySem.W.alike, PySem.W.alikeAll]
theorem hd_depth (a : Str × Int) : (hdD a).py.depth ≤ 60 := by
  simp [hdD, D.py, pys, PyData.depth, PyData.depthAll]
theorem risH_of : ∀ {hs : List (Str × Int)}, hs.Pairwise hdR → risH hs = true
  | [], _ => rfl
  | [_], _ => rfl
  | a :: b :: r, h => by
    obtain ⟨h1, h2⟩ := List.pairwise_cons.mp h
    show (hdLt a b && risH (b :: r)) = true
    rw [risH_of h2, hd_lt, decide_eq_true (h1 b List.mem_cons_self)]
    rfl
def kRisH (x : D) (φ : En → Prop) : Prop := ∃ hs : List (Str × Int), x = .lst (hs.map hdD) ∧ hs.length ≤ 1000 ∧ φ (.d (.bl (risH hs)))
theorem ok_is_rising_H (T : Txt K mg ad fd) : FnOk P w K mg base CX0 1 (ad 9) (fd 9) ps_is_rising (spX K (sp1 kRisH)) := by
  refine (show Fun K "is_rising" "is_rising" st_is_rising (ad 9) (fd 9) from T.f 9 (by decide)).ok sc_is_rising (fun vs H Q E h => len1 h) (fun cdv A outer s H vs Q E hr h => ?_)
  have hu := hu_of hr
  have hu65 := hu65_of hr
  refine ⟨_, (pss_one (ps_ret (pe_callB (r := rAll K) (cr_all rfl) (by rfl) (T.z 9 (by decide)) (by decide +kernel) (pa_cons (pe_lc (own := [("ahead", 1), ("behind", 2)]) (g := (gTup K 2 (gCons (gName 1) (gCons (gName 2) gNil)))) (tt := tYes) rfl sc_is_rising.nd (pi_zipAK (K := K) (by rfl) (T.z 11 (by decide)) (pa_cons (pv 0) (pa_cons (pe_slice (r := rSlL K) sl_list (pv 0) (po_some pe_int) po_none) pa_nil)))
      (blkOk_by (N := nm_is_rising) (sc := defScope st_is_rising) (by decide +kernel)) (fun _ _ _ _ _ => by exact (pg_tupK (K := K) (n := 2) rfl (pgs_cons (pg_name (i := 1) sc_is_rising.nd rfl (Or.inl rfl)) (pgs_cons (pg_name (i := 2) sc_is_rising.nd rfl (Or.inl rfl)) pgs_nil)))) (fun _ _ _ _ _ => pts_nil)
      (fun _ _ _ _ _ => by exact (pe_cmpR (r := rLtD K) (op_ltD hr.units) (pv 1) (pv 2) (nomark _)))) pa_nil)))), ?_⟩
  refine body1 h fun x φ hk => ?_
  rw [show st0 nm_is_rising [x] = [.d x, .no, .no] from rfl]
  obtain ⟨hs, rfl, hl, hk⟩ := hk
  have pl := prsH_len hs
  (try simp only [dVar, dC, dNil, dCons, dTup, dLst, dOp, onI, dI, dI0, dUn, dEq, dNe, dIxT, dIxL, dIxLv, dAndV, dOrV, dNotV, dB, dAnd, dOr, dNot, dYes, dIf, dChain, dCB, dLenR, dLenv, dListR, dTupR, dMxR, dMnR, dIntR, dIsi, dNoPart, dPart, dSl, dCatA, dCat, dRep, dIn, dInD, dIsN, D.isN, dCall, dCallP, dCallS, dPen0, dTruv, dRg1, dRg2, dLstRg, dTupRg, dLenSet, wf, wb, wi, wt, wl, vD, isSc, dSeq, dNext, dRet, dRetv, dRetN, dIfS, dAsg, dAsgT, dgTup, dgCons, dPar, dApp, dExt, dSetL, dPopAt, dRse, dNever, dDrop, dITup, dILst, dIRng1, dIRng2, dIDn, dIEnT, dIEnL, dIZip, po, poP, sp0, sp1, sp2, sp3, sp4, sp5, pp0, pp1, pp2, pp3, pp4, mo0, mo1, mo2, mo3, dBrw, immE, dMethO, dMake, dFSet, dFPut, fputK, dFDel, dGet2X, dOrT, dIStr, dLeStr, dAttr, dMeth, List.set_cons_zero, List.set_cons_succ, List.getElem?_cons_zero, List.getElem?_cons_succ, List.all_nil, List.map_nil, List.append_nil, List.cons_append, List.nil_append, true_and, ite_true, if_true])
  refine dLc_pure (items := (prsH hs).map prH) (Γ1 := [.d (.lst (hs.map hdD)), .no, .no]) (Γw := [.d (.lst (hs.map hdD)), .no, .no]) (fun x => match x with | .tup [a, b] => .bl (PySem.W.dataLt a.py b.py) | _ => .non) rfl (fun ψ h => ?_) rfl rfl (by rw [List.length_map]; omega) (fun d hd ψ q => ?_) ?_
  · (try simp only [dVar, dC, dNil, dCons, dTup, dLst, dOp, onI, dI, dI0, dUn, dEq, dNe, dIxT, dIxL, dIxLv, dAndV, dOrV, dNotV, dB, dAnd, dOr, dNot, dYes, dIf, dChain, dCB, dLenR, dLenv, dListR, dTupR, dMxR, dMnR, dIntR, dIsi, dNoPart, dPart, dSl, dCatA, dCat, dRep, dIn, dInD, dIsN, D.isN, dCall, dCallP, dCallS, dPen0, dTruv, dRg1, dRg2, dLstRg, dTupRg, dLenSet, wf, wb, wi, wt, wl, vD, isSc, dSeq, dNext, dRet, dRetv, dRetN, dIfS, dAsg, dAsgT, dgTup, dgCons, dPar, dApp, dExt, dSetL, dPopAt, dRse, dNever, dDrop, dITup, dILst, dIRng1, dIRng2, dIDn, dIEnT, dIEnL, dIZip, po, poP, sp0, sp1, sp2, sp3, sp4, sp5, pp0, pp1, pp2, pp3, pp4, mo0, mo1, mo2, mo3, dBrw, immE, dMethO, dMake, dFSet, dFPut, fputK, dFDel, dGet2X, dOrT, dIStr, dLeStr, dAttr, dMeth, List.set_cons_zero, List.set_cons_succ, List.getElem?_cons_zero, List.getElem?_cons_succ, List.all_nil, List.map_nil, List.append_nil, List.cons_append, List.nil_append, true_and, ite_true, if_true])
    have e : cutL (hs.map hdD) (some 1) none = (hs.map hdD).drop 1 := cutL_from (n := 1)
    rw [e, zip_prsH]
    exact h
  · obtain ⟨p, hp, rfl⟩ := List.mem_map.mp hd
    (try simp only [dVar, dC, dNil, dCons, dTup, dLst, dOp, onI, dI, dI0, dUn, dEq, dNe, dIxT, dIxL, dIxLv, dAndV, dOrV, dNotV, dB, dAnd, dOr, dNot, dYes, dIf, dChain, dCB, dLenR, dLenv, dListR, dTupR, dMxR, dMnR, dIntR, dIsi, dNoPart, dPart, dSl, dCatA, dCat, dRep, dIn, dInD, dIsN, D.isN, dCall, dCallP, dCallS, dPen0, dTruv, dRg1, dRg2, dLstRg, dTupRg, dLenSet, wf, wb, wi, wt, wl, vD, isSc, dSeq, dNext, dRet, dRetv, dRetN, dIfS, dAsg, dAsgT, dgTup, dgCons, dPar, dApp, dExt, dSetL, dPopAt, dRse, dNever, dDrop, dITup, dILst, dIRng1, dIRng2, dIDn, dIEnT, dIEnL, dIZip, po, poP, sp0, sp1, sp2, sp3, sp4, sp5, pp0, pp1, pp2, pp3, pp4, mo0, mo1, mo2, mo3, dBrw, immE, dMethO, dMake, dFSet, dFPut, fputK, dFDel, dGet2X, dOrT, dIStr, dLeStr, dAttr, dMeth, List.set_cons_zero, List.set_cons_succ, List.getElem?_cons_zero, List.getElem?_cons_succ, List.all_nil, List.map_nil, List.append_nil, List.cons_append, List.nil_append, true_and, ite_true, if_true, prH])
    exact ⟨rfl, hd_flat _, hd_flat _, hd_alike _ _, (fun z => nomatch z), hd_depth _, q _ _ rfl rfl⟩
  · (try simp only [dVar, dC, dNil, dCons, dTup, dLst, dOp, onI, dI, dI0, dUn, dEq, dNe, dIxT, dIxL, dIxLv, dAndV, dOrV, dNotV, dB, dAnd, dOr, dNot, dYes, dIf, dChain, dCB, dLenR, dLenv, dListR, dTupR, dMxR, dMnR, dIntR, dIsi, dNoPart, dPart, dSl, dCatA, dCat, dRep, dIn, dInD, dIsN, D.isN, dCall, dCallP, dCallS, dPen0, dTruv, dRg1, dRg2, dLstRg, dTupRg, dLenSet, wf, wb, wi, wt, wl, vD, isSc, dSeq, dNext, dRet, dRetv, dRetN, dIfS, dAsg, dAsgT, dgTup, dgCons, dPar, dApp, dExt, dSetL, dPopAt, dRse, dNever, dDrop, dITup, dILst, dIRng1, dIRng2, dIDn, dIEnT, dIEnL, dIZip, po, poP, sp0, sp1, sp2, sp3, sp4, sp5, pp0, pp1, pp2, pp3, pp4, mo0, mo1, mo2, mo3, dBrw, immE, dMethO, dMake, dFSet, dFPut, fputK, dFDel, dGet2X, dOrT, dIStr, dLeStr, dAttr, dMeth, List.set_cons_zero, List.set_cons_succ, List.getElem?_cons_zero, List.getElem?_cons_succ, List.all_nil, List.map_nil, List.append_nil, List.cons_append, List.nil_append, true_and, ite_true, if_true])
    refine ⟨(prsH hs).map fun p => hdLt p.1 p.2, by rw [List.map_map, List.map_map]; rfl, ?_⟩
    rw [List.all_map]
    rw [risH_prs] at hk
    exact hk
/-- what a set is -/
def toHd (x : D) : Str × Int := match x with
  | .tup [.str l, .int y, _] => (l, y)
  | _ => (Str.empty, 0)
def lstB (x : D) : Bool := match x with
  | .tup xs => (decide (1 ≤ (xs.length : Int)) && decide ((xs.length : Int) ≤ 4)) && (xs.all setB && risH (xs.map toHd))
  | _ => false
theorem setB_ok {x : D} (h : setB x = true) : ∃ (l : Str) (y m : Int), x = .tup [.str l, .int y, .int m] ∧ letB (.str l) 1 8 = true ∧ (1840 ≤ y ∧ y ≤ 2100) ∧ 1 ≤ m ∧ m ≤ 6 := by
  cases x with
  | tup xs =>
    match xs, h with
    | [a, b, d], h =>
      have h : ((letB a 1 8 && inB b 1840 2100) && inB d 1 6) = true := h
      rw [Bool.and_eq_true, Bool.and_eq_true] at h
      obtain ⟨⟨h1, h2⟩, h3⟩ := h
      cases a with
      | str l =>
        cases b with
        | int y =>
          cases d with
          | int m =>
            simp only [inB, Bool.and_eq_true, decide_eq_true_eq] at h2 h3
            exact ⟨l, y, m, rfl, h1, h2, h3⟩
          | _ => cases h3
        | _ => cases h2
      | _ => cases h1
    | [], h => cases h
    | [_], h => cases h
    | [_, _], h => cases h
    | _ :: _ :: _ :: _ :: _, h => cases h
  | _ => cases h
def kLst (x : D) (φ : En → Prop) : Prop := x.good = true ∧ φ (.d (.bl (lstB x)))
theorem ok_is_list (T : Txt K mg ad fd) : FnOk P w K mg base CX0 5 (ad 13) (fd 13) ps_is_list (spX K (sp1 kLst)) := by
  refine (show Fun K "is_list" "is_list" st_is_list (ad 13) (fd 13) from T.f 13 (by decide)).ok sc_is_list (fun vs H Q E h => len1 h) (fun cdv A outer s H vs Q E hr h => ?_)
  have hu := hu_of hr
  have hu65 := hu65_of hr
  refine ⟨_, (pss_cons (ps_if (PW.pt (pw_or (pt_not (pt_val (pe_call (ok_is_tuple (K := K) T) (hr.mono (by omega)) (by rfl) (T.g 8 (by decide)) (T.k 8 (by decide)) (bd_is_tuple T) .nil pass0 (pa_cons (pv 0) (pa_cons pe_int (pa_cons pe_int pa_nil)))))) (pw_or1 (pt_not (pt_val (pe_callB (r := rAll K) (cr_all rfl) (by rfl) (T.z 9 (by decide)) (by decide +kernel) (pa_cons (pe_lc (own := [("part", 1)]) (g := (gName 1)) (tt := tYes) rfl sc_is_list.nd (pi_tupK (K := K) (pv 0))
      (blkOk_by (N := nm_is_list) (sc := defScope st_is_list) (by decide +kernel)) (fun _ _ _ _ _ => by exact (pg_name (i := 1) sc_is_list.nd rfl (Or.inl rfl))) (fun _ _ _ _ _ => pts_nil)
      (fun _ _ _ _ _ => by exact (pe_call (ok_is_set (K := K) T) (hr.mono (by omega)) (by rfl) (T.g 12 (by decide)) (T.k 12 (by decide)) (bd_is_set T) .nil pass0 (pa_cons (pv 1) pa_nil)))) pa_nil)))))))
    (pss_one (ps_ret pe_bl))
    pss_nil)
  (pss_one (ps_ret (pe_call (ok_is_rising_H (K := K) T) (hr.mono (by omega)) (by rfl) (T.g 9 (by decide)) (T.k 9 (by decide)) (bd_is_rising T) .nil pass0 (pa_cons (pe_lc (own := [("part", 1)]) (g := (gName 1)) (tt := tYes) rfl sc_is_list.nd (pi_tupK (K := K) (pv 0))
      (blkOk_by (N := nm_is_list) (sc := defScope st_is_list) (by decide +kernel)) (fun _ _ _ _ _ => by exact (pg_name (i := 1) sc_is_list.nd rfl (Or.inl rfl))) (fun _ _ _ _ _ => pts_nil)
      (fun _ _ _ _ _ => by exact (pe_slice (r := rSlA K) sl_tupA (pv 1) po_none (po_some pe_int)))) pa_nil))))), ?_⟩
  refine body1 h fun x φ hk => ?_
  rw [show st0 nm_is_list [x] = [.d x, .no] from rfl]
  obtain ⟨hg, hk⟩ := hk
  refine ⟨rfl, rfl, rfl, 1, 4, rfl, rfl, good_ty hg, ?_⟩
  cases c : tupB x 1 4 with
  | false =>
    have e0 : lstB x = false := by
      cases x with
      | tup xs =>
        have e1 : lstB (.tup xs) = (tupB (.tup xs) 1 4 && (xs.all setB && risH (xs.map toHd))) := rfl
        rw [e1, c, Bool.false_and]
      | _ => rfl
    rw [e0] at hk
    exact wb_t (ifT rfl (ifT rfl ⟨rfl, hk⟩))
  | true =>
    obtain ⟨xs, rfl⟩ : ∃ xs, x = .tup xs := by
      cases x with
      | tup xs => exact ⟨xs, rfl⟩
      | _ => cases c
    obtain ⟨pg, pl⟩ := tup_good hg
    have e1 : lstB (.tup xs) = (tupB (.tup xs) 1 4 && (xs.all setB && risH (xs.map toHd))) := rfl
    rw [e1, c, Bool.true_and] at hk
    refine wb_t (ifF rfl ?_)
    (try dsimp only [dNext, dSeq, dIfS, dB, dOp, dNot, dOr, dAnd, dNotV, dOrV, dAndV, dAsg, dRet, dDrop, dCB, dIf, dTup, dLst, dCons, dNil, wf_d, wf_l, wb_b, wi_i, wt_t, wl_l, wl_d, tupR_t, tupR_l, lstR_t, lstR_l, List.set_cons_zero, List.set_cons_succ])
    refine dLc_pure (items := xs) (Γ1 := [.d (.tup xs), .no]) (Γw := [.d (.tup xs), .no]) (fun y => .bl (setB y)) rfl (fun ψ h => h) rfl rfl (by omega) (fun d hd ψ q => ?_) ?_
    · exact ⟨rfl, pg d hd, q _ _ rfl rfl⟩
    · refine ⟨xs.map setB, by rw [List.map_map]; rfl, ?_⟩
      rw [List.all_map]
      show (if (!(xs.all setB)) = true then _ else _)
      cases ca : xs.all setB with
      | false =>
        rw [ca, Bool.false_and] at hk
        exact ifT rfl ⟨rfl, hk⟩
      | true =>
        rw [ca, Bool.true_and] at hk
        refine ifF rfl ?_
        (try simp only [dVar, dC, dNil, dCons, dTup, dLst, dOp, onI, dI, dI0, dUn, dEq, dNe, dIxT, dIxL, dIxLv, dAndV, dOrV, dNotV, dB, dAnd, dOr, dNot, dYes, dIf, dChain, dCB, dLenR, dLenv, dListR, dTupR, dMxR, dMnR, dIntR, dIsi, dNoPart, dPart, dSl, dCatA, dCat, dRep, dIn, dInD, dIsN, D.isN, dCall, dCallP, dCallS, dPen0, dTruv, dRg1, dRg2, dLstRg, dTupRg, dLenSet, wf, wb, wi, wt, wl, vD, isSc, dSeq, dNext, dRet, dRetv, dRetN, dIfS, dAsg, dAsgT, dgTup, dgCons, dPar, dApp, dExt, dSetL, dPopAt, dRse, dNever, dDrop, dITup, dILst, dIRng1, dIRng2, dIDn, dIEnT, dIEnL, dIZip, po, poP, sp0, sp1, sp2, sp3, sp4, sp5, pp0, pp1, pp2, pp3, pp4, mo0, mo1, mo2, mo3, dBrw, immE, dMethO, dMake, dFSet, dFPut, fputK, dFDel, dGet2X, dOrT, dIStr, dLeStr, dAttr, dMeth, List.set_cons_zero, List.set_cons_succ, List.getElem?_cons_zero, List.getElem?_cons_succ, List.all_nil, List.map_nil, List.append_nil, List.cons_append, List.nil_append, true_and, ite_true, if_true])
        refine dLc_pure (items := xs) (Γ1 := [.d (.tup xs), .no]) (Γw := [.d (.tup xs), .no]) (fun y => hdD (toHd y)) rfl (fun ψ h => h) rfl rfl (by omega) (fun d hd ψ q => ?_) ?_
        · obtain ⟨l, y, m, rfl, _⟩ := setB_ok (List.all_eq_true.mp ca d hd)
          exact ⟨rfl, rfl, q _ _ rfl rfl⟩
        · exact ⟨xs.map toHd, by rw [List.map_map]; rfl, by rw [List.length_map]; omega, hk⟩
/-! stamps -/
def setD (s : Str × Int × Int) : D := .tup [.str s.1, .int s.2.1, .int s.2.2]
def bookD (ss : List (Str × Int × Int)) : D := .tup (ss.map setD)
theorem setD_at {ss : List (Str × Int × Int)} {i : Int} (h0 : 0 ≤ i) (h1 : i < ss.length) : ∃ t, ss[i.toNat]? = some t ∧ atI (ss.map setD) i = some (setD t) := by
  have il : i.toNat < ss.length := by omega
  refine ⟨ss[i.toNat], List.getElem?_eq_getElem il, ?_⟩
  have z := atI_ok (xs := ss.map setD) (i := i.toNat) (x := setD ss[i.toNat]) (by rw [List.getElem?_map, List.getElem?_eq_getElem il]; rfl)
  rw [Int.toNat_of_nonneg h0] at z
  exact z
def iD : D → Int
  | .int i => i
  | _ => 0
theorem inB_int {x : D} {a b : Int} (h : inB x a b = true) : x = .int (iD x) ∧ a ≤ iD x ∧ iD x ≤ b := by
  cases x with
  | int i =>
    simp only [inB, Bool.and_eq_true, decide_eq_true_eq] at h
    exact ⟨rfl, h.1, h.2⟩
  | _ => cases h
def kSetN (o x : D) (φ : En → Prop) : Prop := ∃ ss, o = bookD ss ∧ x.good = true ∧ φ (.d (.bl (inB x 0 ((ss.length : Int) - 1))))
theorem ok_is_set_number (T : Txt K mg ad fd) : FnOk P w K mg base CX0 3 (ad 14) (fd 14) ps_is_set_number (spX K (sp2 kSetN)) := by
  refine (show Fun K "is_set_number" "is_set_number" st_is_set_number (ad 14) (fd 14) from T.f 14 (by decide)).ok sc_is_set_number (fun vs H Q E h => len2 h) (fun cdv A outer s H vs Q E hr h => ?_)
  have hu := hu_of hr
  have hu65 := hu65_of hr
  refine ⟨_, (pss_one (ps_ret (pe_call (ok_is_whole_within (K := K) T) (hr.mono (by omega)) (by rfl) (T.g 6 (by decide)) (T.k 6 (by decide)) (bd_is_whole_within T) .nil pass0 (pa_cons (pv 1) (pa_cons pe_int (pa_cons (pe_op op_sub (pe_callB (r := Da.rLen K) cl_len (by rfl) (T.z 0 (by decide)) (by decide +kernel) (pa_cons (pv 0) pa_nil)) pe_int) pa_nil)))))), ?_⟩
  refine body2 h fun x y φ hk => ?_
  rw [show st0 nm_is_set_number [x, y] = [.d x, .d y] from rfl]
  obtain ⟨ss, rfl, hg, hk⟩ := hk
  refine ⟨rfl, rfl, rfl, rfl, 0, (ss.length : Int) - 1, rfl, by rw [List.length_map]; rfl, good_ty hg, hk⟩
/-- how many places the set at i has -/
def manyAt (ss : List (Str × Int × Int)) (i : Int) : Int := match ss[i.toNat]? with
  | some t => t.2.2
  | none => 0
def plB (ss : List (Str × Int × Int)) (x : D) : Bool := match x with
  | .tup [a, n] => inB a 0 ((ss.length : Int) - 1) && inB n 0 (manyAt ss (iD a) - 1)
  | _ => false
def kPlB (o x : D) (φ : En → Prop) : Prop := ∃ ss, o = bookD ss ∧ x.good = true ∧ φ (.d (.bl (plB ss x)))
theorem ok_is_place (T : Txt K mg ad fd) : FnOk P w K mg base CX0 4 (ad 15) (fd 15) ps_is_place (spX K (sp2 kPlB)) := by
  refine (show Fun K "is_place" "is_place" st_is_place (ad 15) (fd 15) from T.f 15 (by decide)).ok sc_is_place (fun vs H Q E h => len2 h) (fun cdv A outer s H vs Q E hr h => ?_)
  have hu := hu_of hr
  have hu65 := hu65_of hr
  refine ⟨_, (pss_cons (ps_if (pt_not (pt_val (pe_call (ok_is_tuple (K := K) T) (hr.mono (by omega)) (by rfl) (T.g 8 (by decide)) (T.k 8 (by decide)) (bd_is_tuple T) .nil pass0 (pa_cons (pv 1) (pa_cons pe_int (pa_cons pe_int pa_nil))))))
    (pss_one (ps_ret pe_bl))
    pss_nil)
  (pss_cons (ps_asg (pv 1) (pg_tupK (K := K) (n := 2) rfl (pgs_cons (pg_name (i := 2) sc_is_place.nd rfl (Or.inl rfl)) (pgs_cons (pg_name (i := 3) sc_is_place.nd rfl (Or.inl rfl)) pgs_nil))))
  (pss_one (ps_ret (pe_and (pe_call (ok_is_set_number (K := K) T) (hr.mono (by omega)) (by rfl) (T.g 14 (by decide)) (T.k 14 (by decide)) (bd_is_set_number T) .nil pass0 (pa_cons (pv 0) (pa_cons (pv 2) pa_nil))) (pe_one (pe_call (ok_is_whole_within (K := K) T) (hr.mono (by omega)) (by rfl) (T.g 6 (by decide)) (T.k 6 (by decide)) (bd_is_whole_within T) .nil pass0 (pa_cons (pv 3) (pa_cons pe_int (pa_cons (pe_op op_sub (pe_ix (r := rIxT K) ix_tup (pe_ix (r := rIxT K) ix_tup (pv 0) (pv 2) (fun _ _ => rfl)) pe_int (fun _ _ => rfl)) pe_int) pa_nil)))))))))), ?_⟩
  refine body2 h fun x y φ hk => ?_
  rw [show st0 nm_is_place [x, y] = [.d x, .d y, .no, .no] from rfl]
  obtain ⟨ss, rfl, hg, hk⟩ := hk
  refine ⟨rfl, rfl, rfl, 2, 2, rfl, rfl, good_ty hg, ?_⟩
  cases c : tupB y 2 2 with
  | false =>
    rw [not2 (f := plB ss) (fun _ => rfl) c] at hk
    exact wb_t (ifT rfl ⟨rfl, hk⟩)
  | true =>
    obtain ⟨a, n, rfl⟩ := tup2 c
    have pg := (tup_good hg).1
    have e0 : plB ss (.tup [a, n]) = (inB a 0 ((ss.length : Int) - 1) && inB n 0 (manyAt ss (iD a) - 1)) := rfl
    rw [e0] at hk
    refine wb_t (ifF rfl ?_)
    (try dsimp only [dNext, dSeq, dIfS, dB, dOp, dNot, dOr, dAnd, dNotV, dOrV, dAndV, dAsg, dRet, dDrop, dCB, dIf, dTup, dLst, dCons, dNil, wf_d, wf_l, wb_b, wi_i, wt_t, wl_l, wl_d, tupR_t, tupR_l, lstR_t, lstR_l, List.set_cons_zero, List.set_cons_succ])
    refine ⟨rfl, rfl, rfl, ss, rfl, pg a (by simp), ?_⟩
    refine wb_t (ifB (fun c1 => ?_) (fun c1 => ?_))
    · rw [c1, Bool.true_and] at hk
      obtain ⟨ea, a0, a1⟩ := inB_int c1
      generalize iD a = i at *
      subst ea
      obtain ⟨t, ht, hat⟩ := setD_at (ss := ss) a0 (by omega)
      have em : manyAt ss i = t.2.2 := by
        unfold manyAt
        rw [ht]
      rw [em] at hk
      exact ⟨rfl, setD t, hat, rfl, .int t.2.2, rfl, rfl, rfl, rfl, 0, t.2.2 - 1, rfl, rfl, good_ty (pg n (by simp)), hk⟩
    · rw [c1, Bool.false_and] at hk
      exact hk
def stB (ss : List (Str × Int × Int)) (x : D) : Bool := match x with
  | .tup [a, n, g] => (inB a 0 ((ss.length : Int) - 1) && inB n 0 (manyAt ss (iD a) - 1)) && inB g 0 1
  | _ => false
def kStB (o x : D) (φ : En → Prop) : Prop := ∃ ss, o = bookD ss ∧ x.good = true ∧ φ (.d (.bl (stB ss x)))
theorem ok_is_stamp (T : Txt K mg ad fd) (TM : TxtM K mg C am fm) (TG : TxtG mg) : FnOk P w K mg base CX0 5 (ad 16) (fd 16) ps_is_stamp (spX K (sp2 kStB)) := by
  refine (show Fun K "is_stamp" "is_stamp" st_is_stamp (ad 16) (fd 16) from T.f 16 (by decide)).ok sc_is_stamp (fun vs H Q E h => len2 h) (fun cdv A outer s H vs Q E hr h => ?_)
  have hu := hu_of hr
  have hu65 := hu65_of hr
  refine ⟨_, (pss_cons (ps_if (pt_not (pt_val (pe_call (ok_is_tuple (K := K) T) (hr.mono (by omega)) (by rfl) (T.g 8 (by decide)) (T.k 8 (by decide)) (bd_is_tuple T) .nil pass0 (pa_cons (pv 1) (pa_cons pe_int (pa_cons pe_int pa_nil))))))
    (pss_one (ps_ret pe_bl))
    pss_nil)
  (pss_one (ps_ret (pe_and (pe_call (ok_is_place (K := K) T) (hr.mono (by omega)) (by rfl) (T.g 15 (by decide)) (T.k 15 (by decide)) (bd_is_place T) .nil pass0 (pa_cons (pv 0) (pa_cons (pe_slice (r := rSlA K) sl_tupA (pv 1) po_none (po_some pe_int)) pa_nil))) (pe_one (pe_call (ok_is_whole_within (K := K) T) (hr.mono (by omega)) (by rfl) (T.g 6 (by decide)) (T.k 6 (by decide)) (bd_is_whole_within T) .nil pass0 (pa_cons (pe_ix (r := rIxT K) ix_tup (pv 1) pe_int (fun _ _ => rfl)) (pa_cons (pe_glob (v := .int 0) (by rfl) TG.hinged.choose_spec ⟨_, rfl⟩) (pa_cons (pe_glob (v := .int 1) (by rfl) TG.whole.choose_spec ⟨_, rfl⟩) pa_nil))))))))), ?_⟩
  refine body2 h fun x y φ hk => ?_
  rw [show st0 nm_is_stamp [x, y] = [.d x, .d y] from rfl]
  obtain ⟨ss, rfl, hg, hk⟩ := hk
  refine ⟨rfl, rfl, rfl, 3, 3, rfl, rfl, good_ty hg, ?_⟩
  cases c : tupB y 3 3 with
  | false =>
    rw [not3 (f := stB ss) (fun _ => rfl) c] at hk
    exact wb_t (ifT rfl ⟨rfl, hk⟩)
  | true =>
    obtain ⟨a, n, g, rfl⟩ := tup3 c
    have pg := (tup_good hg).1
    have e0 : stB ss (.tup [a, n, g]) = (plB ss (.tup [a, n]) && inB g 0 1) := rfl
    rw [e0] at hk
    refine wb_t (ifF rfl ?_)
    (try dsimp only [dNext, dSeq, dIfS, dB, dOp, dNot, dOr, dAnd, dNotV, dOrV, dAndV, dAsg, dRet, dDrop, dCB, dIf, dTup, dLst, dCons, dNil, wf_d, wf_l, wb_b, wi_i, wt_t, wl_l, wl_d, tupR_t, tupR_l, lstR_t, lstR_l, List.set_cons_zero, List.set_cons_succ])
    have eg : (D.tup [a, n]).good = true := good_tup (fun x hx => pg x (by simp at hx ⊢; rcases hx with h | h <;> simp [h])) (by simp)
    refine ⟨rfl, rfl, rfl, ss, rfl, eg, ?_⟩
    refine wb_t (ifB (fun c1 => ?_) (fun c1 => ?_))
    · have c1 : plB ss (.tup [a, n]) = true := c1
      rw [c1, Bool.true_and] at hk
      exact ⟨rfl, g, rfl, rfl, rfl, rfl, 0, 1, rfl, rfl, good_ty (pg g (by simp)), hk⟩
    · have c1 : plB ss (.tup [a, n]) = false := c1
      rw [c1, Bool.false_and] at hk
      exact hk
def stsB (ss : List (Str × Int × Int)) (x : D) : Bool := match x with
  | .tup xs => xs.all (stB ss)
  | _ => false
def kStsB (o x : D) (φ : En → Prop) : Prop := ∃ ss, o = bookD ss ∧ x.ty.isSome = true ∧ (∀ xs, x = .tup xs → xs.length ≤ 10000 ∧ ∀ u ∈ xs, u.good = true) ∧ φ (.d (.bl (stsB ss x)))
theorem ok_is_stamps (T : Txt K mg ad fd) (TM : TxtM K mg C am fm) (TG : TxtG mg) : FnOk P w K mg base CX0 6 (ad 17) (fd 17) ps_is_stamps (spX K (sp2 kStsB)) := by
  refine (show Fun K "is_stamps" "is_stamps" st_is_stamps (ad 17) (fd 17) from T.f 17 (by decide)).ok sc_is_stamps (fun vs H Q E h => len2 h) (fun cdv A outer s H vs Q E hr h => ?_)
  have hu := hu_of hr
  have hu65 := hu65_of hr
  refine ⟨_, (pss_one (ps_ret (pe_and (pe_callB (r := rIsi K) call_isi (by rfl) (T.z 6 (by decide)) (by decide +kernel) (pa_cons (pv 1) (pa_cons (pe_bltn (v := .ty "tuple") (by rfl) (T.z 4 (by decide)) (by decide +kernel) rfl) pa_nil))) (pe_one (pe_callB (r := rAll K) (cr_all rfl) (by rfl) (T.z 9 (by decide)) (by decide +kernel) (pa_cons (pe_lc (own := [("part", 2)]) (g := (gName 2)) (tt := tYes) rfl sc_is_stamps.nd (pi_tupK (K := K) (pv 1))
      (blkOk_by (N := nm_is_stamps) (sc := defScope st_is_stamps) (by decide +kernel)) (fun _ _ _ _ _ => by exact (pg_name (i := 2) sc_is_stamps.nd rfl (Or.inl rfl))) (fun _ _ _ _ _ => pts_nil)
      (fun _ _ _ _ _ => by exact (pe_call (ok_is_stamp (K := K) T TM TG) (hr.mono (by omega)) (by rfl) (T.g 16 (by decide)) (T.k 16 (by decide)) (bd_is_stamp T) .nil pass0 (pa_cons (pv 0) (pa_cons (pv 2) pa_nil))))) pa_nil)))))), ?_⟩
  refine body2 h fun x y φ hk => ?_
  rw [show st0 nm_is_stamps [x, y] = [.d x, .d y, .no] from rfl]
  obtain ⟨ss, rfl, ht, hg, hk⟩ := hk
  cases y with
  | ins C ns xs => exact absurd ht Bool.false_ne_true
  | tup xs =>
    obtain ⟨pl, pg⟩ := hg xs rfl
    refine ⟨by decide, true, rfl, ?_⟩
    refine wb_t (ifT rfl ?_)
    (try dsimp only [dNext, dSeq, dIfS, dB, dOp, dNot, dOr, dAnd, dNotV, dOrV, dAndV, dAsg, dRet, dDrop, dCB, dIf, dTup, dLst, dCons, dNil, wf_d, wf_l, wb_b, wi_i, wt_t, wl_l, wl_d, tupR_t, tupR_l, lstR_t, lstR_l, List.set_cons_zero, List.set_cons_succ])
    refine dLc_pure (items := xs) (Γ1 := [.d (bookD ss), .d (.tup xs), .no]) (Γw := [.d (bookD ss), .d (.tup xs), .no]) (fun y => .bl (stB ss y)) rfl (fun ψ h => h) rfl rfl (by omega) (fun d hd ψ q => ?_) ?_
    · exact ⟨rfl, ss, rfl, pg d hd, q _ _ rfl rfl⟩
    · refine ⟨xs.map (stB ss), by rw [List.map_map]; rfl, ?_⟩
      rw [List.all_map]
      exact hk
  | _ =>
    refine ⟨by decide, false, rfl, ?_⟩
    exact wb_t (ifF rfl hk)
end
end Dl

set_option Elab.async false
set_option maxRecDepth 100000
set_option maxHeartbeats 4000000
set_option linter.all false
set_option synthInstance.maxHeartbeats 4000000
set_option synthInstance.maxSize 10000


namespace Dl
open PySem PySem.Spec PyProof.Rows L2 RZ HmS Da
section
variable {P : Program} {w : World} {K : PySem.W.Frag} [HasT K] {mg : Str → Option Value} {base : Heap} {ad am : Nat → Addr} {fd fm : Nat → FuncData} {C : Addr}
/-! ### albums -/
def nsA : List Str := ["_book", "_name", "_many"]
def osA (ss : List (Str × Int × Int)) (n : Str) (cs : Cts) : List O := [.d (bookD ss), .d (.str n), .dT (kyA cs) ((vlA cs).map O.d)]
def albD (C : Addr) (ss : List (Str × Int × Int)) (n : Str) (cs : Cts) : D := .ins C nsA [bookD ss, .str n, .dT (kyA cs) (vlA cs)]
theorem alb_dt (C : Addr) (ss : List (Str × Int × Int)) (n : Str) (cs : Cts) : (O.ins C nsA (osA ss n cs)).dt = albD C ss n cs := by
  show D.ins C nsA [bookD ss, .str n, .dT (kyA cs) (dts ((vlA cs).map O.d))] = _
  rw [dts_d]
  rfl
theorem st_good (s : St3) : (stD s).good = true := by simp [stD, D.good, goods]
theorem many_no : ¬ (("_many" : Str) ∈ (["_book", "_name"] : List Str)) := by decide +kernel
def kChk (C : Addr) (s x : D) (φ : En → Prop) : Prop := ∃ ss n cs, s = albD C ss n cs ∧ x.good = true ∧ stB ss x = true ∧ φ (.d .non)
theorem ok_Album__check_stamp (T : Txt K mg ad fd) (TM : TxtM K mg C am fm) (TG : TxtG mg) : FnOk P w K mg base CX0 6 (am 1) (fm 1) ps_Album__check_stamp (spX K (sp2 (kChk C))) := by
  refine (show Fun K "_check_stamp" "Album._check_stamp" st_Album__check_stamp (am 1) (fm 1) from TM.f 1 (by decide)).ok sc_Album__check_stamp (fun vs H Q E h => len2 h) (fun cdv A outer s H vs Q E hr h => ?_)
  have hu := hu_of hr
  have hu65 := hu65_of hr
  refine ⟨_, (pss_one (ps_if (pt_not (pt_val (pe_call (ok_is_stamp (K := K) T TM TG) (hr.mono (by omega)) (by rfl) (T.g 16 (by decide)) (T.k 16 (by decide)) (bd_is_stamp T) .nil pass0 (pa_cons (pe_fldK (K := K) (pv 0) rfl) (pa_cons (pv 1) pa_nil)))))
    (pss_one ps_never)
    pss_nil)), ?_⟩
  refine body2 h fun x y φ hk => ?_
  rw [show st0 nm_Album__check_stamp [x, y] = [.d x, .d y] from rfl]
  obtain ⟨ss, n, cs, rfl, hg, hs, hk⟩ := hk
  refine ⟨C, _, _, bookD ss, rfl, TM.cl, TM.nB, rfl, rfl, ss, rfl, hg, ?_⟩
  rw [hs]
  exact wb_t (ifF rfl hk)
def kCof (C : Addr) (s x : D) (φ : En → Prop) : Prop := ∃ ss n cs t, s = albD C ss n cs ∧ x = stD t ∧ stB ss x = true ∧ φ (.d (.int (cntA cs t)))
theorem ok_Album_count_of (T : Txt K mg ad fd) (TM : TxtM K mg C am fm) (TG : TxtG mg) : FnOk P w K mg base CX0 7 (am 4) (fm 4) ps_Album_count_of (spX K (sp2 (kCof C))) := by
  refine (show Fun K "count_of" "Album.count_of" st_Album_count_of (am 4) (fm 4) from TM.f 4 (by decide)).ok sc_Album_count_of (fun vs H Q E h => len2 h) (fun cdv A outer s H vs Q E hr h => ?_)
  have hu := hu_of hr
  have hu65 := hu65_of hr
  refine ⟨_, (pss_cons (ps_expr (pe_meth (pv 0) TM.cl (TM.m 1 (by decide)) (ok_Album__check_stamp (K := K) T TM TG) (hr.mono (by omega)) (bm__check_stamp TM) .nil pass0 (pa_cons (pv 1) pa_nil)))
  (pss_one (ps_ret (pe_dget2 hu (pe_fldK (K := K) (pv 0) rfl) (pv 1) pe_int ⟨rfl, rfl, rfl, rfl⟩)))), ?_⟩
  refine body2 h fun x y φ hk => ?_
  rw [show st0 nm_Album_count_of [x, y] = [.d x, .d y] from rfl]
  obtain ⟨ss, n, cs, t, rfl, rfl, hs, hk⟩ := hk
  refine ⟨⟨_, _, rfl, rfl⟩, rfl, ss, n, cs, rfl, st_good t, hs, ?_⟩
  refine ⟨C, _, _, .dT (kyA cs) (vlA cs), rfl, TM.cl, TM.nM, rfl, ⟨_, _, rfl⟩, rfl, _, _, _, rfl, keysOf_st t, ?_⟩
  show φ (.d ((lookD (kyA cs) (vlA cs) (keyT t)).getD (.int 0)))
  rw [look_getD]
  exact hk
def kChs (C : Addr) (s x m : D) (φ : En → Prop) : Prop := ∃ ss n cs k, s = albD C ss n cs ∧ x.good = true ∧ stB ss x = true ∧ m = .int k ∧ 1 ≤ k ∧ φ (.d .non)
theorem ok_Album__check_some (T : Txt K mg ad fd) (TM : TxtM K mg C am fm) (TG : TxtG mg) : FnOk P w K mg base CX0 7 (am 0) (fm 0) ps_Album__check_some (spX K (sp3 (kChs C))) := by
  refine (show Fun K "_check_some" "Album._check_some" st_Album__check_some (am 0) (fm 0) from TM.f 0 (by decide)).ok sc_Album__check_some (fun vs H Q E h => len3 h) (fun cdv A outer s H vs Q E hr h => ?_)
  have hu := hu_of hr
  have hu65 := hu65_of hr
  refine ⟨_, (pss_cons (ps_expr (pe_meth (pv 0) TM.cl (TM.m 1 (by decide)) (ok_Album__check_stamp (K := K) T TM TG) (hr.mono (by omega)) (bm__check_stamp TM) .nil pass0 (pa_cons (pv 1) pa_nil)))
  (pss_one (ps_if (pt_not (pt_val (pe_call (ok_is_whole_from (K := K) T) (hr.mono (by omega)) (by rfl) (T.g 5 (by decide)) (T.k 5 (by decide)) (bd_is_whole_from T) .nil pass0 (pa_cons (pv 2) (pa_cons pe_int pa_nil)))))
    (pss_one ps_never)
    pss_nil))), ?_⟩
  refine body3 h fun x y z φ hk => ?_
  rw [show st0 nm_Album__check_some [x, y, z] = [.d x, .d y, .d z] from rfl]
  obtain ⟨ss, n, cs, k, rfl, hg, hs, rfl, h1, hk⟩ := hk
  refine ⟨⟨_, _, rfl, rfl⟩, rfl, ss, n, cs, rfl, hg, hs, ?_⟩
  refine ⟨rfl, rfl, 1, rfl, rfl, ?_⟩
  show wb (.d (.bl (decide (k ≥ 1)))) _
  rw [decide_eq_true h1]
  exact wb_t (ifF rfl hk)
def kPut (C : Addr) (ns : List Str) (os : List O) (x m : D) (φ : List Str → List O → Prop) : Prop := ∃ ss n cs t k, ns = nsA ∧ os = osA ss n cs ∧ x = stD t ∧ stB ss x = true ∧ m = .int k ∧ 1 ≤ k ∧ cs.length ≤ 10000 ∧ φ nsA (osA ss n (addA cs t k))
theorem ok_Album_put (T : Txt K mg ad fd) (TM : TxtM K mg C am fm) (TG : TxtG mg) : FnOk P w K mg base CX0 8 (am 11) (fm 11) ps_Album_put (spO K C (mo2 (kPut C))) := by
  refine TM.fd_put.ok0D sc_Album_put (fun vs H Q E h => lemo2 h) (fun cdv A outer s H vs Q E hr h => ?_)
  have hu := hu_of hr
  have hu65 := hu65_of hr
  refine ⟨_, (pss_cons (ps_expr (pe_brw 0 (pe_meth (pv 0) TM.cl (TM.m 0 (by decide)) (ok_Album__check_some (K := K) T TM TG) (hr.mono (by omega)) (bm__check_some TM) .nil pass0 (pa_cons (pv 1) (pa_cons (pv 2) pa_nil)))))
  (pss_one (ps_dput hu (pe_fldK (K := K) (pv 0) rfl) (pv 1) (pe_op op_add (pe_brw 0 (pe_meth (pv 0) TM.cl (TM.m 4 (by decide)) (ok_Album_count_of (K := K) T TM TG) (hr.mono (by omega)) (bm_count_of TM) .nil pass0 (pa_cons (pv 1) pa_nil))) (pv 2)) rfl))), ?_⟩
  refine bodmo2 h fun ns os x y φ p T0 hk => ?_
  rw [show stO nm_Album_put (.ins C ns os) (p :: T0) [x, y] = [.ow (.ins C ns os) (p :: T0), .d x, .d y] from rfl]
  obtain ⟨ss, n, cs, t, k, rfl, rfl, rfl, hs, rfl, h1, hl, hk⟩ := hk
  refine ⟨_, _, rfl, ?_⟩
  rw [alb_dt]
  refine ⟨⟨_, _, rfl, rfl⟩, rfl, ss, n, cs, k, rfl, st_good t, hs, rfl, h1, rfl, ?_⟩
  refine ⟨_, _, rfl, ?_⟩
  rw [alb_dt]
  refine ⟨⟨_, _, rfl, rfl⟩, rfl, ss, n, cs, t, rfl, rfl, hs, rfl, rfl, ?_⟩
  refine ⟨C, ["_book", "_name"], [.d (bookD ss), .d (.str n)], kyA cs, vlA cs, _, stD t, keyT t, rfl, many_no, TM.cl, TM.nM, rfl, keysOf_st t, by rw [kyA_len]; omega, ?_⟩
  refine ⟨nsA, osA ss n (addA cs t k), T0, ?_, hk⟩
  obtain ⟨p1, p2⟩ := put_A cs t (cntA cs t + k)
  show some (En.ow (.ins C nsA ([.d (bookD ss), .d (.str n)] ++ [.dT (putTs (kyA cs) (keyT t)) ((putTD (kyA cs) (vlA cs) (keyT t) (.int (cntA cs t + k))).map O.d)])) (p :: T0)) = _
  rw [p1, p2]
  rfl
def kBok (C : Addr) (s : D) (φ : En → Prop) : Prop := ∃ ss n cs, s = albD C ss n cs ∧ φ (.d (bookD ss))
theorem ok_Album_book (T : Txt K mg ad fd) (TM : TxtM K mg C am fm) (TG : TxtG mg) : FnOk P w K mg base CX0 1 (am 2) (fm 2) ps_Album_book (spX K (sp1 (kBok C))) := by
  refine (show Fun K "book" "Album.book" st_Album_book (am 2) (fm 2) from TM.f 2 (by decide)).ok sc_Album_book (fun vs H Q E h => len1 h) (fun cdv A outer s H vs Q E hr h => ?_)
  have hu := hu_of hr
  have hu65 := hu65_of hr
  refine ⟨_, (pss_one (ps_ret (pe_fldK (K := K) (pv 0) rfl))), ?_⟩
  refine body1 h fun x φ hk => ?_
  rw [show st0 nm_Album_book [x] = [.d x] from rfl]
  obtain ⟨ss, n, cs, rfl, hk⟩ := hk
  exact ⟨C, _, _, bookD ss, rfl, TM.cl, TM.nB, rfl, hk⟩
def kCld (C : Addr) (s : D) (φ : En → Prop) : Prop := ∃ ss n cs, s = albD C ss n cs ∧ φ (.d (.str n))
theorem ok_Album_called (T : Txt K mg ad fd) (TM : TxtM K mg C am fm) (TG : TxtG mg) : FnOk P w K mg base CX0 1 (am 3) (fm 3) ps_Album_called (spX K (sp1 (kCld C))) := by
  refine (show Fun K "called" "Album.called" st_Album_called (am 3) (fm 3) from TM.f 3 (by decide)).ok sc_Album_called (fun vs H Q E h => len1 h) (fun cdv A outer s H vs Q E hr h => ?_)
  have hu := hu_of hr
  have hu65 := hu65_of hr
  refine ⟨_, (pss_one (ps_ret (pe_fldK (K := K) (pv 0) rfl))), ?_⟩
  refine body1 h fun x φ hk => ?_
  rw [show st0 nm_Album_called [x] = [.d x] from rfl]
  obtain ⟨ss, n, cs, rfl, hk⟩ := hk
  exact ⟨C, _, _, .str n, rfl, TM.cl, TM.nN, rfl, hk⟩
def kInit (C : Addr) (ns : List Str) (os : List O) (b nm st : D) (φ : List Str → List O → Prop) : Prop := ns = [] ∧ os = [] ∧ ∃ ss n, b = bookD ss ∧ b.good = true ∧ lstB b = true ∧ nm = .str n ∧ nm.good = true ∧ letB nm 0 8 = true ∧
  ((st = .non ∧ φ nsA (osA ss n [])) ∨ ∃ sts : List St3, st = .tup (sts.map stD) ∧ (∀ s ∈ sts, stB ss (stD s) = true) ∧ sts.length ≤ 1000 ∧ φ nsA (osA ss n (countsA sts)))
theorem fld_no : ¬ (("_book" : Str) ∈ ([] : List Str)) ∧ ¬ (("_name" : Str) ∈ (["_book"] : List Str)) := by decide +kernel
theorem ok_Album___init__ (T : Txt K mg ad fd) (TM : TxtM K mg C am fm) (TG : TxtG mg) : FnOk P w K mg base CX0 7 (am 10) (fm 10) ps_Album___init__ (spO K C (mo3 (kInit C))) := by
  refine TM.fd___init__.ok0D sc_Album___init__ (fun vs H Q E h => lemo3 h) (fun cdv A outer s H vs Q E hr h => ?_)
  have hu := hu_of hr
  have hu65 := hu65_of hr
  refine ⟨_, (pss_cons (ps_if (pt_not (pt_val (pe_call (ok_is_list (K := K) T) (hr.mono (by omega)) (by rfl) (T.g 13 (by decide)) (T.k 13 (by decide)) (bd_is_list T) .nil pass0 (pa_cons (pv 1) pa_nil))))
    (pss_one ps_never)
    pss_nil)
  (pss_cons (ps_if (pt_not (pt_val (pe_call (ok_is_letters (K := K) T) (hr.mono (by omega)) (by rfl) (T.g 7 (by decide)) (T.k 7 (by decide)) (bd_is_letters T) .nil pass0 (pa_cons (pv 2) (pa_cons pe_int (pa_cons pe_int pa_nil))))))
    (pss_one ps_never)
    pss_nil)
  (pss_cons (ps_if (PW.pt (pw_and (pt_cmpR (r := rNotN) op_notN1 (pv 3) pe_non (nomark _)) (pw_and1 (pt_not (pt_val (pe_call (ok_is_stamps (K := K) T TM TG) (hr.mono (by omega)) (by rfl) (T.g 17 (by decide)) (T.k 17 (by decide)) (bd_is_stamps T) .nil pass0 (pa_cons (pv 1) (pa_cons (pv 3) pa_nil))))))))
    (pss_one ps_never)
    pss_nil)
  (pss_cons (ps_fldK (K := K) (pv 0) (pv 1) rfl)
  (pss_cons (ps_fldK (K := K) (pv 0) (pv 2) rfl)
  (pss_cons (ps_fldK (K := K) (pv 0) pe_dnewT rfl)
  (pss_one (ps_for PassesOwn.never rfl (pi_tupK (K := K) (pe_orTK (K := K) (pv 3) (pe_one (pe_tup pa_nil)))) (pg_name (i := 4) sc_Album___init__.nd rfl (Or.inl rfl))
    (pss_one (ps_dput hu (pe_fldK (K := K) (pv 0) rfl) (pv 4) (pe_op op_add (pe_brw 0 (pe_dget2 hu (pe_fldK (K := K) (pv 0) rfl) (pv 4) pe_int ⟨rfl, rfl, rfl, rfl⟩)) pe_int) rfl)))))))))), ?_⟩
  refine bodmo3 h fun ns os x y z φ p T0 hk => ?_
  rw [show stO nm_Album___init__ (.ins C ns os) (p :: T0) [x, y, z] = [.ow (.ins C ns os) (p :: T0), .d x, .d y, .d z, .no] from rfl]
  obtain ⟨rfl, rfl, ss, n, rfl, hb, hl, rfl, hng, hn, hst⟩ := hk
  refine ⟨rfl, hb, ?_⟩
  rw [hl]
  refine wb_t (ifF rfl ?_)
  refine ⟨rfl, rfl, rfl, 0, 8, rfl, rfl, hng, ?_⟩
  rw [hn]
  refine wb_t (ifF rfl ?_)
  have tail : ∀ (sts : List St3) (T' : List Addr), (∀ s ∈ sts, stB ss (stD s) = true) → sts.length ≤ 1000 → φ nsA (osA ss n (countsA sts)) → ∃ I : Nat → List En → Prop, I 0 [.ow (.ins C nsA (osA ss n [])) (p :: T'), .d (bookD ss), .d (.str n), .d z, .no] ∧
      ∀ i Γ', I i Γ' → (i = (sts.map stD).length → (poO C p φ).nx Γ') ∧ ∀ d, (sts.map stD)[i]? = some d → dFPut K 0 4 (Str.ofString "_many") (dOp (dI0 fun i j => V.int (i + j)) (dBrw 0 (dGet2X (dAttr K (dVar 0) (Str.ofString "_many")) (dVar 4) (dC (V.int 0)))) (dC (V.int 1))) (Γ'.set 4 (.d d)) { poO C p φ with nx := I (i + 1), ct := I (i + 1), bk := (poO C p φ).nx } := by
    intro sts T' hs hl2 hk
    refine ⟨fun i Γ => ∃ v4, Γ = [.ow (.ins C nsA (osA ss n (countsA (sts.take i)))) (p :: T'), .d (bookD ss), .d (.str n), .d z, v4], ⟨_, rfl⟩, ?_⟩
    rintro i Γ ⟨v4, rfl⟩
    refine ⟨fun e => ?_, fun d hd => ?_⟩
    · rw [List.length_map] at e
      rw [e, List.take_length]
      exact ⟨nsA, _, T', rfl, hk⟩
    · obtain ⟨t, ht, rfl⟩ := at_map hd
      have il : i < sts.length := (List.getElem?_eq_some_iff.mp ht).1
      refine ⟨_, _, rfl, ?_⟩
      rw [alb_dt]
      refine ⟨C, _, _, .dT (kyA (countsA (sts.take i))) (vlA (countsA (sts.take i))), rfl, TM.cl, TM.nM, rfl, ⟨_, _, rfl⟩, rfl, _, _, _, rfl, keysOf_st t, ?_⟩
      show immE (.d ((lookD (kyA (countsA (sts.take i))) (vlA (countsA (sts.take i))) (keyT t)).getD (.int 0))) _
      rw [look_getD]
      refine ⟨rfl, rfl, rfl, ?_⟩
      have cl := countsA_len (sts.take i)
      rw [List.length_take] at cl
      refine ⟨C, ["_book", "_name"], [.d (bookD ss), .d (.str n)], kyA _, vlA _, _, stD t, keyT t, rfl, many_no, TM.cl, TM.nM, rfl, keysOf_st t, by rw [kyA_len]; omega, ?_⟩
      refine ⟨.d (stD t), ?_⟩
      obtain ⟨p1, p2⟩ := put_A (countsA (sts.take i)) t (cntA (countsA (sts.take i)) t + 1)
      have et : countsA (sts.take (i + 1)) = putA (countsA (sts.take i)) t (cntA (countsA (sts.take i)) t + 1) := by
        rw [List.take_add_one, ht]
        exact countsA_snoc _ _
      show [En.ow (.ins C nsA ([.d (bookD ss), .d (.str n)] ++ [.dT (putTs (kyA (countsA (sts.take i))) (keyT t)) ((putTD (kyA (countsA (sts.take i))) (vlA (countsA (sts.take i))) (keyT t) (.int (cntA (countsA (sts.take i)) t + 1))).map O.d)])) (p :: T'), .d (bookD ss), .d (.str n), .d z, .d (stD t)] = _
      rw [p1, p2, ← et]
      rfl
  have fin : ∀ (sts : List St3), (∀ s ∈ sts, stB ss (stD s) = true) → sts.length ≤ 1000 → φ nsA (osA ss n (countsA sts)) → (∀ (x0 : En) (ψ : List D → List En → Prop), ψ (sts.map stD) [x0, .d (bookD ss), .d (.str n), .d z, .no] → dOrT (dVar 3) (dTup dNil) [x0, .d (bookD ss), .d (.str n), .d z, .no] fun e Γ1 => wt e fun xs => ψ xs Γ1) →
      dSeq (dFSet K 0 (Str.ofString "_book") (dVar 1)) (dSeq (dFSet K 0 (Str.ofString "_name") (dVar 2)) (dSeq (dFSet K 0 (Str.ofString "_many") dNewT) (dFor (dITup (dOrT (dVar 3) (dTup dNil))) (fun d Γ φ => φ (Γ.set 4 (En.d d)))
                (dFPut K 0 4 (Str.ofString "_many") (dOp (dI0 fun i j => V.int (i + j)) (dBrw 0 (dGet2X (dAttr K (dVar 0) (Str.ofString "_many")) (dVar 4) (dC (V.int 0)))) (dC (V.int 1))))))) [.ow (.ins C [] []) (p :: T0), .d (bookD ss), .d (.str n), .d z, .no] (poO C p φ) := by
    intro sts hs hl2 hk ho
    refine ⟨C, [], [], p, T0, rfl, TM.cl, TM.nB, fld_no.1, by decide, ?_⟩
    refine ⟨C, ["_book"], [.d (bookD ss)], p, T0 ++ [], rfl, TM.cl, TM.nN, fld_no.2, by decide, ?_⟩
    intro m
    refine ⟨C, ["_book", "_name"], [.d (bookD ss), .d (.str n)], p, T0 ++ [] ++ [], rfl, TM.cl, TM.nM, many_no, by decide, ?_⟩
    exact ho _ _ (tail sts _ hs hl2 hk)
  rcases hst with ⟨rfl, hk⟩ | ⟨sts, rfl, hs, hl2, hk⟩
  · refine ⟨rfl, ?_⟩
    dsimp only [wf_d, vD, dIsN, D.isN, wb_b]
    refine ifF rfl (ifF rfl ?_)
    exact fin [] (fun s h => nomatch h) (Nat.zero_le _) hk fun x0 ψ h => ⟨false, rfl, ifF rfl ⟨Nat.zero_le _, h⟩⟩
  · refine ⟨rfl, ?_⟩
    dsimp only [wf_d, vD, dIsN, D.isN, wb_b]
    refine ifT rfl ?_
    have eb : stsB ss (.tup (sts.map stD)) = true := by
      show (sts.map stD).all (stB ss) = true
      rw [List.all_map, List.all_eq_true]
      exact hs
    refine ⟨rfl, ss, rfl, rfl, fun xs e => ?_, ?_⟩
    · cases e
      rw [List.length_map]
      exact ⟨by omega, fun u hu => by
        obtain ⟨s, _, rfl⟩ := List.mem_map.mp hu
        exact st_good s⟩
    · rw [eb]
      refine wb_t (ifF rfl ?_)
      refine fin sts hs hl2 hk fun x0 ψ h => ⟨!(sts.map stD).isEmpty, rfl, ?_⟩
      cases sts with
      | nil => exact ifF rfl ⟨Nat.zero_le _, h⟩
      | cons s r => exact ifT rfl h
end
end Dl

set_option Elab.async false
set_option maxRecDepth 100000
set_option maxHeartbeats 4000000
set_option linter.all false
set_option synthInstance.maxHeartbeats 4000000
set_option synthInstance.maxSize 10000


namespace Dl
open PySem PySem.Spec PyProof.Rows L2 RZ HmS Da
section
variable {P : Program} {w : World} {K : PySem.W.Frag} [HasT K] {mg : Str → Option Value} {base : Heap} {ad am : Nat → Addr} {fd fm : Nat → FuncData} {C : Addr}
/-! ### what an album tells -/
def kFil (C : Addr) (s a b : D) (φ : En → Prop) : Prop := ∃ ss n cs i j, s = albD C ss n cs ∧ a = .int i ∧ b = .int j ∧ φ (.d (.bl (fillB cs i j)))
theorem ok_Album__fills (T : Txt K mg ad fd) (TM : TxtM K mg C am fm) (TG : TxtG mg) : FnOk P w K mg base CX0 1 (am 7) (fm 7) ps_Album__fills (spX K (sp3 (kFil C))) := by
  refine (show Fun K "_fills" "Album._fills" st_Album__fills (am 7) (fm 7) from TM.f 7 (by decide)).ok sc_Album__fills (fun vs H Q E h => len3 h) (fun cdv A outer s H vs Q E hr h => ?_)
  have hu := hu_of hr
  have hu65 := hu65_of hr
  refine ⟨_, (pss_one (ps_ret (pe_or (pe_cmp (pc_din hu (pe_tup (pa_cons (pv 1) (pa_cons (pv 2) (pa_cons (pe_glob (v := .int 0) (by rfl) TG.hinged.choose_spec ⟨_, rfl⟩) pa_nil)))) (pe_fldK (K := K) (pv 0) rfl))) (pe_one (pe_cmp (pc_din hu (pe_tup (pa_cons (pv 1) (pa_cons (pv 2) (pa_cons (pe_glob (v := .int 1) (by rfl) TG.whole.choose_spec ⟨_, rfl⟩) pa_nil)))) (pe_fldK (K := K) (pv 0) rfl))))))), ?_⟩
  refine body3 h fun x y z φ hk => ?_
  rw [show st0 nm_Album__fills [x, y, z] = [.d x, .d y, .d z] from rfl]
  obtain ⟨ss, n, cs, i, j, rfl, rfl, rfl, hk⟩ := hk
  refine ⟨rfl, show 3 ≤ 100000 by decide, C, _, _, .dT (kyA cs) (vlA cs), rfl, TM.cl, TM.nM, rfl, _, _, keyT (i, j, 0), rfl, rfl, ?_⟩
  show wb (.d (.bl (lookD (kyA cs) (vlA cs) (keyT (i, j, 0))).isSome)) _
  rw [has_look]
  unfold fillB at hk
  refine wb_t (ifB (fun c => ?_) fun c => ?_)
  · rw [c, Bool.true_or] at hk
    exact hk
  · rw [c, Bool.false_or] at hk
    refine ⟨rfl, show 3 ≤ 100000 by decide, C, _, _, .dT (kyA cs) (vlA cs), rfl, TM.cl, TM.nM, rfl, _, _, keyT (i, j, 1), rfl, rfl, ?_⟩
    show φ (.d (.bl (lookD (kyA cs) (vlA cs) (keyT (i, j, 1))).isSome))
    rw [has_look]
    exact hk
def kKee (C : Addr) (s a : D) (φ : En → Prop) : Prop := ∃ ss n cs t, s = albD C ss n cs ∧ a = stD t ∧ φ (.d (.bl (keepsB cs t)))
def kAll (C : Addr) (s : D) (φ : En → Prop) : Prop := ∃ ss n cs, s = albD C ss n cs ∧ cs.length ≤ 1000 ∧ ((cs.map (·.1)).Nodup → φ (.lst ((riseA cs).map rwD)))
theorem ok_Album_all_of (T : Txt K mg ad fd) (TM : TxtM K mg C am fm) (TG : TxtG mg) : FnOk P w K mg base CX0 1 (am 5) (fm 5) ps_Album_all_of (spX K (sp1 (kAll C))) := by
  refine (show Fun K "all_of" "Album.all_of" st_Album_all_of (am 5) (fm 5) from TM.f 5 (by decide)).ok sc_Album_all_of (fun vs H Q E h => len1 h) (fun cdv A outer s H vs Q E hr h => ?_)
  have hu := hu_of hr
  have hu65 := hu65_of hr
  refine ⟨_, (pss_one (ps_ret (pe_callB (cr_sortIC rfl hr.units) (by rfl) (T.z 3 (by decide)) (by decide +kernel) (pa_cons (pe_items (K := K) (pe_fldK (K := K) (pv 0) rfl)) pa_nil)))), ?_⟩
  refine body1 h fun x φ hk => ?_
  rw [show st0 nm_Album_all_of [x] = [.d x] from rfl]
  obtain ⟨ss, n, cs, rfl, cl, hk⟩ := hk
  refine ⟨C, _, _, .dT (kyA cs) (vlA cs), rfl, TM.cl, TM.nM, rfl, cs.map kcT, rfl, by rw [List.length_map]; exact cl, ?_, ?_, fun nd => ?_⟩
  · intro x hx y hy
    obtain ⟨z1, m1, rfl⟩ := List.mem_map.mp hx
    obtain ⟨z2, m2, rfl⟩ := List.mem_map.mp hy
    obtain ⟨s1, _, rfl⟩ := List.mem_map.mp m1
    obtain ⟨s2, _, rfl⟩ := List.mem_map.mp m2
    simp [encC, kcT, keyD, keyT, HmS.kD, PySem.W.alike, PySem.W.alikeAll]
  · intro c hc
    obtain ⟨s1, _, rfl⟩ := List.mem_map.mp hc
    simp [kcT, keyT]
  · have nd := ky_nodup.mp nd
    show φ (.lst ((sortC (cs.map kcT)).map rowC))
    rw [rows_rise nd]
    exact hk nd
def kGap (C : Addr) (s p : D) (φ : En → Prop) : Prop := ∃ ss n cs i t, s = albD C ss n cs ∧ p = .int i ∧ 0 ≤ i ∧ ss[i.toNat]? = some t ∧ 0 ≤ t.2.2 ∧ t.2.2 ≤ 100 ∧ φ (.lst ((gapL cs i t.2.2.toNat).map .int))
theorem ok_Album_gaps (T : Txt K mg ad fd) (TM : TxtM K mg C am fm) (TG : TxtG mg) : FnOk P w K mg base CX0 4 (am 6) (fm 6) ps_Album_gaps (spX K (sp2 (kGap C))) := by
  refine (show Fun K "gaps" "Album.gaps" st_Album_gaps (am 6) (fm 6) from TM.f 6 (by decide)).ok sc_Album_gaps (fun vs H Q E h => len2 h) (fun cdv A outer s H vs Q E hr h => ?_)
  have hu := hu_of hr
  have hu65 := hu65_of hr
  refine ⟨_, (pss_cons (ps_if (pt_not (pt_val (pe_call (ok_is_set_number (K := K) T) (hr.mono (by omega)) (by rfl) (T.g 14 (by decide)) (T.k 14 (by decide)) (bd_is_set_number T) .nil pass0 (pa_cons (pe_fldK (K := K) (pv 0) rfl) (pa_cons (pv 1) pa_nil)))))
    (pss_one ps_never)
    pss_nil)
  (pss_one (ps_ret (pe_lc (own := [("number", 2)]) (g := (gName 2)) rfl sc_Album_gaps.nd (pi_range1 (by rfl) (T.z 2 (by decide)) (pa_cons (pe_ix (r := rIxT K) ix_tup (pe_ix (r := rIxT K) ix_tup (pe_fldK (K := K) (pv 0) rfl) (pv 1) (fun _ _ => rfl)) pe_int (fun _ _ => rfl)) pa_nil))
      (blkOk_by (N := nm_Album_gaps) (sc := defScope st_Album_gaps) (by decide +kernel)) (fun _ _ _ _ _ => by exact (pg_name (i := 2) sc_Album_gaps.nd rfl (Or.inl rfl))) (fun _ _ _ _ _ => pts_one (pt_not (pt_val (pe_meth (pv 0) TM.cl (TM.m 7 (by decide)) (ok_Album__fills (K := K) T TM TG) (hr.mono (by omega)) (bm__fills TM) .nil pass0 (pa_cons (pv 1) (pa_cons (pv 2) pa_nil))))))
      (fun _ _ _ _ _ => by exact (pv 2)))))), ?_⟩
  refine body2 h fun x y φ hk => ?_
  rw [show st0 nm_Album_gaps [x, y] = [.d x, .d y, .no] from rfl]
  obtain ⟨ss, n, cs, i, t, rfl, rfl, i0, ht, t0, t1, hk⟩ := hk
  have il := (List.getElem?_eq_some_iff.mp ht).1
  obtain ⟨t', ht', ea⟩ := setD_at (ss := ss) i0 (by omega)
  rw [ht] at ht'
  cases ht'
  refine ⟨C, _, _, bookD ss, rfl, TM.cl, TM.nB, rfl, rfl, ss, rfl, rfl, ?_⟩
  rw [show inB (.int i) 0 ((ss.length : Int) - 1) = true by simp only [inB, Bool.and_eq_true, decide_eq_true_eq]; omega]
  refine wb_t (ifF rfl ?_)
  (try dsimp only [dNext, dSeq, dIfS, dB, dOp, dNot, dOr, dAnd, dNotV, dOrV, dAndV, dAsg, dRet, dDrop, dCB, dIf, dTup, dLst, dCons, dNil, wf_d, wf_l, wb_b, wi_i, wt_t, wl_l, wl_d, tupR_t, tupR_l, lstR_t, lstR_l, List.set_cons_zero, List.set_cons_succ])
  refine dLc_filt (items := upI 0 t.2.2.toNat) (Γ1 := [.d (albD C ss n cs), .d (.int i), .no]) (Γw := [.d (albD C ss n cs), .d (.int i), .no]) (fun x => !fillB cs i (iD x)) (fun x => x) rfl (fun ψ h => ?_) rfl rfl (by rw [upI_len]; omega) (fun d hd ψ q => ?_) ?_
  · refine ⟨C, _, _, bookD ss, rfl, TM.cl, TM.nB, rfl, setD t, ea, rfl, .int t.2.2, rfl, by omega, by omega, h⟩
  · obtain ⟨j, _, rfl⟩ := List.mem_map.mp hd
    refine ⟨⟨_, _, rfl, rfl⟩, rfl, ss, n, cs, i, _, rfl, rfl, rfl, ?_⟩
    exact q _ rfl fun _ ψ' q' => q' _ _ rfl rfl
  · rw [List.map_id', gap_upI cs i t.2.2.toNat _ fun k => rfl]
    exact hk
def kDbl (C : Addr) (s : D) (φ : En → Prop) : Prop := ∃ ss n cs, s = albD C ss n cs ∧ cs.length ≤ 1000 ∧ (cs.map (·.1)).Nodup ∧ φ (.lst ((dblA cs).map rwD))
def kDblM (C : Addr) (s : D) (φ : En → Prop) : Prop := ∃ ss n cs, s = albD C ss n cs ∧ cs.length ≤ 1000 ∧ (cs.map (·.1)).Nodup ∧ φ (.d (.int ((dblA cs).map (·.2)).sum))
end
end Dl

set_option Elab.async false
set_option maxRecDepth 100000
set_option maxHeartbeats 4000000
set_option linter.all false
set_option synthInstance.maxHeartbeats 4000000
set_option synthInstance.maxSize 10000

namespace Dl
open PySem PySem.Spec PyProof.Rows L2 RZ HmS Da
section
variable {P : Program} {w : World} {K : PySem.W.Frag} [HasT K] {mg : Str → Option Value} {base : Heap} {ad am : Nat → Addr} {fd fm : Nat → FuncData} {C : Addr}
/-! ### what most laws draw: a list, its places, a name, stamps -/
structure SOk (t : Str × Int × Int) : Prop where
  le : letB (.str t.1) 1 8 = true
  zl : t.1.length ≤ 1000
  y0 : 1840 ≤ t.2.1
  y1 : t.2.1 ≤ 2100
  m0 : 1 ≤ t.2.2
  m1 : t.2.2 ≤ 6
structure BkOk (ss : List (Str × Int × Int)) : Prop where
  l0 : 1 ≤ ss.length
  l1 : ss.length ≤ 4
  ok : ∀ t ∈ ss, SOk t
  ri : (ss.map fun t => (t.1, t.2.1)).Pairwise hdR
theorem SOk.b {t : Str × Int × Int} (h : SOk t) : setB (setD t) = true := by
  show ((letB (.str t.1) 1 8 && inB (.int t.2.1) 1840 2100) && inB (.int t.2.2) 1 6) = true
  rw [h.le]
  simp only [inB, Bool.true_and, Bool.and_eq_true, decide_eq_true_eq]
  exact ⟨⟨h.y0, h.y1⟩, h.m0, h.m1⟩
theorem BkOk.b {ss : List (Str × Int × Int)} (h : BkOk ss) : lstB (bookD ss) = true := by
  show ((decide (1 ≤ ((ss.map setD).length : Int)) && decide (((ss.map setD).length : Int) ≤ 4)) && ((ss.map setD).all setB && risH ((ss.map setD).map toHd))) = true
  have e1 : (ss.map setD).all setB = true := by
    rw [List.all_map, List.all_eq_true]
    exact fun t ht => (h.ok t ht).b
  have e2 : (ss.map setD).map toHd = ss.map fun t => (t.1, t.2.1) := by
    rw [List.map_map]
    rfl
  have l0 := h.l0
  have l1 := h.l1
  rw [e1, e2, risH_of h.ri, List.length_map]
  simp only [Bool.and_true, Bool.and_eq_true, decide_eq_true_eq]
  omega
theorem BkOk.good {ss : List (Str × Int × Int)} (h : BkOk ss) : (bookD ss).good = true := by
  have l1 := h.l1
  refine good_tup (fun x hx => ?_) (by rw [List.length_map]; omega)
  obtain ⟨t, ht, rfl⟩ := List.mem_map.mp hx
  simp [setD, D.good, goods, (h.ok t ht).zl]
theorem BkOk.many {ss : List (Str × Int × Int)} (h : BkOk ss) : ∀ t ∈ ss, 0 ≤ t.2.2 ∧ t.2.2 ≤ 100 := fun t ht => by
  have := (h.ok t ht).m0
  have := (h.ok t ht).m1
  omega
theorem atI_c2 {a b : D} {k : Int} (h0 : 0 ≤ k) (h1 : k < 2) : ∃ x, atI [a, b] k = some x ∧ (x = a ∨ x = b) := by
  have : k = 0 ∨ k = 1 := by omega
  rcases this with rfl | rfl
  · exact ⟨a, rfl, .inl rfl⟩
  · exact ⟨b, rfl, .inr rfl⟩
theorem atI_c3 {a b c : D} {k : Int} (h0 : 0 ≤ k) (h1 : k < 3) : ∃ x, atI [a, b, c] k = some x ∧ (x = a ∨ x = b ∨ x = c) := by
  have : k = 0 ∨ k = 1 ∨ k = 2 := by omega
  rcases this with rfl | rfl | rfl
  · exact ⟨a, rfl, .inl rfl⟩
  · exact ⟨b, rfl, .inr (.inl rfl)⟩
  · exact ⟨c, rfl, .inr (.inr rfl)⟩
def HdOk (c : (Str × Int) × Int) : Prop := SOk (c.1.1, c.1.2, c.2)
theorem BkOk.six {ss : List (Str × Int × Int)} (h : BkOk ss) : ∀ t ∈ ss, t.2.2 ≤ 6 := fun t ht => (h.ok t ht).m1
theorem BkOk.plc {ss : List (Str × Int × Int)} (h : BkOk ss) : (plcA 0 ss).length ≤ 24 := by
  have h1 := plcA_len (i := 0) h.six
  have h2 := h.l1
  omega
/-- a stamp of the list -/
def OkS (ss : List (Str × Int × Int)) (s : St3) : Prop := stB ss (stD s) = true
theorem okS_of {ss : List (Str × Int × Int)} {p : Int × Int} {g : Int} (h : p ∈ plcA 0 ss) (g0 : 0 ≤ g) (g1 : g ≤ 1) : OkS ss (p.1, p.2, g) := by
  obtain ⟨k, t, ht, e1, e2, e3⟩ := plcA_mem.mp h
  have kl := (List.getElem?_eq_some_iff.mp ht).1
  have em : manyAt ss p.1 = t.2.2 := by
    unfold manyAt
    rw [e1, show ((0 + k : Nat) : Int).toNat = k by omega, ht]
  show ((inB (.int p.1) 0 ((ss.length : Int) - 1) && inB (.int p.2) 0 (manyAt ss p.1 - 1)) && inB (.int g) 0 1) = true
  rw [em]
  simp only [inB, Bool.and_eq_true, decide_eq_true_eq]
  omega

theorem atI_c4 {a b c d : D} {k : Int} (h0 : 0 ≤ k) (h1 : k < 4) : ∃ x, atI [a, b, c, d] k = some x ∧ (x = a ∨ x = b ∨ x = c ∨ x = d) := by
  have : k = 0 ∨ k = 1 ∨ k = 2 ∨ k = 3 := by omega
  rcases this with rfl | rfl | rfl | rfl
  · exact ⟨a, rfl, .inl rfl⟩
  · exact ⟨b, rfl, .inr (.inl rfl)⟩
  · exact ⟨c, rfl, .inr (.inr (.inl rfl))⟩
  · exact ⟨d, rfl, .inr (.inr (.inr rfl))⟩
theorem atI_c5 {a b c d e : D} {k : Int} (h0 : 0 ≤ k) (h1 : k < 5) : ∃ x, atI [a, b, c, d, e] k = some x ∧ (x = a ∨ x = b ∨ x = c ∨ x = d ∨ x = e) := by
  have : k = 0 ∨ k = 1 ∨ k = 2 ∨ k = 3 ∨ k = 4 := by omega
  rcases this with rfl | rfl | rfl | rfl | rfl
  · exact ⟨a, rfl, .inl rfl⟩
  · exact ⟨b, rfl, .inr (.inl rfl)⟩
  · exact ⟨c, rfl, .inr (.inr (.inl rfl))⟩
  · exact ⟨d, rfl, .inr (.inr (.inr (.inl rfl)))⟩
  · exact ⟨e, rfl, .inr (.inr (.inr (.inr rfl)))⟩
theorem hd_keys (fs : List ((Str × Int) × Int)) : PySem.W.AllAlike ((kyG hdK fs).map keyD) ∧ (∀ k ∈ kyG hdK fs, k ≠ []) ∧ ((fs.map (·.1)).Nodup → (kyG hdK fs).Nodup) ∧ (sortKs (kyG hdK fs)).map tupD = (sortH (fs.map (·.1))).map hdD := by
  unfold kyG
  refine ⟨?_, fun k hk => ?_, fun nd => ?_, ?_⟩
  · rw [List.map_map]
    exact fun x hx y hy => by
      obtain ⟨a, _, rfl⟩ := List.mem_map.mp hx
      obtain ⟨b, _, rfl⟩ := List.mem_map.mp hy
      simp [hdK, keyD, HmS.kD, PySem.W.alike, PySem.W.alikeAll]
  · obtain ⟨a, _, rfl⟩ := List.mem_map.mp hk
    exact fun z => nomatch z
  · rw [List.Nodup, List.pairwise_map] at nd ⊢
    exact nd.imp fun h z => h (hdK_inj _ _ z)
  · unfold sortKs sortH
    rw [show (fs.map fun c => hdK c.1) = (fs.map (·.1)).map hdK by rw [List.map_map]; rfl]
    rw [← PySem.W.sort_maps (r := PySem.W.dataLe false fun h : Str × Int => (hdD h).py) hdK (fun a _ b _ => rfl), List.map_map]
    rfl
theorem st_keys (cs : Cts) : PySem.W.AllAlike ((kyA cs).map keyD) ∧ (∀ k ∈ kyA cs, k ≠ []) ∧ ((cs.map (·.1)).Nodup → (kyA cs).Nodup) ∧ (sortKs (kyA cs)).map tupD = (riseA cs).map fun c => stD c.1 := by
  have e : kyA cs = cs.map fun c => keyT c.1 := by
    unfold kyA
    rw [List.map_map]
    rfl
  refine ⟨?_, fun k hk => ?_, fun nd => ky_nodup.mpr nd, ?_⟩
  · rw [e, List.map_map]
    exact fun x hx y hy => by
      obtain ⟨a, _, rfl⟩ := List.mem_map.mp hx
      obtain ⟨b, _, rfl⟩ := List.mem_map.mp hy
      exact al_st _ _
  · rw [e] at hk
    obtain ⟨a, _, rfl⟩ := List.mem_map.mp hk
    exact fun z => nomatch z
  · unfold sortKs riseA
    rw [e, ← PySem.W.sort_maps (r := PySem.W.dataLe false fun c : St3 × Int => keyD (keyT c.1)) (fun c : St3 × Int => keyT c.1) (fun a _ b _ => rfl), List.map_map]
    rfl
def kSets (φ : En → Prop) : Prop := ∀ ss, BkOk ss → φ (.d (bookD ss))

theorem ok__law_list (T : Txt K mg ad fd) : FnOk P w K mg base CX0 5 (ad 23) (fd 23) ps__law_list (spP K (pp0 kSets)) := by
  refine (show Fun K "_law_list" "_law_list" st__law_list (ad 23) (fd 23) from T.f 23 (by decide)).ok sc__law_list (fun vs H Q E h => lep0 h) (fun cdv A outer s H vs Q E hr h => ?_)
  have hu := hu_of hr
  have hu65 := hu65_of hr
  refine ⟨_, (pss_cons (ps_set (i := 1) sc__law_list.nd rfl (Or.inr rfl) pe_dnewT)
  (pss_cons (ps_for PassesOwn.never rfl (pi_range1 (by rfl) (T.z 2 (by decide)) (pa_cons (pe_op op_add pe_int (pe_call (ok__law_draw (K := K) T) (hr.mono (by omega)) (by rfl) (T.g 22 (by decide)) (T.k 22 (by decide)) (bd__law_draw T) .nil pass0 (pa_cons (pv 0) (pa_cons pe_int pa_nil)))) pa_nil)) (pg_name (i := 2) sc__law_list.nd rfl (Or.inl rfl))
    (pss_cons (ps_set (i := 3) sc__law_list.nd rfl (Or.inl rfl) (pe_ix (r := rIxL K) ix_list (pe_lst (pa_cons pe_str (pa_cons pe_str (pa_cons pe_str (pa_cons pe_str pa_nil))))) (pe_call (ok__law_draw (K := K) T) (hr.mono (by omega)) (by rfl) (T.g 22 (by decide)) (T.k 22 (by decide)) (bd__law_draw T) .nil pass0 (pa_cons (pv 0) (pa_cons pe_int pa_nil))) (fun _ _ => rfl)))
  (pss_cons (ps_set (i := 4) sc__law_list.nd rfl (Or.inl rfl) (pe_ix (r := rIxL K) ix_list (pe_lst (pa_cons pe_int (pa_cons pe_int (pa_cons pe_int (pa_cons (pe_op op_add pe_int (pe_call (ok__law_draw (K := K) T) (hr.mono (by omega)) (by rfl) (T.g 22 (by decide)) (T.k 22 (by decide)) (bd__law_draw T) .nil pass0 (pa_cons (pv 0) (pa_cons pe_int pa_nil)))) pa_nil))))) (pe_call (ok__law_draw (K := K) T) (hr.mono (by omega)) (by rfl) (T.g 22 (by decide)) (T.k 22 (by decide)) (bd__law_draw T) .nil pass0 (pa_cons (pv 0) (pa_cons pe_int pa_nil))) (fun _ _ => rfl)))
  (pss_one (ps_dputT hu (pv 1) (pe_tup (pa_cons (pv 3) (pa_cons (pv 4) pa_nil))) (pe_op op_add pe_int (pe_call (ok__law_draw (K := K) T) (hr.mono (by omega)) (by rfl) (T.g 22 (by decide)) (T.k 22 (by decide)) (bd__law_draw T) .nil pass0 (pa_cons (pv 0) (pa_cons (pe_ix (r := rIxL K) ix_list (pe_lst (pa_cons pe_int (pa_cons pe_int pa_nil))) (pe_call (ok__law_draw (K := K) T) (hr.mono (by omega)) (by rfl) (T.g 22 (by decide)) (T.k 22 (by decide)) (bd__law_draw T) .nil pass0 (pa_cons (pv 0) (pa_cons pe_int pa_nil))) (fun _ _ => rfl)) pa_nil)))) rfl)))))
  (pss_one (ps_ret (pe_callTy (r := rTuple K) cl_tuple (by rfl) (T.z 4 (by decide)) (by decide +kernel) (pa_cons (pe_lc (own := [("_law_land", 3), ("_law_year", 4)]) (g := (gTup K 2 (gCons (gName 3) (gCons (gName 4) gNil)))) (tt := tYes) rfl sc__law_list.nd (pi_listK (K := K) (pe_callB (cr_sortDT rfl hr.units) (by rfl) (T.z 3 (by decide)) (by decide +kernel) (pa_cons (pv 1) pa_nil)))
      (blkOk_by (N := nm__law_list) (sc := defScope st__law_list) (by decide +kernel)) (fun _ _ _ _ _ => by exact (pg_tupK (K := K) (n := 2) rfl (pgs_cons (pg_name (i := 3) sc__law_list.nd rfl (Or.inl rfl)) (pgs_cons (pg_name (i := 4) sc__law_list.nd rfl (Or.inl rfl)) pgs_nil)))) (fun _ _ _ _ _ => pts_nil)
      (fun _ _ _ _ _ => by exact (pe_tup (pa_cons (pv 3) (pa_cons (pv 4) (pa_cons (pe_dgetT hu (pv 1) (pe_tup (pa_cons (pv 3) (pa_cons (pv 4) pa_nil))) (fun _ _ => rfl)) pa_nil)))))) pa_nil)))))), ?_⟩
  refine bodp0 h fun  φ hk => ?_
  rw [show stP nm__law_list [] = [.pen, .no, .no, .no, .no] from rfl]
  refine ⟨rfl, rfl, rfl, rfl, rfl, 4, rfl, by decide, by decide, fun a a0 a1 => ?_⟩
  refine ⟨rfl, by omega, by omega, ?_⟩
  refine ⟨fun i Γ => ∃ (fs : List ((Str × Int) × Int)) (v2 v3 v4 : En), Γ = [.pen, .dT (kyG hdK fs) (vlG fs), v2, v3, v4] ∧ fs.length ≤ i ∧ (0 < i → 1 ≤ fs.length) ∧ (∀ c ∈ fs, HdOk c) ∧ (fs.map (·.1)).Nodup,
    ⟨[], _, _, _, rfl, Nat.le_refl _, (fun h => absurd h (Nat.lt_irrefl _)), (fun c h => nomatch h), List.nodup_nil⟩, ?_⟩
  rintro i Γ ⟨fs, v2, v3, v4, rfl, fl, f1, fok, fnd⟩
  refine ⟨fun e => ?_, fun d hd => ?_⟩
  · rw [upI_len] at e
    have f1 := f1 (by omega)
    have hsl : (sortH (fs.map (·.1))).length = fs.length := by rw [(sortH_perm _).length_eq, List.length_map]
    have mem : ∀ h ∈ sortH (fs.map (·.1)), ∃ c ∈ fs, c.1 = h ∧ getG fs h = some c.2 := fun h hh => by
      have hh := (sortH_perm _).mem_iff.mp hh
      obtain ⟨c, hc, rfl⟩ := List.mem_map.mp hh
      exact ⟨c, hc, rfl, getG_mem fnd hc⟩
    obtain ⟨k1, k2, k3, k4⟩ := hd_keys fs
    (try dsimp only [dNext, dSeq, dIfS, dB, dOp, dNot, dOr, dAnd, dNotV, dOrV, dAndV, dAsg, dRet, dDrop, dCB, dIf, dTup, dLst, dCons, dNil, wf_d, wf_l, wb_b, wi_i, wt_t, wl_l, wl_d, tupR_t, tupR_l, lstR_t, lstR_l, List.set_cons_zero, List.set_cons_succ])
    refine dLc_pure (items := (sortH (fs.map (·.1))).map hdD) (Γ1 := [.pen, .d (.dT (kyG hdK fs) (vlG fs)), v2, v3, v4]) (Γw := [.pen, .d (.dT (kyG hdK fs) (vlG fs)), v2, .no, .no]) (fun x => match x with | .tup [.str l, .int y] => setD (l, y, (getG fs (l, y)).getD 0) | _ => .non) rfl (fun ψ h => ?_) rfl rfl (by rw [List.length_map, hsl]; omega) (fun d hd ψ q => ?_) ?_
    · refine ⟨by rw [kyG_len]; omega, k1, k2, fun _ => ?_⟩
      rw [k4]
      exact h
    · obtain ⟨h, hh, rfl⟩ := List.mem_map.mp hd
      obtain ⟨c, hc, ec, eg⟩ := mem h hh
      refine ⟨rfl, rfl, ⟨_, _, _, rfl, rfl⟩, show 2 ≤ 100000 by decide, _, _, _, hdK h, .int c.2, rfl, rfl, rfl, ?_, show 3 ≤ 100000 by decide, q _ _ ?_ rfl⟩
      · rw [look_G hdK_inj, eg]
        rfl
      · show some (D.tup [.str h.1, .int h.2, .int c.2]) = some (setD (h.1, h.2, (getG fs h).getD 0))
        rw [eg]
        rfl
    · have er : ((sortH (fs.map (·.1))).map hdD).map (fun x => match x with | .tup [.str l, .int y] => setD (l, y, (getG fs (l, y)).getD 0) | _ => .non) = ((sortH (fs.map (·.1))).map fun h => (h.1, h.2, (getG fs h).getD 0)).map setD := by
        rw [List.map_map, List.map_map]
        rfl
      rw [er]
      refine ⟨(fun z => nomatch z), hk _ ⟨by rw [List.length_map, hsl]; omega, by rw [List.length_map, hsl]; omega, fun t ht => ?_, ?_⟩⟩
      · obtain ⟨h, hh, rfl⟩ := List.mem_map.mp ht
        obtain ⟨c, hc, ec, eg⟩ := mem h hh
        have := fok c hc
        rw [eg]
        subst ec
        exact this
      · rw [List.map_map]
        have : (sortH (fs.map (·.1))).map ((fun t : Str × Int × Int => (t.1, t.2.1)) ∘ fun h => (h.1, h.2, (getG fs h).getD 0)) = sortH (fs.map (·.1)) := List.map_id' _
        rw [this]
        exact sortH_rise fnd
  · have il := (upI_get hd).1
    (try simp only [dVar, dC, dNil, dCons, dTup, dLst, dOp, onI, dI, dI0, dUn, dEq, dNe, dIxT, dIxL, dIxLv, dAndV, dOrV, dNotV, dB, dAnd, dOr, dNot, dYes, dIf, dChain, dCB, dLenR, dLenv, dListR, dTupR, dMxR, dMnR, dIntR, dIsi, dNoPart, dPart, dSl, dCatA, dCat, dRep, dIn, dInD, dIsN, D.isN, dCall, dCallP, dCallS, dPen0, dTruv, dRg1, dRg2, dLstRg, dTupRg, dLenSet, wf, wb, wi, wt, wl, vD, isSc, dSeq, dNext, dRet, dRetv, dRetN, dIfS, dAsg, dAsgT, dgTup, dgCons, dPar, dApp, dExt, dSetL, dPopAt, dRse, dNever, dDrop, dITup, dILst, dIRng1, dIRng2, dIDn, dIEnT, dIEnL, dIZip, po, poP, sp0, sp1, sp2, sp3, sp4, sp5, pp0, pp1, pp2, pp3, pp4, mo0, mo1, mo2, mo3, dBrw, immE, dMethO, dMake, dFSet, dFPut, fputK, dFDel, dGet2X, dOrT, dIStr, dLeStr, dAttr, dMeth, List.set_cons_zero, List.set_cons_succ, List.getElem?_cons_zero, List.getElem?_cons_succ, List.all_nil, List.map_nil, List.append_nil, List.cons_append, List.nil_append, true_and, ite_true, if_true])
    refine ⟨by simp, 4, rfl, by decide, by decide, fun b b0 b1 => ?_⟩
    obtain ⟨l, hl, z, rfl, z1, z2⟩ : ∃ l, atI [D.str (Str.ofString "a"), .str (Str.ofString "b"), .str (Str.ofString "ab"), .str (Str.ofString "abcdefgh")] b = some l ∧ ∃ z : Str, l = .str z ∧ letB (.str z) 1 8 = true ∧ z.length ≤ 1000 := by
      obtain ⟨l, hl, lo⟩ := atI_c4 b0 b1
      refine ⟨l, hl, ?_⟩
      rcases lo with rfl | rfl | rfl | rfl <;> exact ⟨_, rfl, by decide +kernel, by decide +kernel⟩
    refine ⟨.str z, hl, 261, rfl, by decide, by decide, fun y0 h0 h1 => ?_⟩
    refine ⟨by simp, 4, rfl, by decide, by decide, fun u u0 u1 => ?_⟩
    obtain ⟨y, hy, yo⟩ := atI_c4 (a := .int 1840) (b := .int 1900) (c := .int 2100) (d := .int (1840 + y0)) u0 u1
    refine ⟨y, hy, ?_⟩
    obtain ⟨n, rfl, n0, n1⟩ : ∃ n : Int, y = .int n ∧ 1840 ≤ n ∧ n ≤ 2100 := by
      rcases yo with rfl | rfl | rfl | rfl
      · exact ⟨_, rfl, by decide, by decide⟩
      · exact ⟨_, rfl, by decide, by decide⟩
      · exact ⟨_, rfl, by decide, by decide⟩
      · exact ⟨_, rfl, by omega, by omega⟩
    refine ⟨rfl, rfl, rfl, rfl, show 2 ≤ 100000 by decide, rfl, rfl, rfl, rfl, 2, rfl, by decide, by decide, fun w w0 w1 => ?_⟩
    obtain ⟨bn, hb, b2, b6⟩ : ∃ bn : Int, atI [D.int 2, .int 6] w = some (.int bn) ∧ 2 ≤ bn ∧ bn ≤ 6 := by
      have : w = 0 ∨ w = 1 := by omega
      rcases this with rfl | rfl <;> exact ⟨_, rfl, by decide, by decide⟩
    refine ⟨.int bn, hb, rfl, rfl, bn, rfl, by omega, by omega, fun m m0 m1 => ?_⟩
    refine ⟨rfl, ⟨_, _, rfl⟩, show 2 ≤ 100000 by decide, _, _, hdK (z, n), rfl, rfl, by rw [kyG_len]; omega, ?_⟩
    obtain ⟨p1, p2⟩ := put_G hdK_inj fs (z, n) (1 + m)
    obtain ⟨q1, q2, q3⟩ := putG_len fs (z, n) (1 + m)
    have e1 : En.dT (putTs (kyG hdK fs) (hdK (z, n))) (putTD (kyG hdK fs) (vlG fs) (hdK (z, n)) (.int (1 + m))) = .dT (kyG hdK (putG fs (z, n) (1 + m))) (vlG (putG fs (z, n) (1 + m))) := by rw [p1, p2]
    refine ⟨putG fs (z, n) (1 + m), .d d, .d (.str z), .d (.int n), congrArg (fun x : En => ([En.pen, x, En.d d, En.d (D.str z), En.d (D.int n)] : List En)) e1, by omega, fun _ => q2, fun c hc => ?_, putG_nd fnd⟩
    rcases putG_mem hc with h | h
    · exact fok c h
    · rw [h]
      exact ⟨z1, z2, n0, n1, by show 1 ≤ 1 + m; omega, by show 1 + m ≤ 6; omega⟩
theorem many_out : (Str.ofString "put") ∉ nsA := by decide +kernel
def nmOk (z : Str) : Prop := letB (.str z) 0 8 = true ∧ z.length ≤ 8
def kName (φ : En → Prop) : Prop := ∀ z, nmOk z → φ (.d (.str z))
theorem dVar_lst {i : Nat} {Γ : List En} {xs : List D} {φ : En → List En → Prop} (g : Γ[i]? = some (.lst xs)) (h : φ (.d (.lst xs)) (Γ.set i (.d (.lst xs)))) : dVar i Γ φ := by
  unfold dVar
  rw [g]
  exact h
theorem dVar_d {i : Nat} {Γ : List En} {x : D} {φ : En → List En → Prop} (g : Γ[i]? = some (.d x)) (h : φ (.d x) Γ) : dVar i Γ φ := by
  unfold dVar
  rw [g]
  exact h
theorem BkOk.pl1 {ss : List (Str × Int × Int)} (h : BkOk ss) : 1 ≤ (plcA 0 ss).length := by
  have l0 := h.l0
  have e : ss[0]? = some ss[0] := List.getElem?_eq_getElem (by omega)
  have m0 := (h.ok _ (List.getElem_mem (show 0 < ss.length by omega))).m0
  have : ((0 : Int), (0 : Int)) ∈ plcA 0 ss := plcA_mem.mpr ⟨0, ss[0], e, rfl, Int.le_refl _, by show (0 : Int) < ss[0].2.2; omega⟩
  exact List.length_pos_of_mem this
def kPlc (x : D) (φ : En → Prop) : Prop := ∃ ss, x = bookD ss ∧ BkOk ss ∧ φ (.lst ((plcA 0 ss).map plD))
theorem ok__law_places (T : Txt K mg ad fd) : FnOk P w K mg base CX0 1 (ad 24) (fd 24) ps__law_places (spX K (sp1 kPlc)) := by
  refine (show Fun K "_law_places" "_law_places" st__law_places (ad 24) (fd 24) from T.f 24 (by decide)).ok sc__law_places (fun vs H Q E h => len1 h) (fun cdv A outer s H vs Q E hr h => ?_)
  have hu := hu_of hr
  have hu65 := hu65_of hr
  refine ⟨_, (pss_cons (ps_set (i := 1) sc__law_places.nd rfl (Or.inl rfl) (pe_lst pa_nil))
  (pss_cons (ps_for PassesOwn.never rfl (pi_enumTK (K := K) (by rfl) (T.z 5 (by decide)) (pa_cons (pv 0) pa_nil)) (pg_tupK (K := K) (n := 2) rfl (pgs_cons (pg_name (i := 2) sc__law_places.nd rfl (Or.inr rfl)) (pgs_cons (pg_tupK (K := K) (n := 3) rfl (pgs_cons (pg_name (i := 3) sc__law_places.nd rfl (Or.inl rfl)) (pgs_cons (pg_name (i := 4) sc__law_places.nd rfl (Or.inl rfl)) (pgs_cons (pg_name (i := 5) sc__law_places.nd rfl (Or.inl rfl)) pgs_nil)))) pgs_nil)))
    (pss_one (ps_set (i := 1) sc__law_places.nd rfl (Or.inl rfl) (pe_op op_cat (pv 1) (pe_lc (own := [("_law_number", 6)]) (g := (gName 6)) (tt := tYes) rfl sc__law_places.nd (pi_range1 (by rfl) (T.z 2 (by decide)) (pa_cons (pv 5) pa_nil))
      (blkOk_by (N := nm__law_places) (sc := defScope st__law_places) (by decide +kernel)) (fun _ _ _ _ _ => by exact (pg_name (i := 6) sc__law_places.nd rfl (Or.inl rfl))) (fun _ _ _ _ _ => pts_nil)
      (fun _ _ _ _ _ => by exact (pe_tup (pa_cons (pv 2) (pa_cons (pv 6) pa_nil)))))))))
  (pss_one (ps_ret (pv 1))))), ?_⟩
  refine body1 h fun x φ hk => ?_
  rw [show st0 nm__law_places [x] = [.d x, .no, .no, .no, .no, .no, .no] from rfl]
  obtain ⟨ss, rfl, bk, hk⟩ := hk
  have p24 := bk.plc
  refine ⟨show 0 ≤ 100000 by decide, ?_⟩
  refine ⟨fun i Γ => ∃ (v2 v3 v4 v5 : En), Γ = [.d (bookD ss), .lst ((plcA 0 (ss.take i)).map plD), v2, v3, v4, v5, .no], ⟨_, _, _, _, rfl⟩, ?_⟩
  rintro i Γ ⟨v2, v3, v4, v5, rfl⟩
  refine ⟨fun e => ?_, fun d hd => ?_⟩
  · have e : i = (pairsI 0 (ss.map setD)).length := e
    rw [pairsI_len, List.length_map] at e
    rw [e, List.take_length]
    exact ⟨_, rfl, (fun z => nomatch z), hk⟩
  · obtain ⟨x, hx, rfl⟩ := pairsI_get hd
    obtain ⟨t, ht, rfl⟩ := at_map hx
    have tm := bk.many t (List.mem_of_getElem? ht)
    have il := (List.getElem?_eq_some_iff.mp ht).1
    have et : ss.take (i + 1) = ss.take i ++ [t] := by rw [List.take_add_one, ht]; rfl
    have pl : (plcA 0 (ss.take i)).length + t.2.2.toNat ≤ 24 := by
      have h1 := plcA_len (ss := ss.take i) (i := 0) fun u hu => bk.six u (List.mem_of_mem_take hu)
      have h2 := bk.six t (List.mem_of_getElem? ht)
      have h3 := bk.l1
      rw [List.length_take] at h1
      omega
    refine ⟨rfl, rfl, rfl, rfl, ?_⟩
    (try dsimp only [dNext, dSeq, dIfS, dB, dOp, dNot, dOr, dAnd, dNotV, dOrV, dAndV, dAsg, dRet, dDrop, dCB, dIf, dTup, dLst, dCons, dNil, wf_d, wf_l, wb_b, wi_i, wt_t, wl_l, wl_d, tupR_t, tupR_l, lstR_t, lstR_l, List.set_cons_zero, List.set_cons_succ])
    refine dVar_lst rfl ?_
    (dsimp only [dB, dAnd, dOr, dNot, dEqE, wf_d, wf_l, wb_b, wi_i, wt_t, wl_l, wl_d, List.set_cons_zero, List.set_cons_succ])
    refine dLc_pure (items := upI 0 t.2.2.toNat) (Γ1 := [.d (bookD ss), .d (.lst ((plcA 0 (ss.take i)).map plD)), .d (.int ((0 + i : Nat) : Int)), .d (.str t.1), .d (.int t.2.1), .d (.int t.2.2), .no]) (Γw := [.d (bookD ss), .d (.lst ((plcA 0 (ss.take i)).map plD)), .d (.int ((0 + i : Nat) : Int)), .d (.str t.1), .d (.int t.2.1), .d (.int t.2.2), .no]) (fun x => .tup [.int ((0 + i : Nat) : Int), x]) rfl (fun ψ h => ?_) rfl rfl (by rw [upI_len]; omega) (fun d2 hd2 ψ2 q2 => ?_) ?_
    · exact ⟨by omega, by omega, h⟩
    · exact ⟨show 2 ≤ 100000 by decide, q2 _ _ rfl rfl⟩
    · have e1 : (upI 0 t.2.2.toNat).map (fun x => D.tup [.int ((0 + i : Nat) : Int), x]) = ((List.range t.2.2.toNat).map fun k : Nat => (((0 + (ss.take i).length : Nat) : Int), (k : Int))).map plD := by
        unfold upI
        rw [List.map_map, List.map_map]
        refine List.map_congr_left fun k _ => ?_
        show D.tup [.int ((0 + i : Nat) : Int), .int (0 + (k : Int))] = .tup [.int ((0 + (ss.take i).length : Nat) : Int), .int (k : Int)]
        rw [List.length_take, Nat.min_eq_left (Nat.le_of_lt il), Int.zero_add]
      rw [e1]
      refine ⟨by rw [List.length_map, List.length_map, List.length_map, List.length_range]; omega, .d (.int ((0 + i : Nat) : Int)), .d (.str t.1), .d (.int t.2.1), .d (.int t.2.2), ?_⟩
      rw [et, plcA_snoc, List.map_append]
      rfl
theorem pl_at {ps : List (Int × Int)} {r : Int} (r0 : 0 ≤ r) (r1 : r < ps.length) : ∃ p ∈ ps, atI (ps.map plD) r = some (plD p) := by
  have h : ps[r.toNat]? = some ps[r.toNat] := List.getElem?_eq_getElem (by omega)
  refine ⟨ps[r.toNat], List.getElem_mem _, ?_⟩
  have z := atI_ok (xs := ps.map plD) (i := r.toNat) (x := plD ps[r.toNat]) (by rw [List.getElem?_map, h]; rfl)
  rw [Int.toNat_of_nonneg r0] at z
  exact z
def kStps (x y : D) (φ : En → Prop) : Prop := ∃ ss, ∃ m : Int, x = bookD ss ∧ BkOk ss ∧ y = .int m ∧ 0 ≤ m ∧ m ≤ 40 ∧ ∀ ts : List St3, (∀ s ∈ ts, OkS ss s) → (ts.length : Int) ≤ 4 * m → φ (.d (.tup (ts.map stD)))
theorem ok__law_stamps (T : Txt K mg ad fd) : FnOk P w K mg base CX0 3 (ad 25) (fd 25) ps__law_stamps (spP K (pp2 kStps)) := by
  refine (show Fun K "_law_stamps" "_law_stamps" st__law_stamps (ad 25) (fd 25) from T.f 25 (by decide)).ok sc__law_stamps (fun vs H Q E h => lep2 h) (fun cdv A outer s H vs Q E hr h => ?_)
  have hu := hu_of hr
  have hu65 := hu65_of hr
  refine ⟨_, (pss_cons (ps_par (i := 3) (j := 4) (by rfl) sc__law_stamps.nd rfl rfl (by decide) rfl rfl (pa_cons (pe_call (ok__law_places (K := K) T) (hr.mono (by omega)) (by rfl) (T.g 24 (by decide)) (T.k 24 (by decide)) (bd__law_places T) .nil pass0 (pa_cons (pv 1) pa_nil)) (pa_cons (pe_lst pa_nil) pa_nil)) (by rfl))
  (pss_cons (ps_for PassesOwn.never rfl (pi_range1 (by rfl) (T.z 2 (by decide)) (pa_cons (pe_call (ok__law_draw (K := K) T) (hr.mono (by omega)) (by rfl) (T.g 22 (by decide)) (T.k 22 (by decide)) (bd__law_draw T) .nil pass0 (pa_cons (pv 0) (pa_cons (pe_op op_add (pv 2) pe_int) pa_nil))) pa_nil)) (pg_name (i := 5) sc__law_stamps.nd rfl (Or.inl rfl))
    (pss_cons (ps_set (i := 6) sc__law_stamps.nd rfl (Or.inl rfl) (pe_ix (r := rIxL K) ix_list (pv 3) (pe_call (ok__law_draw (K := K) T) (hr.mono (by omega)) (by rfl) (T.g 22 (by decide)) (T.k 22 (by decide)) (bd__law_draw T) .nil pass0 (pa_cons (pv 0) (pa_cons (pe_callB (r := Da.rLen K) cl_len (by rfl) (T.z 0 (by decide)) (by decide +kernel) (pa_cons (pv 3) pa_nil)) pa_nil))) (fun _ _ => rfl)))
  (pss_one (ps_set (i := 4) sc__law_stamps.nd rfl (Or.inl rfl) (pe_op op_cat (pv 4) (pe_op op_rep (pe_lst (pa_cons (pe_op (r := rCatA K) op_catA (pv 6) (pe_tup (pa_cons (pe_call (ok__law_draw (K := K) T) (hr.mono (by omega)) (by rfl) (T.g 22 (by decide)) (T.k 22 (by decide)) (bd__law_draw T) .nil pass0 (pa_cons (pv 0) (pa_cons pe_int pa_nil))) pa_nil))) pa_nil)) (pe_ix (r := rIxL K) ix_list (pe_lst (pa_cons pe_int (pa_cons pe_int (pa_cons pe_int (pa_cons pe_int pa_nil))))) (pe_call (ok__law_draw (K := K) T) (hr.mono (by omega)) (by rfl) (T.g 22 (by decide)) (T.k 22 (by decide)) (bd__law_draw T) .nil pass0 (pa_cons (pv 0) (pa_cons pe_int pa_nil))) (fun _ _ => rfl))))))))
  (pss_one (ps_ret (pe_callTy (r := rTuple K) cl_tuple (by rfl) (T.z 4 (by decide)) (by decide +kernel) (pa_cons (pv 4) pa_nil)))))), ?_⟩
  refine bodp2 h fun x y φ hk => ?_
  rw [show stP nm__law_stamps [x, y] = [.pen, .d x, .d y, .no, .no, .no, .no] from rfl]
  obtain ⟨ss, m, rfl, bk, rfl, m0, m1, hk⟩ := hk
  have p24 := bk.plc
  have p1 := bk.pl1
  refine ⟨rfl, ss, rfl, bk, show 0 ≤ 100000 by decide, ?_⟩
  refine ⟨rfl, rfl, rfl, rfl, rfl, m + 1, rfl, by omega, by omega, fun n n0 n1 => ?_⟩
  refine ⟨by omega, by omega, ?_⟩
  refine ⟨fun i Γ => ∃ (ts : List St3) (v5 v6 : En), Γ = [.pen, .d (bookD ss), .d (.int m), .d (.lst ((plcA 0 ss).map plD)), .lst (ts.map stD), v5, v6] ∧ ts.length ≤ 4 * i ∧ ∀ s ∈ ts, OkS ss s, ⟨[], _, _, rfl, Nat.le_refl _, fun s h => nomatch h⟩, ?_⟩
  rintro i Γ ⟨ts, v5, v6, rfl, tl, ok⟩
  refine ⟨fun e => ?_, fun d hd => ?_⟩
  · rw [upI_len] at e
    exact ⟨(fun z => nomatch z), hk ts ok (by omega)⟩
  · obtain ⟨il, rfl⟩ := upI_get hd
    refine ⟨rfl, rfl, rfl, ((plcA 0 ss).length : Int), by show D.int (((plcA 0 ss).map plD).length : Int) = _; rw [List.length_map], by omega, by omega, fun r r0 r1 => ?_⟩
    obtain ⟨p, pm, hp⟩ := pl_at r0 r1
    refine ⟨plD p, hp, ?_⟩
    refine ⟨rfl, rfl, rfl, rfl, 2, rfl, by decide, by decide, fun g g0 g1 => ?_⟩
    refine ⟨show 1 ≤ 100000 by decide, show 2 + 1 ≤ 1000000 by decide, show 1 ≤ 100000 by decide, rfl, rfl, rfl, rfl, show 4 ≤ 100000 by decide, rfl, rfl, rfl, rfl, 4, rfl, by decide, by decide, fun u u0 u1 => ?_⟩
    obtain ⟨k, hk4, k1, k4⟩ : ∃ k : Int, atI [D.int 1, .int 1, .int 2, .int 4] u = some (.int k) ∧ 1 ≤ k ∧ k ≤ 4 := by
      have : u = 0 ∨ u = 1 ∨ u = 2 ∨ u = 3 := by omega
      rcases this with rfl | rfl | rfl | rfl <;> exact ⟨_, rfl, by decide, by decide⟩
    have er : (List.replicate k.toNat [D.tup [.int p.1, .int p.2, .int g]]).flatten = (List.replicate k.toNat (p.1, p.2, g)).map stD := by
      rw [List.flatten_replicate_singleton, List.map_replicate]
      rfl
    refine ⟨.int k, hk4, by omega, by omega, show 1 ≤ 100 by decide, ?_⟩
    refine ⟨?_, ?_⟩
    · show (ts.map stD).length + (List.replicate k.toNat [D.tup [.int p.1, .int p.2, .int g]]).flatten.length ≤ 1000000
      rw [er, List.length_map, List.length_map, List.length_replicate]
      omega
    refine ⟨ts ++ List.replicate k.toNat (p.1, p.2, g), .d (.int (0 + (i : Int))), .d (plD p), ?_, by rw [List.length_append, List.length_replicate]; omega, fun s hs => ?_⟩
    · rw [List.map_append, ← er]
      rfl
    · rcases List.mem_append.mp hs with h | h
      · exact ok s h
      · rw [(List.mem_replicate.mp h).2]
        exact okS_of pm (by omega) (by omega)
def kCnt1 (x : D) (φ : En → Prop) : Prop := ∃ ts : List St3, x = .tup (ts.map stD) ∧ ts.length ≤ 1000 ∧ φ (.dT (kyA (countsA ts)) (vlA (countsA ts)))
theorem seqMidG {dt du : DSt} {Γ : List En} {P : Po} (R : List En → Prop) (main : ∀ N : List En → Prop, (∀ Γ', R Γ' → N Γ') → dt Γ { P with nx := N }) (tail : ∀ Γ', R Γ' → du Γ' P) : dSeq dt du Γ P := main (fun Γ' => du Γ' P) tail
/-! ### what is kept of counts some of which may be 0 -/
def posA (cs : Cts) : Cts := cs.filter fun c => decide (0 < c.2)
structure CtNn (cs : Cts) : Prop where
  nd : (cs.map (·.1)).Nodup
  nn : ∀ c ∈ cs, 0 ≤ c.2
theorem CtNn.pos {cs : Cts} (h : CtNn cs) : ((posA cs).map (·.1)).Nodup := (List.Sublist.map (fun c : St3 × Int => c.1) (List.filter_sublist (p := fun c : St3 × Int => decide (0 < c.2)) (l := cs))).nodup h.nd
theorem rise_uniq {as bs : Cts} (nd : (bs.map (·.1)).Nodup) (h : as.Pairwise stLt) (p : as.Perm bs) : as = riseA bs :=
  List.Perm.eq_of_pairwise (le := stLt) (fun a b _ _ h h' => (stLt_asym h h').elim) h (riseA_rise nd) (p.trans (riseA_perm bs).symm)
theorem rise_pos {cs : Cts} (h : CtNn cs) : (riseA cs).filter (fun c => decide (0 < c.2)) = riseA (posA cs) :=
  rise_uniq h.pos ((riseA_rise h.nd).sublist List.filter_sublist) ((riseA_perm cs).filter _)
theorem cnt_pos {cs : Cts} (h : CtNn cs) (s : St3) : hasS (posA cs) s = decide (0 < cntA cs s) := by
  have hp : ∀ n, getA (posA cs) s = some n ↔ getA cs s = some n ∧ 0 < n := fun n => by
    constructor
    · intro e
      obtain ⟨m1, m2⟩ := List.mem_filter.mp (getA_mem e)
      exact ⟨get_nd h.nd m1, of_decide_eq_true m2⟩
    · rintro ⟨e, n0⟩
      exact get_nd h.pos (List.mem_filter.mpr ⟨getA_mem e, decide_eq_true n0⟩ : (s, n) ∈ posA cs)
  unfold hasS cntA
  cases e : getA cs s with
  | none =>
    cases e2 : getA (posA cs) s with
    | none => rfl
    | some n =>
      rw [((hp n).mp e2).1] at e
      cases e
  | some n =>
    by_cases z : 0 < n
    · rw [(hp n).mpr ⟨e, z⟩]
      exact (decide_eq_true z).symm
    · cases e2 : getA (posA cs) s with
      | none => exact (decide_eq_false z).symm
      | some m =>
        obtain ⟨h1, h2⟩ := (hp m).mp e2
        rw [e] at h1
        cases h1
        exact absurd h2 z
theorem cnt_nn {cs : Cts} (h : CtNn cs) (s : St3) : 0 ≤ cntA cs s := by
  unfold cntA
  cases e : getA cs s with
  | none => exact Int.le_refl _
  | some n => exact h.nn _ (getA_mem e)
def toSt (x : D) : St3 := match x with
  | .tup [.int a, .int b, .int c] => (a, b, c)
  | _ => (0, 0, 0)
theorem toSt_st (s : St3) : toSt (stD s) = s := rfl
def kAllC (x : D) (φ : En → Prop) : Prop := ∃ cs, x = .dT (kyA cs) (vlA cs) ∧ CtNn cs ∧ cs.length ≤ 1000 ∧ φ (.lst ((riseA (posA cs)).map rwD))
def kHasC (c p : D) (φ : En → Prop) : Prop := ∃ cs a b, c = .dT (kyA cs) (vlA cs) ∧ p = .tup [.int a, .int b] ∧ CtNn cs ∧ φ (.d (.bl (fillB (posA cs) a b)))
def kGapC (s c p : D) (φ : En → Prop) : Prop := ∃ ss cs i t, s = bookD ss ∧ c = .dT (kyA cs) (vlA cs) ∧ p = .int i ∧ CtNn cs ∧ 0 ≤ i ∧ ss[i.toNat]? = some t ∧ 0 ≤ t.2.2 ∧ t.2.2 ≤ 100 ∧ φ (.lst ((gapL (posA cs) i t.2.2.toNat).map .int))
def kDblC (c : D) (φ : En → Prop) : Prop := ∃ cs, c = .dT (kyA cs) (vlA cs) ∧ CtNn cs ∧ cs.length ≤ 1000 ∧ (∀ c ∈ cs, c.1.2.2 = 0 ∨ c.1.2.2 = 1) ∧ φ (.lst ((dblA (posA cs)).map rwD))
end
end Dl

set_option Elab.async false
set_option maxRecDepth 100000
set_option maxHeartbeats 4000000
set_option linter.all false
set_option synthInstance.maxHeartbeats 4000000
set_option synthInstance.maxSize 10000


namespace Dl
open PySem PySem.Spec PyProof.Rows L2 RZ HmS Da
section
variable {P : Program} {w : World} {K : PySem.W.Frag} [HasT K] {mg : Str → Option Value} {base : Heap} {ad am : Nat → Addr} {fd fm : Nat → FuncData} {C : Addr}
/-! ### == of albums, take -/
theorem let_fit {s : Str} {a b : Int} (h : letB (.str s) a b = true) : (D.str s).fitb 1 = true := by
  have h : ((decide (a ≤ (s.length : Int)) && decide ((s.length : Int) ≤ b)) && s.cps.toList.all signB) = true := h
  rw [Bool.and_eq_true, List.all_eq_true] at h
  have : PyData.strOk s = true := by
    unfold PyData.strOk
    rw [← Array.all_toList, List.all_eq_true]
    intro c hc
    have z := h.2 c hc
    have z : (!decide ([c] < [97]) && !decide ([122] < [c])) = true := z
    rw [Bool.and_eq_true, Bool.not_eq_true', decide_eq_false_iff_not, Bool.not_eq_true', decide_eq_false_iff_not] at z
    have z2 : ¬ 122 < c := fun q => z.2 (List.Lex.rel q)
    exact decide_eq_true (by omega)
  simp [D.fitb, D.flat, D.py, PyData.canLay0, PyData.depth, this]
theorem fit_book {ss : List (Str × Int × Int)} (bk : BkOk ss) : (bookD ss).fit = true := fit_of (fitb_tupm (k := 2) fun t ht => fitb_tup (k := 1) fun x hx => by
  simp only [List.mem_cons, List.not_mem_nil, or_false] at hx
  rcases hx with rfl | rfl | rfl
  · exact let_fit (bk.ok t ht).le
  · exact fitb_int _
  · exact fitb_int _) (by decide)
def kEqA (C : Addr) (x y : D) (φ : En → Prop) : Prop := ∃ ss n cs ss2 n2 cs2, x = albD C ss n cs ∧ y = albD C ss2 n2 cs2 ∧ BkOk ss ∧ BkOk ss2 ∧ φ (.d (.bl ((bookD ss).eqv (bookD ss2) && eqC cs cs2)))
theorem ky_cs (cs : Cts) : kyA cs = (cs.map kcT).map Prod.fst ∧ vlA cs = (cs.map kcT).map fun c => .int c.2 := ⟨rfl, rfl⟩
theorem ok_Album___eq__ (T : Txt K mg ad fd) (TM : TxtM K mg C am fm) (TG : TxtG mg) : FnOk P w K mg base CX0 1 (am 9) (fm 9) ps_Album___eq__ (spX K (sp2 (kEqA C))) := by
  refine (show Fun K "__eq__" "Album.__eq__" st_Album___eq__ (am 9) (fm 9) from TM.f 9 (by decide)).ok sc_Album___eq__ (fun vs H Q E h => len2 h) (fun cdv A outer s H vs Q E hr h => ?_)
  have hu := hu_of hr
  have hu65 := hu65_of hr
  refine ⟨_, (pss_one (ps_ret (pe_and (pe_callB (r := rIsi K) call_isi (by rfl) (T.z 6 (by decide)) (by decide +kernel) (pa_cons (pv 1) (pa_cons (pe_glob (v := .ref C) (by rfl) TM.mgC rfl) pa_nil))) (pe_and (pe_cmpR (r := rEqD K) (op_eqD hr.units) (pe_fldK (K := K) (pv 0) rfl) (pe_fldK (K := K) (pv 1) rfl) (nomark _)) (pe_one (pe_cmpR (r := HmQ.rEqD) (HmQ.op_eqDi hr.units) (pe_fldK (K := K) (pv 0) rfl) (pe_fldK (K := K) (pv 1) rfl) (nomark _))))))), ?_⟩
  refine body2 h fun x y φ hk => ?_
  rw [show st0 nm_Album___eq__ [x, y] = [.d x, .d y] from rfl]
  obtain ⟨ss, n, cs, ss2, n2, cs2, rfl, rfl, bk, bk2, hk⟩ := hk
  refine ⟨TM.oi, ⟨_, _, rfl⟩, ?_⟩
  refine wb_t (ifT rfl ?_)
  refine ⟨C, _, _, bookD ss, rfl, TM.cl, TM.nB, rfl, C, _, _, bookD ss2, rfl, TM.cl, TM.nB, rfl, fit_book bk, fit_book bk2, ?_⟩
  refine wb_t (ifB (fun c => ?_) (fun c => ?_))
  · have c : (bookD ss).eqv (bookD ss2) = true := c
    rw [c, Bool.true_and] at hk
    exact ⟨C, _, _, .dT (kyA cs) (vlA cs), rfl, TM.cl, TM.nM, rfl, C, _, _, .dT (kyA cs2) (vlA cs2), rfl, TM.cl, TM.nM, rfl, cs.map kcT, cs2.map kcT, rfl, rfl, hk⟩
  · have c : (bookD ss).eqv (bookD ss2) = false := c
    rw [c, Bool.false_and] at hk
    exact hk
def kTake (C : Addr) (ns : List Str) (os : List O) (x m : D) (φ : List Str → List O → Prop) : Prop := ∃ ss n cs t k, ns = nsA ∧ os = osA ss n cs ∧ x = stD t ∧ stB ss x = true ∧ m = .int k ∧ 1 ≤ k ∧ k ≤ cntA cs t ∧ cs.length ≤ 10000 ∧ φ nsA (osA ss n (takeA cs t k))
theorem look_some {cs : Cts} {t : St3} (h : 1 ≤ cntA cs t) : (lookD (kyA cs) (vlA cs) (keyT t)).isSome = true := by
  rw [look_A]
  unfold cntA at h
  cases q : getA cs t with
  | none =>
    rw [q] at h
    exact absurd h (by decide)
  | some n => rfl
theorem ok_Album_take (T : Txt K mg ad fd) (TM : TxtM K mg C am fm) (TG : TxtG mg) : FnOk P w K mg base CX0 8 (am 12) (fm 12) ps_Album_take (spO K C (mo2 (kTake C))) := by
  refine TM.fd_take.ok0D sc_Album_take (fun vs H Q E h => lemo2 h) (fun cdv A outer s H vs Q E hr h => ?_)
  have hu := hu_of hr
  have hu65 := hu65_of hr
  refine ⟨_, (pss_cons (ps_expr (pe_brw 0 (pe_meth (pv 0) TM.cl (TM.m 0 (by decide)) (ok_Album__check_some (K := K) T TM TG) (hr.mono (by omega)) (bm__check_some TM) .nil pass0 (pa_cons (pv 1) (pa_cons (pv 2) pa_nil)))))
  (pss_cons (ps_set (i := 3) sc_Album_take.nd rfl (Or.inl rfl) (pe_op op_sub (pe_brw 0 (pe_meth (pv 0) TM.cl (TM.m 4 (by decide)) (ok_Album_count_of (K := K) T TM TG) (hr.mono (by omega)) (bm_count_of TM) .nil pass0 (pa_cons (pv 1) pa_nil))) (pv 2)))
  (pss_cons (ps_if (pt_cmpR op_lt (pv 3) pe_int (nomark _))
    (pss_one ps_never)
    pss_nil)
  (pss_one (ps_if (pt_cmpR (r := rEqD K) (op_eqD hr.units) (pv 3) pe_int (nomark _))
    (pss_one (HmQ.ps_ddelT hu (pe_fldK (K := K) (pv 0) rfl) (pv 1)))
    (pss_one (ps_dput hu (pe_fldK (K := K) (pv 0) rfl) (pv 1) (pv 3) rfl))))))), ?_⟩
  refine bodmo2 h fun ns os x y φ p T0 hk => ?_
  rw [show stO nm_Album_take (.ins C ns os) (p :: T0) [x, y] = [.ow (.ins C ns os) (p :: T0), .d x, .d y, .no] from rfl]
  obtain ⟨ss, n, cs, t, k, rfl, rfl, rfl, hs, rfl, h1, hle, hl, hk⟩ := hk
  refine ⟨_, _, rfl, ?_⟩
  rw [alb_dt]
  refine ⟨⟨_, _, rfl, rfl⟩, rfl, ss, n, cs, k, rfl, st_good t, hs, rfl, h1, rfl, ?_⟩
  refine ⟨_, _, rfl, ?_⟩
  rw [alb_dt]
  refine ⟨⟨_, _, rfl, rfl⟩, rfl, ss, n, cs, t, rfl, rfl, hs, rfl, rfl, ?_⟩
  refine ⟨rfl, rfl, ?_⟩
  refine ifF (decide_eq_false (by omega)) ?_
  have cl : (lookD (kyA cs) (vlA cs) (keyT t)).isSome = true := look_some (by omega)
  refine ⟨rfl, fit_int _, fit_int _, ?_⟩
  refine ifB (fun c => ?_) (fun c => ?_)
  · have c : cntA cs t - k = 0 := by
      have : (D.int (cntA cs t - k)).eqv (.int 0) = true := c
      rw [eqv_int] at this
      exact of_decide_eq_true this
    obtain ⟨p1, p2⟩ := del_A t cs
    refine ⟨C, ["_book", "_name"], [.d (bookD ss), .d (.str n)], kyA cs, vlA cs, _, stD t, keyT t, rfl, many_no, TM.cl, TM.nM, rfl, keysOf_st t, cl, ?_⟩
    refine ⟨nsA, osA ss n (takeA cs t k), T0, ?_, hk⟩
    show some (En.ow (.ins C nsA ([.d (bookD ss), .d (.str n)] ++ [.dT (dropTs (kyA cs) (keyT t)) ((dropTD (kyA cs) (vlA cs) (keyT t)).map O.d)])) (p :: T0)) = _
    rw [p1, p2]
    unfold takeA
    rw [if_pos c]
    rfl
  · have c : ¬ cntA cs t - k = 0 := fun z => by
      have c : (D.int (cntA cs t - k)).eqv (.int 0) = false := c
      rw [eqv_int, decide_eq_true z] at c
      cases c
    obtain ⟨p1, p2⟩ := put_A cs t (cntA cs t - k)
    refine ⟨C, ["_book", "_name"], [.d (bookD ss), .d (.str n)], kyA cs, vlA cs, _, stD t, keyT t, rfl, many_no, TM.cl, TM.nM, rfl, keysOf_st t, by rw [kyA_len]; omega, ?_⟩
    refine ⟨nsA, osA ss n (takeA cs t k), T0, ?_, hk⟩
    show some (En.ow (.ins C nsA ([.d (bookD ss), .d (.str n)] ++ [.dT (putTs (kyA cs) (keyT t)) ((putTD (kyA cs) (vlA cs) (keyT t) (.int (cntA cs t - k))).map O.d)])) (p :: T0)) = _
    rw [p1, p2]
    unfold takeA
    rw [if_neg c]
    rfl
end
end Dl

set_option Elab.async false
set_option maxRecDepth 100000
set_option maxHeartbeats 4000000
set_option linter.all false
set_option synthInstance.maxHeartbeats 4000000
set_option synthInstance.maxSize 10000



namespace Dl
open PySem PySem.Spec PyProof.Rows L2 RZ HmS Da
section
variable {P : Program} {w : World} {K : PySem.W.Frag} [HasT K] {mg : Str → Option Value} {base : Heap} {ad am : Nat → Addr} {fd fm : Nat → FuncData} {C : Addr}
def kFilled (C : Addr) (b nm r : D) (φ : En → Prop) : Prop := ∃ ss n rs, b = bookD ss ∧ BkOk ss ∧ nm = .str n ∧ n.length ≤ 8 ∧ letB nm 0 8 = true ∧ r = .lst (rs.map rwD) ∧ CtOk (OkS ss) rs ∧ rs.length ≤ 1000 ∧ ∀ p T, φ (.ow (.ins C nsA (osA ss n rs)) (p :: T))
theorem ok_filled (T : Txt K mg ad fd) (TM : TxtM K mg C am fm) (TG : TxtG mg) : FnOk P w K mg base CX0 9 (ad 18) (fd 18) ps_filled (spX K (sp3 (kFilled C))) := by
  refine (show Fun K "filled" "filled" st_filled (ad 18) (fd 18) from T.f 18 (by decide)).ok sc_filled (fun vs H Q E h => len3 h) (fun cdv A outer s H vs Q E hr h => ?_)
  have hu := hu_of hr
  have hu65 := hu65_of hr
  refine ⟨_, (pss_cons (ps_set (i := 3) sc_filled.nd rfl (Or.inl rfl) (pe_make TM.mkA (ok_Album___init__ (K := K) T TM TG) (hr.mono (by omega)) (by rfl) TM.mgC (bm___init___3 TM).choose_spec.2 (bm___init___3 TM).choose_spec.1 pass0 (pa_cons (pv 0) (pa_cons (pv 1) pa_nil))))
  (pss_cons (ps_for PassesOwn.never rfl (pi_listK (K := K) (pv 2)) (pg_tupK (K := K) (n := 2) rfl (pgs_cons (pg_name (i := 4) sc_filled.nd rfl (Or.inl rfl)) (pgs_cons (pg_name (i := 5) sc_filled.nd rfl (Or.inl rfl)) pgs_nil)))
    (pss_one (ps_expr (pe_meth (pv 3) TM.cl (TM.m 11 (by decide)) (ok_Album_put (K := K) T TM TG) (hr.mono (by omega)) (bm_put_3 TM).choose_spec.2 (bm_put_3 TM).choose_spec.1 pass0 (pa_cons (pv 4) (pa_cons (pv 5) pa_nil))))))
  (pss_one (ps_ret (pv 3))))), ?_⟩
  refine body3 h fun x y z φ hk => ?_
  rw [show st0 nm_filled [x, y, z] = [.d x, .d y, .d z, .no, .no, .no] from rfl]
  obtain ⟨ss, n, rs, rfl, bk, rfl, nl, hn, rfl, ok, rl, hk⟩ := hk
  refine ⟨rfl, rfl, rfl, ss, n, rfl, bk.good, bk.b, rfl, decide_eq_true (show n.length ≤ 1000 by omega), hn, .inl ⟨rfl, fun p T => ?_⟩⟩
  (try simp only [dVar, dC, dNil, dCons, dTup, dLst, dOp, onI, dI, dI0, dUn, dEq, dNe, dIxT, dIxL, dIxLv, dAndV, dOrV, dNotV, dB, dAnd, dOr, dNot, dYes, dIf, dChain, dCB, dLenR, dLenv, dListR, dTupR, dMxR, dMnR, dIntR, dIsi, dNoPart, dPart, dSl, dCatA, dCat, dRep, dIn, dInD, dIsN, D.isN, dCall, dCallP, dCallS, dPen0, dTruv, dRg1, dRg2, dLstRg, dTupRg, dLenSet, wf, wb, wi, wt, wl, vD, isSc, dSeq, dNext, dRet, dRetv, dRetN, dIfS, dAsg, dAsgT, dgTup, dgCons, dPar, dApp, dExt, dSetL, dPopAt, dRse, dNever, dDrop, dITup, dILst, dIRng1, dIRng2, dIDn, dIEnT, dIEnL, dIZip, po, poP, sp0, sp1, sp2, sp3, sp4, sp5, pp0, pp1, pp2, pp3, pp4, mo0, mo1, mo2, mo3, dBrw, immE, dMethO, dMake, dFSet, dFPut, fputK, dFDel, dGet2X, dOrT, dIStr, dLeStr, dAttr, dMeth, List.set_cons_zero, List.set_cons_succ, List.getElem?_cons_zero, List.getElem?_cons_succ, List.all_nil, List.map_nil, List.append_nil, List.cons_append, List.nil_append, true_and, ite_true, if_true])
  refine ⟨fun i Γ => ∃ (p : Addr) (T : List Addr) (v4 v5 : En), Γ = [.d (bookD ss), .d (.str n), .d (.lst (rs.map rwD)), .ow (.ins C nsA (osA ss n (rs.take i))) (p :: T), v4, v5], ⟨_, _, _, _, rfl⟩, ?_⟩
  rintro i Γ ⟨p, T, v4, v5, rfl⟩
  refine ⟨fun e => ?_, fun d hd => ?_⟩
  · rw [List.length_map] at e
    rw [e, List.take_length]
    exact ⟨_, rfl, (fun z => nomatch z), hk p T⟩
  · obtain ⟨c, hc, rfl⟩ := at_map hd
    have cm := List.mem_of_getElem? hc
    have il := (List.getElem?_eq_some_iff.mp hc).1
    have nw : c.1 ∉ ((rs.take i).map (·.1)) := fun z => by
      have nd := ok.nd
      have e : rs = rs.take i ++ c :: rs.drop (i + 1) := by
        have e2 := List.take_append_drop i rs
        rw [List.drop_eq_getElem_cons il] at e2
        rw [(List.getElem?_eq_some_iff.mp hc).2] at e2
        exact e2.symm
      rw [e, List.map_append, List.map_cons] at nd
      exact (List.nodup_append.mp nd).2.2 c.1 z c.1 List.mem_cons_self rfl
    refine ⟨rfl, rfl, ⟨_, _, _, rfl, many_out⟩, ?_⟩
    refine ⟨rfl, _, _, _, rfl, ss, n, rs.take i, c.1, c.2, rfl, rfl, rfl, ok.st c cm, rfl, ok.pos c cm, by rw [List.length_take]; omega, fun p2 T2 => ?_⟩
    refine ⟨p2, T2, .d (stD c.1), .d (.int c.2), ?_⟩
    rw [addA_new nw, List.take_add_one, hc]
    rfl
def kTwin (C : Addr) (s : D) (φ : En → Prop) : Prop := ∃ ss n cs, s = albD C ss n cs ∧ BkOk ss ∧ n.length ≤ 8 ∧ letB (.str n) 0 8 = true ∧ CtOk (OkS ss) cs ∧ cs.length ≤ 1000 ∧ ∀ p T, φ (.ow (.ins C nsA (osA ss n (riseA cs))) (p :: T))
theorem ok_Album_twin (T : Txt K mg ad fd) (TM : TxtM K mg C am fm) (TG : TxtG mg) : FnOk P w K mg base CX0 10 (am 8) (fm 8) ps_Album_twin (spX K (sp1 (kTwin C))) := by
  refine (show Fun K "twin" "Album.twin" st_Album_twin (am 8) (fm 8) from TM.f 8 (by decide)).ok sc_Album_twin (fun vs H Q E h => len1 h) (fun cdv A outer s H vs Q E hr h => ?_)
  have hu := hu_of hr
  have hu65 := hu65_of hr
  refine ⟨_, (pss_one (ps_ret (pe_call (ok_filled (K := K) T TM TG) (hr.mono (by omega)) (by rfl) (T.g 18 (by decide)) (T.k 18 (by decide)) (bd_filled T) .nil pass0 (pa_cons (pe_fldK (K := K) (pv 0) rfl) (pa_cons (pe_fldK (K := K) (pv 0) rfl) (pa_cons (pe_meth0 (pv 0) TM.cl (TM.m 5 (by decide)) (ok_Album_all_of (K := K) T TM TG) (hr.mono (by omega)) (bm_all_of TM) .nil pass0) pa_nil)))))), ?_⟩
  refine body1 h fun x φ hk => ?_
  rw [show st0 nm_Album_twin [x] = [.d x] from rfl]
  obtain ⟨ss, n, cs, rfl, bk, nl, hn, ok, cl, hk⟩ := hk
  refine ⟨C, _, _, bookD ss, rfl, TM.cl, TM.nB, rfl, C, _, _, .str n, rfl, TM.cl, TM.nN, rfl, ⟨⟨_, _, rfl, rfl⟩, rfl, ss, n, cs, rfl, cl, fun nd => ?_⟩⟩
  refine ⟨rfl, ss, n, riseA cs, rfl, bk, rfl, nl, hn, rfl, ok.perm (riseA_perm cs), by rw [riseA_len]; exact cl, hk⟩
end
end Dl

set_option Elab.async false
set_option maxRecDepth 100000
set_option maxHeartbeats 4000000
set_option linter.all false
set_option synthInstance.maxHeartbeats 4000000
set_option synthInstance.maxSize 10000



namespace Dl
open PySem PySem.Spec PyProof.Rows L2 RZ HmS Da
section
variable {P : Program} {w : World} {K : PySem.W.Frag} [HasT K] {mg : Str → Option Value} {base : Heap} {ad am : Nat → Addr} {fd fm : Nat → FuncData} {C : Addr}
theorem wf_alb {C : Addr} {ss : List (Str × Int × Int)} {n : Str} {cs : Cts} {S : List Addr} {k : D → Prop} (h : k (albD C ss n cs)) : wf (.ow (.ins C nsA (osA ss n cs)) S) k := by
  show k (O.dt _)
  rw [alb_dt]
  exact h
def joinA (as bs : Cts) : Cts := bs.foldl (fun cs c => addA cs c.1 c.2) as
theorem joinA_snoc (as bs : Cts) (c : St3 × Int) : joinA as (bs ++ [c]) = addA (joinA as bs) c.1 c.2 := by
  unfold joinA
  rw [List.foldl_append]
  rfl
theorem joinA_len (as : Cts) : ∀ bs : Cts, (joinA as bs).length ≤ as.length + bs.length := fun bs => by
  induction bs generalizing as with
  | nil => exact Nat.le_refl _
  | cons c r ih =>
    have h1 := ih (addA as c.1 c.2)
    have h2 := addA_len as c.1 c.2
    show (joinA (addA as c.1 c.2) r).length ≤ _
    rw [List.length_cons]
    omega
theorem joinA_ok {ok : St3 → Prop} : ∀ {bs as : Cts}, CtOk ok as → CtOk ok bs → CtOk ok (joinA as bs)
  | [], _, h, _ => h
  | c :: r, as, h, h2 => joinA_ok (bs := r) (as := addA as c.1 c.2) (h.add (h2.st c List.mem_cons_self) (h2.pos c List.mem_cons_self)) ⟨(List.nodup_cons.mp h2.nd).2, fun d hd => h2.pos d (List.mem_cons_of_mem _ hd), fun d hd => h2.st d (List.mem_cons_of_mem _ hd)⟩
structure NmOk (n : Str) : Prop where
  l : n.length ≤ 8
  b : letB (.str n) 0 8 = true
def kJoin (C : Addr) (a b : D) (φ : En → Prop) : Prop := ∃ ss n as m bs, a = albD C ss n as ∧ b = albD C ss m bs ∧ BkOk ss ∧ NmOk n ∧ CtOk (OkS ss) as ∧ CtOk (OkS ss) bs ∧ as.length ≤ 1000 ∧ bs.length ≤ 1000 ∧ ∀ p T, φ (.ow (.ins C nsA (osA ss n (joinA (riseA as) (riseA bs)))) (p :: T))
theorem risI_pwW : ∀ {is : List Int}, risI is = true ↔ is.Pairwise (· < ·)
  | [] => by simp [risI]
  | [a] => by simp [risI]
  | a :: b :: r => by
    show (decide (a < b) && risI (b :: r)) = true ↔ _
    rw [Bool.and_eq_true, decide_eq_true_eq, risI_pwW (is := b :: r)]
    constructor
    · rintro ⟨h1, h2⟩
      refine List.pairwise_cons.mpr ⟨fun x hx => ?_, h2⟩
      rcases List.mem_cons.mp hx with rfl | hx
      · exact h1
      · have := (List.pairwise_cons.mp h2).1 x hx
        omega
    · intro h
      obtain ⟨h1, h2⟩ := List.pairwise_cons.mp h
      exact ⟨h1 b List.mem_cons_self, h2⟩
def inP (is : List Int) (c : St3 × Int) : Bool := is.contains c.1.1
def kPart (C : Addr) (a x : D) (φ : En → Prop) : Prop := ∃ ss n cs, ∃ is : List Int, a = albD C ss n cs ∧ x = .tup (is.map .int) ∧ BkOk ss ∧ NmOk n ∧ CtOk (OkS ss) cs ∧ cs.length ≤ 1000 ∧ is.length ≤ 100 ∧ is.Pairwise (· < ·) ∧ (∀ k ∈ is, 0 ≤ k ∧ k ≤ (ss.length : Int) - 1) ∧
  φ (.d (.tup [albD C ss n ((riseA cs).filter (inP is)), albD C ss n ((riseA cs).filter fun c => !inP is c)]))
theorem ok_parted (T : Txt K mg ad fd) (TM : TxtM K mg C am fm) (TG : TxtG mg) : FnOk P w K mg base CX0 10 (ad 19) (fd 19) ps_parted (spX K (sp2 (kPart C))) := by
  refine (show Fun K "parted" "parted" st_parted (ad 19) (fd 19) from T.f 19 (by decide)).ok sc_parted (fun vs H Q E h => len2 h) (fun cdv A outer s H vs Q E hr h => ?_)
  have hu := hu_of hr
  have hu65 := hu65_of hr
  refine ⟨_, (pss_cons (ps_if (pt_not (pt_val (pe_call (ok_is_rising_within (K := K) T) (hr.mono (by omega)) (by rfl) (T.g 10 (by decide)) (T.k 10 (by decide)) (bd_is_rising_within T) .nil pass0 (pa_cons (pv 1) (pa_cons pe_int (pa_cons (pe_op op_sub (pe_callB (r := Da.rLen K) cl_len (by rfl) (T.z 0 (by decide)) (by decide +kernel) (pa_cons (pe_meth0 (pv 0) TM.cl (TM.m 2 (by decide)) (ok_Album_book (K := K) T TM TG) (hr.mono (by omega)) (bm_book TM) .nil pass0) pa_nil)) pe_int) pa_nil))))))
    (pss_one ps_never)
    pss_nil)
  (pss_cons (ps_setLc (i := 2) (own := [("stamp", 4), ("many", 5)]) (g := (gTup K 2 (gCons (gName 4) (gCons (gName 5) gNil)))) (by rfl) sc_parted.nd rfl rfl (sw_true rfl rfl rfl (by decide +kernel)) (pi_listK (K := K) (pe_meth0 (pv 0) TM.cl (TM.m 5 (by decide)) (ok_Album_all_of (K := K) T TM TG) (hr.mono (by omega)) (bm_all_of TM) .nil pass0))
      (blkOk_by (N := nm_parted) (sc := defScope st_parted) (by decide +kernel)) (fun _ _ _ _ _ => by exact (pg_tupK (K := K) (n := 2) rfl (pgs_cons (pg_name (i := 4) sc_parted.nd rfl (Or.inl rfl)) (pgs_cons (pg_name (i := 5) sc_parted.nd rfl (Or.inl rfl)) pgs_nil)))) (fun _ _ _ _ _ => pts_one (pt_cmpR (r := rIn K false) op_in_seq (pe_ix (r := rIxT K) ix_tup (pv 4) pe_int (fun _ _ => rfl)) (pv 1) (by rfl)))
      (fun _ _ _ _ _ => by exact (pe_tup (pa_cons (pv 4) (pa_cons (pv 5) pa_nil)))))
  (pss_cons (ps_setLc (i := 3) (own := [("stamp", 4), ("many", 5)]) (g := (gTup K 2 (gCons (gName 4) (gCons (gName 5) gNil)))) (by rfl) sc_parted.nd rfl rfl (sw_true rfl rfl rfl (by decide +kernel)) (pi_listK (K := K) (pe_meth0 (pv 0) TM.cl (TM.m 5 (by decide)) (ok_Album_all_of (K := K) T TM TG) (hr.mono (by omega)) (bm_all_of TM) .nil pass0))
      (blkOk_by (N := nm_parted) (sc := defScope st_parted) (by decide +kernel)) (fun _ _ _ _ _ => by exact (pg_tupK (K := K) (n := 2) rfl (pgs_cons (pg_name (i := 4) sc_parted.nd rfl (Or.inl rfl)) (pgs_cons (pg_name (i := 5) sc_parted.nd rfl (Or.inl rfl)) pgs_nil)))) (fun _ _ _ _ _ => pts_one (pt_cmpR (r := rIn K true) op_notIn_seq (pe_ix (r := rIxT K) ix_tup (pv 4) pe_int (fun _ _ => rfl)) (pv 1) (by rfl)))
      (fun _ _ _ _ _ => by exact (pe_tup (pa_cons (pv 4) (pa_cons (pv 5) pa_nil)))))
  (pss_one (ps_ret (pe_tup (pa_cons (pe_call (ok_filled (K := K) T TM TG) (hr.mono (by omega)) (by rfl) (T.g 18 (by decide)) (T.k 18 (by decide)) (bd_filled T) .nil pass0 (pa_cons (pe_meth0 (pv 0) TM.cl (TM.m 2 (by decide)) (ok_Album_book (K := K) T TM TG) (hr.mono (by omega)) (bm_book TM) .nil pass0) (pa_cons (pe_meth0 (pv 0) TM.cl (TM.m 3 (by decide)) (ok_Album_called (K := K) T TM TG) (hr.mono (by omega)) (bm_called TM) .nil pass0) (pa_cons (pv 2) pa_nil)))) (pa_cons (pe_call (ok_filled (K := K) T TM TG) (hr.mono (by omega)) (by rfl) (T.g 18 (by decide)) (T.k 18 (by decide)) (bd_filled T) .nil pass0 (pa_cons (pe_meth0 (pv 0) TM.cl (TM.m 2 (by decide)) (ok_Album_book (K := K) T TM TG) (hr.mono (by omega)) (bm_book TM) .nil pass0) (pa_cons (pe_meth0 (pv 0) TM.cl (TM.m 3 (by decide)) (ok_Album_called (K := K) T TM TG) (hr.mono (by omega)) (bm_called TM) .nil pass0) (pa_cons (pv 3) pa_nil)))) pa_nil)))))))), ?_⟩
  refine body2 h fun x y φ hk => ?_
  rw [show st0 nm_parted [x, y] = [.d x, .d y, .no, .no, .no, .no] from rfl]
  obtain ⟨ss, n, cs, is, rfl, rfl, bk, nm, ok, cl, il, ri, rg, hk⟩ := hk
  have rb : risW (.tup (is.map .int)) 0 ((ss.length : Int) - 1) = true := by
    show ((is.map D.int).all (fun y => inB y 0 ((ss.length : Int) - 1)) && risI ((is.map D.int).map intOf)) = true
    rw [List.map_map, show is.map (intOf ∘ D.int) = is from List.map_id _, risI_pwW.mpr ri, Bool.and_true, List.all_map, List.all_eq_true]
    intro k hk
    have := rg k hk
    show inB (.int k) 0 ((ss.length : Int) - 1) = true
    simp only [inB, Bool.and_eq_true, decide_eq_true_eq]
    omega
  have rl := riseA_len cs
  have okr := ok.perm (riseA_perm cs)
  have okf : ∀ f : St3 × Int → Bool, CtOk (OkS ss) ((riseA cs).filter f) := fun f => ⟨(List.Sublist.map _ List.filter_sublist).nodup okr.nd, fun c hc => okr.pos c (List.mem_filter.mp hc).1, fun c hc => okr.st c (List.mem_filter.mp hc).1⟩
  have lf : ∀ f : St3 × Int → Bool, ((riseA cs).filter f).length ≤ 1000 := fun f => Nat.le_trans (List.length_filter_le _ _) (by omega)
  refine seqIf (fun Γ => Γ = [.d (albD C ss n cs), .d (.tup (is.map .int)), .no, .no, .no, .no]) (fun N hN => ?_) ?_
  · refine ⟨rfl, ⟨_, _, rfl, rfl⟩, rfl, ss, n, cs, rfl, rfl, rfl, rfl, 0, ((ss.length : Int) - 1), rfl, ?_, rfl, fun xs h => ?_, ?_⟩
    · show D.int (((ss.map setD).length : Int) - 1) = _
      rw [List.length_map]
    · cases h
      refine ⟨by rw [List.length_map]; omega, fun u hu => ?_⟩
      obtain ⟨k, _, rfl⟩ := List.mem_map.mp hu
      rfl
    · rw [rb]
      exact wb_t (ifF rfl (hN _ rfl))
  rintro _ rfl
  have ef : ∀ f : Int → Bool, (((riseA cs).map rwD).filter fun x => match x with | .tup [.tup (.int a :: _), _] => f a | _ => false).map (fun x => x) = ((riseA cs).filter fun c => f c.1.1).map rwD := fun f => by
    rw [List.map_id', List.filter_map]
    rfl
  refine seqMidG (fun Γ => Γ = [.d (albD C ss n cs), .d (.tup (is.map .int)), .lst (((riseA cs).filter (inP is)).map rwD), .no, .no, .no]) (fun N hN => ?_) ?_
  · (try dsimp only [dNext, dSeq, dIfS, dB, dOp, dNot, dOr, dAnd, dNotV, dOrV, dAndV, dAsg, dRet, dDrop, dCB, dIf, dTup, dLst, dCons, dNil, wf_d, wf_l, wb_b, wi_i, wt_t, wl_l, wl_d, tupR_t, tupR_l, lstR_t, lstR_l, List.set_cons_zero, List.set_cons_succ])
    refine dLc_filt (items := (riseA cs).map rwD) (Γ1 := [.d (albD C ss n cs), .d (.tup (is.map .int)), .no, .no, .no, .no]) (Γw := [.d (albD C ss n cs), .d (.tup (is.map .int)), .no, .no, .no, .no])
      (fun x => match x with | .tup [.tup (.int a :: _), _] => is.contains a | _ => false) (fun x => x) rfl (fun ψ h => ?_) rfl rfl (by rw [List.length_map]; omega) (fun d hd ψ q => ?_) ?_
    · exact ⟨⟨_, _, rfl, rfl⟩, rfl, ss, n, cs, rfl, cl, fun _ => h⟩
    · obtain ⟨c, _, rfl⟩ := List.mem_map.mp hd
      have q := q [.d (albD C ss n cs), .d (.tup (is.map .int)), .no, .no, .d (stD c.1), .d (.int c.2)] rfl fun _ ψ' q' => ⟨show 2 ≤ 100000 by decide, q' _ _ rfl rfl⟩
      refine ⟨rfl, rfl, rfl, .int c.1.1, rfl, rfl, sc_ints _, ?_⟩
      have q : ψ (is.contains c.1.1) _ := q
      rw [← inD_ints] at q
      exact q
    · rw [ef fun a => is.contains a]
      exact hN _ rfl
  rintro _ rfl
  refine seqMidG (fun Γ => Γ = [.d (albD C ss n cs), .d (.tup (is.map .int)), .lst (((riseA cs).filter (inP is)).map rwD), .lst (((riseA cs).filter fun c => !inP is c).map rwD), .no, .no]) (fun N hN => ?_) ?_
  · (try dsimp only [dNext, dSeq, dIfS, dB, dOp, dNot, dOr, dAnd, dNotV, dOrV, dAndV, dAsg, dRet, dDrop, dCB, dIf, dTup, dLst, dCons, dNil, wf_d, wf_l, wb_b, wi_i, wt_t, wl_l, wl_d, tupR_t, tupR_l, lstR_t, lstR_l, List.set_cons_zero, List.set_cons_succ])
    refine dLc_filt (items := (riseA cs).map rwD) (Γ1 := [.d (albD C ss n cs), .d (.tup (is.map .int)), .lst (((riseA cs).filter (inP is)).map rwD), .no, .no, .no]) (Γw := [.d (albD C ss n cs), .d (.tup (is.map .int)), .lst (((riseA cs).filter (inP is)).map rwD), .no, .no, .no])
      (fun x => match x with | .tup [.tup (.int a :: _), _] => !is.contains a | _ => false) (fun x => x) rfl (fun ψ h => ?_) rfl rfl (by rw [List.length_map]; omega) (fun d hd ψ q => ?_) ?_
    · exact ⟨⟨_, _, rfl, rfl⟩, rfl, ss, n, cs, rfl, cl, fun _ => h⟩
    · obtain ⟨c, _, rfl⟩ := List.mem_map.mp hd
      have q := q [.d (albD C ss n cs), .d (.tup (is.map .int)), .lst (((riseA cs).filter (inP is)).map rwD), .no, .d (stD c.1), .d (.int c.2)] rfl fun _ ψ' q' => ⟨show 2 ≤ 100000 by decide, q' _ _ rfl rfl⟩
      refine ⟨rfl, rfl, rfl, .int c.1.1, rfl, rfl, sc_ints _, ?_⟩
      have q : ψ (!is.contains c.1.1) _ := q
      rw [← inD_ints] at q
      exact q
    · rw [ef fun a => !is.contains a]
      exact hN _ rfl
  rintro _ rfl
  refine ⟨⟨_, _, rfl, rfl⟩, rfl, ss, n, cs, rfl, ⟨_, _, rfl, rfl⟩, rfl, ss, n, cs, rfl, ?_⟩
  refine ⟨rfl, ss, n, _, rfl, bk, rfl, nm.l, nm.b, rfl, okf _, lf _, fun p T => wf_alb ?_⟩
  refine ⟨⟨_, _, rfl, rfl⟩, rfl, ss, n, cs, rfl, ⟨_, _, rfl, rfl⟩, rfl, ss, n, cs, rfl, ?_⟩
  refine ⟨rfl, ss, n, _, rfl, bk, rfl, nm.l, nm.b, rfl, okf _, lf _, fun p T => wf_alb ?_⟩
  exact ⟨show 2 ≤ 100000 by decide, hk⟩
end
end Dl

set_option Elab.async false
set_option maxRecDepth 100000
set_option maxHeartbeats 4000000
set_option linter.all false
set_option synthInstance.maxHeartbeats 4000000
set_option synthInstance.maxSize 10000







namespace Dl
open PySem PySem.Spec PyProof.Rows L2 RZ HmS Da
section
variable {P : Program} {w : World} {K : PySem.W.Frag} [HasT K] {mg : Str → Option Value} {base : Heap} {ad am : Nat → Addr} {fd fm : Nat → FuncData} {C : Addr}
structure Er where
  l : Addr
  n : Addr
  s : Addr
  o : Addr
  p : Addr
  q : Addr
  r : Addr
  h : Addr
structure TxtE (K : PySem.W.Frag) (mg : Str → Option Value) (ce : Er) : Prop where
  NoList : ErrT K mg "NoList" ce.l
  NoName : ErrT K mg "NoName" ce.n
  NoStamps : ErrT K mg "NoStamps" ce.s
  NoStamp : ErrT K mg "NoStamp" ce.o
  NoSets : ErrT K mg "NoSets" ce.p
  NoSet : ErrT K mg "NoSet" ce.q
  NoNumber : ErrT K mg "NoNumber" ce.r
  ell : PySem.W.exmOne K (.ref ce.l) (.ref ce.l) = some true
  enl : PySem.W.exmOne K (.ref ce.n) (.ref ce.l) = some false
  enn : PySem.W.exmOne K (.ref ce.n) (.ref ce.n) = some true
  esl : PySem.W.exmOne K (.ref ce.s) (.ref ce.l) = some false
  esn : PySem.W.exmOne K (.ref ce.s) (.ref ce.n) = some false
  ess : PySem.W.exmOne K (.ref ce.s) (.ref ce.s) = some true
  eol : PySem.W.exmOne K (.ref ce.o) (.ref ce.l) = some false
  eon : PySem.W.exmOne K (.ref ce.o) (.ref ce.n) = some false
  eos : PySem.W.exmOne K (.ref ce.o) (.ref ce.s) = some false
  eoo : PySem.W.exmOne K (.ref ce.o) (.ref ce.o) = some true
  epl : PySem.W.exmOne K (.ref ce.p) (.ref ce.l) = some false
  epn : PySem.W.exmOne K (.ref ce.p) (.ref ce.n) = some false
  eps : PySem.W.exmOne K (.ref ce.p) (.ref ce.s) = some false
  epo : PySem.W.exmOne K (.ref ce.p) (.ref ce.o) = some false
  epp : PySem.W.exmOne K (.ref ce.p) (.ref ce.p) = some true
  eql : PySem.W.exmOne K (.ref ce.q) (.ref ce.l) = some false
  eqn : PySem.W.exmOne K (.ref ce.q) (.ref ce.n) = some false
  eqs : PySem.W.exmOne K (.ref ce.q) (.ref ce.s) = some false
  eqo : PySem.W.exmOne K (.ref ce.q) (.ref ce.o) = some false
  eqp : PySem.W.exmOne K (.ref ce.q) (.ref ce.p) = some false
  eqq : PySem.W.exmOne K (.ref ce.q) (.ref ce.q) = some true
  erl : PySem.W.exmOne K (.ref ce.r) (.ref ce.l) = some false
  ern : PySem.W.exmOne K (.ref ce.r) (.ref ce.n) = some false
  ers : PySem.W.exmOne K (.ref ce.r) (.ref ce.s) = some false
  ero : PySem.W.exmOne K (.ref ce.r) (.ref ce.o) = some false
  erp : PySem.W.exmOne K (.ref ce.r) (.ref ce.p) = some false
  erq : PySem.W.exmOne K (.ref ce.r) (.ref ce.q) = some false
  err : PySem.W.exmOne K (.ref ce.r) (.ref ce.r) = some true
  gh : mg "Short" = some (.ref ce.h)
  elh : PySem.W.exmOne K (.ref ce.l) (.ref ce.h) = some false
  enh : PySem.W.exmOne K (.ref ce.n) (.ref ce.h) = some false
  esh : PySem.W.exmOne K (.ref ce.s) (.ref ce.h) = some false
  eoh : PySem.W.exmOne K (.ref ce.o) (.ref ce.h) = some false
  eph : PySem.W.exmOne K (.ref ce.p) (.ref ce.h) = some false
  eqh : PySem.W.exmOne K (.ref ce.q) (.ref ce.h) = some false
  erh : PySem.W.exmOne K (.ref ce.r) (.ref ce.h) = some false
variable {ce : Er} {lc PT : Addr}
def woE (ce : Er) (C : Value) (w : Str) : Prop := (C = .ref ce.l ∧ w = "list") ∨ (C = .ref ce.n ∧ w = "name") ∨ (C = .ref ce.s ∧ w = "stamps") ∨ (C = .ref ce.o ∧ w = "stamp") ∨ (C = .ref ce.p ∧ w = "sets") ∨ (C = .ref ce.q ∧ w = "set") ∨ (C = .ref ce.r ∧ w = "number")
theorem gives__law_word {X : Cx} {g : Addr} {cdg : Value} {q : Str} {ce : Er} (T : TxtE X.K X.mg ce) :
    LamX.GivesTo X nm__law_word "_law_word" (defScope st__law_word) g cdg (defBody st__law_word) "_law_call" q (TTwhy (woE ce) "none") := by
  intro f c' s H Q tl act hc h
  refine ⟨_, pss_cons (HmT.ps_skip (ps_try_many (X := (cxOf C8.CX0 X.prog X.w X.K X.mg X.base nm__law_word "_law_word" (defScope st__law_word) g cdg X.A X.stack s H C8.E0).nox)
      (tb := fun W D σ H => ∃ Ech : XK, (∀ cls d σ' H', Ech cls d H' → W cls d σ' H') ∧ σ[0]? = some (some (.ref f)) ∧ H c' = some (LamX.CodeO c' q) ∧ tl Ech H (fun _ H1 => D.nx σ H1)) rfl rfl LamX.takes0 (fun W pn xe tk _ => ?_)
      (.cons (c := .ref ce.h) (ts := fun _ _ _ => tNever) ⟨rfl, by decide, .inl T.gh⟩ (fun _ _ _ _ _ _ _ => pss_never)
      (.cons (c := .ref ce.l) (ts := fun _ _ _ => tRet (tC (.str "list"))) ⟨rfl, by decide, .inl T.NoList.g⟩ (fun _ _ _ _ _ _ _ => pss_one (ps_ret pe_str))
      (.cons (c := .ref ce.n) (ts := fun _ _ _ => tRet (tC (.str "name"))) ⟨rfl, by decide, .inl T.NoName.g⟩ (fun _ _ _ _ _ _ _ => pss_one (ps_ret pe_str))
      (.cons (c := .ref ce.s) (ts := fun _ _ _ => tRet (tC (.str "stamps"))) ⟨rfl, by decide, .inl T.NoStamps.g⟩ (fun _ _ _ _ _ _ _ => pss_one (ps_ret pe_str))
      (.cons (c := .ref ce.o) (ts := fun _ _ _ => tRet (tC (.str "stamp"))) ⟨rfl, by decide, .inl T.NoStamp.g⟩ (fun _ _ _ _ _ _ _ => pss_one (ps_ret pe_str))
      (.cons (c := .ref ce.p) (ts := fun _ _ _ => tRet (tC (.str "sets"))) ⟨rfl, by decide, .inl T.NoSets.g⟩ (fun _ _ _ _ _ _ _ => pss_one (ps_ret pe_str))
      (.cons (c := .ref ce.q) (ts := fun _ _ _ => tRet (tC (.str "set"))) ⟨rfl, by decide, .inl T.NoSet.g⟩ (fun _ _ _ _ _ _ _ => pss_one (ps_ret pe_str))
      (.cons (c := .ref ce.r) (ts := fun _ _ _ => tRet (tC (.str "number"))) ⟨rfl, by decide, .inl T.NoNumber.g⟩ (fun _ _ _ _ _ _ _ => pss_one (ps_ret pe_str))
      .nil)))))))))) (pss_one (ps_ret pe_str)), ?_⟩
  · refine ⟨fun pins s' σ H' D I h' => ?_⟩
    obtain ⟨Ech, hW, h1, h2, h3⟩ := h'
    exact (pss_one (ps_expr (act W pn xe Ech _ _ tk hW))).run pins s' σ H' D I ⟨h1, h2, h3⟩
  · refine ⟨fun cls _ H' => ∃ w, woE ce cls w ∧ Q (.str w) H', fun cls d σ' H' z => ?_, rfl, hc, h⟩
    obtain ⟨w, z, qc⟩ := z
    rcases z with ⟨rfl, rfl⟩ | ⟨rfl, rfl⟩ | ⟨rfl, rfl⟩ | ⟨rfl, rfl⟩ | ⟨rfl, rfl⟩ | ⟨rfl, rfl⟩ | ⟨rfl, rfl⟩
    · exact ⟨false, T.elh, (fun z => by cases z), fun _ => ⟨true, T.ell, (fun _ _ _ => qc), (fun z => by cases z)⟩⟩
    · exact ⟨false, T.enh, (fun z => by cases z), fun _ => ⟨false, T.enl, (fun z => by cases z), fun _ => ⟨true, T.enn, (fun _ _ _ => qc), (fun z => by cases z)⟩⟩⟩
    · exact ⟨false, T.esh, (fun z => by cases z), fun _ => ⟨false, T.esl, (fun z => by cases z), fun _ => ⟨false, T.esn, (fun z => by cases z), fun _ => ⟨true, T.ess, (fun _ _ _ => qc), (fun z => by cases z)⟩⟩⟩⟩
    · exact ⟨false, T.eoh, (fun z => by cases z), fun _ => ⟨false, T.eol, (fun z => by cases z), fun _ => ⟨false, T.eon, (fun z => by cases z), fun _ => ⟨false, T.eos, (fun z => by cases z), fun _ => ⟨true, T.eoo, (fun _ _ _ => qc), (fun z => by cases z)⟩⟩⟩⟩⟩
    · exact ⟨false, T.eph, (fun z => by cases z), fun _ => ⟨false, T.epl, (fun z => by cases z), fun _ => ⟨false, T.epn, (fun z => by cases z), fun _ => ⟨false, T.eps, (fun z => by cases z), fun _ => ⟨false, T.epo, (fun z => by cases z), fun _ => ⟨true, T.epp, (fun _ _ _ => qc), (fun z => by cases z)⟩⟩⟩⟩⟩⟩
    · exact ⟨false, T.eqh, (fun z => by cases z), fun _ => ⟨false, T.eql, (fun z => by cases z), fun _ => ⟨false, T.eqn, (fun z => by cases z), fun _ => ⟨false, T.eqs, (fun z => by cases z), fun _ => ⟨false, T.eqo, (fun z => by cases z), fun _ => ⟨false, T.eqp, (fun z => by cases z), fun _ => ⟨true, T.eqq, (fun _ _ _ => qc), (fun z => by cases z)⟩⟩⟩⟩⟩⟩⟩
    · exact ⟨false, T.erh, (fun z => by cases z), fun _ => ⟨false, T.erl, (fun z => by cases z), fun _ => ⟨false, T.ern, (fun z => by cases z), fun _ => ⟨false, T.ers, (fun z => by cases z), fun _ => ⟨false, T.ero, (fun z => by cases z), fun _ => ⟨false, T.erp, (fun z => by cases z), fun _ => ⟨false, T.erq, (fun z => by cases z), fun _ => ⟨true, T.err, (fun _ _ _ => qc), (fun z => by cases z)⟩⟩⟩⟩⟩⟩⟩⟩
theorem dWhy_go {ce : Er} {den : (Value → Prop) → DT} {Γ : List En} {φ : En → List En → Prop} (hd : ∀ ψ : Value → Prop, (∀ C, (∃ w, woE ce C w ∧ φ (.d (.str w)) Γ) → ψ C) → den ψ (Γ.map onlyE) fun _ _ => φ (.d (.str "none")) Γ) :
    dWhy (woE ce) "none" den Γ φ := ⟨fun C => ∃ w, woE ce C w ∧ φ (.d (.str w)) Γ, fun _ h => h, hd _ fun _ h => h⟩
theorem dWhyB_fz {ce : Er} {i : Nat} {den : (Value → Prop) → DT} {Γ : List En} {φ : En → List En → Prop} {o : O} {S : List Addr} (g : Γ[i]? = some (.ow o S)) (hd : ∀ ψ : Value → Prop, (∀ C, (∃ w, woE ce C w ∧ φ (.d (.str w)) Γ) → ψ C) → den ψ ((Γ.map onlyE).set i (.d o.dt)) fun _ _ => φ (.d (.str "none")) Γ) :
    dWhyB i (woE ce) "none" den Γ φ := ⟨o, S, g, .inl ⟨fun C => ∃ w, woE ce C w ∧ φ (.d (.str w)) Γ, fun _ h => h, hd _ fun _ h => h⟩⟩
theorem dWhyB_ow {ce : Er} {i : Nat} {den : (Value → Prop) → DT} {Γ : List En} {φ : En → List En → Prop} {o : O} {S : List Addr} (g : Γ[i]? = some (.ow o S)) (hd : den (fun _ => False) ((Γ.map onlyE).set i (.ow o S)) fun _ Γ2 => ∃ o2 S2, Γ2[i]? = some (.ow o2 S2) ∧ φ (.d (.str "none")) (Γ.set i (.ow o2 S2))) :
    dWhyB i (woE ce) "none" den Γ φ := ⟨o, S, g, .inr hd⟩
theorem eqS_ne {a b : Str} (e : a = b) {φ : En → Prop} (h : φ (.d (.bl false))) : dEqS true (.str a) (.str b) φ := by
  subst e
  simpa [dEqS] using h
theorem eqS_eq {a b : Str} (e : a = b) {φ : En → Prop} (h : φ (.d (.bl true))) : dEqS false (.str a) (.str b) φ := by
  subst e
  simpa [dEqS] using h
/-! what is refused -/
def frB (x : D) : Bool := match x with | .int n => decide (n ≥ 1) | _ => false
def kChkX (C : Addr) (ce : Er) (s x : D) (φ : En → Prop) (ψ : Value → Prop) : Prop := ∃ ss n cs, s = albD C ss n cs ∧ x.good = true ∧ stB ss x = false ∧ ψ (.ref ce.o)
theorem ok_Album__check_stamp_X (T : Txt K mg ad fd) (TM : TxtM K mg C am fm) (TG : TxtG mg) (TE : TxtE K mg ce) : FnOk P w K mg base (L2.CX P w) 6 (am 1) (fm 1) ps_Album__check_stamp (spX K (sx2 (kChkX C ce))) := by
  refine (show Fun K "_check_stamp" "Album._check_stamp" st_Album__check_stamp (am 1) (fm 1) from TM.f 1 (by decide)).okX sc_Album__check_stamp (fun vs H Q E h => lex2 h) (fun cdv A outer s H vs Q E hr h => ?_)
  have hu := hu_of hr
  have hu65 := hu65_of hr
  refine ⟨_, (pss_one (ps_if (pt_not (pt_val (pe_call (ok_is_stamp (K := K) T TM TG) (hr.mono (by omega)) (by rfl) (T.g 16 (by decide)) (T.k 16 (by decide)) (bd_is_stamp T) .nil pass0 (pa_cons (pe_fldK (K := K) (pv 0) rfl) (pa_cons (pv 1) pa_nil)))))
    (pss_one (ps_rse TE.NoStamp rfl (takes_of rfl rfl rfl rfl) (by rfl)))
    pss_nil)), ?_⟩
  refine bodx2 h fun x y φ ψ hk => ?_
  rw [show st0 nm_Album__check_stamp [x, y] = [.d x, .d y] from rfl]
  obtain ⟨ss, n, cs, rfl, hg, hs, hk⟩ := hk
  refine ⟨C, _, _, bookD ss, rfl, TM.cl, TM.nB, rfl, rfl, ss, rfl, hg, ?_⟩
  rw [hs]
  exact wb_t (ifT rfl hk)
def kChsX (C : Addr) (ce : Er) (s x m : D) (φ : En → Prop) (ψ : Value → Prop) : Prop := ∃ ss n cs, s = albD C ss n cs ∧ x.good = true ∧ m.good = true ∧ ((stB ss x = false ∧ ψ (.ref ce.o)) ∨ (stB ss x = true ∧ frB m = false ∧ ψ (.ref ce.r)))
theorem ok_Album__check_some_X (T : Txt K mg ad fd) (TM : TxtM K mg C am fm) (TG : TxtG mg) (TE : TxtE K mg ce) : FnOk P w K mg base (L2.CX P w) 7 (am 0) (fm 0) ps_Album__check_some (spX K (sx3 (kChsX C ce))) := by
  refine (show Fun K "_check_some" "Album._check_some" st_Album__check_some (am 0) (fm 0) from TM.f 0 (by decide)).okX sc_Album__check_some (fun vs H Q E h => lex3 h) (fun cdv A outer s H vs Q E hr h => ?_)
  have hu := hu_of hr
  have hu65 := hu65_of hr
  refine ⟨_, (pss_cons (ps_expr (pe_meth (pv 0) TM.cl (TM.m 1 (by decide)) (fnX (K := K) (ok_Album__check_stamp_X (K := K) T TM TG TE) (fn_up (K := K) (ok_Album__check_stamp (K := K) T TM TG))) (hr.mono (by omega)) (bm__check_stamp TM) .nil (passes_call (W := fun cls d _ H => E cls d H) (takes_of rfl rfl rfl rfl) fun _ _ _ _ h => h) (pa_cons (pv 1) pa_nil)))
  (pss_one (ps_if (pt_not (pt_val (pe_call (ok_is_whole_from (K := K) T) (hr.mono (by omega)) (by rfl) (T.g 5 (by decide)) (T.k 5 (by decide)) (bd_is_whole_from T) .nil pass0 (pa_cons (pv 2) (pa_cons pe_int pa_nil)))))
    (pss_one (ps_rse TE.NoNumber rfl (takes_of rfl rfl rfl rfl) (by rfl)))
    pss_nil))), ?_⟩
  refine bodx3 h fun x y z φ ψ hk => ?_
  rw [show st0 nm_Album__check_some [x, y, z] = [.d x, .d y, .d z] from rfl]
  obtain ⟨ss, n, cs, rfl, hg, hm, hk⟩ := hk
  refine ⟨⟨_, _, rfl, rfl⟩, rfl, ?_⟩
  rcases hk with ⟨hs, hk⟩ | ⟨hs, hf, hk⟩
  · exact .inl ⟨ss, n, cs, rfl, hg, hs, hk⟩
  · refine .inr ⟨ss, n, cs, rfl, hg, hs, ?_⟩
    refine ⟨rfl, rfl, 1, rfl, good_ty hm, ?_⟩
    show wb (.d (.bl (frB z))) _
    rw [hf]
    exact wb_t (ifT rfl hk)
def kPutX (C : Addr) (ce : Er) (s x m : D) (φ : En → Prop) (ψ : Value → Prop) : Prop := ∃ ss n cs, s = albD C ss n cs ∧ x.good = true ∧ m.good = true ∧ ((stB ss x = false ∧ ψ (.ref ce.o)) ∨ (stB ss x = true ∧ frB m = false ∧ ψ (.ref ce.r)))
theorem ok_Album_put_X (T : Txt K mg ad fd) (TM : TxtM K mg C am fm) (TG : TxtG mg) (TE : TxtE K mg ce) : FnOk P w K mg base (L2.CX P w) 8 (am 11) (fm 11) ps_Album_put (spX K (sx3 (kPutX C ce))) := by
  refine TM.fd_put.ok sc_Album_put (fun vs H Q E h => lex3 h) (fun cdv A outer s H vs Q E hr h => ?_)
  have hu := hu_of hr
  have hu65 := hu65_of hr
  refine ⟨_, (pss_cons (ps_expr (pe_meth (pv 0) TM.cl (TM.m 0 (by decide)) (fnX (K := K) (ok_Album__check_some_X (K := K) T TM TG TE) (fn_up (K := K) (ok_Album__check_some (K := K) T TM TG))) (hr.mono (by omega)) (bm__check_some TM) .nil (passes_call (W := fun cls d _ H => E cls d H) (takes_of rfl rfl rfl rfl) fun _ _ _ _ h => h) (pa_cons (pv 1) (pa_cons (pv 2) pa_nil))))
  pss_never), ?_⟩
  refine bodx3 h fun x y z φ ψ hk => ?_
  rw [show st0 nm_Album_put [x, y, z] = [.d x, .d y, .d z] from rfl]
  obtain ⟨ss, n, cs, rfl, hg, hm, hk⟩ := hk
  exact ⟨⟨_, _, rfl, rfl⟩, rfl, .inl ⟨ss, n, cs, rfl, hg, hm, hk⟩⟩
theorem ok_Album_take_X (T : Txt K mg ad fd) (TM : TxtM K mg C am fm) (TG : TxtG mg) (TE : TxtE K mg ce) : FnOk P w K mg base (L2.CX P w) 8 (am 12) (fm 12) ps_Album_take (spX K (sx3 (kPutX C ce))) := by
  refine TM.fd_take.ok sc_Album_take (fun vs H Q E h => lex3 h) (fun cdv A outer s H vs Q E hr h => ?_)
  have hu := hu_of hr
  have hu65 := hu65_of hr
  refine ⟨_, (pss_cons (ps_expr (pe_meth (pv 0) TM.cl (TM.m 0 (by decide)) (fnX (K := K) (ok_Album__check_some_X (K := K) T TM TG TE) (fn_up (K := K) (ok_Album__check_some (K := K) T TM TG))) (hr.mono (by omega)) (bm__check_some TM) .nil (passes_call (W := fun cls d _ H => E cls d H) (takes_of rfl rfl rfl rfl) fun _ _ _ _ h => h) (pa_cons (pv 1) (pa_cons (pv 2) pa_nil))))
  pss_never), ?_⟩
  refine bodx3 h fun x y z φ ψ hk => ?_
  rw [show st0 nm_Album_take [x, y, z] = [.d x, .d y, .d z, .no] from rfl]
  obtain ⟨ss, n, cs, rfl, hg, hm, hk⟩ := hk
  exact ⟨⟨_, _, rfl, rfl⟩, rfl, .inl ⟨ss, n, cs, rfl, hg, hm, hk⟩⟩
def kCofX (C : Addr) (ce : Er) (s x : D) (φ : En → Prop) (ψ : Value → Prop) : Prop := ∃ ss n cs, s = albD C ss n cs ∧ x.good = true ∧ stB ss x = false ∧ ψ (.ref ce.o)
theorem ok_Album_count_of_X (T : Txt K mg ad fd) (TM : TxtM K mg C am fm) (TG : TxtG mg) (TE : TxtE K mg ce) : FnOk P w K mg base (L2.CX P w) 7 (am 4) (fm 4) ps_Album_count_of (spX K (sx2 (kCofX C ce))) := by
  refine (show Fun K "count_of" "Album.count_of" st_Album_count_of (am 4) (fm 4) from TM.f 4 (by decide)).okX sc_Album_count_of (fun vs H Q E h => lex2 h) (fun cdv A outer s H vs Q E hr h => ?_)
  have hu := hu_of hr
  have hu65 := hu65_of hr
  refine ⟨_, (pss_cons (ps_expr (pe_meth (pv 0) TM.cl (TM.m 1 (by decide)) (fnX (K := K) (ok_Album__check_stamp_X (K := K) T TM TG TE) (fn_up (K := K) (ok_Album__check_stamp (K := K) T TM TG))) (hr.mono (by omega)) (bm__check_stamp TM) .nil (passes_call (W := fun cls d _ H => E cls d H) (takes_of rfl rfl rfl rfl) fun _ _ _ _ h => h) (pa_cons (pv 1) pa_nil)))
  pss_never), ?_⟩
  refine bodx2 h fun x y φ ψ hk => ?_
  rw [show st0 nm_Album_count_of [x, y] = [.d x, .d y] from rfl]
  obtain ⟨ss, n, cs, rfl, hg, hs, hk⟩ := hk
  exact ⟨⟨_, _, rfl, rfl⟩, rfl, .inl ⟨ss, n, cs, rfl, hg, hs, hk⟩⟩
def kGapX (C : Addr) (ce : Er) (s x : D) (φ : En → Prop) (ψ : Value → Prop) : Prop := ∃ ss n cs, s = albD C ss n cs ∧ x.good = true ∧ inB x 0 ((ss.length : Int) - 1) = false ∧ ψ (.ref ce.q)
theorem ok_Album_gaps_X (T : Txt K mg ad fd) (TM : TxtM K mg C am fm) (TG : TxtG mg) (TE : TxtE K mg ce) : FnOk P w K mg base (L2.CX P w) 4 (am 6) (fm 6) ps_Album_gaps (spX K (sx2 (kGapX C ce))) := by
  refine (show Fun K "gaps" "Album.gaps" st_Album_gaps (am 6) (fm 6) from TM.f 6 (by decide)).okX sc_Album_gaps (fun vs H Q E h => lex2 h) (fun cdv A outer s H vs Q E hr h => ?_)
  have hu := hu_of hr
  have hu65 := hu65_of hr
  refine ⟨_, (pss_cons (ps_if (pt_not (pt_val (pe_call (ok_is_set_number (K := K) T) (hr.mono (by omega)) (by rfl) (T.g 14 (by decide)) (T.k 14 (by decide)) (bd_is_set_number T) .nil pass0 (pa_cons (pe_fldK (K := K) (pv 0) rfl) (pa_cons (pv 1) pa_nil)))))
    (pss_one (ps_rse TE.NoSet rfl (takes_of rfl rfl rfl rfl) (by rfl)))
    pss_nil)
  pss_never), ?_⟩
  refine bodx2 h fun x y φ ψ hk => ?_
  rw [show st0 nm_Album_gaps [x, y] = [.d x, .d y, .no] from rfl]
  obtain ⟨ss, n, cs, rfl, hg, hs, hk⟩ := hk
  refine ⟨C, _, _, bookD ss, rfl, TM.cl, TM.nB, rfl, rfl, ss, rfl, hg, ?_⟩
  rw [hs]
  exact wb_t (ifT rfl hk)
def kPartX (C : Addr) (ce : Er) (s x : D) (φ : En → Prop) (ψ : Value → Prop) : Prop := ∃ ss n cs, s = albD C ss n cs ∧ x.good = true ∧ risW x 0 ((ss.length : Int) - 1) = false ∧ ψ (.ref ce.p)
theorem ok_parted_X (T : Txt K mg ad fd) (TM : TxtM K mg C am fm) (TG : TxtG mg) (TE : TxtE K mg ce) : FnOk P w K mg base (L2.CX P w) 10 (ad 19) (fd 19) ps_parted (spX K (sx2 (kPartX C ce))) := by
  refine (show Fun K "parted" "parted" st_parted (ad 19) (fd 19) from T.f 19 (by decide)).okX sc_parted (fun vs H Q E h => lex2 h) (fun cdv A outer s H vs Q E hr h => ?_)
  have hu := hu_of hr
  have hu65 := hu65_of hr
  refine ⟨_, (pss_cons (ps_if (pt_not (pt_val (pe_call (ok_is_rising_within (K := K) T) (hr.mono (by omega)) (by rfl) (T.g 10 (by decide)) (T.k 10 (by decide)) (bd_is_rising_within T) .nil pass0 (pa_cons (pv 1) (pa_cons pe_int (pa_cons (pe_op op_sub (pe_callB (r := Da.rLen K) cl_len (by rfl) (T.z 0 (by decide)) (by decide +kernel) (pa_cons (pe_meth0 (pv 0) TM.cl (TM.m 2 (by decide)) (ok_Album_book (K := K) T TM TG) (hr.mono (by omega)) (bm_book TM) .nil pass0) pa_nil)) pe_int) pa_nil))))))
    (pss_one (ps_rse TE.NoSets rfl (takes_of rfl rfl rfl rfl) (by rfl)))
    pss_nil)
  pss_never), ?_⟩
  refine bodx2 h fun x y φ ψ hk => ?_
  rw [show st0 nm_parted [x, y] = [.d x, .d y, .no, .no, .no, .no] from rfl]
  obtain ⟨ss, n, cs, rfl, hg, hs, hk⟩ := hk
  refine ⟨rfl, ⟨_, _, rfl, rfl⟩, rfl, ss, n, cs, rfl, rfl, rfl, rfl, 0, ((ss.length : Int) - 1), rfl, ?_, good_ty hg, fun xs h => ?_, ?_⟩
  · show D.int (((ss.map setD).length : Int) - 1) = _
    rw [List.length_map]
  · subst h
    obtain ⟨h2, h1⟩ := tup_good hg
    exact ⟨by omega, fun u hu => good_ty (h2 u hu)⟩
  · rw [hs]
    exact wb_t (ifT rfl hk)
end
end Dl

set_option Elab.async false
set_option maxRecDepth 100000
set_option maxHeartbeats 4000000
set_option linter.all false
set_option synthInstance.maxHeartbeats 4000000
set_option synthInstance.maxSize 10000




namespace Dl
open PySem PySem.Spec PyProof.Rows L2 RZ HmS Da
section
variable {P : Program} {w : World} {K : PySem.W.Frag} [HasT K] {mg : Str → Option Value} {base : Heap} {ad am : Nat → Addr} {fd fm : Nat → FuncData} {C : Addr}
theorem pys_map {α : Type} (g : α → D) : ∀ l : List α, pys (l.map g) = l.map fun a => (g a).py
  | [] => rfl
  | a :: r => by
    show (g a).py :: pys (r.map g) = (g a).py :: r.map fun a => (g a).py
    rw [pys_map g r]
theorem eqv_ints (is ms : List Int) : (D.lst (is.map .int)).eqv (.lst (ms.map .int)) = decide (is = ms) := by
  show PyData.eqvAll (pys (is.map .int)) (pys (ms.map .int)) = _
  rw [pys_map, pys_map]
  exact PySem.W.eqvAll_map is ms
theorem fit_ints (is : List Int) : (D.lst (is.map .int)).fit = true := fit_of (fitb_lstm fun a _ => fitb_int a) (by decide)
theorem ris_uniq {is ms : List Int} (h1 : ms.Pairwise (· < ·)) (h2 : ∀ k : Int, k ∈ ms ↔ k ∈ is) : decide (is = ms) = risI is := by
  rw [Bool.eq_iff_iff, decide_eq_true_eq, risI_pwW]
  exact ⟨fun e => by rw [e]; exact h1, fun e => (firstSorted h1 e h2).symm⟩
theorem all_out {xs : List D} {d : D} {f : D → Bool} (h : d ∈ xs) (e : f d = false) : xs.all f = false := by
  cases c : xs.all f with
  | false => rfl
  | true => rw [List.all_eq_true.mp c d h] at e; cases e
def kAreS (x y : D) (φ : En → Prop) : Prop := ∃ ss, x = bookD ss ∧ ss.length ≤ 4 ∧ y.good = true ∧ φ (.d (.bl (risW y 0 ((ss.length : Int) - 1))))
theorem ok__law_are_sets (T : Txt K mg ad fd) : FnOk P w K mg base CX0 1 (ad 29) (fd 29) ps__law_are_sets (spX K (sp2 kAreS)) := by
  refine (show Fun K "_law_are_sets" "_law_are_sets" st__law_are_sets (ad 29) (fd 29) from T.f 29 (by decide)).ok sc__law_are_sets (fun vs H Q E h => len2 h) (fun cdv A outer s H vs Q E hr h => ?_)
  have hu := hu_of hr
  have hu65 := hu65_of hr
  refine ⟨_, (pss_cons (ps_if (pt_not (pt_val (pe_callB (r := rIsi K) call_isi (by rfl) (T.z 6 (by decide)) (by decide +kernel) (pa_cons (pv 1) (pa_cons (pe_bltn (v := .ty "tuple") (by rfl) (T.z 4 (by decide)) (by decide +kernel) rfl) pa_nil)))))
    (pss_one (ps_ret pe_bl))
    pss_nil)
  (pss_cons (ps_for PassesOwn.never rfl (pi_tupK (K := K) (pv 1)) (pg_name (i := 2) sc__law_are_sets.nd rfl (Or.inl rfl))
    (pss_one (ps_if (PW.pt (pw_or (pt_not (pt_val (pe_callB (r := rIsi K) call_isi (by rfl) (T.z 6 (by decide)) (by decide +kernel) (pa_cons (pv 2) (pa_cons (pe_bltn (v := .ty "int") (by rfl) (T.z 1 (by decide)) (by decide +kernel) rfl) pa_nil))))) (pw_or (pt_val (pe_callB (r := rIsi K) call_isi (by rfl) (T.z 6 (by decide)) (by decide +kernel) (pa_cons (pv 2) (pa_cons (pe_bltn (v := .ty "bool") (by rfl) (T.z 7 (by decide)) (by decide +kernel) rfl) pa_nil)))) (pw_or1 (pt_not (pt_chain op_le op_lt pe_int (pv 2) (pe_callB (r := Da.rLen K) cl_len (by rfl) (T.z 0 (by decide)) (by decide +kernel) (pa_cons (pv 0) pa_nil))))))))
    (pss_one (ps_ret pe_bl))
    pss_nil)))
  (pss_one (ps_ret (pe_cmpR (r := rEqD K) (op_eqD hr.units) (pe_callTy (r := rList K) cl_list (by rfl) (T.z 14 (by decide)) (by decide +kernel) (pa_cons (pv 1) pa_nil)) (pe_sortSetT (K := K) rfl (by rfl) (T.z 3 (by decide)) (by rfl) (T.z 15 (by decide)) (pv 1)) (nomark _)))))), ?_⟩
  refine body2 h fun x y φ hk => ?_
  rw [show st0 nm__law_are_sets [x, y] = [.d x, .d y, .no] from rfl]
  obtain ⟨ss, rfl, sl, hg, hk⟩ := hk
  have ht := good_ty hg
  cases y with
  | ins C ns xs => exact absurd ht Bool.false_ne_true
  | tup us =>
    obtain ⟨ug, ul⟩ := tup_good hg
    refine ⟨by decide, true, rfl, ?_⟩
    (dsimp only [dB, dAnd, dOr, dNot, dEqE, wf_d, wf_l, wb_b, wi_i, wt_t, wl_l, wl_d, List.set_cons_zero, List.set_cons_succ])
    refine ifF rfl ?_
    have em : risW (.tup us) 0 ((ss.length : Int) - 1) = (us.all (fun y => inB y 0 ((ss.length : Int) - 1)) && risI (us.map intOf)) := rfl
    refine ⟨fun i Γ => ∃ v2, Γ = [.d (bookD ss), .d (.tup us), v2] ∧ ∀ y ∈ us.take i, inB y 0 ((ss.length : Int) - 1) = true, ⟨_, rfl, fun y h => by simp at h⟩, ?_⟩
    rintro i Γ ⟨v2, rfl, ha⟩
    refine ⟨fun e => ?_, fun d hd => ?_⟩
    · rw [e, List.take_length] at ha
      have ca : us.all (fun y => inB y 0 ((ss.length : Int) - 1)) = true := List.all_eq_true.mpr ha
      rw [em, ca, Bool.true_and] at hk
      have eu := inB_ints ca
      have nI : ∀ k ∈ us.map intOf, 0 ≤ k ∧ k < 63 := fun k hk => by
        obtain ⟨y, hy, rfl⟩ := List.mem_map.mp hk
        obtain ⟨ey, y0, y1⟩ := inB_int (ha y hy)
        rw [ey]
        exact ⟨y0, by show iD y < 63; omega⟩
      have eus : (D.lst us).fit = true := by rw [eu]; exact fit_ints _
      refine ⟨us.map intOf, eu, by unfold uqI; rw [if_pos ⟨by rw [List.length_map]; omega, nI⟩]; omega, fun ms m1 m2 => ?_⟩
      refine ⟨eus, fit_ints _, ?_⟩
      have ee : (D.lst us).eqv (.lst (ms.map .int)) = risI (us.map intOf) := by
        rw [eu, eqv_ints, ris_uniq m1 m2, ← eu]
      rw [ee]
      exact hk
    · have dm := List.mem_of_getElem? hd
      have bad : inB d 0 ((ss.length : Int) - 1) = false → φ (.d (.bl false)) := fun e => by
        rw [em, all_out dm e, Bool.false_and] at hk
        exact hk
      have dt := good_ty (ug d dm)
      cases d with
      | ins C ns xs => exact absurd dt Bool.false_ne_true
      | int n =>
        refine ⟨by decide, true, rfl, ?_⟩
        (dsimp only [dB, dAnd, dOr, dNot, dEqE, wf_d, wf_l, wb_b, wi_i, wt_t, wl_l, wl_d, List.set_cons_zero, List.set_cons_succ])
        refine ifF rfl ⟨by decide, false, rfl, ?_⟩
        (dsimp only [dB, dAnd, dOr, dNot, dEqE, wf_d, wf_l, wb_b, wi_i, wt_t, wl_l, wl_d, List.set_cons_zero, List.set_cons_succ])
        refine ifF rfl ?_
        have nx : ∀ v2 : En, 0 ≤ n → n < ss.length → ∃ v2', ([.d (bookD ss), .d (.tup us), v2] : List En) = [.d (bookD ss), .d (.tup us), v2'] ∧ ∀ y ∈ us.take (i + 1), inB y 0 ((ss.length : Int) - 1) = true := fun v2 n0 n1 => by
          refine ⟨v2, rfl, fun y hy => ?_⟩
          rw [List.take_add_one, hd] at hy
          rcases List.mem_append.mp hy with h | h
          · exact ha y h
          · cases List.mem_singleton.mp h
            simp only [inB, Bool.and_eq_true, decide_eq_true_eq]
            omega
        refine ⟨rfl, ?_⟩
        (dsimp only [dB, dAnd, dOr, dNot, dEqE, wf_d, wf_l, wb_b, wi_i, wt_t, wl_l, wl_d, List.set_cons_zero, List.set_cons_succ])
        refine ⟨rfl, ?_⟩
        show (if decide ((0 : Int) ≤ n) = true then _ else _)
        refine ifB (fun c0 => ?_) (fun c0 => ?_)
        · have c0 := of_decide_eq_true c0
          refine ⟨rfl, ?_⟩
          (dsimp only [dB, dAnd, dOr, dNot, dEqE, wf_d, wf_l, wb_b, wi_i, wt_t, wl_l, wl_d, List.set_cons_zero, List.set_cons_succ])
          show (if (!decide (n < ((ss.map setD).length : Int))) = true then _ else _)
          rw [List.length_map]
          refine ifB (fun c1 => ?_) (fun c1 => ?_)
          · have c1 : ¬ n < ss.length := by simpa using c1
            exact ⟨rfl, bad (by
              simp only [inB, Bool.and_eq_false_iff, decide_eq_false_iff_not]
              omega)⟩
          · have c1 : n < ss.length := by simpa using c1
            exact nx _ c0 c1
        · have c0 := of_decide_eq_false c0
          exact ⟨rfl, bad (by
            simp only [inB, Bool.and_eq_false_iff, decide_eq_false_iff_not]
            omega)⟩
      | bl b =>
        refine ⟨by decide, true, rfl, ?_⟩
        (dsimp only [dB, dAnd, dOr, dNot, dEqE, wf_d, wf_l, wb_b, wi_i, wt_t, wl_l, wl_d, List.set_cons_zero, List.set_cons_succ])
        refine ifF rfl ⟨by decide, true, rfl, ?_⟩
        (dsimp only [dB, dAnd, dOr, dNot, dEqE, wf_d, wf_l, wb_b, wi_i, wt_t, wl_l, wl_d, List.set_cons_zero, List.set_cons_succ])
        exact ifT rfl ⟨rfl, bad rfl⟩
      | _ =>
        refine ⟨by decide, false, rfl, ?_⟩
        (dsimp only [dB, dAnd, dOr, dNot, dEqE, wf_d, wf_l, wb_b, wi_i, wt_t, wl_l, wl_d, List.set_cons_zero, List.set_cons_succ])
        exact ifT rfl ⟨rfl, bad rfl⟩
  | _ =>
    refine ⟨by decide, false, rfl, ?_⟩
    (dsimp only [dB, dAnd, dOr, dNot, dEqE, wf_d, wf_l, wb_b, wi_i, wt_t, wl_l, wl_d, List.set_cons_zero, List.set_cons_succ])
    exact ifT rfl ⟨rfl, hk⟩
end
end Dl

set_option Elab.async false
set_option maxRecDepth 100000
set_option maxHeartbeats 4000000
set_option linter.all false
set_option synthInstance.maxHeartbeats 4000000
set_option synthInstance.maxSize 10000






namespace Dl
open PySem PySem.Spec PyProof.Rows L2 RZ HmS Da
section
variable {P : Program} {w : World} {K : PySem.W.Frag} [HasT K] {mg : Str → Option Value} {base : Heap} {ad am : Nat → Addr} {fd fm : Nat → FuncData} {C : Addr}
variable {ce : Er} {lc PT : Addr}
abbrev qR (f c : Addr) : Str := (envOfC "law" (defScope st_law) 0 f (.ref c)).qual ++ "<lambda>"
structure TxtL (K : PySem.W.Frag) [HasT K] (mg : Str → Option Value) (base : Heap) (f : Addr) (fd : FuncData) (c PT : Addr) : Prop where
  fl : FunL K "law" st_law f fd c
  tb : LamX.TabB base mg c PT
  mem : (PT, qR f c) ∈ HasT.T K
  uq : ∀ p ∈ HasT.T K, p.1 = PT → p.2 = qR f c
/-- an album, owned or for ever -/
def AE (C : Addr) (ss : List (Str × Int × Int)) (n : Str) (cs : Cts) (e : En) : Prop := e = .d (albD C ss n cs) ∨ ∃ p T, e = .ow (.ins C nsA (osA ss n cs)) (p :: T)
theorem dVar_alb {C : Addr} {ss : List (Str × Int × Int)} {n : Str} {cs : Cts} {e : En} (h : AE C ss n cs e) {i : Nat} {Γ : List En} {φ : En → List En → Prop} (g : Γ[i]? = some e) (k : φ (.d (albD C ss n cs)) (Γ.set i (.d (albD C ss n cs)))) : dVar i Γ φ := by
  unfold dVar
  rw [g]
  rcases h with rfl | ⟨p, T, rfl⟩
  · have : Γ.set i (.d (albD C ss n cs)) = Γ := by
      apply List.ext_getElem?
      intro j
      rw [List.getElem?_set]
      by_cases z : i = j
      · subst z
        rw [if_pos rfl, if_pos (List.getElem?_eq_some_iff.mp g).1, g]
      · rw [if_neg z]
    rw [this] at k
    exact k
  · show φ (.d (O.ins C nsA (osA ss n cs)).dt) (Γ.set i (.d (O.ins C nsA (osA ss n cs)).dt))
    rw [alb_dt]
    exact k
theorem whyF0 {ce : Er} {den : (Value → Prop) → DT} {Γ : List En} {φ : En → List En → Prop} (hd : ∀ ψ : Value → Prop, (∀ C, (∃ w, woE ce C w ∧ φ (.d (.str w)) Γ) → ψ C) → den ψ (Γ.map onlyE) fun _ _ => φ (.d (.str "none")) Γ) :
    dWhyF (woE ce) "none" den Γ φ := ⟨[], dWhy_go hd⟩
theorem risW_ok {x : D} {a b : Int} (h : risW x a b = true) : ∃ is : List Int, x = .tup (is.map .int) ∧ is.length ≤ is.length ∧ is.Pairwise (· < ·) ∧ ∀ k ∈ is, a ≤ k ∧ k ≤ b := by
  cases x with
  | tup us =>
    have h : (us.all (fun y => inB y a b) && risI (us.map intOf)) = true := h
    rw [Bool.and_eq_true] at h
    refine ⟨us.map intOf, by rw [← inB_ints h.1], Nat.le_refl _, risI_pwW.mp h.2, fun k hk => ?_⟩
    obtain ⟨y, hy, rfl⟩ := List.mem_map.mp hk
    obtain ⟨ey, y0, y1⟩ := inB_int (List.all_eq_true.mp h.1 y hy)
    rw [ey]
    exact ⟨y0, y1⟩
  | _ => cases h
def dueS (ss : List (Str × Int × Int)) (x m : D) : Str := if stB ss x = true then (if frB m = true then "none" else "number") else "stamp"
theorem eqS_neT {a b : Str} (e : a ≠ b) {φ : En → Prop} (h : φ (.d (.bl true))) : dEqS true (.str a) (.str b) φ := by
  simpa [dEqS, e] using h
theorem eqS_eqF {a b : Str} (e : a ≠ b) {φ : En → Prop} (h : φ (.d (.bl false))) : dEqS false (.str a) (.str b) φ := by
  simpa [dEqS, e] using h
theorem stB_ok {ss : List (Str × Int × Int)} {x : D} (h : stB ss x = true) : x = stD (toSt x) := by
  match x, h with
  | .tup [a, n, g], h =>
    simp only [stB, Bool.and_eq_true] at h
    obtain ⟨⟨h1, h2⟩, h3⟩ := h
    have i1 : ∀ {u : D} {a b : Int}, inB u a b = true → ∃ i, u = .int i := fun {u a b} h => by
      cases u with
      | int i => exact ⟨i, rfl⟩
      | _ => cases h
    obtain ⟨_, rfl⟩ := i1 h1
    obtain ⟨_, rfl⟩ := i1 h2
    obtain ⟨_, rfl⟩ := i1 h3
    rfl
theorem frB_ok {m : D} (h : frB m = true) : ∃ k, m = .int k ∧ 1 ≤ k := by
  cases m with
  | int k => exact ⟨k, rfl, of_decide_eq_true h⟩
  | _ => cases h
theorem take_out : (Str.ofString "take") ∉ nsA := by decide +kernel
theorem fit_rows (cs : Cts) : (D.lst (cs.map rwD)).fit = true := fit_of (fitb_lstm (k := 3) fun c _ => fitb_tup (k := 2) fun x hx => by
  simp only [List.mem_cons, List.not_mem_nil, or_false] at hx
  rcases hx with rfl | rfl
  · exact fitb_tup (k := 1) fun x hx => by
      simp only [List.mem_cons, List.not_mem_nil, or_false] at hx
      rcases hx with rfl | rfl | rfl <;> exact fitb_int _
  · exact fitb_mono (fitb_int _) (by decide)) (by decide)
abbrev gM (ns : List Int) (ss : List (Str × Int × Int)) (e3 e4 e5 e6 e7 e8 e9 e10 e11 : En) : List En := [.scr ns, .pen, .d (bookD ss), e3, e4, e5, e6, e7, e8, e9, e10, e11]
theorem ok_law (T : Txt K mg ad fd) (TM : TxtM K mg C am fm) (TG : TxtG mg) (TE : TxtE K mg ce) (TL : TxtL K mg base (ad 30) (fd 30) lc PT) : FnOk P w K mg base CX0 14 (ad 30) (fd 30) ps_law (spLaw K) := by
  refine okL TL.fl sc_law (fun vs H Q E h => by obtain ⟨a, ns, rfl, _⟩ := h; rfl) (fun A outer s H vs Q E hr h => ?_)
  have hu := hu_of hr
  have hu65 := hu65_of hr
  refine ⟨_, (pss_cons (ps_set (i := 1) sc_law.nd rfl (Or.inl rfl) (pe_call (ok__law_pen (K := K) T) (hr.mono (by omega)) (by rfl) (T.g 21 (by decide)) (T.k 21 (by decide)) (bd__law_pen T) .nil pass0 (pa_cons (pe_call (ok__law_cell_at (K := K) T) (hr.mono (by omega)) (by rfl) (T.g 20 (by decide)) (T.k 20 (by decide)) (bd__law_cell_at T) .nil pass0 (pa_cons (pv 0) (pa_cons pe_int pa_nil))) pa_nil)))
  (pss_cons (ps_set (i := 2) sc_law.nd rfl (Or.inl rfl) (pe_call (ok__law_list (K := K) T) (hr.mono (by omega)) (by rfl) (T.g 23 (by decide)) (T.k 23 (by decide)) (bd__law_list T) .nil pass0 (pa_cons (pv 1) pa_nil)))
  (pss_cons (ps_set (i := 3) sc_law.nd rfl (Or.inr rfl) (pe_make TM.mkA (ok_Album___init__ (K := K) T TM TG) (hr.mono (by omega)) (by rfl) TM.mgC (bm___init___4 TM).choose_spec.2 (bm___init___4 TM).choose_spec.1 pass0 (pa_cons (pv 2) (pa_cons pe_str (pa_cons (pe_call (ok__law_stamps (K := K) T) (hr.mono (by omega)) (by rfl) (T.g 25 (by decide)) (T.k 25 (by decide)) (bd__law_stamps T) .nil pass0 (pa_cons (pv 1) (pa_cons (pv 2) (pa_cons pe_int pa_nil)))) pa_nil)))))
  (pss_cons (ps_set (i := 4) sc_law.nd rfl (Or.inl rfl) (pe_meth0 (pv 3) TM.cl (TM.m 5 (by decide)) (ok_Album_all_of (K := K) T TM TG) (hr.mono (by omega)) (bm_all_of TM) .nil pass0))
  (pss_cons (ps_set (i := 5) sc_law.nd rfl (Or.inl rfl) (pe_lst (pa_cons (pe_tup pa_nil) (pa_cons (pe_tup (pa_cons pe_int pa_nil)) (pa_cons (pe_tup (pa_cons pe_int (pa_cons pe_int pa_nil))) (pa_cons (pe_tup (pa_cons pe_int (pa_cons (pe_callB (r := Da.rLen K) cl_len (by rfl) (T.z 0 (by decide)) (by decide +kernel) (pa_cons (pv 2) pa_nil)) pa_nil))) (pa_cons (pe_tup (pa_cons (pe_op op_sub (pe_callB (r := Da.rLen K) cl_len (by rfl) (T.z 0 (by decide)) (by decide +kernel) (pa_cons (pv 2) pa_nil)) pe_int) (pa_cons pe_int pa_nil))) (pa_cons (pe_lst (pa_cons pe_int pa_nil)) (pa_cons (pe_tup (pa_cons pe_bl pa_nil)) (pa_cons (pe_tup (pa_cons (pe_un un_neg pe_int) pa_nil)) (pa_cons pe_non (pa_cons pe_int (pa_cons (pe_tup (pa_cons (pe_tup (pa_cons pe_int pa_nil)) pa_nil)) (pa_cons pe_str pa_nil))))))))))))))
  (pss_cons (ps_for PassesOwn.never rfl (pi_listK (K := K) (pe_op op_cat (pv 5) (pe_lst (pa_cons (pe_tupRg rfl (by rfl) (T.z 4 (by decide)) (prg_1 (by rfl) (T.z 2 (by decide)) (pe_callB (r := Da.rLen K) cl_len (by rfl) (T.z 0 (by decide)) (by decide +kernel) (pa_cons (pv 2) pa_nil)))) (pa_cons (pe_call (ok__law_thing (K := K) T 4) (hr.mono (by omega)) (by rfl) (T.g 26 (by decide)) (T.k 26 (by decide)) (bd__law_thing T) .nil pass0 (pa_cons (pv 1) (pa_cons pe_int pa_nil))) (pa_cons (pe_call (ok__law_thing (K := K) T 4) (hr.mono (by omega)) (by rfl) (T.g 26 (by decide)) (T.k 26 (by decide)) (bd__law_thing T) .nil pass0 (pa_cons (pv 1) (pa_cons pe_int pa_nil))) pa_nil)))))) (pg_name (i := 6) sc_law.nd rfl (Or.inr rfl))
    (pss_cons (ps_set (i := 7) sc_law.nd rfl (Or.inl rfl) (pe_ix (r := rIxL K) ix_list (pe_lst (pa_cons pe_str (pa_cons pe_str pa_nil))) (pe_callTy cl_int (by rfl) (T.z 1 (by decide)) (by decide +kernel) (pa_cons (pe_call (ok__law_are_sets (K := K) T) (hr.mono (by omega)) (by rfl) (T.g 29 (by decide)) (T.k 29 (by decide)) (bd__law_are_sets T) .nil pass0 (pa_cons (pv 2) (pa_cons (pv 6) pa_nil))) pa_nil)) (fun _ _ => rfl)))
  (pss_one (ps_if (pt_cmpR (r := rEqS true) op_neS (pe_lam (T := HasT.T K) (TT := TTwhy (woE ce) "none") (k := 11) (T.f 28 (by decide)) (by rfl) (T.g 28 (by decide)) (T.k 28 (by decide)) (bd__law_word T) sc__law_word rfl (Or.inl rfl) (fun cd => gives__law_word TE) TL.tb rfl TL.mem TL.uq (hr.mono (by omega)) (LamX.lamS_by (sc := defScope st_law) (by decide +kernel)) (by rfl) (fun _ _ _ _ _ => rfl)
      (fun A outer s H E f c2 hrr => by exact (pe_call (fnX (K := K) (ok_parted_X (K := K) T TM TG TE) (fn_up (K := K) (ok_parted (K := K) T TM TG))) (hrr.mono (by omega)) (by rfl) (T.g 19 (by decide)) (T.k 19 (by decide)) (bd_parted T) .nil (passes_call (W := fun cls d _ H => E cls d H) (takes_of rfl rfl rfl rfl) fun _ _ _ _ h => h) (pa_cons (pv 3) (pa_cons (pv 6) pa_nil))))) (pv 7) (nomark _))
    (pss_one (ps_ret pe_bl))
    pss_nil))))
  (pss_cons (ps_for PassesOwn.never rfl (pi_range1 (by rfl) (T.z 2 (by decide)) (pa_cons pe_int pa_nil)) (pg_name (i := 8) sc_law.nd rfl (Or.inl rfl))
    (pss_cons (ps_set (i := 6) sc_law.nd rfl (Or.inr rfl) (pe_ix (r := rIxL K) ix_list (pe_lst (pa_cons (pe_call (ok__law_thing (K := K) T 4) (hr.mono (by omega)) (by rfl) (T.g 26 (by decide)) (T.k 26 (by decide)) (bd__law_thing T) .nil pass0 (pa_cons (pv 1) (pa_cons pe_int pa_nil))) (pa_cons (pe_call (ok__law_spoilt (K := K) T 4) (hr.mono (by omega)) (by rfl) (T.g 27 (by decide)) (T.k 27 (by decide)) (bd__law_spoilt T) .nil pass0 (pa_cons (pv 1) (pa_cons (pe_tup (pa_cons pe_int (pa_cons pe_int (pa_cons pe_int pa_nil)))) pa_nil))) (pa_cons (pe_tup (pa_cons pe_int (pa_cons pe_int (pa_cons pe_int pa_nil)))) pa_nil)))) (pe_call (ok__law_draw (K := K) T) (hr.mono (by omega)) (by rfl) (T.g 22 (by decide)) (T.k 22 (by decide)) (bd__law_draw T) .nil pass0 (pa_cons (pv 1) (pa_cons pe_int pa_nil))) (fun _ _ => rfl)))
  (pss_cons (ps_set (i := 9) sc_law.nd rfl (Or.inr rfl) (pe_ix (r := rIxL K) ix_list (pe_lst (pa_cons (pe_call (ok__law_thing (K := K) T 4) (hr.mono (by omega)) (by rfl) (T.g 26 (by decide)) (T.k 26 (by decide)) (bd__law_thing T) .nil pass0 (pa_cons (pv 1) (pa_cons pe_int pa_nil))) (pa_cons pe_int (pa_cons pe_int pa_nil)))) (pe_call (ok__law_draw (K := K) T) (hr.mono (by omega)) (by rfl) (T.g 22 (by decide)) (T.k 22 (by decide)) (bd__law_draw T) .nil pass0 (pa_cons (pv 1) (pa_cons pe_int pa_nil))) (fun _ _ => rfl)))
  (pss_cons (ps_set (i := 10) sc_law.nd rfl (Or.inl rfl) (pe_and (pe_callB (r := rIsi K) call_isi (by rfl) (T.z 6 (by decide)) (by decide +kernel) (pa_cons (pv 9) (pa_cons (pe_bltn (v := .ty "int") (by rfl) (T.z 1 (by decide)) (by decide +kernel) rfl) pa_nil))) (pe_and (pe_not (pe_callB (r := rIsi K) call_isi (by rfl) (T.z 6 (by decide)) (by decide +kernel) (pa_cons (pv 9) (pa_cons (pe_bltn (v := .ty "bool") (by rfl) (T.z 7 (by decide)) (by decide +kernel) rfl) pa_nil)))) (pe_one (pe_cmpR op_gt (pv 9) pe_int (nomark _))))))
  (pss_cons (ps_set (i := 7) sc_law.nd rfl (Or.inl rfl) pe_str)
  (pss_cons (ps_if (pt_val (pe_call (ok_is_stamp (K := K) T TM TG) (hr.mono (by omega)) (by rfl) (T.g 16 (by decide)) (T.k 16 (by decide)) (bd_is_stamp T) .nil pass0 (pa_cons (pv 2) (pa_cons (pv 6) pa_nil))))
    (pss_one (ps_set (i := 7) sc_law.nd rfl (Or.inl rfl) (pe_ix (r := rIxL K) ix_list (pe_lst (pa_cons pe_str (pa_cons pe_str pa_nil))) (pe_callTy cl_int (by rfl) (T.z 1 (by decide)) (by decide +kernel) (pa_cons (pv 10) pa_nil)) (fun _ _ => rfl))))
    pss_nil)
  (pss_cons (ps_set (i := 11) sc_law.nd rfl (Or.inr rfl) (pe_meth0 (pv 3) TM.cl (TM.m 8 (by decide)) (ok_Album_twin (K := K) T TM TG) (hr.mono (by omega)) (bm_twin TM) .nil pass0))
  (pss_cons (ps_if (PW.pt (pw_or (pt_cmpR (r := rEqS true) op_neS (pe_lamB 11 (pe_lam (T := HasT.T K) (TT := TTwhy (woE ce) "none") (k := 11) (T.f 28 (by decide)) (by rfl) (T.g 28 (by decide)) (T.k 28 (by decide)) (bd__law_word T) sc__law_word rfl (Or.inl rfl) (fun cd => gives__law_word TE) TL.tb rfl TL.mem TL.uq (hr.mono (by omega)) (LamX.lamS_by (sc := defScope st_law) (by decide +kernel)) (by rfl) (fun _ _ _ _ _ => rfl)
      (fun A outer s H E f c2 hrr => by exact (pe_meth (pv 11) TM.cl (TM.m 11 (by decide)) (fnB (K := K) (ok_Album_put_X (K := K) T TM TG TE) (fn_up (K := K) (ok_Album_put (K := K) T TM TG))) (hrr.mono (by omega)) (bm_put_3 TM).choose_spec.2 (bm_put_3 TM).choose_spec.1 (passes_call (W := fun cls d _ H => E cls d H) (takes_of rfl rfl rfl rfl) fun _ _ _ _ h => h) (pa_cons (pv 6) (pa_cons (pv 9) pa_nil)))))) (pv 7) (nomark _)) (pw_or1 (PW.pt (pw_and (pt_cmpR (r := rEqS true) op_neS (pv 7) pe_str (nomark _)) (pw_and1 (pt_brw 11 (pt_cmpR (HmQ.op_ownNe TM.oc (ok_Album___eq__ (K := K) T TM TG) (hr.mono (by omega)) (bm___eq__ TM) pass0) (pv 11) (pv 3) (nomark _)))))))))
    (pss_one (ps_ret pe_bl))
    pss_nil)
  (pss_cons (ps_if (pt_cmpR (r := rEqS true) op_neS (pe_lam (T := HasT.T K) (TT := TTwhy (woE ce) "none") (k := 11) (T.f 28 (by decide)) (by rfl) (T.g 28 (by decide)) (T.k 28 (by decide)) (bd__law_word T) sc__law_word rfl (Or.inl rfl) (fun cd => gives__law_word TE) TL.tb rfl TL.mem TL.uq (hr.mono (by omega)) (LamX.lamS_by (sc := defScope st_law) (by decide +kernel)) (by rfl) (fun _ _ _ _ _ => rfl)
      (fun A outer s H E f c2 hrr => by exact (pe_meth (pv 3) TM.cl (TM.m 4 (by decide)) (fnX (K := K) (ok_Album_count_of_X (K := K) T TM TG TE) (fn_up (K := K) (ok_Album_count_of (K := K) T TM TG))) (hrr.mono (by omega)) (bm_count_of TM) .nil (passes_call (W := fun cls d _ H => E cls d H) (takes_of rfl rfl rfl rfl) fun _ _ _ _ h => h) (pa_cons (pv 6) pa_nil)))) (pe_ix (r := rIxL K) ix_list (pe_lst (pa_cons pe_str (pa_cons pe_str pa_nil))) (pe_callTy cl_int (by rfl) (T.z 1 (by decide)) (by decide +kernel) (pa_cons (pe_call (ok_is_stamp (K := K) T TM TG) (hr.mono (by omega)) (by rfl) (T.g 16 (by decide)) (T.k 16 (by decide)) (bd_is_stamp T) .nil pass0 (pa_cons (pv 2) (pa_cons (pv 6) pa_nil))) pa_nil)) (fun _ _ => rfl)) (nomark _))
    (pss_one (ps_ret pe_bl))
    pss_nil)
  (pss_cons (ps_if (pt_cmpR (r := rEqS false) op_eqS (pv 7) pe_str (nomark _))
    (pss_one (ps_expr (pe_meth (pv 11) TM.cl (TM.m 12 (by decide)) (ok_Album_take (K := K) T TM TG) (hr.mono (by omega)) (bm_take_3 TM).choose_spec.2 (bm_take_3 TM).choose_spec.1 pass0 (pa_cons (pv 6) (pa_cons (pv 9) pa_nil)))))
    pss_nil)
  (pss_one (ps_if (pt_brw 11 (pt_cmpR (HmQ.op_ownNe TM.oc (ok_Album___eq__ (K := K) T TM TG) (hr.mono (by omega)) (bm___eq__ TM) pass0) (pv 11) (pv 3) (nomark _)))
    (pss_one (ps_ret pe_bl))
    pss_nil))))))))))))
  (pss_cons (ps_for PassesOwn.never rfl (pi_tupK (K := K) (pe_tup (pa_cons (pe_un un_neg pe_int) (pa_cons (pe_callB (r := Da.rLen K) cl_len (by rfl) (T.z 0 (by decide)) (by decide +kernel) (pa_cons (pv 2) pa_nil)) (pa_cons pe_non (pa_cons pe_bl (pa_cons pe_str (pa_cons (pe_lst (pa_cons pe_int pa_nil)) (pa_cons (pe_op op_pow pe_int pe_int) pa_nil))))))))) (pg_name (i := 6) sc_law.nd rfl (Or.inr rfl))
    (pss_one (ps_if (pt_cmpR (r := rEqS true) op_neS (pe_lam (T := HasT.T K) (TT := TTwhy (woE ce) "none") (k := 11) (T.f 28 (by decide)) (by rfl) (T.g 28 (by decide)) (T.k 28 (by decide)) (bd__law_word T) sc__law_word rfl (Or.inl rfl) (fun cd => gives__law_word TE) TL.tb rfl TL.mem TL.uq (hr.mono (by omega)) (LamX.lamS_by (sc := defScope st_law) (by decide +kernel)) (by rfl) (fun _ _ _ _ _ => rfl)
      (fun A outer s H E f c2 hrr => by exact (pe_meth (pv 3) TM.cl (TM.m 6 (by decide)) (fnX (K := K) (ok_Album_gaps_X (K := K) T TM TG TE) (fn_up (K := K) (ok_Album_gaps (K := K) T TM TG))) (hrr.mono (by omega)) (bm_gaps TM) .nil (passes_call (W := fun cls d _ H => E cls d H) (takes_of rfl rfl rfl rfl) fun _ _ _ _ h => h) (pa_cons (pv 6) pa_nil)))) pe_str (nomark _))
    (pss_one (ps_ret pe_bl))
    pss_nil)))
  (pss_one (ps_ret (pe_cmpR (r := rEqD K) (op_eqD hr.units) (pe_meth0 (pv 3) TM.cl (TM.m 5 (by decide)) (ok_Album_all_of (K := K) T TM TG) (hr.mono (by omega)) (bm_all_of TM) .nil pass0) (pv 4) (nomark _)))))))))))), ?_⟩
  obtain ⟨a, ns, rfl, tb, hS, hl, q⟩ := h
  refine bodyS tb hS q ?_
  rw [show stS nm_law ns = [.scr ns, .no, .no, .no, .no, .no, .no, .no, .no, .no, .no, .no] from rfl]
  refine ⟨⟨_, rfl⟩, rfl, ⟨_, rfl⟩, rfl, 0, rfl, fun z => ⟨z, rfl, ?_⟩⟩
  refine ⟨rfl, rfl, rfl, fun ss bk => ?_⟩
  have p24 := bk.plc
  have l4 := bk.l1
  have l0 := bk.l0
  dsimp only [List.set_cons_zero, List.set_cons_succ]
  refine seqMidG (fun Γ => ∃ (ts : List St3) (e3 : En), (∀ s ∈ ts, OkS ss s) ∧ ts.length ≤ 32 ∧ AE C ss "a" (countsA ts) e3 ∧ Γ = gM ns ss e3 .no .no .no .no .no .no .no .no) (fun N hN => ?_) ?_
  · refine ⟨rfl, rfl, rfl, rfl, rfl, ss, 8, rfl, bk, rfl, by decide, by decide, fun ts hts tl => ?_⟩
    refine ⟨rfl, rfl, rfl, ss, _, rfl, bk.good, bk.b, rfl, by decide, by decide +kernel, .inr ⟨ts, rfl, hts, by omega, fun p T => ?_⟩⟩
    exact hN _ ⟨ts, _, hts, by omega, .inr ⟨p, T, rfl⟩, rfl⟩
  rintro _ ⟨ts, e3, hts, tl, hae, rfl⟩
  have ok : CtOk (OkS ss) (countsA ts) := CtOk.nil.counts hts
  have cl := countsA_len ts
  generalize hcs : countsA ts = cs at *
  clear hcs
  refine seqMidG (fun Γ => Γ = gM ns ss (.d (albD C ss "a" cs)) (.lst ((riseA cs).map rwD)) .no .no .no .no .no .no .no) (fun N hN => ?_) ?_
  · (try dsimp only [dNext, dSeq, dIfS, dB, dOp, dNot, dOr, dAnd, dNotV, dOrV, dAndV, dAsg, dRet, dDrop, dCB, dIf, dTup, dLst, dCons, dNil, wf_d, wf_l, wb_b, wi_i, wt_t, wl_l, wl_d, tupR_t, tupR_l, lstR_t, lstR_l, List.set_cons_zero, List.set_cons_succ])
    unfold dMeth
    refine dVar_alb hae rfl ?_
    refine ⟨⟨_, _, rfl, rfl⟩, rfl, ss, "a", cs, rfl, by omega, fun _ => hN _ rfl⟩
  rintro _ rfl
  refine seqMidG (fun Γ => ∃ xs : List D, (∀ x ∈ xs, x.good = true) ∧ xs.length ≤ 20 ∧ Γ = gM ns ss (.d (albD C ss "a" cs)) (.lst ((riseA cs).map rwD)) (.lst xs) .no .no .no .no .no .no) (fun N hN => ?_) ?_
  · (try dsimp only [dNext, dSeq, dIfS, dB, dOp, dNot, dOr, dAnd, dNotV, dOrV, dAndV, dAsg, dRet, dDrop, dCB, dIf, dTup, dLst, dCons, dNil, wf_d, wf_l, wb_b, wi_i, wt_t, wl_l, wl_d, tupR_t, tupR_l, lstR_t, lstR_l, List.set_cons_zero, List.set_cons_succ])
    repeat (first
      | refine ⟨show isSc _ = true from rfl, ?_⟩
      | refine ⟨show List.length _ ≤ 100000 from by simp, ?_⟩)
    refine hN _ ⟨_, ?_, ?_, rfl⟩
    · intro x hx
      simp only [List.mem_cons, List.not_mem_nil, or_false] at hx
      rcases hx with rfl | rfl | rfl | rfl | rfl | rfl | rfl | rfl | rfl | rfl | rfl | rfl <;> first | rfl | decide +kernel
    · exact show 12 ≤ 20 by decide
  rintro _ ⟨xs, xg, xl, rfl⟩
  refine seqMidG (fun Γ => ∃ e6 e7 : En, Γ = gM ns ss (.d (albD C ss "a" cs)) (.lst ((riseA cs).map rwD)) (.d (.lst xs)) e6 e7 .no .no .no .no) (fun N hN => ?_) ?_
  · generalize hB : (dSeq (dAsg 7 _) _ : DSt) = B
    unfold dFor dILst
    (try dsimp only [dNext, dSeq, dIfS, dB, dOp, dNot, dOr, dAnd, dNotV, dOrV, dAndV, dAsg, dRet, dDrop, dCB, dIf, dTup, dLst, dCons, dNil, wf_d, wf_l, wb_b, wi_i, wt_t, wl_l, wl_d, tupR_t, tupR_l, lstR_t, lstR_l, List.set_cons_zero, List.set_cons_succ])
    refine dVar_lst rfl ?_
    (try dsimp only [dNext, dSeq, dIfS, dB, dOp, dNot, dOr, dAnd, dNotV, dOrV, dAndV, dAsg, dRet, dDrop, dCB, dIf, dTup, dLst, dCons, dNil, wf_d, wf_l, wb_b, wi_i, wt_t, wl_l, wl_d, tupR_t, tupR_l, lstR_t, lstR_l, List.set_cons_zero, List.set_cons_succ])
    refine ⟨by omega, by omega, by rw [List.length_map]; omega, by rw [List.length_map]; omega, ?_⟩
    refine ⟨rfl, rfl, rfl, rfl, 2, rfl, by decide, fun e1 x1 n1 f1 g1 => ?_⟩
    refine wf_of f1 ?_
    refine ⟨rfl, rfl, rfl, rfl, 2, rfl, by decide, fun e2 x2 n2 f2 g2 => ?_⟩
    refine wf_of f2 ?_
    refine ⟨show 3 ≤ 100000 by decide, show xs.length + 3 ≤ 1000000 by omega, ?_⟩
    have yg : ∀ y ∈ xs ++ [D.tup (upI 0 (((ss.map setD).length : Int) - 0).toNat), x1, x2], y.good = true := fun y hy => by
      rcases List.mem_append.mp hy with h | h
      · exact xg y h
      · simp only [List.mem_cons, List.not_mem_nil, or_false] at h
        rcases h with rfl | rfl | rfl
        · refine good_tup (fun u hu => ?_) (by rw [upI_len, List.length_map]; omega)
          obtain ⟨k, _, rfl⟩ := List.mem_map.mp hu
          rfl
        · exact g1
        · exact g2
    generalize xs ++ [D.tup (upI 0 (((ss.map setD).length : Int) - 0).toNat), x1, x2] = ys at yg ⊢
    refine ⟨fun i Γ => ∃ v6 v7 : En, Γ = gM ns ss (.d (albD C ss "a" cs)) (.lst ((riseA cs).map rwD)) (.d (.lst xs)) v6 v7 .no .no .no .no, ⟨_, _, rfl⟩, ?_⟩
    rintro i Γ ⟨v6, v7, rfl⟩
    refine ⟨fun e => hN _ ⟨_, _, rfl⟩, fun x hx => ?_⟩
    have gx := yg x (List.mem_of_getElem? hx)
    subst hB
    refine ⟨rfl, rfl, show 2 ≤ 100000 by decide, rfl, ss, rfl, bk.l1, gx, ?_⟩
    cases hW : risW x 0 ((ss.length : Int) - 1) with
    | false =>
      refine ⟨.str "sets", rfl, ?_⟩
      (try dsimp only [dNext, dSeq, dIfS, dB, dOp, dNot, dOr, dAnd, dNotV, dOrV, dAndV, dAsg, dRet, dDrop, dCB, dIf, dTup, dLst, dCons, dNil, wf_d, wf_l, wb_b, wi_i, wt_t, wl_l, wl_d, tupR_t, tupR_l, lstR_t, lstR_l, List.set_cons_zero, List.set_cons_succ])
      refine whyF0 (fun ψ hψ => ?_)
      refine ⟨rfl, .inl ⟨ss, "a", cs, rfl, gx, hW, hψ _ ⟨"sets", by simp [woE], ?_⟩⟩⟩
      (try dsimp only [dNext, dSeq, dIfS, dB, dOp, dNot, dOr, dAnd, dNotV, dOrV, dAndV, dAsg, dRet, dDrop, dCB, dIf, dTup, dLst, dCons, dNil, wf_d, wf_l, wb_b, wi_i, wt_t, wl_l, wl_d, tupR_t, tupR_l, lstR_t, lstR_l, List.set_cons_zero, List.set_cons_succ])
      refine dVar_d rfl ?_
      (try dsimp only [dNext, dSeq, dIfS, dB, dOp, dNot, dOr, dAnd, dNotV, dOrV, dAndV, dAsg, dRet, dDrop, dCB, dIf, dTup, dLst, dCons, dNil, wf_d, wf_l, wb_b, wi_i, wt_t, wl_l, wl_d, tupR_t, tupR_l, lstR_t, lstR_l, List.set_cons_zero, List.set_cons_succ])
      refine eqS_ne rfl ?_
      exact wb_t (ifF rfl ⟨_, _, rfl⟩)
    | true =>
      refine ⟨.str "none", rfl, ?_⟩
      (try dsimp only [dNext, dSeq, dIfS, dB, dOp, dNot, dOr, dAnd, dNotV, dOrV, dAndV, dAsg, dRet, dDrop, dCB, dIf, dTup, dLst, dCons, dNil, wf_d, wf_l, wb_b, wi_i, wt_t, wl_l, wl_d, tupR_t, tupR_l, lstR_t, lstR_l, List.set_cons_zero, List.set_cons_succ])
      refine whyF0 (fun ψ hψ => ?_)
      obtain ⟨is, rfl, il, ip, ib⟩ := risW_ok hW
      have il2 : is.length ≤ 100 := by
        have := (tup_good gx).2
        rwa [List.length_map] at this
      refine ⟨rfl, .inr ⟨ss, "a", cs, is, rfl, rfl, bk, ⟨by decide, by decide +kernel⟩, ok, by omega, il2, ip, ib, ?_⟩⟩
      (try dsimp only [dNext, dSeq, dIfS, dB, dOp, dNot, dOr, dAnd, dNotV, dOrV, dAndV, dAsg, dRet, dDrop, dCB, dIf, dTup, dLst, dCons, dNil, wf_d, wf_l, wb_b, wi_i, wt_t, wl_l, wl_d, tupR_t, tupR_l, lstR_t, lstR_l, List.set_cons_zero, List.set_cons_succ])
      refine dVar_d rfl ?_
      (try dsimp only [dNext, dSeq, dIfS, dB, dOp, dNot, dOr, dAnd, dNotV, dOrV, dAndV, dAsg, dRet, dDrop, dCB, dIf, dTup, dLst, dCons, dNil, wf_d, wf_l, wb_b, wi_i, wt_t, wl_l, wl_d, tupR_t, tupR_l, lstR_t, lstR_l, List.set_cons_zero, List.set_cons_succ])
      refine eqS_ne rfl ?_
      exact wb_t (ifF rfl ⟨_, _, rfl⟩)
  rintro _ ⟨e6, e7, rfl⟩
  refine seqMidG (fun Γ => ∃ v6 v7 v8 v9 v10 v11 : En, Γ = gM ns ss (.d (albD C ss "a" cs)) (.lst ((riseA cs).map rwD)) (.d (.lst xs)) v6 v7 v8 v9 v10 v11) (fun N hN => ?_) ?_
  · refine ⟨rfl, by decide, by decide, fun i Γ => ∃ v6 v7 v8 v9 v10 v11 : En, Γ = gM ns ss (.d (albD C ss "a" cs)) (.lst ((riseA cs).map rwD)) (.d (.lst xs)) v6 v7 v8 v9 v10 v11, ⟨_, _, _, _, _, _, rfl⟩, ?_⟩
    rintro i Γ ⟨v6, v7, v8, v9, v10, v11, rfl⟩
    refine ⟨fun e => hN _ ⟨_, _, _, _, _, _, rfl⟩, fun y hy => ?_⟩
    refine seqMidG (fun Γ => ∃ x : D, x.good = true ∧ Γ = gM ns ss (.d (albD C ss "a" cs)) (.lst ((riseA cs).map rwD)) (.d (.lst xs)) (.d x) v7 (.d y) v9 v10 v11) (fun N hN => ?_) ?_
    · refine ⟨rfl, rfl, rfl, rfl, 2, rfl, by decide, fun e1 x1 n1 f1 g1 => ?_⟩
      refine wf_of f1 ?_
      refine ⟨rfl, rfl, rfl, rfl, show 3 ≤ 100000 by decide, rfl, rfl, 2, by decide, by decide, rfl, fun e2 x2 n2 f2 g2 => ?_⟩
      refine wf_of f2 ?_
      refine ⟨rfl, rfl, rfl, show 3 ≤ 100000 by decide, show 3 ≤ 100000 by decide, ?_⟩
      refine ⟨rfl, rfl, rfl, rfl, 3, rfl, by decide, by decide, fun r r0 r1 => ?_⟩
      obtain ⟨x, hx, xo⟩ := atI_c3 (a := x1) (b := x2) (c := .tup [.int 0, .int 0, .int 1]) r0 r1
      refine ⟨x, hx, hN _ ⟨x, ?_, rfl⟩⟩
      rcases xo with rfl | rfl | rfl
      · exact g1
      · exact g2
      · rfl
    rintro _ ⟨x, gx, rfl⟩
    refine seqMidG (fun Γ => ∃ m : D, m.good = true ∧ Γ = gM ns ss (.d (albD C ss "a" cs)) (.lst ((riseA cs).map rwD)) (.d (.lst xs)) (.d x) v7 (.d y) (.d m) v10 v11) (fun N hN => ?_) ?_
    · refine ⟨rfl, rfl, rfl, rfl, 1, rfl, by decide, fun e1 x1 n1 f1 g1 => ?_⟩
      refine wf_of f1 ?_
      refine ⟨rfl, rfl, show 3 ≤ 100000 by decide, ?_⟩
      refine ⟨rfl, rfl, rfl, rfl, 3, rfl, by decide, by decide, fun r r0 r1 => ?_⟩
      obtain ⟨m, hm, mo⟩ := atI_c3 (a := x1) (b := .int 0) (c := .int 1) r0 r1
      refine ⟨m, hm, hN _ ⟨m, ?_, rfl⟩⟩
      rcases mo with rfl | rfl | rfl
      · exact g1
      · rfl
      · rfl
    rintro _ ⟨m, gm, rfl⟩
    refine seqMidG (fun Γ => Γ = gM ns ss (.d (albD C ss "a" cs)) (.lst ((riseA cs).map rwD)) (.d (.lst xs)) (.d x) v7 (.d y) (.d m) (.d (.bl (frB m))) v11) (fun N hN => ?_) ?_
    · have mt := good_ty gm
      cases m with
      | ins C ns xs => exact absurd mt Bool.false_ne_true
      | int n =>
        refine ⟨by decide, true, rfl, ?_⟩
        (dsimp only [dB, dAnd, dOr, dNot, dEqE, wf_d, wf_l, wb_b, wi_i, wt_t, wl_l, wl_d, List.set_cons_zero, List.set_cons_succ])
        refine ifT rfl ⟨by decide, false, rfl, ?_⟩
        (dsimp only [dB, dAnd, dOr, dNot, dEqE, wf_d, wf_l, wb_b, wi_i, wt_t, wl_l, wl_d, List.set_cons_zero, List.set_cons_succ])
        refine ifT rfl ⟨rfl, rfl, ?_⟩
        have : decide ((0 : Int) < n) = frB (.int n) := decide_eq_decide.mpr (by omega)
        show N (gM ns ss (.d (albD C ss "a" cs)) (.lst ((riseA cs).map rwD)) (.d (.lst xs)) (.d x) v7 (.d y) (.d (.int n)) (.d (.bl (decide ((0 : Int) < n)))) v11)
        rw [this]
        exact hN _ rfl
      | bl b =>
        refine ⟨by decide, true, rfl, ?_⟩
        (dsimp only [dB, dAnd, dOr, dNot, dEqE, wf_d, wf_l, wb_b, wi_i, wt_t, wl_l, wl_d, List.set_cons_zero, List.set_cons_succ])
        refine ifT rfl ⟨by decide, true, rfl, ?_⟩
        (dsimp only [dB, dAnd, dOr, dNot, dEqE, wf_d, wf_l, wb_b, wi_i, wt_t, wl_l, wl_d, List.set_cons_zero, List.set_cons_succ])
        exact ifF rfl (hN _ rfl)
      | _ =>
        refine ⟨by decide, false, rfl, ?_⟩
        (dsimp only [dB, dAnd, dOr, dNot, dEqE, wf_d, wf_l, wb_b, wi_i, wt_t, wl_l, wl_d, List.set_cons_zero, List.set_cons_succ])
        exact ifF rfl (hN _ rfl)
    rintro _ rfl
    refine ⟨rfl, ?_⟩
    dsimp only [List.set_cons_zero, List.set_cons_succ]
    refine seqMidG (fun Γ => Γ = gM ns ss (.d (albD C ss "a" cs)) (.lst ((riseA cs).map rwD)) (.d (.lst xs)) (.d x) (.d (.str (dueS ss x m))) (.d y) (.d m) (.d (.bl (frB m))) v11) (fun N hN => ?_) ?_
    · refine ⟨rfl, ss, rfl, gx, ?_⟩
      unfold dueS at hN
      cases hs : stB ss x with
      | false =>
        rw [hs] at hN
        exact wb_t (ifF rfl (hN _ rfl))
      | true =>
        rw [hs, if_pos rfl] at hN
        refine wb_t (ifT rfl ?_)
        refine ⟨rfl, rfl, show 2 ≤ 100000 by decide, ?_⟩
        cases hf : frB m with
        | false =>
          rw [hf] at hN
          exact ⟨_, rfl, hN _ rfl⟩
        | true =>
          rw [hf] at hN
          exact ⟨_, rfl, hN _ rfl⟩
    rintro _ rfl
    have okr : CtOk (OkS ss) (riseA cs) := ok.perm (riseA_perm cs)
    have rl := riseA_len cs
    have eqT : ∀ {ds : Cts}, CtOk (OkS ss) ds → (∀ s, cntA ds s = cntA cs s) → ((bookD ss).eqv (bookD ss) && eqC ds cs) = true := fun {ds} hd h => by
      rw [eqv_self (fit_book bk), (eqC_iff hd ok).mpr h]
      rfl
    have eqr := eqT okr (cnt_rise ok)
    refine seqMidG (fun Γ => ∃ (p : Addr) (T : List Addr), Γ = gM ns ss (.d (albD C ss "a" cs)) (.lst ((riseA cs).map rwD)) (.d (.lst xs)) (.d x) (.d (.str (dueS ss x m))) (.d y) (.d m) (.d (.bl (frB m))) (.ow (.ins C nsA (osA ss "a" (riseA cs))) (p :: T))) (fun N hN => ?_) ?_
    · refine ⟨⟨_, _, rfl, rfl⟩, rfl, ss, "a", cs, rfl, bk, by decide, by decide +kernel, ok, by omega, fun p T => hN _ ⟨p, T, rfl⟩⟩
    rintro _ ⟨p, T0, rfl⟩
    -- what is refused
    have bad : ∀ wd : Str, woE ce (.ref ce.o) wd ∧ stB ss x = false ∨ woE ce (.ref ce.r) wd ∧ stB ss x = true ∧ frB m = false → wd ≠ Str.ofString "none" → dueS ss x m = wd → ∀ (φ : En → List En → Prop), φ (.d (.str wd)) (gM ns ss (.d (albD C ss "a" cs)) (.lst ((riseA cs).map rwD)) (.d (.lst xs)) (.d x) (.d (.str (dueS ss x m))) (.d y) (.d m) (.d (.bl (frB m))) (.ow (.ins C nsA (osA ss "a" (riseA cs))) (p :: T0))) →
        dWhyB 11 (woE ce) (Str.ofString "none") (fun ψ' => dMethB C (Str.ofString "put") 11 (sx3 (kPutX C ce)) (mo2 (kPut C)) [] ψ' (dCons (dVar 6) (dCons (dVar 9) dNil))) (gM ns ss (.d (albD C ss "a" cs)) (.lst ((riseA cs).map rwD)) (.d (.lst xs)) (.d x) (.d (.str (dueS ss x m))) (.d y) (.d m) (.d (.bl (frB m))) (.ow (.ins C nsA (osA ss "a" (riseA cs))) (p :: T0))) φ := fun wd hw _ _ φ h => by
      refine dWhyB_fz rfl (fun ψ hψ => .inl ?_)
      rw [alb_dt]
      refine ⟨⟨_, _, rfl, rfl⟩, rfl, ss, "a", riseA cs, rfl, gx, gm, ?_⟩
      rcases hw with ⟨hw, hs⟩ | ⟨hw, hs, hf⟩
      · exact .inl ⟨hs, hψ _ ⟨wd, hw, h⟩⟩
      · exact .inr ⟨hs, hf, hψ _ ⟨wd, hw, h⟩⟩
    have cnt_of : ∀ (e11 : En) (φ : En → List En → Prop), φ (.d (.str (if stB ss x = true then "none" else "stamp"))) (gM ns ss (.d (albD C ss "a" cs)) (.lst ((riseA cs).map rwD)) (.d (.lst xs)) (.d x) (.d (.str (dueS ss x m))) (.d y) (.d m) (.d (.bl (frB m))) e11) →
        dWhyF (woE ce) (Str.ofString "none") (fun ψ' => dMeth C (Str.ofString "count_of") (dOrX (sx2 (kCofX C ce)) (sp2 (kCof C))) [] ψ' (dVar 3) (dCons (dVar 6) dNil)) (gM ns ss (.d (albD C ss "a" cs)) (.lst ((riseA cs).map rwD)) (.d (.lst xs)) (.d x) (.d (.str (dueS ss x m))) (.d y) (.d m) (.d (.bl (frB m))) e11) φ := fun e11 φ h => by
      refine whyF0 (fun ψ hψ => ?_)
      cases hs : stB ss x with
      | false =>
        rw [hs] at h
        exact ⟨⟨_, _, rfl, rfl⟩, rfl, .inl ⟨ss, "a", cs, rfl, gx, hs, hψ _ ⟨"stamp", by simp [woE], h⟩⟩⟩
      | true =>
        rw [hs] at h
        have ex := stB_ok hs
        exact ⟨⟨_, _, rfl, rfl⟩, rfl, .inr ⟨ss, "a", cs, toSt x, rfl, ex, hs, h⟩⟩
    have rest : ∀ (e11 : En) (P0 : Po), (P0.nx (gM ns ss (.d (albD C ss "a" cs)) (.lst ((riseA cs).map rwD)) (.d (.lst xs)) (.d x) (.d (.str (dueS ss x m))) (.d y) (.d m) (.d (.bl (frB m))) e11)) → dIfS
          (dB (dOp (dEqS true) (dWhyF (woE ce) (Str.ofString "none") fun ψ' => dMeth C (Str.ofString "count_of") (dOrX (sx2 (kCofX C ce)) (sp2 (kCof C))) [] ψ' (dVar 3) (dCons (dVar 6) dNil))
              (dOp dIxL (dLst (dCons (dC (V.str (Str.ofString "stamp"))) (dCons (dC (V.str (Str.ofString "none"))) dNil))) (dCB dIntR (dCons (dCall (sp2 kStB) [] (fun x => False) (dCons (dVar 2) (dCons (dVar 6) dNil))) dNil)))))
          (dRet (dC (V.bl false))) dNext (gM ns ss (.d (albD C ss "a" cs)) (.lst ((riseA cs).map rwD)) (.d (.lst xs)) (.d x) (.d (.str (dueS ss x m))) (.d y) (.d m) (.d (.bl (frB m))) e11) P0 := fun e11 P0 hN => by
      (try dsimp only [dNext, dSeq, dIfS, dB, dOp, dNot, dOr, dAnd, dNotV, dOrV, dAndV, dAsg, dRet, dDrop, dCB, dIf, dTup, dLst, dCons, dNil, wf_d, wf_l, wb_b, wi_i, wt_t, wl_l, wl_d, tupR_t, tupR_l, lstR_t, lstR_l, List.set_cons_zero, List.set_cons_succ])
      refine cnt_of e11 _ ?_
      (try dsimp only [dNext, dSeq, dIfS, dB, dOp, dNot, dOr, dAnd, dNotV, dOrV, dAndV, dAsg, dRet, dDrop, dCB, dIf, dTup, dLst, dCons, dNil, wf_d, wf_l, wb_b, wi_i, wt_t, wl_l, wl_d, tupR_t, tupR_l, lstR_t, lstR_l, List.set_cons_zero, List.set_cons_succ])
      refine ⟨rfl, rfl, show 2 ≤ 100000 by decide, rfl, ss, rfl, gx, ?_⟩
      cases hs : stB ss x with
      | false =>
        refine ⟨.str "stamp", rfl, ?_⟩
        (try dsimp only [dNext, dSeq, dIfS, dB, dOp, dNot, dOr, dAnd, dNotV, dOrV, dAndV, dAsg, dRet, dDrop, dCB, dIf, dTup, dLst, dCons, dNil, wf_d, wf_l, wb_b, wi_i, wt_t, wl_l, wl_d, tupR_t, tupR_l, lstR_t, lstR_l, List.set_cons_zero, List.set_cons_succ])
        refine eqS_ne rfl ?_
        exact wb_t (ifF rfl hN)
      | true =>
        refine ⟨.str "none", rfl, ?_⟩
        (try dsimp only [dNext, dSeq, dIfS, dB, dOp, dNot, dOr, dAnd, dNotV, dOrV, dAndV, dAsg, dRet, dDrop, dCB, dIf, dTup, dLst, dCons, dNil, wf_d, wf_l, wb_b, wi_i, wt_t, wl_l, wl_d, tupR_t, tupR_l, lstR_t, lstR_l, List.set_cons_zero, List.set_cons_succ])
        refine eqS_ne rfl ?_
        exact wb_t (ifF rfl hN)
    by_cases hgood : stB ss x = true ∧ frB m = true
    rotate_left
    · obtain ⟨wd, hw, hn, hd⟩ : ∃ wd : Str, (woE ce (.ref ce.o) wd ∧ stB ss x = false ∨ woE ce (.ref ce.r) wd ∧ stB ss x = true ∧ frB m = false) ∧ wd ≠ Str.ofString "none" ∧ dueS ss x m = wd := by
        unfold dueS
        cases hs : stB ss x with
        | false => exact ⟨"stamp", .inl ⟨by simp [woE], rfl⟩, by decide +kernel, rfl⟩
        | true =>
          have hf : frB m = false := by
            cases hf : frB m with
            | false => rfl
            | true => exact absurd ⟨hs, hf⟩ hgood
          rw [hf]
          exact ⟨"number", .inr ⟨by simp [woE], rfl, rfl⟩, by decide +kernel, rfl⟩
      have hn2 : dueS ss x m ≠ Str.ofString "none" := by rw [hd]; exact hn
      refine seqMidG (fun Γ => Γ = gM ns ss (.d (albD C ss "a" cs)) (.lst ((riseA cs).map rwD)) (.d (.lst xs)) (.d x) (.d (.str (dueS ss x m))) (.d y) (.d m) (.d (.bl (frB m))) (.ow (.ins C nsA (osA ss "a" (riseA cs))) (p :: T0))) (fun N hN => ?_) ?_
      · (try dsimp only [dNext, dSeq, dIfS, dB, dOp, dNot, dOr, dAnd, dNotV, dOrV, dAndV, dAsg, dRet, dDrop, dCB, dIf, dTup, dLst, dCons, dNil, wf_d, wf_l, wb_b, wi_i, wt_t, wl_l, wl_d, tupR_t, tupR_l, lstR_t, lstR_l, List.set_cons_zero, List.set_cons_succ])
        refine bad wd hw hn hd _ ?_
        (try dsimp only [dNext, dSeq, dIfS, dB, dOp, dNot, dOr, dAnd, dNotV, dOrV, dAndV, dAsg, dRet, dDrop, dCB, dIf, dTup, dLst, dCons, dNil, wf_d, wf_l, wb_b, wi_i, wt_t, wl_l, wl_d, tupR_t, tupR_l, lstR_t, lstR_l, List.set_cons_zero, List.set_cons_succ])
        refine dVar_d rfl ?_
        (try dsimp only [dNext, dSeq, dIfS, dB, dOp, dNot, dOr, dAnd, dNotV, dOrV, dAndV, dAsg, dRet, dDrop, dCB, dIf, dTup, dLst, dCons, dNil, wf_d, wf_l, wb_b, wi_i, wt_t, wl_l, wl_d, tupR_t, tupR_l, lstR_t, lstR_l, List.set_cons_zero, List.set_cons_succ])
        refine eqS_ne hd.symm ?_
        refine wb_t (ifF rfl ?_)
        (try dsimp only [dNext, dSeq, dIfS, dB, dOp, dNot, dOr, dAnd, dNotV, dOrV, dAndV, dAsg, dRet, dDrop, dCB, dIf, dTup, dLst, dCons, dNil, wf_d, wf_l, wb_b, wi_i, wt_t, wl_l, wl_d, tupR_t, tupR_l, lstR_t, lstR_l, List.set_cons_zero, List.set_cons_succ])
        refine dVar_d rfl ?_
        (try dsimp only [dNext, dSeq, dIfS, dB, dOp, dNot, dOr, dAnd, dNotV, dOrV, dAndV, dAsg, dRet, dDrop, dCB, dIf, dTup, dLst, dCons, dNil, wf_d, wf_l, wb_b, wi_i, wt_t, wl_l, wl_d, tupR_t, tupR_l, lstR_t, lstR_l, List.set_cons_zero, List.set_cons_succ])
        refine ⟨rfl, ?_⟩
        (try dsimp only [dNext, dSeq, dIfS, dB, dOp, dNot, dOr, dAnd, dNotV, dOrV, dAndV, dAsg, dRet, dDrop, dCB, dIf, dTup, dLst, dCons, dNil, wf_d, wf_l, wb_b, wi_i, wt_t, wl_l, wl_d, tupR_t, tupR_l, lstR_t, lstR_l, List.set_cons_zero, List.set_cons_succ])
        refine eqS_neT hn2 ?_
        refine wb_t (ifT rfl ?_)
        refine ⟨_, _, rfl, ?_⟩
        rw [alb_dt]
        refine ⟨⟨_, _, rfl⟩, ⟨_, _, rfl⟩, ss, "a", riseA cs, ss, "a", cs, rfl, rfl, bk, bk, _, rfl, ?_⟩
        rw [eqr]
        exact wb_t (ifF rfl (hN _ rfl))
      rintro _ rfl
      refine seqMidG (fun Γ => Γ = gM ns ss (.d (albD C ss "a" cs)) (.lst ((riseA cs).map rwD)) (.d (.lst xs)) (.d x) (.d (.str (dueS ss x m))) (.d y) (.d m) (.d (.bl (frB m))) (.ow (.ins C nsA (osA ss "a" (riseA cs))) (p :: T0))) (fun N hN => rest _ _ (hN _ rfl)) ?_
      rintro _ rfl
      refine seqMidG (fun Γ => Γ = gM ns ss (.d (albD C ss "a" cs)) (.lst ((riseA cs).map rwD)) (.d (.lst xs)) (.d x) (.d (.str (dueS ss x m))) (.d y) (.d m) (.d (.bl (frB m))) (.ow (.ins C nsA (osA ss "a" (riseA cs))) (p :: T0))) (fun N hN => ?_) ?_
      · (try dsimp only [dNext, dSeq, dIfS, dB, dOp, dNot, dOr, dAnd, dNotV, dOrV, dAndV, dAsg, dRet, dDrop, dCB, dIf, dTup, dLst, dCons, dNil, wf_d, wf_l, wb_b, wi_i, wt_t, wl_l, wl_d, tupR_t, tupR_l, lstR_t, lstR_l, List.set_cons_zero, List.set_cons_succ])
        refine dVar_d rfl ?_
        (try dsimp only [dNext, dSeq, dIfS, dB, dOp, dNot, dOr, dAnd, dNotV, dOrV, dAndV, dAsg, dRet, dDrop, dCB, dIf, dTup, dLst, dCons, dNil, wf_d, wf_l, wb_b, wi_i, wt_t, wl_l, wl_d, tupR_t, tupR_l, lstR_t, lstR_l, List.set_cons_zero, List.set_cons_succ])
        refine ⟨rfl, ?_⟩
        (try dsimp only [dNext, dSeq, dIfS, dB, dOp, dNot, dOr, dAnd, dNotV, dOrV, dAndV, dAsg, dRet, dDrop, dCB, dIf, dTup, dLst, dCons, dNil, wf_d, wf_l, wb_b, wi_i, wt_t, wl_l, wl_d, tupR_t, tupR_l, lstR_t, lstR_l, List.set_cons_zero, List.set_cons_succ])
        refine eqS_eqF hn2 ?_
        exact wb_t (ifF rfl (hN _ rfl))
      rintro _ rfl
      refine ⟨_, _, rfl, ?_⟩
      rw [alb_dt]
      refine ⟨⟨_, _, rfl⟩, ⟨_, _, rfl⟩, ss, "a", riseA cs, ss, "a", cs, rfl, rfl, bk, bk, _, rfl, ?_⟩
      rw [eqr]
      exact wb_t (ifF rfl ⟨_, _, _, _, _, _, rfl⟩)
    · obtain ⟨hs, hf⟩ := hgood
      have hd : dueS ss x m = Str.ofString "none" := by
        unfold dueS
        rw [hs, hf]
        rfl
      have ex := stB_ok hs
      obtain ⟨k, rfl, k1⟩ := frB_ok hf
      generalize toSt x = t at ex
      subst ex
      have ok2 := okr.add (s := t) hs k1
      refine seqMidG (fun Γ => ∃ (p2 : Addr) (T2 : List Addr), Γ = gM ns ss (.d (albD C ss "a" cs)) (.lst ((riseA cs).map rwD)) (.d (.lst xs)) (.d (stD t)) (.d (.str (dueS ss (stD t) (.int k)))) (.d y) (.d (.int k)) (.d (.bl (frB (.int k)))) (.ow (.ins C nsA (osA ss "a" (addA (riseA cs) t k))) (p2 :: T2))) (fun N hN => ?_) ?_
      · (try dsimp only [dNext, dSeq, dIfS, dB, dOp, dNot, dOr, dAnd, dNotV, dOrV, dAndV, dAsg, dRet, dDrop, dCB, dIf, dTup, dLst, dCons, dNil, wf_d, wf_l, wb_b, wi_i, wt_t, wl_l, wl_d, tupR_t, tupR_l, lstR_t, lstR_l, List.set_cons_zero, List.set_cons_succ])
        refine dWhyB_ow rfl (.inr ?_)
        refine ⟨⟨_, _, _, rfl, many_out⟩, ?_⟩
        refine ⟨rfl, _, _, _, rfl, ss, "a", riseA cs, t, k, rfl, rfl, rfl, hs, rfl, k1, by omega, fun p2 T2 => ⟨_, _, rfl, ?_⟩⟩
        (try dsimp only [dNext, dSeq, dIfS, dB, dOp, dNot, dOr, dAnd, dNotV, dOrV, dAndV, dAsg, dRet, dDrop, dCB, dIf, dTup, dLst, dCons, dNil, wf_d, wf_l, wb_b, wi_i, wt_t, wl_l, wl_d, tupR_t, tupR_l, lstR_t, lstR_l, List.set_cons_zero, List.set_cons_succ])
        refine dVar_d rfl ?_
        (try dsimp only [dNext, dSeq, dIfS, dB, dOp, dNot, dOr, dAnd, dNotV, dOrV, dAndV, dAsg, dRet, dDrop, dCB, dIf, dTup, dLst, dCons, dNil, wf_d, wf_l, wb_b, wi_i, wt_t, wl_l, wl_d, tupR_t, tupR_l, lstR_t, lstR_l, List.set_cons_zero, List.set_cons_succ])
        refine eqS_ne hd.symm ?_
        refine wb_t (ifF rfl ?_)
        (try dsimp only [dNext, dSeq, dIfS, dB, dOp, dNot, dOr, dAnd, dNotV, dOrV, dAndV, dAsg, dRet, dDrop, dCB, dIf, dTup, dLst, dCons, dNil, wf_d, wf_l, wb_b, wi_i, wt_t, wl_l, wl_d, tupR_t, tupR_l, lstR_t, lstR_l, List.set_cons_zero, List.set_cons_succ])
        refine dVar_d rfl ?_
        (try dsimp only [dNext, dSeq, dIfS, dB, dOp, dNot, dOr, dAnd, dNotV, dOrV, dAndV, dAsg, dRet, dDrop, dCB, dIf, dTup, dLst, dCons, dNil, wf_d, wf_l, wb_b, wi_i, wt_t, wl_l, wl_d, tupR_t, tupR_l, lstR_t, lstR_l, List.set_cons_zero, List.set_cons_succ])
        refine ⟨rfl, ?_⟩
        (try dsimp only [dNext, dSeq, dIfS, dB, dOp, dNot, dOr, dAnd, dNotV, dOrV, dAndV, dAsg, dRet, dDrop, dCB, dIf, dTup, dLst, dCons, dNil, wf_d, wf_l, wb_b, wi_i, wt_t, wl_l, wl_d, tupR_t, tupR_l, lstR_t, lstR_l, List.set_cons_zero, List.set_cons_succ])
        refine eqS_ne hd ?_
        exact wb_t (ifF rfl (ifF rfl (hN _ ⟨p2, T2, rfl⟩)))
      rintro _ ⟨p2, T2, rfl⟩
      refine seqMidG (fun Γ => Γ = gM ns ss (.d (albD C ss "a" cs)) (.lst ((riseA cs).map rwD)) (.d (.lst xs)) (.d (stD t)) (.d (.str (dueS ss (stD t) (.int k)))) (.d y) (.d (.int k)) (.d (.bl (frB (.int k)))) (.ow (.ins C nsA (osA ss "a" (addA (riseA cs) t k))) (p2 :: T2))) (fun N hN => rest _ _ (hN _ rfl)) ?_
      rintro _ rfl
      have ca : cntA (addA (riseA cs) t k) t = cntA cs t + k := by rw [cnt_addA, if_pos rfl, cnt_rise ok]
      have c0 := ok.cnt t
      refine seqMidG (fun Γ => ∃ (p3 : Addr) (T3 : List Addr), Γ = gM ns ss (.d (albD C ss "a" cs)) (.lst ((riseA cs).map rwD)) (.d (.lst xs)) (.d (stD t)) (.d (.str (dueS ss (stD t) (.int k)))) (.d y) (.d (.int k)) (.d (.bl (frB (.int k)))) (.ow (.ins C nsA (osA ss "a" (takeA (addA (riseA cs) t k) t k))) (p3 :: T3))) (fun N hN => ?_) ?_
      · (try dsimp only [dNext, dSeq, dIfS, dB, dOp, dNot, dOr, dAnd, dNotV, dOrV, dAndV, dAsg, dRet, dDrop, dCB, dIf, dTup, dLst, dCons, dNil, wf_d, wf_l, wb_b, wi_i, wt_t, wl_l, wl_d, tupR_t, tupR_l, lstR_t, lstR_l, List.set_cons_zero, List.set_cons_succ])
        refine dVar_d rfl ?_
        (try dsimp only [dNext, dSeq, dIfS, dB, dOp, dNot, dOr, dAnd, dNotV, dOrV, dAndV, dAsg, dRet, dDrop, dCB, dIf, dTup, dLst, dCons, dNil, wf_d, wf_l, wb_b, wi_i, wt_t, wl_l, wl_d, tupR_t, tupR_l, lstR_t, lstR_l, List.set_cons_zero, List.set_cons_succ])
        refine ⟨rfl, ?_⟩
        (try dsimp only [dNext, dSeq, dIfS, dB, dOp, dNot, dOr, dAnd, dNotV, dOrV, dAndV, dAsg, dRet, dDrop, dCB, dIf, dTup, dLst, dCons, dNil, wf_d, wf_l, wb_b, wi_i, wt_t, wl_l, wl_d, tupR_t, tupR_l, lstR_t, lstR_l, List.set_cons_zero, List.set_cons_succ])
        refine eqS_eq hd ?_
        refine wb_t (ifT rfl ?_)
        refine ⟨⟨_, _, _, rfl, take_out⟩, ?_⟩
        have al := addA_len (riseA cs) t k
        exact ⟨rfl, _, _, _, rfl, ss, "a", addA (riseA cs) t k, t, k, rfl, rfl, rfl, hs, rfl, k1, by omega, by omega, fun p3 T3 => hN _ ⟨p3, T3, rfl⟩⟩
      rintro _ ⟨p3, T3, rfl⟩
      refine ⟨_, _, rfl, ?_⟩
      rw [alb_dt]
      refine ⟨⟨_, _, rfl⟩, ⟨_, _, rfl⟩, ss, "a", _, ss, "a", cs, rfl, rfl, bk, bk, _, rfl, ?_⟩
      rw [eqT (ok2.take hs (by omega)) fun s => by
        rw [cnt_takeA, ca]
        by_cases z : s = t
        · rw [if_pos z, z]
          omega
        · rw [if_neg z, cnt_addA, if_neg z, cnt_rise ok]]
      exact wb_t (ifF rfl ⟨_, _, _, _, _, _, rfl⟩)
  rintro _ ⟨v6, v7, v8, v9, v10, v11, rfl⟩
  refine seqMidG (fun Γ => ∃ v6 : En, Γ = gM ns ss (.d (albD C ss "a" cs)) (.lst ((riseA cs).map rwD)) (.d (.lst xs)) v6 v7 v8 v9 v10 v11) (fun N hN => ?_) ?_
  · generalize hB : (dIfS _ _ _ : DSt) = B
    unfold dFor dITup
    (try dsimp only [dNext, dSeq, dIfS, dB, dOp, dNot, dOr, dAnd, dNotV, dOrV, dAndV, dAsg, dRet, dDrop, dCB, dIf, dTup, dLst, dCons, dNil, wf_d, wf_l, wb_b, wi_i, wt_t, wl_l, wl_d, tupR_t, tupR_l, lstR_t, lstR_l, List.set_cons_zero, List.set_cons_succ])
    repeat (first
      | refine ⟨show isSc _ = true from rfl, ?_⟩
      | refine ⟨show List.length _ ≤ 100000 from by simp, ?_⟩
      | refine ⟨show CPow _ _ from ⟨by decide, by decide, by decide⟩, ?_⟩)
    refine ⟨fun i Γ => ∃ v6 : En, Γ = gM ns ss (.d (albD C ss "a" cs)) (.lst ((riseA cs).map rwD)) (.d (.lst xs)) v6 v7 v8 v9 v10 v11, ⟨_, rfl⟩, ?_⟩
    rintro i Γ ⟨v6, rfl⟩
    refine ⟨fun e => hN _ ⟨_, rfl⟩, fun x hx => ?_⟩
    have xm := List.mem_of_getElem? hx
    have xo : x.good = true ∧ inB x 0 ((ss.length : Int) - 1) = false := by
      simp only [List.mem_cons, List.not_mem_nil, or_false] at xm
      rcases xm with rfl | rfl | rfl | rfl | rfl | rfl | rfl
      · refine ⟨rfl, ?_⟩
        show inB (.int (-1)) 0 ((ss.length : Int) - 1) = false
        simp only [inB, Bool.and_eq_false_iff, decide_eq_false_iff_not]
        omega
      · refine ⟨rfl, ?_⟩
        show inB (.int (((ss.map setD).length : Nat) : Int)) 0 ((ss.length : Int) - 1) = false
        rw [List.length_map]
        simp only [inB, Bool.and_eq_false_iff, decide_eq_false_iff_not]
        omega
      · exact ⟨rfl, rfl⟩
      · exact ⟨rfl, rfl⟩
      · exact ⟨by decide +kernel, rfl⟩
      · exact ⟨rfl, rfl⟩
      · refine ⟨rfl, ?_⟩
        show inB (.int (10 ^ 39)) 0 ((ss.length : Int) - 1) = false
        simp only [inB, Bool.and_eq_false_iff, decide_eq_false_iff_not]
        omega
    subst hB
    (try dsimp only [dNext, dSeq, dIfS, dB, dOp, dNot, dOr, dAnd, dNotV, dOrV, dAndV, dAsg, dRet, dDrop, dCB, dIf, dTup, dLst, dCons, dNil, wf_d, wf_l, wb_b, wi_i, wt_t, wl_l, wl_d, tupR_t, tupR_l, lstR_t, lstR_l, List.set_cons_zero, List.set_cons_succ])
    refine whyF0 (fun ψ hψ => ?_)
    refine ⟨⟨_, _, rfl, rfl⟩, rfl, .inl ⟨ss, "a", cs, rfl, xo.1, xo.2, hψ _ ⟨"set", by simp [woE], ?_⟩⟩⟩
    (try dsimp only [dNext, dSeq, dIfS, dB, dOp, dNot, dOr, dAnd, dNotV, dOrV, dAndV, dAsg, dRet, dDrop, dCB, dIf, dTup, dLst, dCons, dNil, wf_d, wf_l, wb_b, wi_i, wt_t, wl_l, wl_d, tupR_t, tupR_l, lstR_t, lstR_l, List.set_cons_zero, List.set_cons_succ])
    refine ⟨rfl, ?_⟩
    (try dsimp only [dNext, dSeq, dIfS, dB, dOp, dNot, dOr, dAnd, dNotV, dOrV, dAndV, dAsg, dRet, dDrop, dCB, dIf, dTup, dLst, dCons, dNil, wf_d, wf_l, wb_b, wi_i, wt_t, wl_l, wl_d, tupR_t, tupR_l, lstR_t, lstR_l, List.set_cons_zero, List.set_cons_succ])
    refine eqS_ne rfl ?_
    exact wb_t (ifF rfl ⟨_, rfl⟩)
  rintro _ ⟨v6, rfl⟩
  refine ⟨⟨_, _, rfl, rfl⟩, rfl, ss, "a", cs, rfl, by omega, fun _ => ?_⟩
  (try dsimp only [dNext, dSeq, dIfS, dB, dOp, dNot, dOr, dAnd, dNotV, dOrV, dAndV, dAsg, dRet, dDrop, dCB, dIf, dTup, dLst, dCons, dNil, wf_d, wf_l, wb_b, wi_i, wt_t, wl_l, wl_d, tupR_t, tupR_l, lstR_t, lstR_l, List.set_cons_zero, List.set_cons_succ])
  refine ⟨fit_rows _, fit_rows _, ?_⟩
  rw [eqv_self (fit_rows _)]
  exact rfl
end
end Dl

set_option Elab.async false
set_option maxRecDepth 100000
set_option maxHeartbeats 4000000
set_option linter.all false
namespace Dl
open PySem PySem.Spec PyProof.Rows L2 HmS Da
theorem all_mk {l : PySem.W.OpenLaw} {w : World} {K : PySem.W.Frag} {h : Heap} {mg : Str → Option Value} {fa : Addr} (X : K.In h) (G : h.Ns mainGlobals mg) (hfa : mg "law" = some (.ref fa))
    {code PT : Addr}
    {ex_l ex_n ex_s ex_o ex_p ex_q ex_r ex_h : Addr}
    {C : Addr} {tH tW : Tok}
    {f0 : Addr} {od0 an0 : Option Addr} {sl0 : Array (Option Value)} {oc0 kV0 dc0 pm0 ct0 cd0 : Value}
    {f1 : Addr} {od1 an1 : Option Addr} {sl1 : Array (Option Value)} {oc1 kV1 dc1 pm1 ct1 cd1 : Value}
    {f2 : Addr} {od2 an2 : Option Addr} {sl2 : Array (Option Value)} {oc2 kV2 dc2 pm2 ct2 cd2 : Value}
    {f3 : Addr} {od3 an3 : Option Addr} {sl3 : Array (Option Value)} {oc3 kV3 dc3 pm3 ct3 cd3 : Value}
    {f4 : Addr} {od4 an4 : Option Addr} {sl4 : Array (Option Value)} {oc4 kV4 dc4 pm4 ct4 cd4 : Value}
    {f5 : Addr} {od5 an5 : Option Addr} {sl5 : Array (Option Value)} {oc5 kV5 dc5 pm5 ct5 cd5 : Value}
    {f6 : Addr} {od6 an6 : Option Addr} {sl6 : Array (Option Value)} {oc6 kV6 dc6 pm6 ct6 cd6 : Value}
    {f7 : Addr} {od7 an7 : Option Addr} {sl7 : Array (Option Value)} {oc7 kV7 dc7 pm7 ct7 cd7 : Value}
    {f8 : Addr} {od8 an8 : Option Addr} {sl8 : Array (Option Value)} {oc8 kV8 dc8 pm8 ct8 cd8 : Value}
    {f9 : Addr} {od9 an9 : Option Addr} {sl9 : Array (Option Value)} {oc9 kV9 dc9 pm9 ct9 cd9 : Value}
    {f10 : Addr} {od10 an10 : Option Addr} {sl10 : Array (Option Value)} {oc10 kV10 dc10 pm10 ct10 cd10 : Value}
    {f11 : Addr} {od11 an11 : Option Addr} {sl11 : Array (Option Value)} {oc11 kV11 dc11 pm11 ct11 cd11 : Value}
    {f12 : Addr} {od12 an12 : Option Addr} {sl12 : Array (Option Value)} {oc12 kV12 dc12 pm12 ct12 cd12 : Value}
    {f13 : Addr} {od13 an13 : Option Addr} {sl13 : Array (Option Value)} {oc13 kV13 dc13 pm13 ct13 cd13 : Value}
    {f14 : Addr} {od14 an14 : Option Addr} {sl14 : Array (Option Value)} {oc14 kV14 dc14 pm14 ct14 cd14 : Value}
    {f15 : Addr} {od15 an15 : Option Addr} {sl15 : Array (Option Value)} {oc15 kV15 dc15 pm15 ct15 cd15 : Value}
    {f16 : Addr} {od16 an16 : Option Addr} {sl16 : Array (Option Value)} {oc16 kV16 dc16 pm16 ct16 cd16 : Value}
    {f17 : Addr} {od17 an17 : Option Addr} {sl17 : Array (Option Value)} {oc17 kV17 dc17 pm17 ct17 cd17 : Value}
    {f18 : Addr} {od18 an18 : Option Addr} {sl18 : Array (Option Value)} {oc18 kV18 dc18 pm18 ct18 cd18 : Value}
    {f19 : Addr} {od19 an19 : Option Addr} {sl19 : Array (Option Value)} {oc19 kV19 dc19 pm19 ct19 cd19 : Value}
    {f20 : Addr} {od20 an20 : Option Addr} {sl20 : Array (Option Value)} {oc20 kV20 dc20 pm20 ct20 cd20 : Value}
    {f21 : Addr} {od21 an21 : Option Addr} {sl21 : Array (Option Value)} {oc21 kV21 dc21 pm21 ct21 cd21 : Value}
    {f22 : Addr} {od22 an22 : Option Addr} {sl22 : Array (Option Value)} {oc22 kV22 dc22 pm22 ct22 cd22 : Value}
    {f23 : Addr} {od23 an23 : Option Addr} {sl23 : Array (Option Value)} {oc23 kV23 dc23 pm23 ct23 cd23 : Value}
    {f24 : Addr} {od24 an24 : Option Addr} {sl24 : Array (Option Value)} {oc24 kV24 dc24 pm24 ct24 cd24 : Value}
    {f25 : Addr} {od25 an25 : Option Addr} {sl25 : Array (Option Value)} {oc25 kV25 dc25 pm25 ct25 cd25 : Value}
    {f26 : Addr} {od26 an26 : Option Addr} {sl26 : Array (Option Value)} {oc26 kV26 dc26 pm26 ct26 cd26 : Value}
    {f27 : Addr} {od27 an27 : Option Addr} {sl27 : Array (Option Value)} {oc27 kV27 dc27 pm27 ct27 cd27 : Value}
    {f28 : Addr} {od28 an28 : Option Addr} {sl28 : Array (Option Value)} {oc28 kV28 dc28 pm28 ct28 cd28 : Value}
    {f29 : Addr} {od29 an29 : Option Addr} {sl29 : Array (Option Value)} {oc29 kV29 dc29 pm29 ct29 cd29 : Value}
    {f30 : Addr} {od30 an30 : Option Addr} {sl30 : Array (Option Value)} {oc30 kV30 dc30 pm30 ct30 : Value}
    {fm0 : Addr} {mod0 man0 : Option Addr} {msl0 : Array (Option Value)} {moc0 mkV0 mdc0 mpm0 mct0 mcd0 : Value}
    {fm1 : Addr} {mod1 man1 : Option Addr} {msl1 : Array (Option Value)} {moc1 mkV1 mdc1 mpm1 mct1 mcd1 : Value}
    {fm2 : Addr} {mod2 man2 : Option Addr} {msl2 : Array (Option Value)} {moc2 mkV2 mdc2 mpm2 mct2 mcd2 : Value}
    {fm3 : Addr} {mod3 man3 : Option Addr} {msl3 : Array (Option Value)} {moc3 mkV3 mdc3 mpm3 mct3 mcd3 : Value}
    {fm4 : Addr} {mod4 man4 : Option Addr} {msl4 : Array (Option Value)} {moc4 mkV4 mdc4 mpm4 mct4 mcd4 : Value}
    {fm5 : Addr} {mod5 man5 : Option Addr} {msl5 : Array (Option Value)} {moc5 mkV5 mdc5 mpm5 mct5 mcd5 : Value}
    {fm6 : Addr} {mod6 man6 : Option Addr} {msl6 : Array (Option Value)} {moc6 mkV6 mdc6 mpm6 mct6 mcd6 : Value}
    {fm7 : Addr} {mod7 man7 : Option Addr} {msl7 : Array (Option Value)} {moc7 mkV7 mdc7 mpm7 mct7 mcd7 : Value}
    {fm8 : Addr} {mod8 man8 : Option Addr} {msl8 : Array (Option Value)} {moc8 mkV8 mdc8 mpm8 mct8 mcd8 : Value}
    {fm9 : Addr} {mod9 man9 : Option Addr} {msl9 : Array (Option Value)} {moc9 mkV9 mdc9 mpm9 mct9 mcd9 : Value}
    {fm10 : Addr} {mod10 man10 : Option Addr} {msl10 : Array (Option Value)} {moc10 mkV10 mdc10 mpm10 mct10 mcd10 : Value}
    {TD10 : Addr} {mtod10 : Option Addr} {mtsl10 : Array (Option Value)} {mtoc10 : Value} {mtn10 : Nat} {mt10_0 : Tok}
    {fm11 : Addr} {mod11 man11 : Option Addr} {msl11 : Array (Option Value)} {moc11 mkV11 mdc11 mpm11 mct11 mcd11 : Value}
    {TD11 : Addr} {mtod11 : Option Addr} {mtsl11 : Array (Option Value)} {mtoc11 : Value} {mtn11 : Nat} {mt11_0 : Tok}
    {fm12 : Addr} {mod12 man12 : Option Addr} {msl12 : Array (Option Value)} {moc12 mkV12 mdc12 mpm12 mct12 mcd12 : Value}
    {TD12 : Addr} {mtod12 : Option Addr} {mtsl12 : Array (Option Value)} {mtoc12 : Value} {mtn12 : Nat} {mt12_0 : Tok}
    (a0 : PySem.W.nsIn K mainGlobals "in_figures" = some (some (.ref f0)))
    (l0 : K.lookup f0 = some ⟨oc0, od0, .func (PySem.W.fnOf "in_figures" "in_figures" (defArgs st_in_figures) (defBody st_in_figures) (defScope st_in_figures) .none kV0 dc0 pm0 an0 cd0 ct0), sl0⟩)
    (c0 : PySem.W.codeIn K cd0 "in_figures" = true)
    (k0 : PySem.W.keepIn K (.ref f0) = true)
    (a1 : PySem.W.nsIn K mainGlobals "list_words" = some (some (.ref f1)))
    (l1 : K.lookup f1 = some ⟨oc1, od1, .func (PySem.W.fnOf "list_words" "list_words" (defArgs st_list_words) (defBody st_list_words) (defScope st_list_words) .none kV1 dc1 pm1 an1 cd1 ct1), sl1⟩)
    (c1 : PySem.W.codeIn K cd1 "list_words" = true)
    (k1 : PySem.W.keepIn K (.ref f1) = true)
    (a2 : PySem.W.nsIn K mainGlobals "stamp_row" = some (some (.ref f2)))
    (l2 : K.lookup f2 = some ⟨oc2, od2, .func (PySem.W.fnOf "stamp_row" "stamp_row" (defArgs st_stamp_row) (defBody st_stamp_row) (defScope st_stamp_row) .none kV2 dc2 pm2 an2 cd2 ct2), sl2⟩)
    (c2 : PySem.W.codeIn K cd2 "stamp_row" = true)
    (k2 : PySem.W.keepIn K (.ref f2) = true)
    (a3 : PySem.W.nsIn K mainGlobals "album_rows" = some (some (.ref f3)))
    (l3 : K.lookup f3 = some ⟨oc3, od3, .func (PySem.W.fnOf "album_rows" "album_rows" (defArgs st_album_rows) (defBody st_album_rows) (defScope st_album_rows) .none kV3 dc3 pm3 an3 cd3 ct3), sl3⟩)
    (c3 : PySem.W.codeIn K cd3 "album_rows" = true)
    (k3 : PySem.W.keepIn K (.ref f3) = true)
    (a4 : PySem.W.nsIn K mainGlobals "is_whole" = some (some (.ref f4)))
    (l4 : K.lookup f4 = some ⟨oc4, od4, .func (PySem.W.fnOf "is_whole" "is_whole" (defArgs st_is_whole) (defBody st_is_whole) (defScope st_is_whole) .none kV4 dc4 pm4 an4 cd4 ct4), sl4⟩)
    (c4 : PySem.W.codeIn K cd4 "is_whole" = true)
    (k4 : PySem.W.keepIn K (.ref f4) = true)
    (a5 : PySem.W.nsIn K mainGlobals "is_whole_from" = some (some (.ref f5)))
    (l5 : K.lookup f5 = some ⟨oc5, od5, .func (PySem.W.fnOf "is_whole_from" "is_whole_from" (defArgs st_is_whole_from) (defBody st_is_whole_from) (defScope st_is_whole_from) .none kV5 dc5 pm5 an5 cd5 ct5), sl5⟩)
    (c5 : PySem.W.codeIn K cd5 "is_whole_from" = true)
    (k5 : PySem.W.keepIn K (.ref f5) = true)
    (a6 : PySem.W.nsIn K mainGlobals "is_whole_within" = some (some (.ref f6)))
    (l6 : K.lookup f6 = some ⟨oc6, od6, .func (PySem.W.fnOf "is_whole_within" "is_whole_within" (defArgs st_is_whole_within) (defBody st_is_whole_within) (defScope st_is_whole_within) .none kV6 dc6 pm6 an6 cd6 ct6), sl6⟩)
    (c6 : PySem.W.codeIn K cd6 "is_whole_within" = true)
    (k6 : PySem.W.keepIn K (.ref f6) = true)
    (a7 : PySem.W.nsIn K mainGlobals "is_letters" = some (some (.ref f7)))
    (l7 : K.lookup f7 = some ⟨oc7, od7, .func (PySem.W.fnOf "is_letters" "is_letters" (defArgs st_is_letters) (defBody st_is_letters) (defScope st_is_letters) .none kV7 dc7 pm7 an7 cd7 ct7), sl7⟩)
    (c7 : PySem.W.codeIn K cd7 "is_letters" = true)
    (k7 : PySem.W.keepIn K (.ref f7) = true)
    (a8 : PySem.W.nsIn K mainGlobals "is_tuple" = some (some (.ref f8)))
    (l8 : K.lookup f8 = some ⟨oc8, od8, .func (PySem.W.fnOf "is_tuple" "is_tuple" (defArgs st_is_tuple) (defBody st_is_tuple) (defScope st_is_tuple) .none kV8 dc8 pm8 an8 cd8 ct8), sl8⟩)
    (c8 : PySem.W.codeIn K cd8 "is_tuple" = true)
    (k8 : PySem.W.keepIn K (.ref f8) = true)
    (a9 : PySem.W.nsIn K mainGlobals "is_rising" = some (some (.ref f9)))
    (l9 : K.lookup f9 = some ⟨oc9, od9, .func (PySem.W.fnOf "is_rising" "is_rising" (defArgs st_is_rising) (defBody st_is_rising) (defScope st_is_rising) .none kV9 dc9 pm9 an9 cd9 ct9), sl9⟩)
    (c9 : PySem.W.codeIn K cd9 "is_rising" = true)
    (k9 : PySem.W.keepIn K (.ref f9) = true)
    (a10 : PySem.W.nsIn K mainGlobals "is_rising_within" = some (some (.ref f10)))
    (l10 : K.lookup f10 = some ⟨oc10, od10, .func (PySem.W.fnOf "is_rising_within" "is_rising_within" (defArgs st_is_rising_within) (defBody st_is_rising_within) (defScope st_is_rising_within) .none kV10 dc10 pm10 an10 cd10 ct10), sl10⟩)
    (c10 : PySem.W.codeIn K cd10 "is_rising_within" = true)
    (k10 : PySem.W.keepIn K (.ref f10) = true)
    (a11 : PySem.W.nsIn K mainGlobals "is_year" = some (some (.ref f11)))
    (l11 : K.lookup f11 = some ⟨oc11, od11, .func (PySem.W.fnOf "is_year" "is_year" (defArgs st_is_year) (defBody st_is_year) (defScope st_is_year) .none kV11 dc11 pm11 an11 cd11 ct11), sl11⟩)
    (c11 : PySem.W.codeIn K cd11 "is_year" = true)
    (k11 : PySem.W.keepIn K (.ref f11) = true)
    (a12 : PySem.W.nsIn K mainGlobals "is_set" = some (some (.ref f12)))
    (l12 : K.lookup f12 = some ⟨oc12, od12, .func (PySem.W.fnOf "is_set" "is_set" (defArgs st_is_set) (defBody st_is_set) (defScope st_is_set) .none kV12 dc12 pm12 an12 cd12 ct12), sl12⟩)
    (c12 : PySem.W.codeIn K cd12 "is_set" = true)
    (k12 : PySem.W.keepIn K (.ref f12) = true)
    (a13 : PySem.W.nsIn K mainGlobals "is_list" = some (some (.ref f13)))
    (l13 : K.lookup f13 = some ⟨oc13, od13, .func (PySem.W.fnOf "is_list" "is_list" (defArgs st_is_list) (defBody st_is_list) (defScope st_is_list) .none kV13 dc13 pm13 an13 cd13 ct13), sl13⟩)
    (c13 : PySem.W.codeIn K cd13 "is_list" = true)
    (k13 : PySem.W.keepIn K (.ref f13) = true)
    (a14 : PySem.W.nsIn K mainGlobals "is_set_number" = some (some (.ref f14)))
    (l14 : K.lookup f14 = some ⟨oc14, od14, .func (PySem.W.fnOf "is_set_number" "is_set_number" (defArgs st_is_set_number) (defBody st_is_set_number) (defScope st_is_set_number) .none kV14 dc14 pm14 an14 cd14 ct14), sl14⟩)
    (c14 : PySem.W.codeIn K cd14 "is_set_number" = true)
    (k14 : PySem.W.keepIn K (.ref f14) = true)
    (a15 : PySem.W.nsIn K mainGlobals "is_place" = some (some (.ref f15)))
    (l15 : K.lookup f15 = some ⟨oc15, od15, .func (PySem.W.fnOf "is_place" "is_place" (defArgs st_is_place) (defBody st_is_place) (defScope st_is_place) .none kV15 dc15 pm15 an15 cd15 ct15), sl15⟩)
    (c15 : PySem.W.codeIn K cd15 "is_place" = true)
    (k15 : PySem.W.keepIn K (.ref f15) = true)
    (a16 : PySem.W.nsIn K mainGlobals "is_stamp" = some (some (.ref f16)))
    (l16 : K.lookup f16 = some ⟨oc16, od16, .func (PySem.W.fnOf "is_stamp" "is_stamp" (defArgs st_is_stamp) (defBody st_is_stamp) (defScope st_is_stamp) .none kV16 dc16 pm16 an16 cd16 ct16), sl16⟩)
    (c16 : PySem.W.codeIn K cd16 "is_stamp" = true)
    (k16 : PySem.W.keepIn K (.ref f16) = true)
    (a17 : PySem.W.nsIn K mainGlobals "is_stamps" = some (some (.ref f17)))
    (l17 : K.lookup f17 = some ⟨oc17, od17, .func (PySem.W.fnOf "is_stamps" "is_stamps" (defArgs st_is_stamps) (defBody st_is_stamps) (defScope st_is_stamps) .none kV17 dc17 pm17 an17 cd17 ct17), sl17⟩)
    (c17 : PySem.W.codeIn K cd17 "is_stamps" = true)
    (k17 : PySem.W.keepIn K (.ref f17) = true)
    (a18 : PySem.W.nsIn K mainGlobals "filled" = some (some (.ref f18)))
    (l18 : K.lookup f18 = some ⟨oc18, od18, .func (PySem.W.fnOf "filled" "filled" (defArgs st_filled) (defBody st_filled) (defScope st_filled) .none kV18 dc18 pm18 an18 cd18 ct18), sl18⟩)
    (c18 : PySem.W.codeIn K cd18 "filled" = true)
    (k18 : PySem.W.keepIn K (.ref f18) = true)
    (a19 : PySem.W.nsIn K mainGlobals "parted" = some (some (.ref f19)))
    (l19 : K.lookup f19 = some ⟨oc19, od19, .func (PySem.W.fnOf "parted" "parted" (defArgs st_parted) (defBody st_parted) (defScope st_parted) .none kV19 dc19 pm19 an19 cd19 ct19), sl19⟩)
    (c19 : PySem.W.codeIn K cd19 "parted" = true)
    (k19 : PySem.W.keepIn K (.ref f19) = true)
    (a20 : PySem.W.nsIn K mainGlobals "_law_cell_at" = some (some (.ref f20)))
    (l20 : K.lookup f20 = some ⟨oc20, od20, .func (PySem.W.fnOf "_law_cell_at" "_law_cell_at" (defArgs st__law_cell_at) (defBody st__law_cell_at) (defScope st__law_cell_at) .none kV20 dc20 pm20 an20 cd20 ct20), sl20⟩)
    (c20 : PySem.W.codeIn K cd20 "_law_cell_at" = true)
    (k20 : PySem.W.keepIn K (.ref f20) = true)
    (a21 : PySem.W.nsIn K mainGlobals "_law_pen" = some (some (.ref f21)))
    (l21 : K.lookup f21 = some ⟨oc21, od21, .func (PySem.W.fnOf "_law_pen" "_law_pen" (defArgs st__law_pen) (defBody st__law_pen) (defScope st__law_pen) .none kV21 dc21 pm21 an21 cd21 ct21), sl21⟩)
    (c21 : PySem.W.codeIn K cd21 "_law_pen" = true)
    (k21 : PySem.W.keepIn K (.ref f21) = true)
    (a22 : PySem.W.nsIn K mainGlobals "_law_draw" = some (some (.ref f22)))
    (l22 : K.lookup f22 = some ⟨oc22, od22, .func (PySem.W.fnOf "_law_draw" "_law_draw" (defArgs st__law_draw) (defBody st__law_draw) (defScope st__law_draw) .none kV22 dc22 pm22 an22 cd22 ct22), sl22⟩)
    (c22 : PySem.W.codeIn K cd22 "_law_draw" = true)
    (k22 : PySem.W.keepIn K (.ref f22) = true)
    (a23 : PySem.W.nsIn K mainGlobals "_law_list" = some (some (.ref f23)))
    (l23 : K.lookup f23 = some ⟨oc23, od23, .func (PySem.W.fnOf "_law_list" "_law_list" (defArgs st__law_list) (defBody st__law_list) (defScope st__law_list) .none kV23 dc23 pm23 an23 cd23 ct23), sl23⟩)
    (c23 : PySem.W.codeIn K cd23 "_law_list" = true)
    (k23 : PySem.W.keepIn K (.ref f23) = true)
    (a24 : PySem.W.nsIn K mainGlobals "_law_places" = some (some (.ref f24)))
    (l24 : K.lookup f24 = some ⟨oc24, od24, .func (PySem.W.fnOf "_law_places" "_law_places" (defArgs st__law_places) (defBody st__law_places) (defScope st__law_places) .none kV24 dc24 pm24 an24 cd24 ct24), sl24⟩)
    (c24 : PySem.W.codeIn K cd24 "_law_places" = true)
    (k24 : PySem.W.keepIn K (.ref f24) = true)
    (a25 : PySem.W.nsIn K mainGlobals "_law_stamps" = some (some (.ref f25)))
    (l25 : K.lookup f25 = some ⟨oc25, od25, .func (PySem.W.fnOf "_law_stamps" "_law_stamps" (defArgs st__law_stamps) (defBody st__law_stamps) (defScope st__law_stamps) .none kV25 dc25 pm25 an25 cd25 ct25), sl25⟩)
    (c25 : PySem.W.codeIn K cd25 "_law_stamps" = true)
    (k25 : PySem.W.keepIn K (.ref f25) = true)
    (a26 : PySem.W.nsIn K mainGlobals "_law_thing" = some (some (.ref f26)))
    (l26 : K.lookup f26 = some ⟨oc26, od26, .func (PySem.W.fnOf "_law_thing" "_law_thing" (defArgs st__law_thing) (defBody st__law_thing) (defScope st__law_thing) .none kV26 dc26 pm26 an26 cd26 ct26), sl26⟩)
    (c26 : PySem.W.codeIn K cd26 "_law_thing" = true)
    (k26 : PySem.W.keepIn K (.ref f26) = true)
    (a27 : PySem.W.nsIn K mainGlobals "_law_spoilt" = some (some (.ref f27)))
    (l27 : K.lookup f27 = some ⟨oc27, od27, .func (PySem.W.fnOf "_law_spoilt" "_law_spoilt" (defArgs st__law_spoilt) (defBody st__law_spoilt) (defScope st__law_spoilt) .none kV27 dc27 pm27 an27 cd27 ct27), sl27⟩)
    (c27 : PySem.W.codeIn K cd27 "_law_spoilt" = true)
    (k27 : PySem.W.keepIn K (.ref f27) = true)
    (a28 : PySem.W.nsIn K mainGlobals "_law_word" = some (some (.ref f28)))
    (l28 : K.lookup f28 = some ⟨oc28, od28, .func (PySem.W.fnOf "_law_word" "_law_word" (defArgs st__law_word) (defBody st__law_word) (defScope st__law_word) .none kV28 dc28 pm28 an28 cd28 ct28), sl28⟩)
    (c28 : PySem.W.codeIn K cd28 "_law_word" = true)
    (k28 : PySem.W.keepIn K (.ref f28) = true)
    (a29 : PySem.W.nsIn K mainGlobals "_law_are_sets" = some (some (.ref f29)))
    (l29 : K.lookup f29 = some ⟨oc29, od29, .func (PySem.W.fnOf "_law_are_sets" "_law_are_sets" (defArgs st__law_are_sets) (defBody st__law_are_sets) (defScope st__law_are_sets) .none kV29 dc29 pm29 an29 cd29 ct29), sl29⟩)
    (c29 : PySem.W.codeIn K cd29 "_law_are_sets" = true)
    (k29 : PySem.W.keepIn K (.ref f29) = true)
    (a30 : PySem.W.nsIn K mainGlobals "law" = some (some (.ref f30)))
    (l30 : K.lookup f30 = some ⟨oc30, od30, .func (PySem.W.fnOf "law" "law" (defArgs st_law) (defBody st_law) (defScope st_law) .none kV30 dc30 pm30 an30 (.ref code) ct30), sl30⟩)
    (c30 : PySem.W.codeIn K (.ref code) "law" = true)
    (k30 : PySem.W.keepIn K (.ref f30) = true)
    (aAlb : PySem.W.nsIn K mainGlobals "Album" = some (some (.ref C)))
    (am0 : PySem.W.findIn K (.ref C) "_check_some" = some (some (.ref fm0)))
    (im0 : PySem.W.isFn K (.ref fm0) = true)
    (lm0 : K.lookup fm0 = some ⟨moc0, mod0, .func (PySem.W.fnOf "_check_some" "Album._check_some" (defArgs st_Album__check_some) (defBody st_Album__check_some) (defScope st_Album__check_some) .none mkV0 mdc0 mpm0 man0 mcd0 mct0), msl0⟩)
    (cm0 : PySem.W.codeIn K mcd0 "Album._check_some" = true)
    (km0 : PySem.W.keepIn K (.ref fm0) = true)
    (am1 : PySem.W.findIn K (.ref C) "_check_stamp" = some (some (.ref fm1)))
    (im1 : PySem.W.isFn K (.ref fm1) = true)
    (lm1 : K.lookup fm1 = some ⟨moc1, mod1, .func (PySem.W.fnOf "_check_stamp" "Album._check_stamp" (defArgs st_Album__check_stamp) (defBody st_Album__check_stamp) (defScope st_Album__check_stamp) .none mkV1 mdc1 mpm1 man1 mcd1 mct1), msl1⟩)
    (cm1 : PySem.W.codeIn K mcd1 "Album._check_stamp" = true)
    (km1 : PySem.W.keepIn K (.ref fm1) = true)
    (am2 : PySem.W.findIn K (.ref C) "book" = some (some (.ref fm2)))
    (im2 : PySem.W.isFn K (.ref fm2) = true)
    (lm2 : K.lookup fm2 = some ⟨moc2, mod2, .func (PySem.W.fnOf "book" "Album.book" (defArgs st_Album_book) (defBody st_Album_book) (defScope st_Album_book) .none mkV2 mdc2 mpm2 man2 mcd2 mct2), msl2⟩)
    (cm2 : PySem.W.codeIn K mcd2 "Album.book" = true)
    (km2 : PySem.W.keepIn K (.ref fm2) = true)
    (am3 : PySem.W.findIn K (.ref C) "called" = some (some (.ref fm3)))
    (im3 : PySem.W.isFn K (.ref fm3) = true)
    (lm3 : K.lookup fm3 = some ⟨moc3, mod3, .func (PySem.W.fnOf "called" "Album.called" (defArgs st_Album_called) (defBody st_Album_called) (defScope st_Album_called) .none mkV3 mdc3 mpm3 man3 mcd3 mct3), msl3⟩)
    (cm3 : PySem.W.codeIn K mcd3 "Album.called" = true)
    (km3 : PySem.W.keepIn K (.ref fm3) = true)
    (am4 : PySem.W.findIn K (.ref C) "count_of" = some (some (.ref fm4)))
    (im4 : PySem.W.isFn K (.ref fm4) = true)
    (lm4 : K.lookup fm4 = some ⟨moc4, mod4, .func (PySem.W.fnOf "count_of" "Album.count_of" (defArgs st_Album_count_of) (defBody st_Album_count_of) (defScope st_Album_count_of) .none mkV4 mdc4 mpm4 man4 mcd4 mct4), msl4⟩)
    (cm4 : PySem.W.codeIn K mcd4 "Album.count_of" = true)
    (km4 : PySem.W.keepIn K (.ref fm4) = true)
    (am5 : PySem.W.findIn K (.ref C) "all_of" = some (some (.ref fm5)))
    (im5 : PySem.W.isFn K (.ref fm5) = true)
    (lm5 : K.lookup fm5 = some ⟨moc5, mod5, .func (PySem.W.fnOf "all_of" "Album.all_of" (defArgs st_Album_all_of) (defBody st_Album_all_of) (defScope st_Album_all_of) .none mkV5 mdc5 mpm5 man5 mcd5 mct5), msl5⟩)
    (cm5 : PySem.W.codeIn K mcd5 "Album.all_of" = true)
    (km5 : PySem.W.keepIn K (.ref fm5) = true)
    (am6 : PySem.W.findIn K (.ref C) "gaps" = some (some (.ref fm6)))
    (im6 : PySem.W.isFn K (.ref fm6) = true)
    (lm6 : K.lookup fm6 = some ⟨moc6, mod6, .func (PySem.W.fnOf "gaps" "Album.gaps" (defArgs st_Album_gaps) (defBody st_Album_gaps) (defScope st_Album_gaps) .none mkV6 mdc6 mpm6 man6 mcd6 mct6), msl6⟩)
    (cm6 : PySem.W.codeIn K mcd6 "Album.gaps" = true)
    (km6 : PySem.W.keepIn K (.ref fm6) = true)
    (am7 : PySem.W.findIn K (.ref C) "_fills" = some (some (.ref fm7)))
    (im7 : PySem.W.isFn K (.ref fm7) = true)
    (lm7 : K.lookup fm7 = some ⟨moc7, mod7, .func (PySem.W.fnOf "_fills" "Album._fills" (defArgs st_Album__fills) (defBody st_Album__fills) (defScope st_Album__fills) .none mkV7 mdc7 mpm7 man7 mcd7 mct7), msl7⟩)
    (cm7 : PySem.W.codeIn K mcd7 "Album._fills" = true)
    (km7 : PySem.W.keepIn K (.ref fm7) = true)
    (am8 : PySem.W.findIn K (.ref C) "twin" = some (some (.ref fm8)))
    (im8 : PySem.W.isFn K (.ref fm8) = true)
    (lm8 : K.lookup fm8 = some ⟨moc8, mod8, .func (PySem.W.fnOf "twin" "Album.twin" (defArgs st_Album_twin) (defBody st_Album_twin) (defScope st_Album_twin) .none mkV8 mdc8 mpm8 man8 mcd8 mct8), msl8⟩)
    (cm8 : PySem.W.codeIn K mcd8 "Album.twin" = true)
    (km8 : PySem.W.keepIn K (.ref fm8) = true)
    (am9 : PySem.W.findIn K (.ref C) "__eq__" = some (some (.ref fm9)))
    (im9 : PySem.W.isFn K (.ref fm9) = true)
    (lm9 : K.lookup fm9 = some ⟨moc9, mod9, .func (PySem.W.fnOf "__eq__" "Album.__eq__" (defArgs st_Album___eq__) (defBody st_Album___eq__) (defScope st_Album___eq__) .none mkV9 mdc9 mpm9 man9 mcd9 mct9), msl9⟩)
    (cm9 : PySem.W.codeIn K mcd9 "Album.__eq__" = true)
    (km9 : PySem.W.keepIn K (.ref fm9) = true)
    (am10 : PySem.W.findIn K (.ref C) "__init__" = some (some (.ref fm10)))
    (im10 : PySem.W.isFn K (.ref fm10) = true)
    (lm10 : K.lookup fm10 = some ⟨moc10, mod10, .func (PySem.W.fnOf "__init__" "Album.__init__" (defArgs st_Album___init__) (defBody st_Album___init__) (defScope st_Album___init__) (.ref TD10) mkV10 mdc10 mpm10 man10 mcd10 mct10), msl10⟩)
    (cm10 : PySem.W.codeIn K mcd10 "Album.__init__" = true)
    (km10 : PySem.W.keepIn K (.ref fm10) = true)
    (td10 : K.lookup TD10 = some ⟨mtoc10, mtod10, .seq #[.str Str.empty mt10_0, .none] mtn10, mtsl10⟩)
    (am11 : PySem.W.findIn K (.ref C) "put" = some (some (.ref fm11)))
    (im11 : PySem.W.isFn K (.ref fm11) = true)
    (lm11 : K.lookup fm11 = some ⟨moc11, mod11, .func (PySem.W.fnOf "put" "Album.put" (defArgs st_Album_put) (defBody st_Album_put) (defScope st_Album_put) (.ref TD11) mkV11 mdc11 mpm11 man11 mcd11 mct11), msl11⟩)
    (cm11 : PySem.W.codeIn K mcd11 "Album.put" = true)
    (km11 : PySem.W.keepIn K (.ref fm11) = true)
    (td11 : K.lookup TD11 = some ⟨mtoc11, mtod11, .seq #[.int 1 mt11_0] mtn11, mtsl11⟩)
    (am12 : PySem.W.findIn K (.ref C) "take" = some (some (.ref fm12)))
    (im12 : PySem.W.isFn K (.ref fm12) = true)
    (lm12 : K.lookup fm12 = some ⟨moc12, mod12, .func (PySem.W.fnOf "take" "Album.take" (defArgs st_Album_take) (defBody st_Album_take) (defScope st_Album_take) (.ref TD12) mkV12 mdc12 mpm12 man12 mcd12 mct12), msl12⟩)
    (cm12 : PySem.W.codeIn K mcd12 "Album.take" = true)
    (km12 : PySem.W.keepIn K (.ref fm12) = true)
    (td12 : K.lookup TD12 = some ⟨mtoc12, mtod12, .seq #[.int 1 mt12_0] mtn12, mtsl12⟩)
    (pg : PySem.W.plainGet K C Str.empty = true)
    (hdi : PySem.W.hasDictIn K C = true)
    (po : PySem.W.plainOver K C = true)
    (sa : PySem.W.findIn K (.ref C) "__setattr__" = some (some (.builtin "object.__setattr__")))
    (mk : PySem.W.makesIn K C = true)
    (kc : PySem.W.keepIn K (.ref C) = true)
    (eNe : PySem.W.findIn K (.ref C) "__ne__" = some (some (.builtin "object.__ne__")))
    (cCa : PySem.W.findIn K (.ref C) "__class__" = some (some (.builtin "object.__class__")))
    (cCn : PySem.W.specialIn K (.builtin "object.__class__") "__get__" = some (some (.builtin "getset_descriptor.__get__")))
    (cCt : PySem.W.takesIn K (.builtin "object.__class__") = some true)
    (cCm : PySem.W.mroIn K C (.type "object") = some true)
    (cKi : PySem.W.kitOne K (.ref C) (.ref C) = some true)
    (nB : PySem.W.findIn K (.ref C) "_book" = some none)
    (nN : PySem.W.findIn K (.ref C) "_name" = some none)
    (nM : PySem.W.findIn K (.ref C) "_many" = some none)
    (hH : PySem.W.nsIn K mainGlobals "HINGED" = some (some (.int 0 tH)))
    (hW : PySem.W.nsIn K mainGlobals "WHOLE" = some (some (.int 1 tW)))
    (z0 : PySem.W.nsIn K mainGlobals "len" = some none)
    (z1 : PySem.W.nsIn K mainGlobals "int" = some none)
    (z2 : PySem.W.nsIn K mainGlobals "range" = some none)
    (z3 : PySem.W.nsIn K mainGlobals "sorted" = some none)
    (z4 : PySem.W.nsIn K mainGlobals "tuple" = some none)
    (z5 : PySem.W.nsIn K mainGlobals "enumerate" = some none)
    (z6 : PySem.W.nsIn K mainGlobals "isinstance" = some none)
    (z7 : PySem.W.nsIn K mainGlobals "bool" = some none)
    (z8 : PySem.W.nsIn K mainGlobals "str" = some none)
    (z9 : PySem.W.nsIn K mainGlobals "all" = some none)
    (z10 : PySem.W.nsIn K mainGlobals "any" = some none)
    (z11 : PySem.W.nsIn K mainGlobals "zip" = some none)
    (z12 : PySem.W.nsIn K mainGlobals "max" = some none)
    (z13 : PySem.W.nsIn K mainGlobals "min" = some none)
    (z14 : PySem.W.nsIn K mainGlobals "list" = some none)
    (z15 : PySem.W.nsIn K mainGlobals "set" = some none)
    (z16 : PySem.W.nsIn K mainGlobals "sum" = some none)
    (z17 : PySem.W.nsIn K mainGlobals "repr" = some none)
    (z18 : PySem.W.nsIn K mainGlobals "dict" = some none)
    (z19 : PySem.W.nsIn K mainGlobals "divmod" = some none)
    (xxl : PySem.W.excIn K ex_l [.type "ValueError", .type "Exception", .type "BaseException", .type "object"] "ValueError.__new__" = true)
    (xgl : PySem.W.nsIn K mainGlobals "NoList" = some (some (.ref ex_l)))
    (xkl : PySem.W.keepIn K (.ref ex_l) = true)
    (xbl : PySem.W.subIn K (.ref ex_l) (.type "BaseException") = some true)
    (xtl : PySem.W.typeIn K (.ref ex_l) = some (.type "type"))
    (xxn : PySem.W.excIn K ex_n [.type "ValueError", .type "Exception", .type "BaseException", .type "object"] "ValueError.__new__" = true)
    (xgn : PySem.W.nsIn K mainGlobals "NoName" = some (some (.ref ex_n)))
    (xkn : PySem.W.keepIn K (.ref ex_n) = true)
    (xbn : PySem.W.subIn K (.ref ex_n) (.type "BaseException") = some true)
    (xtn : PySem.W.typeIn K (.ref ex_n) = some (.type "type"))
    (xxs : PySem.W.excIn K ex_s [.type "ValueError", .type "Exception", .type "BaseException", .type "object"] "ValueError.__new__" = true)
    (xgs : PySem.W.nsIn K mainGlobals "NoStamps" = some (some (.ref ex_s)))
    (xks : PySem.W.keepIn K (.ref ex_s) = true)
    (xbs : PySem.W.subIn K (.ref ex_s) (.type "BaseException") = some true)
    (xts : PySem.W.typeIn K (.ref ex_s) = some (.type "type"))
    (xxo : PySem.W.excIn K ex_o [.type "ValueError", .type "Exception", .type "BaseException", .type "object"] "ValueError.__new__" = true)
    (xgo : PySem.W.nsIn K mainGlobals "NoStamp" = some (some (.ref ex_o)))
    (xko : PySem.W.keepIn K (.ref ex_o) = true)
    (xbo : PySem.W.subIn K (.ref ex_o) (.type "BaseException") = some true)
    (xto : PySem.W.typeIn K (.ref ex_o) = some (.type "type"))
    (xxp : PySem.W.excIn K ex_p [.type "ValueError", .type "Exception", .type "BaseException", .type "object"] "ValueError.__new__" = true)
    (xgp : PySem.W.nsIn K mainGlobals "NoSets" = some (some (.ref ex_p)))
    (xkp : PySem.W.keepIn K (.ref ex_p) = true)
    (xbp : PySem.W.subIn K (.ref ex_p) (.type "BaseException") = some true)
    (xtp : PySem.W.typeIn K (.ref ex_p) = some (.type "type"))
    (xxq : PySem.W.excIn K ex_q [.type "ValueError", .type "Exception", .type "BaseException", .type "object"] "ValueError.__new__" = true)
    (xgq : PySem.W.nsIn K mainGlobals "NoSet" = some (some (.ref ex_q)))
    (xkq : PySem.W.keepIn K (.ref ex_q) = true)
    (xbq : PySem.W.subIn K (.ref ex_q) (.type "BaseException") = some true)
    (xtq : PySem.W.typeIn K (.ref ex_q) = some (.type "type"))
    (xxr : PySem.W.excIn K ex_r [.type "ValueError", .type "Exception", .type "BaseException", .type "object"] "ValueError.__new__" = true)
    (xgr : PySem.W.nsIn K mainGlobals "NoNumber" = some (some (.ref ex_r)))
    (xkr : PySem.W.keepIn K (.ref ex_r) = true)
    (xbr : PySem.W.subIn K (.ref ex_r) (.type "BaseException") = some true)
    (xtr : PySem.W.typeIn K (.ref ex_r) = some (.type "type"))
    (xmll : PySem.W.exmOne K (.ref ex_l) (.ref ex_l) = some true)
    (xmnl : PySem.W.exmOne K (.ref ex_n) (.ref ex_l) = some false)
    (xmnn : PySem.W.exmOne K (.ref ex_n) (.ref ex_n) = some true)
    (xmsl : PySem.W.exmOne K (.ref ex_s) (.ref ex_l) = some false)
    (xmsn : PySem.W.exmOne K (.ref ex_s) (.ref ex_n) = some false)
    (xmss : PySem.W.exmOne K (.ref ex_s) (.ref ex_s) = some true)
    (xmol : PySem.W.exmOne K (.ref ex_o) (.ref ex_l) = some false)
    (xmon : PySem.W.exmOne K (.ref ex_o) (.ref ex_n) = some false)
    (xmos : PySem.W.exmOne K (.ref ex_o) (.ref ex_s) = some false)
    (xmoo : PySem.W.exmOne K (.ref ex_o) (.ref ex_o) = some true)
    (xmpl : PySem.W.exmOne K (.ref ex_p) (.ref ex_l) = some false)
    (xmpn : PySem.W.exmOne K (.ref ex_p) (.ref ex_n) = some false)
    (xmps : PySem.W.exmOne K (.ref ex_p) (.ref ex_s) = some false)
    (xmpo : PySem.W.exmOne K (.ref ex_p) (.ref ex_o) = some false)
    (xmpp : PySem.W.exmOne K (.ref ex_p) (.ref ex_p) = some true)
    (xmql : PySem.W.exmOne K (.ref ex_q) (.ref ex_l) = some false)
    (xmqn : PySem.W.exmOne K (.ref ex_q) (.ref ex_n) = some false)
    (xmqs : PySem.W.exmOne K (.ref ex_q) (.ref ex_s) = some false)
    (xmqo : PySem.W.exmOne K (.ref ex_q) (.ref ex_o) = some false)
    (xmqp : PySem.W.exmOne K (.ref ex_q) (.ref ex_p) = some false)
    (xmqq : PySem.W.exmOne K (.ref ex_q) (.ref ex_q) = some true)
    (xmrl : PySem.W.exmOne K (.ref ex_r) (.ref ex_l) = some false)
    (xmrn : PySem.W.exmOne K (.ref ex_r) (.ref ex_n) = some false)
    (xmrs : PySem.W.exmOne K (.ref ex_r) (.ref ex_s) = some false)
    (xmro : PySem.W.exmOne K (.ref ex_r) (.ref ex_o) = some false)
    (xmrp : PySem.W.exmOne K (.ref ex_r) (.ref ex_p) = some false)
    (xmrq : PySem.W.exmOne K (.ref ex_r) (.ref ex_q) = some false)
    (xmrr : PySem.W.exmOne K (.ref ex_r) (.ref ex_r) = some true)
    (xgh : PySem.W.nsIn K mainGlobals "Short" = some (some (.ref ex_h)))
    (xmlh : PySem.W.exmOne K (.ref ex_l) (.ref ex_h) = some false)
    (xmnh : PySem.W.exmOne K (.ref ex_n) (.ref ex_h) = some false)
    (xmsh : PySem.W.exmOne K (.ref ex_s) (.ref ex_h) = some false)
    (xmoh : PySem.W.exmOne K (.ref ex_o) (.ref ex_h) = some false)
    (xmph : PySem.W.exmOne K (.ref ex_p) (.ref ex_h) = some false)
    (xmqh : PySem.W.exmOne K (.ref ex_q) (.ref ex_h) = some false)
    (xmrh : PySem.W.exmOne K (.ref ex_r) (.ref ex_h) = some false)
    (hPT : h.get? PT = some { cls := .none, data := .fields #[] })
    (nPT : K.lookup PT = none)
    (cPT : PySem.W.codeHdIn K code PT = true)
    : LamX.LawAtS l w K CX0 14 63 "_law_script" mg fa h := by
  have e := hfa.symm.trans (PySem.W.mg_of X G a30)
  cases e
  have F0 := fun_mk (st := st_in_figures) l0 c0 k0
  have F1 := fun_mk (st := st_list_words) l1 c1 k1
  have F2 := fun_mk (st := st_stamp_row) l2 c2 k2
  have F3 := fun_mk (st := st_album_rows) l3 c3 k3
  have F4 := fun_mk (st := st_is_whole) l4 c4 k4
  have F5 := fun_mk (st := st_is_whole_from) l5 c5 k5
  have F6 := fun_mk (st := st_is_whole_within) l6 c6 k6
  have F7 := fun_mk (st := st_is_letters) l7 c7 k7
  have F8 := fun_mk (st := st_is_tuple) l8 c8 k8
  have F9 := fun_mk (st := st_is_rising) l9 c9 k9
  have F10 := fun_mk (st := st_is_rising_within) l10 c10 k10
  have F11 := fun_mk (st := st_is_year) l11 c11 k11
  have F12 := fun_mk (st := st_is_set) l12 c12 k12
  have F13 := fun_mk (st := st_is_list) l13 c13 k13
  have F14 := fun_mk (st := st_is_set_number) l14 c14 k14
  have F15 := fun_mk (st := st_is_place) l15 c15 k15
  have F16 := fun_mk (st := st_is_stamp) l16 c16 k16
  have F17 := fun_mk (st := st_is_stamps) l17 c17 k17
  have F18 := fun_mk (st := st_filled) l18 c18 k18
  have F19 := fun_mk (st := st_parted) l19 c19 k19
  have F20 := fun_mk (st := st__law_cell_at) l20 c20 k20
  have F21 := fun_mk (st := st__law_pen) l21 c21 k21
  have F22 := fun_mk (st := st__law_draw) l22 c22 k22
  have F23 := fun_mk (st := st__law_list) l23 c23 k23
  have F24 := fun_mk (st := st__law_places) l24 c24 k24
  have F25 := fun_mk (st := st__law_stamps) l25 c25 k25
  have F26 := fun_mk (st := st__law_thing) l26 c26 k26
  have F27 := fun_mk (st := st__law_spoilt) l27 c27 k27
  have F28 := fun_mk (st := st__law_word) l28 c28 k28
  have F29 := fun_mk (st := st__law_are_sets) l29 c29 k29
  have F30 := fun_mk (st := st_law) l30 c30 k30
  have FM0 := fun_mk (st := st_Album__check_some) lm0 cm0 km0
  have FM1 := fun_mk (st := st_Album__check_stamp) lm1 cm1 km1
  have FM2 := fun_mk (st := st_Album_book) lm2 cm2 km2
  have FM3 := fun_mk (st := st_Album_called) lm3 cm3 km3
  have FM4 := fun_mk (st := st_Album_count_of) lm4 cm4 km4
  have FM5 := fun_mk (st := st_Album_all_of) lm5 cm5 km5
  have FM6 := fun_mk (st := st_Album_gaps) lm6 cm6 km6
  have FM7 := fun_mk (st := st_Album__fills) lm7 cm7 km7
  have FM8 := fun_mk (st := st_Album_twin) lm8 cm8 km8
  have FM9 := fun_mk (st := st_Album___eq__) lm9 cm9 km9
  let ad : Nat → Addr := fun i => ([f0, f1, f2, f3, f4, f5, f6, f7, f8, f9, f10, f11, f12, f13, f14, f15, f16, f17, f18, f19, f20, f21, f22, f23, f24, f25, f26, f27, f28, f29, fa] : List Addr).getD i f0
  let fd : Nat → FuncData := fun i => ([PySem.W.fnOf "in_figures" "in_figures" (defArgs st_in_figures) (defBody st_in_figures) (defScope st_in_figures) .none kV0 dc0 pm0 an0 cd0 ct0, PySem.W.fnOf "list_words" "list_words" (defArgs st_list_words) (defBody st_list_words) (defScope st_list_words) .none kV1 dc1 pm1 an1 cd1 ct1, PySem.W.fnOf "stamp_row" "stamp_row" (defArgs st_stamp_row) (defBody st_stamp_row) (defScope st_stamp_row) .none kV2 dc2 pm2 an2 cd2 ct2, PySem.W.fnOf "album_rows" "album_rows" (defArgs st_album_rows) (defBody st_album_rows) (defScope st_album_rows) .none kV3 dc3 pm3 an3 cd3 ct3, PySem.W.fnOf "is_whole" "is_whole" (defArgs st_is_whole) (defBody st_is_whole) (defScope st_is_whole) .none kV4 dc4 pm4 an4 cd4 ct4, PySem.W.fnOf "is_whole_from" "is_whole_from" (defArgs st_is_whole_from) (defBody st_is_whole_from) (defScope st_is_whole_from) .none kV5 dc5 pm5 an5 cd5 ct5, PySem.W.fnOf "is_whole_within" "is_whole_within" (defArgs st_is_whole_within) (defBody st_is_whole_within) (defScope st_is_whole_within) .none kV6 dc6 pm6 an6 cd6 ct6, PySem.W.fnOf "is_letters" "is_letters" (defArgs st_is_letters) (defBody st_is_letters) (defScope st_is_letters) .none kV7 dc7 pm7 an7 cd7 ct7, PySem.W.fnOf "is_tuple" "is_tuple" (defArgs st_is_tuple) (defBody st_is_tuple) (defScope st_is_tuple) .none kV8 dc8 pm8 an8 cd8 ct8, PySem.W.fnOf "is_rising" "is_rising" (defArgs st_is_rising) (defBody st_is_rising) (defScope st_is_rising) .none kV9 dc9 pm9 an9 cd9 ct9, PySem.W.fnOf "is_rising_within" "is_rising_within" (defArgs st_is_rising_within) (defBody st_is_rising_within) (defScope st_is_rising_within) .none kV10 dc10 pm10 an10 cd10 ct10, PySem.W.fnOf "is_year" "is_year" (defArgs st_is_year) (defBody st_is_year) (defScope st_is_year) .none kV11 dc11 pm11 an11 cd11 ct11, PySem.W.fnOf "is_set" "is_set" (defArgs st_is_set) (defBody st_is_set) (defScope st_is_set) .none kV12 dc12 pm12 an12 cd12 ct12, PySem.W.fnOf "is_list" "is_list" (defArgs st_is_list) (defBody st_is_list) (defScope st_is_list) .none kV13 dc13 pm13 an13 cd13 ct13, PySem.W.fnOf "is_set_number" "is_set_number" (defArgs st_is_set_number) (defBody st_is_set_number) (defScope st_is_set_number) .none kV14 dc14 pm14 an14 cd14 ct14, PySem.W.fnOf "is_place" "is_place" (defArgs st_is_place) (defBody st_is_place) (defScope st_is_place) .none kV15 dc15 pm15 an15 cd15 ct15, PySem.W.fnOf "is_stamp" "is_stamp" (defArgs st_is_stamp) (defBody st_is_stamp) (defScope st_is_stamp) .none kV16 dc16 pm16 an16 cd16 ct16, PySem.W.fnOf "is_stamps" "is_stamps" (defArgs st_is_stamps) (defBody st_is_stamps) (defScope st_is_stamps) .none kV17 dc17 pm17 an17 cd17 ct17, PySem.W.fnOf "filled" "filled" (defArgs st_filled) (defBody st_filled) (defScope st_filled) .none kV18 dc18 pm18 an18 cd18 ct18, PySem.W.fnOf "parted" "parted" (defArgs st_parted) (defBody st_parted) (defScope st_parted) .none kV19 dc19 pm19 an19 cd19 ct19, PySem.W.fnOf "_law_cell_at" "_law_cell_at" (defArgs st__law_cell_at) (defBody st__law_cell_at) (defScope st__law_cell_at) .none kV20 dc20 pm20 an20 cd20 ct20, PySem.W.fnOf "_law_pen" "_law_pen" (defArgs st__law_pen) (defBody st__law_pen) (defScope st__law_pen) .none kV21 dc21 pm21 an21 cd21 ct21, PySem.W.fnOf "_law_draw" "_law_draw" (defArgs st__law_draw) (defBody st__law_draw) (defScope st__law_draw) .none kV22 dc22 pm22 an22 cd22 ct22, PySem.W.fnOf "_law_list" "_law_list" (defArgs st__law_list) (defBody st__law_list) (defScope st__law_list) .none kV23 dc23 pm23 an23 cd23 ct23, PySem.W.fnOf "_law_places" "_law_places" (defArgs st__law_places) (defBody st__law_places) (defScope st__law_places) .none kV24 dc24 pm24 an24 cd24 ct24, PySem.W.fnOf "_law_stamps" "_law_stamps" (defArgs st__law_stamps) (defBody st__law_stamps) (defScope st__law_stamps) .none kV25 dc25 pm25 an25 cd25 ct25, PySem.W.fnOf "_law_thing" "_law_thing" (defArgs st__law_thing) (defBody st__law_thing) (defScope st__law_thing) .none kV26 dc26 pm26 an26 cd26 ct26, PySem.W.fnOf "_law_spoilt" "_law_spoilt" (defArgs st__law_spoilt) (defBody st__law_spoilt) (defScope st__law_spoilt) .none kV27 dc27 pm27 an27 cd27 ct27, PySem.W.fnOf "_law_word" "_law_word" (defArgs st__law_word) (defBody st__law_word) (defScope st__law_word) .none kV28 dc28 pm28 an28 cd28 ct28, PySem.W.fnOf "_law_are_sets" "_law_are_sets" (defArgs st__law_are_sets) (defBody st__law_are_sets) (defScope st__law_are_sets) .none kV29 dc29 pm29 an29 cd29 ct29, PySem.W.fnOf "law" "law" (defArgs st_law) (defBody st_law) (defScope st_law) .none kV30 dc30 pm30 an30 (.ref code) ct30] : List FuncData).getD i (PySem.W.fnOf "law" "law" (defArgs st_law) (defBody st_law) (defScope st_law) .none kV30 dc30 pm30 an30 (.ref code) ct30)
  let am : Nat → Addr := fun i => ([fm0, fm1, fm2, fm3, fm4, fm5, fm6, fm7, fm8, fm9, fm10, fm11, fm12] : List Addr).getD i fm0
  let fm : Nat → FuncData := fun i => ([PySem.W.fnOf "_check_some" "Album._check_some" (defArgs st_Album__check_some) (defBody st_Album__check_some) (defScope st_Album__check_some) .none mkV0 mdc0 mpm0 man0 mcd0 mct0, PySem.W.fnOf "_check_stamp" "Album._check_stamp" (defArgs st_Album__check_stamp) (defBody st_Album__check_stamp) (defScope st_Album__check_stamp) .none mkV1 mdc1 mpm1 man1 mcd1 mct1, PySem.W.fnOf "book" "Album.book" (defArgs st_Album_book) (defBody st_Album_book) (defScope st_Album_book) .none mkV2 mdc2 mpm2 man2 mcd2 mct2, PySem.W.fnOf "called" "Album.called" (defArgs st_Album_called) (defBody st_Album_called) (defScope st_Album_called) .none mkV3 mdc3 mpm3 man3 mcd3 mct3, PySem.W.fnOf "count_of" "Album.count_of" (defArgs st_Album_count_of) (defBody st_Album_count_of) (defScope st_Album_count_of) .none mkV4 mdc4 mpm4 man4 mcd4 mct4, PySem.W.fnOf "all_of" "Album.all_of" (defArgs st_Album_all_of) (defBody st_Album_all_of) (defScope st_Album_all_of) .none mkV5 mdc5 mpm5 man5 mcd5 mct5, PySem.W.fnOf "gaps" "Album.gaps" (defArgs st_Album_gaps) (defBody st_Album_gaps) (defScope st_Album_gaps) .none mkV6 mdc6 mpm6 man6 mcd6 mct6, PySem.W.fnOf "_fills" "Album._fills" (defArgs st_Album__fills) (defBody st_Album__fills) (defScope st_Album__fills) .none mkV7 mdc7 mpm7 man7 mcd7 mct7, PySem.W.fnOf "twin" "Album.twin" (defArgs st_Album_twin) (defBody st_Album_twin) (defScope st_Album_twin) .none mkV8 mdc8 mpm8 man8 mcd8 mct8, PySem.W.fnOf "__eq__" "Album.__eq__" (defArgs st_Album___eq__) (defBody st_Album___eq__) (defScope st_Album___eq__) .none mkV9 mdc9 mpm9 man9 mcd9 mct9, PySem.W.fnOf "__init__" "Album.__init__" (defArgs st_Album___init__) (defBody st_Album___init__) (defScope st_Album___init__) (.ref TD10) mkV10 mdc10 mpm10 man10 mcd10 mct10, PySem.W.fnOf "put" "Album.put" (defArgs st_Album_put) (defBody st_Album_put) (defScope st_Album_put) (.ref TD11) mkV11 mdc11 mpm11 man11 mcd11 mct11, PySem.W.fnOf "take" "Album.take" (defArgs st_Album_take) (defBody st_Album_take) (defScope st_Album_take) (.ref TD12) mkV12 mdc12 mpm12 man12 mcd12 mct12] : List FuncData).getD i (PySem.W.fnOf "law" "law" (defArgs st_law) (defBody st_law) (defScope st_law) .none kV30 dc30 pm30 an30 (.ref code) ct30)
  letI : HasT K := ⟨[(PT, qR fa code)]⟩
  have T : Txt K mg ad fd := by
    refine ⟨fun i hi => ?_, fun i hi => ?_, fun i hi => ?_, fun i hi => ?_⟩
    · match i, hi with
      | 0, _ => exact PySem.W.mg_none_of X G z0
      | 1, _ => exact PySem.W.mg_none_of X G z1
      | 2, _ => exact PySem.W.mg_none_of X G z2
      | 3, _ => exact PySem.W.mg_none_of X G z3
      | 4, _ => exact PySem.W.mg_none_of X G z4
      | 5, _ => exact PySem.W.mg_none_of X G z5
      | 6, _ => exact PySem.W.mg_none_of X G z6
      | 7, _ => exact PySem.W.mg_none_of X G z7
      | 8, _ => exact PySem.W.mg_none_of X G z8
      | 9, _ => exact PySem.W.mg_none_of X G z9
      | 10, _ => exact PySem.W.mg_none_of X G z10
      | 11, _ => exact PySem.W.mg_none_of X G z11
      | 12, _ => exact PySem.W.mg_none_of X G z12
      | 13, _ => exact PySem.W.mg_none_of X G z13
      | 14, _ => exact PySem.W.mg_none_of X G z14
      | 15, _ => exact PySem.W.mg_none_of X G z15
      | 16, _ => exact PySem.W.mg_none_of X G z16
      | 17, _ => exact PySem.W.mg_none_of X G z17
      | 18, _ => exact PySem.W.mg_none_of X G z18
      | 19, _ => exact PySem.W.mg_none_of X G z19
      | i + 20, h => exact absurd h (by omega)
    · match i, hi with
      | 0, _ => exact PySem.W.mg_of X G a0
      | 1, _ => exact PySem.W.mg_of X G a1
      | 2, _ => exact PySem.W.mg_of X G a2
      | 3, _ => exact PySem.W.mg_of X G a3
      | 4, _ => exact PySem.W.mg_of X G a4
      | 5, _ => exact PySem.W.mg_of X G a5
      | 6, _ => exact PySem.W.mg_of X G a6
      | 7, _ => exact PySem.W.mg_of X G a7
      | 8, _ => exact PySem.W.mg_of X G a8
      | 9, _ => exact PySem.W.mg_of X G a9
      | 10, _ => exact PySem.W.mg_of X G a10
      | 11, _ => exact PySem.W.mg_of X G a11
      | 12, _ => exact PySem.W.mg_of X G a12
      | 13, _ => exact PySem.W.mg_of X G a13
      | 14, _ => exact PySem.W.mg_of X G a14
      | 15, _ => exact PySem.W.mg_of X G a15
      | 16, _ => exact PySem.W.mg_of X G a16
      | 17, _ => exact PySem.W.mg_of X G a17
      | 18, _ => exact PySem.W.mg_of X G a18
      | 19, _ => exact PySem.W.mg_of X G a19
      | 20, _ => exact PySem.W.mg_of X G a20
      | 21, _ => exact PySem.W.mg_of X G a21
      | 22, _ => exact PySem.W.mg_of X G a22
      | 23, _ => exact PySem.W.mg_of X G a23
      | 24, _ => exact PySem.W.mg_of X G a24
      | 25, _ => exact PySem.W.mg_of X G a25
      | 26, _ => exact PySem.W.mg_of X G a26
      | 27, _ => exact PySem.W.mg_of X G a27
      | 28, _ => exact PySem.W.mg_of X G a28
      | 29, _ => exact PySem.W.mg_of X G a29
      | 30, _ => exact PySem.W.mg_of X G a30
      | i + 31, h => exact absurd h (by omega)
    · match i, hi with
      | 0, _ => exact k0
      | 1, _ => exact k1
      | 2, _ => exact k2
      | 3, _ => exact k3
      | 4, _ => exact k4
      | 5, _ => exact k5
      | 6, _ => exact k6
      | 7, _ => exact k7
      | 8, _ => exact k8
      | 9, _ => exact k9
      | 10, _ => exact k10
      | 11, _ => exact k11
      | 12, _ => exact k12
      | 13, _ => exact k13
      | 14, _ => exact k14
      | 15, _ => exact k15
      | 16, _ => exact k16
      | 17, _ => exact k17
      | 18, _ => exact k18
      | 19, _ => exact k19
      | 20, _ => exact k20
      | 21, _ => exact k21
      | 22, _ => exact k22
      | 23, _ => exact k23
      | 24, _ => exact k24
      | 25, _ => exact k25
      | 26, _ => exact k26
      | 27, _ => exact k27
      | 28, _ => exact k28
      | 29, _ => exact k29
      | 30, _ => exact k30
      | i + 31, h => exact absurd h (by omega)
    · match i, hi with
      | 0, _ => exact F0
      | 1, _ => exact F1
      | 2, _ => exact F2
      | 3, _ => exact F3
      | 4, _ => exact F4
      | 5, _ => exact F5
      | 6, _ => exact F6
      | 7, _ => exact F7
      | 8, _ => exact F8
      | 9, _ => exact F9
      | 10, _ => exact F10
      | 11, _ => exact F11
      | 12, _ => exact F12
      | 13, _ => exact F13
      | 14, _ => exact F14
      | 15, _ => exact F15
      | 16, _ => exact F16
      | 17, _ => exact F17
      | 18, _ => exact F18
      | 19, _ => exact F19
      | 20, _ => exact F20
      | 21, _ => exact F21
      | 22, _ => exact F22
      | 23, _ => exact F23
      | 24, _ => exact F24
      | 25, _ => exact F25
      | 26, _ => exact F26
      | 27, _ => exact F27
      | 28, _ => exact F28
      | 29, _ => exact F29
      | 30, _ => exact F30
      | i + 31, h => exact absurd h (by omega)
  have TM : TxtM K mg C am fm := by
    refine ⟨⟨pg, hdi, po, sa⟩, nB, nN, nM, PySem.W.mg_of X G aAlb, ⟨mk, am10, im10, kc⟩, fun i hi => ?_, fun i hi => ?_, ⟨⟨_, _, _, _, _, _, _, _, _, _, rfl, lm10, cm10, .inr ⟨by simp, TD10, _, [.str Str.empty mt10_0, .none], mtn10, rfl, td10, rfl, .cons ⟨_, rfl⟩ (.cons rfl .nil)⟩, .inl rfl⟩, km10⟩, ⟨⟨_, _, _, _, _, _, _, _, _, _, rfl, lm11, cm11, .inr ⟨by simp, TD11, _, [.int 1 mt11_0], mtn11, rfl, td11, rfl, .cons ⟨_, rfl⟩ .nil⟩, .inl rfl⟩, km11⟩, ⟨⟨_, _, _, _, _, _, _, _, _, _, rfl, lm12, cm12, .inr ⟨by simp, TD12, _, [.int 1 mt12_0], mtn12, rfl, td12, rfl, .cons ⟨_, rfl⟩ .nil⟩, .inl rfl⟩, km12⟩, ⟨am9, im9, eNe, cCm⟩, ⟨⟨pg, hdi, po, sa⟩, cCa, cCn, cCt, cCm, cKi⟩⟩
    · match i, hi with
      | 0, _ => exact ⟨am0, im0, km0⟩
      | 1, _ => exact ⟨am1, im1, km1⟩
      | 2, _ => exact ⟨am2, im2, km2⟩
      | 3, _ => exact ⟨am3, im3, km3⟩
      | 4, _ => exact ⟨am4, im4, km4⟩
      | 5, _ => exact ⟨am5, im5, km5⟩
      | 6, _ => exact ⟨am6, im6, km6⟩
      | 7, _ => exact ⟨am7, im7, km7⟩
      | 8, _ => exact ⟨am8, im8, km8⟩
      | 9, _ => exact ⟨am9, im9, km9⟩
      | 10, _ => exact ⟨am10, im10, km10⟩
      | 11, _ => exact ⟨am11, im11, km11⟩
      | 12, _ => exact ⟨am12, im12, km12⟩
      | i + 13, h => exact absurd h (by omega)
    · match i, hi with
      | 0, _ => exact FM0
      | 1, _ => exact FM1
      | 2, _ => exact FM2
      | 3, _ => exact FM3
      | 4, _ => exact FM4
      | 5, _ => exact FM5
      | 6, _ => exact FM6
      | 7, _ => exact FM7
      | 8, _ => exact FM8
      | 9, _ => exact FM9
      | i + 10, h => exact absurd h (by omega)
  have TG : TxtG mg := ⟨⟨_, PySem.W.mg_of X G hH⟩, ⟨_, PySem.W.mg_of X G hW⟩⟩
  have TE : TxtE K mg ⟨ex_l, ex_n, ex_s, ex_o, ex_p, ex_q, ex_r, ex_h⟩ := ⟨⟨xxl, PySem.W.mg_of X G xgl, xkl, xbl, xtl⟩, ⟨xxn, PySem.W.mg_of X G xgn, xkn, xbn, xtn⟩, ⟨xxs, PySem.W.mg_of X G xgs, xks, xbs, xts⟩, ⟨xxo, PySem.W.mg_of X G xgo, xko, xbo, xto⟩, ⟨xxp, PySem.W.mg_of X G xgp, xkp, xbp, xtp⟩, ⟨xxq, PySem.W.mg_of X G xgq, xkq, xbq, xtq⟩, ⟨xxr, PySem.W.mg_of X G xgr, xkr, xbr, xtr⟩, xmll, xmnl, xmnn, xmsl, xmsn, xmss, xmol, xmon, xmos, xmoo, xmpl, xmpn, xmps, xmpo, xmpp, xmql, xmqn, xmqs, xmqo, xmqp, xmqq, xmrl, xmrn, xmrs, xmro, xmrp, xmrq, xmrr, PySem.W.mg_of X G xgh, xmlh, xmnh, xmsh, xmoh, xmph, xmqh, xmrh⟩
  refine ⟨PySem.W.fnOf "law" "law" (defArgs st_law) (defBody st_law) (defScope st_law) .none kV30 dc30 pm30 an30 (.ref code) ct30, [(code, PT)], spLaw K, ?_, ?_, ?_, fun s v => .of_eq rfl, ?_, ?_⟩
  · intro p hp
    rw [List.mem_singleton.mp hp]
    exact hPT
  · intro p hp
    rw [List.mem_singleton.mp hp]
    exact nPT
  · intro p hp
    rw [List.mem_singleton.mp hp]
    exact PySem.W.codeHd_of_K X cPT
  · intro H a ns hl _ hT hS
    exact ⟨a, ns, rfl, TbOk.start fun p (hp : p ∈ [(PT, qR fa code)]) => by rw [List.mem_singleton.mp hp]; exact hT (code, PT) (List.mem_singleton.mpr rfl), hS, hl, fun _ => rfl⟩
  intro base _ _ hTB
  have TL : TxtL K mg base (ad 30) (fd 30) code PT := ⟨⟨⟨_, _, _, _, _, _, _, _, rfl, l30, c30⟩⟩, hTB (code, PT) (List.mem_singleton.mpr rfl), (show (PT, qR fa code) ∈ [(PT, qR fa code)] from List.mem_singleton.mpr rfl), fun p (hp : p ∈ [(PT, qR fa code)]) _ => (congrArg Prod.snd (List.mem_singleton.mp hp) : _)⟩
  exact ok_law (P := l.prog) (w := w) (base := base) (mg := mg) T TM TG TE TL
theorem walk {l : PySem.W.OpenLaw} {q : Program} {loose : List Str} {XP : (Str → Option Value) → Heap → Prop} {YP : World → Heap → Prop} {d : DefRec} {K : Params → PySem.W.Frag} (hn : l.most = some 63) (hdf : d.params.defaults = [])
    (hY : ∀ (w : World) (h : Heap), YP w h → (K w.params).In h)
    (F : ∀ (w : World) (mg : Str → Option Value) (fa : Addr) (h : Heap), YP w h → (K w.params).In h → h.Ns mainGlobals mg → mg d.name = some (.ref fa) → LamX.LawAtS l w (K w.params) CX0 14 63 "_law_script" mg fa h) :
    PySem.W.WalkO q loose XP YP l.row.toRowW d [] (fun f vs => PySem.call f vs) :=
  LamX.walk_ofTs (n := 63) (k := 14) (x := "_law_script") (CX := fun _ => CX0) hn (by decide) hdf ⟨rfl, by decide, by decide⟩ hY F fun _ _ _ _ _ z => z
end Dl

set_option Elab.async false
open PySem PySem.W PyProof.Rows
set_option maxRecDepth 100000 in
set_option maxHeartbeats 0 in
theorem PySem.Challenge.cw_hingemount_k11_albums_refused_holds : PySem.Challenge.rw_hingemount_k11_albums_refused.Holds := by
  w_on; o_law; k_head; (case hw => w_witness2)
  k_fill
  refine Dl.walk (l := PySem.Challenge.rw_hingemount_k11_albums_refused) rfl rfl (fun w h Y => PySem.W.km_in_of Y) ?F
  case F =>
    intro w mg fa h Y KX G hmg
    refine' Dl.all_mk KX G hmg ?a0 ?l0 ?c0 ?k0 ?a1 ?l1 ?c1 ?k1 ?a2 ?l2 ?c2 ?k2 ?a3 ?l3 ?c3 ?k3 ?a4 ?l4 ?c4 ?k4 ?a5 ?l5 ?c5 ?k5 ?a6 ?l6 ?c6 ?k6 ?a7 ?l7 ?c7 ?k7 ?a8 ?l8 ?c8 ?k8 ?a9 ?l9 ?c9 ?k9 ?a10 ?l10 ?c10 ?k10 ?a11 ?l11 ?c11 ?k11 ?a12 ?l12 ?c12 ?k12 ?a13 ?l13 ?c13 ?k13 ?a14 ?l14 ?c14 ?k14 ?a15 ?l15 ?c15 ?k15 ?a16 ?l16 ?c16 ?k16 ?a17 ?l17 ?c17 ?k17 ?a18 ?l18 ?c18 ?k18 ?a19 ?l19 ?c19 ?k19 ?a20 ?l20 ?c20 ?k20 ?a21 ?l21 ?c21 ?k21 ?a22 ?l22 ?c22 ?k22 ?a23 ?l23 ?c23 ?k23 ?a24 ?l24 ?c24 ?k24 ?a25 ?l25 ?c25 ?k25 ?a26 ?l26 ?c26 ?k26 ?a27 ?l27 ?c27 ?k27 ?a28 ?l28 ?c28 ?k28 ?a29 ?l29 ?c29 ?k29 ?a30 ?l30 ?c30 ?k30 ?aAlb ?am0 ?im0 ?lm0 ?cm0 ?km0 ?am1 ?im1 ?lm1 ?cm1 ?km1 ?am2 ?im2 ?lm2 ?cm2 ?km2 ?am3 ?im3 ?lm3 ?cm3 ?km3 ?am4 ?im4 ?lm4 ?cm4 ?km4 ?am5 ?im5 ?lm5 ?cm5 ?km5 ?am6 ?im6 ?lm6 ?cm6 ?km6 ?am7 ?im7 ?lm7 ?cm7 ?km7 ?am8 ?im8 ?lm8 ?cm8 ?km8 ?am9 ?im9 ?lm9 ?cm9 ?km9 ?am10 ?im10 ?lm10 ?cm10 ?km10 ?td10 ?am11 ?im11 ?lm11 ?cm11 ?km11 ?td11 ?am12 ?im12 ?lm12 ?cm12 ?km12 ?td12 ?pg ?hdi ?po ?sa ?mk ?kc ?eNe ?cCa ?cCn ?cCt ?cCm ?cKi ?nB ?nN ?nM ?hH ?hW ?z0 ?z1 ?z2 ?z3 ?z4 ?z5 ?z6 ?z7 ?z8 ?z9 ?z10 ?z11 ?z12 ?z13 ?z14 ?z15 ?z16 ?z17 ?z18 ?z19 ?xxl ?xgl ?xkl ?xbl ?xtl ?xxn ?xgn ?xkn ?xbn ?xtn ?xxs ?xgs ?xks ?xbs ?xts ?xxo ?xgo ?xko ?xbo ?xto ?xxp ?xgp ?xkp ?xbp ?xtp ?xxq ?xgq ?xkq ?xbq ?xtq ?xxr ?xgr ?xkr ?xbr ?xtr ?xmll ?xmnl ?xmnn ?xmsl ?xmsn ?xmss ?xmol ?xmon ?xmos ?xmoo ?xmpl ?xmpn ?xmps ?xmpo ?xmpp ?xmql ?xmqn ?xmqs ?xmqo ?xmqp ?xmqq ?xmrl ?xmrn ?xmrs ?xmro ?xmrp ?xmrq ?xmrr ?xgh ?xmlh ?xmnh ?xmsh ?xmoh ?xmph ?xmqh ?xmrh ?hPT ?nPT ?cPT
    (case a0 => k_is)
    (case l0 => k_is)
    (case c0 => k_is)
    (case k0 => k_is)
    (case a1 => k_is)
    (case l1 => k_is)
    (case c1 => k_is)
    (case k1 => k_is)
    (case a2 => k_is)
    (case l2 => k_is)
    (case c2 => k_is)
    (case k2 => k_is)
    (case a3 => k_is)
    (case l3 => k_is)
    (case c3 => k_is)
    (case k3 => k_is)
    (case a4 => k_is)
    (case l4 => k_is)
    (case c4 => k_is)
    (case k4 => k_is)
    (case a5 => k_is)
    (case l5 => k_is)
    (case c5 => k_is)
    (case k5 => k_is)
    (case a6 => k_is)
    (case l6 => k_is)
    (case c6 => k_is)
    (case k6 => k_is)
    (case a7 => k_is)
    (case l7 => k_is)
    (case c7 => k_is)
    (case k7 => k_is)
    (case a8 => k_is)
    (case l8 => k_is)
    (case c8 => k_is)
    (case k8 => k_is)
    (case a9 => k_is)
    (case l9 => k_is)
    (case c9 => k_is)
    (case k9 => k_is)
    (case a10 => k_is)
    (case l10 => k_is)
    (case c10 => k_is)
    (case k10 => k_is)
    (case a11 => k_is)
    (case l11 => k_is)
    (case c11 => k_is)
    (case k11 => k_is)
    (case a12 => k_is)
    (case l12 => k_is)
    (case c12 => k_is)
    (case k12 => k_is)
    (case a13 => k_is)
    (case l13 => k_is)
    (case c13 => k_is)
    (case k13 => k_is)
    (case a14 => k_is)
    (case l14 => k_is)
    (case c14 => k_is)
    (case k14 => k_is)
    (case a15 => k_is)
    (case l15 => k_is)
    (case c15 => k_is)
    (case k15 => k_is)
    (case a16 => k_is)
    (case l16 => k_is)
    (case c16 => k_is)
    (case k16 => k_is)
    (case a17 => k_is)
    (case l17 => k_is)
    (case c17 => k_is)
    (case k17 => k_is)
    (case a18 => k_is)
    (case l18 => k_is)
    (case c18 => k_is)
    (case k18 => k_is)
    (case a19 => k_is)
    (case l19 => k_is)
    (case c19 => k_is)
    (case k19 => k_is)
    (case a20 => k_is)
    (case l20 => k_is)
    (case c20 => k_is)
    (case k20 => k_is)
    (case a21 => k_is)
    (case l21 => k_is)
    (case c21 => k_is)
    (case k21 => k_is)
    (case a22 => k_is)
    (case l22 => k_is)
    (case c22 => k_is)
    (case k22 => k_is)
    (case a23 => k_is)
    (case l23 => k_is)
    (case c23 => k_is)
    (case k23 => k_is)
    (case a24 => k_is)
    (case l24 => k_is)
    (case c24 => k_is)
    (case k24 => k_is)
    (case a25 => k_is)
    (case l25 => k_is)
    (case c25 => k_is)
    (case k25 => k_is)
    (case a26 => k_is)
    (case l26 => k_is)
    (case c26 => k_is)
    (case k26 => k_is)
    (case a27 => k_is)
    (case l27 => k_is)
    (case c27 => k_is)
    (case k27 => k_is)
    (case a28 => k_is)
    (case l28 => k_is)
    (case c28 => k_is)
    (case k28 => k_is)
    (case a29 => k_is)
    (case l29 => k_is)
    (case c29 => k_is)
    (case k29 => k_is)
    (case a30 => k_is)
    (case l30 => k_is)
    (case c30 => k_is)
    (case k30 => k_is)
    (case aAlb => k_is)
    (case am0 => k_is)
    (case im0 => k_is)
    (case lm0 => k_is)
    (case cm0 => k_is)
    (case km0 => k_is)
    (case am1 => k_is)
    (case im1 => k_is)
    (case lm1 => k_is)
    (case cm1 => k_is)
    (case km1 => k_is)
    (case am2 => k_is)
    (case im2 => k_is)
    (case lm2 => k_is)
    (case cm2 => k_is)
    (case km2 => k_is)
    (case am3 => k_is)
    (case im3 => k_is)
    (case lm3 => k_is)
    (case cm3 => k_is)
    (case km3 => k_is)
    (case am4 => k_is)
    (case im4 => k_is)
    (case lm4 => k_is)
    (case cm4 => k_is)
    (case km4 => k_is)
    (case am5 => k_is)
    (case im5 => k_is)
    (case lm5 => k_is)
    (case cm5 => k_is)
    (case km5 => k_is)
    (case am6 => k_is)
    (case im6 => k_is)
    (case lm6 => k_is)
    (case cm6 => k_is)
    (case km6 => k_is)
    (case am7 => k_is)
    (case im7 => k_is)
    (case lm7 => k_is)
    (case cm7 => k_is)
    (case km7 => k_is)
    (case am8 => k_is)
    (case im8 => k_is)
    (case lm8 => k_is)
    (case cm8 => k_is)
    (case km8 => k_is)
    (case am9 => k_is)
    (case im9 => k_is)
    (case lm9 => k_is)
    (case cm9 => k_is)
    (case km9 => k_is)
    (case am10 => k_is)
    (case im10 => k_is)
    (case lm10 => k_is)
    (case cm10 => k_is)
    (case km10 => k_is)
    (case td10 => k_is)
    (case am11 => k_is)
    (case im11 => k_is)
    (case lm11 => k_is)
    (case cm11 => k_is)
    (case km11 => k_is)
    (case td11 => k_is)
    (case am12 => k_is)
    (case im12 => k_is)
    (case lm12 => k_is)
    (case cm12 => k_is)
    (case km12 => k_is)
    (case td12 => k_is)
    (case pg => k_is)
    (case hdi => k_is)
    (case po => k_is)
    (case sa => k_is)
    (case mk => k_is)
    (case kc => k_is)
    (case eNe => first | k_is | kernel_rfl)
    (case cCa => first | k_is | kernel_rfl)
    (case cCn => first | k_is | kernel_rfl)
    (case cCt => first | k_is | kernel_rfl)
    (case cCm => first | k_is | kernel_rfl)
    (case cKi => first | k_is | kernel_rfl)
    (case nB => k_is)
    (case nN => k_is)
    (case nM => k_is)
    (case hH => k_is)
    (case hW => k_is)
    (case z0 => k_is)
    (case z1 => k_is)
    (case z2 => k_is)
    (case z3 => k_is)
    (case z4 => k_is)
    (case z5 => k_is)
    (case z6 => k_is)
    (case z7 => k_is)
    (case z8 => k_is)
    (case z9 => k_is)
    (case z10 => k_is)
    (case z11 => k_is)
    (case z12 => k_is)
    (case z13 => k_is)
    (case z14 => k_is)
    (case z15 => k_is)
    (case z16 => k_is)
    (case z17 => k_is)
    (case z18 => k_is)
    (case z19 => k_is)
    (case xxl => kernel_rfl)
    (case xgl => k_is)
    (case xkl => k_is)
    (case xbl => k_is)
    (case xtl => k_is)
    (case xxn => kernel_rfl)
    (case xgn => k_is)
    (case xkn => k_is)
    (case xbn => k_is)
    (case xtn => k_is)
    (case xxs => kernel_rfl)
    (case xgs => k_is)
    (case xks => k_is)
    (case xbs => k_is)
    (case xts => k_is)
    (case xxo => kernel_rfl)
    (case xgo => k_is)
    (case xko => k_is)
    (case xbo => k_is)
    (case xto => k_is)
    (case xxp => kernel_rfl)
    (case xgp => k_is)
    (case xkp => k_is)
    (case xbp => k_is)
    (case xtp => k_is)
    (case xxq => kernel_rfl)
    (case xgq => k_is)
    (case xkq => k_is)
    (case xbq => k_is)
    (case xtq => k_is)
    (case xxr => kernel_rfl)
    (case xgr => k_is)
    (case xkr => k_is)
    (case xbr => k_is)
    (case xtr => k_is)
    (case xmll => kernel_rfl)
    (case xmnl => kernel_rfl)
    (case xmnn => kernel_rfl)
    (case xmsl => kernel_rfl)
    (case xmsn => kernel_rfl)
    (case xmss => kernel_rfl)
    (case xmol => kernel_rfl)
    (case xmon => kernel_rfl)
    (case xmos => kernel_rfl)
    (case xmoo => kernel_rfl)
    (case xmpl => kernel_rfl)
    (case xmpn => kernel_rfl)
    (case xmps => kernel_rfl)
    (case xmpo => kernel_rfl)
    (case xmpp => kernel_rfl)
    (case xmql => kernel_rfl)
    (case xmqn => kernel_rfl)
    (case xmqs => kernel_rfl)
    (case xmqo => kernel_rfl)
    (case xmqp => kernel_rfl)
    (case xmqq => kernel_rfl)
    (case xmrl => kernel_rfl)
    (case xmrn => kernel_rfl)
    (case xmrs => kernel_rfl)
    (case xmro => kernel_rfl)
    (case xmrp => kernel_rfl)
    (case xmrq => kernel_rfl)
    (case xmrr => kernel_rfl)
    (case xgh => k_is)
    (case xmlh => kernel_rfl)
    (case xmnh => kernel_rfl)
    (case xmsh => kernel_rfl)
    (case xmoh => kernel_rfl)
    (case xmph => kernel_rfl)
    (case xmqh => kernel_rfl)
    (case xmrh => kernel_rfl)
    (case hPT => exact PySem.W.km_tabs_of Y _ (List.mem_singleton.mpr rfl))
    (case nPT => kernel_rfl)
    (case cPT => kernel_rfl)

