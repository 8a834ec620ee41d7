import PyProof.Rows.All
import Wide.All
import OpenK.AllK
import Wide.FinOn
import HandS.ForMost
import HandS.Conv
import HandS.DictTup
import HandS.TupLen
import HandS.Walk
import KE.SortData
import KE.DataCmp
import KE.GoesMore
import KE.GoesEnum
import HandS.IsInst
import HandS.Flow
import HandS.Defaults
import HandS.Style
import HandS.Zip
import HandS.OwnEq
import HandS.DictEq
import HandS.SlotsOwn
import PyProof.InstNe
import PyProof.DictMoreH
import HandS.FStr
import HandS.Nested
import HandS.ExcInit
import HandS.ExcOwn
import HandS.Exc
import KE.KExcSuper
import HandS.ForExc
import HandS.TryMany
import HandS.Lambda
import HandS.ExcField
import KE.KDictOf
import KE.KDictCopyH
import HandS.EndTab
import PySem.Challenge.RW_hingemount_k08_twins
set_option Elab.async false
set_option maxRecDepth 100000
set_option maxHeartbeats 4000000
namespace HmS
open PySem PySem.Spec PyProof.Rows L2
/-! ### keys as data -/
def kD : Key → PyData
  | .inl i => .int i
  | .inr x => .str x
def keyD (k : List Key) : PyData := .tuple (k.map kD)
section
variable {X : Cx} {pins : List (Addr × Obj)} {σ : L2.St} {H : Hp} {s : Shared}
theorem key_atoms : ∀ {k : List Key} {us : List Value}, Vals (k.map kV) us → ReadsAll s.heap us (k.map kD) []
  | [], _, .nil => .nil
  | x :: k, _, .cons (b := u) r t => by
    have ih := key_atoms (k := k) t
    cases x with
    | inl i =>
      obtain ⟨tk, rfl⟩ := r
      exact ReadsAll.cons (Reads.int i tk) ih
    | inr z =>
      obtain ⟨tk, rfl⟩ := r
      exact ReadsAll.cons (Reads.str z tk) ih
theorem key_reads (I : Inv X pins σ H s) {b : Addr} {k : List Key} (e : H b = some (.tup (k.map kV))) : Reads s.heap (.ref b) (keyD k) [] := by
  obtain ⟨_, its, rv, o, ho, hc, n, hd⟩ := (show ObjOk X.prog X.w H s.heap b (.tup (k.map kV)) from I.hok b _ e)
  exact Reads.tuple ho hc hd (by simpa using key_atoms rv)
theorem each_of {α β : Type} {R : α → β → Prop} (f : β → α) : ∀ (zs : List β), (∀ z ∈ zs, R (f z) z) → PySem.W.EachIs R (zs.map f) zs
  | [], _ => .nil
  | z :: zs, h => .cons (h z List.mem_cons_self) (each_of f zs fun y hy => h y (List.mem_cons_of_mem _ hy))
theorem each_eq {α β : Type} {f : β → α} : ∀ {as : List α} {zs : List β}, PySem.W.EachIs (fun v z => v = f z) as zs → as = zs.map f
  | _, _, .nil => rfl
  | _, _, .cons h t => by rw [List.map_cons, ← each_eq t, h]
/-- sorted(d), d a dict with tuple keys: the key tuples, rising -/
def rSortDT : List V → Hp → VK → Prop := fun xs H Q => ∃ (a : Addr) (kvs : List (List Key × V)), xs = [.ref a] ∧ Rd H a (.dT kvs) ∧ kvs.length ≤ 1000 ∧ PySem.W.AllAlike (kvs.map fun p => keyD p.1) ∧ (∀ p ∈ kvs, p.1 ≠ []) ∧
  ∀ (p : Addr) (bs : List Addr), H p = none → IsKeys H kvs bs → (kvs.map (·.1)).Nodup →
    Q (.ref p) (upd H p (.lst (((bs.zip kvs).mergeSort (PySem.W.dataLe false fun z => keyD z.2.1)).map fun z => V.ref z.1)))
theorem keyD_depth (k : List Key) : (keyD k).depth ≤ 1 := by
  have h : ∀ k : List Key, PyData.depthAll (k.map kD) = 0 := by
    intro k
    induction k with
    | nil => simp [PyData.depthAll]
    | cons x k ih =>
      cases x with
      | inl i => simp [kD, PyData.depthAll, PyData.depth, ih]
      | inr z => simp [kD, PyData.depthAll, PyData.depth, ih]
  unfold keyD
  rw [PyData.depth, h]
  exact Nat.le_refl _
theorem cr_sortDT (hc : X.calm = true) (hu : X.A.units + 64 < cLine) : CallR X (.builtin "sorted") rSortDT := by
  intro pins s σ H xs us Q I r h
  obtain ⟨d, kvs, rfl, hd, hz, hal, hne, q⟩ := h
  obtain ⟨u, rfl, rx⟩ := r.one
  cases rx
  obtain ⟨z, hs, ks, pr, o, es, ep, ho, hx, hdt, he, hn⟩ := (show ObjOk X.prog X.w H s.heap d (.dT kvs) from hd.ok I.hok)
  have l1 : es.size = ks.length := size_of_entries he
  have l2 : kvs.length = ks.length := Paired.length pr
  have hsl := sizeLine_eq
  refine Calls.call_function_entry PyProof.Rows.kind_sorted PyProof.Rows.plain_sorted PyProof.Rows.entry_sorted (PyProof.Rows.args_sorted1 _) ?_
  unfold Builtin.«sorted»
  refine wpAny_bind (m := checkCount "sorted" 1 1 _) (wpAny_pure ?_)
  refine wpAny_bind (PySem.W.kdu_collect (A := X.A.in1) (kdl_raw hs hx hdt) (I.ok.hd hc) ho (by omega) fun h' tk acc kp it => ?_)
  have ea : acc.toList = (ks.map fun x => x.2.1).map Value.ref := by
    have hl : acc.toList.length = ks.length := by
      rw [Array.length_toList, it.1]
      exact l1
    apply List.ext_getElem?
    intro j
    rw [List.getElem?_map, List.getElem?_map]
    cases hj : acc.toList[j]? with
    | none =>
      have h1 := List.getElem?_eq_none_iff.mp hj
      rw [List.getElem?_eq_none (by omega)]
      rfl
    | some v =>
      obtain ⟨en, hen, hv⟩ := it.2 j v (by rw [← Array.getElem?_toList]; exact hj)
      have qe := entry_at he j
      rw [hen] at qe
      cases hb : ks[j]? with
      | none =>
        rw [hb] at qe
        exact nomatch (show some en = none from qe)
      | some b =>
        rw [hb] at qe
        have e2 : en = entryOfKey (tupleKind (mixKind X.prog X.w)) b := Option.some.inj qe
        rw [hv, e2]
        rfl
  generalize hbs : ks.map (fun x => x.2.1) = bs at ea
  have hik : IsKeys H kvs bs := by
    rw [← hbs]
    exact isKeys_of pr
  have lb : bs.length = kvs.length := by rw [← hbs, List.length_map, l2]
  have nk : (kvs.map (·.1)).Nodup := by
    have e : ∀ {kvs : List (List Key × V)} {ks : List (List Key × Addr × Value)}, Paired (fun (p : List Key × V) (q : List Key × Addr × Value) => p.1 = q.1 ∧ H q.2.1 = some (.tup (p.1.map kV)) ∧ RelV p.2 q.2.2) kvs ks → kvs.map (·.1) = ks.map (·.1) := by
      intro kvs ks r
      induction r with
      | nil => rfl
      | cons h t ih => rw [List.map_cons, List.map_cons, ih, h.1]
    rw [e pr]
    exact hn
  have hz2 : ((bs.zip kvs).map fun z => Value.ref z.1) = acc.toList := by
    rw [ea, show (fun z : Addr × List Key × V => Value.ref z.1) = Value.ref ∘ Prod.fst from rfl, ← List.map_map, List.map_fst_zip (by omega)]
  have I1 : Inv X pins σ H { s with heap := h', toks := tk } := I.kept kp
  have lz : (bs.zip kvs).length = kvs.length := by rw [List.length_zip]; omega
  refine wpAny_bind (wpAny_newList ?_ (by rw [← hz2, List.length_map, lz]; omega))
  have hoL : (h'.push (seqObj "list" acc.toList.toArray 0)).get? h'.objs.size = some (seqObj "list" acc.toList.toArray 0) := Heap.get?_push_size _ rfl
  show wpAny (model X.prog X.w) X.A.in1 _ _ _ { s with heap := h'.push (seqObj "list" acc.toList.toArray 0), toks := tk }
  have inz : ∀ z ∈ bs.zip kvs, H z.1 = some (.tup (z.2.1.map kV)) := by
    have e : ∀ {kvs : List (List Key × V)} {bs : List Addr}, IsKeys H kvs bs → ∀ z ∈ bs.zip kvs, H z.1 = some (.tup (z.2.1.map kV)) := by
      intro kvs bs r
      unfold IsKeys at r
      induction r with
      | nil => intro z hz; simp at hz
      | cons h t ih =>
        intro z hz
        rw [List.zip_cons_cons] at hz
        rcases List.mem_cons.mp hz with rfl | hz
        · exact h
        · exact ih z hz
    exact e hik
  have inz2 : ∀ z ∈ bs.zip kvs, z.2 ∈ kvs := fun z hz => (List.of_mem_zip hz).2
  rw [← hz2]
  rw [← hz2] at hoL
  refine wpAny_bind (wpAny_holding (PySem.W.list_sort_data (bs := bs.zip kvs) (enc := fun z => keyD z.2.1) (R := fun v z => v = Value.ref z.1) (s := { s with heap := h'.push (seqObj "list" ((bs.zip kvs).map fun z => Value.ref z.1).toArray 0), toks := tk }) hoL
    (each_of _ _ fun _ _ => rfl) (each_of _ _ fun z hz => ⟨[], PyProof.Rows.Reads.keeps (fun b o e => Heap.get?_push_of_some _ e) (key_reads I1 (inz z hz)), by simp⟩) ?_ ?_ (by rw [lz]; omega) (fun z _ => ?_) fun out ol eo => ?_))
  · intro x hx y hy
    obtain ⟨z1, m1, rfl⟩ := List.mem_map.mp hx
    obtain ⟨z2, m2, rfl⟩ := List.mem_map.mp hy
    exact hal _ (List.mem_map.mpr ⟨z1.2, inz2 _ m1, rfl⟩) _ (List.mem_map.mpr ⟨z2.2, inz2 _ m2, rfl⟩)
  · refine .inl fun x hx => ?_
    obtain ⟨z, m, rfl⟩ := List.mem_map.mp hx
    have nz := hne _ (inz2 _ m)
    cases e : z.2.1 with
    | nil => exact absurd e nz
    | cons k r => exact ⟨kD k, r.map kD, by simp [keyD]⟩
  · have := keyD_depth z.2.1
    show X.A.units + 1 + 1 + (keyD z.2.1).depth < cLine
    omega
  · have eout := each_eq (f := fun z : Addr × List Key × V => Value.ref z.1) eo
    obtain ⟨e', he'⟩ := PyProof.Rows.sortedHeap_at (vs := (bs.zip kvs).map fun z => Value.ref z.1) (out := out.toArray) hoL
    have hperm := List.mergeSort_perm (bs.zip kvs) (PySem.W.dataLe false fun z => keyD z.2.1)
    have hlen : (((bs.zip kvs).mergeSort (PySem.W.dataLe false fun z => keyD z.2.1)).map fun z => V.ref z.1).length ≤ sizeLine := by
      rw [List.length_map, hperm.length_eq, lz]
      omega
    have rv : Vals (((bs.zip kvs).mergeSort (PySem.W.dataLe false fun z => keyD z.2.1)).map fun z => V.ref z.1) out := by
      rw [eout]
      have e : ∀ l : List (Addr × List Key × V), Vals (l.map fun z => V.ref z.1) (l.map fun z => Value.ref z.1) := by
        intro l
        induction l with
        | nil => exact .nil
        | cons z l ih => exact .cons rfl ih
      exact e _
    refine wpAny_pure ⟨_, rfl, .ref h'.objs.size, upd H h'.objs.size (.lst (((bs.zip kvs).mergeSort (PySem.W.dataLe false fun z => keyD z.2.1)).map fun z => V.ref z.1)), I1.laid (t' := tk) (fun b u e => ?_) (Nat.le_refl _)
      (show ObjOk X.prog X.w _ _ _ (.lst _) from ⟨hlen, out, e', rv, by simpa using he'⟩), rfl, q _ bs (I1.hok.fresh (Nat.le_refl _)) hik nk⟩
    have hb : b < h'.objs.size := Heap.lt_size e
    rw [PyProof.Rows.sortedHeap_old (Nat.ne_of_lt hb) (by rw [size_push']; exact Nat.lt_succ_of_lt hb)]
    exact Heap.get?_push_of_some _ e
/-- sorted(d.items()), d a dict with tuple keys and ints: the pairs, rising -/
def encC (c : List Key × Int) : PyData := .tuple [keyD c.1, .int c.2]
def sortC (cs : List (List Key × Int)) : List (List Key × Int) := cs.mergeSort (PySem.W.dataLe false encC)
def rSortIC : List V → Hp → VK → Prop := fun xs H Q => ∃ (v a : Addr) (cs : List (List Key × Int)), xs = [.ref v] ∧ H v = some (DX.itemsO v a) ∧ H a = some (.dT (cs.map fun c => (c.1, V.int c.2))) ∧ cs.length ≤ 1000 ∧
  PySem.W.AllAlike (cs.map encC) ∧ (∀ c ∈ cs, c.1 ≠ []) ∧ ∀ (l : Addr) (H' : Hp) (as : List Addr), Same H H' → H l = none → (cs.map (·.1)).Nodup → H' l = some (.lst (as.map V.ref)) →
    Paired (fun b (c : List Key × Int) => ∃ q, H' b = some (.tup [.ref q, .int c.2]) ∧ H' q = some (.tup (c.1.map kV))) as (sortC cs) → Q (.ref l) H'
theorem encC_depth (c : List Key × Int) : (encC c).depth ≤ 2 := by
  have h := keyD_depth c.1
  unfold encC
  simp only [PyData.depth, PyData.depthAll]
  omega
theorem paired_map {α β γ : Type} {F : γ → β → Prop} (f : α → γ) (g : α → β) : ∀ (zs : List α), (∀ z ∈ zs, F (f z) (g z)) → Paired F (zs.map f) (zs.map g)
  | [], _ => .nil
  | z :: zs, h => .cons (h z List.mem_cons_self) (paired_map f g zs fun y hy => h y (List.mem_cons_of_mem _ hy))
theorem cr_sortIC (hc : X.calm = true) (hu : X.A.units + 64 < cLine) : CallR X (.builtin "sorted") rSortIC := by
  intro pins s σ H xs us Q I r h
  obtain ⟨v, a, cs, rfl, hv, ha, hz, hal, hne, q⟩ := h
  obtain rfl := Vals.ref1 r
  have hsl := sizeLine_eq
  have view : s.heap.IsItemsView v a := (show ObjOk X.prog X.w H s.heap v (DX.itemsO v a) from I.hok v _ hv).1
  obtain ⟨_, hd, ks, rel, o, es, ep, ho, hx, hdat, hes, _, hn⟩ := dt_of I.hok ha
  have l1 : cs.length = ks.length := by
    have e := Paired.length rel
    rw [List.length_map] at e
    exact e
  have l2 : es.size = ks.length := size_of_entries hes
  have nk : (cs.map (·.1)).Nodup := by
    have e : ∀ {cs : List (List Key × Int)} {ks : List (List Key × Addr × Value)}, Paired (fun (p : List Key × V) (q : List Key × Addr × Value) => p.1 = q.1 ∧ H q.2.1 = some (.tup (p.1.map kV)) ∧ RelV p.2 q.2.2) (cs.map fun c => (c.1, V.int c.2)) ks → cs.map (·.1) = ks.map (·.1) := by
      intro cs
      induction cs with
      | nil => intro ks r; cases r; rfl
      | cons c cs ih =>
        intro ks r
        cases r with
        | cons h t => rw [List.map_cons, List.map_cons, ih t, h.1]
    rw [e rel]
    exact hn
  refine DT.sortedI (es := es) (ep := ep) (I.ok.hd hc) view ⟨o, ho, hx, hdat⟩ (by omega) fun h' tk as hk hlt hl hG => ?_
  have la : as.length = cs.length := by omega
  have nd : as.Nodup := List.Pairwise.imp (fun h => Nat.ne_of_lt h) hG.rise
  -- the new pairs, with what they hold
  let bs : List (Addr × Addr × (List Key × Int)) := as.zip ((ks.map fun x => x.2.1).zip cs)
  have lz : ((ks.map fun x => x.2.1).zip cs).length = cs.length := by rw [List.length_zip, List.length_map]; omega
  have lb : bs.length = cs.length := by
    show (as.zip _).length = _
    rw [List.length_zip]
    omega
  have bsA : bs.map (·.1) = as := List.map_fst_zip (by omega)
  have bsC : bs.map (·.2.2) = cs := by
    have e : bs.map (·.2.2) = (bs.map (·.2)).map (·.2) := by rw [List.map_map]; rfl
    rw [e, show bs.map (·.2) = (ks.map fun x => x.2.1).zip cs from List.map_snd_zip (by omega), List.map_snd_zip (by rw [List.length_map]; omega)]
  have I1 : Inv X pins σ H { s with heap := h', toks := tk } := I.kept hk
  have facts : ∀ z ∈ bs, H z.2.1 = some (.tup (z.2.2.1.map kV)) ∧ ∃ t, h'.get? z.1 = some { cls := .type "tuple", data := .seq #[Value.ref z.2.1, Value.int z.2.2.2 t] } := by
    intro z hzm
    obtain ⟨j, hj⟩ := List.mem_iff_getElem?.mp hzm
    obtain ⟨j1, j2⟩ := List.getElem?_zip_eq_some.mp hj
    obtain ⟨j3, j4⟩ := List.getElem?_zip_eq_some.mp j2
    obtain ⟨en, he, hg⟩ := hG.pairs j z.1 j1
    rw [entry_at hes j] at he
    rw [List.getElem?_map] at j3
    cases hxj : ks[j]? with
    | none =>
      rw [hxj] at j3
      cases j3
    | some x =>
      rw [hxj] at he j3
      have een : entryOfKey (tupleKind (mixKind X.prog X.w)) x = en := Option.some.inj he
      have ex : x.2.1 = z.2.1 := Option.some.inj j3
      obtain ⟨e0, he0, _, r2, r3⟩ := DX.pget rel hxj
      rw [List.getElem?_map, j4] at he0
      have ee : (z.2.2.1, V.int z.2.2.2) = e0 := Option.some.inj he0
      rw [← ee] at r2 r3
      obtain ⟨t, r3'⟩ := r3
      refine ⟨by rw [← ex]; exact r2, t, ?_⟩
      rw [hg, ← een, ← ex, ← r3']
      rfl
  have hob : (h'.push (seqObj "list" (as.map Value.ref).toArray 0)).get? h'.objs.size = some (seqObj "list" (as.map Value.ref).toArray 0) := Heap.get?_push_size _ rfl
  have eAs : as.map Value.ref = bs.map fun z => Value.ref z.1 := by rw [← bsA, List.map_map]; rfl
  show wpAny (model X.prog X.w) X.A.in1 (call (.builtin "list.sort") [.ref h'.objs.size]) _ _ { s with heap := h'.push (seqObj "list" (as.map Value.ref).toArray 0), toks := tk }
  rw [eAs] at hob ⊢
  have kb : ∀ b o, h'.get? b = some o → (h'.push (seqObj "list" (bs.map fun z => Value.ref z.1).toArray 0)).get? b = some o := fun b o e => Heap.get?_push_of_some _ e
  refine PySem.W.list_sort_data (bs := bs) (enc := fun z => encC z.2.2) (R := fun v z => v = Value.ref z.1) (s := { s with heap := h'.push (seqObj "list" (bs.map fun z => Value.ref z.1).toArray 0), toks := tk }) hob
    (each_of _ _ fun _ _ => rfl) (each_of _ _ fun z hzm => ?_) ?_ (.inl fun x hx => ?_) (by omega) (fun z _ => ?_) fun out ol eo => ?_
  · obtain ⟨f1, t, f2⟩ := facts z hzm
    refine ⟨[], PyProof.Rows.Reads.keeps kb (Reads.tuple (as := []) f2 rfl rfl ?_), by simp⟩
    exact ReadsAll.cons (as := []) (bs := []) (key_reads I1 f1) (ReadsAll.cons (as := []) (bs := []) (Reads.int _ t) ReadsAll.nil)
  · intro x hx y hy
    have e : bs.map (fun z => encC z.2.2) = cs.map encC := by rw [← bsC, List.map_map]; rfl
    rw [e] at hx hy
    exact hal x hx y hy
  · obtain ⟨z, _, rfl⟩ := List.mem_map.mp hx
    exact ⟨_, _, rfl⟩
  · have := encC_depth z.2.2
    show X.A.units + 1 + 1 + (encC z.2.2).depth < cLine
    omega
  · have eout := each_eq (f := fun z : Addr × Addr × (List Key × Int) => Value.ref z.1) eo
    obtain ⟨e', he'⟩ := PyProof.Rows.sortedHeap_at (vs := bs.map fun z => Value.ref z.1) (out := out.toArray) hob
    generalize hzs : bs.mergeSort (PySem.W.dataLe false fun z => encC z.2.2) = zs at eout
    have hperm : zs.Perm bs := by rw [← hzs]; exact List.mergeSort_perm _ _
    have srt : zs.map (·.2.2) = sortC cs := by
      rw [← hzs, PySem.W.sort_maps (r := PySem.W.dataLe false fun z : Addr × Addr × (List Key × Int) => encC z.2.2) (s := PySem.W.dataLe false encC) (fun z : Addr × Addr × (List Key × Int) => z.2.2) (fun a _ b _ => rfl), bsC]
      rfl
    have hlen : ((zs.map (·.1)).map V.ref).length ≤ sizeLine := by
      rw [List.length_map, List.length_map, hperm.length_eq]
      omega
    have ne0 : ∀ b o, h'.get? b = some o → b ≠ h'.objs.size := fun b o e => Nat.ne_of_lt (Heap.lt_size e)
    have kF : ∀ b o, h'.get? b = some o → (sortedHeap (h'.push (seqObj "list" (bs.map fun z => Value.ref z.1).toArray 0)) h'.objs.size (bs.map fun z => Value.ref z.1) out.toArray).get? b = some o := fun b o e => by
      rw [PyProof.Rows.sortedHeap_old (ne0 b o e) (by rw [size_push']; exact Nat.lt_succ_of_lt (Heap.lt_size e))]
      exact kb b o e
    have rv : Vals ((zs.map (·.1)).map V.ref) out := by
      rw [eout]
      have e : ∀ l : List (Addr × Addr × (List Key × Int)), Vals ((l.map (·.1)).map V.ref) (l.map fun z => Value.ref z.1) := by
        intro l
        induction l with
        | nil => exact .nil
        | cons z l ih => exact .cons rfl ih
      exact e _
    have J1 : Inv X pins σ H { s with heap := sortedHeap (h'.push (seqObj "list" (bs.map fun z => Value.ref z.1).toArray 0)) h'.objs.size (bs.map fun z => Value.ref z.1) out.toArray, toks := tk } := I1.kept (t' := tk) kF
    have hn0 : H h'.objs.size = none := I1.hok.fresh (Nat.le_refl _)
    have J2 : Inv X pins σ (upd H h'.objs.size (.lst ((zs.map (·.1)).map V.ref))) { s with heap := sortedHeap (h'.push (seqObj "list" (bs.map fun z => Value.ref z.1).toArray 0)) h'.objs.size (bs.map fun z => Value.ref z.1) out.toArray, toks := tk } :=
      J1.take (t' := tk) (fun b ob _ e => e) (I.fpOk (Nat.le_of_lt hlt) hn0) ⟨hlen, out, e', rv, by simpa using he'⟩
    obtain ⟨H2, J3, g, qt⟩ := DX.takeT (P := fun b vs => ∃ z ∈ bs, z.1 = b ∧ vs = [V.ref z.2.1, V.int z.2.2.2]) I as _ J2 nd fun b hb => by
      rw [← bsA] at hb
      obtain ⟨z, hzm, rfl⟩ := List.mem_map.mp hb
      obtain ⟨f1, t, f2⟩ := facts z hzm
      have hbl : s.heap.objs.size ≤ z.1 := Nat.le_of_lt (hG.above z.1 (by rw [← bsA]; exact List.mem_map.mpr ⟨z, hzm, rfl⟩))
      refine ⟨hbl, ?_, _, ⟨z, hzm, rfl, rfl⟩, fun H3 => ⟨(by show 2 ≤ sizeLine; decide), [Value.ref z.2.1, Value.int z.2.2.2 t], .cons rfl (.cons ⟨t, rfl⟩ .nil), ⟨_, kF _ _ f2, rfl, 0, rfl⟩⟩⟩
      rw [upd_ne (ne0 _ _ f2)]
      exact I.hok.fresh hbl
    have gr : Same H H2 := fun b o e => g b o (by rw [upd_ne (ne_of_none e hn0)]; exact e)
    refine ⟨.ref h'.objs.size, H2, J3, rfl, q h'.objs.size H2 (zs.map (·.1)) gr hn0 nk (g _ _ upd_same) ?_⟩
    rw [← srt]
    refine paired_map (F := fun b (c : List Key × Int) => ∃ q, H2 b = some (.tup [.ref q, .int c.2]) ∧ H2 q = some (.tup (c.1.map kV))) (fun z : Addr × Addr × (List Key × Int) => z.1) (fun z => z.2.2) zs fun z hzm => ?_
    have hzb := hperm.mem_iff.mp hzm
    obtain ⟨vs, ⟨z2, hz2, e1, e2⟩, hH⟩ := qt z.1 (by rw [← bsA]; exact List.mem_map.mpr ⟨z, hzb, rfl⟩)
    have ez : z2 = z := by
      obtain ⟨i, hi⟩ := List.mem_iff_getElem?.mp hz2
      obtain ⟨j, hj⟩ := List.mem_iff_getElem?.mp hzb
      have i1 : as[i]? = some z.1 := by rw [← bsA, List.getElem?_map, hi, ← e1]; rfl
      have j1 : as[j]? = some z.1 := by rw [← bsA, List.getElem?_map, hj]; rfl
      have eij : i = j := (List.getElem?_inj (List.getElem?_eq_some_iff.mp i1).1 nd).mp (i1.trans j1.symm)
      rw [eij, hj] at hi
      exact (Option.some.inj hi).symm
    rw [ez] at e2
    rw [e2] at hH
    exact ⟨z.2.1, hH, gr _ _ (facts z hzb).1⟩
end
end HmS

set_option Elab.async false
set_option maxRecDepth 100000
set_option maxHeartbeats 4000000
namespace HmS
open PySem PySem.Spec PyProof.Rows L2
open AutoSeq1 (wpAny_loadPart')
/-! ### enumerate(t), t a tuple -/
abbrev tupIt (l : Addr) : Obj := { cls := .type "tuple_iterator", data := .fields #[.ref l, .int 0 0] }
abbrev enumOf (it : Addr) : Obj := { cls := .type "enumerate", data := .fields #[.none, .bool false, .ref it, rawInt 0, .none, .none] }
theorem meets_enumT (l : Addr) (items : Array Value) : Meets (Builtin.«enumerate.__new__» ⟨[.type "enumerate", .ref l], []⟩)
    (fun _ R s => s.heap.IsTuple l items ∧ R (.ok (.ret (.ref (s.heap.push (tupIt l)).objs.size))) { s with heap := (s.heap.push (tupIt l)).push (enumOf s.heap.objs.size) }) :=
  .of_wp fun prog w A R s h => by
    obtain ⟨hp, g, d, tk, os⟩ := s
    obtain ⟨h1, h⟩ := h
    have sub := sub_enumerate
    have q1 : ∀ {A' : Around} {E : Value → Shared → Prop} {Q : Value → Shared → Prop}, Q (.ref hp.objs.size) ⟨hp.push (tupIt l), g, d, tk, os⟩ → wpAny (model prog w) A' (pyIter (.ref l)) Q E ⟨hp, g, d, tk, os⟩ :=
      fun q => (begins_tuple l items).iter prog w _ _ ⟨hp, g, d, tk, os⟩ _ h1 q
    wp_walk using q1
    refine wpAny_stack_any fun st => wpAny_pure ?_
    split
    · rename_i c _ _ _ _ _
      cases (c == Value.type "enumerate") <;> (wp_walk using q1; exact ⟨_, rfl, h⟩)
    · wp_walk using q1
      exact ⟨_, rfl, h⟩
theorem call_enumT {prog : Program} {w : World} {A : Around} {E : Value → Shared → Prop} {s : Shared} {l : Addr} {items : Array Value} {Q : Value → Shared → Prop} (hL : s.heap.IsTuple l items)
    (h : ∀ h', IsEnum h' (s.heap.objs.size + 1) s.heap.objs.size 0 .none → h'.IsTupleIter s.heap.objs.size l 0 → (∀ b o, s.heap.get? b = some o → h'.get? b = some o) → Q (.ref (s.heap.objs.size + 1)) { s with heap := h' }) :
    wpAny (model prog w) A (call (.type "enumerate") [.ref l]) Q E s := by
  refine callType_new F.called_enumerate (by decide) (F.typeCall_enumerate_1 _) (F.newCall_enumerate_1 _) (fun obj => F.args_object_init_2 obj _) F.entry_enumerate_new (meets_enumT l items) ⟨hL, ?_⟩
  have hz : (s.heap.push (tupIt l)).objs.size = s.heap.objs.size + 1 := Heap.size_push ..
  show _ ∧ _
  rw [hz]
  have he : ((s.heap.push (tupIt l)).push (enumOf s.heap.objs.size)).get? (s.heap.objs.size + 1) = some (enumOf s.heap.objs.size) := by
    rw [← hz]
    exact Heap.get?_push_size _ rfl
  exact ⟨⟨_, he, rfl⟩, h _ he ⟨_, Heap.get?_push_of_some _ (Heap.get?_push_size _ rfl), rfl, rfl⟩ fun b o x => Heap.get?_push_of_some _ (Heap.get?_push_of_some _ x)⟩
/-- the tuple at a, each item in a new pair with its place -/
def IteT (K : PySem.W.Frag) (a : Addr) : It :=
  ⟨fun i H => ∃ (xs : List V) (x : V), SqT K H a xs ∧ xs[i]? = some x, fun i H v H' => ∃ T x, v = .ref T ∧ H T = none ∧ H' = upd H T (.tup [.int (i : Nat), x]) ∧ ∀ xs, SqT K H a xs → xs[i]? = some x,
    fun i H => ∃ xs : List V, SqT K H a xs ∧ xs.length ≤ i⟩
theorem tup_ne {h : Heap} {a b : Addr} {items : Array Value} {o : Obj} {T : String} (p : h.IsTuple a items) (e : h.get? b = some o) (c : o.cls = .type T) (n : T ≠ "tuple") : a ≠ b := by
  rintro rfl
  obtain ⟨o', e', c', _⟩ := p
  rw [e] at e'
  cases e'
  rw [c] at c'
  injection c' with z
  exact n z
theorem turn_enumT {P : Program} {w : World} {K : PySem.W.Frag} {elts : List Expr} {kk : Nat} {tpos : Pos} (a e it : Addr) :
    Turn P w K (.Tuple elts kk tpos) (IteT K a) [e, it] e (fun i h => (∃ old, IsEnum h e it ((i : Nat) : Int) old) ∧ h.IsTupleIter it a i ∧ e ≠ it) where
  mem := by simp
  obj := fun i h st b hb => by
    obtain ⟨⟨old, he⟩, ⟨o, ho, hc, hd⟩, _⟩ := st
    rcases (show b = e ∨ b = it by simpa using hb) with z | z
    · rw [z]
      exact ⟨_, he, fun v q => nomatch q⟩
    · rw [z]
      exact ⟨o, ho, fun v q => by rw [hd] at q; cases q⟩
  keep := fun i h h' st k => by
    obtain ⟨⟨old, he⟩, hi, hne⟩ := st
    exact ⟨⟨old, k e (by simp) _ he⟩, hi.at fun o q => k it (by simp) o q, hne⟩
  item := by
    intro X hP hw hK hc i pins s σ H E I hf st hg
    subst hP hw hK
    obtain ⟨⟨old, he⟩, hit, hne⟩ := st
    obtain ⟨xs, x, hq, hx⟩ := hg
    obtain ⟨its, rv, p, hz⟩ := I.tuple hq
    have p' : s.heap.IsTuple a its.toArray := p
    obtain ⟨u, hu, ru⟩ := rv.get hx
    have nit : a ≠ it := by
      obtain ⟨o, ho, ch, _⟩ := id hit
      exact tup_ne p' ho ch (by decide)
    have nea : a ≠ e := tup_ne p' he rfl (by decide)
    have hel : e < s.heap.objs.size := Heap.lt_size he
    have hil : it < s.heap.objs.size := by
      obtain ⟨_, q, _⟩ := id hit
      exact Heap.lt_size q
    have hlt : i < its.toArray.size := by
      have := (List.getElem?_eq_some_iff.mp hu).1
      simpa using this
    refine wpAny_pyNext_enum_itemD (Draws.tuple (A := X.A.in1) (show X.A.in1.handled = none from I.ok.hd hc) it a nit its.toArray) he ⟨hit, p'⟩ hlt hne (by simp [hne, Ne.symm nea]) fun v h' tk hv ho hst hT hsz hk => ?_
    have evu : v = u := by
      have e1 : its[i]? = some v := by simpa using hv
      rw [hu] at e1
      exact (Option.some.inj e1).symm
    subst evu
    refine ⟨_, rfl, wpAny_letOwnedTupleGo_enum (s := { s with heap := h', toks := tk + 1 }) ho fun h2 he2 sb => ?_⟩
    have hT2 : h2.get? s.heap.objs.size = some { cls := .type "tuple", data := .seq #[.int i tk, v] } := (sb.2 _ (Nat.ne_of_gt hel)).trans hT
    have new : ObjOk X.prog X.w (upd H s.heap.objs.size (.tup [.int (i : Nat), x])) h2 s.heap.objs.size (.tup [.int (i : Nat), x]) :=
      ⟨by show 2 ≤ sizeLine; decide, [.int i tk, v], .cons ⟨_, rfl⟩ (.cons ru .nil), ⟨_, hT2, rfl, _, rfl⟩⟩
    have I1 : Inv X pins σ (upd H s.heap.objs.size (.tup [.int (i : Nat), x])) { s with heap := h2, toks := tk + 1 } :=
      I.turnedNew (ch := [e, it]) (fun b ob hb q => (sb.2 b (fun z => hb (by simp [z]))).trans (hk b ob (fun z => hb (by simp [z])) (fun z => hb (by simp [z])) q)) hf (Nat.le_refl _) new
    refine ⟨.ref s.heap.objs.size, _, I1, rfl, ⟨_, x, rfl, I.hok.fresh (Nat.le_refl _), rfl, fun ys hy => by rw [I.tuple_inj hy hq]; exact hx⟩, ⟨⟨v, ?_⟩, hst.1.at fun o q => (sb.2 it (Ne.symm hne)).trans q, hne⟩, fun b hb => ?_⟩
    · have e1 : ((i + 1 : Nat) : Int) = (i : Int) + 1 := by omega
      rw [e1]
      exact he2
    · have hb' : b < s.heap.objs.size := by
        rcases (show b = e ∨ b = it by simpa using hb) with z | z
        · rw [z]
          exact hel
        · rw [z]
          exact hil
      rw [upd_ne (Nat.ne_of_lt hb')]
      exact (hf b hb).1
  done := by
    intro X hP hw hK hc i pins s σ H E I hf st hg
    subst hP hw hK
    obtain ⟨⟨old, he⟩, hit, hne⟩ := st
    obtain ⟨xs, hq, hx⟩ := hg
    obtain ⟨its, rv, p, hz⟩ := I.tuple hq
    have p' : s.heap.IsTuple a its.toArray := p
    have nit : a ≠ it := by
      obtain ⟨o, ho, ch, _⟩ := id hit
      exact tup_ne p' ho ch (by decide)
    obtain ⟨f0, f1, f2, f3, f4, f5⟩ := hf it (by simp)
    have hl := rv.length
    have hdone : Draws X.prog X.w X.A.in1 it [it, a] i (fun _ _ => False) (fun j h => j = i ∧ h.IsTupleIter it a i ∧ h.IsTuple a its.toArray) := {
      live := fun _ _ st => let ⟨o, ho, _⟩ := st.2.1; ⟨o, ho⟩
      frame := fun _ _ _ st hk => ⟨st.1, st.2.1.at fun o e => hk it (by simp) o e, st.2.2.at fun o e => hk a (by simp) o e⟩
      item := fun j s Q E hj st _ => absurd hj (by rw [st.1]; exact Nat.lt_irrefl _)
      done := fun s Q E st hE => wpAny_nextOf_tuple_end (show X.A.in1.handled = none from I.ok.hd hc) st.2.1 st.2.2 (by simp; omega) hE }
    exact wpAny_pyNext_enum_endD hdone he ⟨rfl, hit, p'⟩ fun h' eb => ⟨rfl, I.turned (t' := s.toks) (fun b o hb q => eb b o hb q) f0 f1 f3 f4 f5⟩
  self := fun A i s Q E st h => let ⟨⟨_, he⟩, _⟩ := st; wpAny_pyIter_enum he h
def iEnumT (K : PySem.W.Frag) (ta : TA) : TI := fun σ H R => ta σ H fun vs H1 => ∃ a xs, vs = [.ref a] ∧ SqT K H1 a xs ∧ R (IteT K a) H1
theorem pi_enumT {X : Cx} {e : Expr} {ta : TA} {p pos tpos : Pos} {elts : List Expr} {kk : Nat} (hg : Gl X "enumerate") (hm : X.mg "enumerate" = none) (ha : PA X [e] ta) (hs : starEach [e] X.env = [(false, eval e X.env)] := by rfl) :
    PI X (.Tuple elts kk tpos) (.Call (.Name "enumerate" p) [e] [] pos) (iEnumT X.K ta) := by
  refine ⟨fun pins s σ H R I h => ?_⟩
  refine Call_ (ld_blt I hg hm boot_enumerate (PyProof.Rows.callWith_type1 (thn (ha.run pos pins s σ H _ I h) fun us s1 hq1 => ?_) hs rfl))
  obtain ⟨vs, H1, I1, r1, a, xs, rfl, hq, q⟩ := hq1
  cases r1 with
  | cons r rr =>
    cases rr
    cases r
    obtain ⟨its, rv, p', hz⟩ := I1.tuple hq
    refine call_enumT (show s1.heap.IsTuple a its.toArray from p') fun h' he hit hk => wpAny_pyIter_enum he ?_
    have I2 : Inv X pins σ H1 { s1 with heap := h' } := I1.kept (t' := s1.toks) hk
    refine ⟨s1.heap.objs.size + 1, [s1.heap.objs.size + 1, s1.heap.objs.size], _, _, H1, rfl, I2, turn_enumT a (s1.heap.objs.size + 1) s1.heap.objs.size, ⟨⟨.none, he⟩, hit, Nat.succ_ne_self _⟩, fun b hb => ?_, q⟩
    have hle : s1.heap.objs.size ≤ b := by
      rcases (show b = s1.heap.objs.size + 1 ∨ b = s1.heap.objs.size by simpa using hb) with z | z
      · rw [z]
        exact Nat.le_add_right _ _
      · rw [z]
        exact Nat.le_refl _
    exact I1.fpOk hle (I1.hok.fresh hle)
theorem walk_enumT {K : PySem.W.Frag} {a : Addr} {xs : List V} : Walk (IteT K a) xs.length (fun H => SqT K H a xs) (YPair (fun i => some (.int (i : Nat))) (fun i => xs[i]?)) where
  goes := fun i H hi h => ⟨xs, xs[i], h, by simp [hi]⟩
  stops := fun H h => ⟨xs, h, Nat.le_refl _⟩
  yields := fun i H x H' hi h y => by
    obtain ⟨T, z, e1, e2, e3, e4⟩ := y
    exact ⟨T, _, z, e1, e2, e3, rfl, e4 xs h⟩
end HmS

set_option Elab.async false
set_option maxRecDepth 100000
set_option maxHeartbeats 4000000
namespace Hm
open PySem L2
def topSt (i : Nat) : Stmt := PySem.Challenge.pw_hingemount_k08_twins.main.body.getD i (.Pass ⟨0, 0, 0, 0⟩)
abbrev stCell : Stmt := topSt 40 -- row _law_cell_at
abbrev stPen : Stmt := topSt 41 -- row _law_pen
abbrev stDraw : Stmt := topSt 42 -- row _law_draw

/-! a pen: a list of four ints, the last one below its modulus -/
def PenAt (H : Hp) (p : Addr) : Prop := ∃ a b c d : Int, H p = some (.lst [.int a, .int b, .int c, .int d]) ∧ 0 ≤ d ∧ d < 1000000007
/-- all but p as it was -/
def But (p : Addr) (H H' : Hp) : Prop := ∀ b, b ≠ p → H' b = H b
def spCellAt (K : PySem.W.Frag) : Sp := fun vs H Q _ => ∃ (l : Addr) (ns : List Int) (j : Nat),
  vs = [.ref l, .int (j : Int)] ∧ SqL K H l (ns.map V.int) ∧ ∀ z : Int, Q (.int z) H
def spPenOf : Sp := fun vs H Q _ => ∃ z : Int, vs = [.int z] ∧ ∀ p H', H p = none → PenAt H' p → But p H H' → Q (.ref p) H'
def spDrawn : Sp := fun vs H Q _ => ∃ (p : Addr) (n : Int), vs = [.ref p, .int n] ∧ 0 < n ∧ n < 1073741824 ∧ PenAt H p ∧
  ∀ (r : Int) H', 0 ≤ r → r < n → PenAt H' p → But p H H' → Q (.int r) H'
structure TxtLen (mg : Str → Option Value) : Prop where
  len : mg "len" = none
  int : mg "int" = none
section
variable {P : Program} {w : World} {K : PySem.W.Frag} {mg : Str → Option Value} {base : Heap}
theorem sc_cell : FnScope ["_law_script", "_law_k"] ["_law_script", "_law_k"] (defScope stCell) :=
  ⟨rfl, rfl, rfl, by decide +kernel, rfl, by decide +kernel, by decide +kernel⟩
theorem ok_cell {f : Addr} {fd : FuncData} (F : Fun K "_law_cell_at" "_law_cell_at" stCell f fd) (T : TxtLen mg) :
    FnOk P w K mg base CX0 1 f fd ["_law_script", "_law_k"] (spCellAt K) := by
  refine F.ok sc_cell (fun vs H Q E h => ?_) (fun cdv A outer s H vs Q E hr h => ?_)
  · obtain ⟨l, ns, j, rfl, _⟩ := h
    rfl
  · obtain ⟨l, ns, j, rfl, hS, q⟩ := h
    refine ⟨_, pss_cons (ps_if (pt_cmpR op_lt (pv 1) (pe_callB call_len_seq (by rfl) T.len PySem.boot_len (pa_cons (pv 0) pa_nil)) (nomark _))
      (pss_one (ps_ret (pe_ix ix_list (pv 0) (pv 1) (fun _ _ => rfl)))) pss_nil) (pss_one (ps_ret pe_int)), ?_⟩
    refine ⟨_, rfl, _, rfl, l, _, rfl, .inl hS, _, _, rfl, rfl, _, rfl, ?_⟩
    refine ite2 (fun c => ?_) (fun c => q 0)
    have c' := of_decide_eq_true c
    rw [List.length_map] at c'
    have hj : j < ns.length := by omega
    refine ⟨_, rfl, _, rfl, l, _, _, .int ns[j], rfl, rfl, hS, ?_, q _⟩
    exact atI_nat (by rw [List.getElem?_map, List.getElem?_eq_getElem hj]; rfl)
theorem sc_pen : FnScope ["_law_cell"] ["_law_cell"] (defScope stPen) := ⟨rfl, rfl, rfl, by decide +kernel, rfl, by decide +kernel, by decide +kernel⟩
theorem ok_pen {f : Addr} {fd : FuncData} (F : Fun K "_law_pen" "_law_pen" stPen f fd) (T : TxtLen mg) :
    FnOk P w K mg base CX0 1 f fd ["_law_cell"] spPenOf := by
  refine F.ok sc_pen (fun vs H Q E h => ?_) (fun cdv A outer s H vs Q E hr h => ?_)
  · obtain ⟨z, rfl, _⟩ := h
    rfl
  · obtain ⟨z, rfl, q⟩ := h
    refine ⟨_, pss_one (ps_ret (pe_lst (pa_cons (pv 0) (pa_cons (pe_callTy call_int1 (by rfl) T.int (by decide +kernel)
        (pa_cons (pe_cmpR op_ge (pv 0) (pe_op op_pow pe_int pe_int) (nomark _)) pa_nil))
      (pa_cons pe_int (pa_cons (pe_op op_mod (pv 0) pe_int) pa_nil)))))), ?_⟩
    refine ⟨_, rfl, _, rfl, _, _, rfl, rfl, ⟨by decide, by decide, by decide⟩, _, _, rfl, rfl, .inr ⟨_, rfl, ?_⟩⟩
    refine ⟨_, rfl, _, _, rfl, rfl, (by show (0 : Int) < 1000000007; decide), (by show 4 ≤ sizeLine; decide), fun p hp => ?_⟩
    exact q p _ hp ⟨_, _, _, _, upd_same, Int.emod_nonneg _ (by decide), Int.emod_lt_of_pos _ (by decide)⟩ (fun b hb => upd_ne hb)
end
end Hm
namespace Hm
open PySem L2
section
variable {P : Program} {w : World} {K : PySem.W.Frag} {mg : Str → Option Value} {base : Heap}
theorem sc_draw : FnScope ["_law_pen_here", "_law_bound", "_law_found", "_law_stir"] ["_law_pen_here", "_law_bound"] (defScope stDraw) :=
  ⟨rfl, rfl, rfl, by decide +kernel, rfl, by decide +kernel, by decide +kernel⟩
theorem ok_draw {f : Addr} {fd : FuncData} (F : Fun K "_law_draw" "_law_draw" stDraw f fd) :
    FnOk P w K mg base CX0 1 f fd ["_law_pen_here", "_law_bound"] spDrawn := by
  refine F.ok sc_draw (fun vs H Q E h => ?_) (fun cdv A outer s H vs Q E hr h => ?_)
  · obtain ⟨p, n, rfl, _⟩ := h
    rfl
  · obtain ⟨p, n, rfl, n0, n1, ⟨a, b, c, d, hp, d0, d1⟩, q⟩ := h
    refine ⟨_, pss_cons (ps_if (PW.pt (pw_and (pt_cmpR op_eq (pe_ix ix_list (pv 0) pe_int (fun _ _ => rfl)) pe_int (nomark _))
          (pw_and1 (pt_cmpR op_gt (pe_ix ix_list (pv 0) pe_int (fun _ _ => rfl)) pe_int (nomark _)))))
        (pss_cons (ps_set (i := 2) sc_draw.nd rfl (Or.inl rfl) (pe_op op_mod (pe_ix ix_list (pv 0) pe_int (fun _ _ => rfl)) (pv 1)))
        (pss_cons (ps_asg (pe_op op_fdiv (pe_ix ix_list (pv 0) pe_int (fun _ _ => rfl)) (pv 1)) (pg_sub (pv 0) pe_int set_list))
        (pss_one (ps_ret (pv 2))))) pss_nil)
      (pss_cons (ps_asg (pe_op op_add (pe_ix ix_list (pv 0) pe_int (fun _ _ => rfl)) pe_int) (pg_sub (pv 0) pe_int set_list))
      (pss_cons (ps_set (i := 3) sc_draw.nd rfl (Or.inl rfl)
          (pe_op op_mod (pe_op op_mul (pe_op op_add (pe_ix ix_list (pv 0) pe_int (fun _ _ => rfl)) pe_int) (pe_op op_add pe_int (pe_op op_mul pe_int (pe_ix ix_list (pv 0) pe_int (fun _ _ => rfl))))) pe_int))
      (pss_cons (ps_set (i := 3) sc_draw.nd rfl (Or.inl rfl)
          (pe_op op_mod (pe_op op_add (pe_op op_add (pe_op op_mul (pv 3) (pv 3)) (pe_op op_mul pe_int (pe_ix ix_list (pv 0) pe_int (fun _ _ => rfl)))) pe_int) pe_int))
      (pss_one (ps_ret (pe_op op_mod (pe_op op_fdiv (pe_op op_mod (pe_op op_mul (pv 3) pe_int) pe_int) pe_int) (pv 1))))))), ?_⟩
    have back : ∀ r : Int, 0 ≤ r % n ∧ r % n < n := fun r => ⟨Int.emod_nonneg _ (by omega), Int.emod_lt_of_pos _ n0⟩
    have g0 : ∀ {x y z u : V}, atI [x, y, z, u] 0 = some x := rfl
    -- the test; both ways of it
    refine ⟨_, rfl, p, _, _, _, rfl, rfl, SqL.of hp, rfl, rfl, _, rfl, ?_⟩
    refine (fun slow => ite2 (fun _ => ⟨_, rfl, p, _, _, _, rfl, rfl, SqL.of hp, rfl, _, _, rfl, rfl, _, rfl, ite2 (fun _ => ?fast) (fun _ => slow)⟩) (fun _ => slow)) ?slow
    case fast =>
      refine ⟨_, rfl, p, _, _, _, rfl, rfl, SqL.of hp, rfl, _, rfl, _, _, rfl, rfl, n0, ?_⟩
      refine ⟨_, rfl, p, _, _, _, rfl, rfl, SqL.of hp, rfl, _, rfl, _, _, rfl, rfl, ⟨n0, n1⟩, _, rfl, p, _, _, _, rfl, rfl, hp, rfl, _, rfl, ?_⟩
      exact q _ _ (back _).1 (back _).2 ⟨_, b, c, d, upd_same, d0, d1⟩ (fun b hb => upd_ne hb)
    case slow =>
      refine ⟨_, rfl, p, _, _, _, rfl, rfl, SqL.of hp, rfl, _, _, rfl, rfl, _, rfl, p, _, _, _, rfl, rfl, hp, rfl, ?_⟩
      refine ⟨_, rfl, p, _, _, _, rfl, rfl, SqL.of upd_same, rfl, _, _, rfl, rfl, _, rfl, p, _, _, _, rfl, rfl, SqL.of upd_same, rfl, _, _, rfl, rfl, .inl ⟨by decide, by decide⟩, _, _, rfl, rfl, _, _, rfl, rfl, .inl ⟨by omega, by omega⟩, _, _, rfl, rfl, (by show (0 : Int) < 2147483647; decide), ?_⟩
      generalize hx : ((d + 17) * (69621 + 2 * (c + 1))) % 2147483647 = x
      have x0 : 0 ≤ x := by rw [← hx]; exact Int.emod_nonneg _ (by decide)
      have x1 : x < 2147483647 := by rw [← hx]; exact Int.emod_lt_of_pos _ (by decide)
      refine ⟨_, rfl, _, rfl, _, _, rfl, rfl, .inl ⟨by omega, by omega⟩, _, rfl, p, _, _, _, rfl, rfl, SqL.of upd_same, rfl, _, _, rfl, rfl, .inl ⟨by decide, by decide⟩, _, _, rfl, rfl, _, _, rfl, rfl, _, _, rfl, rfl, (by show (0 : Int) < 2147483629; decide), ?_⟩
      generalize hy : (x * x + 40503 * (c + 1) + 5) % 2147483629 = y
      have y0 : 0 ≤ y := by rw [← hy]; exact Int.emod_nonneg _ (by decide)
      have y1 : y < 2147483629 := by rw [← hy]; exact Int.emod_lt_of_pos _ (by decide)
      refine ⟨_, rfl, _, _, rfl, rfl, .inl ⟨by omega, by omega⟩, _, _, rfl, rfl, (by show (0 : Int) < 2147483647; decide), _, _, rfl, rfl, ⟨by decide, by decide⟩, _, rfl, _, _, rfl, rfl, n0, ?_⟩
      exact q _ _ (back _).1 (back _).2 ⟨a, b, c + 1, d, upd_same, d0, d1⟩ (fun b hb => upd_ne hb)
end
end Hm

set_option Elab.async false
set_option maxRecDepth 100000
set_option maxHeartbeats 4000000
namespace Hm
open PySem PySem.Spec PyProof.Rows L2 HmS
abbrev stList : Stmt := topSt 43 -- row _law_list
theorem seqset {te : TE} {i : Nat} {u : TS} {D : Ends} {σ : L2.St} {H : Hp} (h : te σ H fun x H1 => u D (σ.set i (some x)) H1) : tSeq (tAsg te (gName i)) u D σ H := h
theorem retset {te : TE} {D : Ends} {σ : L2.St} {H : Hp} (h : te σ H D.rt) : tRet te D σ H := h
theorem same_upd {H : Hp} {l : Addr} {o : HO} (h : H l = none) : Same H (upd H l o) := fun b u e => by rw [upd_ne (ne_of_none e h)]; exact e
theorem yesT {σ : L2.St} {H : Hp} {A B : Hp → Prop} (h : A H) : tYes σ H fun b H1 => if b = true then A H1 else B H1 := (if_pos rfl : (if true = true then A H else B H) = A H).mpr h
/-! ### a list of sets, as data and in the heap -/
abbrev SetT := Str × Int × Int
abbrev setLt (s t : SetT) : Prop := s.1.cps.toList < t.1.cps.toList ∨ (s.1 = t.1 ∧ s.2.1 < t.2.1)
def landsL : List Str := ["a", "b", "ab", "abcdefgh"]
structure SetOk (s : SetT) : Prop where
  land : s.1 ∈ landsL
  y0 : 1840 ≤ s.2.1
  y1 : s.2.1 ≤ 2100
  m0 : 1 ≤ s.2.2
  m1 : s.2.2 ≤ 6
structure BookOk (sets : List SetT) : Prop where
  len0 : 1 ≤ sets.length
  len1 : sets.length ≤ 4
  ok : ∀ s ∈ sets, SetOk s
  rise : sets.Pairwise setLt
def SetAt (H : Hp) (a : Addr) (s : SetT) : Prop := H a = some (.tup [.str s.1, .int s.2.1, .int s.2.2])
def Book (H : Hp) (b : Addr) (sets : List SetT) : Prop := BookOk sets ∧ ∃ as : List Addr, H b = some (.tup (as.map V.ref)) ∧ Paired (SetAt H) as sets
/-- what was tracked stays, but at p -/
def Keep (p : Addr) (H H' : Hp) : Prop := ∀ c o, c ≠ p → H c = some o → H' c = some o
theorem Keep.refl {p : Addr} {H : Hp} : Keep p H H := fun _ _ _ e => e
theorem Keep.trans {p : Addr} {H H1 H2 : Hp} (a : Keep p H H1) (b : Keep p H1 H2) : Keep p H H2 := fun c o h e => b c o h (a c o h e)
theorem But.keep {p : Addr} {H H' : Hp} (b : But p H H') : Keep p H H' := fun c o h e => by rw [b c h]; exact e
theorem Same.keep {p : Addr} {H H' : Hp} (s : Same H H') : Keep p H H' := fun c o _ e => s c o e
theorem keep_upd {p a : Addr} {H : Hp} {o : HO} (h : H a = none) : Keep p H (upd H a o) := fun c u _ e => by rw [upd_ne (ne_of_none e h)]; exact e
theorem pen_upd {p a : Addr} {H : Hp} {o : HO} (x : PenAt H p) (h : H a = none) : PenAt (upd H a o) p := by
  obtain ⟨x1, x2, x3, x4, e, r⟩ := x
  exact ⟨x1, x2, x3, x4, by rw [upd_ne (ne_of_none e h)]; exact e, r⟩
theorem pen_ne {p a : Addr} {H : Hp} {o : HO} (x : PenAt H p) (h : H a = some o) (d : ∀ xs, o ≠ .lst xs) : a ≠ p := by
  obtain ⟨x1, x2, x3, x4, e, r⟩ := x
  intro z
  rw [z, e] at h
  exact d _ (Option.some.inj h).symm
theorem pen_ne_none {p a : Addr} {H : Hp} (x : PenAt H p) (h : H a = none) : a ≠ p := by
  obtain ⟨x1, x2, x3, x4, e, r⟩ := x
  intro z
  rw [z, e] at h
  cases h
theorem at_draw {α : Type} {xs : List α} {r : Int} (h0 : 0 ≤ r) (h1 : r < xs.length) : ∃ v, v ∈ xs ∧ atI xs r = some v := by
  have hj : r.toNat < xs.length := by omega
  refine ⟨xs[r.toNat], List.getElem_mem hj, ?_⟩
  have e : ((r.toNat : Nat) : Int) = r := Int.toNat_of_nonneg h0
  have z := atI_nat (List.getElem?_eq_getElem hj)
  rw [e] at z
  exact z
theorem Paired.mp {α β : Type} {F G : α → β → Prop} (h : ∀ a b, F a b → G a b) : ∀ {l : List α} {m : List β}, Paired F l m → Paired G l m
  | _, _, .nil => .nil
  | _, _, .cons a t => .cons (h _ _ a) (Paired.mp h t)
theorem Book.keep {p b : Addr} {H H' : Hp} {sets : List SetT} (k : Keep p H H') (pen : PenAt H p) (x : Book H b sets) : Book H' b sets := by
  obtain ⟨ok, as, e, pr⟩ := x
  exact ⟨ok, as, k _ _ (pen_ne pen e fun _ z => by cases z) e, Paired.mp (fun a s q => k _ _ (pen_ne pen q fun _ z => by cases z) q) pr⟩
theorem Book.same {b : Addr} {H H' : Hp} {sets : List SetT} (k : Same H H') (x : Book H b sets) : Book H' b sets := by
  obtain ⟨ok, as, e, pr⟩ := x
  exact ⟨ok, as, k _ _ e, Paired.mp (fun a s q => k _ _ q) pr⟩
/-! ### the dict of lands and years -/
def entS (s : SetT) : List Key × V := ([Sum.inr s.1, Sum.inl s.2.1], .int s.2.2)
theorem put_ent (ps : List SetT) (l : Str) (y m : Int) : ∃ ps' : List SetT, putK (ps.map entS) [Sum.inr l, Sum.inl y] (.int m) = ps'.map entS ∧ ps'.length ≤ ps.length + 1 ∧ 0 < ps'.length ∧ ∀ s ∈ ps', s ∈ ps ∨ s = (l, y, m) := by
  unfold putK
  by_cases a : ((ps.map entS).any fun kv => decide (kv.1 = [Sum.inr l, Sum.inl y])) = true
  · rw [if_pos a]
    refine ⟨ps.map fun s => if s.1 = l ∧ s.2.1 = y then (l, y, m) else s, ?_, by simp, ?_, fun s hs => ?_⟩
    · rw [List.map_map, List.map_map]
      refine List.map_congr_left fun s _ => ?_
      show (if (entS s).1 = [Sum.inr l, Sum.inl y] then ((entS s).1, V.int m) else entS s) = entS (if s.1 = l ∧ s.2.1 = y then (l, y, m) else s)
      by_cases c : s.1 = l ∧ s.2.1 = y
      · rw [if_pos c, if_pos (by simp [entS, c.1, c.2])]
        simp [entS, c.1, c.2]
      · rw [if_neg c, if_neg (fun z => c (by simpa [entS] using z))]
    · rw [List.length_map]
      cases ps with
      | nil => simp at a
      | cons _ _ => simp
    · obtain ⟨t, ht, rfl⟩ := List.mem_map.mp hs
      by_cases c : t.1 = l ∧ t.2.1 = y
      · rw [if_pos c]
        exact .inr rfl
      · rw [if_neg c]
        exact .inl ht
  · rw [if_neg a]
    refine ⟨ps ++ [(l, y, m)], by rw [List.map_append]; rfl, by simp, by simp, fun s hs => ?_⟩
    rcases List.mem_append.mp hs with h | h
    · exact .inl h
    · exact .inr (List.mem_singleton.mp h)
theorem draw_run {σ : L2.St} {H : Hp} {Q : VK} {p : Addr} {n : Int} (h0 : σ[0]? = some (some (.ref p))) (pen : PenAt H p) (n0 : 0 < n) (n1 : n < 1073741824) (q : ∀ (r : Int) H', 0 ≤ r → r < n → PenAt H' p → But p H H' → Q (.int r) H') :
    tCall spDrawn [] E0 (tCons (tVar 0) (tCons (tC (.int n)) tNil)) σ H Q := ⟨_, h0, p, n, rfl, n0, n1, pen, q⟩
theorem valV_mem {κ : Type} [DecidableEq κ] : ∀ {kvs : List (κ × V)} {k : κ} {v : V}, (kvs.map (·.1)).Nodup → (k, v) ∈ kvs → valV kvs k = some v
  | [], _, _, _, h => by simp at h
  | (k0, v0) :: r, k, v, nd, h => by
    rw [List.map_cons, List.nodup_cons] at nd
    rcases List.mem_cons.mp h with e | h
    · cases e
      exact valV_pos rfl
    · have ne : ¬ k0 = k := fun e => nd.1 (by rw [e]; exact List.mem_map.mpr ⟨_, h, rfl⟩)
      rw [valV_neg ne]
      exact valV_mem nd.2 h
theorem dl_set (s t : SetT) : PySem.W.dataLt (keyD (entS s).1) (keyD (entS t).1) = decide (setLt s t) := by
  show PySem.W.dataLt (.tuple [.str s.1, .int s.2.1]) (.tuple [.str t.1, .int t.2.1]) = _
  rw [PySem.W.dataLt_pair (by simp [PySem.W.alike]) (by simp [PySem.W.alike])]
  by_cases e : s.1 = t.1
  · have e1 : PyData.eqv (.str s.1) (.str t.1) = true := by rw [e]; simp [PyData.eqv]
    rw [if_pos e1]
    by_cases e2 : s.2.1 = t.2.1
    · rw [if_pos (by rw [e2]; simp [PyData.eqv])]
      refine (decide_eq_false ?_).symm
      rintro (z | z)
      · rw [e] at z
        exact absurd z (List.lt_irrefl _)
      · omega
    · rw [if_neg (by simpa [PyData.eqv] using e2), PySem.W.dataLt_int]
      refine decide_eq_decide.mpr ⟨fun z => .inr ⟨e, z⟩, fun z => ?_⟩
      rcases z with z | z
      · rw [e] at z
        exact absurd z (List.lt_irrefl _)
      · exact z.2
  · rw [if_neg (by simpa [PyData.eqv] using e), PySem.W.dataLt_str]
    refine decide_eq_decide.mpr ⟨fun z => .inl z, fun z => ?_⟩
    rcases z with z | z
    · exact z
    · exact absurd z.1 e
theorem set_tri {s t : SetT} (n : ¬ setLt t s) (d : (entS s).1 ≠ (entS t).1) : setLt s t := by
  by_cases e : s.1 = t.1
  · right
    refine ⟨e, ?_⟩
    have h1 : ¬ t.2.1 < s.2.1 := fun z => n (.inr ⟨e.symm, z⟩)
    have h2 : s.2.1 ≠ t.2.1 := fun z => d (by simp [entS, e, z])
    omega
  · left
    have h1 : ¬ t.1.cps.toList < s.1.cps.toList := fun z => n (.inl z)
    exact Std.lt_of_le_of_ne h1 fun z => e (PySem.W.str_of_cps z)
/-- the pairs of a key tuple's address and its set, rising -/
def sortS (bs : List Addr) (ps : List SetT) : List (Addr × SetT) := (bs.zip ps).mergeSort (PySem.W.dataLe false fun z => keyD (entS z.2).1)
theorem sortS_refs (bs : List Addr) (ps : List SetT) : (((bs.zip (ps.map entS)).mergeSort (PySem.W.dataLe false fun z => keyD z.2.1)).map fun z => V.ref z.1) = (sortS bs ps).map fun z => V.ref z.1 := by
  have e : bs.zip (ps.map entS) = (bs.zip ps).map fun z => (z.1, entS z.2) := by
    rw [List.zip_map_right]
    rfl
  unfold sortS
  rw [e, ← PySem.W.sort_maps (r := PySem.W.dataLe false fun z : Addr × SetT => keyD (entS z.2).1) (fun z : Addr × SetT => (z.1, entS z.2)) (fun a _ b _ => rfl), List.map_map]
  rfl
theorem sortS_perm (bs : List Addr) (ps : List SetT) : (sortS bs ps).Perm (bs.zip ps) := List.mergeSort_perm _ _
theorem sortS_sets {bs : List Addr} {ps : List SetT} (hl : bs.length = ps.length) : ((sortS bs ps).map (·.2)).Perm ps := by
  have e := (sortS_perm bs ps).map (·.2)
  rw [List.map_snd_zip (by omega)] at e
  exact e
theorem sortS_rise {bs : List Addr} {ps : List SetT} (hl : bs.length = ps.length) (nd : (ps.map fun s => (entS s).1).Nodup) : ((sortS bs ps).map (·.2)).Pairwise setLt := by
  have h1 : (sortS bs ps).Pairwise (fun a b => PySem.W.dataLe false (fun z : Addr × SetT => keyD (entS z.2).1) a b = true) := PySem.W.sort_pairwise (PySem.W.sortLe_total _ _ _) _
  have h2 : (((sortS bs ps).map (·.2)).map fun s => (entS s).1).Nodup := ((sortS_sets hl).map _).nodup_iff.mpr nd
  rw [List.Nodup, List.pairwise_map, List.pairwise_map] at h2
  rw [List.pairwise_map]
  refine (h1.and h2).imp fun {a b} h => ?_
  have h3 : (!PySem.W.dataLt (keyD (entS b.2).1) (keyD (entS a.2).1)) = true := h.1
  rw [dl_set] at h3
  refine set_tri (fun z => ?_) h.2
  rw [decide_eq_true z] at h3
  cases h3
theorem isKeys_zip {H : Hp} : ∀ {ps : List SetT} {bs : List Addr}, IsKeys H (ps.map entS) bs → bs.length = ps.length ∧ ∀ z ∈ bs.zip ps, H z.1 = some (.tup [.str z.2.1, .int z.2.2.1])
  | [], bs, h => by
    unfold IsKeys at h
    cases h
    exact ⟨rfl, fun z hz => by simp at hz⟩
  | s :: ps, bs, h => by
    unfold IsKeys at h
    cases h with
    | cons h1 h2 =>
      obtain ⟨l, q⟩ := isKeys_zip (ps := ps) h2
      refine ⟨by simp [l], fun z hz => ?_⟩
      rw [List.zip_cons_cons] at hz
      rcases List.mem_cons.mp hz with rfl | hz
      · exact h1
      · exact q z hz
theorem Paired.snoc {α β : Type} {F : α → β → Prop} {a : α} {b : β} (h : F a b) : ∀ {l : List α} {m : List β}, Paired F l m → Paired F (l ++ [a]) (m ++ [b])
  | _, _, .nil => .cons h .nil
  | _, _, .cons x t => .cons x (Paired.snoc h t)
def spListOf : Sp := fun vs H Q _ => ∃ p : Addr, vs = [.ref p] ∧ PenAt H p ∧ ∀ (H' : Hp) (b : Addr) (sets : List SetT), Keep p H H' → PenAt H' p → Book H' b sets → Q (.ref b) H'
structure TxtList (mg : Str → Option Value) (fD : Addr) : Prop where
  range : mg "range" = none
  sorted : mg "sorted" = none
  tuple : mg "tuple" = none
  gD : mg "_law_draw" = some (.ref fD)
section
variable {P : Program} {w : World} {K : PySem.W.Frag} {mg : Str → Option Value} {base : Heap}
abbrev nList : List Str := ["_law_pen_here", "_law_found", "_law_k", "_law_land", "_law_year"]
theorem sc_list : FnScope nList ["_law_pen_here"] (defScope stList) := ⟨rfl, rfl, rfl, by decide +kernel, rfl, by decide +kernel, by decide +kernel⟩
theorem ok_list {f fD : Addr} {fd fdD : FuncData} (F : Fun K "_law_list" "_law_list" stList f fd) (T : TxtList mg fD) (kD : PySem.W.keepIn K (.ref fD) = true)
    (GD : FnOk P w K mg base CX0 1 fD fdD ["_law_pen_here", "_law_bound"] spDrawn) (bD : Binds K fdD ["_law_pen_here", "_law_bound"] []) :
    FnOk P w K mg base CX0 2 f fd ["_law_pen_here"] spListOf := by
  refine F.ok sc_list (fun vs H Q E h => ?_) (fun cdv A outer s H vs Q E hr h => ?_)
  · obtain ⟨p, rfl, _⟩ := h
    rfl
  · obtain ⟨p, rfl, pen, q⟩ := h
    have hu := hu_of hr
    refine ⟨_, pss_cons (ps_set (i := 1) sc_list.nd rfl (Or.inr rfl) pe_dnewT)
      (pss_cons (ps_for PassesOwn.never rfl (pi_range1 (by rfl) T.range (pa_cons (pe_op op_add pe_int (pe_call GD hr (by rfl) T.gD kD bD .nil pass0 (pa_cons (pv 0) (pa_cons pe_int pa_nil)))) pa_nil)) (pg_name (i := 2) sc_list.nd rfl (Or.inl rfl))
        (pss_cons (ps_set (i := 3) sc_list.nd rfl (Or.inl rfl) (pe_ix ix_list (pe_lst (pa_cons pe_str (pa_cons pe_str (pa_cons pe_str (pa_cons pe_str pa_nil))))) (pe_call GD hr (by rfl) T.gD kD bD .nil pass0 (pa_cons (pv 0) (pa_cons pe_int pa_nil))) (fun _ _ => rfl)))
        (pss_cons (ps_set (i := 4) sc_list.nd rfl (Or.inl rfl) (pe_ix ix_list (pe_lst (pa_cons pe_int (pa_cons pe_int (pa_cons pe_int (pa_cons (pe_op op_add pe_int (pe_call GD hr (by rfl) T.gD kD bD .nil pass0 (pa_cons (pv 0) (pa_cons pe_int pa_nil)))) pa_nil)))))
            (pe_call GD hr (by rfl) T.gD kD bD .nil pass0 (pa_cons (pv 0) (pa_cons pe_int pa_nil))) (fun _ _ => rfl)))
        (pss_one (ps_dput hu (pv 1) (pe_tup (pa_cons (pv 3) (pa_cons (pv 4) pa_nil))) (pe_op op_add pe_int (pe_call GD hr (by rfl) T.gD kD bD .nil pass0 (pa_cons (pv 0) (pa_cons (pe_ix ix_list (pe_lst (pa_cons pe_int (pa_cons pe_int pa_nil)))
            (pe_call GD hr (by rfl) T.gD kD bD .nil pass0 (pa_cons (pv 0) (pa_cons pe_int pa_nil))) (fun _ _ => rfl)) pa_nil)))) rfl)))))
      (pss_one (ps_ret (pe_callTy call_tuple_of (by rfl) T.tuple (by decide +kernel) (pa_cons (pe_lc (own := [("_law_land", 3), ("_law_year", 4)]) (g := gTup K 2 (gCons (gName 3) (gCons (gName 4) gNil))) (tt := tYes) rfl sc_list.nd
          (pi_list (pe_callB (cr_sortDT rfl hr.units) (by rfl) T.sorted (by decide +kernel) (pa_cons (pv 1) pa_nil)))
          (blkOk_by (N := nList) (sc := defScope stList) (by decide +kernel)) (fun _ _ _ _ _ => by exact pg_tup rfl (pgs_cons (pg_name (i := 3) sc_list.nd rfl (Or.inl rfl)) (pgs_cons (pg_name (i := 4) sc_list.nd rfl (Or.inl rfl)) pgs_nil)))
          (fun _ _ _ _ _ => pts_nil) (fun _ _ _ _ _ => pe_tup (pa_cons (pv 3) (pa_cons (pv 4) (pa_cons (pe_dget hu (pv 1) (pe_tup (pa_cons (pv 3) (pa_cons (pv 4) pa_nil))) (fun _ _ => rfl)) pa_nil))))) pa_nil))))), ?_⟩
    refine seqset (fun d hd => ?_)
    have pen0 := pen_upd (o := .dT []) pen hd
    have dp : d ≠ p := pen_ne_none pen hd
    have keep : ∀ {H1 H2 : Hp} {o : HO}, H1 d = some o → But p H1 H2 → H2 d = some o := fun e b => by rw [b d dp]; exact e
    refine draw_run rfl pen0 (by decide) (by decide) fun r0 H1 a0 a1 pen1 but1 => ⟨_, _, rfl, rfl, _, rfl, by omega, by omega, ?_⟩
    have k1 : Keep p H H1 := (keep_upd hd).trans but1.keep
    refine for_range (lo := 0) (fun i σ H' => ∃ (ps : List SetT) (v2 v3 v4 : Option V), σ = [some (.ref p), some (.ref d), v2, v3, v4] ∧ Keep p H H' ∧ PenAt H' p ∧ H' d = some (.dT (ps.map entS)) ∧ ps.length ≤ i ∧ (0 < i → 0 < ps.length) ∧ ∀ s ∈ ps, SetOk s)
      ⟨[], none, none, none, rfl, k1, pen1, keep upd_same but1, Nat.le_refl _, fun z => absurd z (Nat.lt_irrefl _), fun s hs => by simp at hs⟩ ?_ ?_
    · rintro i σ H2 hi ⟨ps, v2, v3, v4, rfl, k2, pen2, hd2, hl2, hp2, ok2⟩
      refine seqset ⟨by decide, fun l hl => draw_run rfl (pen_upd pen2 hl) (by decide) (by decide) fun r H3 b0 b1 pen3 but3 => ?_⟩
      obtain ⟨vl, hvl, atl⟩ := at_draw (xs := [V.str "a", V.str "b", V.str "ab", V.str "abcdefgh"]) b0 b1
      obtain ⟨zl, rfl, hzl⟩ : ∃ z, vl = V.str z ∧ z ∈ landsL := by
        simp only [List.mem_cons, List.not_mem_nil, or_false] at hvl
        rcases hvl with rfl | rfl | rfl | rfl <;> exact ⟨_, rfl, by decide +kernel⟩
      refine ⟨l, _, r, _, rfl, rfl, SqL.of (by rw [but3 l (pen_ne_none pen2 hl)]; exact upd_same), atl, ?_⟩
      have k3 : Keep p H H3 := (k2.trans (keep_upd hl)).trans but3.keep
      have hd3 := keep (by rw [upd_ne (ne_of_none hd2 hl)]; exact hd2) but3
      refine seqset (draw_run rfl pen3 (by decide) (by decide) fun ry H4 c0 c1 pen4 but4 => ⟨_, _, rfl, rfl, by show 4 ≤ sizeLine; decide, fun l2 hl2 => draw_run rfl (pen_upd pen4 hl2) (by decide) (by decide) fun r2 H5 d0 d1 pen5 but5 => ?_⟩)
      obtain ⟨vy, hvy, aty⟩ := at_draw (xs := [V.int 1840, V.int 1900, V.int 2100, V.int (1840 + ry)]) d0 d1
      obtain ⟨zy, rfl, hzy⟩ : ∃ z, vy = V.int z ∧ 1840 ≤ z ∧ z ≤ 2100 := by
        simp only [List.mem_cons, List.not_mem_nil, or_false] at hvy
        rcases hvy with rfl | rfl | rfl | rfl <;> exact ⟨_, rfl, by omega, by omega⟩
      refine ⟨l2, _, r2, _, rfl, rfl, SqL.of (by rw [but5 l2 (pen_ne_none pen4 hl2)]; exact upd_same), aty, ?_⟩
      have k5 : Keep p H H5 := ((k3.trans but4.keep).trans (keep_upd hl2)).trans but5.keep
      have hd4 := keep hd3 but4
      have hd5 := keep (by rw [upd_ne (ne_of_none hd4 hl2)]; exact hd4) but5
      refine ⟨_, rfl, by decide, fun l3 hl3 => draw_run rfl (pen_upd pen5 hl3) (by decide) (by decide) fun r3 H6 e0 e1 pen6 but6 => ?_⟩
      obtain ⟨vm, hvm, atm⟩ := at_draw (xs := [V.int 2, V.int 6]) e0 e1
      obtain ⟨zm, rfl, hzm⟩ : ∃ z, vm = V.int z ∧ 0 < z ∧ z ≤ 6 := by
        simp only [List.mem_cons, List.not_mem_nil, or_false] at hvm
        rcases hvm with rfl | rfl <;> exact ⟨_, rfl, by omega, by omega⟩
      refine ⟨l3, _, r3, _, rfl, rfl, SqL.of (by rw [but6 l3 (pen_ne_none pen5 hl3)]; exact upd_same), atm, p, zm, rfl, hzm.1, by omega, pen6, fun m H7 m0 m1 pen7 but7 => ⟨_, _, rfl, rfl, _, rfl, _, rfl, _, rfl, by show 2 ≤ sizeLine; decide, fun t ht => ?_⟩⟩
      have k7 : Keep p H H7 := ((k5.trans (keep_upd hl3)).trans but6.keep).trans but7.keep
      have hd6 := keep (by rw [upd_ne (ne_of_none hd5 hl3)]; exact hd5) but6
      have hd7 := keep hd6 but7
      have hd8 : (upd H7 t (.tup [.str zl, .int zy])) d = some (.dT (ps.map entS)) := by rw [upd_ne (ne_of_none hd7 ht)]; exact hd7
      obtain ⟨ps', e', l', n', o'⟩ := put_ent ps zl zy (1 + m)
      refine ⟨d, _, rfl, DPut.t (k := [Sum.inr zl, Sum.inl zy]) hd8 upd_same (by rw [List.length_map]; exact small1000 (by omega)), ps', _, _, _, rfl, ?_, ?_, ?_, by omega, fun _ => n', fun s hs => ?_⟩
      · intro c o hc e
        have e7 := k7 c o hc e
        rw [upd_ne (ne_of_none e hd), upd_ne (ne_of_none e7 ht)]
        exact e7
      · have z := pen_upd (o := .tup [.str zl, .int zy]) pen7 ht
        obtain ⟨x1, x2, x3, x4, e, rr⟩ := z
        exact ⟨x1, x2, x3, x4, by rw [upd_ne (Ne.symm dp)]; exact e, rr⟩
      · rw [upd_same, e']
      · rcases o' s hs with h | rfl
        · exact ok2 s h
        · exact ⟨hzl, hzy.1, hzy.2, by show 1 ≤ 1 + m; omega, by show 1 + m ≤ 6; omega⟩
    · rintro σ H2 ⟨ps, v2, v3, v4, rfl, k2, pen2, hd2, hl2, hp2, ok2⟩
      have hlen : 1 ≤ ps.length ∧ ps.length ≤ 4 := by
        refine ⟨hp2 (by omega), ?_⟩
        omega
      refine ⟨_, rfl, d, ps.map entS, rfl, Rd.of hd2, by rw [List.length_map]; omega, ?_, ?_, fun l bs hl hik nk => ?_⟩
      · intro x hx y hy
        obtain ⟨z1, m1, rfl⟩ := List.mem_map.mp hx
        obtain ⟨z2, m2, rfl⟩ := List.mem_map.mp hy
        obtain ⟨s1, _, rfl⟩ := List.mem_map.mp m1
        obtain ⟨s2, _, rfl⟩ := List.mem_map.mp m2
        simp [keyD, entS, HmS.kD, PySem.W.alike, PySem.W.alikeAll]
      · intro x hx
        obtain ⟨s1, _, rfl⟩ := List.mem_map.mp hx
        simp [entS]
      rw [sortS_refs]
      obtain ⟨lb, hz⟩ := isKeys_zip hik
      have nd : (ps.map fun s => (entS s).1).Nodup := by
        rw [List.map_map] at nk
        exact nk
      have hzl : (sortS bs ps).length = ps.length := by
        rw [(sortS_perm bs ps).length_eq, List.length_zip]
        omega
      have dl : l ≠ d := fun z => by
        rw [z, hd2] at hl
        cases hl
      refine ⟨l, rfl, ⟨_, SqL.of upd_same⟩, fun D hD => lc_list (K := K) (xs := (sortS bs ps).map fun z => V.ref z.1)
        (fun i H' => Same (upd H2 l (.lst ((sortS bs ps).map fun z => V.ref z.1))) H' ∧ ∃ as : List Addr, H' D = some (.lst (as.map V.ref)) ∧ Paired (SetAt H') as (((sortS bs ps).take i).map (·.2)))
        ⟨same_upd hD, [], upd_same, .nil⟩ (fun i H' _ pv => SqL.of (pv.1 _ _ upd_same)) (fun i x H' hx pv => ?_) (fun H' pv => ?_)⟩
      · obtain ⟨sm, as, hDl, pr⟩ := pv
        rw [List.getElem?_map] at hx
        cases hi : (sortS bs ps)[i]? with
        | none =>
          rw [hi] at hx
          cases hx
        | some z =>
          rw [hi] at hx
          cases hx
          have hm := (sortS_perm bs ps).mem_iff.mp (List.mem_of_getElem? hi)
          have hm2 : z.2 ∈ ps := (List.of_mem_zip hm).2
          have s0 : Same H2 H' := (same_upd hl).trans sm
          have lk : valV (ps.map entS) [Sum.inr z.2.1, Sum.inl z.2.2.1] = some (.int z.2.2.2) := by
            refine valV_mem nk (List.mem_map.mpr ⟨z.2, hm2, rfl⟩)
          refine ⟨z.1, _, rfl, SqT.of (s0 _ _ (hz z hm)), rfl, _, _, rfl, _, _, rfl, rfl, rfl, yesT ?_⟩
          have lAs : as.length ≤ 1000 := by
            rw [Paired.length pr, List.length_map, List.length_take]
            omega
          refine ⟨_, rfl, _, rfl, _, rfl, _, rfl, _, rfl, by show 2 ≤ sizeLine; decide, fun t ht => ⟨d, .int z.2.2.2, rfl, ?_, by show 3 ≤ sizeLine; decide, fun t2 ht2 => ?_⟩⟩
          · rw [← lk]
            exact DGet.t (k := [Sum.inr z.2.1, Sum.inl z.2.2.1]) ((same_upd ht) _ _ (s0 _ _ hd2)) upd_same
          · have s2 : Same H' (upd (upd H' t (.tup [.str z.2.1, .int z.2.2.1])) t2 (.tup [.str z.2.1, .int z.2.2.1, .int z.2.2.2])) := (same_upd ht).trans (same_upd ht2)
            have nD : ∀ {b : Addr} {o : HO}, (upd H2 l (.lst ((sortS bs ps).map fun z => V.ref z.1))) b = some o → b ≠ D := fun e => ne_of_none e hD
            have nT : ∀ {b : Addr} {xs : List V} {G : Hp}, G D = some (.lst (as.map V.ref)) → G b = some (.tup xs) → b ≠ D := fun e1 e2 z => by
              rw [z, e1] at e2
              cases e2
            refine ⟨_, s2 _ _ hDl, by rw [List.length_map]; exact small1000 lAs, ?_, as ++ [t2], by rw [upd_same, List.map_append]; rfl, ?_⟩
            · intro b o e
              rw [upd_ne (nD e)]
              exact s2 _ _ (sm _ _ e)
            · have e2 : (sortS bs ps).take (i + 1) = (sortS bs ps).take i ++ [z] := by rw [List.take_add_one, hi]; rfl
              rw [e2, List.map_append]
              refine Paired.snoc ?_ (Paired.mp (fun a s q => ?_) pr)
              · show upd _ D _ t2 = _
                rw [upd_ne (nT (s2 _ _ hDl) upd_same)]
                exact upd_same
              · show upd _ D _ a = _
                rw [upd_ne (nT hDl q)]
                exact s2 _ _ q
      · obtain ⟨sm, as, hDl, pr⟩ := pv
        rw [List.length_map, List.take_length] at pr
        have s0 : Same H2 H' := (same_upd hl).trans sm
        refine ⟨D, _, rfl, .inl ⟨SqL.of hDl, fun t ht => q _ t ((sortS bs ps).map (·.2)) (k2.trans (Same.keep (s0.trans (same_upd ht)))) ?_ ⟨⟨?_, ?_, ?_, sortS_rise lb nd⟩, as, upd_same, ?_⟩⟩⟩
        · obtain ⟨x1, x2, x3, x4, e, rr⟩ := pen2
          exact ⟨x1, x2, x3, x4, (same_upd ht) _ _ (s0 _ _ e), rr⟩
        · rw [List.length_map, hzl]
          exact hlen.1
        · rw [List.length_map, hzl]
          exact hlen.2
        · intro s hs
          exact ok2 s ((sortS_sets lb).mem_iff.mp hs)
        · exact Paired.mp (fun a s q => (same_upd ht) _ _ q) pr
end
end Hm

set_option Elab.async false
set_option maxRecDepth 100000
set_option maxHeartbeats 4000000
namespace Hm
open PySem PySem.Spec PyProof.Rows L2 HmS
abbrev stPlc : Stmt := topSt 44 -- row _law_places
abbrev stName : Stmt := topSt 45 -- row _law_name
abbrev PlT := Int × Int
def PlAt (H : Hp) (a : Addr) (p : PlT) : Prop := H a = some (.tup [.int p.1, .int p.2])
def rowP (i : Nat) (s : SetT) : List PlT := (List.range s.2.2.toNat).map fun (k : Nat) => (((i : Int), (k : Int)) : PlT)
def placesM : Nat → List SetT → List PlT
  | _, [] => []
  | i, s :: r => rowP i s ++ placesM (i + 1) r
theorem placesM_snoc (s : SetT) : ∀ (l : List SetT) (i : Nat), placesM i (l ++ [s]) = placesM i l ++ rowP (i + l.length) s
  | [], i => by simp [placesM]
  | t :: l, i => by
    show rowP i t ++ placesM (i + 1) (l ++ [s]) = (rowP i t ++ placesM (i + 1) l) ++ rowP (i + (l.length + 1)) s
    rw [placesM_snoc s l (i + 1), List.append_assoc, show i + 1 + l.length = i + (l.length + 1) by omega]
theorem placesM_len : ∀ (l : List SetT) (i : Nat), (∀ s ∈ l, SetOk s) → (placesM i l).length ≤ 6 * l.length ∧ l.length ≤ (placesM i l).length
  | [], i, _ => by simp [placesM]
  | t :: l, i, h => by
    obtain ⟨h1, h2⟩ := placesM_len l (i + 1) fun s hs => h s (List.mem_cons_of_mem _ hs)
    have o := h t List.mem_cons_self
    have e : (rowP i t).length = t.2.2.toNat := by simp [rowP]
    show (rowP i t ++ placesM (i + 1) l).length ≤ 6 * (l.length + 1) ∧ l.length + 1 ≤ (rowP i t ++ placesM (i + 1) l).length
    rw [List.length_append, e]
    have := o.m0
    have := o.m1
    omega
theorem Paired.app {α β : Type} {F : α → β → Prop} {l2 : List α} {m2 : List β} (h : Paired F l2 m2) : ∀ {l : List α} {m : List β}, Paired F l m → Paired F (l ++ l2) (m ++ m2)
  | _, _, .nil => h
  | _, _, .cons x t => .cons x (Paired.app h t)
theorem Paired.gt {α β : Type} {F : α → β → Prop} : ∀ {l : List α} {m : List β} {i : Nat} {b : β}, Paired F l m → m[i]? = some b → ∃ a, l[i]? = some a ∧ F a b
  | _, _, i, b, .nil, h => by simp at h
  | _, _, 0, b, .cons x _, h => by
    cases h
    exact ⟨_, rfl, x⟩
  | _, _, i + 1, b, .cons _ t, h => by
    obtain ⟨a, e, f⟩ := Paired.gt (i := i) t (by simpa using h)
    exact ⟨a, by simpa using e, f⟩
theorem Paired.gl {α β : Type} {F : α → β → Prop} : ∀ {l : List α} {m : List β} {i : Nat} {a : α}, Paired F l m → l[i]? = some a → ∃ b, m[i]? = some b ∧ F a b
  | _, _, i, b, .nil, h => by simp at h
  | _, _, 0, b, .cons x _, h => by
    cases h
    exact ⟨_, rfl, x⟩
  | _, _, i + 1, b, .cons _ t, h => by
    obtain ⟨a, e, f⟩ := Paired.gl (i := i) t (by simpa using h)
    exact ⟨a, by simpa using e, f⟩
theorem same_tup {H H' : Hp} (s : Same H H') {as : List Addr} {ps : List PlT} (p : Paired (PlAt H) as ps) : Paired (PlAt H') as ps := Paired.mp (fun _ _ q => s _ _ q) p
theorem none_of {H H' : Hp} {p : Addr} (s : Same H H') (h : H' p = none) : H p = none := by
  cases e : H p with
  | none => rfl
  | some o => rw [s _ _ e] at h; cases h
def spPlcs : Sp := fun vs H Q _ => ∃ (b : Addr) (sets : List SetT), vs = [.ref b] ∧ Book H b sets ∧ ∀ (H' : Hp) (l : Addr) (as : List Addr), Same H H' → H l = none → H' l = some (.lst (as.map V.ref)) → Paired (PlAt H') as (placesM 0 sets) → Q (.ref l) H'
structure TxtIt (mg : Str → Option Value) : Prop where
  range : mg "range" = none
  enum : mg "enumerate" = none
section
variable {P : Program} {w : World} {K : PySem.W.Frag} {mg : Str → Option Value} {base : Heap}
abbrev nPlc : List Str := ["_law_sets", "_law_found", "_law_at", "_law_land", "_law_year", "_law_many", "_law_number"]
theorem sc_plc : FnScope nPlc ["_law_sets"] (defScope stPlc) := ⟨rfl, rfl, rfl, by decide +kernel, rfl, by decide +kernel, by decide +kernel⟩
theorem ok_plc {f : Addr} {fd : FuncData} (F : Fun K "_law_places" "_law_places" stPlc f fd) (T : TxtIt mg) : FnOk P w K mg base CX0 1 f fd ["_law_sets"] spPlcs := by
  refine F.ok sc_plc (fun vs H Q E h => ?_) (fun cdv A outer s H vs Q E hr h => ?_)
  · obtain ⟨b, sets, rfl, _⟩ := h
    rfl
  · obtain ⟨b, sets, rfl, bk, q⟩ := h
    obtain ⟨ok, bs, hb, pb⟩ := id bk
    refine ⟨_, pss_cons (ps_set (i := 1) sc_plc.nd rfl (Or.inl rfl) (pe_lst pa_nil))
      (pss_cons (ps_for PassesOwn.never rfl (pi_enumT (by rfl) T.enum (pa_cons (pv 0) pa_nil))
          (pg_tup rfl (pgs_cons (pg_name (i := 2) sc_plc.nd rfl (Or.inr rfl)) (pgs_cons (pg_tup rfl (pgs_cons (pg_name (i := 3) sc_plc.nd rfl (Or.inl rfl)) (pgs_cons (pg_name (i := 4) sc_plc.nd rfl (Or.inl rfl)) (pgs_cons (pg_name (i := 5) sc_plc.nd rfl (Or.inl rfl)) pgs_nil)))) pgs_nil)))
        (pss_one (ps_set (i := 1) sc_plc.nd rfl (Or.inl rfl) (pe_op op_cat (pv 1) (pe_lc (own := [("_law_number", 6)]) (g := gName 6) (tt := tYes) rfl sc_plc.nd (pi_range1 (by rfl) T.range (pa_cons (pv 5) pa_nil))
          (blkOk_by (N := nPlc) (sc := defScope stPlc) (by decide +kernel)) (fun _ _ _ _ _ => pg_name (i := 6) sc_plc.nd rfl (Or.inl rfl)) (fun _ _ _ _ _ => pts_nil) (fun _ _ _ _ _ => pe_tup (pa_cons (pv 2) (pa_cons (pv 6) pa_nil))))))))
      (pss_one (ps_ret (pv 1)))), ?_⟩
    refine seqset ⟨by decide, fun l0 hl0 => ?_⟩
    have s0 : Same H (upd H l0 (.lst [])) := same_upd hl0
    refine ⟨_, rfl, b, _, rfl, SqT.of (s0 _ _ hb), for_it (walk_enumT (K := K) (a := b) (xs := bs.map V.ref))
      (fun i σ H' => ∃ (l : Addr) (as : List Addr) (v2 v3 v4 v5 : Option V), σ = [some (.ref b), some (.ref l), v2, v3, v4, v5, none] ∧ Same H H' ∧ H l = none ∧ H' l = some (.lst (as.map V.ref)) ∧ Paired (PlAt H') as (placesM 0 (sets.take i)))
      ⟨l0, [], none, none, none, none, rfl, s0, hl0, upd_same, .nil⟩ (fun i σ H' _ ⟨_, _, _, _, _, _, _, sm, _⟩ => SqT.of (sm _ _ hb)) ?_ ?_⟩
    · rintro i x σ H1 H2 hi ⟨l, as, v2, v3, v4, v5, rfl, sm, nl, hl, pr⟩ ⟨tt, x1, y, rfl, htt, rfl, ex, ey⟩
      cases ex
      have ey : (bs.map V.ref)[i]? = some y := ey
      rw [List.getElem?_map] at ey
      cases hbi : bs[i]? with
      | none =>
        rw [hbi] at ey
        cases ey
      | some bi =>
        rw [hbi] at ey
        cases ey
        obtain ⟨st, hst, hat⟩ := Paired.gl pb hbi
        have okS := ok.ok st (List.mem_of_getElem? hst)
        have s2 := same_upd (o := .tup [.int (i : Nat), .ref bi]) htt
        refine ⟨tt, _, rfl, SqT.of upd_same, rfl, _, _, rfl, _, _, rfl, ⟨bi, _, rfl, SqT.of (s2 _ _ (sm _ _ hat)), rfl, _, _, rfl, _, _, rfl, _, _, rfl, rfl, ?_⟩⟩
        refine ⟨rfl, _, rfl, _, rfl, st.2.2, rfl, by have := okS.m0; omega, by have := okS.m1; omega, fun D hD => lc_range (lo := 0) (n := st.2.2.toNat)
          (fun k H' => Same (upd H1 tt (.tup [.int (i : Nat), .ref bi])) H' ∧ ∃ cs : List Addr, H' D = some (.lst (cs.map V.ref)) ∧ Paired (PlAt H') cs ((List.range k).map fun (k : Nat) => (((i : Int), (k : Int)) : PlT))) ⟨same_upd hD, [], upd_same, .nil⟩ (fun k H' hk pv => ?_) (fun H' pv => ?_)⟩
        · obtain ⟨sk, cs, hDc, pc⟩ := pv
          have lcs : cs.length ≤ 6 := by
            rw [Paired.length pc, List.length_map, List.length_range]
            have := okS.m1
            have := okS.m0
            omega
          refine ⟨rfl, yesT ⟨_, rfl, _, rfl, by show 2 ≤ sizeLine; decide, fun t ht => ⟨cs.map V.ref, (same_upd ht) _ _ hDc, by rw [List.length_map]; exact small1000 (by omega), fun c o e => ?_, cs ++ [t], by rw [upd_same, List.map_append]; rfl, ?_⟩⟩⟩
          · rw [upd_ne (ne_of_none e hD)]
            exact (same_upd ht) _ _ (sk _ _ e)
          · rw [List.range_succ, List.map_append]
            have nT : ∀ {c : Addr} {xs : List V}, H' c = some (.tup xs) → c ≠ D := fun e z => by
              rw [z, hDc] at e
              cases e
            have tD : t ≠ D := fun z => by
              rw [z, hDc] at ht
              cases ht
            refine Paired.snoc ?_ (Paired.mp (fun a s q => ?_) pc)
            · show upd _ D _ t = _
              rw [upd_ne tD, upd_same, Int.zero_add]
            · show upd _ D _ a = _
              rw [upd_ne (nT q)]
              exact (same_upd ht) _ _ q
        · obtain ⟨sk, cs, hDc, pc⟩ := pv
          have s3 : Same H1 H' := s2.trans sk
          have lcs : cs.length ≤ 6 := by
            rw [Paired.length pc, List.length_map, List.length_range]
            have := okS.m1
            have := okS.m0
            omega
          have las : as.length ≤ 24 := by
            have h1 := (placesM_len (sets.take i) 0 fun s hs => ok.ok s (List.mem_of_mem_take hs)).1
            have h2 : (sets.take i).length ≤ 4 := Nat.le_trans (List.length_take_le' _ _) ok.len1
            rw [Paired.length pr]
            omega
          refine ⟨l, D, _, _, rfl, rfl, s3 _ _ hl, hDc, ?_, fun p hp => ⟨p, as ++ cs, _, _, _, _, rfl, (sm.trans s3).trans (same_upd hp), none_of (sm.trans s3) hp, by rw [upd_same, List.map_append], ?_⟩⟩
          · rw [List.length_map, List.length_map, sizeLine_eq]
            omega
          · have e2 : sets.take (i + 1) = sets.take i ++ [st] := by rw [List.take_add_one, hst]; rfl
            have e3 : (sets.take i).length = i := by
              have := (List.getElem?_eq_some_iff.mp hst).1
              rw [List.length_take]
              omega
            rw [e2, placesM_snoc, e3, Nat.zero_add]
            exact Paired.app (same_tup (same_upd hp) pc) (same_tup (s3.trans (same_upd hp)) pr)
    · rintro σ H1 ⟨l, as, v2, v3, v4, v5, rfl, sm, nl, hl, pr⟩
      rw [List.length_map, Paired.length pb, List.take_length] at pr
      exact ⟨_, rfl, q H1 l as sm nl hl pr⟩
end
end Hm

set_option Elab.async false
set_option maxRecDepth 100000
set_option maxHeartbeats 4000000
namespace Hm
open PySem PySem.Spec PyProof.Rows L2 HmS
abbrev stStm : Stmt := topSt 46 -- row _law_stamps
theorem asgset {te : TE} {i : Nat} {D : Ends} {σ : L2.St} {H : Hp} (h : te σ H fun x H1 => D.nx (σ.set i (some x)) H1) : tAsg te (gName i) D σ H := h
abbrev StT := Int × Int × Int
def StAt (H : Hp) (a : Addr) (s : StT) : Prop := H a = some (.tup [.int s.1, .int s.2.1, .int s.2.2])
structure StOk (sets : List SetT) (s : StT) : Prop where
  pl : (s.1, s.2.1) ∈ placesM 0 sets
  g0 : 0 ≤ s.2.2
  g1 : s.2.2 ≤ 1
theorem st_keep {p : Addr} {H H' : Hp} (k : Keep p H H') (pen : PenAt H p) {as : List Addr} {ss : List StT} (x : Paired (StAt H) as ss) : Paired (StAt H') as ss :=
  Paired.mp (fun a s q => k _ _ (pen_ne pen q fun _ z => by cases z) q) x
theorem pl_keep {p : Addr} {H H' : Hp} (k : Keep p H H') (pen : PenAt H p) {as : List Addr} {ss : List PlT} (x : Paired (PlAt H) as ss) : Paired (PlAt H') as ss :=
  Paired.mp (fun a s q => k _ _ (pen_ne pen q fun _ z => by cases z) q) x
theorem st_same {H H' : Hp} (k : Same H H') {as : List Addr} {ss : List StT} (x : Paired (StAt H) as ss) : Paired (StAt H') as ss := Paired.mp (fun a s q => k _ _ q) x
theorem paired_rep {H : Hp} {t : Addr} {s : StT} (h : StAt H t s) : ∀ n, Paired (StAt H) (List.replicate n t) (List.replicate n s)
  | 0 => .nil
  | n + 1 => .cons h (paired_rep h n)
def spStms : Sp := fun vs H Q _ => ∃ (p b : Addr) (m : Int) (sets : List SetT), vs = [.ref p, .ref b, .int m] ∧ 0 ≤ m ∧ m ≤ 100 ∧ PenAt H p ∧ Book H b sets ∧
  ∀ (H' : Hp) (t : Addr) (as : List Addr) (ss : List StT), Keep p H H' → PenAt H' p → H' t = some (.tup (as.map V.ref)) → Paired (StAt H') as ss → (∀ s ∈ ss, StOk sets s) → ss.length ≤ 400 → Q (.ref t) H'
structure TxtStm (mg : Str → Option Value) (fD fP : Addr) : Prop where
  range : mg "range" = none
  len : mg "len" = none
  tuple : mg "tuple" = none
  gD : mg "_law_draw" = some (.ref fD)
  gP : mg "_law_places" = some (.ref fP)
section
variable {P : Program} {w : World} {K : PySem.W.Frag} {mg : Str → Option Value} {base : Heap}
abbrev nStm : List Str := ["_law_pen_here", "_law_sets", "_law_most", "_law_places_here", "_law_found", "_law_k", "_law_place"]
theorem sc_stm : FnScope nStm ["_law_pen_here", "_law_sets", "_law_most"] (defScope stStm) := ⟨rfl, rfl, rfl, by decide +kernel, rfl, by decide +kernel, by decide +kernel⟩
theorem ok_stm {f fD fP : Addr} {fd fdD fdP : FuncData} (F : Fun K "_law_stamps" "_law_stamps" stStm f fd) (T : TxtStm mg fD fP) (kD : PySem.W.keepIn K (.ref fD) = true) (kP : PySem.W.keepIn K (.ref fP) = true)
    (GD : FnOk P w K mg base CX0 1 fD fdD ["_law_pen_here", "_law_bound"] spDrawn) (bD : Binds K fdD ["_law_pen_here", "_law_bound"] [])
    (GP : FnOk P w K mg base CX0 1 fP fdP ["_law_sets"] spPlcs) (bP : Binds K fdP ["_law_sets"] []) :
    FnOk P w K mg base CX0 2 f fd ["_law_pen_here", "_law_sets", "_law_most"] spStms := by
  refine F.ok sc_stm (fun vs H Q E h => ?_) (fun cdv A outer s H vs Q E hr h => ?_)
  · obtain ⟨p, b, m, sets, rfl, _⟩ := h
    rfl
  · obtain ⟨p, b, m, sets, rfl, m0, m1, pen, bk, q⟩ := h
    refine ⟨_, pss_cons (ps_par (i := 3) (j := 4) (by rfl) sc_stm.nd rfl rfl (by decide) rfl rfl (pa_cons (pe_call GP hr (by rfl) T.gP kP bP .nil pass0 (pa_cons (pv 1) pa_nil)) (pa_cons (pe_lst pa_nil) pa_nil)) (by rfl))
      (pss_cons (ps_for PassesOwn.never rfl (pi_range1 (by rfl) T.range (pa_cons (pe_call GD hr (by rfl) T.gD kD bD .nil pass0 (pa_cons (pv 0) (pa_cons (pe_op op_add (pv 2) pe_int) pa_nil))) pa_nil)) (pg_name (i := 5) sc_stm.nd rfl (Or.inl rfl))
        (pss_cons (ps_set (i := 6) sc_stm.nd rfl (Or.inl rfl) (pe_ix ix_list (pv 3) (pe_call GD hr (by rfl) T.gD kD bD .nil pass0 (pa_cons (pv 0) (pa_cons (pe_callB call_len_seq (by rfl) T.len PySem.boot_len (pa_cons (pv 3) pa_nil)) pa_nil))) (fun _ _ => rfl)))
        (pss_one (ps_set (i := 4) sc_stm.nd rfl (Or.inl rfl) (pe_op op_cat (pv 4) (pe_op op_rep (pe_lst (pa_cons (pe_op op_catT (pv 6) (pe_tup (pa_cons (pe_call GD hr (by rfl) T.gD kD bD .nil pass0 (pa_cons (pv 0) (pa_cons pe_int pa_nil))) pa_nil))) pa_nil))
            (pe_ix ix_list (pe_lst (pa_cons pe_int (pa_cons pe_int (pa_cons pe_int (pa_cons pe_int pa_nil))))) (pe_call GD hr (by rfl) T.gD kD bD .nil pass0 (pa_cons (pv 0) (pa_cons pe_int pa_nil))) (fun _ _ => rfl))))))))
      (pss_one (ps_ret (pe_callTy call_tuple_of (by rfl) T.tuple (by decide +kernel) (pa_cons (pv 4) pa_nil))))), ?_⟩
    refine ⟨_, rfl, b, sets, rfl, bk, fun H1 lp ps s1 nlp hlp1 pp1 => ⟨by decide, fun lf hlf => ⟨_, _, rfl, ?_⟩⟩⟩
    have okB := bk.1
    have sA : Same H1 (upd H1 lf (.lst [])) := same_upd hlf
    have lpp : lp ≠ p := pen_ne_none pen nlp
    have pen1 : PenAt (upd H1 lf (.lst [])) p := by
      obtain ⟨x1, x2, x3, x4, e, rr⟩ := pen
      exact ⟨x1, x2, x3, x4, sA _ _ (s1 _ _ e), rr⟩
    have lfp : lf ≠ p := pen_ne_none pen (none_of s1 hlf)
    have plen : 1 ≤ (placesM 0 sets).length ∧ (placesM 0 sets).length ≤ 24 := by
      have := placesM_len sets 0 okB.ok
      have := okB.len0
      have := okB.len1
      omega
    have psl : ps.length = (placesM 0 sets).length := Paired.length pp1
    refine ⟨_, rfl, _, rfl, m, 1, rfl, rfl, p, m + 1, rfl, by omega, by omega, pen1, fun r0 H2 a0 a1 pen2 but2 => ⟨_, rfl, by omega, by omega, ?_⟩⟩
    have kA : Keep p H H2 := (Same.keep (s1.trans sA)).trans but2.keep
    have k12 : Keep p H1 H2 := (Same.keep sA).trans but2.keep
    refine for_range (lo := 0) (fun i σ H' => ∃ (lf : Addr) (as : List Addr) (ss : List StT) (v5 v6 : Option V), σ = [some (.ref p), some (.ref b), some (.int m), some (.ref lp), some (.ref lf), v5, v6] ∧ Keep p H H' ∧ PenAt H' p ∧
        H' lp = some (.lst (ps.map V.ref)) ∧ Paired (PlAt H') ps (placesM 0 sets) ∧ H' lf = some (.lst (as.map V.ref)) ∧ Paired (StAt H') as ss ∧ (∀ s ∈ ss, StOk sets s) ∧ ss.length ≤ 4 * i ∧ lf ≠ p)
      ⟨lf, [], [], none, none, rfl, kA, pen2, k12 _ _ lpp hlp1, pl_keep but2.keep pen1 (same_tup sA pp1), by rw [but2 lf lfp]; exact upd_same, .nil, fun s hs => by simp at hs, Nat.zero_le _, lfp⟩ ?_ ?_
    · rintro i σ H3 hi ⟨lf, as, ss, v5, v6, rfl, k3, pen3, hlp3, pp3, hlf3, st3, ok3, len3, lfp3⟩
      refine seqset ⟨_, rfl, _, rfl, _, rfl, lp, _, rfl, .inl (SqL.of hlp3), p, _, rfl, ?_, ?_, pen3, fun r H4 b0 b1 pen4 but4 => ?_⟩
      · rw [List.length_map]; omega
      · rw [List.length_map]; omega
      rw [List.length_map] at b1
      have hj : r.toNat < ps.length := by omega
      have er : ((r.toNat : Nat) : Int) = r := Int.toNat_of_nonneg b0
      have at4 : atI (ps.map V.ref) r = some (.ref ps[r.toNat]) := by
        have z := atI_nat (xs := ps.map V.ref) (j := r.toNat) (v := .ref ps[r.toNat]) (by rw [List.getElem?_map, List.getElem?_eq_getElem hj]; rfl)
        rw [er] at z
        exact z
      obtain ⟨pl, hpl, hat⟩ := Paired.gl pp3 (List.getElem?_eq_getElem hj)
      have keepL : ∀ {c : Addr} {o : HO} {G G' : Hp}, c ≠ p → G c = some o → But p G G' → G' c = some o := fun d e bt => by rw [bt _ d]; exact e
      have nP : ps[r.toNat] ≠ p := pen_ne pen3 hat fun _ z => by cases z
      have at4' := keepL nP hat but4
      refine ⟨lp, _, r, _, rfl, rfl, SqL.of (keepL lpp hlp3 but4), at4, asgset ⟨_, rfl, _, rfl, draw_run rfl pen4 (by decide) (by decide) fun g H5 g0 g1 pen5 but5 => ⟨by show 1 ≤ sizeLine; decide, fun t1 ht1 => ?_⟩⟩⟩
      have at5 := keepL nP at4' but5
      refine ⟨_, t1, _, _, rfl, rfl, SqT.of ((same_upd ht1) _ _ at5), SqT.of upd_same, by simp, by show 3 ≤ sizeLine; decide, ⟨?_, ?_⟩⟩
      · intro z
        cases z
      intro _ t2 ht2
      refine ⟨by show 1 ≤ sizeLine; decide, fun l1 hl1 => ⟨by show 4 ≤ sizeLine; decide, fun l2 hl2 => ?_⟩⟩
      refine draw_run rfl (pen_upd (pen_upd (pen_upd (pen_upd pen5 ht1) ht2) hl1) hl2) (by decide) (by decide) fun d H6 d0 d1 pen6 but6 => ?_
      have penT1 := pen_upd (o := .tup [.int g]) pen5 ht1
      have penT2 := pen_upd (o := .tup ([.int pl.1, .int pl.2] ++ [.int g])) penT1 ht2
      have penL1 := pen_upd (o := .lst [.ref t2]) penT2 hl1
      have e2 := keepL (pen_ne_none penL1 hl2) upd_same but6
      have e1 := keepL (pen_ne_none penT2 hl1) ((same_upd hl2) _ _ upd_same) but6
      have et := keepL (pen_ne_none penT1 ht2) ((same_upd hl2) _ _ ((same_upd hl1) _ _ upd_same)) but6
      have k36 : Keep p H3 H6 := ((but4.keep.trans but5.keep).trans (Same.keep ((((same_upd ht1).trans (same_upd ht2)).trans (same_upd hl1)).trans (same_upd hl2)))).trans but6.keep
      obtain ⟨z, hz, atz⟩ := at_draw (xs := [V.int 1, V.int 1, V.int 2, V.int 4]) d0 d1
      obtain ⟨k, rfl, hk0, hk1⟩ : ∃ k, z = V.int k ∧ 1 ≤ k ∧ k ≤ 4 := by
        simp only [List.mem_cons, List.not_mem_nil, or_false] at hz
        rcases hz with rfl | rfl | rfl | rfl <;> exact ⟨_, rfl, by omega, by omega⟩
      have hk : k.toNat ≤ 4 := by omega
      have ef : (List.replicate k.toNat [V.ref t2]).flatten = (List.replicate k.toNat t2).map V.ref := by
        rw [List.flatten_replicate_singleton, List.map_replicate]
      have las : as.length ≤ 400 := by
        rw [Paired.length st3]
        omega
      refine ⟨l2, _, d, _, rfl, rfl, SqL.of e2, atz, l1, k, _, rfl, rfl, e1, by omega, by omega, by rw [sizeLine_eq]; simp; omega, fun rp hrp => ?_⟩
      have eLf := k36 _ _ lfp3 hlf3
      refine ⟨lf, rp, _, _, rfl, rfl, (same_upd hrp) _ _ eLf, upd_same, by rw [sizeLine_eq, ef, List.length_map, List.length_map, List.length_replicate]; omega, fun q2 hq2 => ?_⟩
      have s6 : Same H6 (upd (upd H6 rp (.lst (List.replicate k.toNat [V.ref t2]).flatten)) q2 (.lst (as.map V.ref ++ (List.replicate k.toNat [V.ref t2]).flatten))) := (same_upd hrp).trans (same_upd hq2)
      have et2 : StAt H6 t2 (pl.1, pl.2, g) := et
      refine ⟨q2, as ++ List.replicate k.toNat t2, ss ++ List.replicate k.toNat (pl.1, pl.2, g), _, _, rfl, k3.trans (k36.trans (Same.keep s6)), pen_upd (pen_upd pen6 hrp) hq2, s6 _ _ (k36 _ _ lpp hlp3), ?_, by rw [upd_same, ef, List.map_append], ?_, ?_, ?_, pen_ne_none (pen_upd pen6 hrp) hq2⟩
      · exact same_tup s6 (pl_keep k36 pen3 pp3)
      · exact Paired.app (st_same s6 (paired_rep et2 _)) (st_same s6 (st_keep k36 pen3 st3))
      · intro s hs
        rcases List.mem_append.mp hs with h | h
        · exact ok3 s h
        · obtain rfl := (List.mem_replicate.mp h).2
          exact ⟨List.mem_of_getElem? hpl, g0, by show g ≤ 1; omega⟩
      · rw [List.length_append, List.length_replicate]
        omega
    · rintro σ H3 ⟨lf, as, ss, v5, v6, rfl, k3, pen3, hlp3, pp3, hlf3, st3, ok3, len3, lfp3⟩
      refine ⟨_, rfl, lf, _, rfl, .inl ⟨SqL.of hlf3, fun t ht => q _ t as ss (k3.trans (keep_upd ht)) (pen_upd pen3 ht) upd_same (st_same (same_upd ht) st3) ok3 (by omega)⟩⟩
end
end Hm

set_option Elab.async false
set_option maxRecDepth 100000
set_option maxHeartbeats 4000000
namespace Hm
open PySem PySem.Spec PyProof.Rows L2 HmS
abbrev stCnt : Stmt := topSt 47 -- row _law_counts
/-! ### counts: what a dict of stamps holds -/
abbrev CtT := List (StT × Int)
def keyS (s : StT) : List Key := [.inl s.1, .inl s.2.1, .inl s.2.2]
theorem keyS_inj {s t : StT} (h : keyS s = keyS t) : s = t := by
  simp only [keyS, List.cons.injEq, Sum.inl.injEq, and_true] at h
  exact Prod.ext h.1 (Prod.ext h.2.1 h.2.2)
def entC (c : StT × Int) : List Key × V := (keyS c.1, .int c.2)
def getC : CtT → StT → Option Int
  | [], _ => none
  | (t, n) :: r, s => if t = s then some n else getC r s
theorem valV_ent : ∀ (cs : CtT) (s : StT), valV (cs.map entC) (keyS s) = (getC cs s).map V.int
  | [], _ => rfl
  | (t, n) :: r, s => by
    rw [List.map_cons, getC]
    by_cases c : t = s
    · rw [if_pos c]
      exact valV_pos (by rw [c]; rfl)
    · rw [if_neg c]
      rw [show entC (t, n) = (keyS t, V.int n) from rfl, valV_neg (fun z => c (keyS_inj z))]
      exact valV_ent r s
def putC (cs : CtT) (s : StT) (m : Int) : CtT := if cs.any (fun c => decide (c.1 = s)) then cs.map (fun c => if c.1 = s then (c.1, m) else c) else cs ++ [(s, m)]
theorem put_entC (cs : CtT) (s : StT) (m : Int) : putK (cs.map entC) (keyS s) (.int m) = (putC cs s m).map entC := by
  have ea : ((cs.map entC).any fun kv => decide (kv.1 = keyS s)) = cs.any fun c => decide (c.1 = s) := by
    rw [List.any_map]
    congr 1
    funext c
    show decide (keyS c.1 = keyS s) = decide (c.1 = s)
    exact decide_eq_decide.mpr ⟨keyS_inj, fun z => by rw [z]⟩
  unfold putK putC
  rw [ea]
  by_cases a : (cs.any fun c => decide (c.1 = s)) = true
  · rw [if_pos a, if_pos a, List.map_map, List.map_map]
    refine List.map_congr_left fun c _ => ?_
    show (if (entC c).1 = keyS s then ((entC c).1, V.int m) else entC c) = entC (if c.1 = s then (c.1, m) else c)
    by_cases e : c.1 = s
    · rw [if_pos e, if_pos (by show keyS c.1 = keyS s; rw [e])]
      rfl
    · rw [if_neg e, if_neg (show ¬ (entC c).1 = keyS s from fun z => e (keyS_inj z))]
  · rw [if_neg a, if_neg a, List.map_append]
    rfl
def bump (cs : CtT) (s : StT) : CtT := putC cs s ((getC cs s).getD 0 + 1)
def countsM (ss : List StT) : CtT := ss.foldl bump []
theorem putC_len (cs : CtT) (s : StT) (m : Int) : (putC cs s m).length ≤ cs.length + 1 := by
  unfold putC
  split <;> simp
theorem foldl_len : ∀ (ss : List StT) (cs : CtT), (ss.foldl bump cs).length ≤ cs.length + ss.length
  | [], cs => by simp
  | s :: r, cs => by
    have h := foldl_len r (bump cs s)
    have h2 := putC_len cs s ((getC cs s).getD 0 + 1)
    rw [List.foldl_cons, List.length_cons]
    have e : (bump cs s).length ≤ cs.length + 1 := h2
    omega
theorem countsM_len (ss : List StT) : (countsM ss).length ≤ ss.length := by
  have := foldl_len ss []
  simpa [countsM] using this
theorem getC_mem : ∀ {cs : CtT} {s : StT} {n : Int}, getC cs s = some n → (s, n) ∈ cs
  | (t, k) :: r, s, n, h => by
    unfold getC at h
    by_cases c : t = s
    · rw [if_pos c] at h
      cases h
      rw [c]
      exact List.mem_cons_self
    · rw [if_neg c] at h
      exact List.mem_cons_of_mem _ (getC_mem h)
theorem getC_none : ∀ {cs : CtT} {s : StT}, getC cs s = none → ∀ c ∈ cs, c.1 ≠ s
  | [], s, h, c, hc => by simp at hc
  | (t, k) :: r, s, h, c, hc => by
    unfold getC at h
    by_cases e : t = s
    · rw [if_pos e] at h
      cases h
    · rw [if_neg e] at h
      rcases List.mem_cons.mp hc with rfl | hc
      · exact e
      · exact getC_none h c hc
theorem getC_of : ∀ {cs : CtT} {s : StT} {n : Int}, (cs.map (·.1)).Nodup → (s, n) ∈ cs → getC cs s = some n
  | (t, k) :: r, s, n, nd, h => by
    rw [List.map_cons, List.nodup_cons] at nd
    unfold getC
    rcases List.mem_cons.mp h with e | h
    · cases e
      rw [if_pos rfl]
    · have ne : ¬ t = s := fun e => nd.1 (by rw [e]; exact List.mem_map.mpr ⟨_, h, rfl⟩)
      rw [if_neg ne]
      exact getC_of nd.2 h
/-- a count of good stamps, each there -/
structure CtOk (sets : List SetT) (cs : CtT) : Prop where
  nd : (cs.map (·.1)).Nodup
  pos : ∀ c ∈ cs, 1 ≤ c.2
  st : ∀ c ∈ cs, StOk sets c.1
theorem CtOk.bump {sets : List SetT} {cs : CtT} (h : CtOk sets cs) {s : StT} (hs : StOk sets s) : CtOk sets (bump cs s) := by
  have g0 : 0 ≤ (getC cs s).getD 0 := by
    cases e : getC cs s with
    | none => exact Int.le_refl _
    | some n =>
      have := h.pos _ (getC_mem e)
      show 0 ≤ n
      have h2 : 1 ≤ n := this
      omega
  unfold Hm.bump putC
  by_cases a : (cs.any fun c => decide (c.1 = s)) = true
  · rw [if_pos a]
    have e1 : (cs.map (fun c => if c.1 = s then (c.1, (getC cs s).getD 0 + 1) else c)).map (·.1) = cs.map (·.1) := by
      rw [List.map_map]
      refine List.map_congr_left fun c _ => ?_
      show (if c.1 = s then (c.1, (getC cs s).getD 0 + 1) else c).1 = c.1
      split <;> rfl
    refine ⟨by rw [e1]; exact h.nd, fun c hc => ?_, fun c hc => ?_⟩
    · obtain ⟨d, hd, rfl⟩ := List.mem_map.mp hc
      by_cases e : d.1 = s
      · rw [if_pos e]
        show 1 ≤ (getC cs s).getD 0 + 1
        omega
      · rw [if_neg e]
        exact h.pos d hd
    · obtain ⟨d, hd, rfl⟩ := List.mem_map.mp hc
      by_cases e : d.1 = s
      · rw [if_pos e]
        exact h.st d hd
      · rw [if_neg e]
        exact h.st d hd
  · rw [if_neg a]
    have no : s ∉ cs.map (·.1) := by
      intro z
      obtain ⟨d, hd, e⟩ := List.mem_map.mp z
      exact a (List.any_eq_true.mpr ⟨d, hd, decide_eq_true e⟩)
    refine ⟨?_, fun c hc => ?_, fun c hc => ?_⟩
    · rw [List.map_append, List.nodup_append]
      refine ⟨h.nd, by simp, fun x hx y hy => ?_⟩
      have ey : y = s := by simpa using hy
      rw [ey]
      exact fun z => no (by rw [← z]; exact hx)
    · rcases List.mem_append.mp hc with hc | hc
      · exact h.pos c hc
      · rw [List.mem_singleton.mp hc]
        show 1 ≤ (getC cs s).getD 0 + 1
        omega
    · rcases List.mem_append.mp hc with hc | hc
      · exact h.st c hc
      · rw [List.mem_singleton.mp hc]
        exact hs
theorem countsM_ok {sets : List SetT} : ∀ (ss : List StT) (cs : CtT), CtOk sets cs → (∀ s ∈ ss, StOk sets s) → CtOk sets (ss.foldl bump cs)
  | [], cs, h, _ => h
  | s :: r, cs, h, o => by
    rw [List.foldl_cons]
    exact countsM_ok r _ (h.bump (o s List.mem_cons_self)) fun t ht => o t (List.mem_cons_of_mem _ ht)
theorem CtOk.of {sets : List SetT} {ss : List StT} (o : ∀ s ∈ ss, StOk sets s) : CtOk sets (countsM ss) :=
  countsM_ok ss [] ⟨by simp, fun c hc => by simp at hc, fun c hc => by simp at hc⟩ o
theorem countsM_snoc (ss : List StT) (s : StT) : countsM (ss ++ [s]) = bump (countsM ss) s := by simp [countsM, List.foldl_append]
def spCnts : Sp := fun vs H Q _ => ∃ (t : Addr) (as : List Addr) (ss : List StT), vs = [.ref t] ∧ H t = some (.tup (as.map V.ref)) ∧ Paired (StAt H) as ss ∧ ss.length ≤ 400 ∧
  ∀ (H' : Hp) (d : Addr), Same H H' → H d = none → H' d = some (.dT ((countsM ss).map entC)) → Q (.ref d) H'
section
variable {P : Program} {w : World} {K : PySem.W.Frag} {mg : Str → Option Value} {base : Heap}
abbrev nCnt : List Str := ["_law_stamps_here", "_law_found", "_law_stamp"]
theorem sc_cnt : FnScope nCnt ["_law_stamps_here"] (defScope stCnt) := ⟨rfl, rfl, rfl, by decide +kernel, rfl, by decide +kernel, by decide +kernel⟩
theorem ok_cnt {f : Addr} {fd : FuncData} (F : Fun K "_law_counts" "_law_counts" stCnt f fd) : FnOk P w K mg base CX0 1 f fd ["_law_stamps_here"] spCnts := by
  refine F.ok sc_cnt (fun vs H Q E h => ?_) (fun cdv A outer s H vs Q E hr h => ?_)
  · obtain ⟨t, as, ss, rfl, _⟩ := h
    rfl
  · obtain ⟨t, as, ss, rfl, ht, pr, hz, q⟩ := h
    have hu := hu_of hr
    refine ⟨_, pss_cons (ps_set (i := 1) sc_cnt.nd rfl (Or.inl rfl) pe_dnewT)
      (pss_cons (ps_for PassesOwn.never rfl (pi_tup (pv 0)) (pg_name (i := 2) sc_cnt.nd rfl (Or.inl rfl))
        (pss_one (ps_dput hu (pv 1) (pv 2) (pe_op op_add (pe_dget2 hu (pv 1) (pv 2) pe_int ⟨rfl, rfl, rfl, rfl⟩) pe_int) rfl)))
      (pss_one (ps_ret (pv 1)))), ?_⟩
    refine seqset (fun d hd => ?_)
    have s0 : Same H (upd H d (.dT [])) := same_upd hd
    refine ⟨_, rfl, t, rfl, ⟨_, SqT.of (s0 _ _ ht)⟩, for_tup (xs := as.map V.ref) (fun i σ H' => ∃ v2, σ = [some (.ref t), some (.ref d), v2] ∧ Same H H' ∧ H' d = some (.dT ((countsM (ss.take i)).map entC)))
      ⟨none, rfl, s0, upd_same⟩ (fun i σ H' _ ⟨_, _, sm, _⟩ => SqT.of (sm _ _ ht)) ?_ ?_⟩
    · rintro i x σ H1 hx ⟨v2, rfl, sm, hdi⟩
      rw [List.getElem?_map] at hx
      cases hbi : as[i]? with
      | none =>
        rw [hbi] at hx
        cases hx
      | some a =>
        rw [hbi] at hx
        cases hx
        obtain ⟨st, hst, hat⟩ := Paired.gl pr hbi
        have hi : i < ss.length := (List.getElem?_eq_some_iff.mp hst).1
        have at1 := sm _ _ hat
        have il : (countsM (ss.take i)).length ≤ 400 := by
          have := countsM_len (ss.take i)
          rw [List.length_take] at this
          omega
        have gt : DGet H1 d (.ref a) (valV ((countsM (ss.take i)).map entC) (keyS st)) := DGet.t hdi at1
        rw [valV_ent] at gt
        refine ⟨_, rfl, d, rfl, .inr ⟨_, .inl hdi⟩, _, rfl, _, gt, ?_⟩
        have ev : ((getC (countsM (ss.take i)) st).map V.int).getD (.int 0) = .int ((getC (countsM (ss.take i)) st).getD 0) := by
          cases getC (countsM (ss.take i)) st <;> rfl
        rw [ev]
        refine ⟨_, _, rfl, rfl, _, rfl, _, rfl, d, _, rfl, DPut.t (k := keyS st) hdi at1 (by rw [List.length_map]; exact small1000 (by omega)), _, rfl, ?_, ?_⟩
        · intro b o e
          have hb : b ≠ d := ne_of_none e hd
          rw [upd_ne hb]
          exact sm _ _ e
        · rw [upd_same, put_entC]
          have e2 : ss.take (i + 1) = ss.take i ++ [st] := by rw [List.take_add_one, hst]; rfl
          rw [e2, countsM_snoc]
          rfl
    · rintro σ H1 ⟨v2, rfl, sm, hdi⟩
      rw [List.length_map, Paired.length pr, List.take_length] at hdi
      exact ⟨_, rfl, q H1 d sm hd hdi⟩
end
end Hm

set_option Elab.async false
set_option maxRecDepth 100000
set_option maxHeartbeats 4000000
namespace Hm
open PySem PySem.Spec PyProof.Rows L2 HmS
abbrev stHas : Stmt := topSt 49 -- row _law_has
abbrev stGap : Stmt := topSt 50 -- row _law_gaps
/-! ### rising by stamps -/
def rowI (s : StT) : List Int := [s.1, s.2.1, s.2.2]
theorem rowI_inj {s t : StT} (h : rowI s = rowI t) : s = t := by
  simp only [rowI, List.cons.injEq, and_true] at h
  exact Prod.ext h.1 (Prod.ext h.2.1 h.2.2)
theorem dl_st (s t : StT) : PySem.W.dataLt (keyD (keyS s)) (keyD (keyS t)) = decide (rowI s < rowI t) := by
  show PySem.W.dataLt (.tuple ((rowI s).map PyData.int)) (.tuple ((rowI t).map PyData.int)) = _
  rw [PySem.W.dataLt_tuple]
  exact PySem.W.dataLt_ints (rowI s) (rowI t)
def riseM (cs : CtT) : CtT := cs.mergeSort (PySem.W.dataLe false fun c => keyD (keyS c.1))
def stLt (a b : StT × Int) : Prop := rowI a.1 < rowI b.1
theorem riseM_perm (cs : CtT) : (riseM cs).Perm cs := List.mergeSort_perm _ _
theorem riseM_rise {cs : CtT} (nd : (cs.map (·.1)).Nodup) : (riseM cs).Pairwise stLt := by
  have h1 : (riseM cs).Pairwise (fun a b => PySem.W.dataLe false (fun c : StT × Int => keyD (keyS c.1)) a b = true) := PySem.W.sort_pairwise (PySem.W.sortLe_total _ _ _) _
  have h2 : ((riseM cs).map (·.1)).Nodup := ((riseM_perm cs).map _).nodup_iff.mpr nd
  rw [List.Nodup, List.pairwise_map] at h2
  refine (h1.and h2).imp fun {a b} h => ?_
  have h3 : (!PySem.W.dataLt (keyD (keyS b.1)) (keyD (keyS a.1))) = true := h.1
  rw [dl_st] at h3
  have h4 : ¬ rowI b.1 < rowI a.1 := fun z => by rw [decide_eq_true z] at h3; cases h3
  exact Std.lt_of_le_of_ne h4 fun z => h.2 (rowI_inj z)
theorem stLt_irr {a : StT × Int} : ¬ stLt a a := List.lt_irrefl _
theorem stLt_asym {a b : StT × Int} (h : stLt a b) (h' : stLt b a) : False := List.lt_irrefl _ (List.lt_trans h h')
def kcC (c : StT × Int) : List Key × Int := (keyS c.1, c.2)
theorem kcC_inj {a b : StT × Int} (h : kcC a = kcC b) : a = b := by
  have h1 := congrArg Prod.fst h
  have h2 := congrArg Prod.snd h
  exact Prod.ext (keyS_inj h1) h2
theorem al_st (s t : StT) : PySem.W.alike (keyD (keyS s)) (keyD (keyS t)) = true := by simp [keyD, keyS, HmS.kD, PySem.W.alike, PySem.W.alikeAll]
theorem eqv_st {s t : StT} (h : s ≠ t) : PyData.eqv (keyD (keyS s)) (keyD (keyS t)) = false := by
  cases e : PyData.eqv (keyD (keyS s)) (keyD (keyS t)) with
  | false => rfl
  | true =>
    refine absurd ?_ h
    simp [keyD, keyS, HmS.kD, PyData.eqv, PyData.eqvAll] at e
    exact Prod.ext e.1 (Prod.ext e.2.1 e.2.2)
theorem sortC_rise {cs : CtT} (nd : (cs.map (·.1)).Nodup) : sortC (cs.map kcC) = (riseM cs).map kcC := by
  have e : sortC (cs.map kcC) = (cs.mergeSort (PySem.W.dataLe false fun c => encC (kcC c))).map kcC := by
    unfold sortC
    exact (PySem.W.sort_maps (r := PySem.W.dataLe false fun c : StT × Int => encC (kcC c)) kcC (fun a _ b _ => rfl)).symm
  rw [e]
  congr 1
  have hp : (cs.mergeSort (PySem.W.dataLe false fun c => encC (kcC c))).Perm cs := List.mergeSort_perm _ _
  refine List.Perm.eq_of_pairwise (le := stLt) (fun a b _ _ h h' => (stLt_asym h h').elim) ?_ (riseM_rise nd) (hp.trans (riseM_perm cs).symm)
  have h1 : (cs.mergeSort (PySem.W.dataLe false fun c => encC (kcC c))).Pairwise (fun a b => PySem.W.dataLe false (fun c : StT × Int => encC (kcC c)) a b = true) := PySem.W.sort_pairwise (PySem.W.sortLe_total _ _ _) _
  have h2 : ((cs.mergeSort (PySem.W.dataLe false fun c => encC (kcC c))).map (·.1)).Nodup := (hp.map _).nodup_iff.mpr nd
  rw [List.Nodup, List.pairwise_map] at h2
  refine (h1.and h2).imp fun {a b} h => ?_
  have h3 : (!PySem.W.dataLt (encC (kcC b)) (encC (kcC a))) = true := h.1
  have h5 : PySem.W.dataLt (encC (kcC b)) (encC (kcC a)) = decide (rowI b.1 < rowI a.1) := by
    show PySem.W.dataLt (.tuple [keyD (keyS b.1), .int b.2]) (.tuple [keyD (keyS a.1), .int a.2]) = _
    rw [PySem.W.dataLt_pair (al_st _ _) (by simp [PySem.W.alike]), eqv_st (Ne.symm h.2), if_neg Bool.false_ne_true, dl_st]
  rw [h5] at h3
  have h4 : ¬ rowI b.1 < rowI a.1 := fun z => by rw [decide_eq_true z] at h3; cases h3
  exact Std.lt_of_le_of_ne h4 fun z => h.2 (rowI_inj z)
/-! ### has, gaps -/
def cntM (cs : CtT) (s : StT) : Int := (getC cs s).getD 0
def hasM (cs : CtT) (p : PlT) : Bool := decide (cntM cs (p.1, p.2, 0) + cntM cs (p.1, p.2, 1) > 0)
def manyM (sets : List SetT) (i : Nat) : Nat := ((sets[i]?).map fun s => s.2.2.toNat).getD 0
def gapsM (sets : List SetT) (cs : CtT) (i : Nat) : List Int := ((List.range (manyM sets i)).map fun (k : Nat) => (k : Int)).filter fun k => !hasM cs ((i : Int), k)
theorem getD_ev (cs : CtT) (s : StT) : ((getC cs s).map V.int).getD (.int 0) = .int (cntM cs s) := by
  unfold cntM
  cases getC cs s <;> rfl
def spHas : Sp := fun vs H Q _ => ∃ (d p : Addr) (cs : CtT) (pl : PlT), vs = [.ref d, .ref p] ∧ H d = some (.dT (cs.map entC)) ∧ PlAt H p pl ∧ ∀ (H' : Hp), Same H H' → Q (.bl (hasM cs pl)) H'
def spGap : Sp := fun vs H Q _ => ∃ (b d : Addr) (i : Nat) (sets : List SetT) (cs : CtT), vs = [.ref b, .ref d, .int (i : Int)] ∧ Book H b sets ∧ i < sets.length ∧ H d = some (.dT (cs.map entC)) ∧
  ∀ (H' : Hp) (l : Addr), Same H H' → H l = none → H' l = some (.lst ((gapsM sets cs i).map V.int)) → Q (.ref l) H'
structure TxtGap (mg : Str → Option Value) (fH : Addr) : Prop where
  range : mg "range" = none
  gH : mg "_law_has" = some (.ref fH)
section
variable {P : Program} {w : World} {K : PySem.W.Frag} {mg : Str → Option Value} {base : Heap}
abbrev nHas : List Str := ["_law_counts_here", "_law_place"]
theorem sc_has : FnScope nHas ["_law_counts_here", "_law_place"] (defScope stHas) := ⟨rfl, rfl, rfl, by decide +kernel, rfl, by decide +kernel, by decide +kernel⟩
theorem ok_has {f : Addr} {fd : FuncData} (F : Fun K "_law_has" "_law_has" stHas f fd) : FnOk P w K mg base CX0 1 f fd ["_law_counts_here", "_law_place"] spHas := by
  refine F.ok sc_has (fun vs H Q E h => ?_) (fun cdv A outer s H vs Q E hr h => ?_)
  · obtain ⟨d, p, cs, pl, rfl, _⟩ := h
    rfl
  · obtain ⟨d, p, cs, pl, rfl, hd, hp, q⟩ := h
    have hu := hu_of hr
    refine ⟨_, pss_one (ps_ret (pe_cmpR op_gt (pe_op op_add (pe_dget2 hu (pv 0) (pe_op op_catT (pv 1) (pe_tup (pa_cons pe_int pa_nil))) pe_int ⟨rfl, rfl, rfl, rfl⟩)
      (pe_dget2 hu (pv 0) (pe_op op_catT (pv 1) (pe_tup (pa_cons pe_int pa_nil))) pe_int ⟨rfl, rfl, rfl, rfl⟩)) pe_int (nomark _))), ?_⟩
    refine ⟨_, rfl, d, rfl, .inr ⟨_, .inl hd⟩, _, rfl, by show 1 ≤ sizeLine; decide, fun t1 h1 => ⟨_, t1, _, _, rfl, rfl, SqT.of ((same_upd h1) _ _ hp), SqT.of upd_same, by simp, by show 3 ≤ sizeLine; decide, ⟨fun z => (by cases z), fun _ t2 h2 => ?_⟩⟩⟩
    have s2 : Same H _ := (same_upd (o := .tup [V.int 0]) h1).trans (same_upd (o := .tup ([V.int pl.1, V.int pl.2] ++ [V.int 0])) h2)
    have g1 := DGet.t (k := keyS (pl.1, pl.2, 0)) (s2 _ _ hd) upd_same
    rw [valV_ent] at g1
    refine ⟨_, g1, ?_⟩
    rw [getD_ev]
    refine ⟨_, rfl, d, rfl, .inr ⟨_, .inl (s2 _ _ hd)⟩, _, rfl, by show 1 ≤ sizeLine; decide, fun t3 h3 => ⟨_, t3, _, _, rfl, rfl, SqT.of ((same_upd h3) _ _ (s2 _ _ hp)), SqT.of upd_same, by simp, by show 3 ≤ sizeLine; decide, ⟨fun z => (by cases z), fun _ t4 h4 => ?_⟩⟩⟩
    have s4 : Same H _ := (s2.trans (same_upd (o := .tup [V.int 1]) h3)).trans (same_upd (o := .tup ([V.int pl.1, V.int pl.2] ++ [V.int 1])) h4)
    have g2 := DGet.t (k := keyS (pl.1, pl.2, 1)) (s4 _ _ hd) upd_same
    rw [valV_ent] at g2
    refine ⟨_, g2, ?_⟩
    rw [getD_ev]
    exact ⟨_, _, rfl, rfl, _, _, rfl, rfl, q _ s4⟩
abbrev nGap : List Str := ["_law_sets", "_law_counts_here", "_law_at", "_law_number"]
theorem sc_gap : FnScope nGap ["_law_sets", "_law_counts_here", "_law_at"] (defScope stGap) := ⟨rfl, rfl, rfl, by decide +kernel, rfl, by decide +kernel, by decide +kernel⟩
theorem ok_gap {f fH : Addr} {fd fdH : FuncData} (F : Fun K "_law_gaps" "_law_gaps" stGap f fd) (T : TxtGap mg fH) (kH : PySem.W.keepIn K (.ref fH) = true)
    (GH : FnOk P w K mg base CX0 1 fH fdH ["_law_counts_here", "_law_place"] spHas) (bH : Binds K fdH ["_law_counts_here", "_law_place"] []) :
    FnOk P w K mg base CX0 2 f fd ["_law_sets", "_law_counts_here", "_law_at"] spGap := by
  refine F.ok sc_gap (fun vs H Q E h => ?_) (fun cdv A outer s H vs Q E hr h => ?_)
  · obtain ⟨b, d, i, sets, cs, rfl, _⟩ := h
    rfl
  · obtain ⟨b, d, i, sets, cs, rfl, bk, hi, hd, q⟩ := h
    obtain ⟨ok, bs, hb, pb⟩ := id bk
    refine ⟨_, pss_one (ps_ret (pe_lc (own := [("_law_number", 3)]) (g := gName 3) rfl sc_gap.nd (pi_range1 (by rfl) T.range (pa_cons (pe_ix (r := rIxT K) ix_tup (pe_ix (r := rIxT K) ix_tup (pv 0) (pv 2) (fun _ _ => rfl)) pe_int (fun _ _ => rfl)) pa_nil))
      (blkOk_by (N := nGap) (sc := defScope stGap) (by decide +kernel)) (fun _ _ _ _ _ => pg_name (i := 3) sc_gap.nd rfl (Or.inl rfl))
      (fun _ _ _ _ _ => pts_one (pt_not (pt_val (pe_call GH hr (by rfl) T.gH kH bH .nil pass0 (pa_cons (pv 1) (pa_cons (pe_tup (pa_cons (pv 2) (pa_cons (pv 3) pa_nil))) pa_nil)))))) (fun _ _ _ _ _ => pv 3))), ?_⟩
    obtain ⟨st, hst⟩ : ∃ st, sets[i]? = some st := ⟨_, List.getElem?_eq_getElem hi⟩
    obtain ⟨a, ha, hat⟩ := Paired.gt pb hst
    have okS := ok.ok st (List.mem_of_getElem? hst)
    have em : manyM sets i = st.2.2.toNat := by simp [manyM, hst]
    refine ⟨_, rfl, _, rfl, b, _, _, .ref a, rfl, rfl, SqT.of hb, atI_nat (by rw [List.getElem?_map, ha]; rfl), a, _, _, .int st.2.2, rfl, rfl, SqT.of hat, rfl, ?_⟩
    refine ⟨st.2.2, rfl, by have := okS.m0; omega, by have := okS.m1; omega, fun D hD => lc_range (lo := 0) (n := st.2.2.toNat)
      (fun k H' => Same H H' ∧ H' D = some (.lst ((((List.range k).map fun (k : Nat) => (k : Int)).filter fun k => !hasM cs ((i : Int), k)).map V.int))) ⟨same_upd hD, upd_same⟩ (fun k H' hk pv => ?_) (fun H' pv => ?_)⟩
    · obtain ⟨sk, hDk⟩ := pv
      have ln : ((((List.range k).map fun (k : Nat) => (k : Int)).filter fun k => !hasM cs ((i : Int), k)).map V.int).length ≤ 6 := by
        have h1 := List.length_filter_le (fun k => !hasM cs ((i : Int), k)) ((List.range k).map fun (k : Nat) => (k : Int))
        rw [List.length_map, List.length_range] at h1
        have h2 := okS.m0
        have h3 := okS.m1
        rw [List.length_map]
        omega
      have es : ((List.range (k + 1)).map fun (k : Nat) => (k : Int)).filter (fun k => !hasM cs ((i : Int), k)) = ((List.range k).map fun (k : Nat) => (k : Int)).filter (fun k => !hasM cs ((i : Int), k)) ++ (if (!hasM cs ((i : Int), (k : Int))) = true then [(k : Int)] else []) := by
        rw [List.range_succ, List.map_append, List.filter_append]
        congr 1
        rw [List.map_cons, List.map_nil, List.filter_cons, List.filter_nil]
      refine ⟨rfl, _, rfl, _, rfl, _, rfl, by show 2 ≤ sizeLine; decide, fun t ht => ⟨d, t, cs, ((i : Int), 0 + (k : Int)), rfl, (same_upd ht) _ _ (sk _ _ hd), upd_same, fun H4 s4 => ⟨_, rfl, ?_⟩⟩⟩
      have sH : Same H H4 := (sk.trans (same_upd ht)).trans s4
      have hD4 : H4 D = some _ := s4 _ _ ((same_upd ht) _ _ hDk)
      rw [Int.zero_add]
      refine ite2 (fun c => ?_) (fun c => ?_)
      · refine ⟨_, rfl, _, hD4, by rw [sizeLine_eq]; omega, fun x o e => ?_, ?_⟩
        · rw [upd_ne (ne_of_none e hD)]
          exact sH _ _ e
        · rw [upd_same, es, if_pos c, List.map_append]
          rfl
      · refine ⟨sH, ?_⟩
        rw [es, if_neg c, List.append_nil]
        exact hD4
    · obtain ⟨sk, hDk⟩ := pv
      exact q H' D sk hD (by rw [hDk]; unfold gapsM; rw [em])
end
end Hm

set_option Elab.async false
set_option maxRecDepth 100000
set_option maxHeartbeats 4000000
namespace Hm
open PySem PySem.Spec PyProof.Rows L2 HmS
abbrev stAll : Stmt := topSt 48 -- row _law_all
abbrev stDbl : Stmt := topSt 51 -- row _law_doubles
abbrev stNam : Stmt := topSt 45 -- row _law_name
/-! ### rows: a stamp and how many -/
def RowAt (H : Hp) (a : Addr) (c : StT × Int) : Prop := ∃ t, H a = some (.tup [.ref t, .int c.2]) ∧ StAt H t c.1
theorem RowAt.same {H H' : Hp} (s : Same H H') {a : Addr} {c : StT × Int} (h : RowAt H a c) : RowAt H' a c := by
  obtain ⟨t, e, f⟩ := h
  exact ⟨t, s _ _ e, s _ _ f⟩
theorem rows_same {H H' : Hp} (s : Same H H') {as : List Addr} {cs : CtT} (p : Paired (RowAt H) as cs) : Paired (RowAt H') as cs := Paired.mp (fun _ _ q => q.same s) p
theorem isKeys_zipC {H : Hp} : ∀ {cs : CtT} {bs : List Addr}, IsKeys H (cs.map entC) bs → bs.length = cs.length ∧ ∀ z ∈ bs.zip cs, StAt H z.1 z.2.1
  | [], bs, h => by
    unfold IsKeys at h
    cases h
    exact ⟨rfl, fun z hz => by simp at hz⟩
  | s :: ps, bs, h => by
    unfold IsKeys at h
    cases h with
    | cons h1 h2 =>
      obtain ⟨l, q⟩ := isKeys_zipC (cs := ps) h2
      refine ⟨by simp [l], fun z hz => ?_⟩
      rw [List.zip_cons_cons] at hz
      rcases List.mem_cons.mp hz with rfl | hz
      · exact h1
      · exact q z hz
def sortZ (bs : List Addr) (cs : CtT) : List (Addr × (StT × Int)) := (bs.zip cs).mergeSort (PySem.W.dataLe false fun z => keyD (keyS z.2.1))
theorem sortZ_refs (bs : List Addr) (cs : CtT) : (((bs.zip (cs.map entC)).mergeSort (PySem.W.dataLe false fun z => keyD z.2.1)).map fun z => V.ref z.1) = (sortZ bs cs).map fun z => V.ref z.1 := by
  have e : bs.zip (cs.map entC) = (bs.zip cs).map fun z => (z.1, entC z.2) := by
    rw [List.zip_map_right]
    rfl
  unfold sortZ
  rw [e, ← PySem.W.sort_maps (r := PySem.W.dataLe false fun z : Addr × (StT × Int) => keyD (keyS z.2.1)) (fun z : Addr × (StT × Int) => (z.1, entC z.2)) (fun a _ b _ => rfl), List.map_map]
  rfl
theorem sortZ_perm (bs : List Addr) (cs : CtT) : (sortZ bs cs).Perm (bs.zip cs) := List.mergeSort_perm _ _
theorem sortZ_rise {bs : List Addr} {cs : CtT} (h : bs.length = cs.length) : (sortZ bs cs).map (·.2) = riseM cs := by
  unfold sortZ riseM
  rw [PySem.W.sort_maps (r := PySem.W.dataLe false fun z : Addr × (StT × Int) => keyD (keyS z.2.1)) (s := PySem.W.dataLe false fun c : StT × Int => keyD (keyS c.1)) (fun z : Addr × (StT × Int) => z.2) (fun a _ b _ => rfl), List.map_snd_zip (by omega)]
theorem alike_keys (cs : CtT) : PySem.W.AllAlike ((cs.map entC).map fun p => keyD p.1) := by
  intro x hx y hy
  obtain ⟨z1, m1, rfl⟩ := List.mem_map.mp hx
  obtain ⟨z2, m2, rfl⟩ := List.mem_map.mp hy
  obtain ⟨s1, _, rfl⟩ := List.mem_map.mp m1
  obtain ⟨s2, _, rfl⟩ := List.mem_map.mp m2
  exact al_st s1.1 s2.1
theorem ne_keys (cs : CtT) : ∀ p ∈ cs.map entC, p.1 ≠ [] := by
  intro x hx
  obtain ⟨s1, _, rfl⟩ := List.mem_map.mp hx
  simp [entC, keyS]
def spAll : Sp := fun vs H Q _ => ∃ (d : Addr) (cs : CtT), vs = [.ref d] ∧ H d = some (.dT (cs.map entC)) ∧ cs.length ≤ 400 ∧ (∀ c ∈ cs, 1 ≤ c.2) ∧
  ∀ (H' : Hp) (l : Addr) (rs : List Addr), Same H H' → H l = none → H' l = some (.lst (rs.map V.ref)) → Paired (RowAt H') rs (riseM cs) → Q (.ref l) H'
def keptM (cs : CtT) (s : StT) : Int := if s.2.2 = 0 ∧ cntM cs (s.1, s.2.1, 1) > 0 then 0 else 1
def dblM (cs : CtT) (c : StT × Int) : CtT := if c.2 > keptM cs c.1 then [(c.1, c.2 - keptM cs c.1)] else []
def dblsM (cs : CtT) : CtT := (riseM cs).flatMap (dblM cs)
def spDbl : Sp := fun vs H Q _ => ∃ (d : Addr) (cs : CtT), vs = [.ref d] ∧ H d = some (.dT (cs.map entC)) ∧ cs.length ≤ 400 ∧ (∀ c ∈ cs, 1 ≤ c.2) ∧
  ∀ (H' : Hp) (l : Addr) (rs : List Addr), Same H H' → H l = none → H' l = some (.lst (rs.map V.ref)) → Paired (RowAt H') rs (dblsM cs) → Q (.ref l) H'
def namesL : List Str := ["", "a", "z", "ann", "bobbobbo"]
def spNam : Sp := fun vs H Q _ => ∃ p : Addr, vs = [.ref p] ∧ PenAt H p ∧ ∀ (n : Str) (H' : Hp), n ∈ namesL → Keep p H H' → PenAt H' p → Q (.str n) H'
section
variable {P : Program} {w : World} {K : PySem.W.Frag} {mg : Str → Option Value} {base : Heap}
theorem sc_nam : FnScope ["_law_pen_here"] ["_law_pen_here"] (defScope stNam) := ⟨rfl, rfl, rfl, by decide +kernel, rfl, by decide +kernel, by decide +kernel⟩
theorem ok_nam {f fD : Addr} {fd fdD : FuncData} (F : Fun K "_law_name" "_law_name" stNam f fd) (gD : mg "_law_draw" = some (.ref fD)) (kD : PySem.W.keepIn K (.ref fD) = true)
    (GD : FnOk P w K mg base CX0 1 fD fdD ["_law_pen_here", "_law_bound"] spDrawn) (bD : Binds K fdD ["_law_pen_here", "_law_bound"] []) :
    FnOk P w K mg base CX0 2 f fd ["_law_pen_here"] spNam := by
  refine F.ok sc_nam (fun vs H Q E h => ?_) (fun cdv A outer s H vs Q E hr h => ?_)
  · obtain ⟨p, rfl, _⟩ := h
    rfl
  · obtain ⟨p, rfl, pen, q⟩ := h
    refine ⟨_, pss_one (ps_ret (pe_ix ix_list (pe_lst (pa_cons pe_str (pa_cons pe_str (pa_cons pe_str (pa_cons pe_str (pa_cons pe_str pa_nil)))))) (pe_call GD hr (by rfl) gD kD bD .nil pass0 (pa_cons (pv 0) (pa_cons pe_int pa_nil))) (fun _ _ => rfl))), ?_⟩
    refine ⟨by show 5 ≤ sizeLine; decide, fun l hl => draw_run rfl (pen_upd pen hl) (by decide) (by decide) fun r H3 b0 b1 pen3 but3 => ?_⟩
    obtain ⟨v, hv, atv⟩ := at_draw (xs := [V.str "", V.str "a", V.str "z", V.str "ann", V.str "bobbobbo"]) b0 b1
    obtain ⟨z, rfl, hz⟩ : ∃ z, v = V.str z ∧ z ∈ namesL := by
      simp only [List.mem_cons, List.not_mem_nil, or_false] at hv
      rcases hv with rfl | rfl | rfl | rfl | rfl <;> exact ⟨_, rfl, by simp [namesL]⟩
    exact ⟨l, _, r, _, rfl, rfl, SqL.of (by rw [but3 l (pen_ne_none pen hl)]; exact upd_same), atv, q z H3 hz ((keep_upd hl).trans but3.keep) pen3⟩
abbrev nAll : List Str := ["_law_counts_here", "_law_stamp"]
theorem sc_all : FnScope nAll ["_law_counts_here"] (defScope stAll) := ⟨rfl, rfl, rfl, by decide +kernel, rfl, by decide +kernel, by decide +kernel⟩
theorem ok_all {f : Addr} {fd : FuncData} (F : Fun K "_law_all" "_law_all" stAll f fd) (hS : mg "sorted" = none) : FnOk P w K mg base CX0 1 f fd ["_law_counts_here"] spAll := by
  refine F.ok sc_all (fun vs H Q E h => ?_) (fun cdv A outer s H vs Q E hr h => ?_)
  · obtain ⟨d, cs, rfl, _⟩ := h
    rfl
  · obtain ⟨d, cs, rfl, hd, hz, hp, q⟩ := h
    have hu := hu_of hr
    refine ⟨_, pss_one (ps_ret (pe_lc (own := [("_law_stamp", 1)]) (g := gName 1) rfl sc_all.nd
        (pi_list (pe_callB (cr_sortDT rfl hr.units) (by rfl) hS (by decide +kernel) (pa_cons (pv 0) pa_nil)))
        (blkOk_by (N := nAll) (sc := defScope stAll) (by decide +kernel)) (fun _ _ _ _ _ => pg_name (i := 1) sc_all.nd rfl (Or.inl rfl))
        (fun _ _ _ _ _ => pts_one (pt_cmpR op_gt (pe_dget hu (pv 0) (pv 1) (fun _ _ => rfl)) pe_int (nomark _)))
        (fun _ _ _ _ _ => pe_tup (pa_cons (pv 1) (pa_cons (pe_dget hu (pv 0) (pv 1) (fun _ _ => rfl)) pa_nil))))), ?_⟩
    refine ⟨_, rfl, d, cs.map entC, rfl, Rd.of hd, by rw [List.length_map]; omega, alike_keys cs, ne_keys cs, fun l bs hl hik nk => ?_⟩
    rw [sortZ_refs]
    obtain ⟨lb, hzz⟩ := isKeys_zipC hik
    have nd : (cs.map (·.1)).Nodup := by
      rw [List.map_map] at nk
      have e : (cs.map (Prod.fst ∘ entC)) = (cs.map (·.1)).map keyS := by rw [List.map_map]; rfl
      rw [e] at nk
      rw [List.Nodup, List.pairwise_map] at nk
      exact nk.imp fun h z => h (by rw [z])
    have lz : (sortZ bs cs).length = cs.length := by
      rw [(sortZ_perm bs cs).length_eq, List.length_zip]
      omega
    refine ⟨l, rfl, ⟨_, SqL.of upd_same⟩, fun D hD => lc_list (K := K) (xs := (sortZ bs cs).map fun z => V.ref z.1)
        (fun i H' => Same (upd H l (.lst ((sortZ bs cs).map fun z => V.ref z.1))) H' ∧ ∃ rs : List Addr, H' D = some (.lst (rs.map V.ref)) ∧ Paired (RowAt H') rs (((sortZ bs cs).take i).map (·.2)))
        ⟨same_upd hD, [], upd_same, .nil⟩ (fun i H' _ pv => SqL.of (pv.1 _ _ upd_same)) (fun i x H' hx pv => ?_) (fun H' pv => ?_)⟩
    · obtain ⟨sm, rs, hDl, pr⟩ := pv
      rw [List.getElem?_map] at hx
      cases hi : (sortZ bs cs)[i]? with
      | none =>
        rw [hi] at hx
        cases hx
      | some z =>
        rw [hi] at hx
        cases hx
        have hm := (sortZ_perm bs cs).mem_iff.mp (List.mem_of_getElem? hi)
        have hm2 : z.2 ∈ cs := (List.of_mem_zip hm).2
        have s0 : Same H H' := (same_upd hl).trans sm
        have gz : getC cs z.2.1 = some z.2.2 := getC_of nd hm2
        have ez := s0 _ _ (hzz z hm)
        have gt : ∀ {G : Hp}, Same H' G → DGet G d (.ref z.1) (some (.int z.2.2)) := fun {G} sg => by
          have g1 : DGet G d (.ref z.1) (valV (cs.map entC) (keyS z.2.1)) := DGet.t (sg _ _ (s0 _ _ hd)) (sg _ _ ez)
          rw [valV_ent, gz] at g1
          exact g1
        have pz : 1 ≤ z.2.2 := hp _ hm2
        have lrs : rs.length ≤ 400 := by
          rw [Paired.length pr, List.length_map, List.length_take]
          omega
        refine ⟨rfl, _, rfl, _, rfl, d, _, rfl, gt (fun _ _ e => e), _, _, rfl, rfl, _, rfl, ?_⟩
        refine ite2 (fun _ => ?_) (fun c => absurd (decide_eq_true (by show z.2.2 > 0; omega)) c)
        refine ⟨_, rfl, _, rfl, _, rfl, d, _, rfl, gt (fun _ _ e => e), by show 2 ≤ sizeLine; decide, fun t ht => ?_⟩
        have nD : ∀ {b : Addr} {o : HO}, (upd H l (.lst ((sortZ bs cs).map fun z => V.ref z.1))) b = some o → b ≠ D := fun e => ne_of_none e hD
        refine ⟨_, (same_upd ht) _ _ hDl, by rw [List.length_map]; exact small1000 (by omega), fun b o e => ?_, rs ++ [t], by rw [upd_same, List.map_append]; rfl, ?_⟩
        · rw [upd_ne (nD e)]
          exact (same_upd ht) _ _ (sm _ _ e)
        · have e2 : (sortZ bs cs).take (i + 1) = (sortZ bs cs).take i ++ [z] := by rw [List.take_add_one, hi]; rfl
          rw [e2, List.map_append]
          have nT : ∀ {c : Addr} {xs : List V} {G : Hp}, G D = some (.lst (rs.map V.ref)) → G c = some (.tup xs) → c ≠ D := fun e1 e2 y => by
            rw [y, e1] at e2
            cases e2
          have hD2 := (same_upd (o := .tup [.ref z.1, .int z.2.2]) ht) _ _ hDl
          refine Paired.snoc ?_ (Paired.mp (fun a c h => ?_) pr)
          · refine ⟨z.1, ?_, ?_⟩
            · rw [upd_ne (nT hD2 upd_same)]
              exact upd_same
            · show upd _ D _ z.1 = _
              rw [upd_ne (nT hDl ez)]
              exact (same_upd ht) _ _ ez
          · obtain ⟨u, h1, h2⟩ := h
            refine ⟨u, ?_, ?_⟩
            · rw [upd_ne (nT hDl h1)]
              exact (same_upd ht) _ _ h1
            · show upd _ D _ u = _
              rw [upd_ne (nT hDl h2)]
              exact (same_upd ht) _ _ h2
    · obtain ⟨sm, rs, hDl, pr⟩ := pv
      rw [List.length_map, List.take_length, sortZ_rise lb] at pr
      exact q H' D rs ((same_upd hl).trans sm) (none_of (same_upd hl) hD) hDl pr
end
end Hm

set_option Elab.async false
set_option maxRecDepth 100000
set_option maxHeartbeats 4000000
namespace Hm
open PySem PySem.Spec PyProof.Rows L2 HmS
theorem seqJ {t u : TS} {D : Ends} {σ : L2.St} {H : Hp} (R : L2.St → Hp → Prop) (hJ : ∀ σ' G, R σ' G → u D σ' G) (h : (∀ σ' G, R σ' G → u D σ' G) → t { D with nx := fun σ' G => u D σ' G } σ H) : tSeq t u D σ H := h hJ
theorem RowAt.keep {l : Addr} {xs : List V} {H H' : Hp} (k : Keep l H H') (hl : H l = some (.lst xs)) {a : Addr} {c : StT × Int} (h : RowAt H a c) : RowAt H' a c := by
  have n : ∀ {b : Addr} {ys : List V}, H b = some (.tup ys) → b ≠ l := fun e z => by
    rw [z, hl] at e
    cases e
  obtain ⟨t, e, f⟩ := h
  exact ⟨t, k _ _ (n e) e, k _ _ (n f) f⟩
theorem keep_new {l : Addr} {H H' : Hp} (k : Keep l H H') (hl : H l = none) : Same H H' := fun b o e => k b o (ne_of_none e hl) e
theorem dblM_len (cs : CtT) (c : StT × Int) : (dblM cs c).length ≤ 1 := by
  unfold dblM
  split <;> simp
structure TxtDbl (mg : Str → Option Value) (fA : Addr) : Prop where
  gA : mg "_law_all" = some (.ref fA)
section
variable {P : Program} {w : World} {K : PySem.W.Frag} {mg : Str → Option Value} {base : Heap}
abbrev nDbl : List Str := ["_law_counts_here", "_law_found", "_law_stamp", "_law_many", "_law_kept"]
theorem sc_dbl : FnScope nDbl ["_law_counts_here"] (defScope stDbl) := ⟨rfl, rfl, rfl, by decide +kernel, rfl, by decide +kernel, by decide +kernel⟩
theorem ok_dbl {f fA : Addr} {fd fdA : FuncData} (F : Fun K "_law_doubles" "_law_doubles" stDbl f fd) (T : TxtDbl mg fA) (kA : PySem.W.keepIn K (.ref fA) = true)
    (GA : FnOk P w K mg base CX0 1 fA fdA ["_law_counts_here"] spAll) (bA : Binds K fdA ["_law_counts_here"] []) : FnOk P w K mg base CX0 2 f fd ["_law_counts_here"] spDbl := by
  refine F.ok sc_dbl (fun vs H Q E h => ?_) (fun cdv A outer s H vs Q E hr h => ?_)
  · obtain ⟨d, cs, rfl, _⟩ := h
    rfl
  · obtain ⟨d, cs, rfl, hd, hz, hp, q⟩ := h
    have hu := hu_of hr
    refine ⟨_, pss_cons (ps_set (i := 1) sc_dbl.nd rfl (Or.inl rfl) (pe_lst pa_nil))
      (pss_cons (ps_for PassesOwn.never rfl (pi_list (pe_call GA hr (by rfl) T.gA kA bA .nil pass0 (pa_cons (pv 0) pa_nil)))
          (pg_tup rfl (pgs_cons (pg_name (i := 2) sc_dbl.nd rfl (Or.inl rfl)) (pgs_cons (pg_name (i := 3) sc_dbl.nd rfl (Or.inl rfl)) pgs_nil)))
        (pss_cons (ps_set (i := 4) sc_dbl.nd rfl (Or.inl rfl) pe_int)
        (pss_cons (ps_if (PW.pt (pw_and (pt_cmpR op_eq (pe_ix (r := rIxT K) ix_tup (pv 2) pe_int (fun _ _ => rfl)) pe_int (nomark _))
              (pw_and1 (pt_cmpR op_gt (pe_dget2 hu (pv 0) (pe_op op_catT (pe_slice sl_tup (pv 2) po_none (po_some pe_int)) (pe_tup (pa_cons pe_int pa_nil))) pe_int ⟨rfl, rfl, rfl, rfl⟩) pe_int (nomark _)))))
            (pss_one (ps_set (i := 4) sc_dbl.nd rfl (Or.inl rfl) pe_int)) pss_nil)
        (pss_one (ps_if (pt_cmpR op_gt (pv 3) (pv 4) (nomark _))
            (pss_one (ps_expr (pe_bm PySem.F.plainAttrs_list PySem.F.slot_list_append PySem.F.type_list_append mt_append (pv 1) (pa_cons (pe_tup (pa_cons (pv 2) (pa_cons (pe_op op_sub (pv 3) (pv 4)) pa_nil))) pa_nil)))) pss_nil)))))
      (pss_one (ps_ret (pv 1)))), ?_⟩
    refine seqset ⟨by decide, fun lf hlf => ⟨_, rfl, d, cs, rfl, (same_upd hlf) _ _ hd, hz, hp, fun H1 l rs s1 nl hl pr => ⟨l, rfl, ⟨_, SqL.of hl⟩, ?_⟩⟩⟩
    have hlf1 : H1 lf = some (.lst []) := s1 _ _ upd_same
    have llf : l ≠ lf := fun z => by
      rw [z, upd_same] at nl
      cases nl
    have hd1 : H1 d = some (.dT (cs.map entC)) := s1 _ _ ((same_upd hlf) _ _ hd)
    have dlf : d ≠ lf := fun z => by
      rw [z, hlf1] at hd1
      cases hd1
    have rl : (riseM cs).length = cs.length := (riseM_perm cs).length_eq
    refine for_list (K := K) (xs := rs.map V.ref) (fun i σ H' => ∃ (v2 v3 v4 : Option V) (qs : List Addr), σ = [some (.ref d), some (.ref lf), v2, v3, v4] ∧ Keep lf H1 H' ∧ H' lf = some (.lst (qs.map V.ref)) ∧ Paired (RowAt H') qs (((riseM cs).take i).flatMap (dblM cs)) ∧ qs.length ≤ i)
      ⟨none, none, none, [], rfl, Keep.refl, hlf1, .nil, Nat.zero_le _⟩ (fun i σ H' _ ⟨_, _, _, _, _, k, _⟩ => SqL.of (k _ _ llf hl)) ?_ ?_
    · rintro i x σ H2 hx ⟨v2, v3, v4, qs, rfl, k2, hlf2, pq, lq⟩
      rw [List.getElem?_map] at hx
      cases hbi : rs[i]? with
      | none =>
        rw [hbi] at hx
        cases hx
      | some r =>
        rw [hbi] at hx
        cases hx
        obtain ⟨c, hc, rat⟩ := Paired.gl pr hbi
        have hi : i < cs.length := by
          have := (List.getElem?_eq_some_iff.mp hc).1
          omega
        obtain ⟨t, e1, e2⟩ := rat.keep k2 hlf1
        refine ⟨r, _, rfl, SqT.of e1, rfl, _, _, rfl, _, _, rfl, rfl, seqset ?_⟩
        refine seqJ (fun σ' G => ∃ k : Int, σ' = [some (.ref d), some (.ref lf), some (.ref t), some (.int c.2), some (.int k)] ∧ Same H2 G ∧ k = keptM cs c.1) ?_ (fun J => ?_)
        · rintro σ' G ⟨k, rfl, sG, ek⟩
          have hlfG : G lf = some (.lst (qs.map V.ref)) := sG _ _ hlf2
          have et : (riseM cs).take (i + 1) = (riseM cs).take i ++ [c] := by rw [List.take_add_one, hc]; rfl
          have kG : Keep lf H1 G := k2.trans (Same.keep sG)
          refine ⟨_, rfl, _, rfl, _, _, rfl, rfl, _, rfl, ite2 (fun gt => ?_) (fun ng => ?_)⟩
          · have gt' : c.2 > k := of_decide_eq_true gt
            refine ⟨_, rfl, .inl ⟨rfl, _, SqL.of hlfG⟩, _, rfl, _, rfl, _, rfl, _, _, rfl, rfl, by show 2 ≤ sizeLine; decide, fun t2 ht2 => ⟨lf, _, _, rfl, rfl, (same_upd ht2) _ _ hlfG, by rw [List.length_map]; exact small1000 (by omega), ?_⟩⟩
            have t2lf : t2 ≠ lf := fun z => by
              rw [z, hlfG] at ht2
              cases ht2
            refine ⟨_, _, _, qs ++ [t2], rfl, fun b o hb e => ?_, by rw [upd_same, List.map_append]; rfl, ?_, by rw [List.length_append]; simp; omega⟩
            · rw [upd_ne hb]
              exact (same_upd ht2) _ _ (kG _ _ hb e)
            · rw [et, List.flatMap_append]
              have ed : [c].flatMap (dblM cs) = [(c.1, c.2 - k)] := by
                rw [List.flatMap_cons, List.flatMap_nil, List.append_nil]
                unfold dblM
                rw [← ek, if_pos gt']
              rw [ed]
              have kk : Keep lf G (upd (upd G t2 (.tup [.ref t, .int (c.2 - k)])) lf (.lst (qs.map V.ref ++ [.ref t2]))) := fun b o hb e => by
                rw [upd_ne hb]
                exact (same_upd ht2) _ _ e
              have e2G : StAt G t c.1 := sG _ _ e2
              have tlf : t ≠ lf := fun z => by
                have e3 : G t = some (.tup _) := e2G
                rw [z, hlfG] at e3
                cases e3
              refine Paired.snoc ⟨t, ?_, kk _ _ tlf e2G⟩ (Paired.mp (fun a b h => (h.same sG).keep kk hlfG) pq)
              rw [upd_ne t2lf]
              exact upd_same
          · have ng' : ¬ c.2 > k := fun z => ng (decide_eq_true z)
            refine ⟨_, _, _, qs, rfl, kG, hlfG, ?_, by omega⟩
            rw [et, List.flatMap_append]
            have ed : [c].flatMap (dblM cs) = [] := by
              rw [List.flatMap_cons, List.flatMap_nil, List.append_nil]
              unfold dblM
              rw [← ek, if_neg ng']
            rw [ed, List.append_nil]
            exact rows_same sG pq
        · have hd2 : H2 d = some (.dT (cs.map entC)) := k2 _ _ dlf hd1
          refine ⟨_, rfl, t, _, _, _, rfl, rfl, SqT.of e2, rfl, rfl, _, rfl, ite2 (fun g0 => ?_) (fun g1 => ?_)⟩
          · have g0' : c.1.2.2 = 0 := by simpa using g0
            refine ⟨_, rfl, d, rfl, .inr ⟨_, .inl hd2⟩, _, rfl, 2, rfl, t, _, rfl, SqT.of e2, (fun z => absurd z.2 (by show ¬ HT.sIx 3 3 (some 2) = 3; decide)), fun p1 hp1 => ⟨by show 1 ≤ sizeLine; decide, fun t1 ht1 => ?_⟩⟩
            refine ⟨p1, t1, _, _, rfl, rfl, SqT.of ((same_upd ht1) _ _ upd_same), SqT.of upd_same, (fun z => by cases z), by show 3 ≤ sizeLine; decide, ⟨fun z => (by cases z), fun _ t3 ht3 => ?_⟩⟩
            have sT : Same H2 _ := ((same_upd (o := .tup [V.int c.1.1, V.int c.1.2.1]) hp1).trans (same_upd (o := .tup [V.int 1]) ht1)).trans (same_upd (o := .tup ([V.int c.1.1, V.int c.1.2.1] ++ [V.int 1])) ht3)
            have g2 := DGet.t (k := keyS (c.1.1, c.1.2.1, 1)) (sT _ _ hd2) upd_same
            rw [valV_ent] at g2
            refine ⟨_, g2, ?_⟩
            rw [getD_ev]
            refine ⟨_, _, rfl, rfl, _, rfl, ite2 (fun h => ?_) (fun h => ?_)⟩
            · have h' : cntM cs (c.1.1, c.1.2.1, 1) > 0 := of_decide_eq_true h
              exact J _ _ ⟨0, rfl, sT, by unfold keptM; rw [if_pos ⟨g0', h'⟩]⟩
            · have h' : ¬ cntM cs (c.1.1, c.1.2.1, 1) > 0 := fun z => h (decide_eq_true z)
              exact J _ _ ⟨1, rfl, sT, by unfold keptM; rw [if_neg (fun z => h' z.2)]⟩
          · have g1' : ¬ c.1.2.2 = 0 := by simpa using g1
            exact J _ _ ⟨1, rfl, fun _ _ e => e, by unfold keptM; rw [if_neg (fun z => g1' z.1)]⟩
    · rintro σ H2 ⟨v2, v3, v4, qs, rfl, k2, hlf2, pq, lq⟩
      rw [List.length_map, Paired.length pr, List.take_length] at pq
      exact ⟨_, rfl, q H2 lf qs (keep_new (Keep.trans (Same.keep ((same_upd hlf).trans s1)) k2) hlf) hlf hlf2 pq⟩
end
end Hm

set_option Elab.async false
set_option maxRecDepth 100000
set_option maxHeartbeats 4000000
namespace Hm
open PySem PySem.Spec PyProof.Rows L2 HmS
abbrev stIsW : Stmt := topSt 20 -- row is_whole
abbrev stWit : Stmt := topSt 22 -- row is_whole_within
abbrev stLet : Stmt := topSt 23 -- row is_letters
abbrev stTup : Stmt := topSt 24 -- row is_tuple
abbrev stRis : Stmt := topSt 25 -- row is_rising
/-- a plain thing: a number, a truth, nothing, a text, a tuple -/
inductive Plain (H : Hp) : V → Value → Prop where
  | int (i : Int) : Plain H (.int i) (.type "int")
  | bl (b : Bool) : Plain H (.bl b) (.type "bool")
  | non : Plain H .non (.type "NoneType")
  | str (z : Str) : Plain H (.str z) (.type "str")
  | tup {a : Addr} {xs : List V} (e : H a = some (.tup xs)) : Plain H (.ref a) (.type "tuple")
theorem Plain.ty {K : PySem.W.Frag} {H : Hp} {x : V} {t : Value} (p : Plain H x t) : TyX K H x t := by
  cases p with
  | int i => exact .base (.int i)
  | bl b => exact .base (.bl b)
  | non => exact .base .non
  | str z => exact .base (.str z)
  | tup e => exact .base (.tup e)
def isWv : V → Bool
  | .int _ => true
  | _ => false
def isSv : V → Bool
  | .str _ => true
  | _ => false
def isTv : V → Bool
  | .ref _ => true
  | _ => false
def isBv : V → Bool
  | .bl _ => true
  | _ => false
theorem Plain.kI {K : PySem.W.Frag} {H : Hp} {x : V} {t : Value} (p : Plain H x t) : PySem.W.kitOne K t (.type "int") = some (isWv x || isBv x) := by
  cases p <;> first | exact kit_ty (show kitB _ _ = some true by decide +kernel) | exact kit_ty (show kitB _ _ = some false by decide +kernel)
theorem Plain.kB {K : PySem.W.Frag} {H : Hp} {x : V} {t : Value} (p : Plain H x t) : PySem.W.kitOne K t (.type "bool") = some (isBv x) := by
  cases p <;> first | exact kit_ty (show kitB _ _ = some true by decide +kernel) | exact kit_ty (show kitB _ _ = some false by decide +kernel)
theorem Plain.kS {K : PySem.W.Frag} {H : Hp} {x : V} {t : Value} (p : Plain H x t) : PySem.W.kitOne K t (.type "str") = some (isSv x) := by
  cases p <;> first | exact kit_ty (show kitB _ _ = some true by decide +kernel) | exact kit_ty (show kitB _ _ = some false by decide +kernel)
theorem Plain.kT {K : PySem.W.Frag} {H : Hp} {x : V} {t : Value} (p : Plain H x t) : PySem.W.kitOne K t (.type "tuple") = some (isTv x) := by
  cases p <;> first | exact kit_ty (show kitB _ _ = some true by decide +kernel) | exact kit_ty (show kitB _ _ = some false by decide +kernel)
def spIsW : Sp := fun vs H Q _ => ∃ (x : V) (t : Value), vs = [x] ∧ Plain H x t ∧ Q (.bl (isWv x)) H
def within (x : V) (a b : Int) : Bool :=
  match x with
  | .int i => decide (a ≤ i) && decide (i ≤ b)
  | _ => false
def spWit : Sp := fun vs H Q _ => ∃ (x : V) (t : Value) (a b : Int), vs = [x, .int a, .int b] ∧ Plain H x t ∧ Q (.bl (within x a b)) H
/-- whether a plain thing is a tuple of so many parts -/
def tupB (H : Hp) (x : V) (a b : Int) : Bool :=
  match x with
  | .ref p => match H p with
    | some (.tup xs) => decide (a ≤ xs.length) && decide ((xs.length : Int) ≤ b)
    | _ => false
  | _ => false
theorem tupB_of {H : Hp} {p : Addr} {xs : List V} (e : H p = some (.tup xs)) (a b : Int) : tupB H (.ref p) a b = (decide (a ≤ xs.length) && decide ((xs.length : Int) ≤ b)) := by simp [tupB, e]
def spTupN : Sp := fun vs H Q _ => ∃ (x : V) (t : Value) (a b : Int), vs = [x, .int a, .int b] ∧ Plain H x t ∧ Q (.bl (tupB H x a b)) H
structure TxtKind (mg : Str → Option Value) : Prop where
  isi : mg "isinstance" = none
  int : mg "int" = none
  bool : mg "bool" = none
  str : mg "str" = none
  tuple : mg "tuple" = none
  len : mg "len" = none
  all : mg "all" = none
  zip : mg "zip" = none
section
variable {P : Program} {w : World} {K : PySem.W.Frag} {mg : Str → Option Value} {base : Heap}
theorem sc_isw : FnScope ["thing"] ["thing"] (defScope stIsW) := ⟨rfl, rfl, rfl, by decide +kernel, rfl, by decide +kernel, by decide +kernel⟩
theorem ok_isw {f : Addr} {fd : FuncData} (F : Fun K "is_whole" "is_whole" stIsW f fd) (T : TxtKind mg) : FnOk P w K mg base CX0 1 f fd ["thing"] spIsW := by
  refine F.ok sc_isw (fun vs H Q E h => ?_) (fun cdv A outer s H vs Q E hr h => ?_)
  · obtain ⟨x, t, rfl, _⟩ := h
    rfl
  · obtain ⟨x, t, rfl, p, q⟩ := h
    refine ⟨_, pss_one (ps_ret (pe_and (pe_callB call_isi (by rfl) T.isi boot_isinstance (pa_cons (pv 0) (pa_cons (pe_bltn (v := .ty "int") (by rfl) T.int (by decide +kernel) rfl) pa_nil)))
      (pe_one (pe_not (pe_callB call_isi (by rfl) T.isi boot_isinstance (pa_cons (pv 0) (pa_cons (pe_bltn (v := .ty "bool") (by rfl) T.bool (by decide +kernel) rfl) pa_nil))))))), ?_⟩
    refine ⟨_, rfl, x, _, t, _, _, rfl, .ty "int", p.ty, p.kI, _, rfl, ?_⟩
    cases p with
    | int i => exact iteT ⟨_, rfl, _, _, _, _, _, rfl, .ty "bool", (Plain.int (H := H) i).ty, (Plain.int (H := H) i).kB, _, rfl, q⟩
    | bl b => exact iteT ⟨_, rfl, _, _, _, _, _, rfl, .ty "bool", (Plain.bl (H := H) b).ty, (Plain.bl (H := H) b).kB, _, rfl, q⟩
    | non => exact iteF q
    | str z => exact iteF q
    | tup e => exact iteF q
theorem sc_wit : FnScope ["thing", "least", "most"] ["thing", "least", "most"] (defScope stWit) := ⟨rfl, rfl, rfl, by decide +kernel, rfl, by decide +kernel, by decide +kernel⟩
theorem ok_wit {f fW : Addr} {fd fdW : FuncData} (F : Fun K "is_whole_within" "is_whole_within" stWit f fd) (gW : mg "is_whole" = some (.ref fW)) (kW : PySem.W.keepIn K (.ref fW) = true)
    (GW : FnOk P w K mg base CX0 1 fW fdW ["thing"] spIsW) (bW : Binds K fdW ["thing"] []) : FnOk P w K mg base CX0 2 f fd ["thing", "least", "most"] spWit := by
  refine F.ok sc_wit (fun vs H Q E h => ?_) (fun cdv A outer s H vs Q E hr h => ?_)
  · obtain ⟨x, t, a, b, rfl, _⟩ := h
    rfl
  · obtain ⟨x, t, a, b, rfl, p, q⟩ := h
    refine ⟨_, pss_one (ps_ret (pe_and (pe_call GW hr (by rfl) gW kW bW .nil pass0 (pa_cons (pv 0) pa_nil)) (pe_one (pe_chain op_le op_le (pv 1) (pv 0) (pv 2))))), ?_⟩
    refine ⟨_, rfl, x, t, rfl, p, _, rfl, ?_⟩
    cases p with
    | int i =>
      refine iteT ⟨_, rfl, _, rfl, _, _, rfl, rfl, _, rfl, ?_⟩
      by_cases c : a ≤ i
      · rw [decide_eq_true c]
        refine iteT ⟨_, rfl, _, _, rfl, rfl, ?_⟩
        have e : within (.int i) a b = decide (i ≤ b) := by simp [within, c]
        rw [e] at q
        exact q
      · rw [decide_eq_false c]
        refine iteF ?_
        have e : within (.int i) a b = false := by simp [within, c]
        rw [e] at q
        exact q
    | bl b => exact iteF q
    | non => exact iteF q
    | str z => exact iteF q
    | tup e => exact iteF q
theorem sc_tup : FnScope ["thing", "fewest", "most"] ["thing", "fewest", "most"] (defScope stTup) := ⟨rfl, rfl, rfl, by decide +kernel, rfl, by decide +kernel, by decide +kernel⟩
theorem ok_tup {f : Addr} {fd : FuncData} (F : Fun K "is_tuple" "is_tuple" stTup f fd) (T : TxtKind mg) : FnOk P w K mg base CX0 1 f fd ["thing", "fewest", "most"] spTupN := by
  refine F.ok sc_tup (fun vs H Q E h => ?_) (fun cdv A outer s H vs Q E hr h => ?_)
  · obtain ⟨x, t, a, b, rfl, _⟩ := h
    rfl
  · obtain ⟨x, t, a, b, rfl, p, q⟩ := h
    refine ⟨_, pss_one (ps_ret (pe_and (pe_callB call_isi (by rfl) T.isi boot_isinstance (pa_cons (pv 0) (pa_cons (pe_bltn (v := .ty "tuple") (by rfl) T.tuple (by decide +kernel) rfl) pa_nil)))
      (pe_one (pe_chain op_le op_le (pv 1) (pe_callB call_len_seq (by rfl) T.len PySem.boot_len (pa_cons (pv 0) pa_nil)) (pv 2))))), ?_⟩
    refine ⟨_, rfl, x, _, t, _, _, rfl, .ty "tuple", p.ty, p.kT, _, rfl, ?_⟩
    cases p with
    | int i => exact iteF q
    | bl b => exact iteF q
    | non => exact iteF q
    | str z => exact iteF q
    | @tup pa xs e =>
      rw [tupB_of e] at q
      refine iteT ⟨_, rfl, _, rfl, _, _, rfl, .inr (SqT.of e), _, _, rfl, rfl, _, rfl, ?_⟩
      by_cases c : a ≤ (xs.length : Int)
      · rw [decide_eq_true c]
        rw [decide_eq_true c, Bool.true_and] at q
        exact iteT ⟨_, rfl, _, _, rfl, rfl, q⟩
      · rw [decide_eq_false c]
        rw [decide_eq_false c, Bool.false_and] at q
        exact iteF q
end
end Hm

set_option Elab.async false
set_option maxRecDepth 100000
set_option maxHeartbeats 4000000
namespace Hm
open PySem PySem.Spec PyProof.Rows L2 HmS
def rLtD (K : PySem.W.Frag) : R2 := fun x y H Q => ∃ d e, Dp K H x d ∧ Dp K H y e ∧ PySem.W.alike d e = true ∧ d ≠ .none ∧ d.depth ≤ 60 ∧ Q (.bl (PySem.W.dataLt d e)) H
theorem op_ltD {X : Cx} (hu : X.A.units + 64 < cLine) : OpR X (compareOp .Lt) (rLtD X.K) := by
  intro pins s σ H x y v u Q I rx ry h
  obtain ⟨d, e, hd, he, al, nn, dp, q⟩ := h
  obtain ⟨as, r1⟩ := Dp.reads I d x v hd rx
  obtain ⟨bs, r2⟩ := Dp.reads I e y u he ry
  exact PySem.W.lt_data r1 r2 al nn (by omega) ⟨.bl _, H, I, rfl, q⟩
def signOk (c : Nat) : Bool := !decide ([c] < [97]) && !decide ([122] < [c])
def lettersV (x : V) (a b : Int) : Bool :=
  match x with
  | .str z => decide (a ≤ z.length) && decide ((z.length : Int) ≤ b) && (z.cps.toList.map signOk).all id
  | _ => false
def spLet : Sp := fun vs H Q _ => ∃ (x : V) (t : Value) (a b : Int), vs = [x, .int a, .int b] ∧ Plain H x t ∧ (∀ z, x = .str z → z.length ≤ 1000) ∧ ∀ H', Same H H' → Q (.bl (lettersV x a b)) H'
def KyAt (H : Hp) (a : Addr) (s : SetT) : Prop := H a = some (.tup [.str s.1, .int s.2.1])
def riseK (ss : List SetT) : Bool := ((ss.zip ss.tail).map fun p => decide (setLt p.1 p.2)).all id
def spRis : Sp := fun vs H Q _ => ∃ (l : Addr) (as : List Addr) (ss : List SetT), vs = [.ref l] ∧ H l = some (.lst (as.map V.ref)) ∧ Paired (KyAt H) as ss ∧ ss.length ≤ 1000 ∧ ∀ H', Same H H' → Q (.bl (riseK ss)) H'
section
variable {P : Program} {w : World} {K : PySem.W.Frag} {mg : Str → Option Value} {base : Heap}
abbrev nLet : List Str := ["thing", "fewest", "most", "sign"]
theorem sc_let : FnScope nLet ["thing", "fewest", "most"] (defScope stLet) := ⟨rfl, rfl, rfl, by decide +kernel, rfl, by decide +kernel, by decide +kernel⟩
theorem ok_let {f : Addr} {fd : FuncData} (F : Fun K "is_letters" "is_letters" stLet f fd) (T : TxtKind mg) : FnOk P w K mg base CX0 1 f fd ["thing", "fewest", "most"] spLet := by
  refine F.ok sc_let (fun vs H Q E h => ?_) (fun cdv A outer s H vs Q E hr h => ?_)
  · obtain ⟨x, t, a, b, rfl, _⟩ := h
    rfl
  · obtain ⟨x, t, a, b, rfl, p, lz, q⟩ := h
    refine ⟨_, pss_cons (ps_if (PW.pt (pw_or (pt_not (pt_val (pe_callB call_isi (by rfl) T.isi boot_isinstance (pa_cons (pv 0) (pa_cons (pe_bltn (v := .ty "str") (by rfl) T.str (by decide +kernel) rfl) pa_nil)))))
        (pw_or1 (pt_not (pt_chain op_le op_le (pv 1) (pe_callB call_len (by rfl) T.len PySem.boot_len (pa_cons (pv 0) pa_nil)) (pv 2)))))) (pss_one (ps_ret pe_bl)) pss_nil)
      (pss_one (ps_ret (pe_callB (cr_all rfl) (by rfl) T.all (by decide +kernel) (pa_cons (pe_lc (own := [("sign", 3)]) (g := gName 3) (tt := tYes) rfl sc_let.nd (pi_str (pv 0))
        (blkOk_by (N := nLet) (sc := defScope stLet) (by decide +kernel)) (fun _ _ _ _ _ => pg_name (i := 3) sc_let.nd rfl (Or.inl rfl)) (fun _ _ _ _ _ => pts_nil)
        (fun _ _ _ _ _ => pe_chain op_le_str op_le_str pe_str (pv 3) pe_str)) pa_nil)))), ?_⟩
    refine ⟨_, rfl, x, _, t, _, _, rfl, .ty "str", p.ty, p.kS, _, rfl, ?_⟩
    cases p with
    | int i => exact iteT (iteT (q H fun _ _ e => e))
    | bl b => exact iteT (iteT (q H fun _ _ e => e))
    | non => exact iteT (iteT (q H fun _ _ e => e))
    | tup e => exact iteT (iteT (q H fun _ _ e => e))
    | str z =>
      have hz := lz z rfl
      refine iteF ⟨_, rfl, _, rfl, _, z.length, rfl, ⟨by rw [sizeLine_eq]; omega, rfl⟩, _, _, rfl, rfl, _, rfl, ?_⟩
      have fin : a ≤ z.length → (z.length : Int) ≤ b → lettersV (.str z) a b = (z.cps.toList.map signOk).all id := fun h1 h2 => by simp [lettersV, h1, h2]
      by_cases c1 : a ≤ (z.length : Int)
      · rw [decide_eq_true c1]
        refine iteT ⟨_, rfl, _, _, rfl, rfl, _, rfl, ?_⟩
        by_cases c2 : (z.length : Int) ≤ b
        · rw [decide_eq_true c2]
          refine iteF ⟨_, rfl, z, rfl, fun D hD => lc_it walk_str (fun i H' => Same H H' ∧ H' D = some (.lst (((z.cps.toList.take i).map signOk).map V.bl))) ⟨same_upd hD, upd_same⟩ (fun _ _ _ _ => True.intro) (fun i x H1 H2 hi pv y => ?_) (fun H' pv => ?_)⟩
          · obtain ⟨sm, hDi⟩ := pv
            obtain ⟨rfl, ch, hc, rfl⟩ := y
            have hc2 : z.cps.toList[i]? = some ch := by rw [Array.getElem?_toList]; exact hc
            have et : z.cps.toList.take (i + 1) = z.cps.toList.take i ++ [ch] := by rw [List.take_add_one, hc2]; rfl
            have hi2 : i < z.length := hi
            have ll : (((z.cps.toList.take i).map signOk).map V.bl).length < sizeLine := by
              have := List.length_take (i := i) (l := z.cps.toList)
              rw [List.length_map, List.length_map, sizeLine_eq]
              omega
            have step : ∀ {b : Bool}, b = signOk ch → Same H (upd H2 D (.lst (((z.cps.toList.take i).map signOk).map V.bl ++ [.bl b]))) ∧ upd H2 D (.lst (((z.cps.toList.take i).map signOk).map V.bl ++ [.bl b])) D = some (.lst (((z.cps.toList.take (i + 1)).map signOk).map V.bl)) := by
              intro b eb
              refine ⟨fun c o e => ?_, ?_⟩
              · rw [upd_ne (ne_of_none e hD)]
                exact sm _ _ e
              · rw [upd_same, et, List.map_append, List.map_append, eb]
                rfl
            refine ⟨rfl, yesT ⟨_, rfl, _, _, rfl, rfl, _, rfl, ?_⟩⟩
            by_cases g1 : [ch] < [97]
            · have e1 : (!decide (([ch] : List Nat) < [97])) = false := by rw [decide_eq_true g1]; rfl
              show if (!decide (([ch] : List Nat) < [97])) = true then _ else _
              rw [e1]
              exact iteF ⟨_, hDi, ll, step (by unfold signOk; rw [e1]; rfl)⟩
            · have e1 : (!decide (([ch] : List Nat) < [97])) = true := by rw [decide_eq_false g1]; rfl
              show if (!decide (([ch] : List Nat) < [97])) = true then _ else _
              rw [e1]
              refine iteT ⟨_, _, rfl, rfl, _, hDi, ll, step ?_⟩
              unfold signOk
              rw [e1, Bool.true_and]
              rfl
          · obtain ⟨sm, hDi⟩ := pv
            have el : z.cps.toList.take z.cps.size = z.cps.toList := List.take_of_length_le (by simp)
            rw [el] at hDi
            refine ⟨D, _, rfl, SqL.of hDi, ?_⟩
            rw [← fin c1 c2]
            exact q H' sm
        · rw [decide_eq_false c2]
          refine iteT ?_
          have e : lettersV (.str z) a b = false := by simp [lettersV, c2]
          rw [← e]
          exact q H fun _ _ e => e
      · rw [decide_eq_false c1]
        refine iteF ⟨_, rfl, ?_⟩
        refine iteT ?_
        have e : lettersV (.str z) a b = false := by simp [lettersV, c1]
        rw [← e]
        exact q H fun _ _ e => e
abbrev nRis : List Str := ["things", "ahead", "behind"]
theorem sc_ris : FnScope nRis ["things"] (defScope stRis) := ⟨rfl, rfl, rfl, by decide +kernel, rfl, by decide +kernel, by decide +kernel⟩
theorem ok_ris {f : Addr} {fd : FuncData} (F : Fun K "is_rising" "is_rising" stRis f fd) (T : TxtKind mg) : FnOk P w K mg base CX0 1 f fd ["things"] spRis := by
  refine F.ok sc_ris (fun vs H Q E h => ?_) (fun cdv A outer s H vs Q E hr h => ?_)
  · obtain ⟨l, as, ss, rfl, _⟩ := h
    rfl
  · obtain ⟨l, as, ss, rfl, hl, pr, hz, q⟩ := h
    refine ⟨_, pss_one (ps_ret (pe_callB (cr_all rfl) (by rfl) T.all (by decide +kernel) (pa_cons (pe_lc (own := [("ahead", 1), ("behind", 2)]) (g := gTup K 2 (gCons (gName 1) (gCons (gName 2) gNil))) (tt := tYes) rfl sc_ris.nd
        (pi_zip (by rfl) T.zip (pa_cons (pv 0) (pa_cons (pe_slice sl_list (pv 0) (po_some pe_int) po_none) pa_nil)))
        (blkOk_by (N := nRis) (sc := defScope stRis) (by decide +kernel)) (fun _ _ _ _ _ => by exact pg_tup rfl (pgs_cons (pg_name (i := 1) sc_ris.nd rfl (Or.inl rfl)) (pgs_cons (pg_name (i := 2) sc_ris.nd rfl (Or.inl rfl)) pgs_nil))) (fun _ _ _ _ _ => pts_nil)
        (fun _ _ _ _ _ => pe_cmpR (r := rLtD K) (op_ltD hr.units) (pv 1) (pv 2) (nomark _))) pa_nil))), ?_⟩
    refine ⟨_, rfl, _, rfl, 1, rfl, l, _, rfl, SqL.of hl, fun l2 hl2 => ⟨l, l2, _, _, rfl, SqL.of ((same_upd hl2) _ _ hl), SqL.of upd_same, fun D hD => ?_⟩⟩
    have ec : cutV (as.map V.ref) (some 1) none = as.tail.map V.ref := by
      unfold cutV
      cases as with
      | nil => rfl
      | cons a r =>
        have e1 : HT.sIx ((a :: r).map V.ref).length 0 (some ((1 : Nat) : Int)) = 1 := by
          rw [HT.sIx_nat, List.length_map, List.length_cons]
          omega
        show (((a :: r).map V.ref).drop (HT.sIx ((a :: r).map V.ref).length 0 (some ((1 : Nat) : Int)))).take (((a :: r).map V.ref).length - HT.sIx ((a :: r).map V.ref).length 0 (some ((1 : Nat) : Int))) = _
        rw [e1, List.map_cons, List.drop_succ_cons, List.drop_zero, List.tail_cons]
        exact List.take_of_length_le (by simp)
    rw [ec] at hD ⊢
    have el : as.length = ss.length := Paired.length pr
    have hn : (ss.zip ss.tail).length = min (as.map V.ref).length (as.tail.map V.ref).length := by
      rw [List.length_zip, List.length_map, List.length_map, List.length_tail, List.length_tail, el]
    have prt : Paired (KyAt H) as.tail ss.tail := by
      cases pr with
      | nil => exact .nil
      | cons _ t => exact t
    refine lc_it (walk_zip (K := K) (a := l) (b := l2) (xs := as.map V.ref) (ys := as.tail.map V.ref) hn)
      (fun i H' => Same (upd H l2 (.lst (as.tail.map V.ref))) H' ∧ H' D = some (.lst ((((ss.zip ss.tail).take i).map fun p => decide (setLt p.1 p.2)).map V.bl))) ⟨same_upd hD, upd_same⟩
      (fun i H' _ pv => ⟨SqL.of (pv.1 _ _ ((same_upd hl2) _ _ hl)), SqL.of (pv.1 _ _ upd_same)⟩) (fun i x H1 H2 hi pv y => ?_) (fun H' pv => ?_)
    · obtain ⟨sm, hDi⟩ := pv
      obtain ⟨T1, x1, y1, rfl, hT1, rfl, ex, ey⟩ := y
      have ex : (as.map V.ref)[i]? = some x1 := ex
      have ey : (as.tail.map V.ref)[i]? = some y1 := ey
      rw [List.getElem?_map] at ex ey
      cases h1 : as[i]? with
      | none =>
        rw [h1] at ex
        cases ex
      | some a1 =>
        rw [h1] at ex
        cases ex
        cases h2 : as.tail[i]? with
        | none =>
          rw [h2] at ey
          cases ey
        | some a2 =>
          rw [h2] at ey
          cases ey
          obtain ⟨s1, g1, k1⟩ := Paired.gl pr h1
          obtain ⟨s2, g2, k2⟩ := Paired.gl prt h2
          have gz : (ss.zip ss.tail)[i]? = some (s1, s2) := List.getElem?_zip_eq_some.mpr ⟨g1, g2⟩
          have et : (ss.zip ss.tail).take (i + 1) = (ss.zip ss.tail).take i ++ [(s1, s2)] := by rw [List.take_add_one, gz]; rfl
          have sT : Same H (upd H1 T1 (.tup [.ref a1, .ref a2])) := ((same_upd hl2).trans sm).trans (same_upd hT1)
          have dp : ∀ {a : Addr} {s : SetT}, KyAt H a s → Dp K (upd H1 T1 (.tup [.ref a1, .ref a2])) (.ref a) (keyD (entS s).1) := fun {a s} h =>
            .tup (SqT.of (sT _ _ h)) (.cons (.str _) (.cons (.int _) .nil))
          refine ⟨T1, _, rfl, SqT.of upd_same, rfl, _, _, rfl, _, _, rfl, rfl, rfl, yesT ⟨_, rfl, _, rfl, keyD (entS s1).1, keyD (entS s2).1, dp k1, dp k2, ?_, ?_, ?_, _, (same_upd hT1) _ _ hDi, ?_, ?_, ?_⟩⟩
          · simp [keyD, entS, HmS.kD, PySem.W.alike, PySem.W.alikeAll]
          · intro z
            cases z
          · have := keyD_depth (entS s1).1
            omega
          · have := List.length_take (i := i) (l := ss.zip ss.tail)
            have h3 : (ss.zip ss.tail).length ≤ ss.length := by rw [List.length_zip]; omega
            rw [List.length_map, List.length_map, sizeLine_eq]
            omega
          · intro c o e
            rw [upd_ne (ne_of_none e hD)]
            exact (same_upd hT1) _ _ (sm _ _ e)
          · rw [upd_same, et, List.map_append, List.map_append, dl_set]
            rfl
    · obtain ⟨sm, hDi⟩ := pv
      rw [List.take_length] at hDi
      exact ⟨D, _, rfl, SqL.of hDi, q H' ((same_upd hl2).trans sm)⟩
end
end Hm

set_option Elab.async false
set_option maxRecDepth 100000
set_option maxHeartbeats 4000000
namespace Hm
open PySem PySem.Spec PyProof.Rows L2 HmS
abbrev stYea : Stmt := topSt 29 -- row is_year
abbrev stSet : Stmt := topSt 30 -- row is_set
abbrev stLis : Stmt := topSt 31 -- row is_list
abbrev stNum : Stmt := topSt 32 -- row is_set_number
theorem placesM_mem : ∀ {sets : List SetT} {i : Nat} {p : PlT}, p ∈ placesM i sets ↔ ∃ (k : Nat) (st : SetT), sets[k]? = some st ∧ p.1 = ((i + k : Nat) : Int) ∧ ∃ n : Nat, n < st.2.2.toNat ∧ p.2 = (n : Int)
  | [], i, p => by simp [placesM]
  | s :: r, i, p => by
    show p ∈ rowP i s ++ placesM (i + 1) r ↔ _
    rw [List.mem_append, placesM_mem (sets := r)]
    constructor
    · rintro (h | ⟨k, st, h1, h2, h3⟩)
      · obtain ⟨n, hn, rfl⟩ := List.mem_map.mp h
        exact ⟨0, s, rfl, rfl, n, List.mem_range.mp hn, rfl⟩
      · exact ⟨k + 1, st, by simpa using h1, by rw [h2, show i + 1 + k = i + (k + 1) by omega], h3⟩
    · rintro ⟨k, st, h1, h2, n, h3, h4⟩
      cases k with
      | zero =>
        cases (show some s = some st from by simpa using h1)
        exact .inl (List.mem_map.mpr ⟨n, List.mem_range.mpr h3, Prod.ext h2.symm h4.symm⟩)
      | succ k => exact .inr ⟨k, st, by simpa using h1, by rw [h2, show i + (k + 1) = i + 1 + k by omega], n, h3, h4⟩
theorem lands_ok : ∀ z ∈ landsL, z.length ≤ 8 ∧ 1 ≤ z.length ∧ lettersV (.str z) 1 8 = true := by
  intro z hz
  simp only [landsL, List.mem_cons, List.not_mem_nil, or_false] at hz
  rcases hz with rfl | rfl | rfl | rfl <;> exact ⟨by decide, by decide, by decide +kernel⟩
theorem names_ok : ∀ z ∈ namesL, z.length ≤ 8 ∧ lettersV (.str z) 0 8 = true := by
  intro z hz
  simp only [namesL, List.mem_cons, List.not_mem_nil, or_false] at hz
  rcases hz with rfl | rfl | rfl | rfl | rfl <;> exact ⟨by decide, by decide +kernel⟩
def spSetIs : Sp := fun vs H Q _ => ∃ (a : Addr) (s : SetT), vs = [.ref a] ∧ SetAt H a s ∧ SetOk s ∧ ∀ H', Same H H' → Q (.bl true) H'
def spLisIs : Sp := fun vs H Q _ => ∃ (b : Addr) (sets : List SetT), vs = [.ref b] ∧ Book H b sets ∧ ∀ H', Same H H' → Q (.bl true) H'
def spYea : Sp := fun vs H Q _ => ∃ (x : V) (t : Value), vs = [x] ∧ Plain H x t ∧ Q (.bl (within x 1840 2100)) H
def spNum : Sp := fun vs H Q _ => ∃ (b : Addr) (sets : List SetT) (x : V) (t : Value), vs = [.ref b, x] ∧ Book H b sets ∧ Plain H x t ∧ Q (.bl (within x 0 ((sets.length : Int) - 1))) H
theorem rise_zip : ∀ {ss : List SetT}, ss.Pairwise setLt → ∀ p ∈ ss.zip ss.tail, setLt p.1 p.2
  | [], _, p, hp => by simp at hp
  | [_], _, p, hp => by simp at hp
  | s :: s2 :: r2, h, p, hp => by
    rw [List.tail_cons, List.zip_cons_cons] at hp
    rw [List.pairwise_cons] at h
    rcases List.mem_cons.mp hp with rfl | hp
    · exact h.1 s2 List.mem_cons_self
    · exact rise_zip h.2 p hp
theorem riseK_ok {ss : List SetT} (h : ss.Pairwise setLt) : riseK ss = true := by
  unfold riseK
  rw [List.all_eq_true]
  intro b hb
  obtain ⟨p, hp, rfl⟩ := List.mem_map.mp hb
  exact decide_eq_true (rise_zip h p hp)
structure TxtBook (mg : Str → Option Value) (fW fL fR fS fT fY : Addr) : Prop where
  k : TxtKind mg
  gT : mg "is_tuple" = some (.ref fT)
  gY : mg "is_year" = some (.ref fY)
  gW : mg "is_whole_within" = some (.ref fW)
  gL : mg "is_letters" = some (.ref fL)
  gR : mg "is_rising" = some (.ref fR)
  gS : mg "is_set" = some (.ref fS)
section
variable {P : Program} {w : World} {K : PySem.W.Frag} {mg : Str → Option Value} {base : Heap}
theorem sc_num : FnScope ["book", "thing"] ["book", "thing"] (defScope stNum) := ⟨rfl, rfl, rfl, by decide +kernel, rfl, by decide +kernel, by decide +kernel⟩
theorem ok_num {f fW : Addr} {fd fdW : FuncData} (F : Fun K "is_set_number" "is_set_number" stNum f fd) (gW : mg "is_whole_within" = some (.ref fW)) (hl : mg "len" = none) (kW : PySem.W.keepIn K (.ref fW) = true)
    (GW : FnOk P w K mg base CX0 2 fW fdW ["thing", "least", "most"] spWit) (bW : Binds K fdW ["thing", "least", "most"] []) : FnOk P w K mg base CX0 3 f fd ["book", "thing"] spNum := by
  refine F.ok sc_num (fun vs H Q E h => ?_) (fun cdv A outer s H vs Q E hr h => ?_)
  · obtain ⟨b, sets, x, t, rfl, _⟩ := h
    rfl
  · obtain ⟨b, sets, x, t, rfl, bk, p, q⟩ := h
    obtain ⟨ok, bs, hb, pb⟩ := id bk
    refine ⟨_, pss_one (ps_ret (pe_call GW hr (by rfl) gW kW bW .nil pass0 (pa_cons (pv 1) (pa_cons pe_int (pa_cons (pe_op op_sub (pe_callB call_len_seq (by rfl) hl PySem.boot_len (pa_cons (pv 0) pa_nil)) pe_int) pa_nil))))), ?_⟩
    refine ⟨_, rfl, _, rfl, b, _, rfl, .inr (SqT.of hb), _, _, rfl, rfl, x, t, _, _, rfl, p, ?_⟩
    rw [List.length_map, Paired.length pb]
    exact q
theorem sc_yea : FnScope ["thing"] ["thing"] (defScope stYea) := ⟨rfl, rfl, rfl, by decide +kernel, rfl, by decide +kernel, by decide +kernel⟩
theorem ok_yea {f fW : Addr} {fd fdW : FuncData} (F : Fun K "is_year" "is_year" stYea f fd) (gW : mg "is_whole_within" = some (.ref fW)) (kW : PySem.W.keepIn K (.ref fW) = true)
    (GW : FnOk P w K mg base CX0 2 fW fdW ["thing", "least", "most"] spWit) (bW : Binds K fdW ["thing", "least", "most"] []) : FnOk P w K mg base CX0 3 f fd ["thing"] spYea := by
  refine F.ok sc_yea (fun vs H Q E h => ?_) (fun cdv A outer s H vs Q E hr h => ?_)
  · obtain ⟨x, t, rfl, _⟩ := h
    rfl
  · obtain ⟨x, t, rfl, p, q⟩ := h
    refine ⟨_, pss_one (ps_ret (pe_call GW hr (by rfl) gW kW bW .nil pass0 (pa_cons (pv 0) (pa_cons pe_int (pa_cons pe_int pa_nil))))), ?_⟩
    exact ⟨_, rfl, x, t, 1840, 2100, rfl, p, q⟩
abbrev nSet : List Str := ["thing", "land", "year", "many"]
theorem sc_set : FnScope nSet ["thing"] (defScope stSet) := ⟨rfl, rfl, rfl, by decide +kernel, rfl, by decide +kernel, by decide +kernel⟩
theorem ok_set {f fW fL fR fS fT fY : Addr} {fd fdW fdL fdT fdY : FuncData} (F : Fun K "is_set" "is_set" stSet f fd) (T : TxtBook mg fW fL fR fS fT fY) (kW : PySem.W.keepIn K (.ref fW) = true) (kL : PySem.W.keepIn K (.ref fL) = true)
    (GW : FnOk P w K mg base CX0 2 fW fdW ["thing", "least", "most"] spWit) (bW : Binds K fdW ["thing", "least", "most"] [])
    (GL : FnOk P w K mg base CX0 1 fL fdL ["thing", "fewest", "most"] spLet) (bL : Binds K fdL ["thing", "fewest", "most"] [])
    (kT : PySem.W.keepIn K (.ref fT) = true) (GT : FnOk P w K mg base CX0 1 fT fdT ["thing", "fewest", "most"] spTupN) (bT : Binds K fdT ["thing", "fewest", "most"] [])
    (kY : PySem.W.keepIn K (.ref fY) = true) (GY : FnOk P w K mg base CX0 3 fY fdY ["thing"] spYea) (bY : Binds K fdY ["thing"] []) : FnOk P w K mg base CX0 4 f fd ["thing"] spSetIs := by
  refine F.ok sc_set (fun vs H Q E h => ?_) (fun cdv A outer s H vs Q E hr h => ?_)
  · obtain ⟨a, st, rfl, _⟩ := h
    rfl
  · obtain ⟨a, st, rfl, ha, ok, q⟩ := h
    refine ⟨_, pss_cons (ps_if (pt_not (pt_val (pe_call GT (hr.mono (by decide)) (by rfl) T.gT kT bT .nil pass0 (pa_cons (pv 0) (pa_cons pe_int (pa_cons pe_int pa_nil)))))) (pss_one (ps_ret pe_bl)) pss_nil)
      (pss_cons (ps_asg (pv 0) (pg_tup rfl (pgs_cons (pg_name (i := 1) sc_set.nd rfl (Or.inl rfl)) (pgs_cons (pg_name (i := 2) sc_set.nd rfl (Or.inl rfl)) (pgs_cons (pg_name (i := 3) sc_set.nd rfl (Or.inl rfl)) pgs_nil)))))
      (pss_one (ps_ret (pe_and (pe_call GL (hr.mono (by decide)) (by rfl) T.gL kL bL .nil pass0 (pa_cons (pv 1) (pa_cons pe_int (pa_cons pe_int pa_nil))))
        (pe_and (pe_call GY hr (by rfl) T.gY kY bY .nil pass0 (pa_cons (pv 2) pa_nil)) (pe_one (pe_call GW (hr.mono (by decide)) (by rfl) T.gW kW bW .nil pass0 (pa_cons (pv 3) (pa_cons pe_int (pa_cons pe_int pa_nil)))))))))), ?_⟩
    have pa : Plain H (.ref a) (.type "tuple") := .tup ha
    refine ⟨_, rfl, .ref a, _, 3, 3, rfl, pa, _, rfl, ?_⟩
    rw [tupB_of ha]
    refine iteF ?_
    refine ⟨_, rfl, a, _, rfl, SqT.of ha, rfl, _, _, rfl, _, _, rfl, _, _, rfl, rfl, ?_⟩
    have ol := lands_ok st.1 ok.land
    have y0 := ok.y0
    have y1 := ok.y1
    have m0 := ok.m0
    have m1 := ok.m1
    refine ⟨_, rfl, .str st.1, _, 1, 8, rfl, .str _, (fun z e => by cases e; omega), fun H1 s1 => ⟨_, rfl, ?_⟩⟩
    rw [ol.2.2]
    refine iteT ⟨_, rfl, .int st.2.1, _, rfl, .int _, _, rfl, ?_⟩
    have e1 : within (.int st.2.1) 1840 2100 = true := by simp [within, y0, y1]
    rw [e1]
    refine iteT ⟨_, rfl, .int st.2.2, _, 1, 6, rfl, .int _, ?_⟩
    have e2 : within (.int st.2.2) 1 6 = true := by simp [within, m0, m1]
    rw [e2]
    exact q H1 s1
abbrev nLis : List Str := ["thing", "part"]
theorem sc_lis : FnScope nLis ["thing"] (defScope stLis) := ⟨rfl, rfl, rfl, by decide +kernel, rfl, by decide +kernel, by decide +kernel⟩
theorem ok_lis {f fW fL fR fS fT fY : Addr} {fd fdR fdS fdT : FuncData} (F : Fun K "is_list" "is_list" stLis f fd) (T : TxtBook mg fW fL fR fS fT fY) (kR : PySem.W.keepIn K (.ref fR) = true) (kS : PySem.W.keepIn K (.ref fS) = true)
    (kT : PySem.W.keepIn K (.ref fT) = true) (GT : FnOk P w K mg base CX0 1 fT fdT ["thing", "fewest", "most"] spTupN) (bT : Binds K fdT ["thing", "fewest", "most"] [])
    (GS : FnOk P w K mg base CX0 4 fS fdS ["thing"] spSetIs) (bS : Binds K fdS ["thing"] [])
    (GR : FnOk P w K mg base CX0 1 fR fdR ["things"] spRis) (bR : Binds K fdR ["things"] []) : FnOk P w K mg base CX0 5 f fd ["thing"] spLisIs := by
  refine F.ok sc_lis (fun vs H Q E h => ?_) (fun cdv A outer s H vs Q E hr h => ?_)
  · obtain ⟨b, sets, rfl, _⟩ := h
    rfl
  · obtain ⟨b, sets, rfl, bk, q⟩ := h
    obtain ⟨ok, bs, hb, pb⟩ := id bk
    refine ⟨_, pss_cons (ps_if (PW.pt (pw_or (pt_not (pt_val (pe_call GT (hr.mono (by decide)) (by rfl) T.gT kT bT .nil pass0 (pa_cons (pv 0) (pa_cons pe_int (pa_cons pe_int pa_nil))))))
        (pw_or1 (pt_not (pt_val (pe_callB (cr_all rfl) (by rfl) T.k.all (by decide +kernel) (pa_cons (pe_lc (own := [("part", 1)]) (g := gName 1) (tt := tYes) rfl sc_lis.nd (pi_tup (pv 0))
          (blkOk_by (N := nLis) (sc := defScope stLis) (by decide +kernel)) (fun _ _ _ _ _ => pg_name (i := 1) sc_lis.nd rfl (Or.inl rfl)) (fun _ _ _ _ _ => pts_nil)
          (fun _ _ _ _ _ => pe_call GS hr (by rfl) T.gS kS bS .nil pass0 (pa_cons (pv 1) pa_nil))) pa_nil))))))) (pss_one (ps_ret pe_bl)) pss_nil)
      (pss_one (ps_ret (pe_call GR (hr.mono (by decide)) (by rfl) T.gR kR bR .nil pass0 (pa_cons (pe_lc (own := [("part", 1)]) (g := gName 1) (tt := tYes) rfl sc_lis.nd (pi_tup (pv 0))
          (blkOk_by (N := nLis) (sc := defScope stLis) (by decide +kernel)) (fun _ _ _ _ _ => pg_name (i := 1) sc_lis.nd rfl (Or.inl rfl)) (fun _ _ _ _ _ => pts_nil)
          (fun _ _ _ _ _ => pe_slice (r := rSlT K) sl_tup (pv 1) po_none (po_some pe_int))) pa_nil)))), ?_⟩
    have pa : Plain H (.ref b) (.type "tuple") := .tup hb
    have bl : bs.length = sets.length := Paired.length pb
    have l0 := ok.len0
    have l1 := ok.len1
    refine ⟨_, rfl, .ref b, _, 1, 4, rfl, pa, _, rfl, ?_⟩
    rw [tupB_of hb, List.length_map, bl, decide_eq_true (show (1 : Int) ≤ sets.length by omega), decide_eq_true (show (sets.length : Int) ≤ 4 by omega)]
    refine iteF ⟨_, rfl, b, rfl, ⟨_, SqT.of hb⟩, fun D hD => lc_tup (K := K) (xs := bs.map V.ref) (fun i H' => Same H H' ∧ H' D = some (.lst ((List.replicate i true).map V.bl)))
      ⟨same_upd hD, upd_same⟩ (fun i H' _ pv => SqT.of (pv.1 _ _ hb)) (fun i x H1 hx pv => ?_) (fun H1 pv => ?_)⟩
    · obtain ⟨sm, hDi⟩ := pv
      rw [List.getElem?_map] at hx
      cases h1 : bs[i]? with
      | none =>
        rw [h1] at hx
        cases hx
      | some a1 =>
        rw [h1] at hx
        cases hx
        obtain ⟨s1, g1, k1⟩ := Paired.gl pb h1
        have hi := (List.getElem?_eq_some_iff.mp g1).1
        refine ⟨rfl, yesT ⟨_, rfl, a1, s1, rfl, sm _ _ k1, ok.ok _ (List.mem_of_getElem? g1), fun H2 s2 => ⟨_, s2 _ _ hDi, by rw [List.length_map, List.length_replicate]; exact small1000 (by omega), fun c o e => ?_, ?_⟩⟩⟩
        · rw [upd_ne (ne_of_none e hD)]
          exact s2 _ _ (sm _ _ e)
        · rw [upd_same, List.replicate_succ', List.map_append]
          rfl
    · obtain ⟨sm, hDi⟩ := pv
      have ea : (List.replicate (bs.map V.ref).length true).all id = true := by rw [List.all_replicate]; simp
      refine ⟨D, _, rfl, SqL.of hDi, _, rfl, ?_⟩
      rw [ea]
      refine iteF ⟨_, rfl, b, rfl, ⟨_, SqT.of (sm _ _ hb)⟩, fun D2 hD2 => lc_tup (K := K) (xs := bs.map V.ref) (fun i H' => Same H1 H' ∧ ∃ cs : List Addr, H' D2 = some (.lst (cs.map V.ref)) ∧ Paired (KyAt H') cs (sets.take i))
        ⟨same_upd hD2, [], upd_same, .nil⟩ (fun i H' _ pv => SqT.of (pv.1 _ _ (sm _ _ hb))) (fun i x H2 hx pv => ?_) (fun H2 pv => ?_)⟩
      · obtain ⟨sm2, cs, hDc, pc⟩ := pv
        rw [List.getElem?_map] at hx
        cases h1 : bs[i]? with
        | none =>
          rw [h1] at hx
          cases hx
        | some a1 =>
          rw [h1] at hx
          cases hx
          obtain ⟨s1, g1, k1⟩ := Paired.gl pb h1
          have hi := (List.getElem?_eq_some_iff.mp g1).1
          have lc : cs.length ≤ 4 := by
            rw [Paired.length pc, List.length_take]
            omega
          refine ⟨rfl, yesT ⟨_, rfl, 2, rfl, a1, _, rfl, SqT.of (sm2 _ _ (sm _ _ k1)), (fun z => absurd z.2 (by show ¬ HT.sIx 3 3 (some 2) = 3; decide)), fun p hp => ⟨_, (same_upd hp) _ _ hDc, by rw [List.length_map]; exact small1000 (by omega), fun c o e => ?_, cs ++ [p], by rw [upd_same, List.map_append]; rfl, ?_⟩⟩⟩
          · rw [upd_ne (ne_of_none e hD2)]
            exact (same_upd hp) _ _ (sm2 _ _ e)
          · have et : sets.take (i + 1) = sets.take i ++ [s1] := by rw [List.take_add_one, g1]; rfl
            rw [et]
            have pD : p ≠ D2 := fun z => by
              rw [z, hDc] at hp
              cases hp
            refine Paired.snoc ?_ (Paired.mp (fun a s h => ?_) pc)
            · show upd _ D2 _ p = _
              rw [upd_ne pD]
              exact upd_same
            · have nD : a ≠ D2 := fun z => by
                have h' : H2 a = some (.tup _) := h
                rw [z, hDc] at h'
                cases h'
              show upd _ D2 _ a = _
              rw [upd_ne nD]
              exact (same_upd hp) _ _ h
      · obtain ⟨sm2, cs, hDc, pc⟩ := pv
        rw [List.length_map, bl, List.take_length] at pc
        refine ⟨D2, cs, sets, rfl, hDc, pc, by omega, fun H3 s3 => ?_⟩
        rw [riseK_ok ok.rise]
        exact q H3 ((sm.trans sm2).trans s3)
end
end Hm

set_option Elab.async false
set_option maxRecDepth 100000
set_option maxHeartbeats 4000000
namespace Hm
open PySem PySem.Spec PyProof.Rows L2 HmS
abbrev stIpl : Stmt := topSt 33 -- row is_place
abbrev stStp : Stmt := topSt 34 -- row is_stamp
abbrev stSts : Stmt := topSt 36 -- row is_stamps
def spStp : Sp := fun vs H Q _ => ∃ (b a : Addr) (sets : List SetT) (s : StT), vs = [.ref b, .ref a] ∧ Book H b sets ∧ StAt H a s ∧ StOk sets s ∧ ∀ H', Same H H' → Q (.bl true) H'
def spIpl : Sp := fun vs H Q _ => ∃ (b a : Addr) (sets : List SetT) (p : PlT), vs = [.ref b, .ref a] ∧ Book H b sets ∧ H a = some (.tup [.int p.1, .int p.2]) ∧ p ∈ placesM 0 sets ∧ Q (.bl true) H
def spSts : Sp := fun vs H Q _ => ∃ (b t : Addr) (sets : List SetT) (as : List Addr) (ss : List StT), vs = [.ref b, .ref t] ∧ Book H b sets ∧ H t = some (.tup (as.map V.ref)) ∧ Paired (StAt H) as ss ∧ (∀ s ∈ ss, StOk sets s) ∧ ss.length ≤ 400 ∧
  ∀ H', Same H H' → Q (.bl true) H'
structure TxtStp (mg : Str → Option Value) (fW fN fS fT fP : Addr) : Prop where
  k : TxtKind mg
  gW : mg "is_whole_within" = some (.ref fW)
  gN : mg "is_set_number" = some (.ref fN)
  gS : mg "is_stamp" = some (.ref fS)
  gT : mg "is_tuple" = some (.ref fT)
  gP : mg "is_place" = some (.ref fP)
  hinged : ∃ t, mg "HINGED" = some (.int 0 t)
  whole : ∃ t, mg "WHOLE" = some (.int 1 t)
section
variable {P : Program} {w : World} {K : PySem.W.Frag} {mg : Str → Option Value} {base : Heap}
abbrev nIpl : List Str := ["book", "thing", "at", "number"]
theorem sc_ipl : FnScope nIpl ["book", "thing"] (defScope stIpl) := ⟨rfl, rfl, rfl, by decide +kernel, rfl, by decide +kernel, by decide +kernel⟩
theorem ok_ipl {f fW fN fS fT fP : Addr} {fd fdW fdN fdT : FuncData} (F : Fun K "is_place" "is_place" stIpl f fd) (T : TxtStp mg fW fN fS fT fP) (kW : PySem.W.keepIn K (.ref fW) = true) (kN : PySem.W.keepIn K (.ref fN) = true) (kT : PySem.W.keepIn K (.ref fT) = true)
    (GW : FnOk P w K mg base CX0 2 fW fdW ["thing", "least", "most"] spWit) (bW : Binds K fdW ["thing", "least", "most"] [])
    (GT : FnOk P w K mg base CX0 1 fT fdT ["thing", "fewest", "most"] spTupN) (bT : Binds K fdT ["thing", "fewest", "most"] [])
    (GN : FnOk P w K mg base CX0 3 fN fdN ["book", "thing"] spNum) (bN : Binds K fdN ["book", "thing"] []) : FnOk P w K mg base CX0 4 f fd ["book", "thing"] spIpl := by
  refine F.ok sc_ipl (fun vs H Q E h => ?_) (fun cdv A outer s H vs Q E hr h => ?_)
  · obtain ⟨b, a, sets, st, rfl, _⟩ := h
    rfl
  · obtain ⟨b, a, sets, pl, rfl, bk, ha, hpl, q⟩ := h
    obtain ⟨ok, bs, hb, pb⟩ := id bk
    refine ⟨_, pss_cons (ps_if (pt_not (pt_val (pe_call GT (hr.mono (by decide)) (by rfl) T.gT kT bT .nil pass0 (pa_cons (pv 1) (pa_cons pe_int (pa_cons pe_int pa_nil)))))) (pss_one (ps_ret pe_bl)) pss_nil)
      (pss_cons (ps_asg (pv 1) (pg_tup rfl (pgs_cons (pg_name (i := 2) sc_ipl.nd rfl (Or.inl rfl)) (pgs_cons (pg_name (i := 3) sc_ipl.nd rfl (Or.inl rfl)) pgs_nil))))
      (pss_one (ps_ret (pe_and (pe_call GN hr (by rfl) T.gN kN bN .nil pass0 (pa_cons (pv 0) (pa_cons (pv 2) pa_nil)))
        (pe_one (pe_call GW (hr.mono (by decide)) (by rfl) T.gW kW bW .nil pass0 (pa_cons (pv 3) (pa_cons pe_int (pa_cons (pe_op op_sub (pe_ix (r := rIxT K) ix_tup (pe_ix (r := rIxT K) ix_tup (pv 0) (pv 2) (fun _ _ => rfl)) pe_int (fun _ _ => rfl)) pe_int) pa_nil))))))))), ?_⟩
    have pa : Plain H (.ref a) (.type "tuple") := .tup ha
    refine ⟨_, rfl, .ref a, _, 2, 2, rfl, pa, _, rfl, ?_⟩
    rw [tupB_of ha]
    refine iteF ?_
    refine ⟨_, rfl, a, _, rfl, SqT.of ha, rfl, _, _, rfl, _, _, rfl, rfl, ?_⟩
    obtain ⟨k, sx, hk, e1, n, hn, e2⟩ := placesM_mem.mp hpl
    rw [Nat.zero_add] at e1
    have hk2 := (List.getElem?_eq_some_iff.mp hk).1
    have okS := ok.ok sx (List.mem_of_getElem? hk)
    have m0 := okS.m0
    have w1 : within (.int pl.1) 0 ((sets.length : Int) - 1) = true := by
      simp only [within, Bool.and_eq_true, decide_eq_true_eq]
      omega
    refine ⟨_, rfl, _, rfl, b, sets, .int pl.1, _, rfl, bk, .int _, _, rfl, ?_⟩
    rw [w1]
    obtain ⟨ax, hax, kx⟩ := Paired.gt pb hk
    have at1 : atI (bs.map V.ref) pl.1 = some (.ref ax) := by
      rw [e1]
      exact atI_nat (by rw [List.getElem?_map, hax]; rfl)
    refine iteT ⟨_, rfl, _, rfl, _, rfl, b, _, _, _, rfl, rfl, SqT.of hb, at1, ax, _, _, .int sx.2.2, rfl, rfl, SqT.of kx, rfl, _, _, rfl, rfl, .int pl.2, _, 0, sx.2.2 - 1, rfl, .int _, ?_⟩
    have w2 : within (.int pl.2) 0 (sx.2.2 - 1) = true := by
      simp only [within, Bool.and_eq_true, decide_eq_true_eq]
      omega
    rw [w2]
    exact q
theorem sc_stp : FnScope ["book", "thing"] ["book", "thing"] (defScope stStp) := ⟨rfl, rfl, rfl, by decide +kernel, rfl, by decide +kernel, by decide +kernel⟩
theorem ok_stp {f fW fN fS fT fP : Addr} {fd fdW fdT fdP : FuncData} (F : Fun K "is_stamp" "is_stamp" stStp f fd) (T : TxtStp mg fW fN fS fT fP) (kW : PySem.W.keepIn K (.ref fW) = true) (kP : PySem.W.keepIn K (.ref fP) = true) (kT : PySem.W.keepIn K (.ref fT) = true)
    (GW : FnOk P w K mg base CX0 2 fW fdW ["thing", "least", "most"] spWit) (bW : Binds K fdW ["thing", "least", "most"] [])
    (GT : FnOk P w K mg base CX0 1 fT fdT ["thing", "fewest", "most"] spTupN) (bT : Binds K fdT ["thing", "fewest", "most"] [])
    (GP : FnOk P w K mg base CX0 4 fP fdP ["book", "thing"] spIpl) (bP : Binds K fdP ["book", "thing"] []) : FnOk P w K mg base CX0 5 f fd ["book", "thing"] spStp := by
  refine F.ok sc_stp (fun vs H Q E h => ?_) (fun cdv A outer s H vs Q E hr h => ?_)
  · obtain ⟨b, a, sets, st, rfl, _⟩ := h
    rfl
  · obtain ⟨b, a, sets, st, rfl, bk, ha, so, q⟩ := h
    obtain ⟨t0, hH⟩ := T.hinged
    obtain ⟨t1, hW⟩ := T.whole
    refine ⟨_, pss_cons (ps_if (pt_not (pt_val (pe_call GT (hr.mono (by decide)) (by rfl) T.gT kT bT .nil pass0 (pa_cons (pv 1) (pa_cons pe_int (pa_cons pe_int pa_nil)))))) (pss_one (ps_ret pe_bl)) pss_nil)
      (pss_one (ps_ret (pe_and (pe_call GP hr (by rfl) T.gP kP bP .nil pass0 (pa_cons (pv 0) (pa_cons (pe_slice (r := rSlT K) sl_tup (pv 1) po_none (po_some pe_int)) pa_nil)))
        (pe_one (pe_call GW (hr.mono (by decide)) (by rfl) T.gW kW bW .nil pass0 (pa_cons (pe_ix (r := rIxT K) ix_tup (pv 1) pe_int (fun _ _ => rfl)) (pa_cons (pe_glob (v := .int 0) (by rfl) hH ⟨_, rfl⟩) (pa_cons (pe_glob (v := .int 1) (by rfl) hW ⟨_, rfl⟩) pa_nil)))))))), ?_⟩
    have pa : Plain H (.ref a) (.type "tuple") := .tup ha
    refine ⟨_, rfl, .ref a, _, 3, 3, rfl, pa, _, rfl, ?_⟩
    rw [tupB_of ha]
    refine iteF ?_
    refine ⟨_, rfl, _, rfl, 2, rfl, a, _, rfl, SqT.of ha, (fun z => absurd z.2 (by show ¬ HT.sIx 3 3 (some 2) = 3; decide)), fun t ht => ?_⟩
    have s1 : Same H (upd H t (.tup [V.int st.1, V.int st.2.1])) := same_upd ht
    refine ⟨b, t, sets, (st.1, st.2.1), rfl, bk.same s1, upd_same, so.pl, _, rfl, ?_⟩
    have w3 : within (.int st.2.2) 0 1 = true := by
      have := so.g0
      have := so.g1
      simp only [within, Bool.and_eq_true, decide_eq_true_eq]
      omega
    refine iteT ⟨_, rfl, a, _, _, .int st.2.2, rfl, rfl, SqT.of (s1 _ _ ha), rfl, .int st.2.2, _, 0, 1, rfl, .int _, ?_⟩
    rw [w3]
    exact q _ s1
abbrev nSts : List Str := ["book", "thing", "part"]
theorem sc_sts : FnScope nSts ["book", "thing"] (defScope stSts) := ⟨rfl, rfl, rfl, by decide +kernel, rfl, by decide +kernel, by decide +kernel⟩
theorem ok_sts {f fW fN fS fT fP : Addr} {fd fdS : FuncData} (F : Fun K "is_stamps" "is_stamps" stSts f fd) (T : TxtStp mg fW fN fS fT fP) (kS : PySem.W.keepIn K (.ref fS) = true)
    (GS : FnOk P w K mg base CX0 5 fS fdS ["book", "thing"] spStp) (bS : Binds K fdS ["book", "thing"] []) : FnOk P w K mg base CX0 6 f fd ["book", "thing"] spSts := by
  refine F.ok sc_sts (fun vs H Q E h => ?_) (fun cdv A outer s H vs Q E hr h => ?_)
  · obtain ⟨b, t, sets, as, ss, rfl, _⟩ := h
    rfl
  · obtain ⟨b, t, sets, as, ss, rfl, bk, ht, pr, so, hz, q⟩ := h
    refine ⟨_, pss_one (ps_ret (pe_and (pe_callB call_isi (by rfl) T.k.isi boot_isinstance (pa_cons (pv 1) (pa_cons (pe_bltn (v := .ty "tuple") (by rfl) T.k.tuple (by decide +kernel) rfl) pa_nil)))
      (pe_one (pe_callB (cr_all rfl) (by rfl) T.k.all (by decide +kernel) (pa_cons (pe_lc (own := [("part", 2)]) (g := gName 2) (tt := tYes) rfl sc_sts.nd (pi_tup (pv 1))
          (blkOk_by (N := nSts) (sc := defScope stSts) (by decide +kernel)) (fun _ _ _ _ _ => pg_name (i := 2) sc_sts.nd rfl (Or.inl rfl)) (fun _ _ _ _ _ => pts_nil)
          (fun _ _ _ _ _ => pe_call GS hr (by rfl) T.gS kS bS .nil pass0 (pa_cons (pv 0) (pa_cons (pv 2) pa_nil)))) pa_nil))))), ?_⟩
    have pa : Plain H (.ref t) (.type "tuple") := .tup ht
    have bl : as.length = ss.length := Paired.length pr
    refine ⟨_, rfl, _, _, _, _, _, rfl, .ty "tuple", pa.ty, pa.kT, _, rfl, iteT ⟨_, rfl, t, rfl, ⟨_, SqT.of ht⟩, fun D hD => lc_tup (K := K) (xs := as.map V.ref) (fun i H' => Same H H' ∧ H' D = some (.lst ((List.replicate i true).map V.bl)))
      ⟨same_upd hD, upd_same⟩ (fun i H' _ pv => SqT.of (pv.1 _ _ ht)) (fun i x H1 hx pv => ?_) (fun H1 pv => ?_)⟩⟩
    · obtain ⟨sm, hDi⟩ := pv
      rw [List.getElem?_map] at hx
      cases h1 : as[i]? with
      | none =>
        rw [h1] at hx
        cases hx
      | some a1 =>
        rw [h1] at hx
        cases hx
        obtain ⟨s1, g1, k1⟩ := Paired.gl pr h1
        have hi := (List.getElem?_eq_some_iff.mp g1).1
        refine ⟨rfl, yesT ⟨_, rfl, _, rfl, b, a1, sets, s1, rfl, bk.same sm, sm _ _ k1, so _ (List.mem_of_getElem? g1), fun H2 s2 => ⟨_, s2 _ _ hDi, by rw [List.length_map, List.length_replicate]; exact small1000 (by omega), fun c o e => ?_, ?_⟩⟩⟩
        · rw [upd_ne (ne_of_none e hD)]
          exact s2 _ _ (sm _ _ e)
        · rw [upd_same, List.replicate_succ', List.map_append]
          rfl
    · obtain ⟨sm, hDi⟩ := pv
      have ea : (List.replicate (as.map V.ref).length true).all id = true := by rw [List.all_replicate]; simp
      refine ⟨D, _, rfl, SqL.of hDi, ?_⟩
      rw [ea]
      exact q H1 sm
end
end Hm

set_option Elab.async false
set_option maxRecDepth 100000
set_option maxHeartbeats 4000000
namespace Hm
open PySem PySem.Spec PyProof.Rows L2 HmS
abbrev stAlb : Stmt := topSt 37 -- row Album
abbrev sInit : Stmt := inClass stAlb 0 -- meth Album __init__
abbrev sChk : Stmt := inClass stAlb 4 -- meth Album _check_stamp
abbrev sCof : Stmt := inClass stAlb 7 -- meth Album count_of
abbrev sAof : Stmt := inClass stAlb 8 -- meth Album all_of
abbrev sGaA : Stmt := inClass stAlb 9 -- meth Album gaps
abbrev sFil : Stmt := inClass stAlb 10 -- meth Album _fills
abbrev sDbA : Stmt := inClass stAlb 11 -- meth Album doubles
abbrev sKee : Stmt := inClass stAlb 12 -- meth Album _keeps
abbrev sWho : Stmt := inClass stAlb 13 -- meth Album whole_sets
/-- a suite that isn't reached -/
def tNever : TS := fun _ _ _ => False
theorem pss_never {X : Cx} {b : List Stmt} : PSs X b tNever := ⟨fun _ _ _ _ _ _ h => h.elim⟩
/-! ### an album in the heap -/
theorem nbn : ¬ (("_book" : Str) = "_name") := by decide +kernel
theorem nbm : ¬ (("_book" : Str) = "_many") := by decide +kernel
theorem nnm : ¬ (("_name" : Str) = "_many") := by decide +kernel
def albF (b : Addr) (n : Str) (d : Addr) : List (Str × V) := putF "_many" (.ref d) (putF "_name" (.str n) (putF "_book" (.ref b) []))
theorem albF_eq (b : Addr) (n : Str) (d : Addr) : albF b n d = ([("_book", V.ref b), ("_name", V.str n), ("_many", V.ref d)] : List (Str × V)) := by
  unfold albF
  show putF "_many" (.ref d) (if ("_book" : Str) = "_name" then _ else (("_book" : Str), V.ref b) :: putF "_name" (V.str n) []) = _
  rw [if_neg nbn]
  show (if ("_book" : Str) = "_many" then _ else (("_book" : Str), V.ref b) :: (if ("_name" : Str) = "_many" then _ else (("_name" : Str), V.str n) :: putF "_many" (V.ref d) [])) = _
  rw [if_neg nbm, if_neg nnm]
  rfl
theorem albF_m (b : Addr) (n : Str) (d : Addr) : (albF b n d).lookup ("_many" : Str) = some (.ref d) := by
  unfold albF
  rw [lookup_putF, if_pos rfl]
theorem albF_n (b : Addr) (n : Str) (d : Addr) : (albF b n d).lookup ("_name" : Str) = some (.str n) := by
  unfold albF
  rw [lookup_putF, if_neg nnm, lookup_putF, if_pos rfl]
theorem albF_b (b : Addr) (n : Str) (d : Addr) : (albF b n d).lookup ("_book" : Str) = some (.ref b) := by
  unfold albF
  rw [lookup_putF, if_neg nbm, lookup_putF, if_neg nbn, lookup_putF, if_pos rfl]
theorem albF_no (b : Addr) (n : Str) (d : Addr) {m : Str} (h1 : ¬ m = "_many") (h2 : ¬ m = "_name") (h3 : ¬ m = "_book") : (albF b n d).lookup m = none := by
  unfold albF
  rw [lookup_putF, if_neg h1, lookup_putF, if_neg h2, lookup_putF, if_neg h3]
  rfl
/-- an album at p: the list at b, the name n, the counts cs at d -/
structure AlbAt (C : Addr) (H : Hp) (p b : Addr) (n : Str) (d : Addr) (cs : CtT) : Prop where
  ob : ∃ dx, H p = some (.ins C dx (albF b n d))
  dc : H d = some (.dT (cs.map entC))
theorem AlbAt.same {C : Addr} {H H' : Hp} {p b d : Addr} {n : Str} {cs : CtT} (s : Same H H') (h : AlbAt C H p b n d cs) : AlbAt C H' p b n d cs := by
  obtain ⟨⟨dx, e⟩, f⟩ := h
  exact ⟨⟨dx, s _ _ e⟩, s _ _ f⟩
theorem alb2 (b : Addr) (n : Str) : (putF "_name" (V.str n) (putF "_book" (V.ref b) [])).length < 1000 := by
  show (if ("_book" : Str) = "_name" then [(("_book" : Str), V.str n)] else (("_book" : Str), V.ref b) :: putF "_name" (V.str n) []).length < 1000
  rw [if_neg nbn]
  show 2 < 1000
  decide
theorem orT_tup {K : PySem.W.Frag} {σ : L2.St} {H : Hp} {Q : VK} {i : Nat} {t : Addr} {as : List Addr} (ht : σ[i]? = some (some (.ref t))) (hT : H t = some (.tup (as.map V.ref))) (q : ∀ t' G, Same H G → G t' = some (.tup (as.map V.ref)) → Q (.ref t') G) :
    tOrT K (tVar i) (tTup tNil) σ H Q := by
  cases as with
  | nil => exact ⟨_, ht, false, .inr (.inl ⟨_, SqT.of hT, rfl⟩), iteF ⟨by show 0 ≤ sizeLine; decide, fun t0 h0 => q t0 _ (same_upd h0) upd_same⟩⟩
  | cons a r => exact ⟨_, ht, true, .inr (.inl ⟨_, SqT.of hT, rfl⟩), iteT (q t H (fun _ _ e => e) hT)⟩
structure TxtAlb (K : PySem.W.Frag) (mg : Str → Option Value) (C : Addr) : Prop where
  cl : Cls K C
  nB : NoAttr K C "_book"
  nN : NoAttr K C "_name"
  nM : NoAttr K C "_many"
  mgC : mg "Album" = some (.ref C)
structure TxtCal (mg : Str → Option Value) (fLs fLt fSs fSt fNu : Addr) : Prop where
  gLs : mg "is_list" = some (.ref fLs)
  gLt : mg "is_letters" = some (.ref fLt)
  gSs : mg "is_stamps" = some (.ref fSs)
  gSt : mg "is_stamp" = some (.ref fSt)
  gNu : mg "is_set_number" = some (.ref fNu)
/-- a def with defaults that lets nothing out -/
theorem FunD.ok0 {P : Program} {w : World} {K : PySem.W.Frag} {mg : Str → Option Value} {base : Heap} {x qual : Str} {params : Arguments} {body : List Stmt} {scope : Scope} {dvs : List V} {kws : List (Str × V)} {f : Addr} {fd : FuncData} {N ps : List Str} {k : Nat} {sp : Sp} (F : FunD K x qual params body scope dvs kws f fd) (S : FnScope N ps scope) (len : ∀ vs H Q E, sp vs H Q E → vs.length = ps.length)
    (hbody : ∀ (cdv : Value) (A : Around) (outer : List Env) (s : Shared) (H : Hp) (vs : List V) (Q : VK) (E : XK), Room k (A.deeper (envOfC qual scope s.heap.objs.size f cdv)) → sp vs H Q E →
      ∃ t, PSs (cxOf CX0 P w K mg base N qual scope f cdv A outer s H E).nox body t ∧ t { nx := fun _ H' => Q .non H', rt := Q } (L2.start N vs) H) : FnOk P w K mg base CX0 (k + 1) f fd ps sp :=
  FunD.ok F S len fun cdv A outer s H vs Q E hr hsp => by
    obtain ⟨t, h, q⟩ := hbody cdv A outer s H vs Q E hr hsp
    exact ⟨t, h.nox, q⟩
abbrev FInit (K : PySem.W.Frag) (f : Addr) (fd : FuncData) : Prop := FunD K "__init__" "Album.__init__" (defArgs sInit) (defBody sInit) (defScope sInit) [.str "", .non] [] f fd
def NameOk (n : Str) : Prop := n.length ≤ 8 ∧ lettersV (.str n) 0 8 = true
def spInit (C : Addr) : Sp := fun vs H Q _ => ∃ (p dx b t : Addr) (n : Str) (sets : List SetT) (as : List Addr) (ss : List StT), vs = [.ref p, .ref b, .str n, .ref t] ∧ H p = some (.ins C dx []) ∧ Book H b sets ∧ NameOk n ∧
  H t = some (.tup (as.map V.ref)) ∧ Paired (StAt H) as ss ∧ (∀ s ∈ ss, StOk sets s) ∧ ss.length ≤ 400 ∧
  ∀ (H' : Hp) (d : Addr), Keep p H H' → H d = none → AlbAt C H' p b n d (countsM ss) → Q .non H'
def spIni0 (C : Addr) : Sp := fun vs H Q _ => ∃ (p dx b : Addr) (n : Str) (sets : List SetT), vs = [.ref p, .ref b, .str n, .non] ∧ H p = some (.ins C dx []) ∧ Book H b sets ∧ NameOk n ∧
  ∀ (H' : Hp) (d : Addr), Keep p H H' → H d = none → AlbAt C H' p b n d [] → Q .non H'
section
variable {P : Program} {w : World} {K : PySem.W.Frag} {mg : Str → Option Value} {base : Heap}
abbrev nInit : List Str := ["self", "book", "name", "stamps", "stamp"]
theorem sc_init : FnScope nInit ["self", "book", "name", "stamps"] (defScope sInit) := ⟨rfl, rfl, rfl, by decide +kernel, rfl, by decide +kernel, by decide +kernel⟩
theorem ok_init {f C fLs fLt fSs fSt fNu : Addr} {fd fdLs fdLt fdSs : FuncData} (F : FInit K f fd) (T : TxtAlb K mg C) (TC : TxtCal mg fLs fLt fSs fSt fNu)
    (kLs : PySem.W.keepIn K (.ref fLs) = true) (kLt : PySem.W.keepIn K (.ref fLt) = true) (kSs : PySem.W.keepIn K (.ref fSs) = true)
    (GLs : FnOk P w K mg base CX0 5 fLs fdLs ["thing"] spLisIs) (bLs : Binds K fdLs ["thing"] [])
    (GLt : FnOk P w K mg base CX0 1 fLt fdLt ["thing", "fewest", "most"] spLet) (bLt : Binds K fdLt ["thing", "fewest", "most"] [])
    (GSs : FnOk P w K mg base CX0 6 fSs fdSs ["book", "thing"] spSts) (bSs : Binds K fdSs ["book", "thing"] []) :
    FnOk P w K mg base CX0 7 f fd ["self", "book", "name", "stamps"] (spInit C) := by
  refine FunD.ok0 F sc_init (fun vs H Q E h => ?_) (fun cdv A outer s H vs Q E hr h => ?_)
  · obtain ⟨p, dx, b, t, n, sets, as, ss, rfl, _⟩ := h
    rfl
  · obtain ⟨p, dx, b, t, n, sets, as, ss, rfl, hp, bk, hn, ht, pr, so, hz, q⟩ := h
    have hu := hu_of hr
    refine ⟨_, pss_cons (ps_if (pt_not (pt_val (pe_call GLs (hr.mono (by decide)) (by rfl) TC.gLs kLs bLs .nil pass0 (pa_cons (pv 1) pa_nil)))) pss_never pss_nil)
      (pss_cons (ps_if (pt_not (pt_val (pe_call GLt (hr.mono (by decide)) (by rfl) TC.gLt kLt bLt .nil pass0 (pa_cons (pv 2) (pa_cons pe_int (pa_cons pe_int pa_nil)))))) pss_never pss_nil)
      (pss_cons (ps_if (PW.pt (pw_and (pt_cmpR op_notN (pv 3) pe_non (nomark _)) (pw_and1 (pt_not (pt_val (pe_call GSs hr (by rfl) TC.gSs kSs bSs .nil pass0 (pa_cons (pv 1) (pa_cons (pv 3) pa_nil)))))))) pss_never pss_nil)
      (pss_cons (ps_fld (pv 0) (pv 1) rfl) (pss_cons (ps_fld (pv 0) (pv 2) rfl) (pss_cons (ps_fld (pv 0) pe_dnewT rfl)
      (pss_one (ps_for PassesOwn.never rfl (pi_tup (pe_orT (pv 3) (pe_one (pe_tup pa_nil)))) (pg_name (i := 4) sc_init.nd rfl (Or.inl rfl))
        (pss_one (ps_dput hu (pe_fld (pv 0) rfl) (pv 4) (pe_op op_add (pe_dget2 hu (pe_fld (pv 0) rfl) (pv 4) pe_int ⟨rfl, rfl, rfl, rfl⟩) pe_int) rfl))))))))), ?_⟩
    have no := hn
    refine ⟨_, rfl, b, sets, rfl, bk, fun H1 s1 => ⟨_, rfl, iteF ?_⟩⟩
    refine ⟨_, rfl, .str n, _, 0, 8, rfl, .str _, (fun z e => by cases e; have := hn.1; omega), fun H2 s2 => ⟨_, rfl, ?_⟩⟩
    rw [no.2]
    have s12 := s1.trans s2
    refine iteF ⟨_, rfl, rfl, _, rfl, ?_⟩
    have en : (!decide (V.ref t = V.non)) = true := by simp
    rw [en]
    refine iteT ⟨_, rfl, _, rfl, b, t, sets, as, ss, rfl, bk.same s12, s12 _ _ ht, st_same s12 pr, so, hz, fun H3 s3 => ⟨_, rfl, iteF ?_⟩⟩
    have s13 := s12.trans s3
    have hp3 := s13 _ _ hp
    have ht3 := s13 _ _ ht
    have pr3 := st_same s13 pr
    have tp : t ≠ p := fun z => by
      rw [z, hp] at ht
      cases ht
    refine ⟨_, rfl, _, rfl, p, C, dx, [], rfl, hp3, T.cl, T.nB, (by show 0 < 1000; decide), _, rfl, _, rfl, p, C, dx, _, rfl, upd_same, T.cl, T.nN, (by show 1 < 1000; decide), fun d hd => ?_⟩
    have hd3 : H3 d = none := by
      have hdp : d ≠ p := fun z => by
        rw [z, upd_same] at hd
        cases hd
      rw [upd_ne hdp, upd_ne hdp] at hd
      exact hd
    have dp : d ≠ p := fun z => by
      rw [z, hp3] at hd3
      cases hd3
    refine ⟨_, rfl, p, C, dx, _, rfl, (by rw [upd_ne (Ne.symm dp)]; exact upd_same), T.cl, T.nM, alb2 b n, ?_⟩
    have k3 : ∀ c o, c ≠ p → H3 c = some o → (upd (upd (upd (upd H3 p (.ins C dx (putF "_book" (.ref b) []))) p (.ins C dx (putF "_name" (.str n) (putF "_book" (.ref b) [])))) d (.dT [])) p (.ins C dx (albF b n d))) c = some o := fun c o hc e => by
      rw [upd_ne hc, upd_ne (ne_of_none e hd3), upd_ne hc, upd_ne hc]
      exact e
    refine orT_tup rfl (k3 _ _ tp ht3) fun t' G sG hT => ⟨t', rfl, ⟨_, SqT.of hT⟩, ?_⟩
    have hpG : G p = some (.ins C dx (albF b n d)) := sG _ _ upd_same
    have hdG : G d = some (.dT []) := sG _ _ (by rw [upd_ne dp]; exact upd_same)
    have prG : Paired (StAt G) as ss := Paired.mp (fun a s h => sG _ _ (k3 _ _ (fun z => by
      have h' : H3 a = some (.tup _) := h
      rw [z, hp3] at h'
      cases h') h)) pr3
    have tuD : ∀ {c : Addr} {xs : List V}, G c = some (.tup xs) → c ≠ d := fun e z => by
      rw [z, hdG] at e
      cases e
    refine for_tup (xs := as.map V.ref) (fun i σ H' => ∃ v4, σ = [some (.ref p), some (.ref b), some (.str n), some (.ref t), v4] ∧ Keep d G H' ∧ H' d = some (.dT ((countsM (ss.take i)).map entC)))
      ⟨none, rfl, Keep.refl, hdG⟩ (fun i σ H' _ ⟨_, _, k, _⟩ => SqT.of (k _ _ (tuD hT) hT)) ?_ ?_
    · rintro i x σ H4 hx ⟨v4, rfl, k4, hdi⟩
      rw [List.getElem?_map] at hx
      cases hbi : as[i]? with
      | none =>
        rw [hbi] at hx
        cases hx
      | some a =>
        rw [hbi] at hx
        cases hx
        obtain ⟨st, hst, hat⟩ := Paired.gl prG hbi
        have hi : i < ss.length := (List.getElem?_eq_some_iff.mp hst).1
        have at1 := k4 _ _ (tuD hat) hat
        have hp4 := k4 _ _ (Ne.symm dp) hpG
        have il : (countsM (ss.take i)).length ≤ 400 := by
          have := countsM_len (ss.take i)
          rw [List.length_take] at this
          omega
        have gt : DGet H4 d (.ref a) (valV ((countsM (ss.take i)).map entC) (keyS st)) := DGet.t hdi at1
        rw [valV_ent] at gt
        refine ⟨_, rfl, p, C, dx, _, _, rfl, hp4, T.cl, T.nM, albF_m b n d, d, rfl, .inr ⟨_, .inl hdi⟩, _, rfl, _, gt, ?_⟩
        rw [getD_ev]
        refine ⟨_, _, rfl, rfl, _, rfl, p, C, dx, _, _, rfl, hp4, T.cl, T.nM, albF_m b n d, _, rfl, d, _, rfl, DPut.t (k := keyS st) hdi at1 (by rw [List.length_map]; exact small1000 (by omega)), _, rfl, ?_, ?_⟩
        · intro c o hc e
          rw [upd_ne hc]
          exact k4 _ _ hc e
        · rw [upd_same, put_entC]
          have e2 : ss.take (i + 1) = ss.take i ++ [st] := by rw [List.take_add_one, hst]; rfl
          rw [e2, countsM_snoc]
          rfl
    · rintro σ H4 ⟨v4, rfl, k4, hdi⟩
      rw [List.length_map, Paired.length pr, List.take_length] at hdi
      refine q H4 d (fun c o hc e => k4 _ _ (ne_of_none (s13 _ _ e) hd3) (sG _ _ (k3 _ _ hc (s13 _ _ e)))) (none_of s13 hd3) ⟨⟨dx, k4 _ _ (Ne.symm dp) hpG⟩, hdi⟩
theorem ok_ini0 {f C fLs fLt fSs fSt fNu : Addr} {fd fdLs fdLt fdSs : FuncData} (F : FInit K f fd) (T : TxtAlb K mg C) (TC : TxtCal mg fLs fLt fSs fSt fNu)
    (kLs : PySem.W.keepIn K (.ref fLs) = true) (kLt : PySem.W.keepIn K (.ref fLt) = true) (kSs : PySem.W.keepIn K (.ref fSs) = true)
    (GLs : FnOk P w K mg base CX0 5 fLs fdLs ["thing"] spLisIs) (bLs : Binds K fdLs ["thing"] [])
    (GLt : FnOk P w K mg base CX0 1 fLt fdLt ["thing", "fewest", "most"] spLet) (bLt : Binds K fdLt ["thing", "fewest", "most"] [])
    (GSs : FnOk P w K mg base CX0 6 fSs fdSs ["book", "thing"] spSts) (bSs : Binds K fdSs ["book", "thing"] []) :
    FnOk P w K mg base CX0 7 f fd ["self", "book", "name", "stamps"] (spIni0 C) := by
  refine FunD.ok0 F sc_init (fun vs H Q E h => ?_) (fun cdv A outer s H vs Q E hr h => ?_)
  · obtain ⟨p, dx, b, n, sets, rfl, _⟩ := h
    rfl
  · obtain ⟨p, dx, b, n, sets, rfl, hp, bk, hn, q⟩ := h
    have hu := hu_of hr
    refine ⟨_, pss_cons (ps_if (pt_not (pt_val (pe_call GLs (hr.mono (by decide)) (by rfl) TC.gLs kLs bLs .nil pass0 (pa_cons (pv 1) pa_nil)))) pss_never pss_nil)
      (pss_cons (ps_if (pt_not (pt_val (pe_call GLt (hr.mono (by decide)) (by rfl) TC.gLt kLt bLt .nil pass0 (pa_cons (pv 2) (pa_cons pe_int (pa_cons pe_int pa_nil)))))) pss_never pss_nil)
      (pss_cons (ps_if (PW.pt (pw_and (pt_cmpR op_notN (pv 3) pe_non (nomark _)) (pw_and1 (pt_not (pt_val (pe_call GSs hr (by rfl) TC.gSs kSs bSs .nil pass0 (pa_cons (pv 1) (pa_cons (pv 3) pa_nil)))))))) pss_never pss_nil)
      (pss_cons (ps_fld (pv 0) (pv 1) rfl) (pss_cons (ps_fld (pv 0) (pv 2) rfl) (pss_cons (ps_fld (pv 0) pe_dnewT rfl)
      (pss_one (ps_for PassesOwn.never rfl (pi_tup (pe_orT (pv 3) (pe_one (pe_tup pa_nil)))) (pg_name (i := 4) sc_init.nd rfl (Or.inl rfl))
        (pss_one (ps_dput hu (pe_fld (pv 0) rfl) (pv 4) (pe_op op_add (pe_dget2 hu (pe_fld (pv 0) rfl) (pv 4) pe_int ⟨rfl, rfl, rfl, rfl⟩) pe_int) rfl))))))))), ?_⟩
    have no := hn
    refine ⟨_, rfl, b, sets, rfl, bk, fun H1 s1 => ⟨_, rfl, iteF ?_⟩⟩
    refine ⟨_, rfl, .str n, _, 0, 8, rfl, .str _, (fun z e => by cases e; have := hn.1; omega), fun H2 s2 => ⟨_, rfl, ?_⟩⟩
    rw [no.2]
    have s12 := s1.trans s2
    refine iteF ⟨_, rfl, rfl, _, rfl, ?_⟩
    refine iteF ?_
    have s13 := s12
    have hp3 := s13 _ _ hp
    refine ⟨_, rfl, _, rfl, p, C, dx, [], rfl, hp3, T.cl, T.nB, (by show 0 < 1000; decide), _, rfl, _, rfl, p, C, dx, _, rfl, upd_same, T.cl, T.nN, (by show 1 < 1000; decide), fun d hd => ?_⟩
    have hd3 : H2 d = none := by
      have hdp : d ≠ p := fun z => by
        rw [z, upd_same] at hd
        cases hd
      rw [upd_ne hdp, upd_ne hdp] at hd
      exact hd
    have dp : d ≠ p := fun z => by
      rw [z, hp3] at hd3
      cases hd3
    refine ⟨_, rfl, p, C, dx, _, rfl, (by rw [upd_ne (Ne.symm dp)]; exact upd_same), T.cl, T.nM, alb2 b n, ?_⟩
    have k3 : ∀ c o, c ≠ p → H2 c = some o → (upd (upd (upd (upd H2 p (.ins C dx (putF "_book" (.ref b) []))) p (.ins C dx (putF "_name" (.str n) (putF "_book" (.ref b) [])))) d (.dT [])) p (.ins C dx (albF b n d))) c = some o := fun c o hc e => by
      rw [upd_ne hc, upd_ne (ne_of_none e hd3), upd_ne hc, upd_ne hc]
      exact e
    refine ⟨_, rfl, false, rfl, iteF ⟨by show 0 ≤ sizeLine; decide, fun t' ht' => ⟨t', rfl, ⟨_, SqT.of upd_same⟩, ?_⟩⟩⟩
    have sG := same_upd (o := .tup []) ht'
    have hpG := sG _ _ upd_same
    have hdG : (upd _ t' (.tup [])) d = some (.dT []) := sG _ _ (by rw [upd_ne dp]; exact upd_same)
    refine for_tup (xs := []) (fun i σ H' => H' = upd (upd (upd (upd (upd H2 p (.ins C dx (putF "_book" (.ref b) []))) p (.ins C dx (putF "_name" (.str n) (putF "_book" (.ref b) [])))) d (.dT [])) p (.ins C dx (albF b n d))) t' (.tup []))
      rfl (fun i σ H' _ e => by rw [e]; exact SqT.of upd_same) (fun i x σ H' hx _ => by cases hx) ?_
    rintro σ H4 rfl
    exact q _ d (fun c o hc e => sG _ _ (k3 _ _ hc (s13 _ _ e))) (none_of s13 hd3) ⟨⟨dx, hpG⟩, hdG⟩
end
end Hm

set_option Elab.async false
set_option maxRecDepth 100000
set_option maxHeartbeats 4000000
namespace Hm
open PySem PySem.Spec PyProof.Rows L2 HmS
def spChk (C : Addr) : Sp := fun vs H Q _ => ∃ (p a b d : Addr) (n : Str) (cs : CtT) (sets : List SetT) (s : StT), vs = [.ref p, .ref a] ∧ AlbAt C H p b n d cs ∧ Book H b sets ∧ StAt H a s ∧ StOk sets s ∧ ∀ H', Same H H' → Q .non H'
def spCof (C : Addr) : Sp := fun vs H Q _ => ∃ (p a b d : Addr) (n : Str) (cs : CtT) (sets : List SetT) (s : StT), vs = [.ref p, .ref a] ∧ AlbAt C H p b n d cs ∧ Book H b sets ∧ StAt H a s ∧ StOk sets s ∧ ∀ H', Same H H' → Q (.int (cntM cs s)) H'
def spAof (C : Addr) : Sp := fun vs H Q _ => ∃ (p b d : Addr) (n : Str) (cs : CtT), vs = [.ref p] ∧ AlbAt C H p b n d cs ∧ cs.length ≤ 400 ∧
  ∀ (H' : Hp) (l : Addr) (rs : List Addr), Same H H' → H l = none → H' l = some (.lst (rs.map V.ref)) → Paired (RowAt H') rs (riseM cs) → Q (.ref l) H'
def spFil (C : Addr) : Sp := fun vs H Q _ => ∃ (p b d : Addr) (n : Str) (cs : CtT) (pl : PlT), vs = [.ref p, .int pl.1, .int pl.2] ∧ AlbAt C H p b n d cs ∧ (∀ c ∈ cs, 1 ≤ c.2) ∧ ∀ H', Same H H' → Q (.bl (hasM cs pl)) H'
def spGaA (C : Addr) : Sp := fun vs H Q _ => ∃ (p b d : Addr) (n : Str) (cs : CtT) (sets : List SetT) (i : Nat), vs = [.ref p, .int (i : Int)] ∧ AlbAt C H p b n d cs ∧ Book H b sets ∧ i < sets.length ∧ (∀ c ∈ cs, 1 ≤ c.2) ∧
  ∀ (H' : Hp) (l : Addr), Same H H' → H l = none → H' l = some (.lst ((gapsM sets cs i).map V.int)) → Q (.ref l) H'
theorem has_some {cs : CtT} (h : ∀ c ∈ cs, 1 ≤ c.2) (pl : PlT) : hasM cs pl = ((getC cs (pl.1, pl.2, 0)).isSome || (getC cs (pl.1, pl.2, 1)).isSome) := by
  have pos : ∀ s n, getC cs s = some n → 1 ≤ n := fun s n e => h _ (getC_mem e)
  unfold hasM cntM
  cases e0 : getC cs (pl.1, pl.2, 0) with
  | none =>
    cases e1 : getC cs (pl.1, pl.2, 1) with
    | none => rfl
    | some m =>
      have := pos _ _ e1
      simp
      omega
  | some n =>
    have := pos _ _ e0
    cases e1 : getC cs (pl.1, pl.2, 1) with
    | none =>
      simp
      omega
    | some m =>
      have := pos _ _ e1
      simp
      omega
theorem isS_map (o : Option Int) : (o.map V.int).isSome = o.isSome := by cases o <;> rfl
theorem pr_rows {H : Hp} : ∀ {cs : CtT} {rs : List Addr}, Paired (fun b (c : List Key × Int) => ∃ q, H b = some (.tup [.ref q, .int c.2]) ∧ H q = some (.tup (c.1.map kV))) rs (cs.map kcC) → Paired (RowAt H) rs cs
  | [], _, .nil => .nil
  | _ :: _, _, .cons h t => .cons h (pr_rows t)
structure TxtU (mg : Str → Option Value) (fSt fNu : Addr) : Prop where
  gSt : mg "is_stamp" = some (.ref fSt)
  gNu : mg "is_set_number" = some (.ref fNu)
  sorted : mg "sorted" = none
  range : mg "range" = none
  len : mg "len" = none
  hinged : ∃ t, mg "HINGED" = some (.int 0 t)
  whole : ∃ t, mg "WHOLE" = some (.int 1 t)
section
variable {P : Program} {w : World} {K : PySem.W.Frag} {mg : Str → Option Value} {base : Heap}
theorem sc_chk : FnScope ["self", "stamp"] ["self", "stamp"] (defScope sChk) := ⟨rfl, rfl, rfl, by decide +kernel, rfl, by decide +kernel, by decide +kernel⟩
theorem ok_chk {f C fSt fNu : Addr} {fd fdSt : FuncData} (F : Fun K "_check_stamp" "Album._check_stamp" sChk f fd) (T : TxtAlb K mg C) (TU : TxtU mg fSt fNu) (kSt : PySem.W.keepIn K (.ref fSt) = true)
    (GSt : FnOk P w K mg base CX0 5 fSt fdSt ["book", "thing"] spStp) (bSt : Binds K fdSt ["book", "thing"] []) : FnOk P w K mg base CX0 6 f fd ["self", "stamp"] (spChk C) := by
  refine F.ok sc_chk (fun vs H Q E h => ?_) (fun cdv A outer s H vs Q E hr h => ?_)
  · obtain ⟨p, a, b, d, n, cs, sets, st, rfl, _⟩ := h
    rfl
  · obtain ⟨p, a, b, d, n, cs, sets, st, rfl, ⟨⟨dx, hp⟩, hd⟩, bk, ha, so, q⟩ := h
    refine ⟨_, pss_one (ps_if (pt_not (pt_val (pe_call GSt hr (by rfl) TU.gSt kSt bSt .nil pass0 (pa_cons (pe_fld (pv 0) rfl) (pa_cons (pv 1) pa_nil))))) pss_never pss_nil), ?_⟩
    exact ⟨_, rfl, p, C, dx, _, _, rfl, hp, T.cl, T.nB, albF_b b n d, _, rfl, b, a, sets, st, rfl, bk, ha, so, fun H1 s1 => ⟨_, rfl, iteF (q H1 s1)⟩⟩
theorem sc_cof : FnScope ["self", "stamp"] ["self", "stamp"] (defScope sCof) := ⟨rfl, rfl, rfl, by decide +kernel, rfl, by decide +kernel, by decide +kernel⟩
theorem ok_cof {f C fC : Addr} {fd fdC : FuncData} (F : Fun K "count_of" "Album.count_of" sCof f fd) (T : TxtAlb K mg C) (mC : Meth K C "_check_stamp" fC)
    (GC : FnOk P w K mg base CX0 6 fC fdC ["self", "stamp"] (spChk C)) (bC : Binds K fdC ["self", "stamp"] []) : FnOk P w K mg base CX0 7 f fd ["self", "stamp"] (spCof C) := by
  refine F.ok sc_cof (fun vs H Q E h => ?_) (fun cdv A outer s H vs Q E hr h => ?_)
  · obtain ⟨p, a, b, d, n, cs, sets, st, rfl, _⟩ := h
    rfl
  · obtain ⟨p, a, b, d, n, cs, sets, st, rfl, al, bk, ha, so, q⟩ := h
    obtain ⟨⟨dx, hp⟩, hd⟩ := id al
    have hu := hu_of hr
    refine ⟨_, pss_cons (ps_expr (pe_meth (pv 0) T.cl mC GC hr bC .nil pass0 (pa_cons (pv 1) pa_nil)))
      (pss_one (ps_ret (pe_dget2 hu (pe_fld (pv 0) rfl) (pv 1) pe_int ⟨rfl, rfl, rfl, rfl⟩))), ?_⟩
    refine ⟨_, rfl, p, dx, _, rfl, hp, albF_no b n d (by decide +kernel) (by decide +kernel) (by decide +kernel), _, rfl, p, a, b, d, n, cs, sets, st, rfl, al, bk, ha, so, fun H1 s1 => ?_⟩
    have gt : DGet H1 d (.ref a) (valV (cs.map entC) (keyS st)) := DGet.t (s1 _ _ hd) (s1 _ _ ha)
    rw [valV_ent] at gt
    refine ⟨_, rfl, p, C, dx, _, _, rfl, s1 _ _ hp, T.cl, T.nM, albF_m b n d, d, rfl, .inr ⟨_, .inl (s1 _ _ hd)⟩, _, rfl, _, gt, ?_⟩
    rw [getD_ev]
    exact q H1 s1
theorem sc_aof : FnScope ["self"] ["self"] (defScope sAof) := ⟨rfl, rfl, rfl, by decide +kernel, rfl, by decide +kernel, by decide +kernel⟩
theorem ok_aof {f C : Addr} {fd : FuncData} (F : Fun K "all_of" "Album.all_of" sAof f fd) (T : TxtAlb K mg C) (hS : mg "sorted" = none) : FnOk P w K mg base CX0 1 f fd ["self"] (spAof C) := by
  refine F.ok sc_aof (fun vs H Q E h => ?_) (fun cdv A outer s H vs Q E hr h => ?_)
  · obtain ⟨p, b, d, n, cs, rfl, _⟩ := h
    rfl
  · obtain ⟨p, b, d, n, cs, rfl, ⟨⟨dx, hp⟩, hd⟩, hz, q⟩ := h
    refine ⟨_, pss_one (ps_ret (pe_callB (cr_sortIC rfl hr.units) (by rfl) hS (by decide +kernel) (pa_cons (pe_bm0 PySem.F.plainAttrs_dict PySem.F.slot_dict_items PySem.F.type_dict_items DX.mt_itemsT (pe_fld (pv 0) rfl)) pa_nil))), ?_⟩
    have e : (cs.map kcC).map (fun c => (c.1, V.int c.2)) = cs.map entC := by rw [List.map_map]; rfl
    refine ⟨_, rfl, p, C, dx, _, _, rfl, hp, T.cl, T.nM, albF_m b n d, (.inr (.inr (.inl ⟨rfl, .inr ⟨_, hd⟩⟩))), d, _, rfl, rfl, hd, fun v hv => ?_⟩
    have sv : Same H (upd H v (DX.itemsO v d)) := same_upd hv
    refine ⟨v, d, cs.map kcC, rfl, upd_same, by rw [e]; exact sv _ _ hd, by rw [List.length_map]; omega, ?_, ?_, fun l H' rs s' nl nk hl pr => ?_⟩
    · intro x hx y hy
      obtain ⟨z1, m1, rfl⟩ := List.mem_map.mp hx
      obtain ⟨z2, m2, rfl⟩ := List.mem_map.mp hy
      obtain ⟨s1, _, rfl⟩ := List.mem_map.mp m1
      obtain ⟨s2, _, rfl⟩ := List.mem_map.mp m2
      simp [encC, kcC, keyD, keyS, HmS.kD, PySem.W.alike, PySem.W.alikeAll]
    · intro c hc
      obtain ⟨s1, _, rfl⟩ := List.mem_map.mp hc
      simp [kcC, keyS]
    · have nd : (cs.map (·.1)).Nodup := by
        rw [List.map_map] at nk
        have e2 : (cs.map (Prod.fst ∘ kcC)) = (cs.map (·.1)).map keyS := by rw [List.map_map]; rfl
        rw [e2, List.Nodup, List.pairwise_map] at nk
        exact nk.imp fun h z => h (by rw [z])
      rw [sortC_rise nd] at pr
      exact q H' l rs (sv.trans s') (none_of sv nl) hl (pr_rows pr)
end
end Hm

set_option Elab.async false
set_option maxRecDepth 100000
set_option maxHeartbeats 4000000
namespace Hm
open PySem PySem.Spec PyProof.Rows L2 HmS
abbrev stWfr : Stmt := topSt 21 -- row is_whole_from
abbrev sPut : Stmt := inClass stAlb 1 -- meth Album put
abbrev sChs : Stmt := inClass stAlb 3 -- meth Album _check_some
abbrev sBok : Stmt := inClass stAlb 5 -- meth Album book
abbrev sCld : Stmt := inClass stAlb 6 -- meth Album called
/-! ### counts -/
theorem getC_put (cs : CtT) (s t : StT) (m : Int) : getC (putC cs s m) t = if t = s then some m else getC cs t := by
  have gmap : ∀ l : CtT, getC (l.map (fun c => if c.1 = s then (c.1, m) else c)) t = if t = s then (if l.any (fun c => decide (c.1 = s)) = true then some m else none) else getC l t := by
    intro l
    induction l with
    | nil => by_cases e : t = s <;> simp [getC, e]
    | cons c r ih =>
      rw [List.map_cons]
      by_cases h : c.1 = s
      · rw [if_pos h]
        by_cases e : t = s
        · simp [getC, e, h]
        · have ne : ¬ c.1 = t := fun z => e (by rw [← z, h])
          simp only [getC, if_neg ne, if_neg e] at ih ⊢
          exact ih
      · rw [if_neg h]
        by_cases e : t = s
        · have ne : ¬ c.1 = t := fun z => h (by rw [z, e])
          simp only [getC, if_neg ne, ih, if_pos e]
          rw [List.any_cons, decide_eq_false h, Bool.false_or]
        · by_cases h2 : c.1 = t
          · simp [getC, h2, e]
          · simp only [getC, if_neg h2, if_neg e] at ih ⊢
            exact ih
  have gapp : ∀ l : CtT, (¬ l.any (fun c => decide (c.1 = s)) = true) → getC (l ++ [(s, m)]) t = if t = s then some m else getC l t := by
    intro l
    induction l with
    | nil =>
      intro _
      by_cases e : t = s
      · simp [getC, e]
      · have : ¬ s = t := fun z => e z.symm
        simp [getC, e, this]
    | cons c r ih =>
      intro h
      simp only [List.any_cons, Bool.or_eq_true, not_or, decide_eq_true_eq] at h
      rw [List.cons_append]
      by_cases e : t = s
      · have ne : ¬ c.1 = t := fun z => h.1 (by rw [z, e])
        simp only [getC, if_neg ne]
        exact ih h.2
      · by_cases h2 : c.1 = t
        · simp [getC, h2, e]
        · simp only [getC, if_neg h2]
          exact ih h.2
  unfold putC
  by_cases a : cs.any (fun c => decide (c.1 = s)) = true
  · rw [if_pos a, gmap, if_pos a]
  · rw [if_neg a]
    exact gapp cs a
theorem cnt_put (cs : CtT) (s t : StT) (m : Int) : cntM (putC cs s m) t = if t = s then m else cntM cs t := by
  unfold cntM
  rw [getC_put]
  by_cases e : t = s <;> simp [e]
/-- so many more of a stamp -/
def addC (cs : CtT) (c : StT × Int) : CtT := putC cs c.1 (cntM cs c.1 + c.2)
theorem cnt_add (cs : CtT) (c : StT × Int) (t : StT) : cntM (addC cs c) t = cntM cs t + if t = c.1 then c.2 else 0 := by
  unfold addC
  rw [cnt_put]
  by_cases e : t = c.1
  · rw [if_pos e, if_pos e, e]
  · rw [if_neg e, if_neg e]
    omega
theorem cnt_pos {sets : List SetT} {cs : CtT} (ok : CtOk sets cs) (s : StT) : 0 ≤ cntM cs s := by
  unfold cntM
  cases e : getC cs s with
  | none => simp
  | some n =>
    have := ok.pos _ (getC_mem e)
    simp
    omega
theorem putC_keys (cs : CtT) (s : StT) (m : Int) : (putC cs s m).map (·.1) = if cs.any (fun c => decide (c.1 = s)) = true then cs.map (·.1) else cs.map (·.1) ++ [s] := by
  unfold putC
  by_cases a : cs.any (fun c => decide (c.1 = s)) = true
  · rw [if_pos a, if_pos a, List.map_map]
    refine List.map_congr_left fun c _ => ?_
    by_cases h : c.1 = s <;> simp [h]
  · rw [if_neg a, if_neg a, List.map_append]
    rfl
theorem CtOk.put {sets : List SetT} {cs : CtT} (ok : CtOk sets cs) {s : StT} (hs : StOk sets s) {m : Int} (hm : 1 ≤ m) : CtOk sets (putC cs s m) := by
  refine ⟨?_, fun c hc => ?_, fun c hc => ?_⟩
  · rw [putC_keys]
    by_cases a : cs.any (fun c => decide (c.1 = s)) = true
    · rw [if_pos a]
      exact ok.nd
    · rw [if_neg a]
      refine List.nodup_append.mpr ⟨ok.nd, by simp, fun x hx y hy => ?_⟩
      obtain ⟨c, hc, rfl⟩ := List.mem_map.mp hx
      rw [List.mem_singleton.mp hy]
      intro z
      exact a (List.any_eq_true.mpr ⟨c, hc, decide_eq_true z⟩)
  · unfold putC at hc
    by_cases a : cs.any (fun c => decide (c.1 = s)) = true
    · rw [if_pos a] at hc
      obtain ⟨c', h', rfl⟩ := List.mem_map.mp hc
      by_cases h : c'.1 = s
      · rw [if_pos h]
        exact hm
      · rw [if_neg h]
        exact ok.pos _ h'
    · rw [if_neg a] at hc
      rcases List.mem_append.mp hc with h | h
      · exact ok.pos _ h
      · rw [List.mem_singleton.mp h]
        exact hm
  · unfold putC at hc
    by_cases a : cs.any (fun c => decide (c.1 = s)) = true
    · rw [if_pos a] at hc
      obtain ⟨c', h', rfl⟩ := List.mem_map.mp hc
      by_cases h : c'.1 = s
      · rw [if_pos h]
        show StOk sets c'.1
        exact ok.st _ h'
      · rw [if_neg h]
        exact ok.st _ h'
    · rw [if_neg a] at hc
      rcases List.mem_append.mp hc with h | h
      · exact ok.st _ h
      · rw [List.mem_singleton.mp h]
        exact hs
theorem CtOk.add {sets : List SetT} {cs : CtT} (ok : CtOk sets cs) {c : StT × Int} (hs : StOk sets c.1) (hm : 1 ≤ c.2) : CtOk sets (addC cs c) := by
  have := cnt_pos ok c.1
  exact ok.put hs (by omega)
theorem fold_ok {sets : List SetT} : ∀ (ks : CtT) (cs : CtT), CtOk sets cs → (∀ c ∈ ks, StOk sets c.1 ∧ 1 ≤ c.2) → CtOk sets (ks.foldl addC cs)
  | [], _, h, _ => h
  | k :: r, cs, h, hk => by
    rw [List.foldl_cons]
    have k1 := hk k List.mem_cons_self
    exact fold_ok r _ (h.add k1.1 k1.2) fun c hc => hk c (List.mem_cons_of_mem _ hc)
theorem putC_len2 {sets : List SetT} {cs : CtT} (ok : CtOk sets cs) (h4 : sets.length ≤ 4) (h6 : ∀ s ∈ sets, SetOk s) : cs.length ≤ 48 := by
  have sub : cs.map (·.1) ⊆ (placesM 0 sets).flatMap fun p => [((p.1, p.2, 0) : StT), (p.1, p.2, 1)] := by
    intro s hs
    obtain ⟨c, hc, rfl⟩ := List.mem_map.mp hs
    have so := ok.st c hc
    refine List.mem_flatMap.mpr ⟨_, so.pl, ?_⟩
    have g0 := so.g0
    have g1 := so.g1
    have : c.1.2.2 = 0 ∨ c.1.2.2 = 1 := by omega
    rcases this with z | z
    · exact List.mem_cons.mpr (.inl (Prod.ext rfl (Prod.ext rfl z)))
    · exact List.mem_cons.mpr (.inr (List.mem_singleton.mpr (Prod.ext rfl (Prod.ext rfl z))))
  have l := ok.nd.length_le_of_subset sub
  have pl := (placesM_len sets 0 h6).1
  have fl : ∀ l : List PlT, (l.flatMap fun p => [((p.1, p.2, 0) : StT), (p.1, p.2, 1)]).length = 2 * l.length := by
    intro l
    induction l with
    | nil => rfl
    | cons a r ih =>
      rw [List.flatMap_cons, List.length_append, ih, List.length_cons]
      simp
      omega
  rw [List.length_map, fl] at l
  omega
theorem CtOk.len {sets : List SetT} {cs : CtT} (ok : CtOk sets cs) (bk : BookOk sets) : cs.length ≤ 48 := putC_len2 ok bk.len1 bk.ok
theorem CtOk.perm {sets : List SetT} {cs ds : CtT} (ok : CtOk sets cs) (p : ds.Perm cs) : CtOk sets ds :=
  ⟨(p.map _).nodup_iff.mpr ok.nd, fun c hc => ok.pos c (p.mem_iff.mp hc), fun c hc => ok.st c (p.mem_iff.mp hc)⟩
theorem CtOk.rise {sets : List SetT} {cs : CtT} (ok : CtOk sets cs) : CtOk sets (riseM cs) := ok.perm (riseM_perm cs)
theorem getC_perm {cs ds : CtT} (nd : (cs.map (·.1)).Nodup) (p : ds.Perm cs) (s : StT) : getC ds s = getC cs s := by
  have nd2 : (ds.map (·.1)).Nodup := (p.map _).nodup_iff.mpr nd
  cases e : getC cs s with
  | some n => exact getC_of nd2 (p.mem_iff.mpr (getC_mem e))
  | none =>
    cases e2 : getC ds s with
    | none => rfl
    | some n => exact absurd rfl (getC_none e _ (p.mem_iff.mp (getC_mem e2)))
theorem cnt_rise {cs : CtT} (nd : (cs.map (·.1)).Nodup) (s : StT) : cntM (riseM cs) s = cntM cs s := by
  unfold cntM
  rw [getC_perm nd (riseM_perm cs)]
theorem nodup_of {cs : CtT} (h : (cs.map (·.1)).Nodup) : cs.Nodup := by
  rw [List.Nodup, List.pairwise_map] at h
  exact h.imp fun n z => n (by rw [z])
/-- alike counts rise alike -/
theorem rise_ext {sets : List SetT} {cs ds : CtT} (ok : CtOk sets cs) (od : CtOk sets ds) (h : ∀ s, cntM cs s = cntM ds s) : riseM cs = riseM ds := by
  have g : ∀ s n, getC cs s = some n ↔ getC ds s = some n := by
    intro s n
    have hh := h s
    unfold cntM at hh
    cases e1 : getC cs s with
    | none =>
      cases e2 : getC ds s with
      | none => rfl
      | some m =>
        rw [e1, e2] at hh
        have := od.pos _ (getC_mem e2)
        simp at hh
        omega
    | some m1 =>
      have p1 := ok.pos _ (getC_mem e1)
      cases e2 : getC ds s with
      | none =>
        rw [e1, e2] at hh
        simp at hh
        omega
      | some m2 =>
        rw [e1, e2] at hh
        simp at hh
        rw [hh]
  have nd1 : cs.Nodup := nodup_of ok.nd
  have nd2 : ds.Nodup := nodup_of od.nd
  have pm : cs.Perm ds := (List.perm_ext_iff_of_nodup nd1 nd2).mpr fun c => by
    constructor
    · intro hc
      exact getC_mem ((g c.1 c.2).mp (getC_of ok.nd hc))
    · intro hc
      exact getC_mem ((g c.1 c.2).mpr (getC_of od.nd hc))
  have p2 : (riseM cs).Perm (riseM ds) := (riseM_perm cs).trans (pm.trans (riseM_perm ds).symm)
  exact List.Perm.eq_of_pairwise (le := stLt) (fun a b _ _ h1 h2 => (stLt_asym h1 h2).elim) (riseM_rise ok.nd) (riseM_rise od.nd) p2
end Hm

set_option Elab.async false
set_option maxRecDepth 100000
set_option maxHeartbeats 4000000
namespace Hm
open PySem PySem.Spec PyProof.Rows L2 HmS
def fromB (x : V) (a : Int) : Bool :=
  match x with
  | .int i => decide (i ≥ a)
  | _ => false
def spWfr : Sp := fun vs H Q _ => ∃ (x : V) (t : Value) (a : Int), vs = [x, .int a] ∧ Plain H x t ∧ Q (.bl (fromB x a)) H
def spChs (C : Addr) : Sp := fun vs H Q _ => ∃ (p a b d : Addr) (n : Str) (cs : CtT) (sets : List SetT) (s : StT) (m : Int), vs = [.ref p, .ref a, .int m] ∧ AlbAt C H p b n d cs ∧ Book H b sets ∧ StAt H a s ∧ StOk sets s ∧ 1 ≤ m ∧ ∀ H', Same H H' → Q .non H'
def spPut (C : Addr) : Sp := fun vs H Q _ => ∃ (p a b d : Addr) (n : Str) (cs : CtT) (sets : List SetT) (s : StT) (m : Int), vs = [.ref p, .ref a, .int m] ∧ AlbAt C H p b n d cs ∧ Book H b sets ∧ StAt H a s ∧ StOk sets s ∧ 1 ≤ m ∧ CtOk sets cs ∧
  ∀ H', Keep d H H' → AlbAt C H' p b n d (addC cs (s, m)) → Q .non H'
def spBok (C : Addr) : Sp := fun vs H Q _ => ∃ (p b d : Addr) (n : Str) (cs : CtT), vs = [.ref p] ∧ AlbAt C H p b n d cs ∧ Q (.ref b) H
def spCld (C : Addr) : Sp := fun vs H Q _ => ∃ (p b d : Addr) (n : Str) (cs : CtT), vs = [.ref p] ∧ AlbAt C H p b n d cs ∧ Q (.str n) H
theorem AlbAt.ne {C : Addr} {H : Hp} {p b d : Addr} {n : Str} {cs : CtT} (h : AlbAt C H p b n d cs) : p ≠ d := fun z => by
  obtain ⟨⟨dx, e⟩, f⟩ := h
  rw [z, f] at e
  cases e
section
variable {P : Program} {w : World} {K : PySem.W.Frag} {mg : Str → Option Value} {base : Heap}
theorem sc_wfr : FnScope ["thing", "least"] ["thing", "least"] (defScope stWfr) := ⟨rfl, rfl, rfl, by decide +kernel, rfl, by decide +kernel, by decide +kernel⟩
theorem ok_wfr {f fW : Addr} {fd fdW : FuncData} (F : Fun K "is_whole_from" "is_whole_from" stWfr f fd) (gW : mg "is_whole" = some (.ref fW)) (kW : PySem.W.keepIn K (.ref fW) = true)
    (GW : FnOk P w K mg base CX0 1 fW fdW ["thing"] spIsW) (bW : Binds K fdW ["thing"] []) : FnOk P w K mg base CX0 2 f fd ["thing", "least"] spWfr := by
  refine F.ok sc_wfr (fun vs H Q E h => ?_) (fun cdv A outer s H vs Q E hr h => ?_)
  · obtain ⟨x, t, a, rfl, _⟩ := h
    rfl
  · obtain ⟨x, t, a, rfl, p, q⟩ := h
    refine ⟨_, pss_one (ps_ret (pe_and (pe_call GW hr (by rfl) gW kW bW .nil pass0 (pa_cons (pv 0) pa_nil)) (pe_one (pe_cmpR op_ge (pv 0) (pv 1) (nomark _))))), ?_⟩
    refine ⟨_, rfl, x, t, rfl, p, _, rfl, ?_⟩
    cases p with
    | int i => exact iteT ⟨_, rfl, _, rfl, _, _, rfl, rfl, q⟩
    | bl b => exact iteF q
    | non => exact iteF q
    | str z => exact iteF q
    | tup e => exact iteF q
theorem sc_chs : FnScope ["self", "stamp", "many"] ["self", "stamp", "many"] (defScope sChs) := ⟨rfl, rfl, rfl, by decide +kernel, rfl, by decide +kernel, by decide +kernel⟩
theorem ok_chs {f C fC fW : Addr} {fd fdC fdW : FuncData} (F : Fun K "_check_some" "Album._check_some" sChs f fd) (T : TxtAlb K mg C) (mC : Meth K C "_check_stamp" fC) (gW : mg "is_whole_from" = some (.ref fW)) (kW : PySem.W.keepIn K (.ref fW) = true)
    (GC : FnOk P w K mg base CX0 6 fC fdC ["self", "stamp"] (spChk C)) (bC : Binds K fdC ["self", "stamp"] [])
    (GW : FnOk P w K mg base CX0 2 fW fdW ["thing", "least"] spWfr) (bW : Binds K fdW ["thing", "least"] []) : FnOk P w K mg base CX0 7 f fd ["self", "stamp", "many"] (spChs C) := by
  refine F.ok sc_chs (fun vs H Q E h => ?_) (fun cdv A outer s H vs Q E hr h => ?_)
  · obtain ⟨p, a, b, d, n, cs, sets, st, m, rfl, _⟩ := h
    rfl
  · obtain ⟨p, a, b, d, n, cs, sets, st, m, rfl, al, bk, ha, so, hm, q⟩ := h
    obtain ⟨⟨dx, hp⟩, hd⟩ := id al
    refine ⟨_, pss_cons (ps_expr (pe_meth (pv 0) T.cl mC GC hr bC .nil pass0 (pa_cons (pv 1) pa_nil)))
      (pss_one (ps_if (pt_not (pt_val (pe_call GW (hr.mono (by decide)) (by rfl) gW kW bW .nil pass0 (pa_cons (pv 2) (pa_cons pe_int pa_nil))))) pss_never pss_nil)), ?_⟩
    refine ⟨_, rfl, p, dx, _, rfl, hp, albF_no b n d (by decide +kernel) (by decide +kernel) (by decide +kernel), _, rfl, p, a, b, d, n, cs, sets, st, rfl, al, bk, ha, so, fun H1 s1 => ?_⟩
    refine ⟨_, rfl, .int m, _, 1, rfl, .int m, _, rfl, ?_⟩
    have e : fromB (.int m) 1 = true := decide_eq_true hm
    rw [e]
    exact iteF (q H1 s1)
theorem sc_put : FnScope ["self", "stamp", "many"] ["self", "stamp", "many"] (defScope sPut) := ⟨rfl, rfl, rfl, by decide +kernel, rfl, by decide +kernel, by decide +kernel⟩
abbrev FPut (K : PySem.W.Frag) (f : Addr) (fd : FuncData) : Prop := FunD K "put" "Album.put" (defArgs sPut) (defBody sPut) (defScope sPut) [.int 1] [] f fd
theorem ok_put {f C fS fO : Addr} {fd fdS fdO : FuncData} (F : FPut K f fd) (T : TxtAlb K mg C) (mS : Meth K C "_check_some" fS) (mO : Meth K C "count_of" fO)
    (GS : FnOk P w K mg base CX0 7 fS fdS ["self", "stamp", "many"] (spChs C)) (bS : Binds K fdS ["self", "stamp", "many"] [])
    (GO : FnOk P w K mg base CX0 7 fO fdO ["self", "stamp"] (spCof C)) (bO : Binds K fdO ["self", "stamp"] []) : FnOk P w K mg base CX0 8 f fd ["self", "stamp", "many"] (spPut C) := by
  refine FunD.ok0 F sc_put (fun vs H Q E h => ?_) (fun cdv A outer s H vs Q E hr h => ?_)
  · obtain ⟨p, a, b, d, n, cs, sets, st, m, rfl, _⟩ := h
    rfl
  · obtain ⟨p, a, b, d, n, cs, sets, st, m, rfl, al, bk, ha, so, hm, ok, q⟩ := h
    have hu := hu_of hr
    obtain ⟨⟨dx, hp⟩, hd⟩ := id al
    refine ⟨_, pss_cons (ps_expr (pe_meth (pv 0) T.cl mS GS hr bS .nil pass0 (pa_cons (pv 1) (pa_cons (pv 2) pa_nil))))
      (pss_one (ps_dput hu (pe_fld (pv 0) rfl) (pv 1) (pe_op op_add (pe_meth (pv 0) T.cl mO GO hr bO .nil pass0 (pa_cons (pv 1) pa_nil)) (pv 2)) rfl)), ?_⟩
    refine ⟨_, rfl, p, dx, _, rfl, hp, albF_no b n d (by decide +kernel) (by decide +kernel) (by decide +kernel), _, rfl, _, rfl, p, a, b, d, n, cs, sets, st, m, rfl, al, bk, ha, so, hm, fun H1 s1 => ?_⟩
    refine ⟨_, rfl, p, dx, _, rfl, s1 _ _ hp, albF_no b n d (by decide +kernel) (by decide +kernel) (by decide +kernel), _, rfl, p, a, b, d, n, cs, sets, st, rfl, al.same s1, bk.same s1, s1 _ _ ha, so, fun H2 s2 => ?_⟩
    have s12 := s1.trans s2
    have hd2 := s12 _ _ hd
    have ln := ok.len bk.1
    refine ⟨_, rfl, _, _, rfl, rfl, _, rfl, p, C, dx, _, _, rfl, s12 _ _ hp, T.cl, T.nM, albF_m b n d, _, rfl, d, _, rfl, DPut.t (k := keyS st) hd2 (s12 _ _ ha) (by rw [List.length_map]; exact small1000 (by omega)), ?_⟩
    refine q _ (fun c o hc e => by rw [upd_ne hc]; exact s12 _ _ e) ⟨⟨dx, by rw [upd_ne al.ne]; exact s12 _ _ hp⟩, ?_⟩
    rw [upd_same, put_entC]
    rfl
theorem sc_bok : FnScope ["self"] ["self"] (defScope sBok) := ⟨rfl, rfl, rfl, by decide +kernel, rfl, by decide +kernel, by decide +kernel⟩
theorem ok_bok {f C : Addr} {fd : FuncData} (F : Fun K "book" "Album.book" sBok f fd) (T : TxtAlb K mg C) : FnOk P w K mg base CX0 1 f fd ["self"] (spBok C) := by
  refine F.ok sc_bok (fun vs H Q E h => ?_) (fun cdv A outer s H vs Q E hr h => ?_)
  · obtain ⟨p, b, d, n, cs, rfl, _⟩ := h
    rfl
  · obtain ⟨p, b, d, n, cs, rfl, ⟨⟨dx, hp⟩, hd⟩, q⟩ := h
    exact ⟨_, pss_one (ps_ret (pe_fld (pv 0) rfl)), _, rfl, p, C, dx, _, _, rfl, hp, T.cl, T.nB, albF_b b n d, q⟩
theorem sc_cld : FnScope ["self"] ["self"] (defScope sCld) := ⟨rfl, rfl, rfl, by decide +kernel, rfl, by decide +kernel, by decide +kernel⟩
theorem ok_cld {f C : Addr} {fd : FuncData} (F : Fun K "called" "Album.called" sCld f fd) (T : TxtAlb K mg C) : FnOk P w K mg base CX0 1 f fd ["self"] (spCld C) := by
  refine F.ok sc_cld (fun vs H Q E h => ?_) (fun cdv A outer s H vs Q E hr h => ?_)
  · obtain ⟨p, b, d, n, cs, rfl, _⟩ := h
    rfl
  · obtain ⟨p, b, d, n, cs, rfl, ⟨⟨dx, hp⟩, hd⟩, q⟩ := h
    exact ⟨_, pss_one (ps_ret (pe_fld (pv 0) rfl)), _, rfl, p, C, dx, _, _, rfl, hp, T.cl, T.nN, albF_n b n d, q⟩
end
end Hm

set_option Elab.async false
set_option maxRecDepth 100000
set_option maxHeartbeats 4000000
namespace Hm
open PySem PySem.Spec PyProof.Rows L2 HmS
abbrev stFid : Stmt := topSt 38 -- row filled
abbrev stJnd : Stmt := topSt 999 -- row joined
abbrev sTwn : Stmt := inClass stAlb 14 -- meth Album twin
theorem rows_keepD {d : Addr} {H H' : Hp} {o : List (List Key × V)} (hd : H d = some (.dT o)) (k : Keep d H H') {as : List Addr} {cs : CtT} (p : Paired (RowAt H) as cs) : Paired (RowAt H') as cs :=
  Paired.mp (fun a c h => by
    have ne : ∀ {b : Addr} {ys : List V}, H b = some (.tup ys) → b ≠ d := fun e z => by
      rw [z, hd] at e
      cases e
    obtain ⟨t, e, f⟩ := h
    exact ⟨t, k _ _ (ne e) e, k _ _ (ne f) f⟩) p
theorem Book.keepD {b d : Addr} {H H' : Hp} {o : List (List Key × V)} {sets : List SetT} (hd : H d = some (.dT o)) (k : Keep d H H') (x : Book H b sets) : Book H' b sets := by
  have ne : ∀ {b : Addr} {ys : List V}, H b = some (.tup ys) → b ≠ d := fun e z => by
    rw [z, hd] at e
    cases e
  obtain ⟨ok, as, e, pr⟩ := x
  exact ⟨ok, as, k _ _ (ne e) e, Paired.mp (fun a s q => k _ _ (ne q) q) pr⟩
theorem add_fresh {cs : CtT} {c : StT × Int} (h : c.1 ∉ cs.map (·.1)) : addC cs c = cs ++ [c] := by
  have g : getC cs c.1 = none := by
    cases e : getC cs c.1 with
    | none => rfl
    | some n => exact absurd (List.mem_map.mpr ⟨_, getC_mem e, rfl⟩) h
  have a : ¬ cs.any (fun k => decide (k.1 = c.1)) = true := fun z => by
    obtain ⟨k, hk, e⟩ := List.any_eq_true.mp z
    exact h (List.mem_map.mpr ⟨k, hk, of_decide_eq_true e⟩)
  unfold addC putC
  rw [if_neg a]
  unfold cntM
  rw [g]
  simp
theorem take_key {ks : CtT} (nd : (ks.map (·.1)).Nodup) {i : Nat} {c : StT × Int} (h : ks[i]? = some c) : c.1 ∉ (ks.take i).map (·.1) := by
  have e : ks.take (i + 1) = ks.take i ++ [c] := by rw [List.take_add_one, h]; rfl
  have sl : ((ks.take (i + 1)).map (·.1)).Nodup := List.Nodup.sublist ((List.take_sublist _ _).map _) nd
  rw [e, List.map_append] at sl
  intro z
  exact (List.nodup_append.mp sl).2.2 _ z c.1 (by simp) rfl
theorem CtOk.take {sets : List SetT} {cs : CtT} (ok : CtOk sets cs) (i : Nat) : CtOk sets (cs.take i) :=
  ⟨List.Nodup.sublist ((List.take_sublist _ _).map _) ok.nd, fun c hc => ok.pos c (List.mem_of_mem_take hc), fun c hc => ok.st c (List.mem_of_mem_take hc)⟩
def spFid (C : Addr) : Sp := fun vs H Q _ => ∃ (b l : Addr) (n : Str) (rs : List Addr) (ks : CtT) (sets : List SetT), vs = [.ref b, .str n, .ref l] ∧ Book H b sets ∧ NameOk n ∧ H l = some (.lst (rs.map V.ref)) ∧ Paired (RowAt H) rs ks ∧ CtOk sets ks ∧
  ∀ (H' : Hp) (p d : Addr), Same H H' → H p = none → H d = none → AlbAt C H' p b n d ks → Q (.ref p) H'
def spTwn (C : Addr) : Sp := fun vs H Q _ => ∃ (p b d : Addr) (n : Str) (cs : CtT) (sets : List SetT), vs = [.ref p] ∧ AlbAt C H p b n d cs ∧ Book H b sets ∧ NameOk n ∧ CtOk sets cs ∧
  ∀ (H' : Hp) (p' d' : Addr), Same H H' → H p' = none → H d' = none → AlbAt C H' p' b n d' (riseM cs) → Q (.ref p') H'
def joinM (cs ds : CtT) : CtT := (riseM ds).foldl addC (riseM cs)
def spJnd (C : Addr) : Sp := fun vs H Q _ => ∃ (p b d p2 d2 b2 : Addr) (n n2 : Str) (cs cs2 : CtT) (sets : List SetT), vs = [.ref p, .ref p2] ∧ AlbAt C H p b n d cs ∧ AlbAt C H p2 b2 n2 d2 cs2 ∧ Book H b sets ∧ NameOk n ∧ CtOk sets cs ∧ CtOk sets cs2 ∧
  ∀ (H' : Hp) (p' d' : Addr), Same H H' → H p' = none → H d' = none → AlbAt C H' p' b n d' (joinM cs cs2) → Q (.ref p') H'
theorem joinM_ok {sets : List SetT} {cs ds : CtT} (oc : CtOk sets cs) (od : CtOk sets ds) : CtOk sets (joinM cs ds) := fold_ok _ _ oc.rise fun c hc => ⟨od.rise.st c hc, od.rise.pos c hc⟩
theorem cnt_fold : ∀ (ks cs : CtT) (s : StT), (ks.map (·.1)).Nodup → cntM (ks.foldl addC cs) s = cntM cs s + cntM ks s
  | [], cs, s, _ => by simp [cntM, getC]
  | k :: r, cs, s, nd => by
    rw [List.map_cons, List.nodup_cons] at nd
    rw [List.foldl_cons, cnt_fold r _ s nd.2, cnt_add]
    by_cases e : s = k.1
    · have g : getC r s = none := by
        cases g : getC r s with
        | none => rfl
        | some m => exact absurd (List.mem_map.mpr ⟨_, getC_mem g, e⟩) nd.1
      rw [if_pos e]
      have e2 : k.1 = s := e.symm
      unfold cntM
      rw [g]
      simp [getC, e2]
    · have e2 : ¬ k.1 = s := fun z => e z.symm
      rw [if_neg e]
      unfold cntM
      simp only [getC, if_neg e2]
      omega
theorem cnt_join {sets : List SetT} {cs ds : CtT} (oc : CtOk sets cs) (od : CtOk sets ds) (s : StT) : cntM (joinM cs ds) s = cntM cs s + cntM ds s := by
  unfold joinM
  rw [cnt_fold _ _ _ od.rise.nd, cnt_rise oc.nd, cnt_rise od.nd]
section
variable {P : Program} {w : World} {K : PySem.W.Frag} {mg : Str → Option Value} {base : Heap}
abbrev nFid : List Str := ["book", "name", "counts", "album", "stamp", "many"]
theorem sc_fid : FnScope nFid ["book", "name", "counts"] (defScope stFid) := ⟨rfl, rfl, rfl, by decide +kernel, rfl, by decide +kernel, by decide +kernel⟩
theorem ok_fid {f C fI fP : Addr} {fd fdI fdP : FuncData} (F : Fun K "filled" "filled" stFid f fd) (T : TxtAlb K mg C) (mkI : Mk K C fI) (mP : Meth K C "put" fP)
    (GI : FnOk P w K mg base CX0 7 fI fdI ["self", "book", "name", "stamps"] (spIni0 C)) {ds : List Value} (rd : Vals [V.non] ds) (bI : Binds K fdI ["self", "book", "name", "stamps"] ds)
    (GP : FnOk P w K mg base CX0 8 fP fdP ["self", "stamp", "many"] (spPut C)) (bP : Binds K fdP ["self", "stamp", "many"] []) : FnOk P w K mg base CX0 9 f fd ["book", "name", "counts"] (spFid C) := by
  refine F.ok sc_fid (fun vs H Q E h => ?_) (fun cdv A outer s H vs Q E hr h => ?_)
  · obtain ⟨b, l, n, rs, ks, sets, rfl, _⟩ := h
    rfl
  · obtain ⟨b, l, n, rs, ks, sets, rfl, bk, hn, hl, pr, ok, q⟩ := h
    refine ⟨_, pss_cons (ps_set (i := 3) sc_fid.nd rfl (Or.inl rfl) (pe_make mkI GI hr (by rfl) T.mgC bI rd pass0 (pa_cons (pv 0) (pa_cons (pv 1) pa_nil))))
      (pss_cons (ps_for PassesOwn.never rfl (pi_list (pv 2)) (pg_tup rfl (pgs_cons (pg_name (i := 4) sc_fid.nd rfl (Or.inl rfl)) (pgs_cons (pg_name (i := 5) sc_fid.nd rfl (Or.inl rfl)) pgs_nil)))
        (pss_one (ps_expr (pe_meth (pv 3) T.cl mP GP hr bP .nil pass0 (pa_cons (pv 4) (pa_cons (pv 5) pa_nil))))))
      (pss_one (ps_ret (pv 3)))), ?_⟩
    refine seqset ⟨_, rfl, _, rfl, fun x dx hx hdx hxd => ?_⟩
    have s5 : Same H (upd (upd H dx (.own x)) x (.ins C dx [])) := fun c o e => by rw [upd_ne (ne_of_none e hx), upd_ne (ne_of_none e hdx)]; exact e
    refine ⟨x, dx, b, n, sets, rfl, upd_same, bk.same s5, hn, fun H1 d k1 nd1 al1 => ⟨rfl, ?_⟩⟩
    have s1 : Same H H1 := fun c o e => k1 c o (ne_of_none e hx) (s5 _ _ e)
    have ndH := none_of s5 nd1
    refine ⟨_, rfl, l, rfl, ⟨_, SqL.of (s1 _ _ hl)⟩, ?_⟩
    have pr1 := rows_same s1 pr
    have bk1 := bk.same s1
    have hd1 := al1.dc
    have ld : l ≠ d := ne_of_none hl ndH
    refine for_list (K := K) (xs := rs.map V.ref) (fun i σ G => ∃ v4 v5 : Option V, σ = [some (.ref b), some (.str n), some (.ref l), some (.ref x), v4, v5] ∧ Keep d H1 G ∧ AlbAt C G x b n d (ks.take i))
      ⟨none, none, rfl, Keep.refl, al1⟩ (fun i σ G _ pv => by
        obtain ⟨_, _, _, kG, _⟩ := pv
        exact SqL.of (kG _ _ ld (s1 _ _ hl))) ?_ ?_
    · rintro i y σ G hy ⟨v4, v5, rfl, kG, alG⟩
      rw [List.getElem?_map] at hy
      obtain ⟨a, ha, rfl⟩ : ∃ a, rs[i]? = some a ∧ V.ref a = y := by
        cases h : rs[i]? with
        | none =>
          rw [h] at hy
          cases hy
        | some a =>
          rw [h] at hy
          exact ⟨a, rfl, Option.some.inj hy⟩
      obtain ⟨c, hc, t, ea, et⟩ := Paired.gl (rows_keepD hd1 kG pr1) ha
      have hcm := List.mem_of_getElem? hc
      obtain ⟨⟨dxG, hxG⟩, hdG⟩ := id alG
      refine ⟨a, _, rfl, SqT.of ea, rfl, _, _, rfl, _, _, rfl, rfl, ?_⟩
      refine ⟨_, rfl, x, dxG, _, rfl, hxG, albF_no b n d (by decide +kernel) (by decide +kernel) (by decide +kernel), _, rfl, _, rfl, x, t, b, d, n, ks.take i, sets, c.1, c.2, rfl, alG, bk1.keepD hd1 kG, et, ok.st _ hcm, ok.pos _ hcm, ok.take i, fun G2 k2 al2 => ?_⟩
      refine ⟨_, _, rfl, kG.trans k2, ?_⟩
      rw [add_fresh (take_key ok.nd hc)] at al2
      rw [List.take_add_one, hc]
      exact al2
    · rintro σ G ⟨v4, v5, rfl, kG, alG⟩
      rw [List.length_map, Paired.length pr, List.take_length] at alG
      exact ⟨_, rfl, q G x d (fun c o e => kG c o (ne_of_none e ndH) (s1 _ _ e)) hx ndH alG⟩
theorem sc_twn : FnScope ["self"] ["self"] (defScope sTwn) := ⟨rfl, rfl, rfl, by decide +kernel, rfl, by decide +kernel, by decide +kernel⟩
theorem ok_twn {f C fA fF : Addr} {fd fdA fdF : FuncData} (F : Fun K "twin" "Album.twin" sTwn f fd) (T : TxtAlb K mg C) (mA : Meth K C "all_of" fA) (gF : mg "filled" = some (.ref fF)) (kF : PySem.W.keepIn K (.ref fF) = true)
    (GA : FnOk P w K mg base CX0 1 fA fdA ["self"] (spAof C)) (bA : Binds K fdA ["self"] [])
    (GF : FnOk P w K mg base CX0 9 fF fdF ["book", "name", "counts"] (spFid C)) (bF : Binds K fdF ["book", "name", "counts"] []) : FnOk P w K mg base CX0 10 f fd ["self"] (spTwn C) := by
  refine F.ok sc_twn (fun vs H Q E h => ?_) (fun cdv A outer s H vs Q E hr h => ?_)
  · obtain ⟨p, b, d, n, cs, sets, rfl, _⟩ := h
    rfl
  · obtain ⟨p, b, d, n, cs, sets, rfl, al, bk, hn, ok, q⟩ := h
    obtain ⟨⟨dx, hp⟩, hd⟩ := id al
    refine ⟨_, pss_one (ps_ret (pe_call GF hr (by rfl) gF kF bF .nil pass0 (pa_cons (pe_fld (pv 0) rfl) (pa_cons (pe_fld (pv 0) rfl) (pa_cons (pe_meth0 (pv 0) T.cl mA GA (hr.mono (by decide)) bA .nil pass0) pa_nil))))), ?_⟩
    refine ⟨_, rfl, p, C, dx, _, _, rfl, hp, T.cl, T.nB, albF_b b n d, _, rfl, p, C, dx, _, _, rfl, hp, T.cl, T.nN, albF_n b n d, ?_⟩
    have ln := ok.len bk.1
    refine ⟨_, rfl, p, dx, _, rfl, hp, albF_no b n d (by decide +kernel) (by decide +kernel) (by decide +kernel), p, b, d, n, cs, rfl, al, by omega, fun H1 l rs s1 nl hl pr => ?_⟩
    exact ⟨b, l, n, rs, riseM cs, sets, rfl, bk.same s1, hn, hl, pr, ok.rise, fun H2 p' d' s2 n1 n2 al2 => q H2 p' d' (s1.trans s2) (none_of s1 n1) (none_of s1 n2) al2⟩
end
end Hm

set_option Elab.async false
set_option maxRecDepth 100000
set_option maxHeartbeats 4000000
namespace Hm
open PySem PySem.Spec PyProof.Rows L2 HmS RZ
theorem nameE : NameOk "" := ⟨by decide, by decide +kernel⟩
theorem ct_nil {sets : List SetT} : CtOk sets [] := ⟨by simp, fun c hc => by simp at hc, fun c hc => by simp at hc⟩
theorem sql_same {K : PySem.W.Frag} {H H' : Hp} {a : Addr} {xs : List V} (h : SqL K H a xs) (e : Same H H') : SqL K H' a xs :=
  h.elim (fun h => .inl (h.elim (fun h => .inl (e _ _ h)) fun ⟨o, h⟩ => .inr ⟨o, e _ _ h⟩)) fun h => .inr h
/-! ### what is told, as data -/
theorem dpall_map {K : PySem.W.Frag} {H : Hp} {α : Type} (f : α → V) (g : α → PyData) : ∀ (l : List α), (∀ x ∈ l, Dp K H (f x) (g x)) → DpAll K H (l.map f) (l.map g)
  | [], _ => .nil
  | x :: r, h => .cons (h x List.mem_cons_self) (dpall_map f g r fun y hy => h y (List.mem_cons_of_mem _ hy))
theorem dpall_paired {K : PySem.W.Frag} {H : Hp} {β : Type} {F : Addr → β → Prop} {g : β → PyData} (h : ∀ a c, F a c → Dp K H (.ref a) (g c)) : ∀ {as : List Addr} {cs : List β}, Paired F as cs → DpAll K H (as.map V.ref) (cs.map g)
  | _, _, .nil => .nil
  | _, _, .cons a t => .cons (h _ _ a) (dpall_paired h t)
def intsD (is : List Int) : PyData := .list (is.map PyData.int)
theorem dp_ints {K : PySem.W.Frag} {H : Hp} {l : Addr} {is : List Int} (h : H l = some (.lst (is.map V.int))) : Dp K H (.ref l) (intsD is) := .lst (SqL.of h) (dpall_map _ _ _ fun x _ => .int x)
def rowD (c : StT × Int) : PyData := .tuple [.tuple [.int c.1.1, .int c.1.2.1, .int c.1.2.2], .int c.2]
def rowsD (cs : CtT) : PyData := .list (cs.map rowD)
theorem dp_rows {K : PySem.W.Frag} {H : Hp} {l : Addr} {rs : List Addr} {cs : CtT} (h : H l = some (.lst (rs.map V.ref))) (pr : Paired (RowAt H) rs cs) : Dp K H (.ref l) (rowsD cs) :=
  .lst (SqL.of h) (dpall_paired (fun _ _ ⟨_, e, f⟩ => .tup (SqT.of e) (.cons (.tup (SqT.of f) (.cons (.int _) (.cons (.int _) (.cons (.int _) .nil)))) (.cons (.int _) .nil))) pr)
def IntsAt (H : Hp) (a : Addr) (is : List Int) : Prop := H a = some (.lst (is.map V.int))
def gapsD (iss : List (List Int)) : PyData := .list (iss.map intsD)
theorem dp_gaps {K : PySem.W.Frag} {H : Hp} {l : Addr} {ls : List Addr} {iss : List (List Int)} (h : H l = some (.lst (ls.map V.ref))) (pr : Paired (IntsAt H) ls iss) : Dp K H (.ref l) (gapsD iss) :=
  .lst (SqL.of h) (dpall_paired (fun _ _ e => dp_ints e) pr)
theorem lay_all {α : Type} (g : α → PyData) (hg : ∀ x, (g x).canLay0 = true) : ∀ l : List α, PyData.canLayAll0 (l.map g) = true
  | [] => rfl
  | x :: r => by
    show ((g x).canLay0 && PyData.canLayAll0 (r.map g)) = true
    rw [hg x, lay_all g hg r]
    rfl
theorem depth_all {α : Type} (g : α → PyData) {m : Nat} (hg : ∀ x, (g x).depth ≤ m) : ∀ l : List α, PyData.depthAll (l.map g) ≤ m
  | [] => by simp [PyData.depthAll]
  | x :: r => by
    have h1 := hg x
    have h2 := depth_all g hg r
    simp only [List.map_cons, PyData.depthAll]
    omega
theorem lay_ints (is : List Int) : (intsD is).canLay0 = true := by
  simp only [intsD, PyData.canLay0]
  exact lay_all _ (fun x => rfl) is
theorem depth_ints (is : List Int) : (intsD is).depth ≤ 1 := by
  simp only [intsD, PyData.depth]
  have := depth_all PyData.int (m := 0) (fun x => by simp [PyData.depth]) is
  omega
theorem lay_rows (cs : CtT) : (rowsD cs).canLay0 = true := by
  simp only [rowsD, PyData.canLay0]
  exact lay_all _ (fun x => by simp [rowD, PyData.canLay0, PyData.canLayAll0]) cs
theorem depth_rows (cs : CtT) : (rowsD cs).depth ≤ 3 := by
  simp only [rowsD, PyData.depth]
  have := depth_all rowD (m := 2) (fun x => by simp [rowD, PyData.depth, PyData.depthAll]) cs
  omega
theorem lay_gaps (iss : List (List Int)) : (gapsD iss).canLay0 = true := by
  simp only [gapsD, PyData.canLay0]
  exact lay_all _ lay_ints iss
theorem depth_gaps (iss : List (List Int)) : (gapsD iss).depth ≤ 2 := by
  simp only [gapsD, PyData.depth]
  have := depth_all intsD (m := 1) depth_ints iss
  omega
theorem shaped_of {d : PyData} {m : Nat} (h : d.canLay0 = true) (hd : d.depth ≤ m) (hm : m ≤ 64) : SeqAt.shaped d = true := by
  simp only [SeqAt.shaped, h, Bool.true_and, decide_eq_true_eq]
  omega
theorem eqv_self {d : PyData} (h : d.canLay0 = true) : (!PyData.eqv d d) = false := by rw [SeqAt.eqv_refl d h]; rfl
theorem eqv_nil (is : List Int) : PyData.eqv (intsD is) (.list []) = is.isEmpty := by
  cases is <;> simp [intsD, PyData.eqv, PyData.eqvAll]
/-! ### the rows of two albums that part, the book, as data -/
def setD (s : SetT) : PyData := .tuple [.str s.1, .int s.2.1, .int s.2.2]
def bookD (sets : List SetT) : PyData := .tuple (sets.map setD)
theorem dp_book {K : PySem.W.Frag} {H : Hp} {b : Addr} {sets : List SetT} (h : Book H b sets) : Dp K H (.ref b) (bookD sets) := by
  obtain ⟨_, as, e, pr⟩ := h
  exact .tup (SqT.of e) (dpall_paired (F := SetAt H) (g := setD) (fun _ _ h => .tup (SqT.of h) (.cons (.str _) (.cons (.int _) (.cons (.int _) .nil)))) pr)
theorem lay_allM {α : Type} (g : α → PyData) : ∀ l : List α, (∀ x ∈ l, (g x).canLay0 = true) → PyData.canLayAll0 (l.map g) = true
  | [], _ => rfl
  | x :: r, h => by
    show ((g x).canLay0 && PyData.canLayAll0 (r.map g)) = true
    rw [h x List.mem_cons_self, lay_allM g r fun y hy => h y (List.mem_cons_of_mem _ hy)]
    rfl
theorem lay_book {sets : List SetT} (ok : BookOk sets) : (bookD sets).canLay0 = true := by
  simp only [bookD, PyData.canLay0]
  refine lay_allM _ _ fun s hs => ?_
  have hl := (ok.ok s hs).land
  have e : (PyData.str s.1).canLay0 = true := by
    generalize s.1 = z at hl
    simp only [landsL, List.mem_cons, List.not_mem_nil, or_false] at hl
    rcases hl with rfl | rfl | rfl | rfl <;> decide +kernel
  simp [setD, PyData.canLay0, PyData.canLayAll0] at e ⊢
  exact e
theorem depth_book (sets : List SetT) : (bookD sets).depth ≤ 2 := by
  simp only [bookD, PyData.depth]
  have := depth_all setD (m := 1) (fun x => by simp [setD, PyData.depth, PyData.depthAll]) sets
  omega
/-! ### counts of what is drawn -/
theorem bump_add (cs : CtT) (s : StT) : bump cs s = addC cs (s, 1) := rfl
def cnt1 (ss : List StT) (t : StT) : Int := ((ss.filter fun s => decide (s = t)).length : Nat)
theorem cnt_foldb : ∀ (ss : List StT) (cs : CtT) (t : StT), cntM (ss.foldl bump cs) t = cntM cs t + cnt1 ss t
  | [], cs, t => by simp [cnt1]
  | s :: r, cs, t => by
    rw [List.foldl_cons, cnt_foldb r, bump_add, cnt_add]
    unfold cnt1
    rw [List.filter_cons]
    by_cases e : t = s
    · rw [if_pos e, if_pos (decide_eq_true e.symm), List.length_cons]
      omega
    · have e2 : ¬ s = t := fun z => e z.symm
      rw [if_neg e, if_neg (by simpa using e2)]
      omega
theorem cnt_counts (ss : List StT) (t : StT) : cntM (countsM ss) t = cnt1 ss t := by
  unfold countsM
  rw [cnt_foldb]
  simp [cntM, getC]
theorem cnt1_app (a b : List StT) (t : StT) : cnt1 (a ++ b) t = cnt1 a t + cnt1 b t := by
  unfold cnt1
  rw [List.filter_append, List.length_append]
  omega
theorem cnt1_filter (f : StT → Bool) (t : StT) : ∀ ss : List StT, cnt1 (ss.filter f) t = if f t = true then cnt1 ss t else 0
  | [] => by simp [cnt1]
  | s :: r => by
    have ih := cnt1_filter f t r
    have hc : ∀ l : List StT, cnt1 (s :: l) t = (if s = t then 1 else 0) + cnt1 l t := by
      intro l
      unfold cnt1
      rw [List.filter_cons]
      by_cases e : s = t
      · rw [if_pos (decide_eq_true e), if_pos e, List.length_cons]
        omega
      · rw [if_neg (by simpa using e), if_neg e]
        omega
    rw [List.filter_cons]
    by_cases e : s = t
    · by_cases z : f s = true
      · have z2 : f t = true := e ▸ z
        rw [if_pos z, hc, ih, if_pos z2, if_pos z2, hc]
      · have z2 : ¬ f t = true := e ▸ z
        rw [if_neg z, ih, if_neg z2, if_neg z2]
    · by_cases z : f s = true
      · rw [if_pos z, hc, ih, hc, if_neg e]
        by_cases z2 : f t = true
        · rw [if_pos z2, if_pos z2]
        · rw [if_neg z2, if_neg z2]
          rfl
      · rw [if_neg z, ih, hc, if_neg e]
        by_cases z2 : f t = true
        · rw [if_pos z2, if_pos z2]
          omega
        · rw [if_neg z2, if_neg z2]
theorem getC_filter (f : StT → Bool) (t : StT) : ∀ cs : CtT, getC (cs.filter fun c => f c.1) t = if f t = true then getC cs t else none
  | [] => by simp [getC]
  | c :: r => by
    have ih := getC_filter f t r
    rw [List.filter_cons]
    by_cases e : c.1 = t
    · by_cases z : f c.1 = true
      · have z2 : f t = true := e ▸ z
        rw [if_pos z, if_pos z2]
        simp [getC, e]
      · have z2 : ¬ f t = true := e ▸ z
        rw [if_neg z, ih, if_neg z2, if_neg z2]
    · by_cases z : f c.1 = true
      · rw [if_pos z]
        simp only [getC, if_neg e]
        exact ih
      · rw [if_neg z, ih]
        simp only [getC, if_neg e]
theorem cnt_filter (f : StT → Bool) (cs : CtT) (t : StT) : cntM (cs.filter fun c => f c.1) t = if f t = true then cntM cs t else 0 := by
  unfold cntM
  rw [getC_filter]
  by_cases z : f t = true
  · rw [if_pos z, if_pos z]
  · rw [if_neg z, if_neg z]
    rfl
/-! ### what stands through a turn of the law -/
theorem AlbAt.keep {C : Addr} {H H' : Hp} {pn p b d : Addr} {n : Str} {cs : CtT} (k : Keep pn H H') (pen : PenAt H pn) (h : AlbAt C H p b n d cs) : AlbAt C H' p b n d cs := by
  obtain ⟨⟨dx, e⟩, f⟩ := h
  exact ⟨⟨dx, k _ _ (pen_ne pen e fun _ z => by cases z) e⟩, k _ _ (pen_ne pen f fun _ z => by cases z) f⟩
theorem pen_same {H H' : Hp} {p : Addr} (s : Same H H') (x : PenAt H p) : PenAt H' p := by
  obtain ⟨x1, x2, x3, x4, e, r⟩ := x
  exact ⟨x1, x2, x3, x4, s _ _ e, r⟩
end Hm

set_option Elab.async false
set_option linter.all false
set_option maxRecDepth 100000
set_option maxHeartbeats 4000000
namespace HmQ
open PySem PySem.Spec PyProof.Rows L2 PySem.W
section
variable {prog : Program} {w : World} {K : Type} [DecidableEq K] {knd : HeapKind prog w K} {A : Around} {E : Value → Shared → Prop} {s : Shared}
/-- how == of two dicts goes through the left one -/
inductive Hits {K : Type} [DecidableEq K] (prog : Program) (w : World) (A : Around) (s : Shared) (xb : List (K × Addr × Value)) : List (K × Addr × Value) → Bool → Prop
  | nil : Hits prog w A s xb [] true
  | miss {k : K} {b : Addr} {v : Value} {r : List (K × Addr × Value)} : atKey xb k = none → Hits prog w A s xb ((k, b, v) :: r) false
  | hit {k : K} {b : Addr} {v : Value} {p : Addr × Value} {r : List (K × Addr × Value)} {e t : Bool} : atKey xb k = some p → SeqAt.EqP prog w A s v p.2 e → Hits prog w A s xb r t → Hits prog w A s xb ((k, b, v) :: r) (e && t)
theorem Hits.inv {xb : List (K × Addr × Value)} {k : K} {b : Addr} {v : Value} {r : List (K × Addr × Value)} {t : Bool} (h : Hits prog w A s xb ((k, b, v) :: r) t) :
    (atKey xb k = none ∧ t = false) ∨ ∃ p e t', atKey xb k = some p ∧ SeqAt.EqP prog w A s v p.2 e ∧ Hits prog w A s xb r t' ∧ t = (e && t') := by
  cases h with
  | miss h => exact .inl ⟨h, rfl⟩
  | hit h1 h2 h3 => exact .inr ⟨_, _, _, h1, h2, h3, rfl⟩
theorem pairs_same {nm : String} {a b : Addr} {xa xb : List (K × Addr × Value)} {r : Bool} {Q : Bool → Shared → Prop} (ha : (a == sysModules) = false) (hb : (b == sysModules) = false) (hu : knd.room A)
    (da : s.heap.DictOfH knd a xa) (db : s.heap.DictOfH knd b xb) (hits : xa.length = xb.length → Hits prog w A s xb xa r) (h : Q (xa.length == xb.length && r) s) :
    wpAny (model prog w) A (Builtin.Dict.samePairs nm a b) Q E s := by
  obtain ⟨oa, es, ep, hoa, _, hda, hea, hia, hna⟩ := da
  obtain ⟨ob, fs, ep', hob, _, hdb, heb, hib, hnb⟩ := db
  have la : es.size = xa.length := size_of_entries hea
  have lb : fs.size = xb.length := size_of_entries heb
  unfold Builtin.Dict.samePairs Builtin.Dict.showsAll
  rw [if_neg (by rw [ha]; exact Bool.false_ne_true), if_neg (by rw [hb]; exact Bool.false_ne_true)]
  refine wpAny_bind (wpAny_pure (wpAny_bind (wpAny_pure (wpAny_bind (wpAny_dictEntries hoa hda ?_)))))
  dsimp only
  refine wpAny_bind (wpAny_dictEntries hob hdb ?_)
  by_cases hz : xa.length = xb.length
  · have q : Q r s := by simpa [hz] using h
    rw [if_neg (by rw [la, lb, hz]; simp)]
    refine wpAny_bind (wpAny_dictEpoch hoa hda (wpAny_bind ?_))
    rw [Std.Legacy.Range.forIn_eq_forIn_range']
    simp only [Std.Legacy.Range.size, Nat.sub_zero, Nat.add_sub_cancel, Nat.div_one]
    refine wpAny_forIn_list _ (fun left z s' => s' = s ∧ z = (none, ()) ∧ ∃ i, left = List.range' i (es.size - i) ∧ i ≤ es.size ∧ Hits prog w A s xb (xa.drop i) r) _ ?_ ?_ _ _
      ⟨rfl, rfl, 0, by simp, Nat.zero_le _, hits hz⟩
    · rintro x left z s' ⟨rfl, rfl, i, hl, hi, pre⟩
      have hx : i < es.size := by
        rcases Nat.lt_or_ge i es.size with g | g
        · exact g
        · rw [Nat.sub_eq_zero_of_le g] at hl
          cases hl
      have e1 : es.size - i = (es.size - (i + 1)) + 1 := by omega
      rw [e1, List.range'_succ] at hl
      obtain ⟨rfl, hl⟩ := List.cons.inj hl
      have hxa : x < xa.length := by omega
      obtain ⟨k, c, v, hk⟩ : ∃ k c v, xa[x] = (k, c, v) := ⟨_, _, _, rfl⟩
      have hk' : xa[x]? = some (k, c, v) := by rw [List.getElem?_eq_getElem hxa, hk]
      rw [List.drop_eq_getElem_cons hxa, hk] at pre
      have keyed : knd.is s'.heap k c := hia _ (List.mem_of_getElem? hk')
      refine wpAny_bind (wpAny_dictEntries hoa hda ?_)
      rw [entry_at hea x, hk']
      show wpAny _ _ (holding [Value.ref c, v] _ >>= _) _ _ _
      refine wpAny_bind (wpAny_holding (wpAny_bind (wpAny_dictFind_heap hu keyed hob hdb heb hib hnb (fun no => ?_) fun j p hj => ?_)))
      · have nk : atKey xb k = none := atKey_none_of_get no
        rcases pre.inv with ⟨_, er⟩ | ⟨p, _, _, hp, _⟩
        · rw [er] at q
          refine wpAny_pure ?_
          show wpAny _ _ (if (!false) = true then _ else _) _ _ _
          rw [if_pos (by decide)]
          exact wpAny_pure (wpAny_pure q)
        · rw [nk] at hp
          cases hp
      · have sk : atKey xb k = some p := atKey_of_get hnb hj
        refine wpAny_bind (wpAny_dictEntries hob hdb ?_)
        rw [entry_at heb j, hj]
        rcases pre.inv with ⟨hp, _⟩ | ⟨p', e, t', hp, he, hr, er⟩
        · rw [sk] at hp
          cases hp
        · obtain rfl : p = p' := Option.some.inj (sk.symm.trans hp)
          refine wpAny_holding (he _ _ ?_)
          cases e with
          | false =>
            rw [er, Bool.false_and] at q
            show wpAny _ _ (if (!false) = true then _ else _) _ _ _
            rw [if_pos (by decide)]
            exact wpAny_pure (wpAny_pure q)
          | true =>
            rw [Bool.true_and] at er
            subst er
            show wpAny _ _ (if (!true) = true then _ else _) _ _ _
            rw [if_neg (by decide)]
            refine wpAny_bind (wpAny_dictEpoch hoa hda ?_)
            rw [if_neg (by simp)]
            exact wpAny_pure ⟨rfl, rfl, x + 1, hl, hx, hr⟩
    · rintro z s' ⟨rfl, rfl, i, hl, hi, pre⟩
      have e : i = es.size := by
        rcases Nat.lt_or_ge i es.size with g | g
        · have e1 : es.size - i = (es.size - (i + 1)) + 1 := by omega
          rw [e1, List.range'_succ] at hl
          cases hl
        · exact Nat.le_antisymm hi g
      rw [e, la, List.drop_length] at pre
      cases pre
      exact wpAny_pure q
  · rw [if_pos (by rw [la, lb]; simpa using hz)]
    have f : (xa.length == xb.length) = false := by simpa using hz
    rw [f, Bool.false_and] at h
    exact wpAny_bind (wpAny_rule (wpAny_pure h))
theorem dicts_same {a b : Addr} {xa xb : List (K × Addr × Value)} {r : Bool} (ha : (a == sysModules) = false) (hb : (b == sysModules) = false) (hu : A.units < cLine) (hr : knd.room A.in1)
    (da : s.heap.DictOfH knd a xa) (db : s.heap.DictOfH knd b xb) (hits : xa.length = xb.length → Hits prog w A.in1 s xb xa r) {Q : Value → Shared → Prop} (h : Q (.bool (xa.length == xb.length && r)) s) :
    wpAny (model prog w) A (richCompare .Eq (.ref a) (.ref b)) Q E s := by
  refine wpAny_richCompare_same_room (op := .Eq) da.typeIs db.typeIs PySem.F.slot_dict_eq (wpAny_call_entry PySem.F.slot_dict_eq da.typeIs PySem.F.entry_dict_eq ?_ (PySem.F.args_dict_eq_2 _ _)) hu
  show wpAny _ _ (Builtin.Dict.dictSlotArgs "__eq__" ⟨[.ref a, .ref b], []⟩ >>= _) _ _ s
  unfold Builtin.Dict.dictSlotArgs
  refine wpAny_bind (wpAny_bind (wpAny_notOrdered_dict da.typeIs ?_))
  show wpAny _ _ (pure (Value.ref a, Value.ref b)) _ _ s
  refine wpAny_pure (wpAny_bind (wpAny_isInstance (T := "dict") db.typeIs PySem.F.sub_dict_dict ?_))
  simp only [Bool.not_true, Bool.false_eq_true, if_false]
  refine wpAny_bind (wpAny_pure (wpAny_bind (wpAny_pure (wpAny_bind (pairs_same ha hb hr da db hits (wpAny_pure ⟨_, rfl, fun z => (nomatch z), ?_⟩))))))
  simpa using h
end
section
variable {X : Cx}
abbrev entI (e : List L2.Key × Int) : List L2.Key × V := (e.1, V.int e.2)
/-- == of two dicts of whole numbers by tuples -/
def sameD (ka kb : List (List L2.Key × Int)) : Bool := ka.length == kb.length && ka.all fun e => match (kb.find? fun z => decide (z.1 = e.1)) with
  | some z => e.2 == z.2
  | none => false
def rEqD : R2 := fun x y H Q => ∃ (a b : Addr) (ka kb : List (List L2.Key × Int)), x = .ref a ∧ y = .ref b ∧ H a = some (.dT (ka.map entI)) ∧ H b = some (.dT (kb.map entI)) ∧ Q (.bl (sameD ka kb)) H
theorem find_kt {H : Hp} {k : List L2.Key} : ∀ {kb : List (List L2.Key × Int)} {xb : List (List L2.Key × Addr × Value)}, KT H (kb.map entI) xb →
    (∃ z p t, (kb.find? fun z => decide (z.1 = k)) = some z ∧ atKey xb k = some (p, .int z.2 t)) ∨ ((kb.find? fun z => decide (z.1 = k)) = none ∧ atKey xb k = none)
  | [], _, h => by
    cases h
    exact .inr ⟨rfl, rfl⟩
  | z :: kb, _, h => by
    cases h with
    | @cons _ q _ qs hq t =>
      obtain ⟨e1, _, e3⟩ := hq
      obtain ⟨tk, e3⟩ := (show ∃ t, q.2.2 = Value.int z.2 t from e3)
      have e1 : z.1 = q.1 := e1
      by_cases c : z.1 = k
      · refine .inl ⟨z, q.2.1, tk, by rw [List.find?_cons_of_pos (by simpa using c)], ?_⟩
        unfold atKey
        rw [List.find?_cons_of_pos (by rw [← e1]; simpa using c), ← e3]
        rfl
      · have e2 : atKey (q :: qs) k = atKey qs k := by
          unfold atKey
          rw [List.find?_cons_of_neg (by rw [← e1]; simpa using c)]
        rw [List.find?_cons_of_neg (by simpa using c), e2]
        exact find_kt t
theorem hits_kt {P : Program} {w : World} {A : Around} {s : Shared} {H : Hp} {kb : List (List L2.Key × Int)} {xb : List (List L2.Key × Addr × Value)} (hb : KT H (kb.map entI) xb) : ∀ {ka : List (List L2.Key × Int)} {xa : List (List L2.Key × Addr × Value)}, KT H (ka.map entI) xa →
    Hits P w A s xb xa (ka.all fun e => match (kb.find? fun z => decide (z.1 = e.1)) with
      | some z => e.2 == z.2
      | none => false)
  | [], _, h => by
    cases h
    exact .nil
  | e :: ka, _, h => by
    cases h with
    | @cons _ q _ qs hq t =>
      obtain ⟨k, c, v⟩ := q
      obtain ⟨e1, _, e3⟩ := hq
      obtain ⟨tk, e3⟩ := (show ∃ t, v = Value.int e.2 t from e3)
      have e1 : e.1 = k := e1
      subst e3
      have rest := hits_kt (P := P) (w := w) (A := A) (s := s) hb t
      rw [List.all_cons]
      rcases find_kt (k := e.1) hb with ⟨z, p, tz, hz, hp⟩ | ⟨hz, hp⟩
      · rw [hz]
        rw [e1] at hp
        exact .hit hp (fun E Q q => (SeqAt.EqAt.int_int e.2 tk z.2 tz).eqP E Q q) rest
      · rw [hz]
        rw [e1] at hp
        exact .miss hp
theorem op_eqDi (hu : X.A.units + 64 < cLine) : OpR X (compareOp .Eq) rEqD := by
  intro pins s σ H x y v u Q I rx ry h
  obtain ⟨a, b, ka, kb, rfl, rfl, ha, hb, q⟩ := h
  cases (show v = Value.ref a from rx)
  cases (show u = Value.ref b from ry)
  obtain ⟨_, ya, xa, ra, da⟩ := dt_of I.hok ha
  obtain ⟨_, yb, xb, rb, db⟩ := dt_of I.hok hb
  have l1 : xa.length = ka.length := by rw [← Paired.length ra, List.length_map]
  have l2 : xb.length = kb.length := by rw [← Paired.length rb, List.length_map]
  refine dicts_same ya yb (by omega) (tupleKind_room_in1 (by omega)) da db (fun _ => hits_kt rb ra) ⟨.bl (sameD ka kb), H, I, ?_, q⟩
  rw [l1, l2]
  rfl
/-- del d[k] of a dict by tuples -/
def sDDelT (td ty : TE) : TS := fun D σ H => td σ H fun x H1 => ty σ H1 fun y H2 => ∃ (a b : Addr) (kvs : List (List L2.Key × V)) (k : List L2.Key), x = .ref a ∧ y = .ref b ∧ H2 a = some (.dT kvs) ∧ H2 b = some (.tup (k.map kV)) ∧ (valV kvs k).isSome = true ∧ D.nx σ (upd H2 a (.dT (dropK kvs k)))
end
end HmQ

set_option Elab.async false
set_option linter.all false
set_option maxRecDepth 100000
set_option maxHeartbeats 4000000
namespace HmQ
open PySem PySem.Spec PyProof.Rows L2 PySem.W
section
variable {X : Cx} {td ty : TE} {o i : Expr} {pos tpos : Pos}
theorem del_t {pins : List (Addr × Obj)} {σ : L2.St} {H : Hp} {s : Shared} {a b : Addr} {A : Around} {E : Value → Shared → Prop} {kvs : List (List L2.Key × V)} {k : List L2.Key} {Q : Unit → Shared → Prop} (hu : A.units + 1 < cLine) (I : Inv X pins σ H s) (e : H a = some (.dT kvs))
    (eb : H b = some (.tup (k.map kV))) (l : (valV kvs k).isSome = true) (h : ∀ s', Inv X pins σ (upd H a (.dT (dropK kvs k))) s' → Q () s') : wpAny (model X.prog X.w) A (delItem (.ref a) (.ref b)) Q E s := by
  obtain ⟨z, hd, xs, rel, dd⟩ := dt_of I.hok e
  obtain ⟨p, hp⟩ : ∃ p, atKey xs k = some p := by
    have r := rel.val k
    cases ep : atKey xs k with
    | some p => exact ⟨p, rfl⟩
    | none =>
      rw [ep] at r
      cases ev : valV kvs k with
      | none =>
        rw [ev] at l
        cases l
      | some v0 =>
        rw [ev] at r
        exact (show False from r).elim
  refine wpAny_delItem_heap (knd := tupleKind (mixKind X.prog X.w)) (k := k) (tupleKind_room_in1 hu) (key_of I.hok eb) hd dd hp (fun h' dd' hs => h _ ?_) (by rw [← Paired.length rel]; exact z)
  obtain ⟨o, es, ep, hq, h2, h3, h4, _, h5⟩ := dd'
  exact d_write I (by rw [e]; exact True.intro) hs ⟨o, hq⟩ ⟨Nat.le_trans (dropK_le kvs k) z, hd, _, (L2.DX.KT_drop k rel).keeps (fun c ys ec => (by rw [upd_ne (ne_of ec e (fun z => nomatch z))]; exact ec)), o, es, ep, hq, h2, h3, h4, h5⟩
theorem ps_ddelT (hu : X.A.units + 1 < cLine) (ho : PE X o td) (hi : PE X i ty) : PS X (.Delete [.Subscript o i tpos] pos) (sDDelT td ty) := by
  refine ⟨fun pins s σ H D I h => ?_⟩
  refine wpAny_Delete (wpAny_deleteEach_cons (wpAny_delete_Subscript (thn (ho.run pins s σ H _ I h) fun u s1 ⟨x, H1, I1, rx, q1⟩ => thn (hi.run pins s1 σ H1 _ I1 q1) fun iv s2 ⟨y, H2, I2, ry, a, b, kvs, k, ex, ey, e, eb, l, q2⟩ => ?_)))
  subst ex ey
  obtain rfl : u = Value.ref a := rx
  obtain rfl : iv = Value.ref b := ry
  exact del_t hu I2 e eb l fun s3 I3 => wpAny_deleteEach_nil ⟨σ, _, I3, q2⟩
end
section
variable {prog : Program} {w : World} {A : Around} {E : Value → Shared → Prop} {s : Shared} {K : Frag} {x C L f : Addr} {ox : Obj} {od : Option Obj} {b : Value}
theorem ifBound_ne {M : Model} {args : List Value} {Q : Option Value → Shared → Prop} (X : K.In s.heap) (I : InstAt s.heap x ox C od) (hs : findIn K (.ref C) "__ne__" = some (some (.builtin "object.__ne__")))
    (h : wpAny M A (call (.builtin "object.__ne__") (.ref x :: args)) (fun v => Q (some v)) E s) : wpAny M A (callSpecialIfBound? (.ref x) "__ne__" args) Q E s := by
  simp only [callSpecialIfBound?, bindSpecialIfBound?]
  refine wpAny_holding (wpAny_bind (wpAny_bind (wpAny_bind (I.type.here ((looks_findIn X hs).here ?_)))))
  simp only [F.cmp_object.ne.bind]
  refine wpAny_bind (wpAny_askSetting (wpAny_ite ?_))
  have fin : wpAny M A (call (.builtin "object.__ne__") ([.ref x] ++ args) >>= fun v => pure (some v)) Q E s :=
    wpAny_bind (wpAny_mono h (fun v s' h' => wpAny_pure h') fun _ _ h' => h')
  split
  · exact wpAny_bind (wpAny_pure (wpAny_pure fin))
  · exact wpAny_tryCatch (wpAny_bind (wpAny_pure (wpAny_pure fin)))
/-- x != b by the own __eq__ -/
theorem ne_body (hu : A.units < cLine) (X : K.In s.heap) (I : InstAt s.heap x ox C od) (he : findIn K (.ref C) "__eq__" = some (some (.ref f))) (hf : isFn K (.ref f) = true) {Q : Fin → Shared → Prop}
    (h : wpAny (model prog w) A (call (.ref f) [.ref x, b]) (fun v s' => ∃ r, v = .bool r ∧ Q (.done (.ret (.bool (!r)))) s') E s) : wpAny (model prog w) A (Builtin.«object.__ne__» ⟨[.ref x, b], []⟩) Q E s := by
  unfold Builtin.«object.__ne__»
  repeat (first
    | with_reducible refine wpAny_cRoomFor hu ?_
    | (refine wpAny_bind (m := callSpecialIfBound? (.ref x) (Str.ofString "__eq__") [b])
        (ifBound_K X I he hf (wpAny_mono h (fun v s' hv => by
          obtain ⟨r, rfl, hq⟩ := hv
          repeat (first | exact hq | exact wpAny_pure hq | exact wpAny_truthy_bool hq | (refine wpAny_bind (m := truthy (.bool _)) (wpAny_truthy_bool ?_)) | wp_step)) fun _ _ e => e)))
    | wp_step)
theorem call_ne (hu : A.units + 1 < cLine) (X : K.In s.heap) (I : InstAt s.heap x ox C od) (hm : mroIn K C (.type "object") = some true) (he : findIn K (.ref C) "__eq__" = some (some (.ref f))) (hf : isFn K (.ref f) = true) {Q : Value → Shared → Prop}
    (h : wpAny (model prog w) A.in1 (call (.ref f) [.ref x, b]) (fun v s' => ∃ r, v = .bool r ∧ Q (.bool (!r)) s') E s) : wpAny (model prog w) A (call (.builtin "object.__ne__") [.ref x, b]) Q E s := by
  refine wpAny_call (codeAny_call_builtin F.cmp_object.ne.plain F.cmpEntry_ne ?_)
  simp only [checkBuiltinCall, F.cmpKind_ne, F.cmpSplit_ne]
  have L0 := I.type (M := model prog w)
  have L1 := looks_mroIn (M := model prog w) X hm
  refine wpAny_bind ?_
  unfold isInstance
  refine wpAny_bind (L0.here (L1.here ?_))
  simp only [Bool.not_true, Bool.false_eq_true, if_false]
  have fin : wpAny (model prog w) A.in1 (Builtin.«object.__ne__» ⟨[.ref x, b], []⟩) (fun fin s' => match fin with
      | .done f => match (Except.ok f : Result) with
        | .ok (.ret v) => Q v s'
        | .ok _ => False
        | .error e => E e s'
      | .again c' => c'.quiet = true ∧ codeAny (model prog w) A c' (fun r s' => match r with
        | .ok (.ret v) => Q v s'
        | .ok _ => False
        | .error e => E e s') s') E s :=
    ne_body (A := A.in1) (by show A.units + 1 < cLine; exact hu) X I he hf h
  have ha := F.cmpArgs_ne (.ref x) b
  cases hsig : Manifest.signature? "object.__ne__" with
  | none => exact wpAny_pure fin
  | some sig =>
    simp only [argsOk, hsig] at ha
    have h2 : Bind.checkArgs "object.__ne__" sig ⟨.ref x :: [b], []⟩ = pure () := ha
    show wpAny (model prog w) A.in1 (Bind.checkArgs "object.__ne__" sig ⟨.ref x :: [b], []⟩) _ E s
    rw [h2]
    exact wpAny_pure fin
theorem ne_own {Q : Value → Shared → Prop} {D : Addr} (hu : A.units + 1 < cLine) (X : K.In s.heap) (I : InstAt s.heap x ox C od) (hb : Looks (model prog w) s.heap (typeOf b) (.ref C)) (hs : findIn K (.ref C) "__ne__" = some (some (.builtin "object.__ne__")))
    (hm : mroIn K C (.type "object") = some true) (he : findIn K (.ref C) "__eq__" = some (some (.ref f))) (hf : isFn K (.ref f) = true)
    (h : wpAny (model prog w) A.in1 (call (.ref f) [.ref x, b]) (fun v s' => ∃ r, v = .bool r ∧ Q (.bool (!r)) s') E s) : wpAny (model prog w) A (richCompare .NotEq (.ref x) b) Q E s := by
  have one : wpAny (model prog w) A (tryCompare (.ref x) "__ne__" b) (fun r s' => ∃ v, r = some v ∧ Q v s') E s := by
    unfold tryCompare
    refine wpAny_bind (ifBound_ne X I hs (call_ne hu X I hm he hf (wpAny_mono h (fun v s' hv => ?_) fun _ _ e => e)))
    obtain ⟨r, rfl, hq⟩ := hv
    exact ⟨r, rfl, wpAny_pure ⟨_, rfl, hq⟩⟩
  unfold richCompare
  simp only [oneThing_ref, cmpInfo_NotEq]
  refine wpAny_holding (wpAny_bind (wpAny_cRoomFor (by omega) ?_))
  refine wpAny_bind (I.type.here (wpAny_bind (hb.here ?_)))
  rw [show (Value.ref C != Value.ref C) = false from by simp]
  simp only [Bool.false_eq_true, if_false]
  refine wpAny_bind (wpAny_pure ?_)
  simp only [Bool.false_eq_true, if_false]
  refine wpAny_bind (wpAny_mono one (fun r s' z => ?_) fun _ _ e => e)
  obtain ⟨v, rfl, hq⟩ := z
  exact wpAny_pure hq
end
section
variable {X : Cx} {CX : CXT} {C f : Addr} {fd : FuncData} {ps : List Str} {n : Nat} {sp : Sp} {E : XK}
/-- what == and != of instances of a class with an own __eq__ ask of the text -/
structure OwnCmp (K : PySem.W.Frag) (C f : Addr) : Prop where
  eq : PySem.W.findIn K (.ref C) "__eq__" = some (some (.ref f))
  fn : PySem.W.isFn K (.ref f) = true
  ne : PySem.W.findIn K (.ref C) "__ne__" = some (some (.builtin "object.__ne__"))
  ob : PySem.W.mroIn K C (.type "object") = some true
def rOwnEq (C : Addr) (sp : Sp) (E : XK) : R2 := fun x y H Q => ∃ (a b dx dy : Addr) (fs gs : List (Str × V)), x = .ref a ∧ y = .ref b ∧ H a = some (.ins C dx fs) ∧ H b = some (.ins C dy gs) ∧ sp [.ref a, .ref b] H Q E
def rOwnNe (C : Addr) (sp : Sp) (E : XK) : R2 := fun x y H Q => ∃ (a b dx dy : Addr) (fs gs : List (Str × V)), x = .ref a ∧ y = .ref b ∧ H a = some (.ins C dx fs) ∧ H b = some (.ins C dy gs) ∧ sp [.ref a, .ref b] H (fun z H' => ∃ r, z = .bl r ∧ Q (.bl (!r)) H') E
theorem run_below {A : Around} {pins : List (Addr × Obj)} {σ : L2.St} {H : Hp} {s : Shared} {Q : VK} {a b : Addr} (F : FnOk X.prog X.w X.K X.mg X.base CX n f fd ps sp) (hr : Room n A) (e0 : Env0 X.prog X.w X.K X.mg X.base A X.stack s H) (hb : Binds X.K fd ps []) (hx : Passes CX X E)
    (I : Inv X pins σ H s) (h : sp [.ref a, .ref b] H Q E) : wpAny (model X.prog X.w) A (call (.ref f) [.ref a, .ref b]) (EP X pins σ Q) X.xe s := by
  have hl := F.len _ _ _ _ h
  have r2 : Vals [V.ref a, V.ref b] [Value.ref a, Value.ref b] := .cons rfl (.cons rfl .nil)
  refine wpAny_call (codeAny_mono (F.run A X.stack s H ⟨[.ref a, .ref b], []⟩ [.ref a, .ref b] [.ref a, .ref b] Q E hr e0 (by
    have := hb s [.ref a, .ref b] I.kIn (by simpa using hl)
    simpa using this) r2 h) fun r s' hq => ?_)
  cases r with
  | error e => exact hx pins σ H s e s' I hq
  | ok fl =>
    cases fl with
    | ret w => exact I.after hq
    | next => exact False.elim hq
    | brk => exact False.elim hq
    | cont => exact False.elim hq
theorem op_ownEq (O : OwnCmp X.K C f) (F : FnOk X.prog X.w X.K X.mg X.base CX n f fd ps sp) (hr : Room n X.A) (hb : Binds X.K fd ps []) (hx : Passes CX X E) : OpR X (compareOp .Eq) (rOwnEq C sp E) := by
  intro pins s σ H x y v u Q I rx ry h
  obtain ⟨a, b, dx, dy, fs, gs, rfl, rfl, ha, hb', q⟩ := h
  cases (show v = Value.ref a from rx)
  cases (show u = Value.ref b from ry)
  obtain ⟨mA, J, _⟩ := ins_get I.hok ha
  obtain ⟨mB, J', _⟩ := ins_get I.hok hb'
  obtain ⟨od, J, _⟩ := J.look
  obtain ⟨od', J', _⟩ := J'.look
  obtain ⟨m, hF⟩ := I.fr
  refine PySem.W.cmp_K (op := .Eq) (tb := .ref C) hr.units0 hF I.ok.mod.kin J J'.type (by simp [PySem.W.notFirst]) O.eq O.fn ?_
  refine wpAny_mono (run_below F hr I.env0 hb hx I q) (fun w s' z => ?_) fun _ _ x => x
  obtain ⟨z', H', I', rz, qz⟩ := z
  exact SlX.cmpback rz ⟨z', H', I', rz, qz⟩
theorem op_ownNe (O : OwnCmp X.K C f) (F : FnOk X.prog X.w X.K X.mg X.base CX n f fd ps sp) (hr : Room (n + 1) X.A) (hb : Binds X.K fd ps []) (hx : Passes CX X E) : OpR X (compareOp .NotEq) (rOwnNe C sp E) := by
  intro pins s σ H x y v u Q I rx ry h
  obtain ⟨a, b, dx, dy, fs, gs, rfl, rfl, ha, hb', q⟩ := h
  cases (show v = Value.ref a from rx)
  cases (show u = Value.ref b from ry)
  obtain ⟨mA, J, _⟩ := ins_get I.hok ha
  obtain ⟨mB, J', _⟩ := ins_get I.hok hb'
  obtain ⟨od, J, _⟩ := J.look
  obtain ⟨od', J', _⟩ := J'.look
  have hr1 : Room n X.A.in1 := hr.in1
  refine ne_own (D := C) (by have := hr1.units0; show X.A.units + 1 < cLine; exact this) I.kIn J J'.type O.ne O.ob O.eq O.fn ?_
  refine wpAny_mono (run_below F hr1 I.env0.in1 hb hx I q) (fun w s' z => ?_) fun _ _ x => x
  obtain ⟨z', H', I', rz, r, er, qz⟩ := z
  subst er
  cases (show w = Value.bool r from rz)
  exact ⟨r, rfl, .bl (!r), H', I', rfl, qz⟩
end
end HmQ

set_option Elab.async false
set_option maxRecDepth 100000
set_option maxHeartbeats 4000000
namespace Hm
open PySem PySem.Spec PyProof.Rows L2 HmS HmQ
abbrev sEq : Stmt := inClass stAlb 16 -- meth Album __eq__
abbrev sTak : Stmt := inClass stAlb 2 -- meth Album take
/-! ### alike counts -/
def eqM (cs ds : CtT) : Bool := sameD (cs.map kcC) (ds.map kcC)
theorem find_kc (s : StT) : ∀ ds : CtT, ((ds.map kcC).find? fun z => decide (z.1 = keyS s)) = (getC ds s).map fun n => (keyS s, n)
  | [] => rfl
  | (t, n) :: r => by
    rw [List.map_cons, getC]
    by_cases c : t = s
    · rw [if_pos c, List.find?_cons_of_pos (by show decide (keyS t = keyS s) = true; simp [c]), ← c]
      rfl
    · rw [if_neg c, List.find?_cons_of_neg (by show ¬ decide (keyS t = keyS s) = true; simpa using fun z => c (keyS_inj z))]
      exact find_kc s r
theorem eqM_all (cs ds : CtT) : eqM cs ds = true ↔ cs.length = ds.length ∧ ∀ c ∈ cs, getC ds c.1 = some c.2 := by
  unfold eqM sameD
  rw [Bool.and_eq_true, List.length_map, List.length_map, beq_iff_eq, List.all_eq_true]
  refine and_congr_right fun _ => ⟨fun h c hc => ?_, fun h e he => ?_⟩
  · have := h (kcC c) (List.mem_map.mpr ⟨c, hc, rfl⟩)
    rw [show (kcC c).1 = keyS c.1 from rfl, find_kc] at this
    cases e : getC ds c.1 with
    | none =>
      rw [e] at this
      cases this
    | some n =>
      rw [e] at this
      have : (c.2 == n) = true := this
      rw [beq_iff_eq.mp this]
  · obtain ⟨c, hc, rfl⟩ := List.mem_map.mp he
    rw [show (kcC c).1 = keyS c.1 from rfl, find_kc, h c hc]
    show (c.2 == c.2) = true
    exact beq_self_eq_true _
theorem cnt_key {sets : List SetT} {cs : CtT} (ok : CtOk sets cs) {s : StT} (h : s ∈ cs.map (·.1)) : 1 ≤ cntM cs s := by
  obtain ⟨c, hc, rfl⟩ := List.mem_map.mp h
  have := getC_of ok.nd (show (c.1, c.2) ∈ cs from hc)
  unfold cntM
  rw [this]
  exact ok.pos c hc
theorem cnt_no {cs : CtT} {s : StT} (h : s ∉ cs.map (·.1)) : cntM cs s = 0 := by
  unfold cntM
  cases e : getC cs s with
  | none => rfl
  | some n => exact absurd (List.mem_map.mpr ⟨_, getC_mem e, rfl⟩) h
theorem eqM_iff {sets : List SetT} {cs ds : CtT} (ok : CtOk sets cs) (od : CtOk sets ds) : eqM cs ds = true ↔ ∀ s, cntM cs s = cntM ds s := by
  rw [eqM_all]
  constructor
  · rintro ⟨hl, h⟩ s
    by_cases m : s ∈ cs.map (·.1)
    · obtain ⟨c, hc, rfl⟩ := List.mem_map.mp m
      unfold cntM
      rw [h c hc, getC_of ok.nd (show (c.1, c.2) ∈ cs from hc)]
    · rw [cnt_no m]
      refine (cnt_no fun m2 => ?_).symm
      have nd : (s :: cs.map (·.1)).Nodup := List.nodup_cons.mpr ⟨m, ok.nd⟩
      have sub : (s :: cs.map (·.1)) ⊆ ds.map (·.1) := by
        intro t ht
        rcases List.mem_cons.mp ht with rfl | ht
        · exact m2
        · obtain ⟨c, hc, rfl⟩ := List.mem_map.mp ht
          exact List.mem_map.mpr ⟨_, getC_mem (h c hc), rfl⟩
      have := nd.length_le_of_subset sub
      rw [List.length_cons, List.length_map, List.length_map] at this
      omega
  · intro h
    have er := rise_ext ok od h
    have p : cs.Perm ds := (riseM_perm cs).symm.trans (er ▸ riseM_perm ds)
    exact ⟨p.length_eq, fun c hc => getC_of od.nd (p.mem_iff.mp hc)⟩
theorem eqM_rise {sets : List SetT} {cs ds : CtT} (ok : CtOk sets cs) (od : CtOk sets ds) : eqM cs ds = decide (riseM cs = riseM ds) := by
  by_cases h : eqM cs ds = true
  · rw [h]
    exact (decide_eq_true (rise_ext ok od ((eqM_iff ok od).mp h))).symm
  · have h' : eqM cs ds = false := by simpa using h
    rw [h']
    refine (decide_eq_false fun z => h ((eqM_iff ok od).mpr fun s => ?_)).symm
    rw [← cnt_rise ok.nd, z, cnt_rise od.nd]
/-! ### taken -/
def takeC (cs : CtT) (s : StT) (m : Int) : CtT := if cntM cs s - m = 0 then cs.filter (fun c => decide (c.1 ≠ s)) else putC cs s (cntM cs s - m)
theorem drop_entC (cs : CtT) (s : StT) : dropK (cs.map entC) (keyS s) = (cs.filter (fun c => decide (c.1 ≠ s))).map entC := by
  unfold dropK
  rw [List.filter_map]
  congr 1
  refine List.filter_congr fun c _ => ?_
  show decide (keyS c.1 ≠ keyS s) = decide (c.1 ≠ s)
  exact decide_eq_decide.mpr ⟨fun z e => z (by rw [e]), fun z e => z (keyS_inj e)⟩
theorem cnt_filterN (cs : CtT) (s t : StT) : cntM (cs.filter fun c => decide (c.1 ≠ s)) t = if t = s then 0 else cntM cs t := by
  unfold cntM
  induction cs with
  | nil => by_cases e : t = s <;> simp [getC, e]
  | cons c r ih =>
    by_cases h : c.1 = s
    · rw [List.filter_cons_of_neg (by simpa using h), ih]
      by_cases e : t = s
      · rw [if_pos e, if_pos e]
      · rw [if_neg e, if_neg e]
        have : ¬ c.1 = t := fun z => e (by rw [← z, h])
        simp [getC, this]
    · rw [List.filter_cons_of_pos (by simpa using h)]
      by_cases e : c.1 = t
      · have ne : ¬ t = s := fun z => h (by rw [e, z])
        simp [getC, e, ne]
      · simp only [getC, if_neg e]
        exact ih
theorem cnt_take (cs : CtT) (s t : StT) (m : Int) : cntM (takeC cs s m) t = if t = s then cntM cs s - m else cntM cs t := by
  unfold takeC
  by_cases h : cntM cs s - m = 0
  · rw [if_pos h, cnt_filterN]
    by_cases e : t = s
    · rw [if_pos e, if_pos e, h]
    · rw [if_neg e, if_neg e]
  · rw [if_neg h, cnt_put]
theorem CtOk.filter' {sets : List SetT} {cs : CtT} (ok : CtOk sets cs) (f : StT × Int → Bool) : CtOk sets (cs.filter f) :=
  ⟨ok.nd.sublist ((List.filter_sublist (p := f)).map _), fun c hc => ok.pos c (List.mem_filter.mp hc).1, fun c hc => ok.st c (List.mem_filter.mp hc).1⟩
theorem CtOk.takeC {sets : List SetT} {cs : CtT} (ok : CtOk sets cs) {s : StT} (hs : StOk sets s) {m : Int} (h : m ≤ cntM cs s) : CtOk sets (takeC cs s m) := by
  unfold Hm.takeC
  by_cases e : cntM cs s - m = 0
  · rw [if_pos e]
    exact ok.filter' _
  · rw [if_neg e]
    exact ok.put hs (by omega)
/-! ### the methods -/
def spEqA (C : Addr) : Sp := fun vs H Q _ => ∃ (p b d p2 b2 d2 : Addr) (n n2 : Str) (cs cs2 : CtT) (sets : List SetT), vs = [.ref p, .ref p2] ∧ AlbAt C H p b n d cs ∧ AlbAt C H p2 b2 n2 d2 cs2 ∧ Book H b sets ∧ Book H b2 sets ∧ Q (.bl (eqM cs cs2)) H
def spTak (C : Addr) : Sp := fun vs H Q _ => ∃ (p a b d : Addr) (n : Str) (cs : CtT) (sets : List SetT) (s : StT) (m : Int), vs = [.ref p, .ref a, .int m] ∧ AlbAt C H p b n d cs ∧ Book H b sets ∧ StAt H a s ∧ StOk sets s ∧ 1 ≤ m ∧ m ≤ cntM cs s ∧ CtOk sets cs ∧
  ∀ H', Keep d H H' → AlbAt C H' p b n d (takeC cs s m) → Q .non H'
/-- what isinstance asks of the class -/
structure TxtIsi (K : PySem.W.Frag) (C : Addr) : Prop where
  ca : PySem.W.findIn K (.ref C) "__class__" = some (some (.builtin "object.__class__"))
  cn : PySem.W.specialIn K (.builtin "object.__class__") "__get__" = some (some (.builtin "getset_descriptor.__get__"))
  ct : PySem.W.takesIn K (.builtin "object.__class__") = some true
  cm : PySem.W.mroIn K C (.type "object") = some true
  ki : PySem.W.kitOne K (.ref C) (.ref C) = some true
section
variable {P : Program} {w : World} {K : PySem.W.Frag} {mg : Str → Option Value} {base : Heap}
theorem sc_eq : FnScope ["self", "other"] ["self", "other"] (defScope sEq) := ⟨rfl, rfl, rfl, by decide +kernel, rfl, by decide +kernel, by decide +kernel⟩
theorem ok_eq {f C : Addr} {fd : FuncData} (F : Fun K "__eq__" "Album.__eq__" sEq f fd) (T : TxtAlb K mg C) (hI : mg "isinstance" = none) (TI : TxtIsi K C) : FnOk P w K mg base CX0 1 f fd ["self", "other"] (spEqA C) := by
  refine F.ok sc_eq (fun vs H Q E h => ?_) (fun cdv A outer s H vs Q E hr h => ?_)
  · obtain ⟨p, b, d, p2, b2, d2, n, n2, cs, cs2, sets, rfl, _⟩ := h
    rfl
  · obtain ⟨p, b, d, p2, b2, d2, n, n2, cs, cs2, sets, rfl, ⟨⟨dx, hp⟩, hd⟩, ⟨⟨dx2, hp2⟩, hd2⟩, bk, bk2, q⟩ := h
    have hu := hu_of hr
    refine ⟨_, pss_one (ps_ret (pe_and (pe_callB call_isi (by rfl) hI boot_isinstance (pa_cons (pv 1) (pa_cons (pe_glob (v := .ref C) (by rfl) T.mgC rfl) pa_nil)))
      (pe_and (pe_cmpR (op_eqD hr.units) (pe_fld (pv 0) rfl) (pe_fld (pv 1) rfl) (nomark _))
      (pe_one (pe_cmpR (op_eqDi hr.units) (pe_fld (pv 0) rfl) (pe_fld (pv 1) rfl) (nomark _)))))), ?_⟩
    have okB := bk.1
    have lb := lay_book okB
    refine ⟨_, rfl, .ref p2, .ref C, .ref C, .ref C, true, rfl, .own C, .base (.ins hp2 T.cl TI.ca TI.cn TI.ct TI.cm), TI.ki, true, rfl, iteT ?_⟩
    refine ⟨_, rfl, p, C, dx, _, _, rfl, hp, T.cl, T.nB, albF_b b n d, _, rfl, p2, C, dx2, _, _, rfl, hp2, T.cl, T.nB, albF_b b2 n2 d2, bookD sets, bookD sets, dp_book bk, dp_book bk2, shaped_of lb (depth_book _) (by decide), shaped_of lb (depth_book _) (by decide), _, rfl, ?_⟩
    rw [SeqAt.eqv_refl _ lb]
    refine iteT ⟨_, rfl, p, C, dx, _, _, rfl, hp, T.cl, T.nM, albF_m b n d, _, rfl, p2, C, dx2, _, _, rfl, hp2, T.cl, T.nM, albF_m b2 n2 d2, d, d2, cs.map kcC, cs2.map kcC, rfl, rfl, ?_, ?_, q⟩
    · rw [List.map_map]
      exact hd
    · rw [List.map_map]
      exact hd2
theorem sc_tak : FnScope ["self", "stamp", "many", "left"] ["self", "stamp", "many"] (defScope sTak) := ⟨rfl, rfl, rfl, by decide +kernel, rfl, by decide +kernel, by decide +kernel⟩
abbrev FTak (K : PySem.W.Frag) (f : Addr) (fd : FuncData) : Prop := FunD K "take" "Album.take" (defArgs sTak) (defBody sTak) (defScope sTak) [.int 1] [] f fd
theorem ok_tak {f C fS fO : Addr} {fd fdS fdO : FuncData} (F : FTak K f fd) (T : TxtAlb K mg C) (mS : Meth K C "_check_some" fS) (mO : Meth K C "count_of" fO)
    (GS : FnOk P w K mg base CX0 7 fS fdS ["self", "stamp", "many"] (spChs C)) (bS : Binds K fdS ["self", "stamp", "many"] [])
    (GO : FnOk P w K mg base CX0 7 fO fdO ["self", "stamp"] (spCof C)) (bO : Binds K fdO ["self", "stamp"] []) : FnOk P w K mg base CX0 8 f fd ["self", "stamp", "many"] (spTak C) := by
  refine FunD.ok0 F sc_tak (fun vs H Q E h => ?_) (fun cdv A outer s H vs Q E hr h => ?_)
  · obtain ⟨p, a, b, d, n, cs, sets, st, m, rfl, _⟩ := h
    rfl
  · obtain ⟨p, a, b, d, n, cs, sets, st, m, rfl, al, bk, ha, so, hm, hle, ok, q⟩ := h
    have hu := hu_of hr
    obtain ⟨⟨dx, hp⟩, hd⟩ := id al
    refine ⟨_, pss_cons (ps_expr (pe_meth (pv 0) T.cl mS GS hr bS .nil pass0 (pa_cons (pv 1) (pa_cons (pv 2) pa_nil))))
      (pss_cons (ps_set (i := 3) sc_tak.nd rfl (Or.inl rfl) (pe_op op_sub (pe_meth (pv 0) T.cl mO GO hr bO .nil pass0 (pa_cons (pv 1) pa_nil)) (pv 2)))
      (pss_cons (ps_if (pt_cmpR op_lt (pv 3) pe_int (nomark _)) pss_never pss_nil)
      (pss_one (ps_if (pt_cmpR op_eq (pv 3) pe_int (nomark _)) (pss_one (ps_ddelT hu (pe_fld (pv 0) rfl) (pv 1))) (pss_one (ps_dput hu (pe_fld (pv 0) rfl) (pv 1) (pv 3) rfl)))))), ?_⟩
    refine ⟨_, rfl, p, dx, _, rfl, hp, albF_no b n d (by decide +kernel) (by decide +kernel) (by decide +kernel), _, rfl, _, rfl, p, a, b, d, n, cs, sets, st, m, rfl, al, bk, ha, so, hm, fun H1 s1 => ?_⟩
    try dsimp only
    refine seqset ⟨_, rfl, p, dx, _, rfl, s1 _ _ hp, albF_no b n d (by decide +kernel) (by decide +kernel) (by decide +kernel), _, rfl, p, a, b, d, n, cs, sets, st, rfl, al.same s1, bk.same s1, s1 _ _ ha, so, fun H2 s2 => ⟨_, rfl, _, _, rfl, rfl, ?_⟩⟩
    try dsimp only
    have s12 := s1.trans s2
    have hd2 := s12 _ _ hd
    have ln := ok.len bk.1
    have ha2 := s12 _ _ ha
    refine ⟨_, rfl, _, _, rfl, rfl, _, rfl, ite2 (fun z => ?_) (fun _ => ?_)⟩
    · have z' := of_decide_eq_true z
      omega
    try unfold tNext
    try dsimp only
    refine ⟨_, rfl, rfl, _, rfl, ite2 (fun z => ?_) (fun z => ?_)⟩
    · have z' : cntM cs st - m = 0 := by simpa using z
      have ev : (valV (cs.map entC) (keyS st)).isSome = true := by
        rw [valV_ent, isS_map]
        cases e : getC cs st with
        | some _ => rfl
        | none =>
          unfold cntM at hle
          rw [e] at hle
          have : m ≤ 0 := hle
          omega
      refine ⟨_, rfl, p, C, dx, _, _, rfl, s12 _ _ hp, T.cl, T.nM, albF_m b n d, _, rfl, d, a, _, keyS st, rfl, rfl, hd2, ha2, ev, ?_⟩
      refine q _ (fun c o hc e => by rw [upd_ne hc]; exact s12 _ _ e) ⟨⟨dx, by rw [upd_ne al.ne]; exact s12 _ _ hp⟩, ?_⟩
      rw [upd_same, drop_entC]
      unfold takeC
      rw [if_pos z']
    · have z' : ¬ cntM cs st - m = 0 := by simpa using z
      refine ⟨_, rfl, _, rfl, p, C, dx, _, _, rfl, s12 _ _ hp, T.cl, T.nM, albF_m b n d, _, rfl, d, _, rfl, DPut.t (k := keyS st) hd2 ha2 (by rw [List.length_map]; exact small1000 (by omega)), ?_⟩
      refine q _ (fun c o hc e => by rw [upd_ne hc]; exact s12 _ _ e) ⟨⟨dx, by rw [upd_ne al.ne]; exact s12 _ _ hp⟩, ?_⟩
      rw [upd_same, put_entC]
      unfold takeC
      rw [if_neg z']
end
end Hm

set_option Elab.async false
set_option maxRecDepth 100000
set_option maxHeartbeats 4000000
namespace Hm
open PySem L2 HmS
abbrev stFig : Stmt := topSt 3 -- row in_figures
/-- a number below 10^60 is told by its figures -/
def spFig : Sp := fun vs H Q _ => ∃ n : Int, vs = [.int n] ∧ 0 ≤ n ∧ n < 10 ^ 60 ∧ ∀ H', Same H H' → Q (.str (toString n)) H'
structure TxtFig (mg : Str → Option Value) : Prop where
  str : mg "str" = none
section
variable {P : Program} {w : World} {K : PySem.W.Frag} {mg : Str → Option Value} {base : Heap}
theorem sc_fig : FnScope ["number", "pieces", "left", "piece"] ["number"] (defScope stFig) := ⟨rfl, rfl, rfl, by decide +kernel, rfl, by decide +kernel, by decide +kernel⟩
theorem small_log {n : Int} (h0 : 0 ≤ n) (h1 : n < 10 ^ 60) : n.natAbs.log2 < 1920 := by
  have h : n.natAbs < 2 ^ 1920 := Nat.lt_of_lt_of_le (show n.natAbs < 10 ^ 60 by omega) (by decide +kernel)
  by_cases z : n.natAbs = 0
  · rw [z]; decide
  · exact (Nat.log2_lt z).mpr h
theorem ok_fig {f : Addr} {fd : FuncData} (F : Fun K "in_figures" "in_figures" stFig f fd) (T : TxtFig mg) :
    FnOk P w K mg base CX0 1 f fd ["number"] spFig := by
  refine F.ok sc_fig (fun vs H Q E h => ?_) (fun cdv A outer s H vs Q E hr h => ?_)
  · obtain ⟨n, rfl, _⟩ := h
    rfl
  · obtain ⟨n, rfl, h0, h1, q⟩ := h
    refine ⟨_, pss_cons (ps_set (i := 1) sc_fig.nd rfl (Or.inl rfl) (pe_lst pa_nil))
      (pss_cons (ps_set (i := 2) sc_fig.nd rfl (Or.inl rfl) (pv 0))
      (pss_cons (ps_while PassesOwn.never (pt_cmpR op_ge (pv 2) (pe_op op_pow pe_int pe_int) (nomark _)) pss_never)
      (pss_cons (ps_expr (pe_bm PySem.F.plainAttrs_list PySem.F.slot_list_append PySem.F.type_list_append mt_append (pv 1)
          (pa_cons (pe_callTy call_str_int (by rfl) T.str (by decide +kernel) (pa_cons (pv 2) pa_nil)) pa_nil)))
      (pss_one (ps_ret (pe_bm PySem.F.plainAttrs_str PySem.F.slot_str_join PySem.F.type_str_join mt_join pe_str (pa_cons (pe_revL (pv 1)) pa_nil))))))), ?_⟩
    refine ⟨by decide, fun l hl => ?_⟩
    refine ⟨_, rfl, ?_⟩
    refine ⟨fun _ σ H' => σ = [some (.int n), some (.ref l), some (.int n), none] ∧ H' = upd H l (.lst []), ⟨0, rfl, rfl⟩, ?_⟩
    rintro m σ H' ⟨rfl, rfl⟩
    refine ⟨_, rfl, _, _, rfl, rfl, ⟨by decide, by decide, by decide⟩, _, _, rfl, rfl, _, rfl, ?_⟩
    have c : decide ((10 : Int) ^ (60 : Int).toNat ≤ n) = false := decide_eq_false (Int.not_le.mpr h1)
    rw [c]
    refine iteF ?_
    refine ⟨_, rfl, .inl ⟨rfl, _, SqL.of upd_same⟩, _, rfl, _, rfl, small_log h0 h1, l, _, _, rfl, rfl, upd_same, by decide, ?_⟩
    refine ⟨rfl, _, rfl, l, _, rfl, SqL.of upd_same, fun p hp => ⟨_, p, [toString n], rfl, rfl, .inl (SqL.of upd_same), ?_, ?_⟩⟩
    · have z := PyProof.Rows.int_text_len_1921 (small_log h0 h1)
      show (PySem.Str.ofString (toString n)).length + 0 + 1 * (Str.ofString "").length ≤ 16777216
      have e2 : (Str.ofString "").length = 0 := by decide +kernel
      omega
    · refine q _ (fun b o e => ?_)
      have hb : b ≠ l := ne_of_none e hl
      have hbp : b ≠ p := fun z => by
        rw [← z, upd_ne hb, upd_ne hb, e] at hp
        cases hp
      rw [upd_ne hbp, upd_ne hb, upd_ne hb]
      exact e
end
end Hm

set_option Elab.async false
set_option maxRecDepth 100000
set_option maxHeartbeats 4000000
namespace Hm
open PySem L2 HmS
abbrev stShC : Stmt := topSt 18 -- row Short
abbrev stShort : Stmt := inClass stShC 0 -- meth Short __init__
def nfShort (cc cda : Addr) : NdefX.NF := ⟨"__init__", "Short.__init__", defArgs stShort, defBody stShort, defScope stShort, [("__class__", cc)], cda⟩
/-- Short.__init__(self, by): the field by is kept in the error's own new dict -/
def spShort (C : Addr) : Sp := fun vs H Q _ => ∃ (a : Addr) (n : Int), vs = [.ref a, .int n] ∧ H a = some (exo a C none) ∧ 0 ≤ n ∧ n < 10 ^ 60 ∧
  ∀ H' dx, (∀ b o, b ≠ a → H b = some o → H' b = some o) → H dx = none → H' a = some (exo a C (some dx)) → H' dx = some (exd dx [("by", .int n)]) → Q .non H'
structure TxtShort (P : Program) (K : PySem.W.Frag) (mg : Str → Option Value) (C fI cc cda fF : Addr) : Prop where
  oex : OexC K C
  fn : ∃ (oc : Value) (od : Option Addr) (kV doc pm : Value) (an : Option Addr) (ct : Value) (osl : Array (Option Value)),
    K.lookup fI = some ⟨oc, od, .func (PySem.W.fnX "__init__" "Short.__init__" (defArgs stShort) (defBody stShort) (defScope stShort) [("__class__", cc)] .none kV doc pm an (.ref cda) ct), osl⟩
  cd : PySem.W.codeIn K (.ref cda) "Short.__init__" = true
  code : ∃ ccl cdd vs ccs file tf, K.lookup cda = some ⟨ccl, cdd, .fields vs, ccs⟩ ∧ vs[2]? = some (.str file tf) ∧ ((P.main.file : Str) == file) = true
  cell : ∃ cl cld csl, K.lookup cc = some ⟨cl, cld, .cell (some (.ref C)), csl⟩
  htop : (P.main.scope.names.lookup ("super" : Str)).isSome = false
  sup : mg "super" = none
  opq : PySem.W.nsIn K PySem.cStatics "thirdparty.any" = some none
  via : PySem.W.ks_superIn K C C "__init__" = some (some (.builtin "ValueError.__init__"))
  sub : PySem.W.subIn K (.ref C) (.type "ValueError") = some true
  no : PySem.W.findIn K (.ref C) "by" = some none
  gF : mg "in_figures" = some (.ref fF)
  kF : PySem.W.keepIn K (.ref fF) = true
theorem sc_short : NdefX.NScope ["self", "by", "__class__"] ["self", "by"] ["__class__"] (defScope stShort) := NdefX.nscope_by (by decide +kernel)
section
variable {P : Program} {w : World} {K : PySem.W.Frag} {mg : Str → Option Value} {base : Heap}
theorem lk_one {x : Str} {c : Addr} : ([(x, c)] : List (Str × Addr)).lookup x = some c := by simp [List.lookup]
theorem mro_self {K : PySem.W.Frag} {C : Addr} {cd : ClassData} {bm : List Value} (hc : PySem.W.clsIn K C = some cd) (hm : cd.mro = .ref C :: bm) : PySem.W.mroIn K C (.ref C) = some true := by
  unfold PySem.W.mroIn
  rw [hc]
  show (if cd.mro.isEmpty = true then none else some (cd.mro.contains (.ref C))) = some true
  rw [hm]
  simp
theorem ok_short {C fI cc cda fF : Addr} {fdF fd : FuncData} {kV doc pm ct : Value} {an : Option Addr} (T : TxtShort P K mg C fI cc cda fF) (GF : FnOk P w K mg base CX0 1 fF fdF ["number"] spFig) (bF : Binds K fdF ["number"] [])
    (hfd : fd = PySem.W.fnX "__init__" "Short.__init__" (defArgs stShort) (defBody stShort) (defScope stShort) [("__class__", cc)] .none kV doc pm an (.ref cda) ct)
    (lk : ∃ oc od osl, K.lookup fI = some ⟨oc, od, .func fd, osl⟩) :
    FnOk P w K mg base CX0 2 fI fd ["self", "by"] (spShort C) := by
  subst hfd
  refine ⟨fun vs H Q E h => by obtain ⟨a, n, rfl, _⟩ := h; rfl, fun A outer s H args us vs Q E hr e0 hb r hsp => ?_⟩
  obtain ⟨a, n, rfl, ha, n0, n1, q⟩ := hsp
  have KX : K.In s.heap := e0.mod.kin.keeps fun b o e => (e0.bs b o e).1
  have lim : s.heap.NoLimit := e0.mod.nolimit.keeps fun b o e => (e0.bs b o e).1
  obtain ⟨oc, od, osl, lk⟩ := lk
  obtain ⟨cl, cld, csl, hcell⟩ := T.cell
  refine codeAny_call_function hr.depth (KX _ _ lk) rfl rfl rfl rfl (PySem.W.codeRec_of KX T.cd) (hb _ _ _ _ ?_)
  refine wpAny_newFunctionEnv sc_short.nocell (fun ⟨n, _⟩ hy => sc_short.par n (List.of_mem_zip hy).1) (fun h₁ hns hsb => ⟨lim.fresh _ hsb, ?_⟩) sc_short.kind
  show codeAny _ _ (.func (nfShort cc cda).body (NdefX.envF (nfShort cc cda) fI s.heap.objs.size)) _ _
  refine ks_codeAny_funcAt ?_
  have kp : ∀ b o, s.heap.get? b = some o → h₁.get? b = some o := fun b o e => hsb.extBut b o (Nat.ne_of_lt (Heap.lt_size e)) (Heap.get?_push_of_some _ e)
  have bcc := e0.bs cc _ (e0.mod.kin _ _ hcell)
  have one : ∀ y c, ([(("__class__" : Str), cc)] : List (Str × Addr)).lookup y = some c → c = cc ∧ y = "__class__" := fun y c e => by
    by_cases hy : y = ("__class__" : Str)
    · rw [hy, lk_one] at e
      exact ⟨(Option.some.inj e).symm, hy⟩
    · have b : (y == ("__class__" : Str)) = false := by simpa using hy
      simp [List.lookup, b] at e
  have C0 : NdefX.CellsAt (nfShort cc cda).cl ["__class__"] [some (.ref C)] s.heap H := by
    refine ⟨rfl, fun y c e => ?_, fun x y c e1 e2 => ?_, fun i y e => ?_⟩
    · obtain ⟨rfl, _⟩ := one y c e
      exact ⟨bcc.2, _, _, bcc.1, rfl⟩
    · rw [(one x c e1).2, (one y c e2).2]
    · cases i with
      | zero =>
        cases e
        refine ⟨cc, lk_one, fun v hv => ?_⟩
        cases hv
        exact ⟨_, rfl, _, bcc.1, rfl⟩
      | succ i => cases e
  obtain ⟨ccl, cdd, vv, ccs, file, tf, hcode, hvs, hfile⟩ := T.code
  obtain ⟨nm, qn, NN, bs, bm, sn, sub, ab, col, dd, k0, k1, k2, k3, k5, hC, hbm⟩ := T.oex.cls
  have hcl : PySem.W.clsIn K C = some { name := nm, bases := bs, mro := .ref C :: bm, ns := NN, qualname := qn, hasDict := true, slotNames := sn, subclasses := sub, abstract := ab, collection := col, hasDel := false } := by
    unfold PySem.W.clsIn
    rw [hC]
    all_goals rfl
  have hself : (fun x => List.lookup x ((["self", "by"] : List Str).zip us).reverse) "self" = some (.ref a) := by
    cases r with
    | cons r1 r2 =>
      cases r2 with
      | cons r2 r3 =>
        cases r3
        cases r1
        rfl
  have I0 : Inv (NdefX.ncx CX0 P w K mg base ["self", "by", "__class__"] (nfShort cc cda) fI A outer s H E) [] (NdefX.startF ["self", "by", "__class__"] [.ref a, .int n] [some (.ref C)]) H { s with heap := h₁, toks := s.toks + ((["self", "by"] : List Str).zip us).length } :=
    NdefX.inv_startN sc_short hr.hd e0 rfl r C0 hns kp
  have K1 : K.In h₁ := KX.keeps kp
  obtain ⟨t0, hx1⟩ := exo_at I0.hok ha
  refine ks_wpAt_execs_cons (ks_wpAt_Expr_any (ks_wpAt_MethodCall (ks_wpAt_super_base rfl rfl (by decide) rfl (K1 _ _ lk) rfl rfl rfl (K1 _ _ hcode) rfl hvs hfile T.htop ?_)))
  have mblt := e0.mod.blt
  obtain ⟨mb, b1, b2⟩ := mblt
  have bk1 : ∀ b o, base.get? b = some o → h₁.get? b = some o := fun b o e => kp b o (e0.bs b o e).1
  refine PySem.W.ks_loadName_global rfl rfl (Calls.loadGlobal_builtin (e0.mod.glob.keeps bk1) T.sup (b1.keeps bk1) ((b2 _ (by decide +kernel)).trans (by decide +kernel)) ⟨rfl, ?_⟩)
  refine wpAny_loadName_free rfl rfl rfl ⟨_, K1 _ _ hcell, rfl⟩ ?_
  refine wpAny_loadName_local rfl rfl hns hself ?_
  refine ks_wpAny_isType_cls (K1 _ _ hC) rfl ⟨rfl, ?_⟩
  refine ks_wpAny_call_super (K1 _ _ hC) rfl hx1 rfl (fun c e => by cases e) (PySem.W.looks_mroIn K1 (mro_self hcl rfl)) (fun h2 hso k2 => ?_)
  have hsz : h2.objs.size ≤ h2.objs.size := Nat.le_refl _
  have I1 : Inv (NdefX.ncx CX0 P w K mg base ["self", "by", "__class__"] (nfShort cc cda) fI A outer s H E) [] (NdefX.startF ["self", "by", "__class__"] [.ref a, .int n] [some (.ref C)]) H { s with heap := h2, toks := s.toks + ((["self", "by"] : List Str).zip us).length } := I0.kept (t' := s.toks + ((["self", "by"] : List Str).zip us).length) k2
  have K2 : K.In h2 := K1.keeps k2
  have hx2 := k2 _ _ hx1
  have hIC : PySem.W.InstAt h2 a { cls := .ref C, dict := none, data := .fields #[.ref t0, .none, .none, .none, .bool false, .none] } C none := ⟨hx2, rfl, rfl, trivial⟩
  have hvia := T.via
  unfold PySem.W.ks_superIn at hvia
  rw [hcl] at hvia
  refine PySem.W.kxs_getMethod PySem.W.kxs_ValueError (l₀ := .ref C :: bm) hso (PySem.W.looks_opaque K2 T.opq) (fun A Q E s k q => wpAny_bind ((PySem.W.looks_clsIn K2 hcl) A _ E s k (wpAny_pure q))) rfl K2 hvia (hIC.type.andThen (PySem.W.looks_subIn K2 T.sub)) (PySem.W.ks_ne K2 hIC hcl) (by decide) ?_
  have k3 : ∀ b o, h2.get? b = some o → (h2.push (PySem.W.kxs_mw "ValueError.__init__" a)).get? b = some o := fun b o e => Heap.get?_push_of_some _ e
  have hu : (h2.push (PySem.W.kxs_mw "ValueError.__init__" a)).get? h2.objs.size = some (PySem.W.kxs_mw "ValueError.__init__" a) := Heap.get?_push_at rfl rfl
  have I2 := (I1.kept (t' := s.toks + ((["self", "by"] : List Str).zip us).length + 1) k3).pinned (fp := [h2.objs.size]) (fun b hb => by
      obtain rfl := List.mem_singleton.mp hb
      exact I1.fpOk (Nat.le_refl _) (I1.hok.fresh (Nat.le_refl _))) (fun b hb => by
      obtain rfl := List.mem_singleton.mp hb
      exact ⟨_, hu, fun v e => by cases e⟩)
  have hr1 : Room 1 (A.deeper (NdefX.envF (nfShort cc cda) fI s.heap.objs.size)) := hr.deeper _
  refine PySem.W.kxs_callWith1 (h₀ := h2) (L := h2.objs.size + 1) (i := "ValueError.__init__") (x := a) (news := [(h2.objs.size, PySem.W.kxs_mw "ValueError.__init__" a)]) (fun p hp => by
      obtain rfl := List.mem_singleton.mp hp
      refine ⟨hu, Nat.ne_of_lt (Nat.lt_succ_self _), ?_⟩
      exact Heap.get?_none_of_le (Nat.le_refl _)) (List.mem_singleton.mpr rfl) ?_
  refine wpAny_mono ((pa_cons (X := NdefX.ncx CX0 P w K mg base ["self", "by", "__class__"] (nfShort cc cda) fI A outer s H E) (pe_joined (PJ.cons pe_str (PJ.cons (pe_fmt (pe_call GF hr1 (by rfl) T.gF T.kF bF .nil pass0 (pa_cons (pv 1) pa_nil))) .nil))) pa_nil).run _ _ _ _ _ (fun vs H1 => (∃ y, vs = [V.str y]) ∧ Same H H1) I2 ?rd) (fun us1 s1 hq => ?_) (fun _ _ z => z)
  case rd =>
    refine ⟨_, rfl, by decide, ?_⟩
    refine ⟨_, rfl, n, rfl, n0, n1, fun H' sm => .inl ⟨_, rfl, ?_, _, rfl, ?_, ⟨_, rfl⟩, sm⟩⟩
    · exact int_text_fits (small_log n0 n1)
    · have z := PyProof.Rows.int_text_len_1921 (small_log n0 n1)
      have e9 : (Str.empty ++ Str.ofString "short by ").cps.size = 9 := by decide +kernel
      show ((Str.empty ++ Str.ofString "short by ").cps ++ (Str.ofString (toString n)).cps).size ≤ sizeLine
      rw [Array.size_append, e9, sizeLine_eq]
      have z2 : (Str.ofString (toString n)).cps.size ≤ 1921 := z
      omega
  obtain ⟨vs, H1, I3, rv, ⟨y, rfl⟩, sm⟩ := hq
  have hu3 : s1.heap.get? h2.objs.size = some (PySem.W.kxs_mw "ValueError.__init__" a) := (I3.pin (h2.objs.size, PySem.W.kxs_mw "ValueError.__init__" a) (List.mem_append_right _ (List.mem_append_right _ (mem_pinsAt (List.mem_singleton.mpr rfl) hu)))).1
  refine ⟨hu3, ?_⟩
  have e1 : H1 a = some (exo a C none) := sm _ _ ha
  obtain ⟨t1, ho⟩ := exo_at I3.hok e1
  have I4 := I3.unpinned
  have K3 : K.In s1.heap := I3.kIn
  obtain ⟨hp, g, d, t, os⟩ := s1
  have hl : us1.length ≤ sizeLine := by
    rw [← Paired.length rv, sizeLine_eq]
    exact (by decide : 1 ≤ 16777216)
  refine wpAny_call (codeAny_of_tree ?_)
  show wpAny (model P w) (A.deeper (NdefX.envF (nfShort cc cda) fI s.heap.objs.size)).in1 (callAny (.ref h2.objs.size) ⟨us1, []⟩) _ _ _
  simp only [callAny]
  refine wpAny_bind (wpAny_load hu3 ?_)
  have mw1 : (Value.type "method-wrapper" == Value.type "method" || Value.type "method-wrapper" == Value.type "builtin_function_or_method" ||
      Value.type "method-wrapper" == Value.type "method-wrapper") = true := by decide
  simp only [PySem.W.kxs_mw, mw1, if_true]
  refine PySem.W.KFB.if_so (by decide) ?_
  refine wpAny_bind (PySem.W.check_bound_init PySem.F.excBase_ValueError.toExcCallFacts (K3 _ _ hC) ho rfl ?_)
  refine wpAny_bind (wpAny_pure (wpAny_pure ?_))
  refine ⟨Code.quiet_builtin _ (by decide +kernel), codeAny_builtin PySem.F.excBase_ValueError.initEntry ?_⟩
  refine PySem.W.exc_init_tree (cls := .ref C) (t0 := t1) (dv := none) (c2 := .none) (c3 := .none) (b4 := .bool false) ho hl (fun h5 k5 hx5 _ => ?_)
  have J := I4.write (t' := t) (x := a) (e := a) (o := exo a C none) (by rw [e1]; exact True.intro) (.inl rfl) k5 ⟨_, hx5⟩ (exo_ok hx5)
  have eu : upd H1 a (exo a C none) = H1 := by
    funext b
    by_cases hb : b = a
    · rw [hb, upd_same, e1]
    · exact upd_ne hb
  rw [eu] at J
  refine wpAt_of_wpAny (wpAny_mono ((pss_one (ps_ost (X := NdefX.ncx CX0 P w K mg base ["self", "by", "__class__"] (nfShort cc cda) fI A outer s H E) (pv 0) (pv 1))).run [] _ _ _ { nx := fun _ H' => Q .non H', rt := Q } J ?rd2) (fun fl s2 hs => ?_) (fun _ _ z => z))
  case rd2 =>
    refine ⟨_, rfl, _, rfl, a, C, rfl, T.oex, T.no, .inl ⟨e1, fun dx hdx hda => ?_⟩⟩
    refine q _ dx (fun b o hb e => ?_) (sm.free hdx) upd_same (by rw [upd_ne hda]; exact upd_same)
    have e2 := sm _ _ e
    rw [upd_ne hb, upd_ne (ne_of_none e2 hdx)]
    exact e2
  have fin : ∀ {σ' : St} {H' : Hp} {v : V} {u : Value}, Inv (NdefX.ncx CX0 P w K mg base ["self", "by", "__class__"] (nfShort cc cda) fI A outer s H E) [] σ' H' s2 → RelV v u → Q v H' → CE outer P w H s Q u s2 :=
    fun {σ' H' v u} J rv q => ⟨v, H', J.os, J.bare, J.base, J.hok, rv, q⟩
  cases fl with
  | ret u =>
    obtain ⟨v, σ', H', J, rv, q⟩ := hs
    exact fin J rv q
  | next =>
    obtain ⟨σ', H', J, q⟩ := hs
    exact fin (v := V.non) (u := Value.none) J rfl q
  | brk =>
    obtain ⟨_, _, _, q⟩ := hs
    exact False.elim q
  | cont =>
    obtain ⟨_, _, _, q⟩ := hs
    exact False.elim q
end
end Hm

set_option Elab.async false
set_option maxRecDepth 100000
set_option maxHeartbeats 4000000
namespace HmT
open PySem PyProof.Rows L2
def p0 : Pos := ⟨0, 0, 0, 0⟩
/-- a suite on which no run goes on -/
def stuck : List Stmt := [.Return (some (.BoolOp .And [] p0)) p0]
theorem some_field {M : Model} {Γ : PySem.Ctx} {e : Value} {n : Nat} {R : Value → Pos → Shared → Prop} {E : Value → Pos → Shared → Prop} {p : Pos} {s : Shared} (h : Sem.wp M Γ (field e n) R E p s) : ∃ v p' s', R v p' s' := by
  unfold field fieldsOf at h
  rw [Sem.wp_bind'] at h
  cases e with
  | ref a =>
    dsimp only at h
    rw [Sem.wp_bind'] at h
    obtain ⟨o, ho, h⟩ := (show ∃ o, s.heap.get? a = some o ∧ _ from h)
    rw [Sem.wp_pure] at h
    cases hd : o.data with
    | fields vs =>
      rw [hd] at h
      dsimp only at h
      rw [Sem.wp_pure'] at h
      cases hx : vs[n]? with
      | some x =>
        rw [hx] at h
        dsimp only at h
        rw [Sem.wp_pure'] at h
        exact ⟨_, _, _, h⟩
      | none =>
        rw [hx] at h
        exact h.elim
    | _ =>
      rw [hd] at h
      exact h.elim
  | _ => exact h.elim
theorem no_flight {M : Model} {Γ : PySem.Ctx} {e : Value} {E : Value → Pos → Shared → Prop} {p : Pos} {s : Shared} (h : Sem.wp M Γ (setFlight e none) (fun _ _ _ => False) E p s) : False := by
  unfold setFlight at h
  rw [Sem.wp_bind'] at h
  obtain ⟨v, p', s', h⟩ := some_field h
  by_cases c : (v != Value.none) = true
  · rw [if_pos c] at h
    unfold setField updateField at h
    cases v with
    | ref a =>
      dsimp only at h
      rw [Sem.wp_bind'] at h
      obtain ⟨o, ho, h⟩ := (show ∃ o, s'.heap.get? a = some o ∧ _ from h)
      rw [Sem.wp_pure] at h
      cases hd : o.data with
      | fields vs =>
        rw [hd] at h
        dsimp only at h
        by_cases c3 : 3 < vs.size
        · rw [if_pos c3] at h
          exact (show _ ∧ False from h).2
        · rw [if_neg c3] at h
          exact h
      | _ =>
        rw [hd] at h
        exact h
    | _ => exact h
  · rw [if_neg c] at h
    exact h
theorem no_stuck {M : Model} {Γ : PySem.Ctx} {env : Env} {Q : Flow → Pos → Shared → Prop} {E : Value → Pos → Shared → Prop} {p : Pos} {s : Shared} (h : Sem.wp M Γ (execs stuck env) Q E p s) : False := by
  unfold stuck execs at h
  rw [Sem.wp_bind'] at h
  unfold exec at h
  exact h
theorem no_suite {prog : Program} {w : World} {Γ : PySem.Ctx} {e : Value} {env : Env} {pos : Pos} {R : Result → Shared → Prop} {p : Pos} {s : Shared} (hc : Γ.code = .handlers e [.ExceptHandler none none stuck pos] env) (h : wpCode (model prog w) Γ R p s) : False := by
  rw [wpCode_iff_wp, hc] at h
  have h2 : Sem.wp (model prog w) Γ (do return Fin.done (← (handleWith e env [.ExceptHandler none none stuck pos]).onRaise (fun x => do noteFrame x env; theTreesLotGoes x))) (Sem.finPost (model prog w) Γ R) (fun e _ s' => R (.error e) s') p s := h
  rw [Sem.wp_bind', Sem.wp_onRaise] at h2
  unfold handleWith at h2
  rw [Sem.wp_bind'] at h2
  have h3 := (show Sem.wp (model prog w) Γ (do setFlight e none; execs stuck env) _ _ _ _ from h2)
  rw [Sem.wp_bind'] at h3
  exact no_flight (Sem.wp_mono (model prog w) Γ _ (fun _ _ _ z => no_stuck z) (fun _ _ _ z => z) _ _ h3)
/-- a first clause that is not hit: by a run of the same statement with a stuck suite -/
theorem skip_handler {prog : Program} {w : World} {Γ : PySem.Ctx} {e : Value} {env : Env} {t : Expr} {name : Option Str} {body : List Stmt} {pos : Pos} {rest : List ExceptHandler} {Q : Flow → Pos → Shared → Prop} {E : Value → Pos → Shared → Prop} {p : Pos} {s : Shared}
    (h : Sem.wp (model prog w) Γ (handleBy e env (.ExceptHandler (some t) none stuck pos :: rest)) Q E p s) : Sem.wp (model prog w) Γ (handleBy e env (.ExceptHandler (some t) name body pos :: rest)) Q E p s := by
  unfold handleBy at h ⊢
  rw [Sem.wp_bind'] at h ⊢
  refine Sem.wp_mono (model prog w) Γ _ (fun hit p' s' z => ?_) (fun _ _ _ z => z) _ _ h
  cases hit with
  | next => exact z
  | cont => exact z
  | ret v => exact z
  | brk =>
    exfalso
    have z1 : Sem.wp (model prog w) Γ ((holding [e] (runOwn (.handlers e [.ExceptHandler none none stuck pos] env) env (some e))).bind fun f => Sem.pure f) Q E p' s' := z
    rw [Sem.wp_bind, Sem.wp_holding] at z1
    unfold runOwn at z1
    rw [Sem.wp_onRaise, Sem.wp_run] at z1
    exact no_suite rfl z1
theorem skip_try {prog : Program} {w : World} {A : Around} {env : Env} {sb : List Stmt} {t : Expr} {name : Option Str} {body : List Stmt} {pos pos' : Pos} {rest : List ExceptHandler} {Q : Flow → Shared → Prop} {E : Value → Shared → Prop} {s : Shared}
    (h : wpAny (model prog w) A (exec (.Try sb (.ExceptHandler (some t) none stuck pos :: rest) [] [] pos') env) Q E s) : wpAny (model prog w) A (exec (.Try sb (.ExceptHandler (some t) name body pos :: rest) [] [] pos') env) Q E s := by
  intro Γ p hΓ
  have h1 := h Γ p hΓ
  rw [arm_exec_Try, Sem.wp_bind'] at h1 ⊢
  refine Sem.wp_mono (model prog w) Γ _ (fun _ p' s' z => ?_) (fun _ _ _ z => z) _ _ h1
  have e1 : ∀ hd : ExceptHandler, tryStmt false (execs sb env) (hd :: rest) (execs [] env) [] env = (do
      match ← (execs sb env).attempt with
      | .ok .next => execs [] env
      | .ok f => pure f
      | .error e => do noteFrame e env; setFlight e none; handleBy e env (hd :: rest)) := fun hd => rfl
  rw [e1] at z ⊢
  rw [Sem.wp_bind', Sem.wp_attempt] at z ⊢
  refine Sem.wp_mono (model prog w) Γ _ (fun a _ _ z => by cases a <;> exact z) (fun e p2 s2 z => ?_) _ _ z
  have z1 : Sem.wp (model prog w) Γ (do noteFrame e env; setFlight e none; handleBy e env (.ExceptHandler (some t) none stuck pos :: rest)) (fun a _ s' => Q a s') (fun e _ s' => E e s') p2 s2 := z
  show Sem.wp (model prog w) Γ (do noteFrame e env; setFlight e none; handleBy e env (.ExceptHandler (some t) name body pos :: rest)) (fun a _ s' => Q a s') (fun e _ s' => E e s') p2 s2
  rw [Sem.wp_bind'] at z1 ⊢
  refine Sem.wp_mono (model prog w) Γ _ (fun _ p3 s3 z => ?_) (fun _ _ _ z => z) _ _ z1
  rw [Sem.wp_bind'] at z ⊢
  exact Sem.wp_mono (model prog w) Γ _ (fun _ p4 s4 z => skip_handler z) (fun _ _ _ z => z) _ _ z
theorem ps_skip {X : Cx} {sb : List Stmt} {t : Expr} {name : Option Str} {body : List Stmt} {pos pos' : Pos} {rest : List ExceptHandler} {tt : TS} (h : PS X (.Try sb (.ExceptHandler (some t) none stuck pos :: rest) [] [] pos') tt) :
    PS X (.Try sb (.ExceptHandler (some t) name body pos :: rest) [] [] pos') tt := ⟨fun pins s σ H D I q => skip_try (h.run pins s σ H D I q)⟩
end HmT

set_option Elab.async false
set_option maxRecDepth 100000
set_option maxHeartbeats 4000000
namespace HmT
open PySem PySem.Spec PyProof.Rows L2
/-- what a first clause `except x as n` asks, where it is always the one that is hit -/
def wHit (K : PySem.W.Frag) (m : Nat) (c : Value) (i : Nat) (ts : Addr → Value → Option Addr → TS) (D : Ends) : WX := fun cls d σ H =>
  PySem.W.exmOne K cls c = some true ∧ (σ.length = m → ∀ a, H a = none → ts a cls d { nx := fun τ G => D.nx (τ.set i none) G, rt := D.rt, bk := fun τ G => D.bk (τ.set i none) G, ct := fun τ G => D.ct (τ.set i none) G } (σ.set i (some (.ref a))) H)
section
variable {X : Cx} {x n : Str} {c : Value} {i : Nat} {body suite : List Stmt} {b₀ : Stmt} {np pos pos' : Pos} {rest : List ExceptHandler} {tb : WX → TS} {ts : Addr → Value → Option Addr → TS}
theorem ps_try_hit (stk : X.stack = X.env :: X.outer) (frm : X.env.frame = some X.env.locals) (nd : X.N.Nodup) (at_ : X.N[i]? = some n) (loc : X.env.kindOf n = some .local) (nam : Names X x c)
    (run : ∀ (W : WX) (pn : List (Addr × Obj)) (xe : Value → Shared → Prop), Takes (X.tr pn xe) W → PassesOwn (model X.prog X.w) X.A X.env xe → PSs (X.tr pn xe) body (tb W))
    (sui : ∀ (a : Addr) (oe : Obj) (cls : Value) (d : Option Addr) (pn : List (Addr × Obj)), Zc cls d oe → (∃ vs, oe.data = .fields vs) → PSs (X.suite a ((a, oe) :: pn)) (b₀ :: suite) (ts a cls d)) :
    PS X (.Try body (.ExceptHandler (some (.Name x np)) (some n) (b₀ :: suite) pos' :: rest) [] [] pos) (fun D σ H => tb (wHit X.K X.N.length c i ts D) D σ H) := by
  refine ⟨fun pins s σ H D I h => ?_⟩
  have ok := I.ok
  have fr0 : X.A.frames = some (X.env :: X.outer) := by rw [ok.frames, stk]
  refine wpAny_Try_except ?_
  have got := (run (wHit X.K X.N.length c i ts D) (X.pn ++ pins) (fun e s₁ => wpAny (model X.prog X.w) X.A (noteFrame e X.env) (fun _ s₂ => wpAny (model X.prog X.w) X.A (setFlight e none) (fun _ s₃ =>
    wpAny (model X.prog X.w) X.A (handleBy e X.env (.ExceptHandler (some (.Name x np)) (some n) (b₀ :: suite) pos' :: rest)) (SP X pins D) X.xe s₃) X.xe s₂) X.xe s₁) (fun u s' xx => ?_) PassesOwn.looking).run [] s σ H D (I.toTry _) h
  · refine wpAny_mono got (fun f s1 hsp => ?_) (fun e s1 he => he)
    cases f with
    | next =>
      obtain ⟨σ', H', J', q⟩ := hsp
      exact wpAny_execs_nil ⟨σ', H', J'.ofTry ok, q⟩
    | ret u =>
      obtain ⟨v, σ', H', J', r, q⟩ := hsp
      exact ⟨v, σ', H', J'.ofTry ok, r, q⟩
    | brk =>
      obtain ⟨σ', H', J', q⟩ := hsp
      exact ⟨σ', H', J'.ofTry ok, q⟩
    | cont =>
      obtain ⟨σ', H', J', q⟩ := hsp
      exact ⟨σ', H', J'.ofTry ok, q⟩
  · obtain ⟨a, B, sI, pins', σ', H', cls, d, rfl, J', nb, up, sky, na, os, ag, hit, yes⟩ := xx
    have J : Inv X pins σ' H' sI := J'.ofTry ok
    have sk : Sky B (X.env :: X.outer) a (Zc cls d) X.env.locals s'.heap := by rw [← stk]; exact sky
    show wpAny (model X.prog X.w) X.A (noteFrame (.ref a) X.env) _ _ _
    refine Sky.land Zc.steady fr0 frm sk fun h3 fl3 up3 => ?_
    have J3 : Inv X pins σ' H' { s' with heap := h3 } := J.landed nb fl3.1 (up.trans up3) os ag
    obtain ⟨o3, v3, he3, hz3, hd3⟩ := fl3.there
    have nfr : a ∉ frs (X.env :: X.outer) := fun hm => by
      obtain ⟨_, o', e', hnf⟩ := fl3.2.2.1.mem hm
      rw [he3] at e'
      cases e'
      exact hnf _ hd3
    have nL : a ≠ X.env.locals := fun z => nfr (List.mem_filterMap.mpr ⟨X.env, List.mem_cons_self, by rw [frm, z]⟩)
    have nF : a ∉ X.fs := fun hm => by
      obtain ⟨e, he, q⟩ := List.mem_filterMap.mp hm
      exact nfr (List.mem_filterMap.mpr ⟨e, List.mem_cons_of_mem _ he, q⟩)
    have S3 := J3.suite he3 hd3 na nL nF
    refine wpAny_handleBy_cons (codeAny_handlers_test ?_) (by intro q; cases q)
    have LM := PySem.W.exm_one (M := model X.prog X.w) J3.kIn (fun A Q E s k q => wpAny_typeOf_ref (k _ _ he3) (by rw [hz3.1]; exact q)) hit
    have tst : ∀ {Q : Value → Shared → Prop} {E : Value → Shared → Prop}, Q c { s' with heap := h3 } → wpAny (model X.prog X.w) (X.A.mark (some (.ref a))) (eval (.Name x np) X.env) Q E { s' with heap := h3 } := fun {Q E} q => by
      obtain ⟨hg, hdbg, hm | ⟨hm, hv, hnn⟩⟩ := nam
      · exact ld_glob (X := X.suite a ((a, o3) :: (X.pn ++ pins))) S3 hg hm q hdbg
      · exact ld_blt (X := X.suite a ((a, o3) :: (X.pn ++ pins))) S3 hg hm hv q hnn hdbg
    refine tst (LM.here (codeAny_handlers_suite_as ?_))
    refine HandSPX.lands_againZ fl3 fun h4 fl4 up4 => ?_
    have J4 : Inv X pins σ' H' { s' with heap := h4 } := J.landed nb fl4.1 ((up.trans up3).trans up4) os ag
    obtain ⟨o4, v4, he4, hz4, hd4⟩ := fl4.there
    have S4 := J4.suite he4 hd4 na nL nF
    refine store_ok (X := X.suite a ((a, o4) :: (X.pn ++ pins))) (v := .ref a) S4 nd at_ (.inl loc) rfl (fun s5 S5 => ?_) (.inr loc)
    refine wpAny_mono ((sui a o4 cls d (X.pn ++ pins) hz4 ⟨_, hd4⟩).run [] s5 _ H' _ S5 (yes J4.len a na)) (fun f s6 hsp => ?_) (fun _ _ z => False.elim z)
    have fin : ∀ {τ : L2.St} {G : Hp} {Q : Shared → Prop}, Inv (X.suite a ((a, o4) :: (X.pn ++ pins))) [] τ G s6 → (∀ s7, Inv X pins (τ.set i none) G s7 → Q s7) →
        wpAny (model X.prog X.w) X.A (do bindName X.env n .none; unbindBehindTheSuite X.env n pos') (fun _ s7 => Q s7) X.xe s6 := fun {τ G Q} S6 hq => gone_ok (S6.unsuite ok) nd at_ loc hq
    cases f with
    | ret u =>
      obtain ⟨v6, τ, G, S6, r6, q6⟩ := hsp
      exact fin S6 fun s7 J7 => ⟨_, _, _, J7, r6, q6⟩
    | next =>
      obtain ⟨τ, G, S6, q6⟩ := hsp
      exact fin S6 fun s7 J7 => ⟨_, _, J7, q6⟩
    | brk =>
      obtain ⟨τ, G, S6, q6⟩ := hsp
      exact fin S6 fun s7 J7 => ⟨_, _, J7, q6⟩
    | cont =>
      obtain ⟨τ, G, S6, q6⟩ := hsp
      exact fin S6 fun s7 J7 => ⟨_, _, J7, q6⟩
end
end HmT

set_option Elab.async false
set_option maxRecDepth 100000
set_option maxHeartbeats 4000000
namespace Hm
open PySem PySem.Spec PyProof.Rows L2 HmS HmQ HmT
/-- take of more than are there -/
def spTakR (C CS : Addr) : Sp := fun vs H _ E => ∃ (p a b d : Addr) (n : Str) (cs : CtT) (sets : List SetT) (s : StT) (m : Int), vs = [.ref p, .ref a, .int m] ∧ AlbAt C H p b n d cs ∧ Book H b sets ∧ StAt H a s ∧ StOk sets s ∧ 1 ≤ m ∧ cntM cs s < m ∧ m - cntM cs s < 10 ^ 60 ∧
  ∀ H' dx, Same H H' → H dx = none → H' dx = some (.xd [("by", .int (m - cntM cs s))]) → E (.ref CS) (some dx) H'
structure TxtSh (K : PySem.W.Frag) (mg : Str → Option Value) (CS fI : Addr) : Prop where
  oex : OexC K CS
  iC : PySem.W.findIn K (.ref CS) "__init__" = some (some (.ref fI))
  tI : PySem.W.typeIn K (.ref fI) = some (.type "function")
  g : mg "Short" = some (.ref CS)
theorem none_back {H H' : Hp} (s : Same H H') {a : Addr} (h : H' a = none) : H a = none := by
  cases e : H a with
  | none => rfl
  | some o =>
    rw [s _ _ e] at h
    cases h
section
variable {P : Program} {w : World} {K : PySem.W.Frag} {mg : Str → Option Value} {base : Heap}
theorem ok_takR {f C CS fS fO fI : Addr} {fd fdS fdO fdI : FuncData} (F : FTak K f fd) (T : TxtAlb K mg C) (TS : TxtSh K mg CS fI) (mS : Meth K C "_check_some" fS) (mO : Meth K C "count_of" fO)
    (GS : FnOk P w K mg base CX0 7 fS fdS ["self", "stamp", "many"] (spChs C)) (bS : Binds K fdS ["self", "stamp", "many"] [])
    (GO : FnOk P w K mg base CX0 7 fO fdO ["self", "stamp"] (spCof C)) (bO : Binds K fdO ["self", "stamp"] [])
    (GI : FnOk P w K mg base CX0 2 fI fdI ["self", "by"] (spShort CS)) (bI : Binds K fdI ["self", "by"] []) : FnOk P w K mg base (L2.CX P w) 8 f fd ["self", "stamp", "many"] (spTakR C CS) := by
  refine FunD.ok (CX := L2.CX P w) F sc_tak (fun vs H Q E h => ?_) (fun cdv A outer s H vs Q E hr h => ?_)
  · obtain ⟨p, a, b, d, n, cs, sets, st, m, rfl, _⟩ := h
    rfl
  · obtain ⟨p, a, b, d, n, cs, sets, st, m, rfl, al, bk, ha, so, hm, hlt, hbig, q⟩ := h
    have hu := hu_of hr
    have h3 : Room 3 _ := hr.mono (by decide)
    obtain ⟨⟨dx, hp⟩, hd⟩ := id al
    refine ⟨_, pss_cons (ps_expr (pe_meth (pv 0) T.cl mS GS hr bS .nil pass0 (pa_cons (pv 1) (pa_cons (pv 2) pa_nil))))
      (pss_cons (ps_set (i := 3) sc_tak.nd rfl (Or.inl rfl) (pe_op op_sub (pe_meth (pv 0) T.cl mO GO hr bO .nil pass0 (pa_cons (pv 1) pa_nil)) (pv 2)))
      (pss_cons (ps_if (pt_cmpR op_lt (pv 3) pe_int (nomark _)) (pss_one (ps_raise rfl (takes_of rfl rfl rfl rfl) (pmk_oex TS.oex TS.iC TS.tI GI h3 bI .nil (fun _ _ _ _ _ _ _ h => h.elim) (by rfl) TS.g (pa_cons (pe_un un_neg (pv 3)) pa_nil)))) pss_nil)
      pss_never)), ?_⟩
    refine ⟨_, rfl, p, dx, _, rfl, hp, albF_no b n d (by decide +kernel) (by decide +kernel) (by decide +kernel), _, rfl, _, rfl, p, a, b, d, n, cs, sets, st, m, rfl, al, bk, ha, so, hm, fun H1 s1 => ?_⟩
    try dsimp only
    refine seqset ⟨_, rfl, p, dx, _, rfl, s1 _ _ hp, albF_no b n d (by decide +kernel) (by decide +kernel) (by decide +kernel), _, rfl, p, a, b, d, n, cs, sets, st, rfl, al.same s1, bk.same s1, s1 _ _ ha, so, fun H2 s2 => ⟨_, rfl, _, _, rfl, rfl, ?_⟩⟩
    try dsimp only
    have s12 := s1.trans s2
    refine ⟨_, rfl, _, _, rfl, rfl, _, rfl, ite2 (fun _ => ?_) (fun z => ?_)⟩
    · refine ⟨_, rfl, _, rfl, by show 1 ≤ 1000; decide, fun ea hea => ⟨ea, -(cntM cs st - m), rfl, upd_same, by omega, by omega, fun H3 dd k3 hdd e1 e2 => ⟨rfl, dd, _, e1, e2, ?_, ?_⟩⟩⟩
      · have ne : dd ≠ ea := fun z => by
          rw [z, upd_same] at hdd
          cases hdd
        rw [upd_ne ne] at hdd
        exact hdd
      · have ne : dd ≠ ea := fun z => by
          rw [z, upd_same] at hdd
          cases hdd
        rw [upd_ne ne] at hdd
        refine q _ dd (fun c o e => ?_) (none_back s12 hdd) ?_
        · have n1 : c ≠ ea := ne_of_none (s12 _ _ e) hea
          have n2 : c ≠ dd := ne_of_none (s12 _ _ e) hdd
          rw [upd_ne n2, del_ne n1]
          exact k3 _ _ n1 (by rw [upd_ne n1]; exact s12 _ _ e)
        · rw [upd_same, show -(cntM cs st - m) = m - cntM cs st by omega]
    · exact absurd (decide_eq_true (by omega)) z
end
end Hm

set_option Elab.async false
set_option maxRecDepth 100000
set_option maxHeartbeats 4000000
namespace Hm
open PySem PySem.Spec PyProof.Rows L2 HmS HmQ HmT
abbrev stWrd : Stmt := topSt 52 -- row _law_word
structure TxtWrd (K : PySem.W.Frag) (mg : Str → Option Value) (CS : Addr) : Prop where
  g : mg "Short" = some (.ref CS)
  e : PySem.W.exmOne K (.ref CS) (.ref CS) = some true
  xf : XfC K CS
  no : PySem.W.findIn K (.ref CS) "by" = some none
/-- what comes out, where the call raises a Short or nothing -/
def TTs (CS : Addr) : (XK → Hp → VK → Prop) → Hp → VK → Prop := fun tl H Q => tl (fun cls d H' => cls = .ref CS ∧ ∃ (dd : Addr) (n : Int), d = some dd ∧ H' dd = some (.xd [("by", .int n)]) ∧ ∀ t H'', Same H' H'' → H'' t = some (.tup [.str "short", .int n]) → Q (.ref t) H'') H (fun _ H' => Q (.str "none") H')
theorem sc_wrd : FnScope ["_law_call", "e"] ["_law_call"] (defScope stWrd) := ⟨rfl, rfl, rfl, by decide +kernel, rfl, by decide +kernel, by decide +kernel⟩
theorem word_short {X : Cx} {g : Addr} {cdg : Value} {q : Str} {CS : Addr} (T : TxtWrd X.K X.mg CS) :
    LamX.GivesTo X ["_law_call", "e"] "_law_word" (defScope stWrd) g cdg (defBody stWrd) "_law_call" q (TTs CS) := by
  intro f c' s H Q tl act hc h
  refine ⟨_, pss_cons (ps_try_hit (i := 1) (X := (cxOf C8.CX0 X.prog X.w X.K X.mg X.base ["_law_call", "e"] "_law_word" (defScope stWrd) g cdg X.A X.stack s H C8.E0).nox)
      (tb := fun W D σ H => ∃ Ech : XK, (∀ cls d σ' H', Ech cls d H' → W cls d σ' H') ∧ σ[0]? = some (some (.ref f)) ∧ H c' = some (LamX.CodeO c' q) ∧ tl Ech H (fun _ H1 => D.nx σ H1)) rfl rfl sc_wrd.nd rfl rfl ⟨rfl, by decide, .inl T.g⟩ (fun W pn xe tk _ => ?_)
      (fun a oe cls d pn hz hf => pss_one (ps_ret (pe_tup (pa_cons pe_str (pa_cons (pe_xf T.xf T.no hz hf (pv 1)) pa_nil)))))) (pss_one (ps_ret pe_str)), ?_⟩
  · refine ⟨fun pins s' σ H' D I h' => ?_⟩
    obtain ⟨Ech, hW, h1, h2, h3⟩ := h'
    exact (pss_one (ps_expr (act W pn xe Ech _ _ tk hW))).run pins s' σ H' D I ⟨h1, h2, h3⟩
  · refine ⟨fun cls d H' => cls = .ref CS ∧ ∃ (dd : Addr) (n : Int), d = some dd ∧ H' dd = some (.xd [("by", .int n)]) ∧ ∀ t H'', Same H' H'' → H'' t = some (.tup [.str "short", .int n]) → Q (.ref t) H'', fun cls d σ' H' z => ?_, rfl, hc, h⟩
    obtain ⟨rfl, dd, n, rfl, hdd, qc⟩ := z
    refine ⟨T.e, fun hl a ha => ?_⟩
    have hl2 : σ'.length = 2 := hl
    obtain ⟨v0, v1, rfl⟩ : ∃ v0 v1, σ' = [v0, v1] := by
      match σ', hl2 with
      | [v0, v1], _ => exact ⟨v0, v1, rfl⟩
    exact ⟨_, rfl, rfl, rfl, dd, _, .int n, rfl, hdd, rfl, by show 2 ≤ sizeLine; decide, fun t ht => qc t _ (same_upd ht) upd_same⟩
end Hm

set_option Elab.async false
set_option linter.all false
set_option maxRecDepth 100000
set_option maxHeartbeats 4000000
namespace HmQ
open PySem PySem.Spec PyProof.Rows L2
section
variable {prog : Program} {w : World} {K : Type} [DecidableEq K] {knd : HeapKind prog w K} {A : Around} {E : Value → Shared → Prop} {s : Shared}
/-- dict(d), the keys tuples of different hashes -/
theorem dict_again {o : Addr} {xs : List (K × Addr × Value)} {Q : Value → Shared → Prop} (no : (o == sysModules) = false) (hu : ∀ B : Around, B.units ≤ A.units + 3 → knd.room B) (ho : s.heap.DictOfH knd o xs) (hz : xs.length ≤ sizeLine)
    (ty : ∀ x ∈ xs, s.TypeIs (.ref x.2.1) "tuple") (hap : (xs.map fun x => knd.hash x.1).Nodup) (st : ∀ ob, ∀ x ∈ xs, knd.is (s.heap.push ob) x.1 x.2.1)
    (h : ∀ h', h'.DictOfH knd s.heap.objs.size xs → Heap.SameBut s.heap.objs.size (s.heap.push { cls := .type "dict", data := .dict #[] }) h' → Q (.ref s.heap.objs.size) { s with heap := h' }) :
    wpAny (model prog w) A (call (.type "dict") [.ref o]) Q E s := by
  refine callType_codes (Q₁ := fun obj s₁ => obj = .ref s.heap.objs.size ∧ s₁ = { s with heap := s.heap.push { cls := .type "dict", data := .dict #[] } }) F.kt_called_dict (F.kt_typeCall_dict_1 _) F.entry_dict_init (kt_code_dict_new _ ⟨rfl, rfl⟩) ?_
  rintro obj s₁ ⟨rfl, rfl⟩
  have dn : (s.heap.push { cls := .type "dict", data := .dict #[] }).DictOfH knd s.heap.objs.size [] := Heap.DictOfH.new s.heap
  obtain ⟨oo, es, ep, hg, x1, x2, x3, x4, nd⟩ := id ho
  have dof : (s.heap.push { cls := .type "dict", data := .dict #[] }).DictOfH knd o xs := ⟨oo, es, ep, Heap.get?_push_of_some _ hg, x1, x2, x3, st _, nd⟩
  have ne : s.heap.objs.size ≠ o := fun z => absurd (Heap.lt_size hg) (by rw [z]; exact Nat.lt_irrefl _)
  refine ⟨dn.typeIs, F.args_dict_init_2 _ _, ?_⟩
  unfold Builtin.«dict.__init__» Builtin.Dict.selfAndRest
  refine wpAny_bind (wpAny_bind (wpAny_notOrdered_dict dn.typeIs ?_))
  show wpAny _ _ (pure (s.heap.objs.size, [Value.ref o])) _ _ _
  refine wpAny_pure ?_
  show wpAny _ _ (Builtin.Dict.updateFrom "dict.__init__" s.heap.objs.size (.ref o) [] .none) _ _ _
  unfold Builtin.Dict.updateFrom
  refine wpAny_bind (wpAny_typeOf dof.typeIs ?_)
  rw [if_neg (by decide)]
  unfold Builtin.Dict.merge Builtin.Dict.readDirectly
  refine wpAny_bind (wpAny_bind (wpAny_bind (wpAny_isInstance dof.typeIs isSubtype_dict_dict ?_)))
  simp only [Bool.not_true, Bool.false_eq_true, if_false]
  refine wpAny_bind (wpAny_specialOf dof.typeIs F.slot_dict_iter.lookup (wpAny_pure ?_))
  simp only [beq_self_eq_true, if_true]
  refine wpAny_bind (wpAny_pure ?_)
  refine wpAny_mergeDict_heap (hsz := by simpa using hz) (hu _ ?_) ne no dn dof (.inr ⟨fun x hx => ?_, hap⟩) fun h' hd' _ hs' => ?_
  · show A.units + 1 + 1 ≤ A.units + 3
    omega
  · obtain ⟨q, e, k⟩ := ty x hx
    exact ⟨q, Heap.get?_push_of_some _ e, k⟩
  · show wpAny _ _ (Builtin.Dict.addKeywords s.heap.objs.size [] >>= _) _ _ _
    rw [storedAllH_nil_of_nodup xs nd] at hd'
    exact wpAny_bind (wpAny_pure (wpAny_pure ⟨rfl, h h' hd' hs'⟩))
end
section
variable {X : Cx}
/-- dict(d) of a dict by tuples whose hashes differ -/
def rDictT : List V → Hp → VK → Prop := fun xs H Q => ∃ (a : Addr) (kvs : List (List L2.Key × V)), xs = [.ref a] ∧ H a = some (.dT kvs) ∧ (∀ (P : Program) (w : World), (kvs.map fun e => tupleKeyHash (mixKind P w) e.1).Nodup) ∧ ∀ p, H p = none → Q (.ref p) (upd H p (.dT kvs))
theorem call_dictT (hu : X.A.units + 64 < cLine) : CallR X (.type "dict") rDictT := by
  intro pins s σ H xs us Q I r q
  obtain ⟨a, kvs, rfl, hd, hap, q⟩ := q
  obtain ⟨u, rfl, rx⟩ := vals1 r
  cases rx
  obtain ⟨z, lo, ys, rel, dd⟩ := dt_of I.hok hd
  have hk : ys.map (fun x => tupleKeyHash (mixKind X.prog X.w) x.1) = kvs.map fun e => tupleKeyHash (mixKind X.prog X.w) e.1 := by
    clear dd hap q hd z
    induction rel with
    | nil => rfl
    | @cons p q ps qs hq t ih => rw [List.map_cons, List.map_cons, ih, hq.1]
  have tup : ∀ x ∈ ys, ∃ k, H x.2.1 = some (.tup (k.map kV)) ∧ k = x.1 := by
    clear dd hap q hd z hk
    induction rel with
    | nil => intro x hx; cases hx
    | @cons p q ps qs hq t ih =>
      intro x hx
      rcases List.mem_cons.mp hx with rfl | hx
      · exact ⟨p.1, hq.2.1, hq.1⟩
      · exact ih x hx
  refine dict_again (knd := tupleKind (mixKind X.prog X.w)) lo (fun B hB => by show B.units < cLine; omega) dd (by rw [← Paired.length rel]; exact z) (fun x hx => ?_) (by rw [show (ys.map fun x => (tupleKind (mixKind X.prog X.w)).hash x.1) = _ from hk]; exact hap _ _) (fun ob x hx => ?_) fun h' d' hs => ?_
  · obtain ⟨k, hk2, rfl⟩ := tup x hx
    obtain ⟨o, its, n, h1, h2, _⟩ := key_of I.hok hk2
    exact ⟨o, h1, h2⟩
  · obtain ⟨k, hk2, rfl⟩ := tup x hx
    obtain ⟨o, its, n, h1, h2⟩ := key_of I.hok hk2
    exact ⟨o, its, n, Heap.get?_push_of_some _ h1, h2⟩
  · have hm : (s.heap.objs.size == sysModules) = false := beq_eq_false_iff_ne.mpr (Nat.ne_of_gt I.big)
    have hn : H s.heap.objs.size = none := I.hok.fresh (Nat.le_refl _)
    obtain ⟨o, es, ep, g1, g2, g3, g4, g5, g6⟩ := d'
    exact ⟨.ref s.heap.objs.size, upd H s.heap.objs.size (.dT kvs), I.laid (t' := s.toks) (fun b u e => (hs.2 b (Nat.ne_of_lt (Heap.lt_size e))).trans (Heap.get?_push_of_some _ e)) (Nat.le_refl _)
      ⟨z, hm, ys, rel.keeps (fun b zs e => by rw [upd_ne (ne_of_none e hn)]; exact e), o, es, ep, g1, g2, g3, g4, g6⟩, rfl, q _ hn⟩
end
end HmQ

set_option Elab.async false
set_option maxRecDepth 100000
set_option maxHeartbeats 4000000
namespace Hm
open PySem PySem.Spec PyProof.Rows L2 HmS HmQ HmT
/-! ### counts with zeros -/
def posC (c : StT × Int) : Bool := decide (c.2 > 0)
def spAll0 : Sp := fun vs H Q _ => ∃ (d : Addr) (cs : CtT), vs = [.ref d] ∧ H d = some (.dT (cs.map entC)) ∧ cs.length ≤ 400 ∧
  ∀ (H' : Hp) (l : Addr) (rs : List Addr), Same H H' → H l = none → H' l = some (.lst (rs.map V.ref)) → Paired (RowAt H') rs ((riseM cs).filter posC) → Q (.ref l) H'
/-! ### the hashes of stamps differ -/
def thS (s : StT) : Int := reduceHash (Builtin.Tuple.tupleHashOf [hashInt s.1, hashInt s.2.1, hashInt s.2.2])
theorem th_eq (P : Program) (w : World) (s : StT) : tupleKeyHash (mixKind P w) (keyS s) = thS s := rfl
def allS : List StT := (List.range 4).flatMap fun (a : Nat) => (List.range 6).flatMap fun (b : Nat) => [((a : Int), (b : Int), (0 : Int)), ((a : Int), (b : Int), (1 : Int))]
theorem th_inj : ∀ a ∈ allS, ∀ b ∈ allS, thS a = thS b → a = b := by decide +kernel
theorem allS_mem {sets : List SetT} (bk : BookOk sets) {s : StT} (h : StOk sets s) : s ∈ allS := by
  obtain ⟨k, st, hk, e1, n, hn, e2⟩ := placesM_mem.mp h.pl
  have hk2 := (List.getElem?_eq_some_iff.mp hk).1
  have l1 := bk.len1
  have so := bk.ok st (List.mem_of_getElem? hk)
  have m1 := so.m1
  have g0 := h.g0
  have g1 := h.g1
  refine List.mem_flatMap.mpr ⟨k, List.mem_range.mpr (by omega), List.mem_flatMap.mpr ⟨n, List.mem_range.mpr (by omega), ?_⟩⟩
  have e1' : s.1 = (k : Int) := by
    have : s.1 = ((0 + k : Nat) : Int) := e1
    omega
  have e2' : s.2.1 = (n : Int) := e2
  have : s.2.2 = 0 ∨ s.2.2 = 1 := by omega
  rcases this with z | z
  · exact List.mem_cons.mpr (.inl (Prod.ext e1' (Prod.ext e2' z)))
  · exact List.mem_cons.mpr (.inr (List.mem_singleton.mpr (Prod.ext e1' (Prod.ext e2' z))))
theorem hash_nd {sets : List SetT} (bk : BookOk sets) {cs : CtT} (nd : (cs.map (·.1)).Nodup) (st : ∀ c ∈ cs, StOk sets c.1) (P : Program) (w : World) : ((cs.map entC).map fun e => tupleKeyHash (mixKind P w) e.1).Nodup := by
  have e : ((cs.map entC).map fun e => tupleKeyHash (mixKind P w) e.1) = (cs.map (·.1)).map thS := by
    rw [List.map_map, List.map_map]
    rfl
  rw [e, List.Nodup, List.pairwise_map]
  refine (List.pairwise_map.mp nd |> fun h => List.pairwise_map.mpr (h.imp_of_mem fun {a b} ha hb n z => n ?_)) 
  exact th_inj _ (allS_mem bk (st a ha)) _ (allS_mem bk (st b hb)) z
section
variable {P : Program} {w : World} {K : PySem.W.Frag} {mg : Str → Option Value} {base : Heap}
theorem ok_all0 {f : Addr} {fd : FuncData} (F : Fun K "_law_all" "_law_all" stAll f fd) (hS : mg "sorted" = none) : FnOk P w K mg base CX0 1 f fd ["_law_counts_here"] spAll0 := by
  refine F.ok sc_all (fun vs H Q E h => ?_) (fun cdv A outer s H vs Q E hr h => ?_)
  · obtain ⟨d, cs, rfl, _⟩ := h
    rfl
  · obtain ⟨d, cs, rfl, hd, hz, q⟩ := h
    have hu := hu_of hr
    refine ⟨_, pss_one (ps_ret (pe_lc (own := [("_law_stamp", 1)]) (g := gName 1) rfl sc_all.nd
        (pi_list (pe_callB (cr_sortDT rfl hr.units) (by rfl) hS (by decide +kernel) (pa_cons (pv 0) pa_nil)))
        (blkOk_by (N := nAll) (sc := defScope stAll) (by decide +kernel)) (fun _ _ _ _ _ => pg_name (i := 1) sc_all.nd rfl (Or.inl rfl))
        (fun _ _ _ _ _ => pts_one (pt_cmpR op_gt (pe_dget hu (pv 0) (pv 1) (fun _ _ => rfl)) pe_int (nomark _)))
        (fun _ _ _ _ _ => pe_tup (pa_cons (pv 1) (pa_cons (pe_dget hu (pv 0) (pv 1) (fun _ _ => rfl)) pa_nil))))), ?_⟩
    refine ⟨_, rfl, d, cs.map entC, rfl, Rd.of hd, by rw [List.length_map]; omega, alike_keys cs, ne_keys cs, fun l bs hl hik nk => ?_⟩
    rw [sortZ_refs]
    obtain ⟨lb, hzz⟩ := isKeys_zipC hik
    have nd : (cs.map (·.1)).Nodup := by
      rw [List.map_map] at nk
      have e : (cs.map (Prod.fst ∘ entC)) = (cs.map (·.1)).map keyS := by rw [List.map_map]; rfl
      rw [e] at nk
      rw [List.Nodup, List.pairwise_map] at nk
      exact nk.imp fun h z => h (by rw [z])
    have lz : (sortZ bs cs).length = cs.length := by
      rw [(sortZ_perm bs cs).length_eq, List.length_zip]
      omega
    refine ⟨l, rfl, ⟨_, SqL.of upd_same⟩, fun D hD => lc_list (K := K) (xs := (sortZ bs cs).map fun z => V.ref z.1)
        (fun i H' => Same (upd H l (.lst ((sortZ bs cs).map fun z => V.ref z.1))) H' ∧ ∃ rs : List Addr, H' D = some (.lst (rs.map V.ref)) ∧ Paired (RowAt H') rs ((((sortZ bs cs).take i).map (·.2)).filter posC))
        ⟨same_upd hD, [], upd_same, .nil⟩ (fun i H' _ pv => SqL.of (pv.1 _ _ upd_same)) (fun i x H' hx pv => ?_) (fun H' pv => ?_)⟩
    · obtain ⟨sm, rs, hDl, pr⟩ := pv
      rw [List.getElem?_map] at hx
      cases hi : (sortZ bs cs)[i]? with
      | none =>
        rw [hi] at hx
        cases hx
      | some z =>
        rw [hi] at hx
        cases hx
        have hm := (sortZ_perm bs cs).mem_iff.mp (List.mem_of_getElem? hi)
        have hm2 : z.2 ∈ cs := (List.of_mem_zip hm).2
        have s0 : Same H H' := (same_upd hl).trans sm
        have gz : getC cs z.2.1 = some z.2.2 := getC_of nd hm2
        have ez := s0 _ _ (hzz z hm)
        have gt : ∀ {G : Hp}, Same H' G → DGet G d (.ref z.1) (some (.int z.2.2)) := fun {G} sg => by
          have g1 : DGet G d (.ref z.1) (valV (cs.map entC) (keyS z.2.1)) := DGet.t (sg _ _ (s0 _ _ hd)) (sg _ _ ez)
          rw [valV_ent, gz] at g1
          exact g1
        have lrs : rs.length ≤ 400 := by
          rw [Paired.length pr]
          have z1 := List.length_filter_le posC (((sortZ bs cs).take i).map (·.2))
          rw [List.length_map, List.length_take] at z1
          omega
        have et : (((sortZ bs cs).take (i + 1)).map (·.2)).filter posC = (((sortZ bs cs).take i).map (·.2)).filter posC ++ (if posC z.2 = true then [z.2] else []) := by
          rw [List.take_add_one, hi, List.map_append, List.filter_append]
          congr 1
          by_cases y : posC z.2 = true
          · simp [y]
          · simp [y]
        refine ⟨rfl, _, rfl, _, rfl, d, _, rfl, gt (fun _ _ e => e), _, _, rfl, rfl, _, rfl, ?_⟩
        refine ite2 (fun c => ?_) (fun c => ⟨sm, rs, hDl, by rw [et, if_neg (show ¬ posC z.2 = true from c), List.append_nil]; exact pr⟩)
        refine ⟨_, rfl, _, rfl, _, rfl, d, _, rfl, gt (fun _ _ e => e), by show 2 ≤ sizeLine; decide, fun t ht => ?_⟩
        have nD : ∀ {b : Addr} {o : HO}, (upd H l (.lst ((sortZ bs cs).map fun z => V.ref z.1))) b = some o → b ≠ D := fun e => ne_of_none e hD
        refine ⟨_, (same_upd ht) _ _ hDl, by rw [List.length_map]; exact small1000 (by omega), fun b o e => ?_, rs ++ [t], by rw [upd_same, List.map_append]; rfl, ?_⟩
        · rw [upd_ne (nD e)]
          exact (same_upd ht) _ _ (sm _ _ e)
        · rw [et, if_pos (show posC z.2 = true from c)]
          have nT : ∀ {c : Addr} {xs : List V} {G : Hp}, G D = some (.lst (rs.map V.ref)) → G c = some (.tup xs) → c ≠ D := fun e1 e2 y => by
            rw [y, e1] at e2
            cases e2
          have hD2 := (same_upd (o := .tup [.ref z.1, .int z.2.2]) ht) _ _ hDl
          refine Paired.snoc ?_ (Paired.mp (fun a c h => ?_) pr)
          · refine ⟨z.1, ?_, ?_⟩
            · rw [upd_ne (nT hD2 upd_same)]
              exact upd_same
            · show upd _ D _ z.1 = _
              rw [upd_ne (nT hDl ez)]
              exact (same_upd ht) _ _ ez
          · obtain ⟨u, h1, h2⟩ := h
            refine ⟨u, ?_, ?_⟩
            · rw [upd_ne (nT hDl h1)]
              exact (same_upd ht) _ _ h1
            · show upd _ D _ u = _
              rw [upd_ne (nT hDl h2)]
              exact (same_upd ht) _ _ h2
    · obtain ⟨sm, rs, hDl, pr⟩ := pv
      rw [List.length_map, List.take_length, sortZ_rise lb] at pr
      exact q H' D rs ((same_upd hl).trans sm) (none_of (same_upd hl) hD) hDl pr
end
end Hm

set_option Elab.async false
set_option maxRecDepth 100000
set_option maxHeartbeats 4000000
namespace Hm
open PySem PySem.Spec PyProof.Rows L2 HmS HmQ HmT RZ
/-! ### rows kept with zeros -/
structure RsOk (sets : List SetT) (rs : CtT) : Prop where
  nd : (rs.map (·.1)).Nodup
  st : ∀ c ∈ rs, StOk sets c.1
  ge : ∀ c ∈ rs, 0 ≤ c.2
theorem RsOk.of {sets : List SetT} {cs : CtT} (ok : CtOk sets cs) : RsOk sets cs := ⟨ok.nd, ok.st, fun c hc => by have := ok.pos c hc; omega⟩
theorem RsOk.put {sets : List SetT} {rs : CtT} (ok : RsOk sets rs) {s : StT} (hs : StOk sets s) {m : Int} (hm : 0 ≤ m) : RsOk sets (putC rs s m) := by
  refine ⟨?_, fun c hc => ?_, fun c hc => ?_⟩
  · rw [putC_keys]
    by_cases a : rs.any (fun c => decide (c.1 = s)) = true
    · rw [if_pos a]
      exact ok.nd
    · rw [if_neg a]
      refine List.nodup_append.mpr ⟨ok.nd, by simp, fun x hx y hy => ?_⟩
      obtain ⟨c, hc, rfl⟩ := List.mem_map.mp hx
      rw [List.mem_singleton.mp hy]
      intro z
      exact a (List.any_eq_true.mpr ⟨c, hc, decide_eq_true z⟩)
  · unfold putC at hc
    by_cases a : rs.any (fun c => decide (c.1 = s)) = true
    · rw [if_pos a] at hc
      obtain ⟨c', h', rfl⟩ := List.mem_map.mp hc
      by_cases h : c'.1 = s
      · rw [if_pos h]
        show StOk sets c'.1
        exact ok.st _ h'
      · rw [if_neg h]
        exact ok.st _ h'
    · rw [if_neg a] at hc
      rcases List.mem_append.mp hc with h | h
      · exact ok.st _ h
      · rw [List.mem_singleton.mp h]
        exact hs
  · unfold putC at hc
    by_cases a : rs.any (fun c => decide (c.1 = s)) = true
    · rw [if_pos a] at hc
      obtain ⟨c', h', rfl⟩ := List.mem_map.mp hc
      by_cases h : c'.1 = s
      · rw [if_pos h]
        exact hm
      · rw [if_neg h]
        exact ok.ge _ h'
    · rw [if_neg a] at hc
      rcases List.mem_append.mp hc with h | h
      · exact ok.ge _ h
      · rw [List.mem_singleton.mp h]
        exact hm
theorem RsOk.pos {sets : List SetT} {rs : CtT} (ok : RsOk sets rs) : CtOk sets (rs.filter posC) :=
  ⟨ok.nd.sublist ((List.filter_sublist (p := posC)).map _), fun c hc => by
    have := (List.mem_filter.mp hc).2
    have h2 : c.2 > 0 := of_decide_eq_true this
    omega, fun c hc => ok.st c (List.mem_filter.mp hc).1⟩
theorem RsOk.len {sets : List SetT} {rs : CtT} (ok : RsOk sets rs) (bk : BookOk sets) : rs.length ≤ 48 := by
  have h : CtOk sets (rs.map fun c => (c.1, (1 : Int))) := ⟨by rw [List.map_map]; exact ok.nd, fun c hc => by
    obtain ⟨c', _, rfl⟩ := List.mem_map.mp hc
    exact Int.le_refl _, fun c hc => by
    obtain ⟨c', h', rfl⟩ := List.mem_map.mp hc
    exact ok.st c' h'⟩
  have := h.len bk
  rw [List.length_map] at this
  exact this
theorem cnt_pos0 {sets : List SetT} {rs : CtT} (ok : RsOk sets rs) (s : StT) : 0 ≤ cntM rs s := by
  unfold cntM
  cases e : getC rs s with
  | none => exact Int.le_refl _
  | some n => exact ok.ge _ (getC_mem e)
theorem cnt_filtP {sets : List SetT} {rs : CtT} (ok : RsOk sets rs) (s : StT) : cntM (rs.filter posC) s = cntM rs s := by
  unfold cntM
  cases e : getC rs s with
  | none =>
    cases e2 : getC (rs.filter posC) s with
    | none => rfl
    | some n => exact absurd rfl (getC_none e _ (List.mem_filter.mp (getC_mem e2)).1)
  | some n =>
    have hm := getC_mem e
    by_cases p : n > 0
    · rw [getC_of (ok.pos).nd (List.mem_filter.mpr ⟨hm, decide_eq_true p⟩)]
    · have g := ok.ge _ hm
      have n0 : n = 0 := by have : 0 ≤ n := g; omega
      cases e2 : getC (rs.filter posC) s with
      | none =>
        rw [n0]
        rfl
      | some m =>
        have h2 := List.mem_filter.mp (getC_mem e2)
        have e3 := getC_of ok.nd h2.1
        rw [e] at e3
        rw [Option.some.inj e3]
theorem rise_pos {sets : List SetT} {cs rs : CtT} (ok : CtOk sets cs) (ro : RsOk sets rs) (h : ∀ s, cntM cs s = cntM rs s) : (riseM rs).filter posC = riseM cs := by
  have e1 : riseM (rs.filter posC) = riseM cs := rise_ext ro.pos ok fun s => by rw [cnt_filtP ro, h]
  rw [← e1]
  have p : ((riseM rs).filter posC).Perm (riseM (rs.filter posC)) := ((riseM_perm rs).filter posC).trans (riseM_perm _).symm
  exact List.Perm.eq_of_pairwise (le := stLt) (fun a b _ _ h1 h2 => (stLt_asym h1 h2).elim) ((riseM_rise ro.nd).filter _) (riseM_rise ro.pos.nd) p
theorem eqv_rowsB (a b : CtT) : PyData.eqv (rowsD a) (rowsD b) = decide (a = b) := by
  have key : ∀ a b : CtT, PyData.eqvAll (a.map rowD) (b.map rowD) = decide (a = b) := by
    intro a
    induction a with
    | nil => intro b; cases b <;> simp [PyData.eqvAll]
    | cons x r ih =>
      intro b
      cases b with
      | nil => simp [PyData.eqvAll]
      | cons y t =>
        obtain ⟨⟨x1, x2, x3⟩, x4⟩ := x
        obtain ⟨⟨y1, y2, y3⟩, y4⟩ := y
        simp only [List.map_cons, PyData.eqvAll, rowD, PyData.eqv, ih, Bool.and_true]
        rw [Bool.eq_iff_iff]
        simp only [Bool.and_eq_true, beq_iff_eq, decide_eq_true_eq, List.cons.injEq, Prod.mk.injEq, and_assoc]
  show PyData.eqv (.list (a.map rowD)) (.list (b.map rowD)) = _
  simp only [PyData.eqv]
  exact key a b
/-! ### albums and their rows -/
structure E8 where
  p : Addr
  d : Addr
  r : Addr
  cs : CtT
  rs : CtT
structure Ent8 (C : Addr) (G : Hp) (b : Addr) (nm : Str) (sets : List SetT) (N : Int) (e : E8) : Prop where
  al : AlbAt C G e.p b nm e.d e.cs
  ok : CtOk sets e.cs
  rw_ : G e.r = some (.dT (e.rs.map entC))
  ro : RsOk sets e.rs
  cn : ∀ s, cntM e.cs s = cntM e.rs s
  mx : ∀ s, cntM e.cs s ≤ N
structure St8 (C : Addr) (G : Hp) (pn b la lr : Addr) (nm : Str) (sets : List SetT) (N : Int) (E : List E8) : Prop where
  pen : PenAt G pn
  bk : Book G b sets
  hla : G la = some (.lst (E.map fun e => V.ref e.p))
  hlr : G lr = some (.lst (E.map fun e => V.ref e.r))
  nla : la ≠ pn
  nlr : lr ≠ pn
  nab : la ≠ lr
  en : ∀ (j : Nat) e, E[j]? = some e → Ent8 C G b nm sets N e
  dr : ∀ (i j : Nat) e f, E[i]? = some e → E[j]? = some f → e.d ≠ f.r
  dd : ∀ (i j : Nat) e f, E[i]? = some e → E[j]? = some f → i ≠ j → e.d ≠ f.d ∧ e.r ≠ f.r
section
variable {C : Addr} {G G' : Hp} {pn b la lr : Addr} {nm : Str} {sets : List SetT} {N : Int} {E : List E8}
theorem Ent8.keep {e : E8} (k : Keep pn G G') (pen : PenAt G pn) (x : Ent8 C G b nm sets N e) : Ent8 C G' b nm sets N e :=
  ⟨x.al.keep k pen, x.ok, k _ _ (pen_ne pen x.rw_ fun _ z => by cases z) x.rw_, x.ro, x.cn, x.mx⟩
theorem Ent8.up {e : E8} {M : Int} (h : N ≤ M) (x : Ent8 C G b nm sets N e) : Ent8 C G b nm sets M e := ⟨x.al, x.ok, x.rw_, x.ro, x.cn, fun s => Int.le_trans (x.mx s) h⟩
theorem St8.keep (k : Keep pn G G') (pen' : PenAt G' pn) (x : St8 C G pn b la lr nm sets N E) : St8 C G' pn b la lr nm sets N E :=
  ⟨pen', x.bk.keep k x.pen, k _ _ x.nla x.hla, k _ _ x.nlr x.hlr, x.nla, x.nlr, x.nab, fun j e h => (x.en j e h).keep k x.pen, x.dr, x.dd⟩
theorem St8.same (s : Same G G') (x : St8 C G pn b la lr nm sets N E) : St8 C G' pn b la lr nm sets N E := x.keep (Same.keep s) (pen_same s x.pen)
theorem St8.up {M : Int} (h : N ≤ M) (x : St8 C G pn b la lr nm sets N E) : St8 C G pn b la lr nm sets M E :=
  ⟨x.pen, x.bk, x.hla, x.hlr, x.nla, x.nlr, x.nab, fun j e he => (x.en j e he).up h, x.dr, x.dd⟩
/-- the k-th album and its row are changed -/
theorem St8.set (x : St8 C G pn b la lr nm sets N E) {k : Nat} {e : E8} (he : E[k]? = some e) (pen' : PenAt G' pn) (bk' : Book G' b sets) (h : ∀ c o, c ≠ e.d → c ≠ e.r → G c = some o → G' c = some o) {cs rs : CtT}
    (y : Ent8 C G' b nm sets N ⟨e.p, e.d, e.r, cs, rs⟩) : St8 C G' pn b la lr nm sets N (E.set k ⟨e.p, e.d, e.r, cs, rs⟩) := by
  have hk := (List.getElem?_eq_some_iff.mp he).1
  have ed := (x.en k e he).al.dc
  have er := (x.en k e he).rw_
  have nT : ∀ {c : Addr} {o : HO}, G c = some o → (∀ z, o ≠ .dT z) → G' c = some o := fun {c o} g n => h c o (fun z => by rw [z, ed] at g; exact n _ (Option.some.inj g).symm) (fun z => by rw [z, er] at g; exact n _ (Option.some.inj g).symm) g
  have mp : ∀ f : E8 → V, f ⟨e.p, e.d, e.r, cs, rs⟩ = f e → (E.set k ⟨e.p, e.d, e.r, cs, rs⟩).map f = E.map f := fun f hf => by
    refine List.ext_getElem? fun j => ?_
    rw [List.getElem?_map, List.getElem?_map, List.getElem?_set]
    by_cases z : k = j
    · rw [if_pos z, if_pos (by omega), ← z, he]
      show some (f _) = some (f e)
      rw [hf]
    · rw [if_neg z]
  have at_ : ∀ (j : Nat) f, (E.set k ⟨e.p, e.d, e.r, cs, rs⟩)[j]? = some f → ∃ f0, E[j]? = some f0 ∧ f0.d = f.d ∧ f0.r = f.r ∧ ((k = j ∧ f = ⟨e.p, e.d, e.r, cs, rs⟩) ∨ (k ≠ j ∧ f = f0)) := fun j f hf => by
    rw [List.getElem?_set] at hf
    by_cases z : k = j
    · rw [if_pos z, if_pos (by omega)] at hf
      have := Option.some.inj hf
      exact ⟨e, by rw [← z]; exact he, by rw [← this], by rw [← this], .inl ⟨z, this.symm⟩⟩
    · rw [if_neg z] at hf
      exact ⟨f, hf, rfl, rfl, .inr ⟨z, rfl⟩⟩
  refine ⟨pen', bk', ?_, ?_, x.nla, x.nlr, x.nab, fun j f hf => ?_, fun i j f g hf hg => ?_, fun i j f g hf hg ne => ?_⟩
  · rw [mp _ rfl]
    exact nT x.hla fun _ z => by cases z
  · rw [mp _ rfl]
    exact nT x.hlr fun _ z => by cases z
  · obtain ⟨f0, h0, _, _, ⟨_, rfl⟩ | ⟨z, rfl⟩⟩ := at_ j f hf
    · exact y
    · have w := x.en j f h0
      have d1 := (x.dd k j e f he h0 z)
      have d2 := x.dr k j e f he h0
      have d3 := x.dr j k f e h0 he
      obtain ⟨⟨dx, h1⟩, h2⟩ := id w.al
      exact ⟨⟨⟨dx, nT h1 fun _ z => by cases z⟩, h _ _ (Ne.symm d1.1) d3 h2⟩, w.ok, h _ _ (Ne.symm d2) (Ne.symm d1.2) w.rw_, w.ro, w.cn, w.mx⟩
  · obtain ⟨f0, h0, e1, e2, _⟩ := at_ i f hf
    obtain ⟨g0, h1, e3, e4, _⟩ := at_ j g hg
    rw [← e1, ← e4]
    exact x.dr i j f0 g0 h0 h1
  · obtain ⟨f0, h0, e1, e2, _⟩ := at_ i f hf
    obtain ⟨g0, h1, e3, e4, _⟩ := at_ j g hg
    rw [← e1, ← e2, ← e3, ← e4]
    exact x.dd i j f0 g0 h0 h1 ne
/-- one more album and its row, both new -/
theorem St8.push (x : St8 C G pn b la lr nm sets N E) {e : E8} (pen' : PenAt G' pn) (bk' : Book G' b sets) (h : ∀ c o, c ≠ la → c ≠ lr → G c = some o → G' c = some o) (ha : G' la = some (.lst (E.map (fun e => V.ref e.p) ++ [.ref e.p]))) (hr : G' lr = some (.lst (E.map (fun e => V.ref e.r) ++ [.ref e.r])))
    (y : Ent8 C G' b nm sets N e) (nd : G e.d = none) (nr : G e.r = none) (ne : e.d ≠ e.r) : St8 C G' pn b la lr nm sets N (E ++ [e]) := by
  have nT : ∀ {c : Addr} {o : HO}, G c = some o → (∀ z, o ≠ .lst z) → G' c = some o := fun {c o} g n => h c o (fun z => by rw [z, x.hla] at g; exact n _ (Option.some.inj g).symm) (fun z => by rw [z, x.hlr] at g; exact n _ (Option.some.inj g).symm) g
  have at_ : ∀ (j : Nat) f, (E ++ [e])[j]? = some f → E[j]? = some f ∨ (j = E.length ∧ f = e) := fun j f hf => by
    by_cases z : j < E.length
    · rw [List.getElem?_append_left z] at hf
      exact .inl hf
    · rw [List.getElem?_append_right (by omega)] at hf
      have : j - E.length = 0 := by
        have := (List.getElem?_eq_some_iff.mp hf).1
        simp at this
        omega
      rw [this] at hf
      exact .inr ⟨by omega, (Option.some.inj hf).symm⟩
  have ex : ∀ (j : Nat) f, E[j]? = some f → f.d ≠ e.d ∧ f.d ≠ e.r ∧ e.d ≠ f.r ∧ f.r ≠ e.r := fun j f hf => by
    have w := x.en j f hf
    refine ⟨fun z => ?_, fun z => ?_, fun z => ?_, fun z => ?_⟩
    · have := w.al.dc
      rw [z, nd] at this
      cases this
    · have := w.al.dc
      rw [z, nr] at this
      cases this
    · have := w.rw_
      rw [← z, nd] at this
      cases this
    · have := w.rw_
      rw [z, nr] at this
      cases this
  refine ⟨pen', bk', by rw [List.map_append]; exact ha, by rw [List.map_append]; exact hr, x.nla, x.nlr, x.nab, fun j f hf => ?_, fun i j f g hf hg => ?_, fun i j f g hf hg ne' => ?_⟩
  · rcases at_ j f hf with h0 | ⟨_, rfl⟩
    · have w := x.en j f h0
      obtain ⟨⟨dx, h1⟩, h2⟩ := id w.al
      exact ⟨⟨⟨dx, nT h1 (fun _ z => (by cases z))⟩, nT h2 (fun _ z => (by cases z))⟩, w.ok, nT w.rw_ (fun _ z => (by cases z)), w.ro, w.cn, w.mx⟩
    · exact y
  · rcases at_ i f hf with h0 | ⟨_, rfl⟩
    · rcases at_ j g hg with h1 | ⟨_, rfl⟩
      · exact x.dr i j f g h0 h1
      · exact (ex i f h0).2.1
    · rcases at_ j g hg with h1 | ⟨_, rfl⟩
      · exact (ex j g h1).2.2.1
      · exact ne
  · rcases at_ i f hf with h0 | ⟨hi, rfl⟩
    · rcases at_ j g hg with h1 | ⟨_, rfl⟩
      · exact x.dd i j f g h0 h1 ne'
      · exact ⟨(ex i f h0).1, (ex i f h0).2.2.2⟩
    · rcases at_ j g hg with h1 | ⟨hj, rfl⟩
      · exact ⟨Ne.symm (ex j g h1).1, Ne.symm (ex j g h1).2.2.2⟩
      · exact absurd (hi.trans hj.symm) ne'
end
/-- what a turn may change was not there ahead of it -/
structure Fr8 (H0 : Hp) (la lr : Addr) (E : List E8) : Prop where
  fla : H0 la = none
  flr : H0 lr = none
  fresh : ∀ (j : Nat) e, E[j]? = some e → H0 e.d = none ∧ H0 e.r = none
theorem Fr8.set {H0 : Hp} {la lr : Addr} {E : List E8} (x : Fr8 H0 la lr E) {k : Nat} {e : E8} (he : E[k]? = some e) {cs rs : CtT} : Fr8 H0 la lr (E.set k ⟨e.p, e.d, e.r, cs, rs⟩) := by
  refine ⟨x.fla, x.flr, fun j f hf => ?_⟩
  have hk := (List.getElem?_eq_some_iff.mp he).1
  rw [List.getElem?_set] at hf
  by_cases z : k = j
  · rw [if_pos z, if_pos (by omega)] at hf
    cases hf
    exact x.fresh k e he
  · rw [if_neg z] at hf
    exact x.fresh j f hf
theorem Fr8.push {H0 : Hp} {la lr : Addr} {E : List E8} (x : Fr8 H0 la lr E) {e : E8} (h1 : H0 e.d = none) (h2 : H0 e.r = none) : Fr8 H0 la lr (E ++ [e]) := by
  refine ⟨x.fla, x.flr, fun j f hf => ?_⟩
  have hm := List.mem_of_getElem? hf
  rcases List.mem_append.mp hm with h | h
  · obtain ⟨i, hi⟩ := List.getElem?_of_mem h
    exact x.fresh i f hi
  · rw [List.mem_singleton.mp h]
    exact ⟨h1, h2⟩
theorem AlbAt.updL {C : Addr} {H : Hp} {b p d D : Addr} {n : Str} {cs : CtT} {xs : List V} {o : HO} (h : AlbAt C H p b n d cs) (hD : H D = some (.lst xs)) : AlbAt C (upd H D o) p b n d cs := by
  obtain ⟨⟨dx, e⟩, f⟩ := h
  refine ⟨⟨dx, ?_⟩, ?_⟩
  · rw [upd_ne (fun z => by rw [z, hD] at e; cases e)]
    exact e
  · rw [upd_ne (fun z => by rw [z, hD] at f; cases f)]
    exact f
theorem Book.updL {H : Hp} {b D : Addr} {sets : List SetT} {xs : List V} {o : HO} (h : Book H b sets) (hD : H D = some (.lst xs)) : Book (upd H D o) b sets := by
  obtain ⟨ok, bs, hb, pb⟩ := h
  refine ⟨ok, bs, ?_, Paired.mp (fun a s q => ?_) pb⟩
  · rw [upd_ne (fun z => by rw [z, hD] at hb; cases hb)]
    exact hb
  · have q' : H a = some (.tup _) := q
    show upd H D o a = _
    rw [upd_ne (fun z => by rw [z, hD] at q'; cases q')]
    exact q
end Hm

set_option Elab.async false
set_option maxRecDepth 100000
set_option maxHeartbeats 20000000
namespace Hm
open PySem PySem.Spec PyProof.Rows L2 HmS HmQ HmT RZ
abbrev stLaw : Stmt := topSt 53 -- row law
structure LawT (P : Program) (w : World) (K : PySem.W.Frag) (mg : Str → Option Value) (base : Heap) (C CS fC fP fD fL fPl fN fS fCn fA fW fI fAo fPu fTk fTw fBo fCl fE : Addr) (dC dP dD dL dPl dN dS dCn dA dI dAo dPu dTk dTw dBo dCl dE : FuncData) (ds1 ds2 : List Value) : Prop where
  range : mg "range" = none
  max : mg "max" = none
  min : mg "min" = none
  len : mg "len" = none
  zip : mg "zip" = none
  dict : mg "dict" = none
  al : TxtAlb K mg C
  mkI : Mk K C fI
  ow : OwnCmp K C fE
  wd : TxtWrd K mg CS
  gC : mg "_law_cell_at" = some (.ref fC)
  gP : mg "_law_pen" = some (.ref fP)
  gD : mg "_law_draw" = some (.ref fD)
  gL : mg "_law_list" = some (.ref fL)
  gPl : mg "_law_places" = some (.ref fPl)
  gN : mg "_law_name" = some (.ref fN)
  gS : mg "_law_stamps" = some (.ref fS)
  gCn : mg "_law_counts" = some (.ref fCn)
  gA : mg "_law_all" = some (.ref fA)
  gW : mg "_law_word" = some (.ref fW)
  kC : PySem.W.keepIn K (.ref fC) = true
  kP : PySem.W.keepIn K (.ref fP) = true
  kD : PySem.W.keepIn K (.ref fD) = true
  kL : PySem.W.keepIn K (.ref fL) = true
  kPl : PySem.W.keepIn K (.ref fPl) = true
  kN : PySem.W.keepIn K (.ref fN) = true
  kS : PySem.W.keepIn K (.ref fS) = true
  kCn : PySem.W.keepIn K (.ref fCn) = true
  kA : PySem.W.keepIn K (.ref fA) = true
  kW : PySem.W.keepIn K (.ref fW) = true
  mAo : Meth K C "all_of" fAo
  mPu : Meth K C "put" fPu
  mTk : Meth K C "take" fTk
  mTw : Meth K C "twin" fTw
  mBo : Meth K C "book" fBo
  mCl : Meth K C "called" fCl
  GC : FnOk P w K mg base CX0 1 fC dC ["_law_script", "_law_k"] (spCellAt K)
  GP : FnOk P w K mg base CX0 1 fP dP ["_law_cell"] spPenOf
  GD : FnOk P w K mg base CX0 1 fD dD ["_law_pen_here", "_law_bound"] spDrawn
  GL : FnOk P w K mg base CX0 2 fL dL ["_law_pen_here"] spListOf
  GPl : FnOk P w K mg base CX0 1 fPl dPl ["_law_sets"] spPlcs
  GN : FnOk P w K mg base CX0 2 fN dN ["_law_pen_here"] spNam
  GS : FnOk P w K mg base CX0 2 fS dS ["_law_pen_here", "_law_sets", "_law_most"] spStms
  GCn : FnOk P w K mg base CX0 1 fCn dCn ["_law_stamps_here"] spCnts
  GA : FnOk P w K mg base CX0 1 fA dA ["_law_counts_here"] spAll0
  GI : FnOk P w K mg base CX0 7 fI dI ["self", "book", "name", "stamps"] (spInit C)
  GAo : FnOk P w K mg base CX0 1 fAo dAo ["self"] (spAof C)
  GPu : FnOk P w K mg base CX0 8 fPu dPu ["self", "stamp", "many"] (spPut C)
  GTk : FnOk P w K mg base CX0 8 fTk dTk ["self", "stamp", "many"] (spTak C)
  GTw : FnOk P w K mg base CX0 10 fTw dTw ["self"] (spTwn C)
  GBo : FnOk P w K mg base CX0 1 fBo dBo ["self"] (spBok C)
  GCl : FnOk P w K mg base CX0 1 fCl dCl ["self"] (spCld C)
  GE : FnOk P w K mg base CX0 1 fE dE ["self", "other"] (spEqA C)
  GTkR : FnOk P w K mg base (L2.CX P w) 8 fTk dTk ["self", "stamp", "many"] (spTakR C CS)
  bC : Binds K dC ["_law_script", "_law_k"] []
  bP : Binds K dP ["_law_cell"] []
  bD : Binds K dD ["_law_pen_here", "_law_bound"] []
  bL : Binds K dL ["_law_pen_here"] []
  bPl : Binds K dPl ["_law_sets"] []
  bN : Binds K dN ["_law_pen_here"] []
  bS : Binds K dS ["_law_pen_here", "_law_sets", "_law_most"] []
  bCn : Binds K dCn ["_law_stamps_here"] []
  bA : Binds K dA ["_law_counts_here"] []
  bI : Binds K dI ["self", "book", "name", "stamps"] []
  bAo : Binds K dAo ["self"] []
  bPu : Binds K dPu ["self", "stamp", "many"] ds1
  bTk : Binds K dTk ["self", "stamp", "many"] ds2
  bTw : Binds K dTw ["self"] []
  bBo : Binds K dBo ["self"] []
  bCl : Binds K dCl ["self"] []
  bE : Binds K dE ["self", "other"] []
  bTk3 : Binds K dTk ["self", "stamp", "many"] []
  rd1 : Vals [V.int 1] ds1
  rd2 : Vals [V.int 1] ds2
theorem sql_extN {K : PySem.W.Frag} {H H' : Hp} {a : Addr} {xs : List V} (h : SqL K H a xs) (e : LamX.ExtN H H') : SqL K H' a xs :=
  h.elim (fun h => .inl (h.elim (fun h => .inl (e _ _ h (fun _ z => by cases z))) fun ⟨o, h⟩ => .inr ⟨o, e _ _ h (fun _ z => by cases z)⟩)) fun h => .inr h
theorem tabs_same {T : List (Addr × Str)} {H H' : Hp} (t : LamX.Tabs T H) (e : Same H H') : LamX.Tabs T H' := t.ext e
/-! ### what is told, as data -/
abbrev nLaw : List Str := ["_law_script", "_law_k", "_law_pen_here", "_law_sets", "_law_name_here", "_law_stamps_here", "_law_albums", "_law_rows", "_law_turn", "_law_at", "_law_places_here", "_law_stamp", "_law_album", "_law_counts_here", "_law_other", "_law_row"]
theorem sc_law : FnScope nLaw ["_law_script"] (defScope stLaw) := ⟨rfl, rfl, rfl, by decide +kernel, rfl, by decide +kernel, by decide +kernel⟩
abbrev tabT (PT f code : Addr) : List (Addr × Str) := [(PT, (envOfC "law" (defScope stLaw) 0 f (.ref code)).qual ++ "<lambda>")]
def spLaw (K : PySem.W.Frag) (PT : Addr) : Sp := fun vs H Q _ => ∃ (a : Addr) (ns : List Int), vs = [.ref a] ∧ SqL K H a (ns.map V.int) ∧ ns.length ≤ 63 ∧ H PT = some (.tbl #[]) ∧ ∀ H', Q (.bl true) H'
section
variable {P : Program} {w : World} {K : PySem.W.Frag} {mg : Str → Option Value} {base : Heap}
set_option linter.all false in
theorem ok_law {C CS fC fP fD fL fPl fN fS fCn fA fW fI fAo fPu fTk fTw fBo fCl fE : Addr} {dC dP dD dL dPl dN dS dCn dA dI dAo dPu dTk dTw dBo dCl dE dW : FuncData} {ds1 ds2 : List Value}
    (L : LawT P w K mg base C CS fC fP fD fL fPl fN fS fCn fA fW fI fAo fPu fTk fTw fBo fCl fE dC dP dD dL dPl dN dS dCn dA dI dAo dPu dTk dTw dBo dCl dE ds1 ds2) (FW : Fun K "_law_word" "_law_word" stWrd fW dW)
    {f code PT : Addr} {dV kV doc pm ct oc : Value} {an od : Option Addr} {osl : Array (Option Value)} (lk : K.lookup f = some ⟨oc, od, .func (PySem.W.fnOf "law" "law" (defArgs stLaw) (defBody stLaw) (defScope stLaw) dV kV doc pm an (.ref code) ct), osl⟩) (hcd : PySem.W.codeIn K (.ref code) "law" = true)
    (TB : LamX.TabB base mg code PT) :
    FnOk P w K mg base CX0 11 f (PySem.W.fnOf "law" "law" (defArgs stLaw) (defBody stLaw) (defScope stLaw) dV kV doc pm an (.ref code) ct) ["_law_script"] (spLaw K PT) := by
  obtain ⟨ocW, odW, kVW, docW, pmW, anW, cdW, ctW, oslW, eW, lkW, hcW⟩ := FW.ex
  have bW := FW.binds (ps := ["_law_call"]) fun _ _ _ _ _ _ us hl => match us, hl with | [_], _ => rfl
  subst eW
  refine fn_of lk hcd sc_law (fun vs H Q E h => ?_) fun A outer s H vs Q E hr h => ?_
  · obtain ⟨a, ns, rfl, _⟩ := h
    rfl
  · obtain ⟨a, ns, rfl, hS, hlen, hPT, q⟩ := h
    have hu := hu_of hr
    have h1 : Room 1 _ := hr.mono (by decide)
    have h2 : Room 2 _ := hr.mono (by decide)
    have h8 : Room 8 _ := hr.mono (by decide)
    have key : ∃ t, PSs (cxOf CX0 P w K mg base nLaw "law" (defScope stLaw) f (.ref code) A outer s H E).nox (defBody stLaw) t ∧ t { nx := fun _ H' => Q .non H', rt := Q } (L2.start nLaw [.ref a]) H := by
      refine ⟨_, pss_cons (ps_for PassesOwn.never rfl (pi_range1 (by rfl) L.range (pa_cons (pe_callB (call_max2 rfl) (by rfl) L.max boot_max (pa_cons pe_int (pa_cons (pe_callB (call_min2 rfl) (by rfl) L.min boot_min (pa_cons (pe_callB call_len_seq (by rfl) L.len boot_len (pa_cons (pv 0) pa_nil)) (pa_cons pe_int pa_nil))) pa_nil))) pa_nil)) (pg_name (i := 1) sc_law.nd rfl (Or.inl rfl))
        (pss_cons (ps_set (i := 2) sc_law.nd rfl (Or.inl rfl) (pe_call L.GP h1 (by rfl) L.gP L.kP L.bP .nil pass0 (pa_cons (pe_call L.GC h1 (by rfl) L.gC L.kC L.bC .nil pass0 (pa_cons (pv 0) (pa_cons (pv 1) pa_nil))) pa_nil))) (pss_cons (ps_par (i := 3) (j := 4) (by rfl) sc_law.nd rfl rfl (by decide) rfl rfl (pa_cons (pe_call L.GL h2 (by rfl) L.gL L.kL L.bL .nil pass0 (pa_cons (pv 2) pa_nil)) (pa_cons (pe_call L.GN h2 (by rfl) L.gN L.kN L.bN .nil pass0 (pa_cons (pv 2) pa_nil)) pa_nil)) (by rfl)) (pss_cons (ps_set (i := 5) sc_law.nd rfl (Or.inl rfl) (pe_call L.GS h2 (by rfl) L.gS L.kS L.bS .nil pass0 (pa_cons (pv 2) (pa_cons (pv 3) (pa_cons pe_int pa_nil))))) (pss_cons (ps_asg (pe_tup (pa_cons (pe_lst (pa_cons (pe_make L.mkI L.GI h8 (by rfl) L.al.mgC L.bI .nil pass0 (pa_cons (pv 3) (pa_cons (pv 4) (pa_cons (pv 5) pa_nil)))) pa_nil)) (pa_cons (pe_lst (pa_cons (pe_call L.GCn h1 (by rfl) L.gCn L.kCn L.bCn .nil pass0 (pa_cons (pv 5) pa_nil)) pa_nil)) pa_nil))) (pg_tup rfl (pgs_cons (pg_name (i := 6) sc_law.nd rfl (Or.inr rfl)) (pgs_cons (pg_name (i := 7) sc_law.nd rfl (Or.inl rfl)) pgs_nil)))) (pss_cons (ps_for PassesOwn.never rfl (pi_range1 (by rfl) L.range (pa_cons pe_int pa_nil)) (pg_name (i := 8) sc_law.nd rfl (Or.inl rfl)) (pss_cons (ps_set (i := 9) sc_law.nd rfl (Or.inl rfl) (pe_call L.GD h1 (by rfl) L.gD L.kD L.bD .nil pass0 (pa_cons (pv 2) (pa_cons (pe_callB call_len_seq (by rfl) L.len boot_len (pa_cons (pv 6) pa_nil)) pa_nil)))) (pss_cons (ps_set (i := 10) sc_law.nd rfl (Or.inl rfl) (pe_call L.GPl h1 (by rfl) L.gPl L.kPl L.bPl .nil pass0 (pa_cons (pv 3) pa_nil))) (pss_cons (ps_set (i := 11) sc_law.nd rfl (Or.inl rfl) (pe_op op_catT (pe_ix (r := rIxL K) ix_list (pv 10) (pe_call L.GD h1 (by rfl) L.gD L.kD L.bD .nil pass0 (pa_cons (pv 2) (pa_cons (pe_callB call_len_seq (by rfl) L.len boot_len (pa_cons (pv 10) pa_nil)) pa_nil))) (fun _ _ => rfl)) (pe_tup (pa_cons (pe_call L.GD h1 (by rfl) L.gD L.kD L.bD .nil pass0 (pa_cons (pv 2) (pa_cons pe_int pa_nil))) pa_nil)))) (pss_cons (ps_if (pt_cmpR op_eq (pe_call L.GD h1 (by rfl) L.gD L.kD L.bD .nil pass0 (pa_cons (pv 2) (pa_cons pe_int pa_nil))) pe_int (nomark _)) (pss_cons (ps_expr (pe_bm PySem.F.plainAttrs_list PySem.F.slot_list_append PySem.F.type_list_append mt_append (pv 6) (pa_cons (pe_meth0 (pe_ix (r := rIxL K) ix_list (pv 6) (pv 9) (fun _ _ => rfl)) L.al.cl L.mTw L.GTw hr L.bTw .nil pass0) pa_nil))) (pss_one (ps_expr (pe_bm PySem.F.plainAttrs_list PySem.F.slot_list_append PySem.F.type_list_append mt_append (pv 7) (pa_cons (pe_callTy (call_dictT hr.units) (by rfl) L.dict (by decide +kernel) (pa_cons (pe_ix (r := rIxL K) ix_list (pv 7) (pv 9) (fun _ _ => rfl)) pa_nil)) pa_nil))))) (pss_one (ps_if (PW.pt (pw_and (pt_cmpR op_gt (pe_dget2 hu (pe_ix (r := rIxL K) ix_list (pv 7) (pv 9) (fun _ _ => rfl)) (pv 11) pe_int ⟨rfl, rfl, rfl, rfl⟩) pe_int (nomark _)) (pw_and1 (pt_cmpR op_eq (pe_call L.GD h1 (by rfl) L.gD L.kD L.bD .nil pass0 (pa_cons (pv 2) (pa_cons pe_int pa_nil))) pe_int (nomark _))))) (pss_cons (ps_expr (pe_meth (pe_ix (r := rIxL K) ix_list (pv 6) (pv 9) (fun _ _ => rfl)) L.al.cl L.mTk L.GTk h8 L.bTk L.rd2 pass0 (pa_cons (pv 11) pa_nil))) (pss_one (ps_dput hu (pe_ix (r := rIxL K) ix_list (pv 7) (pv 9) (fun _ _ => rfl)) (pv 11) (pe_op op_sub (pe_dget hu (pe_ix (r := rIxL K) ix_list (pv 7) (pv 9) (fun _ _ => rfl)) (pv 11) (fun _ _ => rfl)) pe_int) rfl))) (pss_cons (ps_expr (pe_meth (pe_ix (r := rIxL K) ix_list (pv 6) (pv 9) (fun _ _ => rfl)) L.al.cl L.mPu L.GPu h8 L.bPu L.rd1 pass0 (pa_cons (pv 11) pa_nil))) (pss_one (ps_dput hu (pe_ix (r := rIxL K) ix_list (pv 7) (pv 9) (fun _ _ => rfl)) (pv 11) (pe_op op_add (pe_dget2 hu (pe_ix (r := rIxL K) ix_list (pv 7) (pv 9) (fun _ _ => rfl)) (pv 11) pe_int ⟨rfl, rfl, rfl, rfl⟩) pe_int) rfl)))))) (pss_one (ps_for PassesOwn.never rfl (pi_zipA (by rfl) L.zip (pa_cons (pv 6) (pa_cons (pv 7) pa_nil))) (pg_tup rfl (pgs_cons (pg_name (i := 12) sc_law.nd rfl (Or.inr rfl)) (pgs_cons (pg_name (i := 13) sc_law.nd rfl (Or.inr rfl)) pgs_nil))) (pss_cons (ps_if (PW.pt (pw_or (pt_cmpR (op_neD hr.units) (pe_meth0 (pv 12) L.al.cl L.mAo L.GAo h1 L.bAo .nil pass0) (pe_call L.GA h1 (by rfl) L.gA L.kA L.bA .nil pass0 (pa_cons (pv 13) pa_nil)) (nomark _)) (pw_or (pt_cmpR (op_neD hr.units) (pe_meth0 (pv 12) L.al.cl L.mBo L.GBo h1 L.bBo .nil pass0) (pv 3) (nomark _)) (pw_or1 (pt_cmpR op_ne (pe_meth0 (pv 12) L.al.cl L.mCl L.GCl h1 L.bCl .nil pass0) (pv 4) (nomark _)))))) (pss_one (ps_ret pe_bl)) pss_nil) (pss_one (ps_if (pt_cmpR (op_neD hr.units) (pe_lc (own := [("_law_other", 14)]) (g := gName 14) (tt := tYes) (te := tOp (rOwnEq C (spEqA C) E0) (tVar 12) (tVar 14)) rfl sc_law.nd (pi_list (pv 6)) (blkOk_by (N := nLaw) (sc := defScope stLaw) (by decide +kernel)) (fun _ _ _ _ _ => pg_name (i := 14) sc_law.nd rfl (Or.inl rfl)) (fun _ _ _ _ _ => pts_nil) (fun _ _ _ _ _ => by exact pe_cmpR (op_ownEq L.ow L.GE h1 L.bE pass0) (pv 12) (pv 14) (nomark _))) (pe_lc (own := [("_law_row", 15)]) (g := gName 15) (tt := tYes) (te := tOp (L2.rEqD K) (tCall spAll0 [] E0 (tCons (tVar 13) tNil)) (tCall spAll0 [] E0 (tCons (tVar 15) tNil))) rfl sc_law.nd (pi_list (pv 7)) (blkOk_by (N := nLaw) (sc := defScope stLaw) (by decide +kernel)) (fun _ _ _ _ _ => pg_name (i := 15) sc_law.nd rfl (Or.inl rfl)) (fun _ _ _ _ _ => pts_nil) (fun _ _ _ _ _ => by exact pe_cmpR (r := L2.rEqD K) (op_eqD (by exact hr.units)) (pe_call L.GA h1 (by rfl) L.gA L.kA L.bA .nil pass0 (pa_cons (pv 13) pa_nil)) (pe_call L.GA h1 (by rfl) L.gA L.kA L.bA .nil pass0 (pa_cons (pv 15) pa_nil)) (nomark _))) (nomark _)) (pss_one (ps_ret pe_bl)) pss_nil)))))))))) (pss_one (ps_if (pt_cmpR (op_neD hr.units) (LamX.pe_lamcall (T := tabT PT f code) (t := fun E => tMeth C "take" (spTakR C CS) [] E (tOp (rIxL K) (tVar 6) (tC (.int 0))) (tCons (tTup (tCons (tC (.int 0)) (tCons (tC (.int 0)) (tCons (tC (.int 0)) tNil)))) (tCons (tOp (rI CPow fun i j => .int (i ^ j.toNat)) (tC (.int 10)) (tC (.int 39))) tNil))) (k := 8) (by rfl) L.gW L.kW lkW hcW bW sc_wrd rfl (Or.inl rfl) (word_short L.wd) TB rfl (by exact List.mem_singleton.mpr rfl) (fun p hp _ => by rw [List.mem_singleton.mp hp]; rfl) hr (LamX.lamS_by (sc := defScope stLaw) (by decide +kernel)) (by rfl) (fun _ _ _ _ _ => rfl) (fun A outer s H E f c' hrr => by exact pe_meth (pe_ix (r := rIxL K) ix_list (pv 6) pe_int (fun _ _ => rfl)) L.al.cl L.mTk L.GTkR hrr L.bTk3 .nil (passes_call (W := fun cls d _ H => E cls d H) (takes_of rfl rfl rfl rfl) fun _ _ _ _ h => h) (pa_cons (pe_tup (pa_cons pe_int (pa_cons pe_int (pa_cons pe_int pa_nil)))) (pa_cons (pe_op op_pow pe_int pe_int) pa_nil)))) (pe_tup (pa_cons pe_str (pa_cons (pe_op op_sub (pe_op op_pow pe_int pe_int) (pe_dget2 hu (pe_ix (r := rIxL K) ix_list (pv 7) pe_int (fun _ _ => rfl)) (pe_tup (pa_cons pe_int (pa_cons pe_int (pa_cons pe_int pa_nil)))) pe_int ⟨rfl, rfl, rfl, rfl⟩)) pa_nil))) (nomark _)) (pss_one (ps_ret pe_bl)) pss_nil)))))))) (pss_one (ps_ret pe_bl)), ?_⟩
      have tb0 : LamX.Tabs (tabT PT f code) H := fun p hp => by
        rw [List.mem_singleton.mp hp]
        exact LamX.TabS.nil hPT
      have nmok : ∀ n ∈ namesL, NameOk n := fun n hn => by
        simp only [namesL, List.mem_cons, List.not_mem_nil, or_false] at hn
        rcases hn with rfl | rfl | rfl | rfl | rfl <;> exact ⟨by decide, by decide +kernel⟩
      refine ⟨_, rfl, a, _, rfl, .inl hS, _, _, rfl, _, _, rfl, _, rfl, by rw [List.length_map]; split <;> (try split) <;> omega, by rw [List.length_map]; split <;> (try split) <;> omega, ?_⟩
      refine for_range (lo := 0) (fun i σ H' => ∃ (v1 v2 v3 v4 v5 v6 v7 v8 v9 v10 v11 v12 v13 v14 v15 : Option V), σ = [some (.ref a), v1, v2, v3, v4, v5, v6, v7, v8, v9, v10, v11, v12, v13, v14, v15] ∧ SqL K H' a (ns.map V.int) ∧ LamX.Tabs (tabT PT f code) H')
        ⟨none, none, none, none, none, none, none, none, none, none, none, none, none, none, none, rfl, hS, tb0⟩ ?turn ?fin
      case fin =>
        rintro σ H' ⟨v1, v2, v3, v4, v5, v6, v7, v8, v9, v10, v11, v12, v13, v14, v15, rfl, _, _⟩
        exact q H'
      case turn =>
      rintro i σ H0 hi ⟨v1, v2, v3, v4, v5, v6, v7, v8, v9, v10, v11, v12, v13, v14, v15, rfl, hS0, tb⟩
      refine seqset ⟨_, rfl, _, rfl, a, ns, i, (by rw [Int.zero_add]; rfl), hS0, fun z => ⟨z, rfl, fun pn H1 npn pen1 but1 => ?_⟩⟩
      have s01 : Same H0 H1 := fun c o e => by rw [but1 c (ne_of_none e npn)]; exact e
      refine ⟨_, rfl, pn, rfl, pen1, fun H2 b sets k2 pen2 bk2 => ⟨_, rfl, pn, rfl, pen2, fun nm H3 hn k3 pen3 => ⟨_, _, rfl, ?_⟩⟩⟩
      have nOk := nmok nm hn
      have bk3 := bk2.keep k3 pen2
      try dsimp only
      refine seqset ⟨_, rfl, _, rfl, pn, b, 6, sets, rfl, by decide, by decide, pen3, bk3, fun H4 t as ss k4 pen4 ht4 pr4 so4 lz4 => ?_⟩
      have bk4 := bk3.keep k4 pen3
      try dsimp only
      refine ⟨_, rfl, _, rfl, _, rfl, fun x dx hx hdx hxd => ?_⟩
      have s5 : Same H4 (upd (upd H4 dx (.own x)) x (.ins C dx [])) := fun c o e => by rw [upd_ne (ne_of_none e hx), upd_ne (ne_of_none e hdx)]; exact e
      refine ⟨x, dx, b, t, nm, sets, as, ss, rfl, upd_same, bk4.same s5, nOk, s5 _ _ ht4, st_same s5 pr4, so4, lz4, fun H5 d k5 nd5 al5 => ⟨rfl, by show 1 ≤ sizeLine; decide, fun la hla => ?_⟩⟩
      have s45 : Same H4 H5 := fun c o e => k5 c o (ne_of_none e hx) (s5 _ _ e)
      have s6 : Same H5 (upd H5 la (.lst [.ref x])) := same_upd hla
      have s46 := s45.trans s6
      refine ⟨_, rfl, t, as, ss, rfl, s46 _ _ ht4, st_same s46 pr4, lz4, fun H7 dc s7 ndc hdc => ⟨by show 1 ≤ sizeLine; decide, fun lr hlr => ⟨by show 2 ≤ sizeLine; decide, fun tp htp => ?_⟩⟩⟩
      refine ⟨tp, _, rfl, SqT.of upd_same, rfl, _, _, rfl, _, _, rfl, rfl, ?_⟩
      have s8 : Same H7 (upd H7 lr (.lst [.ref dc])) := same_upd hlr
      have s9 : Same (upd H7 lr (.lst [.ref dc])) (upd (upd H7 lr (.lst [.ref dc])) tp (.tup [.ref la, .ref lr])) := same_upd htp
      have s79 := s8.trans s9
      have s69 := s7.trans s79
      have s49 := s46.trans s69
      have hla6 : (upd H5 la (.lst [.ref x])) la = some (.lst [.ref x]) := upd_same
      have pen5 := pen_same s45 pen4
      have pen7 := pen_same s7 (pen_same s6 pen5)
      have okc : CtOk sets (countsM ss) := CtOk.of so4
      have st9 : St8 C (upd (upd H7 lr (.lst [.ref dc])) tp (.tup [.ref la, .ref lr])) pn b la lr nm sets (400 + ((0 : Nat) : Int)) [⟨x, d, dc, countsM ss, countsM ss⟩] := by
        refine ⟨pen_same s79 pen7, bk4.same s49, s69 _ _ hla6, s9 _ _ upd_same, pen_ne_none pen5 hla, pen_ne_none pen7 hlr, ne_of_none (s7 _ _ hla6) hlr, fun j e he => ?_, fun i j e g he hg => ?_, fun i j e g he hg ne => ?_⟩
        · cases j with
          | succ j => cases he
          | zero =>
            cases he
            refine ⟨al5.same (s6.trans s69), okc, s79 _ _ hdc, RsOk.of okc, fun _ => rfl, fun s => ?_⟩
            rw [cnt_counts]
            unfold cnt1
            have := List.length_filter_le (fun z => decide (z = s)) ss
            show ((List.filter _ ss).length : Int) ≤ _
            omega
        · cases i with
          | succ i => cases he
          | zero =>
            cases j with
            | succ j => cases hg
            | zero =>
              cases he
              cases hg
              exact ne_of_none (s6 _ _ al5.dc) ndc
        · cases i with
          | succ i => cases he
          | zero =>
            cases j with
            | succ j => cases hg
            | zero => exact absurd rfl ne
      have h04 : Same H0 H4 := fun c o e =>
        have hc : c ≠ pn := ne_of_none e npn
        k4 _ _ hc (k3 _ _ hc (k2 _ _ hc (s01 _ _ e)))
      have fr9 : Fr8 H0 la lr [⟨x, d, dc, countsM ss, countsM ss⟩] := by
        refine ⟨none_back (h04.trans s45) hla, none_back (h04.trans (s46.trans s7)) hlr, fun j e he => ?_⟩
        cases j with
        | succ j => cases he
        | zero =>
          cases he
          exact ⟨none_back (h04.trans s5) nd5, none_back (h04.trans s46) ndc⟩
      have s09 : Same H0 (upd (upd H7 lr (.lst [.ref dc])) tp (.tup [.ref la, .ref lr])) := fun c o e =>
        have hc : c ≠ pn := ne_of_none e npn
        s49 _ _ (k4 _ _ hc (k3 _ _ hc (k2 _ _ hc (s01 _ _ e))))
      generalize upd (upd H7 lr (.lst [.ref dc])) tp (.tup [.ref la, .ref lr]) = H9 at st9 s09 ⊢
      clear h04 s79 s69 s49 hla6 pen5 pen7 s9 s8 htp hlr hdc ndc s7 s46 s6 hla al5 nd5 k5 s45 s5 hxd hdx hx bk4 pr4 ht4 pen4 k4 bk3 pen3 k3 bk2 pen2 k2 but1 pen1 s01
      try dsimp only
      have b1 := st9.bk.1.len1
      refine ⟨_, rfl, by decide, by decide, ?_⟩
      refine for_range (lo := 0) (n := 12) (fun i σ G => ∃ w1 w8 w9 w10 w11 w12 w13 w14 w15 : Option V, σ = [some (.ref a), w1, some (.ref pn), some (.ref b), some (.str nm), some (.ref t), some (.ref la), some (.ref lr), w8, w9, w10, w11, w12, w13, w14, w15] ∧ Same H0 G ∧ ∃ E, St8 C G pn b la lr nm sets (400 + (i : Int)) E ∧ Fr8 H0 la lr E ∧ E.length ≤ 1 + i ∧ 1 ≤ E.length)
        ⟨_, _, _, _, _, _, _, _, _, rfl, s09, _, st9, fr9, Nat.le_refl _, Nat.le_refl _⟩ ?lap ?after
      case lap =>
        rintro ii σ G hii ⟨w1, w8, w9, w10, w11, w12, w13, w14, w15, rfl, s0, EE, x8, fr, le1, ge1⟩
        try dsimp only
        refine seqset ⟨_, rfl, _, rfl, la, _, rfl, .inl (SqL.of x8.hla), pn, _, rfl, by rw [List.length_map]; omega, by rw [List.length_map]; omega, x8.pen, fun r G1 r0 r1 pen1 but1 => ?_⟩
        rw [List.length_map] at r1
        obtain ⟨k, rfl, hk⟩ : ∃ k : Nat, r = (k : Int) ∧ k < EE.length := ⟨r.toNat, by omega, by omega⟩
        obtain ⟨e, he⟩ : ∃ e, EE[k]? = some e := ⟨_, List.getElem?_eq_getElem hk⟩
        have x1 := x8.keep but1.keep pen1
        have k01 : ∀ {c : Addr} {o : HO}, H0 c = some o → c ≠ pn := fun e => ne_of_none e npn
        have s1 : Same H0 G1 := fun c o e => but1.keep _ _ (k01 e) (s0 _ _ e)
        try dsimp only
        refine seqset ⟨_, rfl, b, sets, rfl, x1.bk, fun G2 lp pls g2 nlp hlp prl => ?_⟩
        have x2 := x1.same g2
        have okB := x2.bk.1
        have b0 := okB.len0
        have pll := placesM_len sets 0 okB.ok
        have plen : pls.length = (placesM 0 sets).length := Paired.length prl
        have nlpp : lp ≠ pn := pen_ne_none pen1 nlp
        try dsimp only
        refine seqset ⟨_, rfl, _, rfl, _, rfl, lp, _, rfl, .inl (SqL.of hlp), pn, _, rfl, by rw [List.length_map]; omega, by rw [List.length_map]; omega, x2.pen, fun r2 G3 r20 r21 pen3 but3 => ?_⟩
        rw [List.length_map] at r21
        obtain ⟨m, rfl, hm⟩ : ∃ m : Nat, r2 = (m : Int) ∧ m < pls.length := ⟨r2.toNat, by omega, by omega⟩
        obtain ⟨qa, hqa⟩ : ∃ qa, pls[m]? = some qa := ⟨_, List.getElem?_eq_getElem hm⟩
        obtain ⟨pl, hpl, hat⟩ := Paired.gl prl hqa
        have hplm := List.mem_of_getElem? hpl
        have x3 := x2.keep but3.keep pen3
        have hlp3 : G3 lp = some (.lst (pls.map V.ref)) := by rw [but3 lp nlpp]; exact hlp
        have hat3 : PlAt G3 qa pl := but3.keep _ _ (pen_ne x2.pen hat fun _ z => by cases z) hat
        refine ⟨lp, _, _, .ref qa, rfl, rfl, SqL.of hlp3, atI_nat (by rw [List.getElem?_map, hqa]; rfl), ?_⟩
        refine ⟨_, rfl, pn, 2, rfl, by decide, by decide, pen3, fun g G4 g0 g1 pen4 but4 => ⟨by show 1 ≤ sizeLine; decide, fun q1 hq1 => ?_⟩⟩
        have x4 := x3.keep but4.keep pen4
        have hat4 : PlAt G4 qa pl := but4.keep _ _ (pen_ne x3.pen hat3 fun _ z => by cases z) hat3
        have g5 : Same G4 (upd G4 q1 (.tup [.int g])) := same_upd hq1
        refine ⟨qa, q1, _, _, rfl, rfl, SqT.of (g5 _ _ hat4), SqT.of upd_same, (fun z => by cases z), by show 3 ≤ sizeLine; decide, ⟨fun z => (by cases z), fun _ q2 hq2 => ?_⟩⟩
        have g6 := g5.trans (same_upd (o := .tup ([V.int pl.1, V.int pl.2] ++ [V.int g])) hq2)
        have x6 := x4.same g6
        have hst6 : StAt (upd (upd G4 q1 (.tup [.int g])) q2 (.tup ([V.int pl.1, V.int pl.2] ++ [V.int g]))) q2 (pl.1, pl.2, g) := upd_same
        have so6 : StOk sets (pl.1, pl.2, g) := ⟨hplm, g0, by show g ≤ 1; omega⟩
        have s6 : Same H0 (upd (upd G4 q1 (.tup [.int g])) q2 (.tup ([V.int pl.1, V.int pl.2] ++ [V.int g]))) := fun c o e => g6 _ _ (but4.keep _ _ (k01 e) (but3.keep _ _ (k01 e) (g2 _ _ (s1 _ _ e))))
        generalize upd (upd G4 q1 (.tup [.int g])) q2 (.tup ([V.int pl.1, V.int pl.2] ++ [V.int g])) = G6 at x6 hst6 s6 ⊢
        generalize hss : ((pl.1, pl.2, g) : StT) = ss8 at hst6 so6
        clear g6 g5 hq1 hq2 hat4 x4 pen4 but4 hat3 hlp3 x3 hpl hat hqa hm pen3 but3 r20 r21 nlpp plen pll x2 prl hlp nlp g2 s1 x1 but1 pen1 r0 r1 x8 s0
        try dsimp only
        have bN : (400 : Int) + (ii : Int) ≤ 400 + ((ii + 1 : Nat) : Int) := by omega
        have hno : ∀ {b : Addr} {n : Str} {d : Addr} {m : Str}, ¬ m = "_many" → ¬ m = "_name" → ¬ m = "_book" → (albF b n d).lookup m = none := fun h1 h2 h3 => albF_no _ _ _ h1 h2 h3
        refine seqJ (fun σ' G' => ∃ w1 w8 w9 w10 w11 w12 w13 w14 w15 : Option V, σ' = [some (.ref a), w1, some (.ref pn), some (.ref b), some (.str nm), some (.ref t), some (.ref la), some (.ref lr), w8, w9, w10, w11, w12, w13, w14, w15] ∧ Same H0 G' ∧ ∃ E', St8 C G' pn b la lr nm sets (400 + ((ii + 1 : Nat) : Int)) E' ∧ Fr8 H0 la lr E' ∧ E'.length ≤ 1 + (ii + 1) ∧ 1 ≤ E'.length) ?five ?four
        case five =>
          clear hst6 so6 he hk x6 s6
          rintro σ' G' ⟨w1, w8, w9, w10, w11, w12, w13, w14, w15, rfl, s0, FF, x, fr2, le2, ge2⟩
          have okB := x.bk.1
          try dsimp only
          refine ⟨_, rfl, _, rfl, la, lr, _, _, rfl, .inl ⟨SqL.of x.hla, SqL.of x.hlr, ?_⟩⟩
          refine for_it (walk_zip (K := K) (a := la) (b := lr) (xs := FF.map fun e => V.ref e.p) (ys := FF.map fun e => V.ref e.r) (n := FF.length) (by simp)) (fun j σ G => (∃ w1 w8 w9 w10 w11 w12 w13 w14 w15 : Option V, σ = [some (.ref a), w1, some (.ref pn), some (.ref b), some (.str nm), some (.ref t), some (.ref la), some (.ref lr), w8, w9, w10, w11, w12, w13, w14, w15]) ∧ Same G' G)
            ⟨⟨_, _, _, _, _, _, _, _, _, rfl⟩, fun _ _ e => e⟩ (fun j σ G _ pv => ⟨SqL.of (pv.2 _ _ x.hla), SqL.of (pv.2 _ _ x.hlr)⟩) (fun j y σ G G2 hj pv yy => ?_) (fun σ G pv => ?_)
          · obtain ⟨⟨w1, w8, w9, w10, w11, w12, w13, w14, w15, rfl⟩, sG⟩ := pv
            obtain ⟨T, x1, y1, rfl, hT, rfl, ex, ey⟩ := yy
            obtain ⟨f8, hf⟩ : ∃ f8, FF[j]? = some f8 := ⟨_, List.getElem?_eq_getElem hj⟩
            have ex : (FF.map fun e => V.ref e.p)[j]? = some x1 := ex
            have ey : (FF.map fun e => V.ref e.r)[j]? = some y1 := ey
            rw [List.getElem?_map, hf] at ex ey
            cases ex
            cases ey
            have gT := same_upd (o := .tup [V.ref f8.p, V.ref f8.r]) hT
            have sT := sG.trans gT
            refine ⟨T, _, rfl, SqT.of upd_same, rfl, _, _, rfl, _, _, rfl, rfl, ?_⟩
            have xT := x.same sT
            generalize upd G T (.tup [V.ref f8.p, V.ref f8.r]) = G2 at gT sT xT ⊢
            have en := xT.en j f8 hf
            have lc := en.ok.len okB
            have lr8 := en.ro.len okB
            obtain ⟨⟨dx, hp⟩, _⟩ := id en.al
            try dsimp only
            refine ⟨_, rfl, f8.p, dx, _, rfl, hp, hno (by decide +kernel) (by decide +kernel) (by decide +kernel), f8.p, b, f8.d, nm, f8.cs, rfl, en.al, by omega, fun G3 l3 rs3 g3 _ hl3 pr3 => ?_⟩
            refine ⟨_, rfl, f8.r, f8.rs, rfl, g3 _ _ en.rw_, by omega, fun G4 l4 rs4 g4 _ hl4 pr4 => ?_⟩
            rw [rise_pos en.ok en.ro en.cn] at pr4
            refine ⟨rowsD (riseM f8.cs), rowsD (riseM f8.cs), dp_rows (g4 _ _ hl3) (rows_same g4 pr3), dp_rows hl4 pr4, shaped_of (lay_rows _) (depth_rows _) (by decide), shaped_of (lay_rows _) (depth_rows _) (by decide), _, rfl, ?_⟩
            rw [eqv_self (lay_rows _)]
            have s34 := g3.trans g4
            have x4 := xT.same s34
            have en4 := x4.en j f8 hf
            have hp4 := s34 _ _ hp
            refine iteF ⟨_, rfl, f8.p, dx, _, rfl, hp4, hno (by decide +kernel) (by decide +kernel) (by decide +kernel), f8.p, b, f8.d, nm, f8.cs, rfl, en4.al, _, rfl, bookD sets, bookD sets, dp_book x4.bk, dp_book x4.bk, shaped_of (lay_book okB) (depth_book _) (by decide), shaped_of (lay_book okB) (depth_book _) (by decide), _, rfl, ?_⟩
            rw [eqv_self (lay_book okB)]
            refine iteF ⟨_, rfl, f8.p, dx, _, rfl, hp4, hno (by decide +kernel) (by decide +kernel) (by decide +kernel), f8.p, b, f8.d, nm, f8.cs, rfl, en4.al, _, rfl, rfl, _, rfl, ite2 (fun c => absurd c (by simp)) (fun _ => ?_)⟩
            have sT4 := sT.trans s34
            clear pr4 pr3 hl3 hl4 en hp s34 g3 g4 xT sT gT hT
            try unfold tNext
            try dsimp only
            refine ⟨_, rfl, la, rfl, ⟨_, SqL.of x4.hla⟩, fun D1 hD1 => ?_⟩
            refine lc_list (K := K) (xs := FF.map fun e => V.ref e.p) (fun i H' => Same G4 H' ∧ H' D1 = some (.lst (((FF.take i).map fun h => eqM f8.cs h.cs).map V.bl))) ⟨same_upd hD1, upd_same⟩ (fun i H' _ pv => SqL.of (pv.1 _ _ x4.hla)) (fun i y H' hy pv => ?_) (fun G5 pv => ?_)
            · obtain ⟨sm, hDi⟩ := pv
              rw [List.getElem?_map] at hy
              obtain ⟨h, hh, rfl⟩ : ∃ h, FF[i]? = some h ∧ V.ref h.p = y := by
                cases e1 : FF[i]? with
                | none =>
                  rw [e1] at hy
                  cases hy
                | some h =>
                  rw [e1] at hy
                  exact ⟨h, rfl, Option.some.inj hy⟩
              have x5 := x4.same sm
              have enf := x5.en j f8 hf
              have enh := x5.en i h hh
              obtain ⟨⟨dxf, hpf⟩, _⟩ := id enf.al
              obtain ⟨⟨dxh, hph⟩, _⟩ := id enh.al
              have hi5 := (List.getElem?_eq_some_iff.mp hh).1
              refine ⟨rfl, yesT ⟨_, rfl, _, rfl, f8.p, h.p, dxf, dxh, _, _, rfl, rfl, hpf, hph, f8.p, b, f8.d, h.p, b, h.d, nm, nm, f8.cs, h.cs, sets, rfl, enf.al, enh.al, x5.bk, x5.bk, _, hDi, by rw [List.length_map, List.length_map, List.length_take]; exact small1000 (by omega), fun c o e => ?_, ?_⟩⟩
              · rw [upd_ne (ne_of_none e hD1)]
                exact sm _ _ e
              · rw [upd_same, List.take_add_one, hh, List.map_append, List.map_append]
                rfl
            obtain ⟨s45, hD5⟩ := pv
            rw [List.length_map, List.take_length] at hD5
            have x5 := x4.same s45
            refine ⟨_, rfl, lr, rfl, ⟨_, SqL.of x5.hlr⟩, fun D2 hD2 => ?_⟩
            refine lc_list (K := K) (xs := FF.map fun e => V.ref e.r) (fun i H' => Same G5 H' ∧ H' D2 = some (.lst (((FF.take i).map fun h => decide (riseM f8.cs = riseM h.cs)).map V.bl))) ⟨same_upd hD2, upd_same⟩ (fun i H' _ pv => SqL.of (pv.1 _ _ x5.hlr)) (fun i y H' hy pv => ?_) (fun G6 pv => ?_)
            · obtain ⟨sm, hDi⟩ := pv
              rw [List.getElem?_map] at hy
              obtain ⟨h, hh, rfl⟩ : ∃ h, FF[i]? = some h ∧ V.ref h.r = y := by
                cases e1 : FF[i]? with
                | none =>
                  rw [e1] at hy
                  cases hy
                | some h =>
                  rw [e1] at hy
                  exact ⟨h, rfl, Option.some.inj hy⟩
              have x6 := x5.same sm
              have enf := x6.en j f8 hf
              have enh := x6.en i h hh
              have lf := enf.ro.len okB
              have lh := enh.ro.len okB
              have hi5 := (List.getElem?_eq_some_iff.mp hh).1
              refine ⟨rfl, yesT ⟨_, rfl, f8.r, f8.rs, rfl, enf.rw_, by omega, fun Ga la1 rsa ga _ hla1 pra => ⟨_, rfl, h.r, h.rs, rfl, ga _ _ enh.rw_, by omega, fun Gb lb1 rsb gb _ hlb1 prb => ?_⟩⟩⟩
              rw [rise_pos enf.ok enf.ro enf.cn] at pra
              rw [rise_pos enh.ok enh.ro enh.cn] at prb
              refine ⟨rowsD (riseM f8.cs), rowsD (riseM h.cs), dp_rows (gb _ _ hla1) (rows_same gb pra), dp_rows hlb1 prb, shaped_of (lay_rows _) (depth_rows _) (by decide), shaped_of (lay_rows _) (depth_rows _) (by decide), _, gb _ _ (ga _ _ hDi), by rw [List.length_map, List.length_map, List.length_take]; exact small1000 (by omega), fun c o e => ?_, ?_⟩
              · rw [upd_ne (ne_of_none e hD2)]
                exact gb _ _ (ga _ _ (sm _ _ e))
              · rw [upd_same, List.take_add_one, hh, List.map_append, List.map_append, eqv_rowsB]
                rfl
            obtain ⟨s56, hD6⟩ := pv
            rw [List.length_map, List.take_length] at hD6
            have eb : (FF.map fun h => eqM f8.cs h.cs) = FF.map fun h => decide (riseM f8.cs = riseM h.cs) := List.map_congr_left fun h hh => by
              obtain ⟨i, hi⟩ := List.getElem?_of_mem hh
              exact eqM_rise (x5.en j f8 hf).ok (x5.en i h hi).ok
            rw [eb] at hD5
            have layb : (PyData.list ((FF.map fun h => decide (riseM f8.cs = riseM h.cs)).map PyData.bool)).canLay0 = true := by
              show PyData.canLayAll0 _ = true
              exact lay_all PyData.bool (fun _ => rfl) _
            have depb : (PyData.list ((FF.map fun h => decide (riseM f8.cs = riseM h.cs)).map PyData.bool)).depth ≤ 2 := by
              have := depth_all PyData.bool (m := 1) (fun _ => by simp [PyData.depth]) (FF.map fun h => decide (riseM f8.cs = riseM h.cs))
              simp only [PyData.depth]
              omega
            refine ⟨.list ((FF.map fun h => decide (riseM f8.cs = riseM h.cs)).map PyData.bool), .list ((FF.map fun h => decide (riseM f8.cs = riseM h.cs)).map PyData.bool), .lst (SqL.of (s56 _ _ hD5)) (dpall_map V.bl PyData.bool _ fun v _ => .bl v), .lst (SqL.of hD6) (dpall_map V.bl PyData.bool _ fun v _ => .bl v), shaped_of layb depb (by decide), shaped_of layb depb (by decide), _, rfl, ?_⟩
            rw [eqv_self layb]
            refine iteF ?_
            exact ⟨⟨_, _, _, _, _, _, _, _, _, rfl⟩, sT4.trans (s45.trans s56)⟩
          · obtain ⟨⟨w1, w8, w9, w10, w11, w12, w13, w14, w15, rfl⟩, sG⟩ := pv
            exact ⟨_, _, _, _, _, _, _, _, _, rfl, s0.trans sG, FF, x.same sG, fr2, le2, ge2⟩
        case four =>
          intro hJ
          refine ⟨_, rfl, pn, 4, rfl, by decide, by decide, x6.pen, fun r4 G7 _ _ pen7 but7 => ⟨rfl, _, rfl, ite2 (fun _ => ?_) (fun _ => ?_)⟩⟩
          · have x7 := x6.keep but7.keep pen7
            have s7 : Same H0 G7 := fun c o ec => but7.keep _ _ (k01 ec) (s6 _ _ ec)
            have en7 := x7.en k e he
            obtain ⟨⟨dxe, hpe⟩, _⟩ := id en7.al
            refine ⟨_, rfl, .inl ⟨rfl, _, SqL.of x7.hla⟩, _, rfl, _, rfl, la, _, _, .ref e.p, rfl, rfl, SqL.of x7.hla, atI_nat (by rw [List.getElem?_map, he]; rfl), e.p, dxe, _, rfl, hpe, hno (by decide +kernel) (by decide +kernel) (by decide +kernel), e.p, b, e.d, nm, e.cs, sets, rfl, en7.al, x7.bk, nOk, en7.ok, fun G8 p8 d8 g8 np8 nd8 al8 => ⟨la, _, _, rfl, rfl, g8 _ _ x7.hla, by rw [List.length_map]; exact small1000 (by omega), ?_⟩⟩
            have hla8 := g8 _ _ x7.hla
            have hlr9 : (upd G8 la (.lst (EE.map (fun e => V.ref e.p) ++ [.ref p8]))) lr = some (.lst (EE.map fun e => V.ref e.r)) := by
              rw [upd_ne (Ne.symm x7.nab)]
              exact g8 _ _ x7.hlr
            have hr9 : (upd G8 la (.lst (EE.map (fun e => V.ref e.p) ++ [.ref p8]))) e.r = some (.dT (e.rs.map entC)) := by
              have z := g8 _ _ en7.rw_
              rw [upd_ne (fun w => by rw [w, hla8] at z; cases z)]
              exact z
            try dsimp only
            refine ⟨_, rfl, .inl ⟨rfl, _, SqL.of hlr9⟩, _, rfl, _, rfl, lr, _, _, .ref e.r, rfl, rfl, SqL.of hlr9, atI_nat (by rw [List.getElem?_map, he]; rfl), e.r, _, rfl, hr9, hash_nd okB en7.ro.nd en7.ro.st, fun r9 hr9n => ⟨lr, _, _, rfl, rfl, (same_upd hr9n) _ _ hlr9, by rw [List.length_map]; exact small1000 (by omega), ?_⟩⟩
            have nla9 : la ≠ r9 := ne_of_none upd_same hr9n
            have nlr9 : lr ≠ r9 := ne_of_none hlr9 hr9n
            have hlrA := (same_upd (o := .dT (e.rs.map entC)) hr9n) _ _ hlr9
            have g8r : G8 r9 = none := by
              rw [upd_ne (Ne.symm nla9)] at hr9n
              exact hr9n
            have hh : ∀ c o, c ≠ la → c ≠ lr → G7 c = some o → (upd (upd (upd G8 la (.lst (EE.map (fun e => V.ref e.p) ++ [.ref p8]))) r9 (.dT (e.rs.map entC))) lr (.lst (EE.map (fun e => V.ref e.r) ++ [.ref r9]))) c = some o := fun c o n1 n2 ec => by
              have z := g8 _ _ ec
              rw [upd_ne n2, upd_ne (ne_of_none z g8r), upd_ne n1]
              exact z
            refine hJ _ _ ⟨_, _, _, _, _, _, _, _, _, rfl, fun c o ec => hh c o (ne_of_none ec fr.fla) (ne_of_none ec fr.flr) (s7 _ _ ec), EE ++ [⟨p8, d8, r9, riseM e.cs, e.rs⟩], St8.push (x7.up bN) ?_ ?_ hh ?_ upd_same ?_ nd8 (none_back g8 g8r) (ne_of_none al8.dc g8r), fr.push (none_back s7 nd8) (none_back (s7.trans g8) g8r), by rw [List.length_append]; simp; omega, by rw [List.length_append]; simp⟩
            · obtain ⟨a1, a2, a3, a4, ep, rr⟩ := x7.pen
              exact ⟨a1, a2, a3, a4, hh _ _ (Ne.symm x7.nla) (Ne.symm x7.nlr) ep, rr⟩
            · exact (((x7.bk.same g8).updL hla8).same (same_upd hr9n)).updL hlrA
            · rw [upd_ne x7.nab, upd_ne nla9, upd_same]
            · refine ⟨((al8.updL hla8).same (same_upd hr9n)).updL hlrA, en7.ok.rise, by rw [upd_ne (Ne.symm nlr9)]; exact upd_same, en7.ro, fun s => by rw [← en7.cn]; exact cnt_rise en7.ok.nd s, fun s => ?_⟩
              have h1 := en7.mx s
              show cntM (riseM e.cs) s ≤ _
              rw [cnt_rise en7.ok.nd]
              omega
          · have x7 := x6.keep but7.keep pen7
            have s7 : Same H0 G7 := fun c o ec => but7.keep _ _ (k01 ec) (s6 _ _ ec)
            have hst7 : StAt G7 q2 ss8 := but7.keep _ _ (pen_ne x6.pen hst6 fun _ z => by cases z) hst6
            have g2 := DGet.t (k := keyS ss8) (x7.en k e he).rw_ hst7
            rw [valV_ent] at g2
            refine ⟨_, rfl, _, rfl, lr, _, _, .ref e.r, rfl, rfl, SqL.of x7.hlr, atI_nat (by rw [List.getElem?_map, he]; rfl), e.r, rfl, .inr ⟨_, .inl (x7.en k e he).rw_⟩, _, rfl, _, g2, ?_⟩
            rw [getD_ev]
            refine ⟨_, _, rfl, rfl, _, rfl, ite2 (fun hgt0 => ?_) (fun _ => ?_)⟩
            · have hgt : cntM e.rs ss8 > 0 := of_decide_eq_true hgt0
              refine ⟨_, rfl, pn, 2, rfl, by decide, by decide, x7.pen, fun r5 G8 _ _ pen8 but8 => ⟨rfl, _, rfl, ite2 (fun _ => ?_) (fun _ => ?_)⟩⟩
              · have x8 := x7.keep but8.keep pen8
                have s8 : Same H0 G8 := fun c o ec => but8.keep _ _ (k01 ec) (s7 _ _ ec)
                have hst8 : StAt G8 q2 ss8 := but8.keep _ _ (pen_ne x7.pen hst7 fun _ z => by cases z) hst7
                obtain ⟨⟨dxe, hpe⟩, _⟩ := id (x8.en k e he).al
                have ge1' : 1 ≤ cntM e.cs ss8 := by rw [(x8.en k e he).cn]; omega
                refine ⟨_, rfl, _, rfl, la, _, _, .ref e.p, rfl, rfl, SqL.of x8.hla, atI_nat (by rw [List.getElem?_map, he]; rfl), e.p, dxe, _, rfl, hpe, hno (by decide +kernel) (by decide +kernel) (by decide +kernel), _, rfl, e.p, q2, b, e.d, nm, e.cs, sets, ss8, 1, rfl, (x8.en k e he).al, x8.bk, hst8, so6, Int.le_refl _, ge1', (x8.en k e he).ok, fun Gp kp alp => ?_⟩
                have hlap : Gp la = some (.lst (EE.map fun e => V.ref e.p)) := kp _ _ (fun z => by have := (x8.en k e he).al.dc; rw [← z, x8.hla] at this; cases this) x8.hla
                have hlrp : Gp lr = some (.lst (EE.map fun e => V.ref e.r)) := kp _ _ (fun z => by have := (x8.en k e he).al.dc; rw [← z, x8.hlr] at this; cases this) x8.hlr
                have hrp : Gp e.r = some (.dT (e.rs.map entC)) := kp _ _ (Ne.symm (x8.dr k k e e he he)) (x8.en k e he).rw_
                have hqp : Gp q2 = some (.tup [.int ss8.1, .int ss8.2.1, .int ss8.2.2]) := kp _ _ (fun z => by have := (x8.en k e he).al.dc; rw [← z, show _ = _ from hst8] at this; cases this) hst8
                have lrs := (x8.en k e he).ro.len okB
                have g2 := DGet.t (k := keyS ss8) hrp hqp
                have gs : getC e.rs ss8 = some (cntM e.rs ss8) := by
                  unfold cntM at hgt ⊢
                  cases eg : getC e.rs ss8 with
                  | some m => rfl
                  | none =>
                    rw [eg] at hgt
                    exact absurd hgt (by decide)
                rw [valV_ent, gs] at g2
                refine ⟨_, rfl, _, rfl, lr, _, _, .ref e.r, rfl, rfl, SqL.of hlrp, atI_nat (by rw [List.getElem?_map, he]; rfl), _, rfl, e.r, _, rfl, g2, ?_⟩
                refine ⟨_, _, rfl, rfl, _, rfl, _, rfl, lr, _, _, .ref e.r, rfl, rfl, SqL.of hlrp, atI_nat (by rw [List.getElem?_map, he]; rfl), _, rfl, e.r, _, rfl, DPut.t (k := keyS ss8) hrp hqp (by rw [List.length_map]; exact small1000 (by omega)), ?_⟩
                rw [put_entC]
                have penp : PenAt Gp pn := by
                  obtain ⟨a1, a2, a3, a4, ep, rr⟩ := x8.pen
                  exact ⟨a1, a2, a3, a4, kp _ _ (fun z => by have := (x8.en k e he).al.dc; rw [← z, ep] at this; cases this) ep, rr⟩
                have bkp : Book Gp b sets := x8.bk.keepD (x8.en k e he).al.dc kp
                refine hJ _ _ ⟨_, _, _, _, _, _, _, _, _, rfl, fun c o ec => ?_, _, St8.set (x8.up bN) (e := e) (cs := takeC e.cs ss8 1) (rs := putC e.rs ss8 (cntM e.rs ss8 - 1)) he ?_ ?_ (fun c o n1 n2 ec => by rw [upd_ne n2]; exact kp _ _ n1 ec) ?_, fr.set he, by rw [List.length_set]; omega, by rw [List.length_set]; omega⟩
                · rw [upd_ne (ne_of_none ec (fr.fresh k e he).2)]
                  exact kp _ _ (ne_of_none ec (fr.fresh k e he).1) (s8 _ _ ec)
                · obtain ⟨a1, a2, a3, a4, ep, rr⟩ := penp
                  exact ⟨a1, a2, a3, a4, by rw [upd_ne (fun z => by rw [z, hrp] at ep; cases ep)]; exact ep, rr⟩
                · exact bkp.keepD hrp (fun c o n ec => by rw [upd_ne n]; exact ec)
                · refine ⟨?_, (x8.en k e he).ok.takeC so6 ge1', upd_same, (x8.en k e he).ro.put so6 (by omega), fun s => ?_, fun s => ?_⟩
                  · obtain ⟨⟨d1, h1⟩, h2⟩ := alp
                    exact ⟨⟨d1, by rw [upd_ne (fun z => by rw [z, hrp] at h1; cases h1)]; exact h1⟩, by rw [upd_ne (x8.dr k k e e he he)]; exact h2⟩
                  · rw [cnt_take, cnt_put]
                    by_cases z : s = ss8
                    · rw [if_pos z, if_pos z, (x8.en k e he).cn]
                    · rw [if_neg z, if_neg z, (x8.en k e he).cn]
                  · rw [cnt_take]
                    have := (x8.en k e he).mx s
                    have := (x8.en k e he).mx ss8
                    split <;> omega
              · have x8 := x7.keep but8.keep pen8
                have s8 : Same H0 G8 := fun c o ec => but8.keep _ _ (k01 ec) (s7 _ _ ec)
                have hst8 : StAt G8 q2 ss8 := but8.keep _ _ (pen_ne x7.pen hst7 fun _ z => by cases z) hst7
                obtain ⟨⟨dxe, hpe⟩, _⟩ := id (x8.en k e he).al
                refine ⟨_, rfl, _, rfl, la, _, _, .ref e.p, rfl, rfl, SqL.of x8.hla, atI_nat (by rw [List.getElem?_map, he]; rfl), e.p, dxe, _, rfl, hpe, hno (by decide +kernel) (by decide +kernel) (by decide +kernel), _, rfl, e.p, q2, b, e.d, nm, e.cs, sets, ss8, 1, rfl, (x8.en k e he).al, x8.bk, hst8, so6, Int.le_refl _, (x8.en k e he).ok, fun Gp kp alp => ?_⟩
                have hlap : Gp la = some (.lst (EE.map fun e => V.ref e.p)) := kp _ _ (fun z => by have := (x8.en k e he).al.dc; rw [← z, x8.hla] at this; cases this) x8.hla
                have hlrp : Gp lr = some (.lst (EE.map fun e => V.ref e.r)) := kp _ _ (fun z => by have := (x8.en k e he).al.dc; rw [← z, x8.hlr] at this; cases this) x8.hlr
                have hrp : Gp e.r = some (.dT (e.rs.map entC)) := kp _ _ (Ne.symm (x8.dr k k e e he he)) (x8.en k e he).rw_
                have hqp : Gp q2 = some (.tup [.int ss8.1, .int ss8.2.1, .int ss8.2.2]) := kp _ _ (fun z => by have := (x8.en k e he).al.dc; rw [← z, show _ = _ from hst8] at this; cases this) hst8
                have lrs := (x8.en k e he).ro.len okB
                have g2 := DGet.t (k := keyS ss8) hrp hqp
                rw [valV_ent] at g2
                refine ⟨_, rfl, _, rfl, lr, _, _, .ref e.r, rfl, rfl, SqL.of hlrp, atI_nat (by rw [List.getElem?_map, he]; rfl), e.r, rfl, .inr ⟨_, .inl hrp⟩, _, rfl, _, g2, ?_⟩
                rw [getD_ev]
                refine ⟨_, _, rfl, rfl, _, rfl, _, rfl, lr, _, _, .ref e.r, rfl, rfl, SqL.of hlrp, atI_nat (by rw [List.getElem?_map, he]; rfl), _, rfl, e.r, _, rfl, DPut.t (k := keyS ss8) hrp hqp (by rw [List.length_map]; exact small1000 (by omega)), ?_⟩
                rw [put_entC]
                have penp : PenAt Gp pn := by
                  obtain ⟨a1, a2, a3, a4, ep, rr⟩ := x8.pen
                  exact ⟨a1, a2, a3, a4, kp _ _ (fun z => by have := (x8.en k e he).al.dc; rw [← z, ep] at this; cases this) ep, rr⟩
                have bkp : Book Gp b sets := x8.bk.keepD (x8.en k e he).al.dc kp
                refine hJ _ _ ⟨_, _, _, _, _, _, _, _, _, rfl, fun c o ec => ?_, _, St8.set (x8.up bN) (e := e) (cs := addC e.cs (ss8, 1)) (rs := putC e.rs ss8 (cntM e.rs ss8 + 1)) he ?_ ?_ (fun c o n1 n2 ec => by rw [upd_ne n2]; exact kp _ _ n1 ec) ?_, fr.set he, by rw [List.length_set]; omega, by rw [List.length_set]; omega⟩
                · rw [upd_ne (ne_of_none ec (fr.fresh k e he).2)]
                  exact kp _ _ (ne_of_none ec (fr.fresh k e he).1) (s8 _ _ ec)
                · obtain ⟨a1, a2, a3, a4, ep, rr⟩ := penp
                  exact ⟨a1, a2, a3, a4, by rw [upd_ne (fun z => by rw [z, hrp] at ep; cases ep)]; exact ep, rr⟩
                · exact bkp.keepD hrp (fun c o n ec => by rw [upd_ne n]; exact ec)
                · refine ⟨?_, (x8.en k e he).ok.add so6 (Int.le_refl _), upd_same, (x8.en k e he).ro.put so6 (by have := cnt_pos0 (x8.en k e he).ro ss8; omega), fun s => ?_, fun s => ?_⟩
                  · obtain ⟨⟨d1, h1⟩, h2⟩ := alp
                    exact ⟨⟨d1, by rw [upd_ne (fun z => by rw [z, hrp] at h1; cases h1)]; exact h1⟩, by rw [upd_ne (x8.dr k k e e he he)]; exact h2⟩
                  · rw [cnt_add, cnt_put]
                    by_cases z : s = ss8
                    · rw [if_pos z, if_pos z, z, (x8.en k e he).cn]
                    · rw [if_neg z, if_neg z, (x8.en k e he).cn, Int.add_zero]
                  · rw [cnt_add]
                    have := (x8.en k e he).mx s
                    split <;> omega
            · skip
              obtain ⟨⟨dxe, hpe⟩, _⟩ := id (x7.en k e he).al
              refine ⟨_, rfl, _, rfl, la, _, _, .ref e.p, rfl, rfl, SqL.of x7.hla, atI_nat (by rw [List.getElem?_map, he]; rfl), e.p, dxe, _, rfl, hpe, hno (by decide +kernel) (by decide +kernel) (by decide +kernel), _, rfl, e.p, q2, b, e.d, nm, e.cs, sets, ss8, 1, rfl, (x7.en k e he).al, x7.bk, hst7, so6, Int.le_refl _, (x7.en k e he).ok, fun Gp kp alp => ?_⟩
              have hlap : Gp la = some (.lst (EE.map fun e => V.ref e.p)) := kp _ _ (fun z => by have := (x7.en k e he).al.dc; rw [← z, x7.hla] at this; cases this) x7.hla
              have hlrp : Gp lr = some (.lst (EE.map fun e => V.ref e.r)) := kp _ _ (fun z => by have := (x7.en k e he).al.dc; rw [← z, x7.hlr] at this; cases this) x7.hlr
              have hrp : Gp e.r = some (.dT (e.rs.map entC)) := kp _ _ (Ne.symm (x7.dr k k e e he he)) (x7.en k e he).rw_
              have hqp : Gp q2 = some (.tup [.int ss8.1, .int ss8.2.1, .int ss8.2.2]) := kp _ _ (fun z => by have := (x7.en k e he).al.dc; rw [← z, show _ = _ from hst7] at this; cases this) hst7
              have lrs := (x7.en k e he).ro.len okB
              have g2 := DGet.t (k := keyS ss8) hrp hqp
              rw [valV_ent] at g2
              refine ⟨_, rfl, _, rfl, lr, _, _, .ref e.r, rfl, rfl, SqL.of hlrp, atI_nat (by rw [List.getElem?_map, he]; rfl), e.r, rfl, .inr ⟨_, .inl hrp⟩, _, rfl, _, g2, ?_⟩
              rw [getD_ev]
              refine ⟨_, _, rfl, rfl, _, rfl, _, rfl, lr, _, _, .ref e.r, rfl, rfl, SqL.of hlrp, atI_nat (by rw [List.getElem?_map, he]; rfl), _, rfl, e.r, _, rfl, DPut.t (k := keyS ss8) hrp hqp (by rw [List.length_map]; exact small1000 (by omega)), ?_⟩
              rw [put_entC]
              have penp : PenAt Gp pn := by
                obtain ⟨a1, a2, a3, a4, ep, rr⟩ := x7.pen
                exact ⟨a1, a2, a3, a4, kp _ _ (fun z => by have := (x7.en k e he).al.dc; rw [← z, ep] at this; cases this) ep, rr⟩
              have bkp : Book Gp b sets := x7.bk.keepD (x7.en k e he).al.dc kp
              refine hJ _ _ ⟨_, _, _, _, _, _, _, _, _, rfl, fun c o ec => ?_, _, St8.set (x7.up bN) (e := e) (cs := addC e.cs (ss8, 1)) (rs := putC e.rs ss8 (cntM e.rs ss8 + 1)) he ?_ ?_ (fun c o n1 n2 ec => by rw [upd_ne n2]; exact kp _ _ n1 ec) ?_, fr.set he, by rw [List.length_set]; omega, by rw [List.length_set]; omega⟩
              · rw [upd_ne (ne_of_none ec (fr.fresh k e he).2)]
                exact kp _ _ (ne_of_none ec (fr.fresh k e he).1) (s7 _ _ ec)
              · obtain ⟨a1, a2, a3, a4, ep, rr⟩ := penp
                exact ⟨a1, a2, a3, a4, by rw [upd_ne (fun z => by rw [z, hrp] at ep; cases ep)]; exact ep, rr⟩
              · exact bkp.keepD hrp (fun c o n ec => by rw [upd_ne n]; exact ec)
              · refine ⟨?_, (x7.en k e he).ok.add so6 (Int.le_refl _), upd_same, (x7.en k e he).ro.put so6 (by have := cnt_pos0 (x7.en k e he).ro ss8; omega), fun s => ?_, fun s => ?_⟩
                · obtain ⟨⟨d1, h1⟩, h2⟩ := alp
                  exact ⟨⟨d1, by rw [upd_ne (fun z => by rw [z, hrp] at h1; cases h1)]; exact h1⟩, by rw [upd_ne (x7.dr k k e e he he)]; exact h2⟩
                · rw [cnt_add, cnt_put]
                  by_cases z : s = ss8
                  · rw [if_pos z, if_pos z, z, (x7.en k e he).cn]
                  · rw [if_neg z, if_neg z, (x7.en k e he).cn, Int.add_zero]
                · rw [cnt_add]
                  have := (x7.en k e he).mx s
                  split <;> omega
      case after =>
        rintro σ G ⟨w1, w8, w9, w10, w11, w12, w13, w14, w15, rfl, s0, EE, x8, fr, le1, ge1⟩
        have tbG := tabs_same tb s0
        obtain ⟨e, he⟩ : ∃ e, EE[0]? = some e := ⟨_, List.getElem?_eq_getElem (by omega)⟩
        have en := x8.en 0 e he
        have okB := x8.bk.1
        have b0 := okB.len0
        have so0 : StOk sets (0, 0, 0) := by
          obtain ⟨z0, hz0⟩ : ∃ z0, sets[0]? = some z0 := ⟨_, List.getElem?_eq_getElem b0⟩
          have so := okB.ok z0 (List.mem_of_getElem? hz0)
          have m0 := so.m0
          exact ⟨placesM_mem.mpr ⟨0, z0, hz0, rfl, 0, by omega, rfl⟩, Int.le_refl _, by show (0 : Int) ≤ 1; decide⟩
        have hno : ∀ {b : Addr} {n : Str} {d : Addr} {m : Str}, ¬ m = "_many" → ¬ m = "_name" → ¬ m = "_book" → (albF b n d).lookup m = none := fun h1 h2 h3 => albF_no _ _ _ h1 h2 h3
        try dsimp only
        refine ⟨tbG, fun G5 e5 tb5 => ?_⟩
        have hla5 := e5 _ _ x8.hla fun _ z => by cases z
        have hlr5 := e5 _ _ x8.hlr fun _ z => by cases z
        have hr5 := e5 _ _ en.rw_ fun _ z => by cases z
        obtain ⟨⟨dx, hp⟩, hd⟩ := id en.al
        have hp5 := e5 _ _ hp fun _ z => by cases z
        have hd5 := e5 _ _ hd fun _ z => by cases z
        have al5 : AlbAt C G5 e.p b nm e.d e.cs := ⟨⟨dx, hp5⟩, hd5⟩
        have bk5 : Book G5 b sets := by
          obtain ⟨ok, bs, hb, pb⟩ := id x8.bk
          exact ⟨ok, bs, e5 _ _ hb (fun _ z => (by cases z)), Paired.mp (fun a s q => e5 _ _ q (fun _ z => (by cases z))) pb⟩
        have mx := en.mx (0, 0, 0)
        have c0 := cnt_pos en.ok (0, 0, 0)
        have big : (1000 : Int) < (10 : Int) ^ (39 : Int).toNat := by decide
        have bound : (10 : Int) ^ (39 : Int).toNat < 10 ^ 60 := by decide
        have at0 : ∀ f : E8 → V, atI (EE.map f) (0 : Int) = some (f e) := fun f => atI_nat (j := 0) (by rw [List.getElem?_map, he]; rfl)
        refine ⟨_, rfl, la, _, 0, .ref e.p, rfl, rfl, SqL.of hla5, at0 _, e.p, dx, _, rfl, hp5, hno (by decide +kernel) (by decide +kernel) (by decide +kernel), by show 3 ≤ sizeLine; decide, fun q1 hq1 => ⟨_, _, rfl, rfl, ⟨by decide, by decide, by decide⟩, ?_⟩⟩
        have g6 : Same G5 (upd G5 q1 (.tup [.int 0, .int 0, .int 0])) := same_upd hq1
        refine ⟨e.p, q1, b, e.d, nm, e.cs, sets, (0, 0, 0), _, rfl, al5.same g6, bk5.same g6, upd_same, so0, by omega, by omega, by omega, fun G7 dd g7 ndd hdd => ⟨rfl, dd, _, rfl, hdd, fun t8 G8 g8 ht8 => ?_⟩⟩
        have g58 := g6.trans (g7.trans g8)
        have hlr8 := g58 _ _ hlr5
        have hr8 := g58 _ _ hr5
        refine ⟨_, _, rfl, rfl, ⟨by decide, by decide, by decide⟩, _, rfl, lr, _, 0, .ref e.r, rfl, rfl, SqL.of hlr8, at0 _, e.r, rfl, .inr ⟨_, .inl hr8⟩, by show 3 ≤ sizeLine; decide, fun q2 hq2 => ?_⟩
        have g9 : Same G8 (upd G8 q2 (.tup [.int 0, .int 0, .int 0])) := same_upd hq2
        have g2 := DGet.t (k := keyS (0, 0, 0)) (g9 _ _ hr8) upd_same
        rw [valV_ent] at g2
        refine ⟨_, g2, ?_⟩
        rw [getD_ev]
        refine ⟨_, _, rfl, rfl, by show 2 ≤ sizeLine; decide, fun t9 ht9 => ?_⟩
        have g10 := same_upd (o := .tup [.str "short", .int ((10 : Int) ^ (39 : Int).toNat - cntM e.rs (0, 0, 0))]) ht9
        have ht10 := (g9.trans g10) _ _ ht8
        rw [en.cn] at ht10
        have lay : (PyData.tuple [.str "short", .int ((10 : Int) ^ (39 : Int).toNat - cntM e.rs (0, 0, 0))]).canLay0 = true := by simp [PyData.canLay0, PyData.canLayAll0]; decide +kernel
        have dep : (PyData.tuple [.str "short", .int ((10 : Int) ^ (39 : Int).toNat - cntM e.rs (0, 0, 0))]).depth ≤ 3 := by simp [PyData.depth, PyData.depthAll]
        refine ⟨.tuple [.str "short", .int ((10 : Int) ^ (39 : Int).toNat - cntM e.rs (0, 0, 0))], .tuple [.str "short", .int ((10 : Int) ^ (39 : Int).toNat - cntM e.rs (0, 0, 0))], .tup (SqT.of ht10) (.cons (.str _) (.cons (.int _) .nil)), .tup (SqT.of upd_same) (.cons (.str _) (.cons (.int _) .nil)), shaped_of lay dep (by decide), shaped_of lay dep (by decide), _, rfl, ?_⟩
        rw [eqv_self lay]
        refine iteF ?_
        have gF := g58.trans (g9.trans g10)
        exact ⟨_, _, _, _, _, _, _, _, _, _, _, _, _, _, _, rfl, sql_same (sql_extN (sql_same hS0 s0) e5) gF, tabs_same tb5 gF⟩
    obtain ⟨t, ht, hq⟩ := key
    exact ⟨t, ht.nox, hq⟩
end
end Hm

set_option Elab.async false
set_option maxRecDepth 100000
set_option maxHeartbeats 4000000
namespace Hm
open PySem PySem.Spec PyProof.Rows L2 HmS HmQ HmT
theorem all_mk {l : PySem.W.OpenLaw} {w : World} {K : PySem.W.Frag} {h : Heap} {mg : Str → Option Value} {fa : Addr} (X : K.In h) (G : h.Ns mainGlobals mg) (hfa : mg "law" = some (.ref fa))
    {C TI TP TK CS NS fI cc cda code PT : Addr} {nm0 q0 : Str} {bs0 bm0 : List Value} {sn1 : List Str} {sub0 : List Value} {ab0 : Bool} {col0 : Option Bool} {dd0 : Option Addr} {m0 m1 m2 m3 m5 : Option Value}
    {ocI kVI dcI pmI ctI : Value} {odI anI : Option Addr} {slI : Array (Option Value)} {ccl : Value} {cdd : Option Addr} {vs : Array Value} {ccs : Array (Option Value)} {file : Str} {tf : Tok} {cl : Value} {cld : Option Addr} {csl : Array (Option Value)} {tH tW tT tP tK : Tok} {nT nP nK : Nat} {odT odP odK : Option Addr} {ocT ocP ocK : Value} {slT slP slK : Array (Option Value)}
    {fW0 : Addr} {odW0 anW0 : Option Addr} {slW0 : Array (Option Value)} {ocW0 kVW0 dcW0 pmW0 ctW0 : Value} {cdW0 : Value}
    {fWf : Addr} {odWf anWf : Option Addr} {slWf : Array (Option Value)} {ocWf kVWf dcWf pmWf ctWf : Value} {cdWf : Value}
    {fWi : Addr} {odWi anWi : Option Addr} {slWi : Array (Option Value)} {ocWi kVWi dcWi pmWi ctWi : Value} {cdWi : Value}
    {fLt : Addr} {odLt anLt : Option Addr} {slLt : Array (Option Value)} {ocLt kVLt dcLt pmLt ctLt : Value} {cdLt : Value}
    {fTu : Addr} {odTu anTu : Option Addr} {slTu : Array (Option Value)} {ocTu kVTu dcTu pmTu ctTu : Value} {cdTu : Value}
    {fRi : Addr} {odRi anRi : Option Addr} {slRi : Array (Option Value)} {ocRi kVRi dcRi pmRi ctRi : Value} {cdRi : Value}
    {fYe : Addr} {odYe anYe : Option Addr} {slYe : Array (Option Value)} {ocYe kVYe dcYe pmYe ctYe : Value} {cdYe : Value}
    {fSe : Addr} {odSe anSe : Option Addr} {slSe : Array (Option Value)} {ocSe kVSe dcSe pmSe ctSe : Value} {cdSe : Value}
    {fLs : Addr} {odLs anLs : Option Addr} {slLs : Array (Option Value)} {ocLs kVLs dcLs pmLs ctLs : Value} {cdLs : Value}
    {fNu : Addr} {odNu anNu : Option Addr} {slNu : Array (Option Value)} {ocNu kVNu dcNu pmNu ctNu : Value} {cdNu : Value}
    {fIp : Addr} {odIp anIp : Option Addr} {slIp : Array (Option Value)} {ocIp kVIp dcIp pmIp ctIp : Value} {cdIp : Value}
    {fSt : Addr} {odSt anSt : Option Addr} {slSt : Array (Option Value)} {ocSt kVSt dcSt pmSt ctSt : Value} {cdSt : Value}
    {fSs : Addr} {odSs anSs : Option Addr} {slSs : Array (Option Value)} {ocSs kVSs dcSs pmSs ctSs : Value} {cdSs : Value}
    {fFi : Addr} {odFi anFi : Option Addr} {slFi : Array (Option Value)} {ocFi kVFi dcFi pmFi ctFi : Value} {cdFi : Value}
    {fFg : Addr} {odFg anFg : Option Addr} {slFg : Array (Option Value)} {ocFg kVFg dcFg pmFg ctFg : Value} {cdFg : Value}
    {fCe : Addr} {odCe anCe : Option Addr} {slCe : Array (Option Value)} {ocCe kVCe dcCe pmCe ctCe : Value} {cdCe : Value}
    {fPe : Addr} {odPe anPe : Option Addr} {slPe : Array (Option Value)} {ocPe kVPe dcPe pmPe ctPe : Value} {cdPe : Value}
    {fDr : Addr} {odDr anDr : Option Addr} {slDr : Array (Option Value)} {ocDr kVDr dcDr pmDr ctDr : Value} {cdDr : Value}
    {fLi : Addr} {odLi anLi : Option Addr} {slLi : Array (Option Value)} {ocLi kVLi dcLi pmLi ctLi : Value} {cdLi : Value}
    {fPl : Addr} {odPl anPl : Option Addr} {slPl : Array (Option Value)} {ocPl kVPl dcPl pmPl ctPl : Value} {cdPl : Value}
    {fNa : Addr} {odNa anNa : Option Addr} {slNa : Array (Option Value)} {ocNa kVNa dcNa pmNa ctNa : Value} {cdNa : Value}
    {fSm : Addr} {odSm anSm : Option Addr} {slSm : Array (Option Value)} {ocSm kVSm dcSm pmSm ctSm : Value} {cdSm : Value}
    {fCn : Addr} {odCn anCn : Option Addr} {slCn : Array (Option Value)} {ocCn kVCn dcCn pmCn ctCn : Value} {cdCn : Value}
    {fAl : Addr} {odAl anAl : Option Addr} {slAl : Array (Option Value)} {ocAl kVAl dcAl pmAl ctAl : Value} {cdAl : Value}
    {fWo : Addr} {odWo anWo : Option Addr} {slWo : Array (Option Value)} {ocWo kVWo dcWo pmWo ctWo : Value} {cdWo : Value}
    {fLa : Addr} {odLa anLa : Option Addr} {slLa : Array (Option Value)} {ocLa kVLa dcLa pmLa ctLa : Value}
    {fmI : Addr} {odmI anmI : Option Addr} {slmI : Array (Option Value)} {ocmI kVmI dcmI pmmI ctmI : Value} {cdmI : Value}
    {fmP : Addr} {odmP anmP : Option Addr} {slmP : Array (Option Value)} {ocmP kVmP dcmP pmmP ctmP : Value} {cdmP : Value}
    {fmX : Addr} {odmX anmX : Option Addr} {slmX : Array (Option Value)} {ocmX kVmX dcmX pmmX ctmX : Value} {cdmX : Value}
    {fmS : Addr} {odmS anmS : Option Addr} {slmS : Array (Option Value)} {ocmS kVmS dcmS pmmS ctmS : Value} {cdmS : Value}
    {fmC : Addr} {odmC anmC : Option Addr} {slmC : Array (Option Value)} {ocmC kVmC dcmC pmmC ctmC : Value} {cdmC : Value}
    {fmB : Addr} {odmB anmB : Option Addr} {slmB : Array (Option Value)} {ocmB kVmB dcmB pmmB ctmB : Value} {cdmB : Value}
    {fmN : Addr} {odmN anmN : Option Addr} {slmN : Array (Option Value)} {ocmN kVmN dcmN pmmN ctmN : Value} {cdmN : Value}
    {fmO : Addr} {odmO anmO : Option Addr} {slmO : Array (Option Value)} {ocmO kVmO dcmO pmmO ctmO : Value} {cdmO : Value}
    {fmA : Addr} {odmA anmA : Option Addr} {slmA : Array (Option Value)} {ocmA kVmA dcmA pmmA ctmA : Value} {cdmA : Value}
    {fmT : Addr} {odmT anmT : Option Addr} {slmT : Array (Option Value)} {ocmT kVmT dcmT pmmT ctmT : Value} {cdmT : Value}
    {fmE : Addr} {odmE anmE : Option Addr} {slmE : Array (Option Value)} {ocmE kVmE dcmE pmmE ctmE : Value} {cdmE : Value}
    (aAlb : PySem.W.nsIn K mainGlobals "Album" = some (some (.ref C)))
    (aW0 : PySem.W.nsIn K mainGlobals "is_whole" = some (some (.ref fW0)))
    (lW0 : K.lookup fW0 = some ⟨ocW0, odW0, .func (PySem.W.fnOf "is_whole" "is_whole" (defArgs stIsW) (defBody stIsW) (defScope stIsW) .none kVW0 dcW0 pmW0 anW0 cdW0 ctW0), slW0⟩)
    (cW0 : PySem.W.codeIn K cdW0 "is_whole" = true)
    (kW0 : PySem.W.keepIn K (.ref fW0) = true)
    (aWf : PySem.W.nsIn K mainGlobals "is_whole_from" = some (some (.ref fWf)))
    (lWf : K.lookup fWf = some ⟨ocWf, odWf, .func (PySem.W.fnOf "is_whole_from" "is_whole_from" (defArgs stWfr) (defBody stWfr) (defScope stWfr) .none kVWf dcWf pmWf anWf cdWf ctWf), slWf⟩)
    (cWf : PySem.W.codeIn K cdWf "is_whole_from" = true)
    (kWf : PySem.W.keepIn K (.ref fWf) = true)
    (aWi : PySem.W.nsIn K mainGlobals "is_whole_within" = some (some (.ref fWi)))
    (lWi : K.lookup fWi = some ⟨ocWi, odWi, .func (PySem.W.fnOf "is_whole_within" "is_whole_within" (defArgs stWit) (defBody stWit) (defScope stWit) .none kVWi dcWi pmWi anWi cdWi ctWi), slWi⟩)
    (cWi : PySem.W.codeIn K cdWi "is_whole_within" = true)
    (kWi : PySem.W.keepIn K (.ref fWi) = true)
    (aLt : PySem.W.nsIn K mainGlobals "is_letters" = some (some (.ref fLt)))
    (lLt : K.lookup fLt = some ⟨ocLt, odLt, .func (PySem.W.fnOf "is_letters" "is_letters" (defArgs stLet) (defBody stLet) (defScope stLet) .none kVLt dcLt pmLt anLt cdLt ctLt), slLt⟩)
    (cLt : PySem.W.codeIn K cdLt "is_letters" = true)
    (kLt : PySem.W.keepIn K (.ref fLt) = true)
    (aTu : PySem.W.nsIn K mainGlobals "is_tuple" = some (some (.ref fTu)))
    (lTu : K.lookup fTu = some ⟨ocTu, odTu, .func (PySem.W.fnOf "is_tuple" "is_tuple" (defArgs stTup) (defBody stTup) (defScope stTup) .none kVTu dcTu pmTu anTu cdTu ctTu), slTu⟩)
    (cTu : PySem.W.codeIn K cdTu "is_tuple" = true)
    (kTu : PySem.W.keepIn K (.ref fTu) = true)
    (aRi : PySem.W.nsIn K mainGlobals "is_rising" = some (some (.ref fRi)))
    (lRi : K.lookup fRi = some ⟨ocRi, odRi, .func (PySem.W.fnOf "is_rising" "is_rising" (defArgs stRis) (defBody stRis) (defScope stRis) .none kVRi dcRi pmRi anRi cdRi ctRi), slRi⟩)
    (cRi : PySem.W.codeIn K cdRi "is_rising" = true)
    (kRi : PySem.W.keepIn K (.ref fRi) = true)
    (aYe : PySem.W.nsIn K mainGlobals "is_year" = some (some (.ref fYe)))
    (lYe : K.lookup fYe = some ⟨ocYe, odYe, .func (PySem.W.fnOf "is_year" "is_year" (defArgs stYea) (defBody stYea) (defScope stYea) .none kVYe dcYe pmYe anYe cdYe ctYe), slYe⟩)
    (cYe : PySem.W.codeIn K cdYe "is_year" = true)
    (kYe : PySem.W.keepIn K (.ref fYe) = true)
    (aSe : PySem.W.nsIn K mainGlobals "is_set" = some (some (.ref fSe)))
    (lSe : K.lookup fSe = some ⟨ocSe, odSe, .func (PySem.W.fnOf "is_set" "is_set" (defArgs stSet) (defBody stSet) (defScope stSet) .none kVSe dcSe pmSe anSe cdSe ctSe), slSe⟩)
    (cSe : PySem.W.codeIn K cdSe "is_set" = true)
    (kSe : PySem.W.keepIn K (.ref fSe) = true)
    (aLs : PySem.W.nsIn K mainGlobals "is_list" = some (some (.ref fLs)))
    (lLs : K.lookup fLs = some ⟨ocLs, odLs, .func (PySem.W.fnOf "is_list" "is_list" (defArgs stLis) (defBody stLis) (defScope stLis) .none kVLs dcLs pmLs anLs cdLs ctLs), slLs⟩)
    (cLs : PySem.W.codeIn K cdLs "is_list" = true)
    (kLs : PySem.W.keepIn K (.ref fLs) = true)
    (aNu : PySem.W.nsIn K mainGlobals "is_set_number" = some (some (.ref fNu)))
    (lNu : K.lookup fNu = some ⟨ocNu, odNu, .func (PySem.W.fnOf "is_set_number" "is_set_number" (defArgs stNum) (defBody stNum) (defScope stNum) .none kVNu dcNu pmNu anNu cdNu ctNu), slNu⟩)
    (cNu : PySem.W.codeIn K cdNu "is_set_number" = true)
    (kNu : PySem.W.keepIn K (.ref fNu) = true)
    (aIp : PySem.W.nsIn K mainGlobals "is_place" = some (some (.ref fIp)))
    (lIp : K.lookup fIp = some ⟨ocIp, odIp, .func (PySem.W.fnOf "is_place" "is_place" (defArgs stIpl) (defBody stIpl) (defScope stIpl) .none kVIp dcIp pmIp anIp cdIp ctIp), slIp⟩)
    (cIp : PySem.W.codeIn K cdIp "is_place" = true)
    (kIp : PySem.W.keepIn K (.ref fIp) = true)
    (aSt : PySem.W.nsIn K mainGlobals "is_stamp" = some (some (.ref fSt)))
    (lSt : K.lookup fSt = some ⟨ocSt, odSt, .func (PySem.W.fnOf "is_stamp" "is_stamp" (defArgs stStp) (defBody stStp) (defScope stStp) .none kVSt dcSt pmSt anSt cdSt ctSt), slSt⟩)
    (cSt : PySem.W.codeIn K cdSt "is_stamp" = true)
    (kSt : PySem.W.keepIn K (.ref fSt) = true)
    (aSs : PySem.W.nsIn K mainGlobals "is_stamps" = some (some (.ref fSs)))
    (lSs : K.lookup fSs = some ⟨ocSs, odSs, .func (PySem.W.fnOf "is_stamps" "is_stamps" (defArgs stSts) (defBody stSts) (defScope stSts) .none kVSs dcSs pmSs anSs cdSs ctSs), slSs⟩)
    (cSs : PySem.W.codeIn K cdSs "is_stamps" = true)
    (kSs : PySem.W.keepIn K (.ref fSs) = true)
    (aFi : PySem.W.nsIn K mainGlobals "filled" = some (some (.ref fFi)))
    (lFi : K.lookup fFi = some ⟨ocFi, odFi, .func (PySem.W.fnOf "filled" "filled" (defArgs stFid) (defBody stFid) (defScope stFid) .none kVFi dcFi pmFi anFi cdFi ctFi), slFi⟩)
    (cFi : PySem.W.codeIn K cdFi "filled" = true)
    (kFi : PySem.W.keepIn K (.ref fFi) = true)
    (aFg : PySem.W.nsIn K mainGlobals "in_figures" = some (some (.ref fFg)))
    (lFg : K.lookup fFg = some ⟨ocFg, odFg, .func (PySem.W.fnOf "in_figures" "in_figures" (defArgs stFig) (defBody stFig) (defScope stFig) .none kVFg dcFg pmFg anFg cdFg ctFg), slFg⟩)
    (cFg : PySem.W.codeIn K cdFg "in_figures" = true)
    (kFg : PySem.W.keepIn K (.ref fFg) = true)
    (aCe : PySem.W.nsIn K mainGlobals "_law_cell_at" = some (some (.ref fCe)))
    (lCe : K.lookup fCe = some ⟨ocCe, odCe, .func (PySem.W.fnOf "_law_cell_at" "_law_cell_at" (defArgs stCell) (defBody stCell) (defScope stCell) .none kVCe dcCe pmCe anCe cdCe ctCe), slCe⟩)
    (cCe : PySem.W.codeIn K cdCe "_law_cell_at" = true)
    (kCe : PySem.W.keepIn K (.ref fCe) = true)
    (aPe : PySem.W.nsIn K mainGlobals "_law_pen" = some (some (.ref fPe)))
    (lPe : K.lookup fPe = some ⟨ocPe, odPe, .func (PySem.W.fnOf "_law_pen" "_law_pen" (defArgs stPen) (defBody stPen) (defScope stPen) .none kVPe dcPe pmPe anPe cdPe ctPe), slPe⟩)
    (cPe : PySem.W.codeIn K cdPe "_law_pen" = true)
    (kPe : PySem.W.keepIn K (.ref fPe) = true)
    (aDr : PySem.W.nsIn K mainGlobals "_law_draw" = some (some (.ref fDr)))
    (lDr : K.lookup fDr = some ⟨ocDr, odDr, .func (PySem.W.fnOf "_law_draw" "_law_draw" (defArgs stDraw) (defBody stDraw) (defScope stDraw) .none kVDr dcDr pmDr anDr cdDr ctDr), slDr⟩)
    (cDr : PySem.W.codeIn K cdDr "_law_draw" = true)
    (kDr : PySem.W.keepIn K (.ref fDr) = true)
    (aLi : PySem.W.nsIn K mainGlobals "_law_list" = some (some (.ref fLi)))
    (lLi : K.lookup fLi = some ⟨ocLi, odLi, .func (PySem.W.fnOf "_law_list" "_law_list" (defArgs stList) (defBody stList) (defScope stList) .none kVLi dcLi pmLi anLi cdLi ctLi), slLi⟩)
    (cLi : PySem.W.codeIn K cdLi "_law_list" = true)
    (kLi : PySem.W.keepIn K (.ref fLi) = true)
    (aPl : PySem.W.nsIn K mainGlobals "_law_places" = some (some (.ref fPl)))
    (lPl : K.lookup fPl = some ⟨ocPl, odPl, .func (PySem.W.fnOf "_law_places" "_law_places" (defArgs stPlc) (defBody stPlc) (defScope stPlc) .none kVPl dcPl pmPl anPl cdPl ctPl), slPl⟩)
    (cPl : PySem.W.codeIn K cdPl "_law_places" = true)
    (kPl : PySem.W.keepIn K (.ref fPl) = true)
    (aNa : PySem.W.nsIn K mainGlobals "_law_name" = some (some (.ref fNa)))
    (lNa : K.lookup fNa = some ⟨ocNa, odNa, .func (PySem.W.fnOf "_law_name" "_law_name" (defArgs stNam) (defBody stNam) (defScope stNam) .none kVNa dcNa pmNa anNa cdNa ctNa), slNa⟩)
    (cNa : PySem.W.codeIn K cdNa "_law_name" = true)
    (kNa : PySem.W.keepIn K (.ref fNa) = true)
    (aSm : PySem.W.nsIn K mainGlobals "_law_stamps" = some (some (.ref fSm)))
    (lSm : K.lookup fSm = some ⟨ocSm, odSm, .func (PySem.W.fnOf "_law_stamps" "_law_stamps" (defArgs stStm) (defBody stStm) (defScope stStm) .none kVSm dcSm pmSm anSm cdSm ctSm), slSm⟩)
    (cSm : PySem.W.codeIn K cdSm "_law_stamps" = true)
    (kSm : PySem.W.keepIn K (.ref fSm) = true)
    (aCn : PySem.W.nsIn K mainGlobals "_law_counts" = some (some (.ref fCn)))
    (lCn : K.lookup fCn = some ⟨ocCn, odCn, .func (PySem.W.fnOf "_law_counts" "_law_counts" (defArgs stCnt) (defBody stCnt) (defScope stCnt) .none kVCn dcCn pmCn anCn cdCn ctCn), slCn⟩)
    (cCn : PySem.W.codeIn K cdCn "_law_counts" = true)
    (kCn : PySem.W.keepIn K (.ref fCn) = true)
    (aAl : PySem.W.nsIn K mainGlobals "_law_all" = some (some (.ref fAl)))
    (lAl : K.lookup fAl = some ⟨ocAl, odAl, .func (PySem.W.fnOf "_law_all" "_law_all" (defArgs stAll) (defBody stAll) (defScope stAll) .none kVAl dcAl pmAl anAl cdAl ctAl), slAl⟩)
    (cAl : PySem.W.codeIn K cdAl "_law_all" = true)
    (kAl : PySem.W.keepIn K (.ref fAl) = true)
    (aWo : PySem.W.nsIn K mainGlobals "_law_word" = some (some (.ref fWo)))
    (lWo : K.lookup fWo = some ⟨ocWo, odWo, .func (PySem.W.fnOf "_law_word" "_law_word" (defArgs stWrd) (defBody stWrd) (defScope stWrd) .none kVWo dcWo pmWo anWo cdWo ctWo), slWo⟩)
    (cWo : PySem.W.codeIn K cdWo "_law_word" = true)
    (kWo : PySem.W.keepIn K (.ref fWo) = true)
    (aLa : PySem.W.nsIn K mainGlobals "law" = some (some (.ref fLa)))
    (lLa : K.lookup fLa = some ⟨ocLa, odLa, .func (PySem.W.fnOf "law" "law" (defArgs stLaw) (defBody stLaw) (defScope stLaw) .none kVLa dcLa pmLa anLa (.ref code) ctLa), slLa⟩)
    (cLa : PySem.W.codeIn K (.ref code) "law" = true)
    (kLa : PySem.W.keepIn K (.ref fLa) = true)
    (amI : PySem.W.findIn K (.ref C) "__init__" = some (some (.ref fmI)))
    (imI : PySem.W.isFn K (.ref fmI) = true)
    (lmI : K.lookup fmI = some ⟨ocmI, odmI, .func (PySem.W.fnOf "__init__" "Album.__init__" (defArgs sInit) (defBody sInit) (defScope sInit) (.ref TI) kVmI dcmI pmmI anmI cdmI ctmI), slmI⟩)
    (cmI : PySem.W.codeIn K cdmI "Album.__init__" = true)
    (kmI : PySem.W.keepIn K (.ref fmI) = true)
    (amP : PySem.W.findIn K (.ref C) "put" = some (some (.ref fmP)))
    (imP : PySem.W.isFn K (.ref fmP) = true)
    (lmP : K.lookup fmP = some ⟨ocmP, odmP, .func (PySem.W.fnOf "put" "Album.put" (defArgs sPut) (defBody sPut) (defScope sPut) (.ref TP) kVmP dcmP pmmP anmP cdmP ctmP), slmP⟩)
    (cmP : PySem.W.codeIn K cdmP "Album.put" = true)
    (kmP : PySem.W.keepIn K (.ref fmP) = true)
    (amX : PySem.W.findIn K (.ref C) "take" = some (some (.ref fmX)))
    (imX : PySem.W.isFn K (.ref fmX) = true)
    (lmX : K.lookup fmX = some ⟨ocmX, odmX, .func (PySem.W.fnOf "take" "Album.take" (defArgs sTak) (defBody sTak) (defScope sTak) (.ref TK) kVmX dcmX pmmX anmX cdmX ctmX), slmX⟩)
    (cmX : PySem.W.codeIn K cdmX "Album.take" = true)
    (kmX : PySem.W.keepIn K (.ref fmX) = true)
    (amS : PySem.W.findIn K (.ref C) "_check_some" = some (some (.ref fmS)))
    (imS : PySem.W.isFn K (.ref fmS) = true)
    (lmS : K.lookup fmS = some ⟨ocmS, odmS, .func (PySem.W.fnOf "_check_some" "Album._check_some" (defArgs sChs) (defBody sChs) (defScope sChs) .none kVmS dcmS pmmS anmS cdmS ctmS), slmS⟩)
    (cmS : PySem.W.codeIn K cdmS "Album._check_some" = true)
    (kmS : PySem.W.keepIn K (.ref fmS) = true)
    (amC : PySem.W.findIn K (.ref C) "_check_stamp" = some (some (.ref fmC)))
    (imC : PySem.W.isFn K (.ref fmC) = true)
    (lmC : K.lookup fmC = some ⟨ocmC, odmC, .func (PySem.W.fnOf "_check_stamp" "Album._check_stamp" (defArgs sChk) (defBody sChk) (defScope sChk) .none kVmC dcmC pmmC anmC cdmC ctmC), slmC⟩)
    (cmC : PySem.W.codeIn K cdmC "Album._check_stamp" = true)
    (kmC : PySem.W.keepIn K (.ref fmC) = true)
    (amB : PySem.W.findIn K (.ref C) "book" = some (some (.ref fmB)))
    (imB : PySem.W.isFn K (.ref fmB) = true)
    (lmB : K.lookup fmB = some ⟨ocmB, odmB, .func (PySem.W.fnOf "book" "Album.book" (defArgs sBok) (defBody sBok) (defScope sBok) .none kVmB dcmB pmmB anmB cdmB ctmB), slmB⟩)
    (cmB : PySem.W.codeIn K cdmB "Album.book" = true)
    (kmB : PySem.W.keepIn K (.ref fmB) = true)
    (amN : PySem.W.findIn K (.ref C) "called" = some (some (.ref fmN)))
    (imN : PySem.W.isFn K (.ref fmN) = true)
    (lmN : K.lookup fmN = some ⟨ocmN, odmN, .func (PySem.W.fnOf "called" "Album.called" (defArgs sCld) (defBody sCld) (defScope sCld) .none kVmN dcmN pmmN anmN cdmN ctmN), slmN⟩)
    (cmN : PySem.W.codeIn K cdmN "Album.called" = true)
    (kmN : PySem.W.keepIn K (.ref fmN) = true)
    (amO : PySem.W.findIn K (.ref C) "count_of" = some (some (.ref fmO)))
    (imO : PySem.W.isFn K (.ref fmO) = true)
    (lmO : K.lookup fmO = some ⟨ocmO, odmO, .func (PySem.W.fnOf "count_of" "Album.count_of" (defArgs sCof) (defBody sCof) (defScope sCof) .none kVmO dcmO pmmO anmO cdmO ctmO), slmO⟩)
    (cmO : PySem.W.codeIn K cdmO "Album.count_of" = true)
    (kmO : PySem.W.keepIn K (.ref fmO) = true)
    (amA : PySem.W.findIn K (.ref C) "all_of" = some (some (.ref fmA)))
    (imA : PySem.W.isFn K (.ref fmA) = true)
    (lmA : K.lookup fmA = some ⟨ocmA, odmA, .func (PySem.W.fnOf "all_of" "Album.all_of" (defArgs sAof) (defBody sAof) (defScope sAof) .none kVmA dcmA pmmA anmA cdmA ctmA), slmA⟩)
    (cmA : PySem.W.codeIn K cdmA "Album.all_of" = true)
    (kmA : PySem.W.keepIn K (.ref fmA) = true)
    (amT : PySem.W.findIn K (.ref C) "twin" = some (some (.ref fmT)))
    (imT : PySem.W.isFn K (.ref fmT) = true)
    (lmT : K.lookup fmT = some ⟨ocmT, odmT, .func (PySem.W.fnOf "twin" "Album.twin" (defArgs sTwn) (defBody sTwn) (defScope sTwn) .none kVmT dcmT pmmT anmT cdmT ctmT), slmT⟩)
    (cmT : PySem.W.codeIn K cdmT "Album.twin" = true)
    (kmT : PySem.W.keepIn K (.ref fmT) = true)
    (amE : PySem.W.findIn K (.ref C) "__eq__" = some (some (.ref fmE)))
    (imE : PySem.W.isFn K (.ref fmE) = true)
    (lmE : K.lookup fmE = some ⟨ocmE, odmE, .func (PySem.W.fnOf "__eq__" "Album.__eq__" (defArgs sEq) (defBody sEq) (defScope sEq) .none kVmE dcmE pmmE anmE cdmE ctmE), slmE⟩)
    (cmE : PySem.W.codeIn K cdmE "Album.__eq__" = true)
    (kmE : PySem.W.keepIn K (.ref fmE) = true)
    (lTI : K.lookup TI = some ⟨ocT, odT, .seq #[.str Str.empty tT, .none] nT, slT⟩)
    (lTP : K.lookup TP = some ⟨ocP, odP, .seq #[.int 1 tP] nP, slP⟩)
    (lTK : K.lookup TK = some ⟨ocK, odK, .seq #[.int 1 tK] nK, slK⟩)
    (qNe : PySem.W.findIn K (.ref C) "__ne__" = some (some (.builtin "object.__ne__")))
    (qCa : PySem.W.findIn K (.ref C) "__class__" = some (some (.builtin "object.__class__")))
    (qCn : PySem.W.specialIn K (.builtin "object.__class__") "__get__" = some (some (.builtin "getset_descriptor.__get__")))
    (qCt : PySem.W.takesIn K (.builtin "object.__class__") = some true)
    (qCm : PySem.W.mroIn K C (.type "object") = some true)
    (qKi : PySem.W.kitOne K (.ref C) (.ref C) = some true)
    (pg : PySem.W.plainGet K C Str.empty = true)
    (hdi : PySem.W.hasDictIn K C = true)
    (po : PySem.W.plainOver K C = true)
    (sa : PySem.W.findIn K (.ref C) "__setattr__" = some (some (.builtin "object.__setattr__")))
    (mk : PySem.W.makesIn K C = true)
    (kc : PySem.W.keepIn K (.ref C) = true)
    (nB : PySem.W.findIn K (.ref C) "_book" = some none)
    (nN : PySem.W.findIn K (.ref C) "_name" = some none)
    (nM : PySem.W.findIn K (.ref C) "_many" = some none)
    (hH : PySem.W.nsIn K mainGlobals "HINGED" = some (some (.int 0 tH)))
    (hW : PySem.W.nsIn K mainGlobals "WHOLE" = some (some (.int 1 tW)))
    (aS : PySem.W.nsIn K mainGlobals "Short" = some (some (.ref CS)))
    (xL : K.lookup CS = some (excClassObj nm0 q0 CS NS bs0 bm0 true sn1 sub0 ab0 col0 dd0 m0 m1 m2 m3 m5 "ValueError.__new__"))
    (rv : PySem.HandSPX.refsVE bm0 = true)
    (ssa : PySem.W.findIn K (.ref CS) "__setattr__" = some (some (.builtin "object.__setattr__")))
    (exC : PySem.W.subIn K (.ref CS) (.type "BaseException") = some true)
    (tyC : PySem.W.typeIn K (.ref CS) = some (.type "type"))
    (kC0 : PySem.W.keepIn K (.ref CS) = true)
    (iC : PySem.W.findIn K (.ref CS) "__init__" = some (some (.ref fI)))
    (tI : PySem.W.typeIn K (.ref fI) = some (.type "function"))
    (lI : K.lookup fI = some ⟨ocI, odI, .func (PySem.W.fnX "__init__" "Short.__init__" (defArgs stShort) (defBody stShort) (defScope stShort) [("__class__", cc)] .none kVI dcI pmI anI (.ref cda) ctI), slI⟩)
    (cdI : PySem.W.codeIn K (.ref cda) "Short.__init__" = true)
    (lcode : K.lookup cda = some ⟨ccl, cdd, .fields vs, ccs⟩)
    (hvs : vs[2]? = some (.str file tf))
    (hfile : ((l.prog.main.file : Str) == file) = true)
    (lcell : K.lookup cc = some ⟨cl, cld, .cell (some (.ref CS)), csl⟩)
    (htop : (l.prog.main.scope.names.lookup ("super" : Str)).isSome = false)
    (opq : PySem.W.nsIn K PySem.cStatics "thirdparty.any" = some none)
    (via : PySem.W.ks_superIn K CS CS "__init__" = some (some (.builtin "ValueError.__init__")))
    (sbV : PySem.W.subIn K (.ref CS) (.type "ValueError") = some true)
    (noB : PySem.W.findIn K (.ref CS) "by" = some none)
    (gaS : PySem.W.findIn K (.ref CS) "__getattribute__" = some (some (.builtin "BaseException.__getattribute__")))
    (ggS : PySem.W.findIn K (.ref CS) "__getattr__" = some none)
    (hdS : PySem.W.hasDictIn K CS = true)
    (exm : PySem.W.exmOne K (.ref CS) (.ref CS) = some true)
    (hPT : h.get? PT = some { cls := .none, data := .fields #[] })
    (nPT : K.lookup PT = none)
    (cPT : PySem.W.codeHdIn K code PT = true)
    (z0 : PySem.W.nsIn K mainGlobals "len" = some none)
    (z1 : PySem.W.nsIn K mainGlobals "int" = some none)
    (z2 : PySem.W.nsIn K mainGlobals "range" = some none)
    (z3 : PySem.W.nsIn K mainGlobals "sorted" = some none)
    (z4 : PySem.W.nsIn K mainGlobals "tuple" = some none)
    (z5 : PySem.W.nsIn K mainGlobals "enumerate" = some none)
    (z6 : PySem.W.nsIn K mainGlobals "isinstance" = some none)
    (z7 : PySem.W.nsIn K mainGlobals "bool" = some none)
    (z8 : PySem.W.nsIn K mainGlobals "str" = some none)
    (z9 : PySem.W.nsIn K mainGlobals "all" = some none)
    (z10 : PySem.W.nsIn K mainGlobals "zip" = some none)
    (z11 : PySem.W.nsIn K mainGlobals "max" = some none)
    (z12 : PySem.W.nsIn K mainGlobals "min" = some none)
    (z13 : PySem.W.nsIn K mainGlobals "dict" = some none)
    (z14 : PySem.W.nsIn K mainGlobals "super" = some none)
    : LamX.LawAtS l w K CX0 11 63 "_law_script" mg fa h := by
  have e := hfa.symm.trans (PySem.W.mg_of X G aLa)
  cases e
  have FW0 := fun_mk (st := stIsW) lW0 cW0 kW0
  have bW0 := FW0.binds (ps := ["thing"]) fun _ _ _ _ _ _ us hl => match us, hl with | [_], _ => rfl
  have FWf := fun_mk (st := stWfr) lWf cWf kWf
  have bWf := FWf.binds (ps := ["thing", "least"]) fun _ _ _ _ _ _ us hl => match us, hl with | [_, _], _ => rfl
  have FWi := fun_mk (st := stWit) lWi cWi kWi
  have bWi := FWi.binds (ps := ["thing", "least", "most"]) fun _ _ _ _ _ _ us hl => match us, hl with | [_, _, _], _ => rfl
  have FLt := fun_mk (st := stLet) lLt cLt kLt
  have bLt := FLt.binds (ps := ["thing", "fewest", "most"]) fun _ _ _ _ _ _ us hl => match us, hl with | [_, _, _], _ => rfl
  have FTu := fun_mk (st := stTup) lTu cTu kTu
  have bTu := FTu.binds (ps := ["thing", "fewest", "most"]) fun _ _ _ _ _ _ us hl => match us, hl with | [_, _, _], _ => rfl
  have FRi := fun_mk (st := stRis) lRi cRi kRi
  have bRi := FRi.binds (ps := ["things"]) fun _ _ _ _ _ _ us hl => match us, hl with | [_], _ => rfl
  have FYe := fun_mk (st := stYea) lYe cYe kYe
  have bYe := FYe.binds (ps := ["thing"]) fun _ _ _ _ _ _ us hl => match us, hl with | [_], _ => rfl
  have FSe := fun_mk (st := stSet) lSe cSe kSe
  have bSe := FSe.binds (ps := ["thing"]) fun _ _ _ _ _ _ us hl => match us, hl with | [_], _ => rfl
  have FLs := fun_mk (st := stLis) lLs cLs kLs
  have bLs := FLs.binds (ps := ["thing"]) fun _ _ _ _ _ _ us hl => match us, hl with | [_], _ => rfl
  have FNu := fun_mk (st := stNum) lNu cNu kNu
  have bNu := FNu.binds (ps := ["book", "thing"]) fun _ _ _ _ _ _ us hl => match us, hl with | [_, _], _ => rfl
  have FIp := fun_mk (st := stIpl) lIp cIp kIp
  have bIp := FIp.binds (ps := ["book", "thing"]) fun _ _ _ _ _ _ us hl => match us, hl with | [_, _], _ => rfl
  have FSt := fun_mk (st := stStp) lSt cSt kSt
  have bSt := FSt.binds (ps := ["book", "thing"]) fun _ _ _ _ _ _ us hl => match us, hl with | [_, _], _ => rfl
  have FSs := fun_mk (st := stSts) lSs cSs kSs
  have bSs := FSs.binds (ps := ["book", "thing"]) fun _ _ _ _ _ _ us hl => match us, hl with | [_, _], _ => rfl
  have FFi := fun_mk (st := stFid) lFi cFi kFi
  have bFi := FFi.binds (ps := ["book", "name", "counts"]) fun _ _ _ _ _ _ us hl => match us, hl with | [_, _, _], _ => rfl
  have FFg := fun_mk (st := stFig) lFg cFg kFg
  have bFg := FFg.binds (ps := ["number"]) fun _ _ _ _ _ _ us hl => match us, hl with | [_], _ => rfl
  have FCe := fun_mk (st := stCell) lCe cCe kCe
  have bCe := FCe.binds (ps := ["_law_script", "_law_k"]) fun _ _ _ _ _ _ us hl => match us, hl with | [_, _], _ => rfl
  have FPe := fun_mk (st := stPen) lPe cPe kPe
  have bPe := FPe.binds (ps := ["_law_cell"]) fun _ _ _ _ _ _ us hl => match us, hl with | [_], _ => rfl
  have FDr := fun_mk (st := stDraw) lDr cDr kDr
  have bDr := FDr.binds (ps := ["_law_pen_here", "_law_bound"]) fun _ _ _ _ _ _ us hl => match us, hl with | [_, _], _ => rfl
  have FLi := fun_mk (st := stList) lLi cLi kLi
  have bLi := FLi.binds (ps := ["_law_pen_here"]) fun _ _ _ _ _ _ us hl => match us, hl with | [_], _ => rfl
  have FPl := fun_mk (st := stPlc) lPl cPl kPl
  have bPl := FPl.binds (ps := ["_law_sets"]) fun _ _ _ _ _ _ us hl => match us, hl with | [_], _ => rfl
  have FNa := fun_mk (st := stNam) lNa cNa kNa
  have bNa := FNa.binds (ps := ["_law_pen_here"]) fun _ _ _ _ _ _ us hl => match us, hl with | [_], _ => rfl
  have FSm := fun_mk (st := stStm) lSm cSm kSm
  have bSm := FSm.binds (ps := ["_law_pen_here", "_law_sets", "_law_most"]) fun _ _ _ _ _ _ us hl => match us, hl with | [_, _, _], _ => rfl
  have FCn := fun_mk (st := stCnt) lCn cCn kCn
  have bCn := FCn.binds (ps := ["_law_stamps_here"]) fun _ _ _ _ _ _ us hl => match us, hl with | [_], _ => rfl
  have FAl := fun_mk (st := stAll) lAl cAl kAl
  have bAl := FAl.binds (ps := ["_law_counts_here"]) fun _ _ _ _ _ _ us hl => match us, hl with | [_], _ => rfl
  have FWo := fun_mk (st := stWrd) lWo cWo kWo
  have bWo := FWo.binds (ps := ["_law_call"]) fun _ _ _ _ _ _ us hl => match us, hl with | [_], _ => rfl
  have FmI : FInit K fmI _ := ⟨⟨_, _, _, _, _, _, _, _, _, _, rfl, lmI, cmI, .inr ⟨by simp, TI, _, [.str Str.empty tT, .none], nT, rfl, lTI, rfl, .cons ⟨_, rfl⟩ (.cons rfl .nil)⟩, .inl rfl⟩, kmI⟩
  obtain ⟨dsmI4, rdmI4, bmI4⟩ := FmI.binds1 (ps := ["self", "book", "name", "stamps"]) 4 2 (by simp) rfl (fun _ _ _ _ _ _ _ us its l1 l2 => match us, its, l1, l2 with | [_, _, _, _], [_, _], _, _ => ⟨_, rfl, rfl⟩)
  have edmI4 : dsmI4 = [] := by cases rdmI4; rfl
  subst edmI4
  obtain ⟨dsmI3, rdmI3, bmI3⟩ := FmI.binds1 (ps := ["self", "book", "name", "stamps"]) 3 1 (by simp) rfl (fun _ _ _ _ _ _ _ us its l1 l2 => match us, its, l1, l2 with | [_, _, _], [_, _], _, _ => ⟨_, rfl, rfl⟩)
  obtain ⟨dsmI2, rdmI2, bmI2⟩ := FmI.binds1 (ps := ["self", "book", "name", "stamps"]) 2 0 (by simp) rfl (fun _ _ _ _ _ _ _ us its l1 l2 => match us, its, l1, l2 with | [_, _], [_, _], _, _ => ⟨_, rfl, rfl⟩)
  have MmI : Meth K C "__init__" fmI := ⟨amI, imI, kmI⟩
  have FmP : FPut K fmP _ := ⟨⟨_, _, _, _, _, _, _, _, _, _, rfl, lmP, cmP, .inr ⟨by simp, TP, _, [.int 1 tP], nP, rfl, lTP, rfl, .cons ⟨_, rfl⟩ .nil⟩, .inl rfl⟩, kmP⟩
  obtain ⟨dsmP3, rdmP3, bmP3⟩ := FmP.binds1 (ps := ["self", "stamp", "many"]) 3 1 (by simp) rfl (fun _ _ _ _ _ _ _ us its l1 l2 => match us, its, l1, l2 with | [_, _, _], [_], _, _ => ⟨_, rfl, rfl⟩)
  have edmP3 : dsmP3 = [] := by cases rdmP3; rfl
  subst edmP3
  obtain ⟨dsmP2, rdmP2, bmP2⟩ := FmP.binds1 (ps := ["self", "stamp", "many"]) 2 0 (by simp) rfl (fun _ _ _ _ _ _ _ us its l1 l2 => match us, its, l1, l2 with | [_, _], [_], _, _ => ⟨_, rfl, rfl⟩)
  have MmP : Meth K C "put" fmP := ⟨amP, imP, kmP⟩
  have FmX : FTak K fmX _ := ⟨⟨_, _, _, _, _, _, _, _, _, _, rfl, lmX, cmX, .inr ⟨by simp, TK, _, [.int 1 tK], nK, rfl, lTK, rfl, .cons ⟨_, rfl⟩ .nil⟩, .inl rfl⟩, kmX⟩
  obtain ⟨dsmX3, rdmX3, bmX3⟩ := FmX.binds1 (ps := ["self", "stamp", "many"]) 3 1 (by simp) rfl (fun _ _ _ _ _ _ _ us its l1 l2 => match us, its, l1, l2 with | [_, _, _], [_], _, _ => ⟨_, rfl, rfl⟩)
  have edmX3 : dsmX3 = [] := by cases rdmX3; rfl
  subst edmX3
  obtain ⟨dsmX2, rdmX2, bmX2⟩ := FmX.binds1 (ps := ["self", "stamp", "many"]) 2 0 (by simp) rfl (fun _ _ _ _ _ _ _ us its l1 l2 => match us, its, l1, l2 with | [_, _], [_], _, _ => ⟨_, rfl, rfl⟩)
  have MmX : Meth K C "take" fmX := ⟨amX, imX, kmX⟩
  have FmS := fun_mk (st := sChs) lmS cmS kmS
  have bmS := FmS.binds (ps := ["self", "stamp", "many"]) fun _ _ _ _ _ _ us hl => match us, hl with | [_, _, _], _ => rfl
  have MmS : Meth K C "_check_some" fmS := ⟨amS, imS, kmS⟩
  have FmC := fun_mk (st := sChk) lmC cmC kmC
  have bmC := FmC.binds (ps := ["self", "stamp"]) fun _ _ _ _ _ _ us hl => match us, hl with | [_, _], _ => rfl
  have MmC : Meth K C "_check_stamp" fmC := ⟨amC, imC, kmC⟩
  have FmB := fun_mk (st := sBok) lmB cmB kmB
  have bmB := FmB.binds (ps := ["self"]) fun _ _ _ _ _ _ us hl => match us, hl with | [_], _ => rfl
  have MmB : Meth K C "book" fmB := ⟨amB, imB, kmB⟩
  have FmN := fun_mk (st := sCld) lmN cmN kmN
  have bmN := FmN.binds (ps := ["self"]) fun _ _ _ _ _ _ us hl => match us, hl with | [_], _ => rfl
  have MmN : Meth K C "called" fmN := ⟨amN, imN, kmN⟩
  have FmO := fun_mk (st := sCof) lmO cmO kmO
  have bmO := FmO.binds (ps := ["self", "stamp"]) fun _ _ _ _ _ _ us hl => match us, hl with | [_, _], _ => rfl
  have MmO : Meth K C "count_of" fmO := ⟨amO, imO, kmO⟩
  have FmA := fun_mk (st := sAof) lmA cmA kmA
  have bmA := FmA.binds (ps := ["self"]) fun _ _ _ _ _ _ us hl => match us, hl with | [_], _ => rfl
  have MmA : Meth K C "all_of" fmA := ⟨amA, imA, kmA⟩
  have FmT := fun_mk (st := sTwn) lmT cmT kmT
  have bmT := FmT.binds (ps := ["self"]) fun _ _ _ _ _ _ us hl => match us, hl with | [_], _ => rfl
  have MmT : Meth K C "twin" fmT := ⟨amT, imT, kmT⟩
  have FmE := fun_mk (st := sEq) lmE cmE kmE
  have bmE := FmE.binds (ps := ["self", "other"]) fun _ _ _ _ _ _ us hl => match us, hl with | [_, _], _ => rfl
  have MmE : Meth K C "__eq__" fmE := ⟨amE, imE, kmE⟩
  have TK : TxtKind mg := ⟨(PySem.W.mg_none_of X G z6), (PySem.W.mg_none_of X G z1), (PySem.W.mg_none_of X G z7), (PySem.W.mg_none_of X G z8), (PySem.W.mg_none_of X G z4), (PySem.W.mg_none_of X G z0), (PySem.W.mg_none_of X G z9), (PySem.W.mg_none_of X G z10)⟩
  have TL : TxtLen mg := ⟨(PySem.W.mg_none_of X G z0), (PySem.W.mg_none_of X G z1)⟩
  have TLi : TxtList mg fDr := ⟨(PySem.W.mg_none_of X G z2), (PySem.W.mg_none_of X G z3), (PySem.W.mg_none_of X G z4), (PySem.W.mg_of X G aDr)⟩
  have TI' : TxtIt mg := ⟨(PySem.W.mg_none_of X G z2), (PySem.W.mg_none_of X G z5)⟩
  have TSm : TxtStm mg fDr fPl := ⟨(PySem.W.mg_none_of X G z2), (PySem.W.mg_none_of X G z0), (PySem.W.mg_none_of X G z4), (PySem.W.mg_of X G aDr), (PySem.W.mg_of X G aPl)⟩
  have TB : TxtBook mg fWi fLt fRi fSe fTu fYe := ⟨TK, (PySem.W.mg_of X G aTu), (PySem.W.mg_of X G aYe), (PySem.W.mg_of X G aWi), (PySem.W.mg_of X G aLt), (PySem.W.mg_of X G aRi), (PySem.W.mg_of X G aSe)⟩
  have hHg : ∃ t, mg "HINGED" = some (.int 0 t) := ⟨_, (PySem.W.mg_of X G hH)⟩
  have hWh : ∃ t, mg "WHOLE" = some (.int 1 t) := ⟨_, (PySem.W.mg_of X G hW)⟩
  have TS : TxtStp mg fWi fNu fSt fTu fIp := ⟨TK, (PySem.W.mg_of X G aWi), (PySem.W.mg_of X G aNu), (PySem.W.mg_of X G aSt), (PySem.W.mg_of X G aTu), (PySem.W.mg_of X G aIp), hHg, hWh⟩
  have TA : TxtAlb K mg C := ⟨⟨pg, hdi, po, sa⟩, nB, nN, nM, (PySem.W.mg_of X G aAlb)⟩
  have TC : TxtCal mg fLs fLt fSs fSt fNu := ⟨(PySem.W.mg_of X G aLs), (PySem.W.mg_of X G aLt), (PySem.W.mg_of X G aSs), (PySem.W.mg_of X G aSt), (PySem.W.mg_of X G aNu)⟩
  have TU : TxtU mg fSt fNu := ⟨(PySem.W.mg_of X G aSt), (PySem.W.mg_of X G aNu), (PySem.W.mg_none_of X G z3), (PySem.W.mg_none_of X G z2), (PySem.W.mg_none_of X G z0), hHg, hWh⟩
  have MK : Mk K C fmI := ⟨mk, amI, imI, kc⟩
  have S : TxtShort l.prog K mg CS fI cc cda fFg := ⟨⟨⟨_, _, _, _, _, _, _, _, _, _, _, _, _, _, _, xL, rv⟩, ssa, exC, tyC, kC0⟩, ⟨_, _, _, _, _, _, _, _, lI⟩, cdI, ⟨_, _, _, _, _, _, lcode, hvs, hfile⟩, ⟨_, _, _, lcell⟩, htop, (PySem.W.mg_none_of X G z14), opq, via, sbV, noB, (PySem.W.mg_of X G aFg), kFg⟩
  have bSh : Binds K (PySem.W.fnX "__init__" "Short.__init__" (defArgs stShort) (defBody stShort) (defScope stShort) [("__class__", cc)] .none kVI dcI pmI anI (.ref cda) ctI) ["self", "by"] [] := .all fun us hl => match us, hl with | [_, _], _ => rfl
  have TSh : TxtSh K mg CS fI := ⟨S.oex, iC, tI, (PySem.W.mg_of X G aS)⟩
  have WD : TxtWrd K mg CS := ⟨(PySem.W.mg_of X G aS), exm, ⟨gaS, ggS, exC, hdS⟩, noB⟩
  refine ⟨PySem.W.fnOf "law" "law" (defArgs stLaw) (defBody stLaw) (defScope stLaw) .none kVLa dcLa pmLa anLa (.ref code) ctLa, [(code, PT)], spLaw K PT, ?_, ?_, ?_, fun s v => .of_eq rfl, ?_, ?_⟩
  · intro p hp
    rw [List.mem_singleton.mp hp]
    exact hPT
  · intro p hp
    rw [List.mem_singleton.mp hp]
    exact nPT
  · intro p hp
    rw [List.mem_singleton.mp hp]
    exact PySem.W.codeHd_of_K X cPT
  · intro H a ns hl _ hT hS
    exact ⟨a, ns, rfl, hS, hl, hT (code, PT) (List.mem_singleton.mpr rfl), fun _ => rfl⟩
  intro base _ _ hTB
  have TIs : TxtIsi K C := ⟨qCa, qCn, qCt, qCm, qKi⟩
  have OW : OwnCmp K C fmE := ⟨amE, imE, qNe, qCm⟩
  have G0 := ok_isw (P := l.prog) (w := w) (base := base) (mg := mg) FW0 TK
  have GWf := ok_wfr FWf (PySem.W.mg_of X G aW0) kW0 G0 bW0
  have GWi := ok_wit FWi (PySem.W.mg_of X G aW0) kW0 G0 bW0
  have GTu := ok_tup (P := l.prog) (w := w) (base := base) (mg := mg) FTu TK
  have GLt := ok_let (P := l.prog) (w := w) (base := base) (mg := mg) FLt TK
  have GRi := ok_ris (P := l.prog) (w := w) (base := base) (mg := mg) FRi TK
  have GNu := ok_num FNu (PySem.W.mg_of X G aWi) (PySem.W.mg_none_of X G z0) kWi GWi bWi
  have GYe := ok_yea FYe (PySem.W.mg_of X G aWi) kWi GWi bWi
  have GSe := ok_set FSe TB kWi kLt GWi bWi GLt bLt kTu GTu bTu kYe GYe bYe
  have GLs := ok_lis FLs TB kRi kSe kTu GTu bTu GSe bSe GRi bRi
  have GIp := ok_ipl FIp TS kWi kNu kTu GWi bWi GTu bTu GNu bNu
  have GSt := ok_stp FSt TS kWi kIp kTu GWi bWi GTu bTu GIp bIp
  have GSs := ok_sts FSs TS kSt GSt bSt
  have GI := ok_init FmI TA TC kLs kLt kSs GLs bLs GLt bLt GSs bSs
  have GI0 := ok_ini0 FmI TA TC kLs kLt kSs GLs bLs GLt bLt GSs bSs
  have GCh := ok_chk FmC TA TU kSt GSt bSt
  have GCs := ok_chs FmS TA MmC (PySem.W.mg_of X G aWf) kWf GCh bmC GWf bWf
  have GCo := ok_cof FmO TA MmC GCh bmC
  have GAo := ok_aof (P := l.prog) (w := w) (base := base) (mg := mg) FmA TA (PySem.W.mg_none_of X G z3)
  have GBo := ok_bok (P := l.prog) (w := w) (base := base) (mg := mg) FmB TA
  have GCd := ok_cld (P := l.prog) (w := w) (base := base) (mg := mg) FmN TA
  have GPu := ok_put FmP TA MmS MmO GCs bmS GCo bmO
  have GFi := ok_fid FFi TA MK MmP GI0 rdmI3 bmI3 GPu bmP3
  have GTw := ok_twn FmT TA MmA (PySem.W.mg_of X G aFi) kFi GAo bmA GFi bFi
  have GCe := ok_cell (P := l.prog) (w := w) (base := base) (mg := mg) FCe TL
  have GPe := ok_pen (P := l.prog) (w := w) (base := base) (mg := mg) FPe TL
  have GDr := ok_draw (P := l.prog) (w := w) (base := base) (mg := mg) FDr
  have GLi := ok_list FLi TLi kDr GDr bDr
  have GPl := ok_plc (P := l.prog) (w := w) (base := base) (mg := mg) FPl TI'
  have GSm := ok_stm FSm TSm kDr kPl GDr bDr GPl bPl
  have GNa := ok_nam FNa (PySem.W.mg_of X G aDr) kDr GDr bDr
  have GCn := ok_cnt (P := l.prog) (w := w) (base := base) (mg := mg) FCn
  have GAl := ok_all0 (P := l.prog) (w := w) (base := base) (mg := mg) FAl (PySem.W.mg_none_of X G z3)
  have GTk := ok_tak FmX TA MmS MmO GCs bmS GCo bmO
  have GEq := ok_eq (P := l.prog) (w := w) (base := base) (mg := mg) FmE TA (PySem.W.mg_none_of X G z6) TIs
  have GFg := ok_fig (P := l.prog) (w := w) (base := base) (mg := mg) FFg ⟨(PySem.W.mg_none_of X G z8)⟩
  have GSh := ok_short S GFg bFg rfl ⟨_, _, _, lI⟩
  have GTkR := ok_takR FmX TA TSh MmS MmO GCs bmS GCo bmO GSh bSh
  exact ok_law ⟨(PySem.W.mg_none_of X G z2), (PySem.W.mg_none_of X G z11), (PySem.W.mg_none_of X G z12), (PySem.W.mg_none_of X G z0), (PySem.W.mg_none_of X G z10), (PySem.W.mg_none_of X G z13), TA, MK, OW, WD, (PySem.W.mg_of X G aCe), (PySem.W.mg_of X G aPe), (PySem.W.mg_of X G aDr), (PySem.W.mg_of X G aLi), (PySem.W.mg_of X G aPl), (PySem.W.mg_of X G aNa), (PySem.W.mg_of X G aSm), (PySem.W.mg_of X G aCn), (PySem.W.mg_of X G aAl), (PySem.W.mg_of X G aWo), kCe, kPe, kDr, kLi, kPl, kNa, kSm, kCn, kAl, kWo, MmA, MmP, MmX, MmT, MmB, MmN, GCe, GPe, GDr, GLi, GPl, GNa, GSm, GCn, GAl, GI, GAo, GPu, GTk, GTw, GBo, GCd, GEq, GTkR, bCe, bPe, bDr, bLi, bPl, bNa, bSm, bCn, bAl, bmI4, bmA, bmP2, bmX2, bmT, bmB, bmN, bmE, bmX3, rdmP2, rdmX2⟩ FWo lLa cLa (hTB (code, PT) (List.mem_singleton.mpr rfl))
theorem walkT {l : PySem.W.OpenLaw} {q : Program} {loose : List Str} {XP : (Str → Option Value) → Heap → Prop} {YP : World → Heap → Prop} {d : DefRec} {K : Params → PySem.W.Frag} (hn : l.most = some 63) (hdf : d.params.defaults = [])
    (hY : ∀ (w : World) (h : Heap), YP w h → (K w.params).In h)
    (F : ∀ (w : World) (mg : Str → Option Value) (fa : Addr) (h : Heap), YP w h → (K w.params).In h → h.Ns mainGlobals mg → mg d.name = some (.ref fa) → LamX.LawAtS l w (K w.params) CX0 11 63 "_law_script" mg fa h) :
    PySem.W.WalkO q loose XP YP l.row.toRowW d [] (fun f vs => PySem.call f vs) :=
  LamX.walk_ofTs (n := 63) (k := 11) (x := "_law_script") (CX := fun _ => CX0) hn (by decide) hdf ⟨rfl, by decide, by decide⟩ hY F fun _ _ _ _ _ z => z
end Hm

set_option Elab.async false
open PySem PySem.W PyProof.Rows
set_option maxRecDepth 100000 in
set_option maxHeartbeats 0 in
theorem PySem.Challenge.cw_hingemount_k08_twins_holds : PySem.Challenge.rw_hingemount_k08_twins.Holds := by
  w_on; o_law; k_head; (case hw => w_witness2)
  k_fill
  refine Hm.walkT (l := PySem.Challenge.rw_hingemount_k08_twins) rfl rfl (fun w h Y => PySem.W.km_in_of Y) ?F
  case F =>
    intro w mg fa h Y KX G hmg
    refine' Hm.all_mk KX G hmg ?aAlb ?aW0 ?lW0 ?cW0 ?kW0 ?aWf ?lWf ?cWf ?kWf ?aWi ?lWi ?cWi ?kWi ?aLt ?lLt ?cLt ?kLt ?aTu ?lTu ?cTu ?kTu ?aRi ?lRi ?cRi ?kRi ?aYe ?lYe ?cYe ?kYe ?aSe ?lSe ?cSe ?kSe ?aLs ?lLs ?cLs ?kLs ?aNu ?lNu ?cNu ?kNu ?aIp ?lIp ?cIp ?kIp ?aSt ?lSt ?cSt ?kSt ?aSs ?lSs ?cSs ?kSs ?aFi ?lFi ?cFi ?kFi ?aFg ?lFg ?cFg ?kFg ?aCe ?lCe ?cCe ?kCe ?aPe ?lPe ?cPe ?kPe ?aDr ?lDr ?cDr ?kDr ?aLi ?lLi ?cLi ?kLi ?aPl ?lPl ?cPl ?kPl ?aNa ?lNa ?cNa ?kNa ?aSm ?lSm ?cSm ?kSm ?aCn ?lCn ?cCn ?kCn ?aAl ?lAl ?cAl ?kAl ?aWo ?lWo ?cWo ?kWo ?aLa ?lLa ?cLa ?kLa ?amI ?imI ?lmI ?cmI ?kmI ?amP ?imP ?lmP ?cmP ?kmP ?amX ?imX ?lmX ?cmX ?kmX ?amS ?imS ?lmS ?cmS ?kmS ?amC ?imC ?lmC ?cmC ?kmC ?amB ?imB ?lmB ?cmB ?kmB ?amN ?imN ?lmN ?cmN ?kmN ?amO ?imO ?lmO ?cmO ?kmO ?amA ?imA ?lmA ?cmA ?kmA ?amT ?imT ?lmT ?cmT ?kmT ?amE ?imE ?lmE ?cmE ?kmE ?lTI ?lTP ?lTK ?qNe ?qCa ?qCn ?qCt ?qCm ?qKi ?pg ?hdi ?po ?sa ?mk ?kc ?nB ?nN ?nM ?hH ?hW ?aS ?xL ?rv ?ssa ?exC ?tyC ?kC0 ?iC ?tI ?lI ?cdI ?lcode ?hvs ?hfile ?lcell ?htop ?opq ?via ?sbV ?noB ?gaS ?ggS ?hdS ?exm ?hPT ?nPT ?cPT ?z0 ?z1 ?z2 ?z3 ?z4 ?z5 ?z6 ?z7 ?z8 ?z9 ?z10 ?z11 ?z12 ?z13 ?z14
    (case aAlb => k_is)
    (case aW0 => k_is)
    (case lW0 => k_is)
    (case cW0 => k_is)
    (case kW0 => k_is)
    (case aWf => k_is)
    (case lWf => k_is)
    (case cWf => k_is)
    (case kWf => k_is)
    (case aWi => k_is)
    (case lWi => k_is)
    (case cWi => k_is)
    (case kWi => k_is)
    (case aLt => k_is)
    (case lLt => k_is)
    (case cLt => k_is)
    (case kLt => k_is)
    (case aTu => k_is)
    (case lTu => k_is)
    (case cTu => k_is)
    (case kTu => k_is)
    (case aRi => k_is)
    (case lRi => k_is)
    (case cRi => k_is)
    (case kRi => k_is)
    (case aYe => k_is)
    (case lYe => k_is)
    (case cYe => k_is)
    (case kYe => k_is)
    (case aSe => k_is)
    (case lSe => k_is)
    (case cSe => k_is)
    (case kSe => k_is)
    (case aLs => k_is)
    (case lLs => k_is)
    (case cLs => k_is)
    (case kLs => k_is)
    (case aNu => k_is)
    (case lNu => k_is)
    (case cNu => k_is)
    (case kNu => k_is)
    (case aIp => k_is)
    (case lIp => k_is)
    (case cIp => k_is)
    (case kIp => k_is)
    (case aSt => k_is)
    (case lSt => k_is)
    (case cSt => k_is)
    (case kSt => k_is)
    (case aSs => k_is)
    (case lSs => k_is)
    (case cSs => k_is)
    (case kSs => k_is)
    (case aFi => k_is)
    (case lFi => k_is)
    (case cFi => k_is)
    (case kFi => k_is)
    (case aFg => k_is)
    (case lFg => k_is)
    (case cFg => k_is)
    (case kFg => k_is)
    (case aCe => k_is)
    (case lCe => k_is)
    (case cCe => k_is)
    (case kCe => k_is)
    (case aPe => k_is)
    (case lPe => k_is)
    (case cPe => k_is)
    (case kPe => k_is)
    (case aDr => k_is)
    (case lDr => k_is)
    (case cDr => k_is)
    (case kDr => k_is)
    (case aLi => k_is)
    (case lLi => k_is)
    (case cLi => k_is)
    (case kLi => k_is)
    (case aPl => k_is)
    (case lPl => k_is)
    (case cPl => k_is)
    (case kPl => k_is)
    (case aNa => k_is)
    (case lNa => k_is)
    (case cNa => k_is)
    (case kNa => k_is)
    (case aSm => k_is)
    (case lSm => k_is)
    (case cSm => k_is)
    (case kSm => k_is)
    (case aCn => k_is)
    (case lCn => k_is)
    (case cCn => k_is)
    (case kCn => k_is)
    (case aAl => k_is)
    (case lAl => k_is)
    (case cAl => k_is)
    (case kAl => k_is)
    (case aWo => k_is)
    (case lWo => k_is)
    (case cWo => k_is)
    (case kWo => k_is)
    (case aLa => k_is)
    (case lLa => k_is)
    (case cLa => k_is)
    (case kLa => k_is)
    (case amI => k_is)
    (case imI => k_is)
    (case lmI => k_is)
    (case cmI => k_is)
    (case kmI => k_is)
    (case amP => k_is)
    (case imP => k_is)
    (case lmP => k_is)
    (case cmP => k_is)
    (case kmP => k_is)
    (case amX => k_is)
    (case imX => k_is)
    (case lmX => k_is)
    (case cmX => k_is)
    (case kmX => k_is)
    (case amS => k_is)
    (case imS => k_is)
    (case lmS => k_is)
    (case cmS => k_is)
    (case kmS => k_is)
    (case amC => k_is)
    (case imC => k_is)
    (case lmC => k_is)
    (case cmC => k_is)
    (case kmC => k_is)
    (case amB => k_is)
    (case imB => k_is)
    (case lmB => k_is)
    (case cmB => k_is)
    (case kmB => k_is)
    (case amN => k_is)
    (case imN => k_is)
    (case lmN => k_is)
    (case cmN => k_is)
    (case kmN => k_is)
    (case amO => k_is)
    (case imO => k_is)
    (case lmO => k_is)
    (case cmO => k_is)
    (case kmO => k_is)
    (case amA => k_is)
    (case imA => k_is)
    (case lmA => k_is)
    (case cmA => k_is)
    (case kmA => k_is)
    (case amT => k_is)
    (case imT => k_is)
    (case lmT => k_is)
    (case cmT => k_is)
    (case kmT => k_is)
    (case amE => k_is)
    (case imE => k_is)
    (case lmE => k_is)
    (case cmE => k_is)
    (case kmE => k_is)
    (case lTI => k_is)
    (case lTP => k_is)
    (case lTK => k_is)
    (case qNe => first | k_is | kernel_rfl)
    (case qCa => first | k_is | kernel_rfl)
    (case qCn => first | k_is | kernel_rfl)
    (case qCt => first | k_is | kernel_rfl)
    (case qCm => first | k_is | kernel_rfl)
    (case qKi => first | k_is | kernel_rfl)
    (case pg => k_is)
    (case hdi => k_is)
    (case po => k_is)
    (case sa => k_is)
    (case mk => k_is)
    (case kc => k_is)
    (case nB => k_is)
    (case nN => k_is)
    (case nM => k_is)
    (case hH => k_is)
    (case hW => k_is)
    (case aS => k_is)
    (case xL => k_is)
    (case rv => kernel_rfl)
    (case ssa => k_is)
    (case exC => k_is)
    (case tyC => k_is)
    (case kC0 => k_is)
    (case iC => k_is)
    (case tI => k_is)
    (case lI => k_is)
    (case cdI => k_is)
    (case lcode => k_is)
    (case hvs => rfl)
    (case hfile => kernel_rfl)
    (case lcell => k_is)
    (case htop => kernel_rfl)
    (case opq => k_is)
    (case via => ks_is)
    (case sbV => k_is)
    (case noB => k_is)
    (case gaS => k_is)
    (case ggS => k_is)
    (case hdS => k_is)
    (case exm => kernel_rfl)
    (case hPT => exact PySem.W.km_tabs_of Y _ (List.mem_singleton.mpr rfl))
    (case nPT => kernel_rfl)
    (case cPT => kernel_rfl)
    (case z0 => k_is)
    (case z1 => k_is)
    (case z2 => k_is)
    (case z3 => k_is)
    (case z4 => k_is)
    (case z5 => k_is)
    (case z6 => k_is)
    (case z7 => k_is)
    (case z8 => k_is)
    (case z9 => k_is)
    (case z10 => k_is)
    (case z11 => k_is)
    (case z12 => k_is)
    (case z13 => k_is)
    (case z14 => k_is)

